import PyProof.Rows.All
import Wide.All
import OpenK.AllK
import Wide.FinOn
import Lean
import PyProof.EqAt
import PyProof.EqKinds
import PyProof.TupleCall
import PyProof.SetScanFacts
import PyProof.SetKind
import PyProof.CollectWalk
import PyProof.Walks
import PyProof.WalksS
import PyProof.FactsAll.set_1
import PyProof.WalksMore
import PyProof.SeqWrite
import PyProof.CollectIter
import PyProof.FactsAll.set_2
import PyProof.Rows.SortWalk
import PyProof.Rows.SetFrom
import KE.KRevIter
import PyProof.WalksEnum
import PyProof.EnumMake
import PyProof.Rows.SumAny
import PyProof.Rows.MinMaxN
import KE.KIntText
import PyProof.StrBlock2
import OpenK.KOwn
import KE.KIsAll
import PyProof.ExcArgsOwn
import KE.KEqSeq
import PyProof.Rows.CountFlat
import KE.IntBitsLaws
import PyProof.FitsBits
import KE.KDictList
import KE.KEqDeep
import PyProof.AutoListH
import KE.KLam
import KE.KSortKey
import PyProof.Rows.SeqMore2
import KE.KMinKey
import KE.RegKIsAll
import PySem.Challenge.RW_seatdeal_k06_ties_by_lot
section
set_option Elab.async false
set_option linter.all false
set_option maxRecDepth 100000
namespace L2
open PySem PySem.Spec PyProof.Rows

/-- a key: an int or a str -/
abbrev Key := Sum Int Str
def keyIs : Key → Value → Bool
  | .inl k, v => Value.isInt k v
  | .inr x, v => Value.isStrOf x v
def keyH (w : World) : Key → Int
  | .inl k => hashInt k
  | .inr x => hashStr w x
theorem keyIs_shape : ∀ {k : Key} {v : Value}, keyIs k v = true → (∃ i t, k = Sum.inl i ∧ v = Value.int i t) ∨ (∃ x t, k = Sum.inr x ∧ v = Value.str x t)
  | .inl i, v, h => by
    obtain ⟨t, e⟩ := Value.isInt_shape (k := i) (v := v) h
    exact .inl ⟨i, t, rfl, e⟩
  | .inr x, v, h => by
    obtain ⟨t, e⟩ := Value.isStrOf_shape (x := x) (v := v) h
    exact .inr ⟨x, t, rfl, e⟩
theorem keyIs_int (i : Int) (t : Tok) : keyIs (.inl i) (.int i t) = true := by simp [keyIs, Value.isInt]
theorem keyIs_str (x : Str) (t : Tok) : keyIs (.inr x) (.str x t) = true := by simp [keyIs, Value.isStrOf]
theorem key_ll (a b : Int) : decide ((Sum.inl a : Key) = Sum.inl b) = (a == b) := by
  by_cases e : a = b
  · subst e; simp
  · have h : ¬ (Sum.inl a : Key) = Sum.inl b := fun q => e (Sum.inl.inj q)
    rw [decide_eq_false h]
    exact (beq_eq_false_iff_ne.mpr e).symm
theorem key_rr (a b : Str) : decide ((Sum.inr a : Key) = Sum.inr b) = decide (a = b) := by
  by_cases e : a = b
  · subst e; simp
  · have h : ¬ (Sum.inr a : Key) = Sum.inr b := fun q => e (Sum.inr.inj q)
    rw [decide_eq_false h, decide_eq_false e]
theorem key_lr (a : Int) (b : Str) : decide ((Sum.inl a : Key) = Sum.inr b) = false := decide_eq_false (fun q => nomatch q)
theorem key_rl (a : Str) (b : Int) : decide ((Sum.inr a : Key) = Sum.inl b) = false := decide_eq_false (fun q => nomatch q)

def mixKind (prog : Program) (w : World) : PySem.KeyKind prog w Key where
  is := keyIs
  hash := keyH w
  inj := fun v a b ha hb => by
    rcases keyIs_shape ha with ⟨i, t, rfl, rfl⟩ | ⟨x, t, rfl, rfl⟩
    · rcases keyIs_shape hb with ⟨j, u, rfl, e⟩ | ⟨y, u, rfl, e⟩
      · injection e with e1 _; rw [e1]
      · exact nomatch e
    · rcases keyIs_shape hb with ⟨j, u, rfl, e⟩ | ⟨y, u, rfl, e⟩
      · exact nomatch e
      · injection e with e1 _; rw [e1]
  byValue := fun k v h => by
    rcases keyIs_shape h with ⟨i, t, rfl, rfl⟩ | ⟨x, t, rfl, rfl⟩ <;> rfl
  pyHash := fun hv h => by
    rcases keyIs_shape hv with ⟨i, t, rfl, rfl⟩ | ⟨x, t, rfl, rfl⟩
    · exact wpAny_pyHash_int h
    · exact wpAny_pyHash_str h
  eqBool := fun hu hv h => by
    rcases keyIs_shape hu with ⟨i, t, rfl, rfl⟩ | ⟨x, t, rfl, rfl⟩
    · rcases keyIs_shape hv with ⟨j, u, rfl, rfl⟩ | ⟨y, u, rfl, rfl⟩
      · rw [key_ll] at h; exact wpAny_eqBool_int h
      · rw [key_lr] at h; exact SeqAt.EqAt.int_str i t y u _ _ _ _ h
    · rcases keyIs_shape hv with ⟨j, u, rfl, rfl⟩ | ⟨y, u, rfl, rfl⟩
      · rw [key_rl] at h; exact SeqAt.EqAt.str_int x t j u _ _ _ _ h
      · rw [key_rr] at h; exact wpAny_eqBool_str h
  «strs» := fun k x t v h => by
    rcases keyIs_shape h with ⟨i, u, rfl, e⟩ | ⟨y, u, rfl, e⟩
    · exact nomatch e
    · injection e with e1 _
      subst e1
      cases v <;> rfl

theorem mixKind_is (prog : Program) (w : World) (k : Key) (v : Value) : (mixKind prog w).is k v = keyIs k v := rfl
theorem mixKind_int (prog : Program) (w : World) (i : Int) (t : Tok) : (mixKind prog w).is (.inl i) (.int i t) = true := keyIs_int i t
theorem mixKind_str (prog : Program) (w : World) (x : Str) (t : Tok) : (mixKind prog w).is (.inr x) (.str x t) = true := keyIs_str x t
end L2

namespace L2
open PySem PySem.Spec PyProof.Rows

/-- a value, without the heap -/
inductive V where
  | non | bl (b : Bool) | int (i : Int) | str (x : Str) | byt (b : Array UInt8) | flt (b : UInt64) | ref (a : Addr) | ty (n : String)
  deriving DecidableEq

def RelV : V → Value → Prop
  | .non, u => u = Value.none
  | .bl b, u => u = Value.bool b
  | .int i, u => ∃ t, u = Value.int i t
  | .str x, u => ∃ t, u = Value.str x t
  | .byt b, u => ∃ t, u = Value.bytes b t
  | .flt b, u => ∃ t, u = Value.float b t
  | .ref a, u => u = Value.ref a
  | .ty n, u => u = Value.type n

abbrev Vals : List V → List Value → Prop := Paired RelV
theorem Vals.length {xs : List V} {us : List Value} (r : Vals xs us) : xs.length = us.length := Paired.length r
theorem Vals.get : ∀ {xs : List V} {us : List Value} {i : Nat} {x : V}, Vals xs us → xs[i]? = some x → ∃ u, us[i]? = some u ∧ RelV x u
  | _, _, _, _, .nil, e => by simp at e
  | _, _, 0, _, .cons r _, e => by simp at e; subst e; exact ⟨_, rfl, r⟩
  | _, _, i + 1, x, .cons _ t, e => by
    obtain ⟨u, h1, h2⟩ := Vals.get (i := i) (x := x) t (by simpa using e)
    exact ⟨u, by simpa using h1, h2⟩
theorem Vals.set {x : V} {u : Value} (r : RelV x u) : ∀ {xs : List V} {us : List Value} (i : Nat), Vals xs us → Vals (xs.set i x) (us.set i u)
  | _, _, _, .nil => .nil
  | _, _, 0, .cons _ t => .cons r t
  | _, _, i + 1, .cons q t => .cons q (Vals.set r i t)
theorem Vals.append : ∀ {xs ys : List V} {us ws : List Value}, Vals xs us → Vals ys ws → Vals (xs ++ ys) (us ++ ws)
  | _, _, _, _, .nil, s => s
  | _, _, _, _, .cons r t, s => .cons r (Vals.append t s)
theorem Vals.take : ∀ {xs : List V} {us : List Value} (n : Nat), Vals xs us → Vals (xs.take n) (us.take n)
  | _, _, 0, _ => .nil
  | _, _, _ + 1, .nil => .nil
  | _, _, n + 1, .cons r t => .cons r (Vals.take n t)
theorem Vals.drop : ∀ {xs : List V} {us : List Value} (n : Nat), Vals xs us → Vals (xs.drop n) (us.drop n)
  | _, _, 0, r => r
  | _, _, _ + 1, .nil => .nil
  | _, _, n + 1, .cons _ t => Vals.drop n t
theorem Vals.none_of : ∀ {xs : List V} {us : List Value} {i : Nat}, Vals xs us → xs[i]? = none → us[i]? = none := fun {xs us i} r e => by
  have h1 := r.length
  have h2 : xs.length ≤ i := List.getElem?_eq_none_iff.mp e
  exact List.getElem?_eq_none_iff.mpr (by omega)

def RelO : Option V → Option Value → Prop
  | some v, some u => RelV v u
  | none, none => True
  | _, _ => False
def KV {κ : Type} : List (κ × V) → List (κ × Value) → Prop := Paired fun (p : κ × V) (q : κ × Value) => p.1 = q.1 ∧ RelV p.2 q.2

/-- a key of a dict (00_mix): an int or a text -/
def kV : Key → V
  | .inl i => .int i
  | .inr x => .str x

/-- what stands at a tracked address -/
inductive HO where
  /-- a list -/
  | lst (xs : List V)
  /-- a tuple (never changes) -/
  | tup (xs : List V)
  /-- a dict whose keys are ints and texts; one whose keys are tuples of ints and texts (the empty one is both) -/
  | dK (kvs : List (Key × V)) | dT (kvs : List (List Key × V))
  /-- a set of ints: its members, its size -/
  | set (S : Int → Bool) (n : Nat)
  /-- an instance of the class at C, its dict at dx, its attributes -/
  | ins (C dx : Addr) (fs : List (Str × V))
  /-- the dict of the instance at x -/
  | own (x : Addr)
  /-- the dict of an exception -/
  | xd (fs : List (Str × V))
  /-- a bound method, f of x -/
  | met (f x : Addr)
  /-- a range object lo, lo + 1, .. below hi -/
  | rng (lo hi : Int)
  /-- a thing that is known to the object (the script; a dict while a loop walks it): read, never written while it is so -/
  | frz (o : Obj) (u : HO)
  /-- a code object's table -/
  | tbl (ps : Array Value)
  /-- any other thing, by what is true of its one object (a def of one's own: SetO a S n := HO.ext fun h => ..) -/
  | ext (φ : Heap → Prop)

abbrev Hp := Addr → Option HO
def upd (H : Hp) (a : Addr) (o : HO) : Hp := fun b => if b = a then some o else H b
theorem upd_same {H : Hp} {a : Addr} {o : HO} : upd H a o a = some o := by unfold upd; rw [if_pos rfl]
theorem upd_ne {H : Hp} {a b : Addr} {o : HO} (h : b ≠ a) : upd H a o b = H b := by unfold upd; rw [if_neg h]
theorem upd_upd {H : Hp} {a : Addr} {o u : HO} : upd (upd H a o) a u = upd H a u := by
  funext b; unfold upd; split <;> rfl
/-- two objects of different content stand apart -/
theorem ne_of {H : Hp} {a b : Addr} {o u : HO} (h : H a = some o) (h' : H b = some u) (d : o ≠ u) : a ≠ b := by
  intro e; subst e; rw [h] at h'; exact d (Option.some.inj h')
theorem ne_of_none {H : Hp} {a b : Addr} {o : HO} (h : H a = some o) (h' : H b = none) : a ≠ b := by
  intro e; subst e; rw [h] at h'; cases h'

section
variable (P : Program) (w : World)
def ObjOk (H : Hp) (h : Heap) (a : Addr) : HO → Prop
  | .lst xs => xs.length ≤ sizeLine ∧ ∃ (its : List Value) (n : Nat), Vals xs its ∧ h.get? a = some { cls := .type "list", data := .seq its.toArray n }
  | .tup xs => xs.length ≤ sizeLine ∧ ∃ its : List Value, Vals xs its ∧ IsTup h a its.toArray
  | .dK kvs => kvs.length ≤ sizeLine ∧ (a == sysModules) = false ∧ ∃ vs, KV kvs vs ∧ h.DictOf (mixKind P w) a vs
  | .dT kvs => kvs.length ≤ sizeLine ∧ (a == sysModules) = false ∧ ∃ xs : List (List Key × Addr × Value),
      Paired (fun (p : List Key × V) (q : List Key × Addr × Value) => p.1 = q.1 ∧ H q.2.1 = some (.tup (p.1.map kV)) ∧ RelV p.2 q.2.2) kvs xs ∧
      ∃ o es ep, h.get? a = some o ∧ o.ExactDict ∧ o.data = .dict es ep ∧ es.toList = xs.map (entryOfKey (tupleKind (mixKind P w))) ∧ (xs.map (·.1)).Nodup
  | .set S n => h.SetOf (intKind P w) a S n
  | .ins C dx fs => H dx = some (.own a) ∧ fs.length ≤ 1000 ∧ dx ≠ a ∧ h.get? a = some (PySem.W.instObj C dx) ∧
      ∃ mA, h.Ns1 dx mA ∧ (∀ f, RelO (fs.lookup f) (mA f)) ∧ PySem.Within mA (fs.map (·.1))
  | .own _ => ∃ o, h.get? a = some o
  | .xd fs => ∃ mA, h.Ns1 a mA ∧ ∀ f, RelO (fs.lookup f) (mA f)
  | .rng lo hi => ∃ t u v, h.get? a = some { cls := .type "range", data := .fields #[.int lo t, .int hi u, .int 1 v] }
  | .frz o u => h.get? a = some o ∧ ObjOk H h a u
  | .tbl ps => h.get? a = some { cls := .none, data := .fields ps }
  | .met f x => h.get? a = some (PySem.W.methodObj (.ref f) (.ref x))
  | .ext φ => φ h ∧ (∃ o, h.get? a = some o) ∧ ∀ h1 h2 : Heap, φ h1 → (∀ o, h1.get? a = some o → h2.get? a = some o) → φ h2
/-- the abstract heap is held -/
def HOk (H : Hp) (h : Heap) : Prop := ∀ a o, H a = some o → ObjOk P w H h a o
end

section
variable {P : Program} {w : World} {H H' : Hp} {h h' : Heap} {a : Addr} {o : HO}
theorem ObjOk.lt (x : ObjOk P w H h a o) : a < h.objs.size := by
  cases o with
  | lst xs => obtain ⟨_, _, _, _, e⟩ := x; exact Heap.lt_size e
  | tup xs => obtain ⟨_, _, _, p⟩ := x; exact p.lt
  | dK kvs => obtain ⟨_, _, _, _, o, _, _, e, _⟩ := x; exact Heap.lt_size e
  | dT kvs => obtain ⟨_, _, _, _, o, _, _, e, _⟩ := x; exact Heap.lt_size e
  | set S n => obtain ⟨o, _, _, _, e, _⟩ := x; exact Heap.lt_size e
  | ins C dx fs => obtain ⟨_, _, _, e, _⟩ := x; exact Heap.lt_size e
  | own y => obtain ⟨_, e⟩ := x; exact Heap.lt_size e
  | xd fs => obtain ⟨_, ⟨_, _, _, e, _⟩, _⟩ := x; exact Heap.lt_size e
  | rng lo hi => obtain ⟨_, _, _, e⟩ := x; exact Heap.lt_size e
  | frz ob u => obtain ⟨e, _⟩ := x; exact Heap.lt_size e
  | tbl ps => exact Heap.lt_size (show h.get? a = some _ from x)
  | met f y => exact Heap.lt_size (show h.get? a = some _ from x)
  | ext φ => obtain ⟨_, ⟨_, e⟩, _⟩ := x; exact Heap.lt_size e
theorem Paired.mapP {α β : Type} {F G : α → β → Prop} : ∀ {l₁ : List α} {l₂ : List β}, Paired F l₁ l₂ → (∀ a b, F a b → G a b) → Paired G l₁ l₂
  | _, _, .nil, _ => .nil
  | _, _, .cons r t, f => .cons (f _ _ r) (Paired.mapP t f)
theorem Paired.imp' {α β : Type} {F G : α → β → Prop} (f : ∀ a b, F a b → G a b) {l₁ : List α} {l₂ : List β} (r : Paired F l₁ l₂) : Paired G l₁ l₂ := Paired.mapP r f
/-- what an object's description leans on: its own object, its own dict, the tuples -/
theorem ObjOk.stay (x : ObjOk P w H h a o) (k : ∀ b u, (b = a ∨ H b = some (.own a)) → h.get? b = some u → h'.get? b = some u)
    (ho : ∀ b, H b = some (.own a) → H' b = some (.own a)) (ht : ∀ b xs, H b = some (.tup xs) → H' b = some (.tup xs)) : ObjOk P w H' h' a o := by
  induction o with
  | lst xs => obtain ⟨z, its, n, r, e⟩ := x; exact ⟨z, its, n, r, k _ _ (.inl rfl) e⟩
  | tup xs => obtain ⟨z, its, r, ob, e, c⟩ := x; exact ⟨z, its, r, ob, k _ _ (.inl rfl) e, c⟩
  | dK kvs => obtain ⟨z, y, vs, r, ob, es, ep, e, c⟩ := x; exact ⟨z, y, vs, r, ob, es, ep, k _ _ (.inl rfl) e, c⟩
  | dT kvs =>
    obtain ⟨z, y, xs, r, ob, es, ep, e, c⟩ := x
    exact ⟨z, y, xs, Paired.mapP r fun p q z => ⟨z.1, ht _ _ z.2.1, z.2.2⟩, ob, es, ep, k _ _ (.inl rfl) e, c⟩
  | set S n => obtain ⟨ob, es, ep, t, e, c⟩ := x; exact ⟨ob, es, ep, t, k _ _ (.inl rfl) e, c⟩
  | ins C dx fs =>
    obtain ⟨d, z, ne, e, mA, ⟨od, es, ep, e2, c⟩, r⟩ := x
    exact ⟨ho _ d, z, ne, k _ _ (.inl rfl) e, mA, ⟨od, es, ep, k _ _ (.inr d) e2, c⟩, r⟩
  | own y => obtain ⟨ob, e⟩ := x; exact ⟨ob, k _ _ (.inl rfl) e⟩
  | xd fs => obtain ⟨mA, ⟨od, es, ep, e, c⟩, r⟩ := x; exact ⟨mA, ⟨od, es, ep, k _ _ (.inl rfl) e, c⟩, r⟩
  | rng lo hi => obtain ⟨t, u, v, e⟩ := x; exact ⟨t, u, v, k _ _ (.inl rfl) e⟩
  | frz ob u ih => obtain ⟨e, q⟩ := x; exact ⟨k _ _ (.inl rfl) e, ih q⟩
  | tbl ps =>
    have e : h.get? a = some { cls := .none, data := .fields ps } := x
    show h'.get? a = some { cls := .none, data := .fields ps }
    exact k a _ (.inl rfl) e
  | met f y =>
    have e : h.get? a = some (PySem.W.methodObj (.ref f) (.ref y)) := x
    show h'.get? a = some (PySem.W.methodObj (.ref f) (.ref y))
    exact k a _ (.inl rfl) e
  | ext φ => obtain ⟨p, ⟨o, e⟩, st⟩ := x; exact ⟨st _ _ p fun o q => k _ _ (.inl rfl) q, ⟨o, k _ _ (.inl rfl) e⟩, st⟩
theorem HOk.lt (x : HOk P w H h) (e : H a = some o) : a < h.objs.size := (x a o e).lt
theorem HOk.fresh (x : HOk P w H h) (e : h.objs.size ≤ a) : H a = none := by
  cases q : H a with
  | none => rfl
  | some u => exact absurd (Nat.lt_of_lt_of_le (x.lt q) e) (Nat.lt_irrefl _)
/-- every object of the heap is kept -/
theorem HOk.kept (x : HOk P w H h) (k : ∀ b u, h.get? b = some u → h'.get? b = some u) : HOk P w H h' := fun a o e =>
  (x a o e).stay (fun b u _ q => k b u q) (fun _ q => q) fun _ _ q => q
/-- a new object is laid and tracked -/
theorem HOk.laid (x : HOk P w H h) (k : ∀ b u, h.get? b = some u → h'.get? b = some u) (hp : h.objs.size ≤ a) (new : ObjOk P w (upd H a o) h' a o) : HOk P w (upd H a o) h' := fun b u e => by
  have hn := x.fresh hp
  by_cases hb : b = a
  · subst hb; rw [upd_same] at e; cases e; exact new
  · rw [upd_ne hb] at e
    exact (x b u e).stay (fun c v _ q => k c v q) (fun c q => by rw [upd_ne (ne_of_none q hn)]; exact q) fun c xs q => by rw [upd_ne (ne_of_none q hn)]; exact q
end

/-- what may be read as u: it is u, or a known u -/
def Rd (H : Hp) (a : Addr) (u : HO) : Prop := H a = some u ∨ ∃ o, H a = some (.frz o u)
theorem Rd.of {H : Hp} {a : Addr} {u : HO} (h : H a = some u) : Rd H a u := .inl h
theorem Rd.ok {P : Program} {w : World} {H : Hp} {h : Heap} {a : Addr} {u : HO} (r : Rd H a u) (x : HOk P w H h) : ObjOk P w H h a u := by
  rcases r with r | ⟨o, r⟩
  · exact x a u r
  · obtain ⟨_, q⟩ := x a _ r
    exact q
/-- what may be written -/
def Mut : Option HO → Prop
  | some (.lst _) => True
  | some (.dK _) => True
  | some (.dT _) => True
  | some (.set _ _) => True
  | some (.ins _ _ _) => True
  | some (.ext _) => True
  | _ => False
section
variable {P : Program} {w : World} {H : Hp} {h h' : Heap} {x e : Addr} {o' : HO}
/-- the object at e is changed: x itself, or the dict of the instance x -/
theorem HOk.write (ok : HOk P w H h) (mu : Mut (H x)) (he : e = x ∨ H e = some (.own x)) (k : ∀ b u, b ≠ e → h.get? b = some u → h'.get? b = some u) (heo : ∃ u, h'.get? e = some u)
    (new : ObjOk P w (upd H x o') h' x o') : HOk P w (upd H x o') h' := fun b u q => by
  have nown : ∀ c y, H c = some (.own y) → c ≠ x := fun c y r z => by subst z; rw [r] at mu; exact mu
  have ntup : ∀ c xs, H c = some (.tup xs) → c ≠ x := fun c xs r z => by subst z; rw [r] at mu; exact mu
  by_cases hb : b = x
  · subst hb; rw [upd_same] at q; cases q; exact new
  · rw [upd_ne hb] at q
    by_cases hbe : b = e
    · have q' : H b = some (.own x) := by
        rcases he with z | z
        · exact absurd (hbe.trans z) hb
        · rw [hbe]; exact z
      rw [q] at q'; cases q'
      obtain ⟨v, hv⟩ := heo
      exact ⟨v, by rw [hbe]; exact hv⟩
    · refine (ok b u q).stay (fun c v hc r => k c v ?_ r) (fun c r => by rw [upd_ne (nown c b r)]; exact r) fun c xs r => by rw [upd_ne (ntup c xs r)]; exact r
      rcases hc with rfl | hc
      · exact hbe
      · rintro rfl
        rcases he with z | z
        · exact nown c b hc z
        · rw [hc] at z; cases z; exact hb rfl
end

/-! ### kept unless tracked; of the frames at fs (the callers') the slots may change (an exception that passes writes there); of the records at ex (iterators) nothing is said -/
structure Un (fs ex : List Addr) (H H' : Hp) (h h' : Heap) : Prop where
  keep : ∀ b o, h.get? b = some o → H b = none → b ∉ fs → b ∉ ex → h'.get? b = some o
  slot : ∀ b o, h.get? b = some o → H b = none → b ∈ fs → b ∉ ex → ∃ sl, h'.get? b = some { o with slots := sl }
  free : ∀ b o, h.get? b = some o → H b = none → b ∉ ex → H' b = none
  there : ∀ b o, h.get? b = some o → b ∉ ex → ∃ o', h'.get? b = some o'
  tups : ∀ b xs, H b = some (.tup xs) → H' b = some (.tup xs)
  frzs : ∀ b o u, H b = some (.frz o u) → H' b = some (.frz o u)
  tbls : ∀ b ps, H b = some (.tbl ps) → ∃ more, H' b = some (.tbl (ps ++ more))
section
variable {fs fs' ex ex' : List Addr} {H H1 H2 : Hp} {h h1 h2 h' : Heap} {a x e : Addr} {o : HO}
theorem Un.any (u : Un fs ex H H1 h h1) {b : Addr} {ob : Obj} (q : h.get? b = some ob) (n : H b = none) (hx : b ∉ ex) : ∃ sl, h1.get? b = some { ob with slots := sl } := by
  by_cases hb : b ∈ fs
  · exact u.slot b ob q n hb hx
  · exact ⟨ob.slots, u.keep b ob q n hb hx⟩
theorem Un.trans (a : Un fs ex H H1 h h1) (b : Un fs ex H1 H2 h1 h2) : Un fs ex H H2 h h2 where
  keep := fun c ob q n hc hx => b.keep c ob (a.keep c ob q n hc hx) (a.free c ob q n hx) hc hx
  slot := fun c ob q n hc hx => by
    obtain ⟨sl, e1⟩ := a.slot c ob q n hc hx
    obtain ⟨sl', e2⟩ := b.slot c _ e1 (a.free c ob q n hx) hc hx
    exact ⟨sl', e2⟩
  free := fun c ob q n hx => by
    obtain ⟨o', e1⟩ := a.there c ob q hx
    exact b.free c o' e1 (a.free c ob q n hx) hx
  there := fun c ob q hx => by
    obtain ⟨o', e1⟩ := a.there c ob q hx
    exact b.there c o' e1 hx
  tups := fun c xs q => b.tups c xs (a.tups c xs q)
  frzs := fun c ob xs q => b.frzs c ob xs (a.frzs c ob xs q)
  tbls := fun c ps q => by
    obtain ⟨m1, e1⟩ := a.tbls c ps q
    obtain ⟨m2, e2⟩ := b.tbls c _ e1
    exact ⟨m1 ++ m2, by rw [e2, Array.append_assoc]⟩
theorem Un.kept (k : ∀ b u, h.get? b = some u → h'.get? b = some u) : Un fs ex H H h h' :=
  ⟨fun b ob q _ _ _ => k b ob q, fun b ob q _ _ _ => ⟨ob.slots, k b ob q⟩, fun _ _ _ n _ => n, fun b ob q _ => ⟨ob, k b ob q⟩, fun _ _ q => q, fun _ _ _ q => q, fun _ ps q => ⟨#[], by rw [q]; simp⟩⟩
theorem Un.refl : Un fs ex H H h h := Un.kept fun _ _ q => q
theorem Un.laid (k : ∀ b u, h.get? b = some u → h'.get? b = some u) (hp : h.objs.size ≤ a) (hn : H a = none) : Un fs ex H (upd H a o) h h' where
  keep := fun b u q _ _ _ => k b u q
  slot := fun b u q _ _ _ => ⟨u.slots, k b u q⟩
  free := fun b u q n _ => by rw [upd_ne (Nat.ne_of_lt (Nat.lt_of_lt_of_le (Heap.lt_size q) hp))]; exact n
  there := fun b u q _ => ⟨u, k b u q⟩
  tups := fun b xs q => by rw [upd_ne (ne_of_none q hn)]; exact q
  frzs := fun b u xs q => by rw [upd_ne (ne_of_none q hn)]; exact q
  tbls := fun b ps q => ⟨#[], by rw [upd_ne (ne_of_none q hn), q]; simp⟩
theorem Un.write (mu : Mut (H x)) (he : e = x ∨ H e = some (.own x)) (k : ∀ b u, b ≠ e → h.get? b = some u → h'.get? b = some u) (heo : ∃ u, h'.get? e = some u) : Un fs ex H (upd H x o) h h' := by
  have hx : ∀ b, H b = none → b ≠ x := fun b n z => by subst z; rw [n] at mu; exact mu
  have hb : ∀ b, H b = none → b ≠ e := fun b n z => by
    subst z
    rcases he with r | r
    · exact hx b n r
    · rw [n] at r; cases r
  have hm : ∀ b u, H b = some u → ¬ Mut (some u) → b ≠ x := fun b u q nm z => by subst z; rw [q] at mu; exact nm mu
  refine ⟨fun b u q n _ _ => k b u (hb b n) q, fun b u q n _ _ => ⟨u.slots, k b u (hb b n) q⟩, fun b u q n _ => by rw [upd_ne (hx b n)]; exact n, fun b u q _ => ?_,
    fun b xs q => by rw [upd_ne (hm b _ q fun z => z)]; exact q, fun b u xs q => by rw [upd_ne (hm b _ q fun z => z)]; exact q, fun b ps q => ⟨#[], by rw [upd_ne (hm b _ q fun z => z), q]; simp⟩⟩
  by_cases hbe : b = e
  · subst hbe; exact heo
  · exact ⟨u, k b u hbe q⟩
theorem Un.mono (u : Un fs ex H H1 h h1) (hs : ∀ b ∈ fs, b ∈ fs') (hx : ∀ b ∈ ex, b ∈ ex') : Un fs' ex' H H1 h h1 :=
  ⟨fun b ob q n hb he => u.keep b ob q n (fun z => hb (hs b z)) fun z => he (hx b z), fun _ _ q n _ he => u.any q n fun z => he (hx _ z), fun b ob q n he => u.free b ob q n fun z => he (hx b z), fun b ob q he => u.there b ob q fun z => he (hx b z), u.tups, u.frzs, u.tbls⟩
end

/-! ### the heap without what is tracked -/
def trk (h : Heap) (H : Hp) : List Addr := (List.range h.objs.size).filter fun a => (H a).isSome
def hidT (h : Heap) (H : Hp) : Heap := PySem.W.hideAll h (trk h H)
theorem hidT_size (h : Heap) (H : Hp) : (hidT h H).objs.size = h.objs.size := PySem.W.hideAll_size _ _
theorem hidT_get {h : Heap} {H : Hp} {b : Addr} {o : Obj} (e : h.get? b = some o) (n : H b = none) : (hidT h H).get? b = some o :=
  PySem.W.hideAll_get _ e fun hm => by
    have q : (H b).isSome = true := (List.mem_filter.mp hm).2
    rw [n] at q; simp at q
theorem of_hidT {h : Heap} {H : Hp} {b : Addr} {o : Obj} (e : (hidT h H).get? b = some o) : h.get? b = some o ∧ H b = none := by
  have e' : h.get? b = some o := PySem.W.of_hideAll (trk h H) e
  refine ⟨e', ?_⟩
  cases q : H b with
  | none => rfl
  | some x =>
    have hm : b ∈ trk h H := List.mem_filter.mpr ⟨List.mem_range.mpr (Heap.lt_size e'), by simp [q]⟩
    have z : (hidT h H).get? b = none := PySem.W.hideAll_none (trk h H) hm
    rw [z] at e; cases e

/-! ### OpenK's ledger, filled with every new object but one -/
def allNews (g h : Heap) (L : Addr) : List (Addr × Obj) := (List.range h.objs.size).filterMap fun a => if a = L ∨ (g.get? a).isSome = true then none else (h.get? a).map fun o => (a, o)
theorem mem_allNews {g h : Heap} {L a : Addr} {o : Obj} (h1 : a ≠ L) (h2 : g.get? a = none) (h3 : h.get? a = some o) : (a, o) ∈ allNews g h L :=
  List.mem_filterMap.mpr ⟨a, List.mem_range.mpr (Heap.lt_size h3), by simp [h1, h2, h3]⟩
theorem of_mem_allNews {g h : Heap} {L : Addr} {p : Addr × Obj} (hp : p ∈ allNews g h L) : p.1 ≠ L ∧ g.get? p.1 = none ∧ h.get? p.1 = some p.2 := by
  obtain ⟨b, _, e⟩ := List.mem_filterMap.mp hp
  split at e
  · cases e
  · rename_i hn
    cases q : h.get? b with
    | none => rw [q] at e; simp at e
    | some u =>
      rw [q] at e
      simp only [Option.map_some, Option.some.injEq] at e
      subst e
      refine ⟨fun z => hn (.inl z), ?_, q⟩
      show g.get? b = none
      cases r : g.get? b with
      | none => rfl
      | some v => exact (hn (.inr (by simp [r]))).elim
def rest (g h : Heap) (L d : Addr) : List (Addr × Obj) := (allNews g h L).filter fun p => decide (p.1 ≠ d)
theorem rest_ne {g h : Heap} {L d : Addr} : ∀ p ∈ rest g h L d, p.1 ≠ d := fun p hp => of_decide_eq_true (List.mem_filter.mp hp).2
theorem mem_rest {g h : Heap} {L d a : Addr} {o : Obj} (h1 : a ≠ L) (h2 : g.get? a = none) (h3 : h.get? a = some o) (h4 : a ≠ d) : (a, o) ∈ rest g h L d :=
  List.mem_filter.mpr ⟨mem_allNews h1 h2 h3, decide_eq_true h4⟩
theorem news_all {g h : Heap} {L : Addr} : News g L h (allNews g h L) := fun p hp => let ⟨a, b, c⟩ := of_mem_allNews hp; ⟨c, a, b⟩
theorem news_at {g h : Heap} {L d : Addr} {o : Obj} (h1 : d ≠ L) (h2 : g.get? d = none) (h3 : h.get? d = some o) : News g L h ((d, o) :: rest g h L d) := fun p hp => by
  rcases List.mem_cons.mp hp with rfl | hp
  · exact ⟨h3, h1, h2⟩
  · exact news_all p (List.mem_filter.mp hp).1
/-- behind a rule that changed d alone: all else but the frame is kept -/
theorem kept_of_news {g h h' : Heap} {L d : Addr} {m : Str → Option Value} (k : ∀ b o, g.get? b = some o → h.get? b = some o) (F : Fr g L h' m) (N : News g L h' (rest g h L d)) :
    ∀ b o, b ≠ L → b ≠ d → h.get? b = some o → h'.get? b = some o := fun b o h1 h2 e => by
  cases q : g.get? b with
  | some u =>
    have := k b u q
    rw [e] at this; cases this
    exact F.keep b _ q
  | none => exact (N (b, o) (mem_rest h1 q e h2)).1
end L2

namespace L2
open PySem PySem.Spec PyProof.Rows

/-- the module's facts, over the base: the heap at the law's entry without what is tracked there -/
structure Mod (K : PySem.W.Frag) (mg : Str → Option Value) (base : Heap) : Prop where
  kin : K.In base
  glob : base.Ns mainGlobals mg
  blt : ∃ mb, base.Ns builtinsNs mb ∧ ∀ x : Str, x ≠ "__name__" → mb x = bootBuiltins x
  nolimit : base.NoLimit

/-- the context: a def's body (or a comprehension's block) running. base: fixed through the whole law; s₀, H₀: the entry; outer: the frames whose slots others may change (a def's callers); stack: all frames that run;
   ex: iterators that were made ahead of the entry and are walked here (a comprehension's); fn: the names whose cells were made at the entry (a def: all; a comprehension's block: its own); calm: not within an except suite; pn: pins that every state bears; xe: what is wanted of an exception that leaves the code -/
structure Cx where
  prog : Program
  w : World
  K : PySem.W.Frag
  mg : Str → Option Value
  base : Heap
  A : Around
  N : List Str
  s₀ : Shared
  H₀ : Hp
  env : Env
  outer : List Env
  stack : List Env
  ex : List Addr
  fn : Str → Bool
  calm : Bool
  pn : List (Addr × Obj)
  xe : Value → Shared → Prop
/-- the callers' frames -/
def frs (l : List Env) : List Addr := l.filterMap (·.frame)
abbrev Cx.fs (X : Cx) : List Addr := frs X.outer

def Vis (sc : Scope) (x : Str) : Prop := sc.names.lookup x = some .local ∨ sc.names.lookup x = some .cell ∨ sc.names.lookup x = some .free
def Loc (sc : Scope) (x : Str) : Prop := sc.names.lookup x = some .local ∨ sc.names.lookup x = some .cell
def Look (env : Env) (h : Heap) (m : Str → Option Value) (x : Str) (u : Value) : Prop :=
  (env.kindOf x = some .local ∧ m x = some u) ∨ ((env.kindOf x = some .cell ∨ env.kindOf x = some .free) ∧ ∃ c, env.cells.lookup x = some c ∧ h.IsCell c (some u))

structure Cx.Ok (X : Cx) : Prop where
  mod : Mod X.K X.mg X.base
  kind : X.env.scope.kind = .function
  glob : X.env.globals = mainGlobals
  blt : X.env.builtins = builtinsNs
  above : X.s₀.heap.objs.size ≤ X.env.locals
  inj : ∀ x y c, X.env.cells.lookup x = some c → X.env.cells.lookup y = some c → x = y
  has : ∀ x, (X.env.kindOf x = some .cell ∨ X.env.kindOf x = some .free) → ∃ c, X.env.cells.lookup x = some c
  cab : ∀ x c, X.fn x = true → X.env.cells.lookup x = some c → X.s₀.heap.objs.size ≤ c
  hd : X.calm = true → X.A.handled = none
  frames : X.A.frames = some X.stack
  stk : X.stack = X.outer ∨ (X.stack = X.env :: X.outer ∧ X.env.frame = some X.env.locals)
  exf : ∀ b ∈ X.ex, b ≠ X.env.locals ∧ ∀ x c, X.env.cells.lookup x = some c → c ≠ b
  bs : ∀ b o, X.base.get? b = some o → X.s₀.heap.get? b = some o ∧ X.H₀ b = none
  bsz : X.base.objs.size ≤ X.s₀.heap.objs.size
  noex : ∀ b o, X.base.get? b = some o → b ∉ X.ex
  exfs : ∀ b ∈ X.ex, b ∉ X.fs
  funs : X.s₀.heap.FunFrames X.base X.outer
  frf : ∀ b ∈ X.fs, X.H₀ b = none

structure Inv (X : Cx) (pins : List (Addr × Obj)) (σ : List (Option V)) (H : Hp) (s : Shared) : Prop where
  ok : X.Ok
  os : s.os = X.s₀.os
  bare : AllBare s.gens
  base : Un X.fs X.ex X.H₀ H X.s₀.heap s.heap
  loc : ∃ m, s.heap.Ns X.env.locals m ∧ ∀ (i : Nat) (x : Str) (v : V), X.N[i]? = some x → σ[i]? = some (some v) → Vis X.env.scope x → ∃ u, RelV v u ∧ Look X.env s.heap m x u
  cell : ∀ x c, X.env.cells.lookup x = some c → ∃ v, s.heap.IsCell c v
  free : H X.env.locals = none
  freeC : ∀ x c, X.env.cells.lookup x = some c → H c = none
  pin : ∀ p ∈ X.pn ++ pins, s.heap.get? p.1 = some p.2 ∧ H p.1 = none ∧ p.1 ≠ X.env.locals ∧ p.1 ∉ X.fs ∧ ∀ v, p.2.data ≠ .cell v
  hok : HOk X.prog X.w H s.heap
  len : σ.length = X.N.length

section
variable {X : Cx} {pins : List (Addr × Obj)} {σ : List (Option V)} {H H' : Hp} {s : Shared} {h' : Heap}

theorem Cx.Ok.nofr (ok : X.Ok) {b : Addr} {o : Obj} (e : X.base.get? b = some o) : b ∉ X.fs := fun hb => by
  have := (ok.funs.mem hb).1
  rw [e] at this; cases this
theorem Inv.bs (I : Inv X pins σ H s) : ∀ b o, X.base.get? b = some o → s.heap.get? b = some o ∧ H b = none := fun b o e =>
  ⟨I.base.keep b o (I.ok.bs b o e).1 (I.ok.bs b o e).2 (I.ok.nofr e) (I.ok.noex b o e), I.base.free b o (I.ok.bs b o e).1 (I.ok.bs b o e).2 (I.ok.noex b o e)⟩
theorem Inv.bk (I : Inv X pins σ H s) : ∀ b o, X.base.get? b = some o → s.heap.get? b = some o := fun b o e => (I.bs b o e).1
theorem Inv.mod (I : Inv X pins σ H s) : Mod X.K X.mg X.base := I.ok.mod
theorem Inv.kIn (I : Inv X pins σ H s) : X.K.In s.heap := I.ok.mod.kin.keeps I.bk
theorem Inv.nolimit (I : Inv X pins σ H s) : s.heap.NoLimit := I.ok.mod.nolimit.keeps I.bk
/-- the frame over the base: for OpenK's rules (K.In X.base is I.mod.kin) -/
theorem Inv.fr (I : Inv X pins σ H s) : ∃ m, Fr X.base X.env.locals s.heap m :=
  let ⟨m, hn, _⟩ := I.loc
  ⟨m, hn, I.bk, Nat.le_trans I.ok.bsz I.ok.above⟩
theorem Inv.lt (I : Inv X pins σ H s) : X.env.locals < s.heap.objs.size := let ⟨_, hn, _⟩ := I.loc; hn.lt
theorem Inv.sz (I : Inv X pins σ H s) : X.s₀.heap.objs.size ≤ s.heap.objs.size := Nat.le_trans I.ok.above (Nat.le_of_lt I.lt)
theorem Inv.nofs (I : Inv X pins σ H s) {a : Addr} (h : s.heap.objs.size ≤ a) : a ∉ X.fs := fun hb => by
  obtain ⟨_, o, ho, _⟩ := I.ok.funs.mem hb
  exact absurd (Nat.lt_of_lt_of_le (Heap.lt_size ho) (Nat.le_trans I.sz h)) (Nat.lt_irrefl _)
theorem Inv.cne (I : Inv X pins σ H s) : ∀ x c, X.env.cells.lookup x = some c → c ≠ X.env.locals := fun x c e z => by
  obtain ⟨v, o, ho, hd⟩ := I.cell x c e
  obtain ⟨m, ⟨o', es, ep, ho', hd', _⟩, _⟩ := I.loc
  rw [z, ho'] at ho; cases ho; rw [hd'] at hd; cases hd
theorem Inv.funs (I : Inv X pins σ H s) : s.heap.FunFrames X.base X.outer := by
  have all : ∀ (l : List Env), (∀ b ∈ frs l, b ∈ X.fs) → X.s₀.heap.FunFrames X.base l → s.heap.FunFrames X.base l := by
    intro l
    induction l with
    | nil => intro _ _; trivial
    | cons env r ih =>
      intro hs hl
      obtain ⟨hk, ⟨L, o, hf, hn, ho, hd⟩, hr⟩ := hl
      have hL : L ∈ X.fs := hs L (by unfold frs; rw [List.filterMap_cons, hf]; exact List.mem_cons_self)
      obtain ⟨sl, e⟩ := I.base.slot L o ho (I.ok.frf L hL) hL fun z => I.ok.exfs L z hL
      exact ⟨hk, ⟨L, _, hf, hn, e, hd⟩, ih (fun b hb => hs b (by unfold frs; rw [List.filterMap_cons, hf]; exact List.mem_cons_of_mem _ hb)) hr⟩
  exact all X.outer (fun _ hb => hb) I.ok.funs

/-- the frames that run, for a call -/
theorem Inv.stack (I : Inv X pins σ H s) : s.heap.FunFrames X.base X.stack := by
  rcases I.ok.stk with e | ⟨e, hf⟩
  · rw [e]; exact I.funs
  · rw [e]
    obtain ⟨m, hn, _⟩ := I.loc
    refine .cons (by rw [I.ok.kind]; decide) hf hn ?_ I.funs
    exact Heap.get?_none_of_le (Nat.le_trans I.ok.bsz I.ok.above)
theorem Inv.stkSub (I : Inv X pins σ H s) : ∀ b ∈ frs X.stack, b ∈ X.env.locals :: X.fs := fun b hb => by
  rcases I.ok.stk with e | ⟨e, hf⟩
  · rw [e] at hb; exact List.mem_cons_of_mem _ hb
  · rw [e] at hb
    unfold frs at hb
    rw [List.filterMap_cons, hf] at hb
    exact hb
theorem Inv.stkFree (I : Inv X pins σ H s) : ∀ b ∈ frs X.stack, H b = none := fun b hb => by
  rcases List.mem_cons.mp (I.stkSub b hb) with e | hb
  · rw [e]; exact I.free
  · obtain ⟨_, o, ho, _⟩ := I.ok.funs.mem hb
    exact I.base.free b o ho (I.ok.frf b hb) fun z => I.ok.exfs b z hb

/-- THE STEP: the untracked objects but the frame and the records at ch are kept (the callers' frames up to slots), the frame's map is kept, the new abstract heap is held -/
theorem Inv.step {g' : Array GenState} {t' : Nat} {d' : Drawn} {ch : List Addr} (I : Inv X pins σ H s)
    (hch : ∀ b ∈ ch, (b ∈ X.ex ∨ X.s₀.heap.objs.size ≤ b) ∧ b ≠ X.env.locals ∧ (∀ x c, X.env.cells.lookup x = some c → c ≠ b) ∧ ∀ p ∈ X.pn ++ pins, p.1 ≠ b)
    (keep : ∀ b o, b ≠ X.env.locals → b ∉ X.fs → b ∉ ch → s.heap.get? b = some o → H b = none → h'.get? b = some o)
    (slot : ∀ b o, b ≠ X.env.locals → b ∈ X.fs → b ∉ ch → s.heap.get? b = some o → H b = none → ∃ sl, h'.get? b = some { o with slots := sl }) (free : ∀ b o, b ∉ ch → s.heap.get? b = some o → H b = none → H' b = none)
    (there : ∀ b o, b ∉ ch → s.heap.get? b = some o → ∃ o', h'.get? b = some o')
    (tups : ∀ b xs, H b = some (.tup xs) → H' b = some (.tup xs)) (frzs : ∀ b o u, H b = some (.frz o u) → H' b = some (.frz o u)) (tbls : ∀ b ps, H b = some (.tbl ps) → ∃ more, H' b = some (.tbl (ps ++ more)))
    (ns : ∀ m, s.heap.Ns X.env.locals m → h'.Ns X.env.locals m) (hok : HOk X.prog X.w H' h') (hg : AllBare g') :
    Inv X pins σ H' { s with heap := h', gens := g', drawn := d', toks := t' } := by
  have neL : ∀ b o, X.s₀.heap.get? b = some o → b ≠ X.env.locals := fun b o e => Nat.ne_of_lt (Nat.lt_of_lt_of_le (Heap.lt_size e) I.ok.above)
  have neC : ∀ b o, X.s₀.heap.get? b = some o → b ∉ X.ex → b ∉ ch := fun b o e hx hb => by
    rcases (hch b hb).1 with z | z
    · exact hx z
    · exact absurd (Nat.lt_of_lt_of_le (Heap.lt_size e) z) (Nat.lt_irrefl _)
  have cellK : ∀ x c, X.env.cells.lookup x = some c → ∀ v, s.heap.IsCell c v → h'.IsCell c v := fun x c e v ⟨o, ho, hd⟩ => by
    have nch : c ∉ ch := fun z => (hch c z).2.2.1 x c e rfl
    by_cases hc : c ∈ X.fs
    · obtain ⟨sl, q⟩ := slot c o (I.cne x c e) hc nch ho (I.freeC x c e)
      exact ⟨_, q, hd⟩
    · exact ⟨o, keep c o (I.cne x c e) hc nch ho (I.freeC x c e), hd⟩
  refine ⟨I.ok, I.os, hg, ⟨fun b o e n hb hx => ?_, fun b o e n hb hx => ?_, fun b o e n hx => ?_, fun b o e hx => ?_, fun b xs e => tups b xs (I.base.tups b xs e), fun b o xs e => frzs b o xs (I.base.frzs b o xs e), fun b ps e => ?_⟩, ?_, fun x c e => ?_, ?_, fun x c e => ?_, fun p hp => ?_, hok, I.len⟩
  · exact keep b o (neL b o e) hb (neC b o e hx) (I.base.keep b o e n hb hx) (I.base.free b o e n hx)
  · obtain ⟨sl, e1⟩ := I.base.slot b o e n hb hx
    obtain ⟨sl', e2⟩ := slot b _ (neL b o e) hb (neC b o e hx) e1 (I.base.free b o e n hx)
    exact ⟨sl', e2⟩
  · obtain ⟨o', e1⟩ := I.base.there b o e hx
    exact free b o' (neC b o e hx) e1 (I.base.free b o e n hx)
  · obtain ⟨o', e1⟩ := I.base.there b o e hx
    exact there b o' (neC b o e hx) e1
  · obtain ⟨m1, e1⟩ := I.base.tbls b ps e
    obtain ⟨m2, e2⟩ := tbls b _ e1
    exact ⟨m1 ++ m2, by rw [e2, Array.append_assoc]⟩
  · obtain ⟨m, hn, hl⟩ := I.loc
    refine ⟨m, ns m hn, fun i x v e1 e2 e3 => ?_⟩
    obtain ⟨u, r, l⟩ := hl i x v e1 e2 e3
    refine ⟨u, r, ?_⟩
    rcases l with l | ⟨k, c, e, z⟩
    · exact .inl l
    · exact .inr ⟨k, c, e, cellK x c e _ z⟩
  · obtain ⟨v, z⟩ := I.cell x c e
    exact ⟨v, cellK x c e v z⟩
  · obtain ⟨m, ⟨o, _, _, ho, _⟩, _⟩ := I.loc
    exact free _ o (fun z => (hch _ z).2.1 rfl) ho I.free
  · obtain ⟨v, o, ho, hd⟩ := I.cell x c e
    exact free c o (fun z => (hch c z).2.2.1 x c e rfl) ho (I.freeC x c e)
  · obtain ⟨e, n, ne, nf, d⟩ := I.pin p hp
    have nch : p.1 ∉ ch := fun z => (hch p.1 z).2.2.2 p hp rfl
    exact ⟨keep p.1 p.2 ne nf nch e n, free p.1 p.2 nch e n, ne, nf, d⟩
/-- .. where the frame's own object is kept too -/
theorem Inv.un {t' : Nat} (I : Inv X pins σ H s) (u : Un X.fs [] H H' s.heap h') (hok : HOk X.prog X.w H' h') : Inv X pins σ H' { s with heap := h', toks := t' } := by
  obtain ⟨m, ⟨o, es, ep, ho, r⟩, _⟩ := id I.loc
  obtain ⟨sl, hL⟩ := u.any ho I.free (by simp)
  exact I.step (g' := s.gens) (d' := s.drawn) (ch := []) (fun _ z => nomatch z) (fun b o _ hb _ e n => u.keep b o e n hb (by simp)) (fun b o _ hb _ e n => u.slot b o e n hb (by simp)) (fun b o _ e n => u.free b o e n (by simp)) (fun b o _ e => u.there b o e (by simp)) u.tups u.frzs u.tbls (fun m' hm => by
    obtain ⟨o', es', ep', ho', r'⟩ := hm
    rw [ho] at ho'; cases ho'
    exact ⟨_, es', ep', hL, r'⟩) hok I.bare
/-- behind a call (or a comprehension's block): the slots of this frame may have changed too, the records at ch may have turned -/
theorem Inv.call {g' : Array GenState} {t' : Nat} {d' : Drawn} {ch : List Addr} (I : Inv X pins σ H s) (u : Un (frs X.stack) ch H H' s.heap h') (hok : HOk X.prog X.w H' h') (hg : AllBare g')
    (hch : ∀ b ∈ ch, (b ∈ X.ex ∨ X.s₀.heap.objs.size ≤ b) ∧ b ≠ X.env.locals ∧ (∀ x c, X.env.cells.lookup x = some c → c ≠ b) ∧ ∀ p ∈ X.pn ++ pins, p.1 ≠ b) :
    Inv X pins σ H' { s with heap := h', gens := g', drawn := d', toks := t' } := by
  obtain ⟨m, ⟨o, es, ep, ho, r⟩, _⟩ := id I.loc
  obtain ⟨sl, hL⟩ := u.any ho I.free fun z => (hch _ z).2.1 rfl
  exact I.step (ch := ch) hch (fun b o hL hb hc e n => u.keep b o e n (fun z => (List.mem_cons.mp (I.stkSub b z)).elim hL hb) hc) (fun b o _ _ hc e n => u.any e n hc) (fun b o hc e n => u.free b o e n hc) (fun b o hc e => u.there b o e hc) u.tups u.frzs u.tbls (fun m' hm => by
    obtain ⟨o', es', ep', ho', r'⟩ := hm
    rw [ho] at ho'; cases ho'
    exact ⟨_, es', ep', hL, r'⟩) hok hg
/-- an untracked record of ours (an iterator) has turned -/
theorem Inv.turned {t' : Nat} {it : Addr} (I : Inv X pins σ H s) (k : ∀ b o, b ≠ it → s.heap.get? b = some o → h'.get? b = some o) (hn : H it = none) (hL : it ≠ X.env.locals)
    (h1 : it ∈ X.ex ∨ X.s₀.heap.objs.size ≤ it) (h2 : ∀ x c, X.env.cells.lookup x = some c → c ≠ it) (h3 : ∀ p ∈ X.pn ++ pins, p.1 ≠ it) : Inv X pins σ H { s with heap := h', toks := t' } := by
  have nit : ∀ b u, H b = some u → b ≠ it := fun b u e z => by rw [z, hn] at e; cases e
  refine I.step (g' := s.gens) (d' := s.drawn) (ch := [it]) (fun b hb => ?_) (fun b o _ _ hc e _ => k b o (fun z => hc (by simp [z])) e) (fun b o _ _ hc e _ => ⟨o.slots, k b o (fun z => hc (by simp [z])) e⟩) (fun _ _ _ _ n => n)
    (fun b o hc e => ⟨o, k b o (fun z => hc (by simp [z])) e⟩) (fun _ _ e => e) (fun _ _ _ e => e) (fun b ps e => ⟨#[], by rw [e]; simp⟩) (fun m hm => ?_) (fun b u e => ?_) I.bare
  · have e : b = it := by simpa using hb
    subst e
    exact ⟨h1, hL, h2, h3⟩
  · obtain ⟨o, es, ep, ho, r⟩ := hm
    exact ⟨o, es, ep, k _ o (Ne.symm hL) ho, r⟩
  · refine (I.hok b u e).stay (fun c v hc q => k c v ?_ q) (fun _ q => q) fun _ _ q => q
    rcases hc with z | z
    · rw [z]; exact nit b u e
    · exact nit c _ z
theorem Inv.tok (I : Inv X pins σ H s) (t : Nat) : Inv X pins σ H { s with toks := t } := I.un (h' := s.heap) (t' := t) Un.refl I.hok
/-- all objects kept -/
theorem Inv.kept {t' : Nat} (I : Inv X pins σ H s) (k : ∀ b u, s.heap.get? b = some u → h'.get? b = some u) : Inv X pins σ H { s with heap := h', toks := t' } := I.un (Un.kept k) (I.hok.kept k)
/-- a new object laid and tracked -/
theorem Inv.laid {a : Addr} {o : HO} {t' : Nat} (I : Inv X pins σ H s) (k : ∀ b u, s.heap.get? b = some u → h'.get? b = some u) (hp : s.heap.objs.size ≤ a) (new : ObjOk X.prog X.w (upd H a o) h' a o) :
    Inv X pins σ (upd H a o) { s with heap := h', toks := t' } := I.un (Un.laid k hp (I.hok.fresh hp)) (I.hok.laid k hp new)
/-- an object written -/
theorem Inv.write {x e : Addr} {o : HO} {t' : Nat} (I : Inv X pins σ H s) (mu : Mut (H x)) (he : e = x ∨ H e = some (.own x)) (k : ∀ b u, b ≠ e → s.heap.get? b = some u → h'.get? b = some u) (heo : ∃ u, h'.get? e = some u)
    (new : ObjOk X.prog X.w (upd H x o) h' x o) : Inv X pins σ (upd H x o) { s with heap := h', toks := t' } := I.un (Un.write mu he k heo) (I.hok.write mu he k heo new)
/-- forgetting slots, pins -/
theorem Inv.weak {σ' : List (Option V)} (I : Inv X pins σ H s) (hl : σ'.length = σ.length) (w : ∀ (i : Nat) v, σ'[i]? = some (some v) → σ[i]? = some (some v)) : Inv X pins σ' H s :=
  ⟨I.ok, I.os, I.bare, I.base, let ⟨m, hn, hl'⟩ := I.loc; ⟨m, hn, fun i x v e1 e2 e3 => hl' i x v e1 (w i v e2) e3⟩, I.cell, I.free, I.freeC, I.pin, I.hok, hl.trans I.len⟩
theorem Inv.pins_of {pins' : List (Addr × Obj)} (I : Inv X pins σ H s) (h : ∀ p ∈ pins', s.heap.get? p.1 = some p.2 ∧ H p.1 = none ∧ p.1 ≠ X.env.locals ∧ p.1 ∉ X.fs ∧ ∀ v, p.2.data ≠ .cell v) : Inv X pins' σ H s :=
  ⟨I.ok, I.os, I.bare, I.base, I.loc, I.cell, I.free, I.freeC, fun p hp => (List.mem_append.mp hp).elim (fun z => I.pin p (List.mem_append_left _ z)) (h p), I.hok, I.len⟩

theorem nodup_ix {N : List Str} (hN : N.Nodup) {i j : Nat} {x : Str} (a : N[i]? = some x) (b : N[j]? = some x) : i = j := by
  obtain ⟨h1, e1⟩ := List.getElem?_eq_some_iff.mp a
  obtain ⟨h2, e2⟩ := List.getElem?_eq_some_iff.mp b
  exact (List.getElem_inj hN).mp (e1.trans e2.symm)

/-- a name is stored; what changed -/
theorem store_ok2 {M : Model} {A : Around} {E : Value → Shared → Prop} {i : Nat} {x : Str} {v : V} {u : Value} {Q : Unit → Shared → Prop} (I : Inv X pins σ H s) (hN : X.N.Nodup) (hi : X.N[i]? = some x) (hx : Loc X.env.scope x) (r : RelV v u)
    (h : ∀ s', Inv X pins (σ.set i (some v)) H s' → (∃ a, Heap.SameBut a s.heap s'.heap ∧ (a = X.env.locals ∨ X.env.cells.lookup x = some a)) → Q () s') (hf : X.fn x = true ∨ X.env.scope.names.lookup x = some .local := by first | exact .inl rfl | exact .inr rfl | assumption) : wpAny M A (storeName X.env x u) Q E s := by
  obtain ⟨m, hn, hl⟩ := id I.loc
  have hcls : (X.env.scope.kind == .class || (X.env.scope.kind == .module && X.env.locals != X.env.globals)) = false := by rw [I.ok.kind]; rfl
  have hiσ : i < σ.length := by rw [I.len]; exact (List.getElem?_eq_some_iff.mp hi).1
  have cne := I.cne
  have tracked : ∀ {a : Addr} {h' : Heap}, (∃ o, s.heap.get? a = some o ∧ H a = none) → Heap.SameBut a s.heap h' → HOk X.prog X.w H h' := fun {a h'} ha hs b ob e => by
    obtain ⟨_, _, hfree⟩ := ha
    refine (I.hok b ob e).stay (fun c w' hc q => (hs.2 c ?_).trans q) (fun _ q => q) fun _ _ q => q
    rintro rfl
    rcases hc with rfl | hc
    · rw [hfree] at e; cases e
    · rw [hfree] at hc; cases hc
  rcases hx with hk | hk
  · refine wpAny_storeName_local hk hn (fun h' hn' hs => ?_) hcls
    obtain ⟨oL, _, _, hoL, _⟩ := id hn
    refine h _ ⟨I.ok, I.os, I.bare, ⟨fun b o e n hb hx => ?_, fun b o e n hb hx => ?_, I.base.free, fun b o e hx => ?_, I.base.tups, I.base.frzs, I.base.tbls⟩, ⟨_, hn', fun j y v' e1 e2 e3 => ?_⟩, fun y c e => ?_, I.free, I.freeC, fun p hp => ?_, tracked ⟨oL, hoL, I.free⟩ hs, by simpa using I.len⟩ ⟨_, hs, .inl rfl⟩
    · exact (hs.2 b (Nat.ne_of_lt (Nat.lt_of_lt_of_le (Heap.lt_size e) I.ok.above))).trans (I.base.keep b o e n hb hx)
    · obtain ⟨sl, e1⟩ := I.base.slot b o e n hb hx
      exact ⟨sl, (hs.2 b (Nat.ne_of_lt (Nat.lt_of_lt_of_le (Heap.lt_size e) I.ok.above))).trans e1⟩
    · obtain ⟨o', e1⟩ := I.base.there b o e hx
      exact ⟨o', (hs.2 b (Nat.ne_of_lt (Nat.lt_of_lt_of_le (Heap.lt_size e) I.ok.above))).trans e1⟩
    · by_cases hj : j = i
      · subst hj
        rw [hi] at e1; cases e1
        rw [List.getElem?_set_self hiσ] at e2
        cases e2
        exact ⟨u, r, .inl ⟨hk, by simp⟩⟩
      · rw [List.getElem?_set_ne (Ne.symm hj)] at e2
        obtain ⟨u', r', q⟩ := hl j y v' e1 e2 e3
        refine ⟨u', r', ?_⟩
        rcases q with ⟨k, e⟩ | ⟨k, c, e, z⟩
        · refine .inl ⟨k, ?_⟩
          have : y ≠ x := fun e => hj (nodup_ix hN e1 (e ▸ hi))
          simp [this, e]
        · exact .inr ⟨k, c, e, z.sameBut hs (cne y c e)⟩
    · obtain ⟨w', z⟩ := I.cell y c e
      exact ⟨w', z.sameBut hs (cne y c e)⟩
    · obtain ⟨e, n, ne, nf, d⟩ := I.pin p hp
      exact ⟨(hs.2 p.1 ne).trans e, n, ne, nf, d⟩
  · have hfn : X.fn x = true := by
      rcases hf with z | z
      · exact z
      · rw [z] at hk; cases hk
    obtain ⟨c, hc⟩ := I.ok.has x (.inl hk)
    obtain ⟨w', z⟩ := I.cell x c hc
    refine wpAny_storeName_cell I.ok.kind hk hc z (fun h' hc' hs => ?_)
    obtain ⟨oc, hoc, hocd⟩ := id z
    refine h { s with heap := h' } ⟨I.ok, I.os, I.bare, ⟨fun b o e n hb hx => ?_, fun b o e n hb hx => ?_, I.base.free, fun b o e hx => ?_, I.base.tups, I.base.frzs, I.base.tbls⟩, ⟨m, hn.sameBut hs (Ne.symm (cne x c hc)), fun j y v' e1 e2 e3 => ?_⟩, fun y c' e => ?_, I.free, I.freeC, fun p hp => ?_, tracked ⟨oc, hoc, I.freeC x c hc⟩ hs, by simpa using I.len⟩ ⟨c, hs, .inr hc⟩
    · exact (hs.2 b (Nat.ne_of_lt (Nat.lt_of_lt_of_le (Heap.lt_size e) (I.ok.cab x c hfn hc)))).trans (I.base.keep b o e n hb hx)
    · obtain ⟨sl, e1⟩ := I.base.slot b o e n hb hx
      exact ⟨sl, (hs.2 b (Nat.ne_of_lt (Nat.lt_of_lt_of_le (Heap.lt_size e) (I.ok.cab x c hfn hc)))).trans e1⟩
    · obtain ⟨o', e1⟩ := I.base.there b o e hx
      exact ⟨o', (hs.2 b (Nat.ne_of_lt (Nat.lt_of_lt_of_le (Heap.lt_size e) (I.ok.cab x c hfn hc)))).trans e1⟩
    · by_cases hj : j = i
      · subst hj
        rw [hi] at e1; cases e1
        rw [List.getElem?_set_self hiσ] at e2
        cases e2
        exact ⟨u, r, .inr ⟨.inl hk, c, hc, hc'⟩⟩
      · rw [List.getElem?_set_ne (Ne.symm hj)] at e2
        obtain ⟨u', r', q⟩ := hl j y v' e1 e2 e3
        refine ⟨u', r', ?_⟩
        rcases q with q | ⟨k, c', e, z'⟩
        · exact .inl q
        · refine .inr ⟨k, c', e, z'.sameBut hs ?_⟩
          rintro rfl
          exact hj (nodup_ix hN e1 (I.ok.inj _ _ _ e hc ▸ hi))
    · by_cases hcc : c' = c
      · subst hcc; exact ⟨_, hc'⟩
      · obtain ⟨w2, z2⟩ := I.cell y c' e
        exact ⟨w2, z2.sameBut hs hcc⟩
    · obtain ⟨e, n, ne, nf, d⟩ := I.pin p hp
      refine ⟨(hs.2 p.1 ?_).trans e, n, ne, nf, d⟩
      intro q
      rw [q, hoc] at e
      have q' : oc = p.2 := Option.some.inj e
      exact d w' (by rw [← q']; exact hocd)
theorem store_ok {M : Model} {A : Around} {E : Value → Shared → Prop} {i : Nat} {x : Str} {v : V} {u : Value} {Q : Unit → Shared → Prop} (I : Inv X pins σ H s) (hN : X.N.Nodup) (hi : X.N[i]? = some x) (hx : Loc X.env.scope x) (r : RelV v u)
    (h : ∀ s', Inv X pins (σ.set i (some v)) H s' → Q () s') (hf : X.fn x = true ∨ X.env.scope.names.lookup x = some .local := by first | exact .inl rfl | exact .inr rfl | assumption) : wpAny M A (storeName X.env x u) Q E s :=
  store_ok2 I hN hi hx r (fun s' I' _ => h s' I') hf
/-- behind a call or a block, the state as it is -/
theorem Inv.call' {s' : Shared} {ch : List Addr} (I : Inv X pins σ H s) (ho : s'.os = s.os) (u : Un (frs X.stack) ch H H' s.heap s'.heap) (hok : HOk X.prog X.w H' s'.heap) (hg : AllBare s'.gens)
    (hch : ∀ b ∈ ch, (b ∈ X.ex ∨ X.s₀.heap.objs.size ≤ b) ∧ b ≠ X.env.locals ∧ (∀ x c, X.env.cells.lookup x = some c → c ≠ b) ∧ ∀ p ∈ X.pn ++ pins, p.1 ≠ b) : Inv X pins σ H' s' := by
  obtain ⟨h', g', d', t', o'⟩ := s'
  have e : o' = s.os := ho
  subst e
  exact I.call (g' := g') (t' := t') (d' := d') u hok hg hch
end

/-! ### the judgements -/
/-- an exception: its class, its own dict's address (where it has one), the abstract heap behind it -/
abbrev XK := Value → Option Addr → Hp → Prop
abbrev St := List (Option V)
abbrev VK := V → Hp → Prop
/-- an expression's reading; a test's; an argument list's -/
abbrev TE := St → Hp → VK → Prop
abbrev TT := St → Hp → (Bool → Hp → Prop) → Prop
abbrev TA := St → Hp → (List V → Hp → Prop) → Prop
/-- what is wanted behind a statement -/
structure Ends where
  nx : St → Hp → Prop
  rt : VK
  bk : St → Hp → Prop := fun _ _ => False
  ct : St → Hp → Prop := fun _ _ => False
abbrev TS := Ends → St → Hp → Prop

def EP (X : Cx) (pins : List (Addr × Obj)) (σ : St) (Q : VK) (u : Value) (s' : Shared) : Prop := ∃ v H', Inv X pins σ H' s' ∧ RelV v u ∧ Q v H'
def TP (X : Cx) (pins : List (Addr × Obj)) (σ : St) (Q : Bool → Hp → Prop) (b : Bool) (s' : Shared) : Prop := ∃ H', Inv X pins σ H' s' ∧ Q b H'
def AP (X : Cx) (pins : List (Addr × Obj)) (σ : St) (Q : List V → Hp → Prop) (us : List Value) (s' : Shared) : Prop := ∃ vs H', Inv X pins σ H' s' ∧ Vals vs us ∧ Q vs H'
def SP (X : Cx) (pins : List (Addr × Obj)) (D : Ends) (f : Flow) (s' : Shared) : Prop :=
  match f with
  | .next => ∃ σ' H', Inv X pins σ' H' s' ∧ D.nx σ' H'
  | .brk => ∃ σ' H', Inv X pins σ' H' s' ∧ D.bk σ' H'
  | .cont => ∃ σ' H', Inv X pins σ' H' s' ∧ D.ct σ' H'
  | .ret u => ∃ v σ' H', Inv X pins σ' H' s' ∧ RelV v u ∧ D.rt v H'

def PE (X : Cx) (e : Expr) (t : TE) : Prop :=
  ∀ (pins : List (Addr × Obj)) (s : Shared) (σ : St) (H : Hp) (Q : VK), Inv X pins σ H s → t σ H Q → wpAny (model X.prog X.w) X.A (eval e X.env) (EP X pins σ Q) X.xe s
def PT (X : Cx) (e : Expr) (t : TT) : Prop :=
  ∀ (pins : List (Addr × Obj)) (s : Shared) (σ : St) (H : Hp) (Q : Bool → Hp → Prop), Inv X pins σ H s → t σ H Q → wpAny (model X.prog X.w) X.A (isTrue e X.env (eval e X.env)) (TP X pins σ Q) X.xe s
/-- a test whatever its 'whole' is (and, or) -/
def PW (X : Cx) (e : Expr) (t : TT) : Prop :=
  ∀ (whole : Sem Value) (pins : List (Addr × Obj)) (s : Shared) (σ : St) (H : Hp) (Q : Bool → Hp → Prop), Inv X pins σ H s → t σ H Q → wpAny (model X.prog X.w) X.A (isTrue e X.env whole) (TP X pins σ Q) X.xe s
theorem PW.pt {X : Cx} {e : Expr} {t : TT} (h : PW X e t) : PT X e t := h _
/-- an argument list (no star), from the left -/
def PA (X : Cx) (es : List Expr) (t : TA) : Prop :=
  ∀ (pos : Pos) (pins : List (Addr × Obj)) (s : Shared) (σ : St) (H : Hp) (Q : List V → Hp → Prop), Inv X pins σ H s → t σ H Q → wpAny (model X.prog X.w) X.A (spliced (backTo pos (starEach es X.env))) (AP X pins σ Q) X.xe s
def PS (X : Cx) (st : Stmt) (t : TS) : Prop :=
  ∀ (pins : List (Addr × Obj)) (s : Shared) (σ : St) (H : Hp) (D : Ends), Inv X pins σ H s → t D σ H → wpAny (model X.prog X.w) X.A (exec st X.env) (SP X pins D) X.xe s
def PSs (X : Cx) (st : List Stmt) (t : TS) : Prop :=
  ∀ (pins : List (Addr × Obj)) (s : Shared) (σ : St) (H : Hp) (D : Ends), Inv X pins σ H s → t D σ H → wpAny (model X.prog X.w) X.A (execs st X.env) (SP X pins D) X.xe s
/-- weaken the end -/
theorem thn {α : Type} {t : Sem α} {Q Q' : α → Shared → Prop} {M : Model} {A : Around} {E : Value → Shared → Prop} {s : Shared} (h : wpAny M A t Q E s) (hQ : ∀ a s, Q a s → Q' a s) : wpAny M A t Q' E s := wpAny_mono h hQ fun _ _ x => x
end L2

namespace L2
open PySem PySem.Spec PyProof.Rows
section
variable {X : Cx}

/-- two expressions in a row -/
theorem bin {a b : Expr} {ta tb : TE} (ha : PE X a ta) (hb : PE X b tb) {pins : List (Addr × Obj)} {s : Shared} {σ : St} {H : Hp} {R : V → V → Hp → Prop} (I : Inv X pins σ H s) (h : ta σ H fun x H1 => tb σ H1 fun y H2 => R x y H2)
    {α : Type} {Q : α → Shared → Prop} {f : Value → Value → Sem α}
    (hf : ∀ v u s2 x y H2, Inv X pins σ H2 s2 → RelV x v → RelV y u → R x y H2 → wpAny (model X.prog X.w) X.A (f v u) Q X.xe s2) :
    wpAny (model X.prog X.w) X.A (eval a X.env) (fun v s₁ => wpAny (model X.prog X.w) X.A (eval b X.env) (fun u s₂ => wpAny (model X.prog X.w) X.A (f v u) Q X.xe s₂) X.xe s₁) X.xe s := by
  refine thn (ha pins s σ H _ I h) fun v s1 ⟨x, H1, I1, r1, q1⟩ => ?_
  refine thn (hb pins s1 σ H1 _ I1 q1) fun u s2 ⟨y, H2, I2, r2, q2⟩ => ?_
  exact hf v u s2 x y H2 I2 r1 r2 q2

/-! ### names and constants -/
def tVar (i : Nat) : TE := fun σ H Q => ∃ v, σ[i]? = some (some v) ∧ Q v H
def tC (v : V) : TE := fun _ H Q => Q v H
theorem pe_var {i : Nat} {x : Str} {pos : Pos} (hN : X.N[i]? = some x) (hv : Vis X.env.scope x) (hd : (x == ("__debug__" : Str)) = false := by decide) (hcd : (x == ("__classdict__" : Str)) = false := by decide) : PE X (.Name x pos) (tVar i) := by
  intro pins s σ H Q I h
  obtain ⟨v, e, h⟩ := h
  obtain ⟨m, hn, hl⟩ := I.loc
  obtain ⟨u, r, l⟩ := hl i x v hN e hv
  have fin : EP X pins σ Q u s := ⟨v, H, I, r, h⟩
  rcases l with ⟨hk, hm⟩ | ⟨hk, c, hc, hcell⟩
  · exact wpAny_Name (wpAny_loadName_local I.ok.kind hk hn hm fin) hd
  · rcases hk with hk | hk
    · exact wpAny_Name (wpAny_loadName_cell I.ok.kind hk hc hcell fin) hd
    · exact wpAny_Name (wpAny_loadName_free I.ok.kind hk hc hcell fin hcd) hd
theorem pe_int {i j pos} : PE X (.Constant (.int i) j pos) (tC (.int i)) := fun _ _ _ H _ I h => wpAny_Constant_int ⟨.int i, H, I.tok _, ⟨_, rfl⟩, h⟩
theorem pe_bl {b j pos} : PE X (.Constant (.bool b) j pos) (tC (.bl b)) := fun _ _ _ H _ I h => Constant_bool ⟨.bl b, H, I, rfl, h⟩
theorem pe_non {j pos} : PE X (.Constant .none j pos) (tC .non) := fun _ _ _ H _ I h => Constant_none ⟨.non, H, I, rfl, h⟩
theorem pe_str {x j pos} : PE X (.Constant (.str x) j pos) (tC (.str x)) := fun _ _ _ H _ I h => Calls.Constant_str ⟨.str x, H, I.tok _, ⟨_, rfl⟩, h⟩

/-- a global name of the def -/
def Gl (X : Cx) (x : Str) : Prop := X.env.kindOf x = some .globalImplicit
theorem ld_glob {E : Value → Shared → Prop} {pins : List (Addr × Obj)} {s : Shared} {σ : St} {H : Hp} {x : Str} {u : Value} {pos : Pos} {Q : Value → Shared → Prop} (I : Inv X pins σ H s) (hg : Gl X x) (hm : X.mg x = some u) (h : Q u s)
    (hd : (x == ("__debug__" : Str)) = false := by decide) : wpAny (model X.prog X.w) X.A (eval (.Name x pos) X.env) Q E s :=
  Calls.Name_function_global I.ok.kind hg (Calls.loadGlobal_global (by rw [I.ok.glob]; exact I.mod.glob.keeps I.bk) hm h) hd
theorem ld_blt {E : Value → Shared → Prop} {pins : List (Addr × Obj)} {s : Shared} {σ : St} {H : Hp} {x : Str} {u : Value} {pos : Pos} {Q : Value → Shared → Prop} (I : Inv X pins σ H s) (hg : Gl X x) (hm : X.mg x = none) (hv : bootBuiltins x = some u) (h : Q u s)
    (hn : x ≠ "__name__" := by decide) (hd : (x == ("__debug__" : Str)) = false := by decide) : wpAny (model X.prog X.w) X.A (eval (.Name x pos) X.env) Q E s := by
  obtain ⟨mb, h1, h2⟩ := I.mod.blt
  exact Calls.Name_function_global I.ok.kind hg (Calls.loadGlobal_builtin (by rw [I.ok.glob]; exact I.mod.glob.keeps I.bk) hm (by rw [I.ok.blt]; exact h1.keeps I.bk) ((h2 x hn).trans hv) h) hd
/-- a module's constant, a class, a function, as a value -/
theorem pe_glob {x : Str} {v : V} {u : Value} {pos : Pos} (hg : Gl X x) (hm : X.mg x = some u) (r : RelV v u) (hd : (x == ("__debug__" : Str)) = false := by decide) : PE X (.Name x pos) (tC v) :=
  fun _ _ _ H _ I h => ld_glob I hg hm ⟨v, H, I, r, h⟩ hd
theorem pe_bltn {x : Str} {v : V} {u : Value} {pos : Pos} (hg : Gl X x) (hm : X.mg x = none) (hv : bootBuiltins x = some u) (r : RelV v u) (hn : x ≠ "__name__" := by decide) (hd : (x == ("__debug__" : Str)) = false := by decide) : PE X (.Name x pos) (tC v) :=
  fun _ _ _ H _ I h => ld_blt I hg hm hv ⟨v, H, I, r, h⟩ hn hd

/-! ### arithmetic -/
/-- two ints -/
def t2I (ta tb : TE) (k : Int → Int → Hp → Prop) : St → Hp → Prop := fun σ H => ta σ H fun x H1 => tb σ H1 fun y H2 => ∃ i j, x = .int i ∧ y = .int j ∧ k i j H2
def tAdd (ta tb : TE) : TE := fun σ H Q => t2I ta tb (fun i j H2 => Q (.int (i + j)) H2) σ H
def tSub (ta tb : TE) : TE := fun σ H Q => t2I ta tb (fun i j H2 => Q (.int (i - j)) H2) σ H
/-- the left factor below 2^64 -/
def tMul (ta tb : TE) : TE := fun σ H Q => t2I ta tb (fun i j H2 => (-(2 ^ 64) < i ∧ i < 2 ^ 64) ∧ Q (.int (i * j)) H2) σ H
variable {a b : Expr} {ta tb : TE} {pos : Pos}
theorem pe_add (ha : PE X a ta) (hb : PE X b tb) : PE X (.BinOp a .Add b pos) (tAdd ta tb) := by
  intro pins s σ H Q I h
  refine wpAny_BinOp (bin ha hb I h fun v u s2 x y H2 I2 rx ry q => ?_)
  obtain ⟨i, j, rfl, rfl, q⟩ := q
  obtain ⟨t, rfl⟩ := rx
  obtain ⟨t', rfl⟩ := ry
  exact add_int ⟨.int _, H2, I2.tok _, ⟨_, rfl⟩, q⟩
theorem pe_sub (ha : PE X a ta) (hb : PE X b tb) : PE X (.BinOp a .Sub b pos) (tSub ta tb) := by
  intro pins s σ H Q I h
  refine wpAny_BinOp (bin ha hb I h fun v u s2 x y H2 I2 rx ry q => ?_)
  obtain ⟨i, j, rfl, rfl, q⟩ := q
  obtain ⟨t, rfl⟩ := rx
  obtain ⟨t', rfl⟩ := ry
  exact sub_int ⟨.int _, H2, I2.tok _, ⟨_, rfl⟩, q⟩
theorem pe_mul (ha : PE X a ta) (hb : PE X b tb) : PE X (.BinOp a .Mult b pos) (tMul ta tb) := by
  intro pins s σ H Q I h
  refine wpAny_BinOp (bin ha hb I h fun v u s2 x y H2 I2 rx ry q => ?_)
  obtain ⟨i, j, rfl, rfl, ⟨q1, q2⟩, q⟩ := q
  obtain ⟨t, rfl⟩ := rx
  obtain ⟨t', rfl⟩ := ry
  exact mul_int ⟨.int _, H2, I2.tok _, ⟨_, rfl⟩, q⟩ (.of_left (intBits_le_64 q1 q2))

/-! ### comparisons -/
def PC (X : Cx) (op : CmpOp) (a b : Expr) (t : TE) : Prop :=
  ∀ (pins : List (Addr × Obj)) (s : Shared) (σ : St) (H : Hp) (Q : VK), Inv X pins σ H s → t σ H Q →
    wpAny (model X.prog X.w) X.A (eval a X.env) (fun v s₁ => wpAny (model X.prog X.w) X.A (eval b X.env) (fun u s₂ => wpAny (model X.prog X.w) X.A (compareOp op v u) (EP X pins σ Q) X.xe s₂) X.xe s₁) X.xe s
theorem nobehind (b : Expr) {op : CmpOp} (h : op ≠ .In) (h2 : op ≠ .NotIn) : behindInMarks op b = false := by
  have e1 : (op == CmpOp.In) = false := by cases op <;> first | rfl | exact absurd rfl h
  have e2 : (op == CmpOp.NotIn) = false := by cases op <;> first | rfl | exact absurd rfl h2
  cases b <;> simp [behindInMarks, e1, e2]
def tCmp (p : Int → Int → Bool) (ta tb : TE) : TE := fun σ H Q => t2I ta tb (fun i j H2 => Q (.bl (p i j)) H2) σ H
abbrev tLt : TE → TE → TE := tCmp fun i j => decide (i < j)
abbrev tLe : TE → TE → TE := tCmp fun i j => decide (i ≤ j)
abbrev tGt : TE → TE → TE := tCmp fun i j => decide (j < i)
abbrev tGe : TE → TE → TE := tCmp fun i j => decide (j ≤ i)
abbrev tEqI : TE → TE → TE := tCmp fun i j => decide (i = j)
abbrev tNeI : TE → TE → TE := tCmp fun i j => !decide (i = j)
/-- a comparison of two ints, by its rule -/
theorem pc_int {op : CmpOp} {p : Int → Int → Bool} (ha : PE X a ta) (hb : PE X b tb)
    (rule : ∀ (i j : Int) (t u : Tok) (Q : Value → Shared → Prop) (s : Shared), Q (.bool (p i j)) s → wpAny (model X.prog X.w) X.A (compareOp op (.int i t) (.int j u)) Q X.xe s) : PC X op a b (tCmp p ta tb) := by
  intro pins s σ H Q I h
  refine bin ha hb I h fun v u s2 x y H2 I2 rx ry q => ?_
  obtain ⟨i, j, rfl, rfl, q⟩ := q
  obtain ⟨t, rfl⟩ := rx
  obtain ⟨t', rfl⟩ := ry
  exact rule i j t t' _ s2 ⟨.bl _, H2, I2, rfl, q⟩
theorem pc_lt (ha : PE X a ta) (hb : PE X b tb) : PC X .Lt a b (tLt ta tb) := pc_int ha hb fun _ _ _ _ _ _ h => lt_int h
theorem pc_le (ha : PE X a ta) (hb : PE X b tb) : PC X .LtE a b (tLe ta tb) := pc_int ha hb fun _ _ _ _ _ _ h => le_int h
theorem pc_gt (ha : PE X a ta) (hb : PE X b tb) : PC X .Gt a b (tGt ta tb) := pc_int ha hb fun _ _ _ _ _ _ h => gt_int h
theorem pc_ge (ha : PE X a ta) (hb : PE X b tb) : PC X .GtE a b (tGe ta tb) := pc_int ha hb fun _ _ _ _ _ _ h => ge_int h
theorem pc_eqI (ha : PE X a ta) (hb : PE X b tb) : PC X .Eq a b (tEqI ta tb) := pc_int ha hb fun _ _ _ _ _ _ h => eq_int (by rw [Bool.beq_eq_decide_eq]; exact h)
theorem pc_neI (ha : PE X a ta) (hb : PE X b tb) : PC X .NotEq a b (tNeI ta tb) := pc_int ha hb fun _ _ _ _ _ _ h => ne_int (by rw [bne, Bool.beq_eq_decide_eq]; exact h)
/-- is None -/
def tIsN (ta : TE) : TE := fun σ H Q => ta σ H fun x H1 => Q (.bl (decide (x = .non))) H1
def tNotN (ta : TE) : TE := fun σ H Q => ta σ H fun x H1 => Q (.bl (!decide (x = .non))) H1
theorem RelV.none_iff {x : V} {v : Value} (r : RelV x v) : (v == Value.none) = decide (x = .non) := by
  cases x with
  | non => cases r; rfl
  | bl _ => cases r; rfl
  | int _ => obtain ⟨t, rfl⟩ := r; rfl
  | str _ => obtain ⟨t, rfl⟩ := r; rfl
  | byt _ => obtain ⟨t, rfl⟩ := r; rfl
  | flt _ => obtain ⟨t, rfl⟩ := r; rfl
  | ref _ => cases r; rfl
  | ty _ => cases r; rfl
theorem pc_isN {j pos'} (ha : PE X a ta) : PC X .Is a (.Constant .none j pos') (tIsN ta) := by
  intro pins s σ H Q I h
  refine thn (ha pins s σ H _ I h) fun v s1 ⟨x, H1, I1, r1, q1⟩ => ?_
  exact Constant_none (is_none_gen ⟨.bl _, H1, I1, by rw [r1.none_iff]; rfl, q1⟩)
theorem pc_notN {j pos'} (ha : PE X a ta) : PC X .IsNot a (.Constant .none j pos') (tNotN ta) := by
  intro pins s σ H Q I h
  refine thn (ha pins s σ H _ I h) fun v s1 ⟨x, H1, I1, r1, q1⟩ => ?_
  exact Constant_none (isnot_none_gen ⟨.bl _, H1, I1, by rw [r1.none_iff]; rfl, q1⟩)
/-- a comparison as a value, as a test -/
def tB (t : TE) : TT := fun σ H Q => t σ H fun x H1 => ∃ c, x = .bl c ∧ Q c H1
theorem pe_cmp {op : CmpOp} {t : TE} (h : PC X op a b t) (h1 : behindInMarks op b = false := by first | exact nobehind _ (by decide) (by decide) | rfl) : PE X (.Compare a [op] [b] pos) t := fun pins s σ H Q I hw => wpAny_Compare1 (h pins s σ H Q I hw) h1
theorem pt_cmp {op : CmpOp} {t : TE} (h : PC X op a b t) (h1 : behindInMarks op b = false := by first | exact nobehind _ (by decide) (by decide) | rfl) : PT X (.Compare a [op] [b] pos) (tB t) := by
  intro pins s σ H Q I hw
  refine wpAny_isTrue_Compare1 (thn (h pins s σ H _ I hw) fun v s1 h1 => thn h1 fun u s2 h2 => thn h2 fun c s3 ⟨x, H1, I1, r1, q1⟩ => ?_) h1
  obtain ⟨d, rfl, q⟩ := q1
  cases r1
  exact wpAny_truthy_bool ⟨H1, I1, q⟩
/-- an expression whose value is a bool, as a test -/
theorem pt_val {e : Expr} {t : TE} (h : PE X e t) (he : ∀ whole, isTrue e X.env whole = (do let v ← whole; standAt e.pos; holding [v] (truthy v)) := by intro _; rfl) : PT X e (tB t) := by
  intro pins s σ H Q I hw
  refine isTrue_plain (thn (h pins s σ H _ I hw) fun v s1 ⟨x, H1, I1, r1, q1⟩ => ?_) (he _)
  obtain ⟨d, rfl, q⟩ := q1
  cases r1
  exact wpAny_truthy_bool ⟨H1, I1, q⟩

/-! ### and, or, not -/
variable {tA tB' : TT} {rest : List Expr}
def tAnd (t u : TT) : TT := fun σ H Q => t σ H fun c H1 => if c = true then u σ H1 Q else Q false H1
def tOr (t u : TT) : TT := fun σ H Q => t σ H fun c H1 => if c = true then Q true H1 else u σ H1 Q
def tNot (t : TT) : TT := fun σ H Q => t σ H fun c H1 => Q (!c) H1
theorem pw_and1 (ha : PT X a tA) : PW X (.BoolOp .And [a] pos) tA := by
  intro wh pins s σ H Q I h
  refine isTrue_and (thn (ha pins s σ H Q I h) fun c s1 e => ?_)
  cases c with
  | true => exact isTrue_and_nil e
  | false => exact e
theorem pw_or1 (ha : PT X a tA) : PW X (.BoolOp .Or [a] pos) tA := by
  intro wh pins s σ H Q I h
  refine isTrue_or (thn (ha pins s σ H Q I h) fun c s1 e => ?_)
  cases c with
  | false => exact isTrue_or_nil e
  | true => exact e
theorem pw_and (ha : PT X a tA) (hb : PW X (.BoolOp .And (b :: rest) pos) tB') : PW X (.BoolOp .And (a :: b :: rest) pos) (tAnd tA tB') := by
  intro wh pins s σ H Q I h
  refine isTrue_and (thn (ha pins s σ H _ I h) fun c s1 ⟨H1, I1, q1⟩ => ?_)
  cases c with
  | true => exact hb wh pins s1 σ H1 Q I1 q1
  | false => exact ⟨H1, I1, q1⟩
theorem pw_or (ha : PT X a tA) (hb : PW X (.BoolOp .Or (b :: rest) pos) tB') : PW X (.BoolOp .Or (a :: b :: rest) pos) (tOr tA tB') := by
  intro wh pins s σ H Q I h
  refine isTrue_or (thn (ha pins s σ H _ I h) fun c s1 ⟨H1, I1, q1⟩ => ?_)
  cases c with
  | true => exact ⟨H1, I1, q1⟩
  | false => exact hb wh pins s1 σ H1 Q I1 q1
theorem pt_not (ha : PT X a tA) : PT X (.UnaryOp .Not a pos) (tNot tA) := by
  intro pins s σ H Q I h
  exact isTrue_not (ha pins s σ H (fun c H1 => Q (!c) H1) I h)
/-- .. as values (bools) -/
def tAndV (ta tb : TE) : TE := fun σ H Q => ta σ H fun x H1 => ∃ c, x = .bl c ∧ if c = true then tb σ H1 Q else Q (.bl false) H1
def tOrV (ta tb : TE) : TE := fun σ H Q => ta σ H fun x H1 => ∃ c, x = .bl c ∧ if c = true then Q (.bl true) H1 else tb σ H1 Q
def tNotV (ta : TE) : TE := fun σ H Q => ta σ H fun x H1 => ∃ c, x = .bl c ∧ Q (.bl (!c)) H1
theorem pe_one {op} {t : TE} (h : PE X a t) : PE X (.BoolOp op [a] pos) t := fun pins s σ H Q I hw => BoolOp_one (h pins s σ H Q I hw)
theorem pe_and (ha : PE X a ta) (hb : PE X (.BoolOp .And (b :: rest) pos) tb) : PE X (.BoolOp .And (a :: b :: rest) pos) (tAndV ta tb) := by
  intro pins s σ H Q I h
  refine BoolOp_and (thn (ha pins s σ H _ I h) fun v s1 ⟨x, H1, I1, r1, q1⟩ => ?_)
  obtain ⟨c, rfl, q1⟩ := q1
  cases r1
  refine wpAny_truthy_bool ?_
  cases c with
  | true => exact hb pins s1 σ H1 Q I1 q1
  | false => exact ⟨.bl false, H1, I1, rfl, q1⟩
theorem pe_or (ha : PE X a ta) (hb : PE X (.BoolOp .Or (b :: rest) pos) tb) : PE X (.BoolOp .Or (a :: b :: rest) pos) (tOrV ta tb) := by
  intro pins s σ H Q I h
  refine BoolOp_or (thn (ha pins s σ H _ I h) fun v s1 ⟨x, H1, I1, r1, q1⟩ => ?_)
  obtain ⟨c, rfl, q1⟩ := q1
  cases r1
  refine wpAny_truthy_bool ?_
  cases c with
  | false => exact hb pins s1 σ H1 Q I1 q1
  | true => exact ⟨.bl true, H1, I1, rfl, q1⟩
theorem pe_not (ha : PE X a ta) : PE X (.UnaryOp .Not a pos) (tNotV ta) := by
  intro pins s σ H Q I h
  refine UnaryOp_ (thn (ha pins s σ H _ I h) fun v s1 ⟨x, H1, I1, r1, q1⟩ => ?_)
  obtain ⟨c, rfl, q1⟩ := q1
  cases r1
  exact not_of (wpAny_truthy_bool ⟨.bl (!c), H1, I1, rfl, q1⟩)
/-- a if t else b -/
def tIf (t : TT) (ta tb : TE) : TE := fun σ H Q => t σ H fun c H1 => if c = true then ta σ H1 Q else tb σ H1 Q
theorem pe_ifExp {c : Expr} (hc : PT X c tA) (ha : PE X a ta) (hb : PE X b tb) : PE X (.IfExp c a b pos) (tIf tA ta tb) := by
  intro pins s σ H Q I h
  refine wpAny_IfExp (thn (hc pins s σ H _ I h) fun d s1 ⟨H1, I1, q1⟩ => ?_)
  cases d with
  | true => exact ha pins s1 σ H1 Q I1 q1
  | false => exact hb pins s1 σ H1 Q I1 q1
end
end L2

namespace L2
open PySem PySem.Spec PyProof.Rows

/-! ### a list, a tuple that is read: tracked, frozen, or an object of the module -/
def SqL (K : PySem.W.Frag) (H : Hp) (a : Addr) (xs : List V) : Prop :=
  Rd H a (.lst xs) ∨
    ∃ (o : Obj) (its : Array Value) (n : Nat), K.lookup a = some o ∧ o.cls = .type "list" ∧ o.dict = none ∧ o.data = .seq its n ∧ its.size ≤ sizeLine ∧ Vals xs its.toList
def SqT (K : PySem.W.Frag) (H : Hp) (a : Addr) (xs : List V) : Prop :=
  Rd H a (.tup xs) ∨
    ∃ (o : Obj) (its : Array Value) (n : Nat), K.lookup a = some o ∧ o.cls = .type "tuple" ∧ o.data = .seq its n ∧ its.size ≤ sizeLine ∧ Vals xs its.toList
def absV : Value → Option V
  | .none => some .non
  | .bool b => some (.bl b)
  | .int i _ => some (.int i)
  | .str x _ => some (.str x)
  | .bytes b _ => some (.byt b)
  | .float b _ => some (.flt b)
  | .ref a => some (.ref a)
  | .type n => some (.ty n)
  | _ => none
theorem RelV.abs {x : V} {u : Value} (r : RelV x u) : absV u = some x := by
  cases x with
  | non => cases r; rfl
  | bl _ => cases r; rfl
  | int _ => obtain ⟨t, rfl⟩ := r; rfl
  | str _ => obtain ⟨t, rfl⟩ := r; rfl
  | byt _ => obtain ⟨t, rfl⟩ := r; rfl
  | flt _ => obtain ⟨t, rfl⟩ := r; rfl
  | ref _ => cases r; rfl
  | ty _ => cases r; rfl
theorem RelV.inj {x y : V} {u : Value} (r : RelV x u) (q : RelV y u) : x = y := Option.some.inj (r.abs.symm.trans q.abs)
theorem Vals.inj : ∀ {xs ys : List V} {us : List Value}, Vals xs us → Vals ys us → xs = ys
  | _, _, _, .nil, .nil => rfl
  | _, _, _, .cons r t, .cons r' t' => by rw [r.inj r', Vals.inj t t']
section
variable {X : Cx} {pins : List (Addr × Obj)} {σ : St} {H : Hp} {s : Shared} {a : Addr} {xs ys : List V}
theorem SqL.of {K : PySem.W.Frag} (h : H a = some (.lst xs)) : SqL K H a xs := .inl (.inl h)
theorem SqT.of {K : PySem.W.Frag} (h : H a = some (.tup xs)) : SqT K H a xs := .inl (.inl h)
theorem Inv.list (I : Inv X pins σ H s) (h : SqL X.K H a xs) : ∃ its : List Value, Vals xs its ∧ PlainL s.heap a its.toArray ∧ xs.length ≤ sizeLine := by
  rcases h with h | ⟨o, its, n, hk, hc, hd, hs, hz, r⟩
  · obtain ⟨z, its, n, r, e⟩ := h.ok I.hok
    exact ⟨its, r, ⟨_, n, e, rfl, rfl, rfl⟩, z⟩
  · refine ⟨its.toList, r, ⟨o, n, I.kIn a o hk, hc, hd, by simpa using hs⟩, ?_⟩
    have e := r.length
    simp only [Array.length_toList] at e
    omega
theorem Inv.tuple (I : Inv X pins σ H s) (h : SqT X.K H a xs) : ∃ its : List Value, Vals xs its ∧ IsTup s.heap a its.toArray ∧ xs.length ≤ sizeLine := by
  rcases h with h | ⟨o, its, n, hk, hc, hs, hz, r⟩
  · obtain ⟨z, its, r, p⟩ := h.ok I.hok
    exact ⟨its, r, p, z⟩
  · refine ⟨its.toList, r, ⟨o, I.kIn a o hk, hc, n, by simpa using hs⟩, ?_⟩
    have e := r.length
    simp only [Array.length_toList] at e
    omega
theorem Inv.list_inj (I : Inv X pins σ H s) (h : SqL X.K H a xs) (h' : SqL X.K H a ys) : xs = ys := by
  obtain ⟨its, r, ⟨o, n, e, _, _, d⟩, _⟩ := I.list h
  obtain ⟨its', r', ⟨o', n', e', _, _, d'⟩, _⟩ := I.list h'
  rw [e] at e'; cases e'
  rw [d] at d'
  injection d' with d1 _
  have : its = its' := by simpa using congrArg Array.toList d1
  subst this
  exact r.inj r'
theorem Inv.tuple_inj (I : Inv X pins σ H s) (h : SqT X.K H a xs) (h' : SqT X.K H a ys) : xs = ys := by
  obtain ⟨its, r, ⟨o, e, _, n, d⟩, _⟩ := I.tuple h
  obtain ⟨its', r', ⟨o', e', _, n', d'⟩, _⟩ := I.tuple h'
  rw [e] at e'; cases e'
  rw [d] at d'
  injection d' with d1 _
  have : its = its' := by simpa using congrArg Array.toList d1
  subst this
  exact r.inj r'
end

/-! ### another wish about exceptions -/
abbrev Cx.wish (X : Cx) (E : Value → Shared → Prop) : Cx := { X with xe := E }
/-- no exception leaves -/
abbrev Cx.nox (X : Cx) : Cx := X.wish fun _ _ => False
theorem Cx.Ok.wish {X : Cx} (ok : X.Ok) (E : Value → Shared → Prop) : (X.wish E).Ok :=
  ⟨ok.mod, ok.kind, ok.glob, ok.blt, ok.above, ok.inj, ok.has, ok.cab, ok.hd, ok.frames, ok.stk, ok.exf, ok.bs, ok.bsz, ok.noex, ok.exfs, ok.funs, ok.frf⟩
theorem Cx.Ok.unwish {X : Cx} {E : Value → Shared → Prop} (ok : (X.wish E).Ok) : X.Ok :=
  ⟨ok.mod, ok.kind, ok.glob, ok.blt, ok.above, ok.inj, ok.has, ok.cab, ok.hd, ok.frames, ok.stk, ok.exf, ok.bs, ok.bsz, ok.noex, ok.exfs, ok.funs, ok.frf⟩
section
variable {X : Cx} {pins : List (Addr × Obj)} {σ : St} {H : Hp} {s : Shared} {E : Value → Shared → Prop}
theorem Inv.wish (I : Inv X pins σ H s) (E : Value → Shared → Prop) : Inv (X.wish E) pins σ H s := ⟨I.ok.wish E, I.os, I.bare, I.base, I.loc, I.cell, I.free, I.freeC, I.pin, I.hok, I.len⟩
theorem Inv.unwish (I : Inv (X.wish E) pins σ H s) : Inv X pins σ H s := ⟨I.ok.unwish, I.os, I.bare, I.base, I.loc, I.cell, I.free, I.freeC, I.pin, I.hok, I.len⟩
theorem SP.unwish {D : Ends} {f : Flow} {s' : Shared} (h : SP (X.wish E) pins D f s') : SP X pins D f s' := by
  cases f with
  | next => obtain ⟨σ', H', I, q⟩ := h; exact ⟨σ', H', I.unwish, q⟩
  | brk => obtain ⟨σ', H', I, q⟩ := h; exact ⟨σ', H', I.unwish, q⟩
  | cont => obtain ⟨σ', H', I, q⟩ := h; exact ⟨σ', H', I.unwish, q⟩
  | ret u => obtain ⟨v, σ', H', I, r, q⟩ := h; exact ⟨v, σ', H', I.unwish, r, q⟩
theorem PE.nox {e : Expr} {t : TE} (h : PE X.nox e t) : PE X e t := fun pins s σ H Q I hw =>
  wpAny_mono (h pins s σ H Q (I.wish _) hw) (fun _ _ ⟨v, H', I', r, q⟩ => ⟨v, H', I'.unwish, r, q⟩) fun _ _ z => False.elim z
theorem PT.nox {e : Expr} {t : TT} (h : PT X.nox e t) : PT X e t := fun pins s σ H Q I hw =>
  wpAny_mono (h pins s σ H Q (I.wish _) hw) (fun _ _ ⟨H', I', q⟩ => ⟨H', I'.unwish, q⟩) fun _ _ z => False.elim z
theorem PSs.nox {st : List Stmt} {t : TS} (h : PSs X.nox st t) : PSs X st t := fun pins s σ H D I hw =>
  wpAny_mono (h pins s σ H D (I.wish _) hw) (fun _ _ q => q.unwish) fun _ _ z => False.elim z
end

/-! ### blocks and small statements -/
section
variable {X : Cx} {st : Stmt} {rest : List Stmt} {t u : TS} {e : Expr} {te : TE} {pos : Pos}
def tNext : TS := fun D σ H => D.nx σ H
def tSeq (t u : TS) : TS := fun D σ H => t { D with nx := u D } σ H
theorem pss_nil : PSs X [] tNext := fun _ _ σ H _ I h => wpAny_execs_nil ⟨σ, H, I, h⟩
theorem pss_cons (h1 : PS X st t) (h2 : PSs X rest u) : PSs X (st :: rest) (tSeq t u) := by
  intro pins s σ H D I h
  refine wpAny_execs_cons (thn (h1 pins s σ H { D with nx := u D } I h) fun f s1 q => ?_)
  cases f with
  | next =>
    obtain ⟨σ', H', I', q⟩ := q
    exact h2 pins s1 σ' H' D I' q
  | ret v => exact q
  | brk => exact q
  | cont => exact q
theorem pss_one (h1 : PS X st t) : PSs X [st] t := by
  intro pins s σ H D I h
  refine wpAny_execs_cons (thn (h1 pins s σ H D I h) fun f s1 q => ?_)
  cases f with
  | next => exact wpAny_execs_nil q
  | ret v => exact q
  | brk => exact q
  | cont => exact q
def tBreak : TS := fun D σ H => D.bk σ H
def tCont : TS := fun D σ H => D.ct σ H
theorem ps_pass : PS X (.Pass pos) tNext := fun _ _ σ H _ I h => wpAny_Pass ⟨σ, H, I, h⟩
theorem ps_break : PS X (.Break pos) tBreak := fun _ _ σ H _ I h => wpAny_Break ⟨σ, H, I, h⟩
theorem ps_continue : PS X (.Continue pos) tCont := fun _ _ σ H _ I h => wpAny_Continue ⟨σ, H, I, h⟩
/-- in a def's body nothing is shown -/
theorem Inv.quiet {pins : List (Addr × Obj)} {σ : St} {H : Hp} {s : Shared} (I : Inv X pins σ H s) : interactive X.env = false := by simp [interactive, I.ok.kind]
/-- a docstring -/
theorem ps_doc {x j pos pos'} : PS X (.Expr (.Constant (.str x) j pos) pos') tNext := fun _ s σ H _ I h => wpAny_Expr (Calls.Constant_str (show SP X _ _ .next { s with toks := s.toks + 1 } from ⟨σ, H, I.tok _, h⟩)) I.quiet
/-- an expression whose value is dropped -/
def tDrop (te : TE) : TS := fun D σ H => te σ H fun _ H1 => D.nx σ H1
theorem ps_expr (he : PE X e te) (hs : swapsWith e none pos.line X.env = pure false := by rfl) : PS X (.Expr e pos) (tDrop te) := by
  intro pins s σ H D I h
  exact wpAny_Expr_any (thn (he pins s σ H _ I h) fun v s1 ⟨x, H1, I1, r1, q1⟩ => ⟨σ, H1, I1, q1⟩) I.quiet hs
def tRet (te : TE) : TS := fun D σ H => te σ H D.rt
theorem ps_ret (he : PE X e te) : PS X (.Return (some e) pos) (tRet te) := by
  intro pins s σ H D I h
  exact wpAny_Return_some (thn (he pins s σ H _ I h) fun v s1 ⟨x, H1, I1, r1, q1⟩ => ⟨x, σ, H1, I1, r1, q1⟩)
def tRetN : TS := fun D _ H => D.rt .non H
theorem ps_retN : PS X (.Return none pos) tRetN := fun _ _ σ H _ I h => wpAny_Return_none ⟨.non, σ, H, I, rfl, h⟩
def tIfS (c : TT) (t u : TS) : TS := fun D σ H => c σ H fun b H1 => if b = true then t D σ H1 else u D σ H1
theorem ps_if {c : Expr} {a b : List Stmt} {tc : TT} (hc : PT X c tc) (ha : PSs X a t) (hb : PSs X b u) : PS X (.If c a b pos) (tIfS tc t u) := by
  intro pins s σ H D I h
  refine wpAny_If (thn (hc pins s σ H _ I h) fun d s1 ⟨H1, I1, q1⟩ => ?_)
  cases d with
  | true => exact ha pins s1 σ H1 D I1 q1
  | false => exact hb pins s1 σ H1 D I1 q1
/-- code that the proof never comes to -/
def tNever : TS := fun _ _ _ => False
theorem ps_never : PS X st tNever := fun _ _ _ _ _ _ h => h.elim
theorem pss_never {sts : List Stmt} : PSs X sts tNever := fun _ _ _ _ _ _ h => h.elim
end

/-! ### targets -/
abbrev TG := V → St → Hp → (St → Hp → Prop) → Prop
abbrev TGs := List V → St → Hp → (St → Hp → Prop) → Prop
def PG (X : Cx) (target : Expr) (t : TG) : Prop :=
  ∀ (pins : List (Addr × Obj)) (s : Shared) (σ : St) (H : Hp) (v : V) (u : Value) (Q : St → Hp → Prop), Inv X pins σ H s → RelV v u → t v σ H Q →
    wpAny (model X.prog X.w) X.A (assign target X.env u) (fun _ s' => ∃ σ' H', Inv X pins σ' H' s' ∧ Q σ' H') X.xe s
/-- several targets, one after another -/
def PGs (X : Cx) (ts : List Expr) (t : TGs) : Prop :=
  ∀ (pins : List (Addr × Obj)) (s : Shared) (σ : St) (H : Hp) (vs : List V) (us : List Value) (Q : St → Hp → Prop), Inv X pins σ H s → Vals vs us → t vs σ H Q →
    wpAny (model X.prog X.w) X.A (assignInOrder ((assignEach ts X.env).map (·.2)) us) (fun _ s' => ∃ σ' H', Inv X pins σ' H' s' ∧ Q σ' H') X.xe s
/-- o[i] = v, by values -/
abbrev TSet := V → V → V → Hp → (Hp → Prop) → Prop
def PSet (X : Cx) (t : TSet) : Prop :=
  ∀ (pins : List (Addr × Obj)) (s : Shared) (σ : St) (H : Hp) (o i v : V) (ov iv u : Value) (Q : Hp → Prop), Inv X pins σ H s → RelV o ov → RelV i iv → RelV v u → t o i v H Q →
    wpAny (model X.prog X.w) X.A (setItem ov iv u) (fun _ s' => ∃ H', Inv X pins σ H' s' ∧ Q H') X.xe s
/-- a op= b, by values -/
abbrev TIp := V → V → Hp → VK → Prop
def PIp (X : Cx) (op : Operator) (t : TIp) : Prop :=
  ∀ (pins : List (Addr × Obj)) (s : Shared) (σ : St) (H : Hp) (x y : V) (v u : Value) (Q : VK), Inv X pins σ H s → RelV x v → RelV y u → t x y H Q →
    wpAny (model X.prog X.w) X.A (inplaceOp op v u) (EP X pins σ Q) X.xe s
section
variable {X : Cx} {pos : Pos}
def gName (i : Nat) : TG := fun v σ H Q => Q (σ.set i (some v)) H
theorem pg_name {i : Nat} {x : Str} (hN : X.N.Nodup) (hi : X.N[i]? = some x) (hx : Loc X.env.scope x) (hf : X.fn x = true ∨ X.env.scope.names.lookup x = some .local := by first | exact .inl rfl | exact .inr rfl | assumption) : PG X (.Name x pos) (gName i) := by
  intro pins s σ H v u Q I r h
  exact wpAny_assign_Name (store_ok I hN hi hx r (fun s' I' => ⟨_, H, I', h⟩) hf)
def gNil : TGs := fun vs σ H Q => vs = [] ∧ Q σ H
def gCons (t : TG) (u : TGs) : TGs := fun vs σ H Q => ∃ v r, vs = v :: r ∧ t v σ H fun σ' H' => u r σ' H' Q
theorem pgs_nil : PGs X [] gNil := by
  intro pins s σ H vs us Q I r h
  obtain ⟨e, h⟩ := h
  subst e
  cases r
  exact assignInOrder_nil ⟨σ, H, I, h⟩
theorem pgs_cons {e : Expr} {es : List Expr} {t : TG} {u : TGs} (h1 : PG X e t) (h2 : PGs X es u)
    (hs : (assignEach (e :: es) X.env).map (·.2) = assign e X.env :: (assignEach es X.env).map (·.2) := by rfl) : PGs X (e :: es) (gCons t u) := by
  intro pins s σ H vs us Q I r h
  obtain ⟨v, vr, e1, h⟩ := h
  subst e1
  cases r with
  | cons r rr =>
    rw [hs]
    refine assignInOrder_cons (thn (h1 pins s σ H _ _ _ I r h) fun _ s1 ⟨σ1, H1, I1, q1⟩ => ?_)
    exact h2 pins s1 σ1 H1 _ _ Q I1 rr q1
/-- (a, b, ..) = a tuple of that length -/
def gTup (K : PySem.W.Frag) (n : Nat) (t : TGs) : TG := fun v σ H Q => ∃ a xs, v = .ref a ∧ SqT K H a xs ∧ xs.length = n ∧ t xs σ H Q
theorem pg_tup {es : List Expr} {k : Nat} {t : TGs} {n : Nat} (hc : X.calm = true) (h : PGs X es t)
    (hn : (assignEach es X.env).length = n := by rfl) (hst : (assignEach es X.env).findIdx? (·.1) = none := by rfl) : PG X (.Tuple es k pos) (gTup X.K n t) := by
  intro pins s σ H v u Q I r hw
  obtain ⟨a, xs, e1, hq, hl, hw⟩ := hw
  subst e1
  cases r
  obtain ⟨its, rv, ht, hz⟩ := I.tuple hq
  refine assign_Tuple_tuple (I.ok.hd hc) ht (by simp [hn, ← hl, rv.length]) hst fun h' hx => ?_
  have I1 : Inv X pins σ H { s with heap := h' } := I.kept (t' := s.toks) fun b o e => hx b o (Nat.ne_of_lt (Heap.lt_size e)) e
  exact h pins _ σ H xs _ Q I1 (by simpa using rv) hw
/-- o[i] = .. -/
def gSub (to ti : TE) (t : TSet) : TG := fun v σ H Q => to σ H fun o H1 => ti σ H1 fun i H2 => t o i v H2 fun H3 => Q σ H3
theorem pg_sub {o i : Expr} {to ti : TE} {t : TSet} (ho : PE X o to) (hi : PE X i ti) (hs : PSet X t)
    (ha : ∀ v, assign (.Subscript o i pos) X.env v = (do
      let ov ← holding [v] (eval o X.env)
      let iv ← holding [v, ov] (eval i X.env)
      standAt pos
      holding [v, ov, iv] (setItem ov iv v)
      release [v, ov, iv] []) := by intro _; rfl) : PG X (.Subscript o i pos) (gSub to ti t) := by
  intro pins s σ H v u Q I r h
  rw [ha]
  refine wpAny_bind (wpAny_holding (thn (ho pins s σ H _ I h) fun ov s1 ⟨x, H1, I1, r1, q1⟩ => ?_))
  refine wpAny_bind (wpAny_holding (thn (hi pins s1 σ H1 _ I1 q1) fun iv s2 ⟨y, H2, I2, r2, q2⟩ => ?_))
  refine wpAny_bind (wpAny_standAt (wpAny_bind (wpAny_holding (thn (hs pins s2 σ H2 x y v ov iv u _ I2 r1 r2 r q2) fun _ s3 ⟨H3, I3, q3⟩ => ?_))))
  exact wpAny_release ⟨σ, H3, I3, q3⟩
/-- target = value -/
def tAsg (te : TE) (g : TG) : TS := fun D σ H => te σ H fun x H1 => g x σ H1 D.nx
theorem ps_asg {tg e : Expr} {te : TE} {g : TG} (he : PE X e te) (hg : PG X tg g) (hs : swapsWithSole [tg] e pos.line X.env = pure false := by rfl) (hw : swappedStores [tg] e X.env = pure none := by rfl)
    (h1 : (assignEach [tg] X.env).map (·.2) = [assign tg X.env] := by rfl) : PS X (.Assign [tg] e pos) (tAsg te g) := by
  intro pins s σ H D I h
  refine wpAny_Assign_stores (thn (he pins s σ H _ I h) fun v s1 ⟨x, H1, I1, r1, q1⟩ => ?_) hs hw
  rw [h1]
  exact thn (hg pins s1 σ H1 x v _ I1 r1 q1) fun _ s2 q => q
/-- name = value -/
theorem ps_set {i : Nat} {x : Str} {e : Expr} {te : TE} {pos' : Pos} (hN : X.N.Nodup) (hi : X.N[i]? = some x) (hx : Loc X.env.scope x) (he : PE X e te) (hs : swapsWith e (some (.Name x pos')) pos.line X.env = pure false := by rfl) (hf : X.fn x = true ∨ X.env.scope.names.lookup x = some .local := by first | exact .inl rfl | exact .inr rfl | assumption) :
    PS X (.Assign [.Name x pos'] e pos) (tAsg te (gName i)) := by
  intro pins s σ H D I h
  refine wpAny_Assign_Name (thn (he pins s σ H _ I h) fun v s1 ⟨y, H1, I1, r1, q1⟩ => ?_) hs
  exact store_ok I1 hN hi hx r1 (fun s2 I2 => ⟨_, H1, I2, q1⟩) hf
/-- a, b = x, y with plain local names: stored from the right; the pair itself is not tracked (the opening rows as in PyProof/Rows/TupAssign.lean:23) -/
def tPar (i j : Nat) (ta : TA) : TS := fun D σ H => ta σ H fun vs H1 => ∃ v w, vs = [v, w] ∧ D.nx ((σ.set i (some v)).set j (some w)) H1
theorem ps_par {i j : Nat} {x y : Str} {a b : Expr} {ta : TA} {px py pt : Pos} {kt k2 pt2} (hc : X.calm = true) (hN : X.N.Nodup) (hi : X.N[i]? = some x) (hj : X.N[j]? = some y) (hij : i ≠ j)
    (hx : X.env.scope.names.lookup x = some .local) (hy : X.env.scope.names.lookup y = some .local) (ha : PA X [a, b] ta)
    (hw : swappedStores [.Tuple [.Name x px, .Name y py] kt pt] (.Tuple [a, b] k2 pt2) X.env = pure (some [x, y]))
    (hs : swapsWithSole [.Tuple [.Name x px, .Name y py] kt pt] (.Tuple [a, b] k2 pt2) pos.line X.env = pure false := by rfl) :
    PS X (.Assign [.Tuple [.Name x px, .Name y py] kt pt] (.Tuple [a, b] k2 pt2) pos) (tPar i j ta) := by
  intro pins s σ H D I h
  rw [exec_Assign_arm]
  refine wpAny_bind (wpAny_standAt ?_)
  rw [hs]
  refine wpAny_bind (wpAny_pure ?_)
  rw [if_neg (by decide)]
  refine wpAny_bind (Tuple_ (thn (ha _ pins s σ H _ I h) fun us s1 ⟨vs, H1, I1, r1, q1⟩ => ?_))
  obtain ⟨v, w, e1, q1⟩ := q1
  subst e1
  obtain ⟨u1, u2, rfl, rv, rw'⟩ : ∃ u1 u2, us = [u1, u2] ∧ RelV v u1 ∧ RelV w u2 := by
    cases r1 with
    | cons p q =>
      cases q with
      | cons p' q' =>
        cases q'
        exact ⟨_, _, rfl, p, p'⟩
  refine wpAny_newObj_type ?_ (by show 2 ≤ sizeLine; decide)
  have I2 : Inv X pins σ H1 { s1 with heap := s1.heap.push { cls := .type "tuple", data := .seq [u1, u2].toArray } } := I1.kept (t' := s1.toks) fun b o e => Heap.get?_push_of_some _ e
  rw [hw]
  refine wpAny_bind (wpAny_pure ?_)
  show wpAny (model X.prog X.w) X.A (do rule "assign.swapped-stores"; let items ← unpackItems (.ref s1.heap.objs.size) 2 none; assignInOrder [fun v => bindName X.env y v, fun v => bindName X.env x v] items.reverse; pure Flow.next) _ _ _
  refine wpAny_bind (wpAny_rule (wpAny_bind (unpackItems_tuple (items := #[u1, u2]) (I.ok.hd hc) (IsTup.new s1.heap _) fun h' hx' => ?_)))
  have I3 := I2.kept (h' := h') (t' := s1.toks) fun b o e => hx' b o (Nat.ne_of_lt (Heap.lt_size e)) e
  show wpAny _ _ (assignInOrder [fun v => bindName X.env y v, fun v => bindName X.env x v] [u2, u1] >>= fun _ => pure Flow.next) _ _ _
  refine wpAny_bind (assignInOrder_cons (wpAny_bindName (store_ok I3 hN hj (.inl hy) rw' (fun s2 I4 => ?_) (.inr hy))))
  refine assignInOrder_cons (wpAny_bindName (store_ok I4 hN hi (.inl hx) rv (fun s3 I5 => assignInOrder_nil (wpAny_pure ?_)) (.inr hx)))
  rw [List.set_comm _ _ (Ne.symm hij)] at I5
  exact ⟨_, H1, I5, q1⟩
/-- name op= e -/
def tAug (i : Nat) (te : TE) (ti : TIp) : TS := fun D σ H => ∃ x, σ[i]? = some (some x) ∧ te σ H fun y H1 => ti x y H1 fun z H2 => D.nx (σ.set i (some z)) H2
theorem ps_aug {i : Nat} {x : Str} {e : Expr} {te : TE} {op : Operator} {ti : TIp} {pos' : Pos} (hN : X.N.Nodup) (hi : X.N[i]? = some x) (hx : Loc X.env.scope x) (he : PE X e te) (ho : PIp X op ti) (hf : X.fn x = true ∨ X.env.scope.names.lookup x = some .local := by first | exact .inl rfl | exact .inr rfl | assumption) :
    PS X (.AugAssign (.Name x pos') op e pos) (tAug i te ti) := by
  intro pins s σ H D I h
  obtain ⟨v, e1, h⟩ := h
  obtain ⟨m, hn, hl⟩ := I.loc
  have vis : Vis X.env.scope x := by rcases hx with k | k; exact .inl k; exact .inr (.inl k)
  obtain ⟨u, r, l⟩ := hl i x v hi e1 vis
  refine wpAny_AugAssign_Name ?_
  have go : wpAny (model X.prog X.w) X.A (eval e X.env) (fun w s₂ => wpAny (model X.prog X.w) X.A (inplaceOp op u w) (fun r s₃ => wpAny (model X.prog X.w) X.A (storeName X.env x r) (fun _ => SP X pins D .next) X.xe s₃) X.xe s₂) X.xe s := by
    refine thn (he pins s σ H _ I h) fun w s1 ⟨y, H1, I1, r1, q1⟩ => ?_
    refine thn (ho pins s1 σ H1 v y u w _ I1 r r1 q1) fun z s2 ⟨zv, H2, I2, r2, q2⟩ => ?_
    exact store_ok I2 hN hi hx r2 (fun s3 I3 => ⟨_, H2, I3, q2⟩) hf
  rcases l with ⟨hk, hm⟩ | ⟨hk, c, hc, hcell⟩
  · exact wpAny_loadName_local I.ok.kind hk hn hm go
  · rcases hk with hk | hk
    · exact wpAny_loadName_cell I.ok.kind hk hc hcell go
    · rcases hx with k | k
      · have : X.env.scope.names.lookup x = some .free := hk
        rw [k] at this; cases this
      · have : X.env.scope.names.lookup x = some .free := hk
        rw [k] at this; cases this
/-- o[i] op= e -/
def tAugS (to ti te : TE) (tget : V → V → Hp → VK → Prop) (tip : TIp) (tset : TSet) : TS := fun D σ H => to σ H fun o H1 => ti σ H1 fun i H2 => tget o i H2 fun x H3 => te σ H3 fun y H4 => tip x y H4 fun z H5 => tset o i z H5 fun H6 => D.nx σ H6
/-- o[i], by values -/
def PGet (X : Cx) (t : V → V → Hp → VK → Prop) : Prop :=
  ∀ (pins : List (Addr × Obj)) (s : Shared) (σ : St) (H : Hp) (o i : V) (ov iv : Value) (Q : VK), Inv X pins σ H s → RelV o ov → RelV i iv → t o i H Q →
    wpAny (model X.prog X.w) X.A (getItem ov iv) (EP X pins σ Q) X.xe s
theorem ps_augS {o i e : Expr} {to ti te : TE} {tget : V → V → Hp → VK → Prop} {tip : TIp} {tset : TSet} {op : Operator} {tpos : Pos} (ho : PE X o to) (hi : PE X i ti) (hg : PGet X tget) (he : PE X e te) (hp : PIp X op tip) (hs : PSet X tset)
    (ha : ∀ ov iv new, augStore i ov iv new = (do holding [new, ov, iv] (setItem ov iv new); release [new, ov, iv] []; pure .next) := by intros; rfl) : PS X (.AugAssign (.Subscript o i tpos) op e pos) (tAugS to ti te tget tip tset) := by
  intro pins s σ H D I h
  refine wpAny_AugAssign_SubscriptAny (thn (ho pins s σ H _ I h) fun ov s1 ⟨x1, H1, I1, r1, q1⟩ => ?_) ha
  refine thn (hi pins s1 σ H1 _ I1 q1) fun iv s2 ⟨x2, H2, I2, r2, q2⟩ => ?_
  refine thn (hg pins s2 σ H2 x1 x2 ov iv _ I2 r1 r2 q2) fun old s3 ⟨x3, H3, I3, r3, q3⟩ => ?_
  refine thn (he pins s3 σ H3 _ I3 q3) fun v s4 ⟨x4, H4, I4, r4, q4⟩ => ?_
  refine thn (hp pins s4 σ H4 x3 x4 old v _ I4 r3 r4 q4) fun new s5 ⟨x5, H5, I5, r5, q5⟩ => ?_
  exact thn (hs pins s5 σ H5 x1 x2 x5 ov iv new _ I5 r1 r2 r5 q5) fun _ s6 ⟨H6, I6, q6⟩ => ⟨σ, H6, I6, q6⟩
/-- ints -/
def ipI (f : Int → Int → Int) : TIp := fun x y H Q => ∃ i j, x = .int i ∧ y = .int j ∧ Q (.int (f i j)) H
theorem ip_add : PIp X .Add (ipI fun i j => i + j) := by
  intro pins s σ H x y v u Q I r1 r2 h
  obtain ⟨i, j, e1, e2, q⟩ := h
  subst e1; subst e2
  obtain ⟨t, rfl⟩ := r1
  obtain ⟨t', rfl⟩ := r2
  exact iadd_int ⟨.int _, H, I.tok _, ⟨_, rfl⟩, q⟩
theorem ip_sub : PIp X .Sub (ipI fun i j => i - j) := by
  intro pins s σ H x y v u Q I r1 r2 h
  obtain ⟨i, j, e1, e2, q⟩ := h
  subst e1; subst e2
  obtain ⟨t, rfl⟩ := r1
  obtain ⟨t', rfl⟩ := r2
  exact isub_int ⟨.int _, H, I.tok _, ⟨_, rfl⟩, q⟩
end

/-! ### while -/
section
variable {X : Cx} {pos : Pos}
/-- the invariant W with its measure -/
def tWhile (c : TT) (tb : TS) : TS := fun D σ H => ∃ W : Nat → St → Hp → Prop, (∃ m, W m σ H) ∧ ∀ m σ H, W m σ H →
  c σ H fun b H1 => if b = true then ∃ N : St → Hp → Prop, (∀ σ' H', N σ' H' → ∃ m', m' < m ∧ W m' σ' H') ∧ tb { D with nx := N, ct := N, bk := D.nx } σ H1 else D.nx σ H1
theorem ps_while {c : Expr} {body : List Stmt} {tc : TT} {tb : TS} (hp : PassesOwn (model X.prog X.w) X.A X.env X.xe) (hc : PT X c tc) (hb : PSs X body tb) : PS X (.While c body [] pos) (tWhile tc tb) := by
  intro pins s σ H D I h
  obtain ⟨W, ⟨m0, w0⟩, turn⟩ := h
  refine wpAny_While (codeAny_whileLoop (fun n s' => ∃ σ' H', Inv X pins σ' H' s' ∧ W n σ' H') ?_ m0 ⟨σ, H, I, w0⟩)
  rintro n s1 ⟨σ1, H1, I1, w1⟩
  refine wpAny_passesOwn hp (thn (hc pins s1 σ1 H1 _ I1 (turn n σ1 H1 w1)) fun b s2 ⟨H2, I2, q2⟩ => ?_)
  cases b with
  | true =>
    obtain ⟨N, hN, q2⟩ := q2
    rw [if_pos rfl]
    refine wpAny_passesOwn hp (thn (hb pins s2 σ1 H2 _ I2 q2) fun f s3 q3 => ?_)
    cases f with
    | next =>
      obtain ⟨σ3, H3, I3, n3⟩ := q3
      obtain ⟨m', hm, w3⟩ := hN σ3 H3 n3
      exact ⟨m', hm, σ3, H3, I3, w3⟩
    | cont =>
      obtain ⟨σ3, H3, I3, n3⟩ := q3
      obtain ⟨m', hm, w3⟩ := hN σ3 H3 n3
      exact ⟨m', hm, σ3, H3, I3, w3⟩
    | brk => exact q3
    | ret v => exact q3
  | false =>
    rw [if_neg Bool.false_ne_true]
    exact wpAny_execs_nil ⟨σ1, H2, I2, q2⟩
end

/-! ### what a loop or a comprehension walks -/
/-- at turn i: it yields x (the heap may grow), or it stops -/
structure It where
  go : Nat → Hp → Prop
  yld : Nat → Hp → V → Hp → Prop
  stop : Nat → Hp → Prop
/-- the iterator's own objects may turn: they are not the frame's, not pinned, younger than the entry (or a comprehension's own) -/
def FpOk (X : Cx) (pins : List (Addr × Obj)) (H : Hp) (b : Addr) : Prop :=
  H b = none ∧ b ≠ X.env.locals ∧ b ∉ X.fs ∧ (b ∈ X.ex ∨ X.s₀.heap.objs.size ≤ b) ∧ (∀ x c, X.env.cells.lookup x = some c → c ≠ b) ∧ ∀ p ∈ X.pn ++ pins, p.1 ≠ b
theorem Inv.fpOk {X : Cx} {pins : List (Addr × Obj)} {σ : St} {H H' : Hp} {s : Shared} {b : Addr} (I : Inv X pins σ H s) (hb : s.heap.objs.size ≤ b) (hn : H' b = none) : FpOk X pins H' b := by
  refine ⟨hn, Nat.ne_of_gt (Nat.lt_of_lt_of_le I.lt hb), I.nofs hb, .inr (Nat.le_trans I.sz hb), fun x c e z => ?_, fun p hp z => ?_⟩
  · obtain ⟨v, q⟩ := I.cell x c e
    exact absurd (Nat.lt_of_lt_of_le q.lt (by rw [z]; exact hb)) (Nat.lt_irrefl _)
  · exact absurd (Nat.lt_of_lt_of_le (Heap.lt_size (I.pin p hp).1) (by rw [z]; exact hb)) (Nat.lt_irrefl _)
structure Turn (P : Program) (w : World) (K : PySem.W.Frag) (tg : Expr) (J : It) (fp : List Addr) (it : Addr) (tn : Nat → Heap → Prop) : Prop where
  mem : it ∈ fp
  obj : ∀ i h, tn i h → ∀ b ∈ fp, ∃ o, h.get? b = some o ∧ ∀ v, o.data ≠ .cell v
  keep : ∀ i h h', tn i h → (∀ b ∈ fp, ∀ o, h.get? b = some o → h'.get? b = some o) → tn i h'
  item : ∀ (X : Cx), X.prog = P → X.w = w → X.K = K → X.calm = true → ∀ (i : Nat) (pins : List (Addr × Obj)) (s : Shared) (σ : St) (H : Hp) (E : Value → Shared → Prop), Inv X pins σ H s → (∀ b ∈ fp, FpOk X pins H b) → tn i s.heap → J.go i H →
    wpAny (model P w) X.A (pyNext (.ref it)) (fun r s1 => ∃ u, r = some u ∧
      wpAny (model P w) X.A (letOwnedTupleGo tg (.ref it) u) (fun _ s2 => ∃ x H', Inv X pins σ H' s2 ∧ RelV x u ∧ J.yld i H x H' ∧ tn (i + 1) s2.heap ∧ ∀ b ∈ fp, H' b = none) E s1) E s
  done : ∀ (X : Cx), X.prog = P → X.w = w → X.K = K → X.calm = true → ∀ (i : Nat) (pins : List (Addr × Obj)) (s : Shared) (σ : St) (H : Hp) (E : Value → Shared → Prop), Inv X pins σ H s → (∀ b ∈ fp, FpOk X pins H b) → tn i s.heap → J.stop i H →
    wpAny (model P w) X.A (pyNext (.ref it)) (fun r s1 => r = none ∧ Inv X pins σ H s1) E s
  self : ∀ (A : Around) (i : Nat) (s : Shared) (Q : Value → Shared → Prop) (E : Value → Shared → Prop), tn i s.heap → Q (.ref it) s → wpAny (model P w) A (pyIter (.ref it)) Q E s
abbrev TI := St → Hp → (It → Hp → Prop) → Prop
/-- an iterator has come -/
def PIE (X : Cx) (pins : List (Addr × Obj)) (σ : St) (tg : Expr) (R : It → Hp → Prop) (itv : Value) (s2 : Shared) : Prop :=
  ∃ (it : Addr) (fp : List Addr) (tn : Nat → Heap → Prop) (J : It) (H' : Hp), itv = .ref it ∧ Inv X pins σ H' s2 ∧ Turn X.prog X.w X.K tg J fp it tn ∧ tn 0 s2.heap ∧ (∀ b ∈ fp, FpOk X pins H' b) ∧ R J H'
def PI (X : Cx) (tg iter : Expr) (wi : TI) : Prop :=
  ∀ (pins : List (Addr × Obj)) (s : Shared) (σ : St) (H : Hp) (R : It → Hp → Prop), Inv X pins σ H s → wi σ H R →
    wpAny (model X.prog X.w) X.A (eval iter X.env) (fun v s1 => wpAny (model X.prog X.w) X.A (pyIter v) (PIE X pins σ tg R) X.xe s1) X.xe s

/-- the step ahead of the store is nothing for an iterator that keeps no tuple -/
theorem go_of {M : Model} {A : Around} {E : Value → Shared → Prop} {s : Shared} {tg : Expr} {it : Addr} {u : Value} {o : Obj} {n : String} {vs : Array Value} {Q : Unit → Shared → Prop} (ho : s.heap.get? it = some o) (hc : o.cls = .type n) (hd : o.data = .fields vs)
    (hn : ["enumerate", "zip", "dict_itemiterator", "dict_reverseitemiterator", "odict_iterator", "itertools.zip_longest", "itertools.pairwise"].contains n = false) (hQ : Q () s) : wpAny M A (letOwnedTupleGo tg (.ref it) u) Q E s := by
  unfold letOwnedTupleGo
  cases tg <;> first
    | exact wpAny_pure hQ
    | (cases u <;> first
        | exact wpAny_pure hQ
        | (refine wpAny_bind (wpAny_load ho ?_)
           rw [hc, hd]
           show wpAny M A (if (["enumerate", "zip", "dict_itemiterator", "dict_reverseitemiterator", "odict_iterator", "itertools.zip_longest", "itertools.pairwise"].contains n && vs[0]? == some (rawInt _)) = true then _ else _) Q E s
           rw [if_neg (by intro h; rw [hn, Bool.false_and] at h; cases h)]
           exact wpAny_pure hQ))

/-- the list at a, as it stands at each turn (a loop may append to it) -/
def Itl (K : PySem.W.Frag) (a : Addr) : It :=
  ⟨fun i H => ∃ xs x, SqL K H a xs ∧ xs[i]? = some x, fun i H x H' => H' = H ∧ ∀ xs, SqL K H a xs → xs[i]? = some x, fun i H => ∃ xs, SqL K H a xs ∧ xs.length ≤ i⟩
def Itt (K : PySem.W.Frag) (a : Addr) : It :=
  ⟨fun i H => ∃ xs x, SqT K H a xs ∧ xs[i]? = some x, fun i H x H' => H' = H ∧ ∀ xs, SqT K H a xs → xs[i]? = some x, fun i H => ∃ xs, SqT K H a xs ∧ xs.length ≤ i⟩
/-- lo, lo + 1, .. (n of them) -/
def Itr (lo : Int) (n : Nat) : It := ⟨fun i _ => i < n, fun i H x H' => H' = H ∧ x = .int (lo + i), fun i _ => n ≤ i⟩
theorem turn_list {P : Program} {w : World} {K : PySem.W.Frag} {tg : Expr} (a it : Addr) : Turn P w K tg (Itl K a) [it] it (fun i h => h.IsListIter it a i) where
  mem := by simp
  obj := fun i h st b hb => by
    have e : b = it := by simpa using hb
    subst e
    obtain ⟨o, e, c, d⟩ := st
    exact ⟨o, e, fun v z => by rw [d] at z; cases z⟩
  keep := fun i h h' st k => st.at fun o e => k it (by simp) o e
  item := by
    intro X hP hw hK hc i pins s σ H E I hf st hg
    subst hP hw hK
    obtain ⟨xs, x, hq, hx⟩ := hg
    obtain ⟨its, rv, p, hz⟩ := I.list hq
    obtain ⟨u, hu, ru⟩ := rv.get hx
    obtain ⟨f0, f1, f2, f3, f4, f5⟩ := hf it (by simp)
    refine wpAny_pyNext_list_item st p.isList (x := u) (by simpa using hu) fun h' st' sb => ?_
    have I1 : Inv X pins σ H { s with heap := h' } := I.turned (t' := s.toks) (fun b o hb e => (sb.2 b hb).trans e) f0 f1 f3 f4 f5
    obtain ⟨o, e, c, d⟩ := id st'
    exact ⟨u, rfl, go_of (s := { s with heap := h' }) e c d (by decide) ⟨x, H, I1, ru, ⟨rfl, fun ys hy => by rw [I.list_inj hy hq]; exact hx⟩, st', fun b hb => (hf b hb).1⟩⟩
  done := by
    intro X hP hw hK hc i pins s σ H E I hf st hg
    subst hP hw hK
    obtain ⟨xs, hq, hx⟩ := hg
    obtain ⟨its, rv, p, hz⟩ := I.list hq
    obtain ⟨f0, f1, f2, f3, f4, f5⟩ := hf it (by simp)
    have hl := rv.length
    exact wpAny_pyNext_list_end (I.ok.hd hc) st p.isList (by simp; omega) fun h' eb => ⟨rfl, I.turned (t' := s.toks) (fun b o hb e => eb b o hb e) f0 f1 f3 f4 f5⟩
  self := fun _ _ _ _ _ st h => wpAny_pyIter_listiter st h
theorem turn_tuple {P : Program} {w : World} {K : PySem.W.Frag} {tg : Expr} (a it : Addr) : Turn P w K tg (Itt K a) [it] it (fun i h => h.IsTupleIter it a i) where
  mem := by simp
  obj := fun i h st b hb => by
    have e : b = it := by simpa using hb
    subst e
    obtain ⟨o, e, c, d⟩ := st
    exact ⟨o, e, fun v z => by rw [d] at z; cases z⟩
  keep := fun i h h' st k => st.at fun o e => k it (by simp) o e
  item := by
    intro X hP hw hK hc i pins s σ H E I hf st hg
    subst hP hw hK
    obtain ⟨xs, x, hq, hx⟩ := hg
    obtain ⟨its, rv, p, hz⟩ := I.tuple hq
    obtain ⟨u, hu, ru⟩ := rv.get hx
    obtain ⟨f0, f1, f2, f3, f4, f5⟩ := hf it (by simp)
    refine wpAny_pyNext_tuple_item st (show s.heap.IsTuple a its.toArray from p) (x := u) (by simpa using hu) fun h' st' sb => ?_
    have I1 : Inv X pins σ H { s with heap := h' } := I.turned (t' := s.toks) (fun b o hb e => (sb.2 b hb).trans e) f0 f1 f3 f4 f5
    obtain ⟨o, e, c, d⟩ := id st'
    exact ⟨u, rfl, go_of (s := { s with heap := h' }) e c d (by decide) ⟨x, H, I1, ru, ⟨rfl, fun ys hy => by rw [I.tuple_inj hy hq]; exact hx⟩, st', fun b hb => (hf b hb).1⟩⟩
  done := by
    intro X hP hw hK hc i pins s σ H E I hf st hg
    subst hP hw hK
    obtain ⟨xs, hq, hx⟩ := hg
    obtain ⟨its, rv, p, hz⟩ := I.tuple hq
    obtain ⟨f0, f1, f2, f3, f4, f5⟩ := hf it (by simp)
    have hl := rv.length
    exact wpAny_pyNext_tuple_end (I.ok.hd hc) st (show s.heap.IsTuple a its.toArray from p) (by simp; omega) fun h' eb => ⟨rfl, I.turned (t' := s.toks) (fun b o hb e => eb b o hb e) f0 f1 f3 f4 f5⟩
  self := fun _ _ _ _ _ st h => wpAny_pyIter_tupleiter st h
theorem turn_range {P : Program} {w : World} {K : PySem.W.Frag} {tg : Expr} (it : Addr) (lo : Int) (n : Nat) : Turn P w K tg (Itr lo n) [it] it (fun i h => IsRangeIter h it (lo + (i : Nat) * 1) ((n : Int) - (i : Nat)) 1) where
  mem := by simp
  obj := fun i h st b hb => by
    have e : b = it := by simpa using hb
    subst e
    exact ⟨_, st, fun v z => by
      have z' : Data.fields _ = Data.cell v := z
      cases z'⟩
  keep := fun i h h' st k => k it (by simp) _ st
  item := by
    intro X hP hw hK hc i pins s σ H E I hf st hg
    subst hP hw hK
    obtain ⟨f0, f1, f2, f3, f4, f5⟩ := hf it (by simp)
    have W := Walks.range (prog := X.prog) (w := X.w) (I.ok.hd hc) it lo 1 n
    refine W.item i s _ _ hg st fun v h' tk hv st' kk => ?_
    obtain ⟨t, rfl⟩ := hv
    have I1 : Inv X pins σ H { s with heap := h', toks := tk } := I.turned (fun b o hb e => kk b o (by simpa using hb) e) f0 f1 f3 f4 f5
    refine ⟨_, rfl, go_of (s := { s with heap := h', toks := tk }) (n := "range_iterator") st' rfl rfl (by decide) ⟨.int (lo + i), H, I1, ⟨t, ?_⟩, ⟨rfl, rfl⟩, st', fun b hb => (hf b hb).1⟩⟩
    rw [Int.mul_one]
  done := by
    intro X hP hw hK hc i pins s σ H E I hf st hg
    subst hP hw hK
    obtain ⟨f0, f1, f2, f3, f4, f5⟩ := hf it (by simp)
    exact wpAny_pyNext_range_end (I.ok.hd hc) st (by have : n ≤ i := hg; omega) fun h' eb => ⟨rfl, I.turned (t' := s.toks) (fun b o hb e => eb b o hb e) f0 f1 f3 f4 f5⟩
  self := fun _ _ _ _ _ st h => wpAny_pyIter_rangeiter st h
end L2

namespace L2
open PySem PySem.Spec PyProof.Rows
section
variable {X : Cx} {tg : Expr}
def iList (K : PySem.W.Frag) (tl : TE) : TI := fun σ H R => tl σ H fun x H1 => ∃ a, x = .ref a ∧ (∃ xs, SqL K H1 a xs) ∧ R (Itl K a) H1
def iTup (K : PySem.W.Frag) (tl : TE) : TI := fun σ H R => tl σ H fun x H1 => ∃ a, x = .ref a ∧ (∃ xs, SqT K H1 a xs) ∧ R (Itt K a) H1
theorem pi_list {l : Expr} {tl : TE} (hl : PE X l tl) : PI X tg l (iList X.K tl) := by
  intro pins s σ H R I h
  refine thn (hl pins s σ H _ I h) fun v s1 ⟨x, H1, I1, r1, q1⟩ => ?_
  obtain ⟨a, e, ⟨xs, hq⟩, q⟩ := q1
  subst e
  cases r1
  obtain ⟨its, rv, p, hz⟩ := I1.list hq
  refine wpAny_pyIter_list p.isList ?_
  refine ⟨s1.heap.objs.size, [s1.heap.objs.size], _, _, H1, rfl, I1.kept (t' := s1.toks) fun b o e => Heap.get?_push_of_some _ e, turn_list a _, ⟨_, Heap.get?_push_size _ rfl, rfl, rfl⟩, fun b hb => ?_, q⟩
  have e : b = s1.heap.objs.size := by simpa using hb
  subst e
  exact I1.fpOk (Nat.le_refl _) (I1.hok.fresh (Nat.le_refl _))
theorem pi_tup {l : Expr} {tl : TE} (hl : PE X l tl) : PI X tg l (iTup X.K tl) := by
  intro pins s σ H R I h
  refine thn (hl pins s σ H _ I h) fun v s1 ⟨x, H1, I1, r1, q1⟩ => ?_
  obtain ⟨a, e, ⟨xs, hq⟩, q⟩ := q1
  subst e
  cases r1
  obtain ⟨its, rv, p, hz⟩ := I1.tuple hq
  refine wpAny_pyIter_tuple (show s1.heap.IsTuple a its.toArray from p) ?_
  refine ⟨s1.heap.objs.size, [s1.heap.objs.size], _, _, H1, rfl, I1.kept (t' := s1.toks) fun b o e => Heap.get?_push_of_some _ e, turn_tuple a _, ⟨_, Heap.get?_push_size _ rfl, rfl, rfl⟩, fun b hb => ?_, q⟩
  have e : b = s1.heap.objs.size := by simpa using hb
  subst e
  exact I1.fpOk (Nat.le_refl _) (I1.hok.fresh (Nat.le_refl _))
/-- a range object just made, walked -/
theorem range_it {pins : List (Addr × Obj)} {σ : St} {H : Hp} {s : Shared} {R : It → Hp → Prop} {E : Value → Shared → Prop} {lo hi : Int} {t u v : Tok} {tk : Nat} (I : Inv X pins σ H s) (h1 : -(2 ^ 62) ≤ lo) (h2 : lo < 2 ^ 62) (h3 : -(2 ^ 62) ≤ hi) (h4 : hi < 2 ^ 62)
    (q : R (Itr lo (hi - lo).toNat) H) : wpAny (model X.prog X.w) X.A (pyIter (.ref s.heap.objs.size)) (PIE X pins σ tg R) E { s with heap := s.heap.push { cls := .type "range", data := .fields #[.int lo t, .int hi u, .int 1 v] }, toks := tk } := by
  refine wpAny_pyIter_range (IsRange.new ..) (small_one h1 h2 h3 h4) ?_
  have I1 : Inv X pins σ H { s with heap := s.heap.push { cls := .type "range", data := .fields #[.int lo t, .int hi u, .int 1 v] }, toks := tk } := I.kept fun b o e => Heap.get?_push_of_some _ e
  refine ⟨(s.heap.push { cls := .type "range", data := .fields #[.int lo t, .int hi u, .int 1 v] }).objs.size, [(s.heap.push { cls := .type "range", data := .fields #[.int lo t, .int hi u, .int 1 v] }).objs.size], _, _, H, rfl,
    I1.kept (t' := tk) fun b o e => Heap.get?_push_of_some _ e, turn_range _ lo (hi - lo).toNat, ?_, fun b hb => ?_, q⟩
  · have e1 : lo + ((0 : Nat) : Int) * 1 = lo := by simp
    have e2 : (((hi - lo).toNat : Nat) : Int) - ((0 : Nat) : Int) = Builtin.Range.rangeSize lo hi 1 := by rw [rangeSize_one]; split <;> omega
    show IsRangeIter _ _ (lo + ((0 : Nat) : Int) * 1) ((((hi - lo).toNat : Nat) : Int) - ((0 : Nat) : Int)) 1
    rw [e1, e2]
    exact Heap.get?_push_size _ rfl
  · have e : b = (s.heap.push { cls := .type "range", data := .fields #[.int lo t, .int hi u, .int 1 v] }).objs.size := by simpa using hb
    subst e
    exact I1.fpOk (Nat.le_refl _) (I1.hok.fresh (Nat.le_refl _))
def iRng1 (ta : TA) : TI := fun σ H R => ta σ H fun vs H1 => ∃ j : Int, vs = [.int j] ∧ -(2 ^ 62) ≤ j ∧ j < 2 ^ 62 ∧ R (Itr 0 j.toNat) H1
def iRng2 (ta : TA) : TI := fun σ H R => ta σ H fun vs H1 => ∃ i j : Int, vs = [.int i, .int j] ∧ (-(2 ^ 62) ≤ i ∧ i < 2 ^ 62 ∧ -(2 ^ 62) ≤ j ∧ j < 2 ^ 62) ∧ R (Itr i (j - i).toNat) H1
theorem pi_range1 {a : Expr} {ta : TA} {p pos : Pos} (hg : Gl X "range") (hm : X.mg "range" = none) (ha : PA X [a] ta) (hs : starEach [a] X.env = [(false, eval a X.env)] := by rfl) : PI X tg (.Call (.Name "range" p) [a] [] pos) (iRng1 ta) := by
  intro pins s σ H R I h
  refine Call_ (ld_blt I hg hm boot_range (PyProof.Rows.callWith_type1 (thn (ha pos pins s σ H _ I h) fun us s1 ⟨vs, H1, I1, r1, q1⟩ => ?_) hs rfl))
  obtain ⟨j, e, q1, q2, q⟩ := q1
  subst e
  cases r1 with
  | cons r rr =>
    cases rr
    obtain ⟨t, rfl⟩ := r
    exact call_range_1 (range_it I1 (by omega) (by omega) q1 q2 (by simpa using q))
theorem pi_range2 {a b : Expr} {ta : TA} {p pos : Pos} (hg : Gl X "range") (hm : X.mg "range" = none) (ha : PA X [a, b] ta) (hs : starEach [a, b] X.env = [(false, eval a X.env), (false, eval b X.env)] := by rfl) (hs2 : starEach [b] X.env = [(false, eval b X.env)] := by rfl) :
    PI X tg (.Call (.Name "range" p) [a, b] [] pos) (iRng2 ta) := by
  intro pins s σ H R I h
  refine Call_ (ld_blt I hg hm boot_range (PyProof.Rows.callWith_type1 (thn (ha pos pins s σ H _ I h) fun us s1 ⟨vs, H1, I1, r1, q1⟩ => ?_) (by rw [hs, hs2]) (by rw [hs2]; rfl)))
  obtain ⟨i, j, e, ⟨q1, q2, q3, q4⟩, q⟩ := q1
  subst e
  cases r1 with
  | cons r rr =>
    cases rr with
    | cons r' rr =>
      cases rr
      obtain ⟨t, rfl⟩ := r
      obtain ⟨t', rfl⟩ := r'
      exact call_range_2 (range_it I1 q1 q2 q3 q4 q)

/-! ### for -/
/-- W: the invariant by the turn and a measure; N: what the body is to reach -/
def tFor (wi : TI) (g : TG) (tb : TS) : TS := fun D σ H => wi σ H fun J H1 => ∃ W : Nat → Nat → St → Hp → Prop, (∃ m, W 0 m σ H1) ∧ ∀ i m σ H, W i m σ H →
  (J.stop i H ∧ D.nx σ H) ∨ (J.go i H ∧ ∃ N : St → Hp → Prop, (∀ σ' H', N σ' H' → ∃ m', m' < m ∧ W (i + 1) m' σ' H') ∧ ∀ x H', J.yld i H x H' → g x σ H' fun σ2 H2 => tb { D with nx := N, ct := N, bk := D.nx } σ2 H2)
/-- the records at fp as they stand -/
def pinsAt (fp : List Addr) (h : Heap) : List (Addr × Obj) := fp.filterMap fun b => (h.get? b).map fun o => (b, o)
theorem mem_pinsAt {fp : List Addr} {h : Heap} {b : Addr} {o : Obj} (hb : b ∈ fp) (e : h.get? b = some o) : (b, o) ∈ pinsAt fp h := List.mem_filterMap.mpr ⟨b, hb, by rw [e]; rfl⟩
theorem of_pinsAt {fp : List Addr} {h : Heap} {p : Addr × Obj} (hp : p ∈ pinsAt fp h) : p.1 ∈ fp ∧ h.get? p.1 = some p.2 := by
  obtain ⟨b, hb, e⟩ := List.mem_filterMap.mp hp
  cases q : h.get? b with
  | none => rw [q] at e; cases e
  | some o =>
    rw [q] at e
    have e' : (b, o) = p := Option.some.inj e
    subst e'
    exact ⟨hb, q⟩
theorem Inv.pinned {pins : List (Addr × Obj)} {σ : St} {H : Hp} {s : Shared} {fp : List Addr} (I : Inv X pins σ H s) (hf : ∀ b ∈ fp, FpOk X pins H b) (ho : ∀ b ∈ fp, ∃ o, s.heap.get? b = some o ∧ ∀ v, o.data ≠ .cell v) : Inv X (pins ++ pinsAt fp s.heap) σ H s :=
  I.pins_of fun p hp => (List.mem_append.mp hp).elim (fun z => I.pin p (List.mem_append_right _ z)) fun z => by
    obtain ⟨hb, e⟩ := of_pinsAt z
    obtain ⟨f0, f1, f2, _⟩ := hf p.1 hb
    obtain ⟨o, e', d⟩ := ho p.1 hb
    rw [e] at e'; cases e'
    exact ⟨e, f0, f1, f2, d⟩
theorem Inv.unpinned {pins pl : List (Addr × Obj)} {σ : St} {H : Hp} {s : Shared} (I : Inv X (pins ++ pl) σ H s) : Inv X pins σ H s := I.pins_of fun p hp => I.pin p (List.mem_append_right _ (List.mem_append_left _ hp))
theorem ps_for {iter : Expr} {body : List Stmt} {wi : TI} {g : TG} {tb : TS} {pos : Pos} (hp : PassesOwn (model X.prog X.w) X.A X.env X.xe) (hc : X.calm = true) (hi : PI X tg iter wi) (hg : PG X tg g) (hb : PSs X body tb)
    (hs : ∀ x, foldedSetIterable iter X.env x = pure x := by intro _; rfl) : PS X (.For tg iter body [] pos) (tFor wi g tb) := by
  intro pins s σ H D I h
  refine wpAny_For (thn (hi pins s σ H _ I h) fun v s1 h1 => thn h1 fun itv s2 h2 => ?_) hs
  obtain ⟨it, fp, tn, J, H2, e, I2, T, st2, f2, W, ⟨m0, w0⟩, turn⟩ := h2
  subst e
  -- what stays true of the iterator's objects through the loop
  have stat : ∀ {H' : Hp}, (∀ b ∈ fp, H' b = none) → ∀ b ∈ fp, FpOk X pins H' b := fun hn b hb => ⟨hn b hb, (f2 b hb).2⟩
  refine codeAny_forLoop_any (fun n s' => ∃ i σ' H', Inv X pins σ' H' s' ∧ tn i s'.heap ∧ (∀ b ∈ fp, H' b = none) ∧ W i n σ' H') ?_ m0 ⟨0, σ, H2, I2, st2, fun b hb => (f2 b hb).1, w0⟩
  rintro n s3 ⟨i, σ3, H3, I3, st3, fr3, w3⟩
  rcases turn i n σ3 H3 w3 with ⟨stop, qn⟩ | ⟨go, N, hN, step⟩
  · refine wpAny_passesOwn hp (thn (T.done X rfl rfl rfl hc i pins s3 σ3 H3 X.xe I3 (stat fr3) st3 stop) fun r s4 ⟨hr, I4⟩ => ?_)
    subst hr
    exact wpAny_execs_nil ⟨σ3, H3, I4, qn⟩
  · refine wpAny_passesOwn hp (thn (T.item X rfl rfl rfl hc i pins s3 σ3 H3 X.xe I3 (stat fr3) st3 go) fun r s4 ⟨u, hr, h4⟩ => ?_)
    subst hr
    refine wpAny_passesOwn hp (thn h4 fun _ s5 ⟨x, H5, I5, r5, y5, st5, fr5⟩ => ?_)
    have I5' := I5.pinned (stat fr5) (T.obj _ _ st5)
    refine wpAny_passesOwn hp (thn (hg _ s5 σ3 H5 x u _ I5' r5 (step x H5 y5)) fun _ s6 ⟨σ6, H6, I6, q6⟩ => ?_)
    refine wpAny_passesOwn hp (thn (hb _ s6 σ6 H6 _ I6 q6) fun f s7 q7 => ?_)
    have again : ∀ {σ7 : St} {H7 : Hp}, Inv X (pins ++ pinsAt fp s5.heap) σ7 H7 s7 → N σ7 H7 → ∃ m, m < n ∧ ∃ i σ' H', Inv X pins σ' H' s7 ∧ tn i s7.heap ∧ (∀ b ∈ fp, H' b = none) ∧ W i m σ' H' := fun {σ7 H7} I7 n7 => by
      obtain ⟨m', hm, w7⟩ := hN σ7 H7 n7
      refine ⟨m', hm, i + 1, σ7, H7, I7.unpinned, T.keep _ _ _ st5 fun b hb o e => (I7.pin (b, o) (List.mem_append_right _ (List.mem_append_right _ (mem_pinsAt hb e)))).1, fun b hb => ?_, w7⟩
      obtain ⟨o, e, d⟩ := T.obj _ _ st5 b hb
      exact (I7.pin (b, o) (List.mem_append_right _ (List.mem_append_right _ (mem_pinsAt hb e)))).2.1
    cases f with
    | next => obtain ⟨σ7, H7, I7, n7⟩ := q7; exact again I7 n7
    | cont => obtain ⟨σ7, H7, I7, n7⟩ := q7; exact again I7 n7
    | brk => obtain ⟨σ7, H7, I7, q7⟩ := q7; exact ⟨σ7, H7, I7.unpinned, q7⟩
    | ret v => obtain ⟨x7, σ7, H7, I7, r7, q7⟩ := q7; exact ⟨x7, σ7, H7, I7.unpinned, r7, q7⟩
end

/-! ### the forms one uses -/
/-- over a list that the body leaves as it is -/
theorem for_list {K : PySem.W.Frag} {a : Addr} {xs : List V} {g : TG} {tb : TS} {D : Ends} {σ : St} {H : Hp} (Pv : Nat → St → Hp → Prop) (h0 : Pv 0 σ H) (hl : ∀ i σ H, i ≤ xs.length → Pv i σ H → SqL K H a xs)
    (hs : ∀ i x σ H, xs[i]? = some x → Pv i σ H → g x σ H fun σ2 H2 => tb { D with nx := Pv (i + 1), ct := Pv (i + 1), bk := D.nx } σ2 H2) (hd : ∀ σ H, Pv xs.length σ H → D.nx σ H) :
    ∃ W : Nat → Nat → St → Hp → Prop, (∃ m, W 0 m σ H) ∧ ∀ i m σ H, W i m σ H →
      ((Itl K a).stop i H ∧ D.nx σ H) ∨ ((Itl K a).go i H ∧ ∃ N : St → Hp → Prop, (∀ σ' H', N σ' H' → ∃ m', m' < m ∧ W (i + 1) m' σ' H') ∧ ∀ x H', (Itl K a).yld i H x H' → g x σ H' fun σ2 H2 => tb { D with nx := N, ct := N, bk := D.nx } σ2 H2) := by
  refine ⟨fun i m σ H => m = xs.length - i ∧ i ≤ xs.length ∧ Pv i σ H, ⟨xs.length, by simp, Nat.zero_le _, h0⟩, ?_⟩
  rintro i m σ H ⟨rfl, hi, p⟩
  have q := hl i σ H hi p
  by_cases hlt : i < xs.length
  · refine .inr ⟨⟨xs, xs[i], q, by simp [hlt]⟩, Pv (i + 1), fun σ' H' p' => ⟨xs.length - (i + 1), by omega, rfl, hlt, p'⟩, fun x H' y => ?_⟩
    obtain ⟨e, y⟩ := y
    subst e
    exact hs i x σ _ (y xs q) p
  · have e : i = xs.length := by omega
    subst e
    exact .inl ⟨⟨xs, q, Nat.le_refl _⟩, hd σ H p⟩
theorem for_tup {K : PySem.W.Frag} {a : Addr} {xs : List V} {g : TG} {tb : TS} {D : Ends} {σ : St} {H : Hp} (Pv : Nat → St → Hp → Prop) (h0 : Pv 0 σ H) (hl : ∀ i σ H, i ≤ xs.length → Pv i σ H → SqT K H a xs)
    (hs : ∀ i x σ H, xs[i]? = some x → Pv i σ H → g x σ H fun σ2 H2 => tb { D with nx := Pv (i + 1), ct := Pv (i + 1), bk := D.nx } σ2 H2) (hd : ∀ σ H, Pv xs.length σ H → D.nx σ H) :
    ∃ W : Nat → Nat → St → Hp → Prop, (∃ m, W 0 m σ H) ∧ ∀ i m σ H, W i m σ H →
      ((Itt K a).stop i H ∧ D.nx σ H) ∨ ((Itt K a).go i H ∧ ∃ N : St → Hp → Prop, (∀ σ' H', N σ' H' → ∃ m', m' < m ∧ W (i + 1) m' σ' H') ∧ ∀ x H', (Itt K a).yld i H x H' → g x σ H' fun σ2 H2 => tb { D with nx := N, ct := N, bk := D.nx } σ2 H2) := by
  refine ⟨fun i m σ H => m = xs.length - i ∧ i ≤ xs.length ∧ Pv i σ H, ⟨xs.length, by simp, Nat.zero_le _, h0⟩, ?_⟩
  rintro i m σ H ⟨rfl, hi, p⟩
  have q := hl i σ H hi p
  by_cases hlt : i < xs.length
  · refine .inr ⟨⟨xs, xs[i], q, by simp [hlt]⟩, Pv (i + 1), fun σ' H' p' => ⟨xs.length - (i + 1), by omega, rfl, hlt, p'⟩, fun x H' y => ?_⟩
    obtain ⟨e, y⟩ := y
    subst e
    exact hs i x σ _ (y xs q) p
  · have e : i = xs.length := by omega
    subst e
    exact .inl ⟨⟨xs, q, Nat.le_refl _⟩, hd σ H p⟩
theorem for_range {lo : Int} {n : Nat} {g : TG} {tb : TS} {D : Ends} {σ : St} {H : Hp} (Pv : Nat → St → Hp → Prop) (h0 : Pv 0 σ H)
    (hs : ∀ i σ H, i < n → Pv i σ H → g (.int (lo + i)) σ H fun σ2 H2 => tb { D with nx := Pv (i + 1), ct := Pv (i + 1), bk := D.nx } σ2 H2) (hd : ∀ σ H, Pv n σ H → D.nx σ H) :
    ∃ W : Nat → Nat → St → Hp → Prop, (∃ m, W 0 m σ H) ∧ ∀ i m σ H, W i m σ H →
      ((Itr lo n).stop i H ∧ D.nx σ H) ∨ ((Itr lo n).go i H ∧ ∃ N : St → Hp → Prop, (∀ σ' H', N σ' H' → ∃ m', m' < m ∧ W (i + 1) m' σ' H') ∧ ∀ x H', (Itr lo n).yld i H x H' → g x σ H' fun σ2 H2 => tb { D with nx := N, ct := N, bk := D.nx } σ2 H2) := by
  refine ⟨fun i m σ H => m = n - i ∧ i ≤ n ∧ Pv i σ H, ⟨n, by simp, Nat.zero_le _, h0⟩, ?_⟩
  rintro i m σ H ⟨rfl, hi, p⟩
  by_cases hlt : i < n
  · refine .inr ⟨hlt, Pv (i + 1), fun σ' H' p' => ⟨n - (i + 1), by omega, rfl, hlt, p'⟩, fun x H' y => ?_⟩
    obtain ⟨e, y⟩ := y
    subst e y
    exact hs i σ _ hlt p
  · have e : i = n := by omega
    subst e
    exact .inl ⟨Nat.le_refl _, hd σ H p⟩
/-- while, by a word and a measure of the state -/
theorem while_by {c : TT} {tb : TS} {D : Ends} {σ : St} {H : Hp} (Pv : St → Hp → Prop) (μ : St → Hp → Nat) (h0 : Pv σ H)
    (hs : ∀ σ H, Pv σ H → c σ H fun b H1 => if b = true then tb { D with nx := fun σ' H' => Pv σ' H' ∧ μ σ' H' < μ σ H, ct := fun σ' H' => Pv σ' H' ∧ μ σ' H' < μ σ H, bk := D.nx } σ H1 else D.nx σ H1)
    (mono : ∀ σ H Q Q', (∀ b H1, Q b H1 → Q' b H1) → c σ H Q → c σ H Q') : tWhile c tb D σ H := by
  refine ⟨fun m σ H => m = μ σ H ∧ Pv σ H, ⟨_, rfl, h0⟩, ?_⟩
  rintro m σ H ⟨rfl, p⟩
  refine mono σ H _ _ (fun b H1 q => ?_) (hs σ H p)
  cases b with
  | true => exact ⟨_, fun σ' H' ⟨p', l⟩ => ⟨_, l, rfl, p'⟩, q⟩
  | false => exact q
end L2

namespace L2
open PySem PySem.Spec PyProof.Rows

abbrev R2 := V → V → Hp → VK → Prop
/-- a two-place operation on values: f is binaryOp op, inplaceOp op or compareOp op -/
def OpR (X : Cx) (f : Value → Value → Sem Value) (r : R2) : Prop :=
  ∀ (pins : List (Addr × Obj)) (s : Shared) (σ : St) (H : Hp) (x y : V) (v u : Value) (Q : VK), Inv X pins σ H s → RelV x v → RelV y u → r x y H Q →
    wpAny (model X.prog X.w) X.A (f v u) (EP X pins σ Q) X.xe s
/-- a one-place operation -/
def UnR (X : Cx) (f : Value → Sem Value) (r : V → Hp → VK → Prop) : Prop :=
  ∀ (pins : List (Addr × Obj)) (s : Shared) (σ : St) (H : Hp) (x : V) (v : Value) (Q : VK), Inv X pins σ H s → RelV x v → r x H Q →
    wpAny (model X.prog X.w) X.A (f v) (EP X pins σ Q) X.xe s
/-- a call of a value that is known (a builtin, a type) with values -/
def CallR (X : Cx) (f : Value) (r : List V → Hp → VK → Prop) : Prop :=
  ∀ (pins : List (Addr × Obj)) (s : Shared) (σ : St) (H : Hp) (xs : List V) (us : List Value) (Q : VK), Inv X pins σ H s → Vals xs us → r xs H Q →
    wpAny (model X.prog X.w) X.A (call f us) (EP X pins σ Q) X.xe s
/-- a value's truth -/
def TruR (X : Cx) (r : V → Hp → (Bool → Hp → Prop) → Prop) : Prop :=
  ∀ (pins : List (Addr × Obj)) (s : Shared) (σ : St) (H : Hp) (x : V) (v : Value) (Q : Bool → Hp → Prop), Inv X pins σ H s → RelV x v → r x H Q →
    wpAny (model X.prog X.w) X.A (truthy v) (TP X pins σ Q) X.xe s

def tOp (r : R2) (ta tb : TE) : TE := fun σ H Q => ta σ H fun x H1 => tb σ H1 fun y H2 => r x y H2 Q
def tUn (r : V → Hp → VK → Prop) (ta : TE) : TE := fun σ H Q => ta σ H fun x H1 => r x H1 Q
/-- ints in, under C, and a value out -/
def rI (C : Int → Int → Prop) (g : Int → Int → V) : R2 := fun x y H Q => ∃ i j, x = .int i ∧ y = .int j ∧ C i j ∧ Q (g i j) H
def rI0 (g : Int → Int → V) : R2 := fun x y H Q => ∃ i j, x = .int i ∧ y = .int j ∧ Q (g i j) H
def rU (g : Int → V) : V → Hp → VK → Prop := fun x H Q => ∃ i, x = .int i ∧ Q (g i) H

section
variable {X : Cx} {a b c : Expr} {ta tb tc : TE} {pos : Pos}

theorem binT (ha : PE X a ta) (hb : PE X b tb) {pins : List (Addr × Obj)} {s : Shared} {σ : St} {H : Hp} {R : V → V → Hp → Prop} (I : Inv X pins σ H s)
    (h : ta σ H fun x H1 => tb σ H1 fun y H2 => R x y H2) {Q : Value → Shared → Prop} {f : Value → Value → Sem Value}
    (hf : ∀ v u s2 x y H2, Inv X pins σ H2 s2 → RelV x v → RelV y u → R x y H2 → wpAny (model X.prog X.w) X.A (f v u) Q X.xe s2) :
    wpAny (model X.prog X.w) X.A (eval a X.env) (fun v s₁ => wpAny (model X.prog X.w) X.A (eval b X.env) (fun u s₂ => wpAny (model X.prog X.w) X.A (f v u) Q X.xe s₂) X.xe s₁) X.xe s := by
  refine thn (ha pins s σ H _ I h) fun v s1 ⟨x, H1, I1, r1, q1⟩ => ?_
  refine thn (hb pins s1 σ H1 _ I1 q1) fun u s2 ⟨y, H2, I2, r2, q2⟩ => ?_
  exact hf v u s2 x y H2 I2 r1 r2 q2

theorem pe_op {op : Operator} {r : R2} (ho : OpR X (binaryOp op) r) (ha : PE X a ta) (hb : PE X b tb) : PE X (.BinOp a op b pos) (tOp r ta tb) := by
  intro pins s σ H Q I h
  exact wpAny_BinOp (binT ha hb I h fun v u s2 x y H2 I2 rx ry q => ho pins s2 σ H2 x y v u Q I2 rx ry q)
theorem pe_un {op : UnaryOp} {r : V → Hp → VK → Prop} (ho : UnR X (unaryOp op) r) (ha : PE X a ta) : PE X (.UnaryOp op a pos) (tUn r ta) := by
  intro pins s σ H Q I h
  exact UnaryOp_ (thn (ha pins s σ H _ I h) fun v s1 ⟨x, H1, I1, r1, q1⟩ => ho pins s1 σ H1 x v Q I1 r1 q1)
/-- a op= e at a name: the name's slot i -/
theorem augR {op : Operator} {r : R2} (ho : OpR X (inplaceOp op) r) {pins : List (Addr × Obj)} {s : Shared} {σ : St} {H : Hp} {x y : V} {v u : Value} {Q : VK} (I : Inv X pins σ H s)
    (rx : RelV x v) (ry : RelV y u) (q : r x y H Q) : wpAny (model X.prog X.w) X.A (inplaceOp op v u) (EP X pins σ Q) X.xe s := ho pins s σ H x y v u Q I rx ry q

/-! ### ints -/
theorem opI {f : Value → Value → Sem Value} {C : Int → Int → Prop} {g : Int → Int → Int}
    (rule : ∀ (i j : Int) (t u : Tok) (s : Shared) (Q : Value → Shared → Prop) (E : Value → Shared → Prop), C i j → Q (.int (g i j) s.toks) { s with toks := s.toks + 1 } → wpAny (model X.prog X.w) X.A (f (.int i t) (.int j u)) Q E s) :
    OpR X f (rI C fun i j => .int (g i j)) := by
  intro pins s σ H x y v u Q I rx ry h
  obtain ⟨i, j, rfl, rfl, hc, q⟩ := h
  obtain ⟨t, rfl⟩ := rx
  obtain ⟨t', rfl⟩ := ry
  exact rule i j t t' s _ _ hc ⟨.int (g i j), H, I.tok _, ⟨_, rfl⟩, q⟩
theorem opI0 {f : Value → Value → Sem Value} {g : Int → Int → Int}
    (rule : ∀ (i j : Int) (t u : Tok) (s : Shared) (Q : Value → Shared → Prop) (E : Value → Shared → Prop), Q (.int (g i j) s.toks) { s with toks := s.toks + 1 } → wpAny (model X.prog X.w) X.A (f (.int i t) (.int j u)) Q E s) :
    OpR X f (rI0 fun i j => .int (g i j)) := by
  intro pins s σ H x y v u Q I rx ry h
  obtain ⟨i, j, rfl, rfl, q⟩ := h
  obtain ⟨t, rfl⟩ := rx
  obtain ⟨t', rfl⟩ := ry
  exact rule i j t t' s _ _ ⟨.int (g i j), H, I.tok _, ⟨_, rfl⟩, q⟩
theorem opB0 {f : Value → Value → Sem Value} {g : Int → Int → Bool}
    (rule : ∀ (i j : Int) (t u : Tok) (s : Shared) (Q : Value → Shared → Prop) (E : Value → Shared → Prop), Q (.bool (g i j)) s → wpAny (model X.prog X.w) X.A (f (.int i t) (.int j u)) Q E s) :
    OpR X f (rI0 fun i j => .bl (g i j)) := by
  intro pins s σ H x y v u Q I rx ry h
  obtain ⟨i, j, rfl, rfl, q⟩ := h
  obtain ⟨t, rfl⟩ := rx
  obtain ⟨t', rfl⟩ := ry
  exact rule i j t t' s _ _ ⟨.bl (g i j), H, I, rfl, q⟩

def CDiv (i j : Int) : Prop := 0 < j ∧ j < 1073741824
def CDivN (i j : Int) : Prop := j ≠ 0 ∧ j.natAbs < 1073741824
def CPow (i j : Int) : Prop := 0 ≤ j ∧ j ≤ 1000000 ∧ i.natAbs < 2 ^ 64
def CMul (i j : Int) : Prop := (-(2 ^ 64) < i ∧ i < 2 ^ 64) ∨ (-(2 ^ 64) < j ∧ j < 2 ^ 64)
theorem CMul.ok {i j : Int} (h : CMul i j) : IntMulOk i j := by
  rcases h with ⟨h1, h2⟩ | ⟨h1, h2⟩
  · exact .of_left (intBits_le_64 h1 h2)
  · exact .of_right (intBits_le_64 h1 h2)
theorem two_pow_nn (k : Nat) : (0 : Int) ≤ 2 ^ k := by
  rw [two_pow_cast]
  exact Int.natCast_nonneg _

theorem op_add : OpR X (binaryOp .Add) (rI0 fun i j => .int (i + j)) := opI0 fun _ _ _ _ _ _ _ q => add_int q
theorem op_sub : OpR X (binaryOp .Sub) (rI0 fun i j => .int (i - j)) := opI0 fun _ _ _ _ _ _ _ q => sub_int q
theorem op_mul : OpR X (binaryOp .Mult) (rI CMul fun i j => .int (i * j)) := opI fun _ _ _ _ _ _ _ hc q => mul_int q hc.ok
/-- // by a positive divisor -/
theorem op_fdiv : OpR X (binaryOp .FloorDiv) (rI CDiv fun i j => .int (i / j)) := opI fun i j _ _ _ _ _ hc q => by
  have h1 : (0 : Int) < j := hc.1
  have h2 : j < 1073741824 := hc.2
  exact floordiv_int (by omega) (by rw [Int.fdiv_eq_ediv_of_nonneg i (by omega)]; exact q) (.inl (PyProof.noPylong_small (by omega)))
theorem op_fdivN : OpR X (binaryOp .FloorDiv) (rI CDivN fun i j => .int (i.fdiv j)) := opI fun _ _ _ _ _ _ _ hc q => floordiv_int hc.1 q (.inl (PyProof.noPylong_small hc.2))
/-- % by a positive divisor of any size -/
theorem op_mod : OpR X (binaryOp .Mod) (rI (fun _ j => 0 < j) fun i j => .int (i % j)) := opI fun i j _ _ _ _ _ hc q => by
  have h1 : (0 : Int) < j := hc
  exact mod_int' (by omega) (by rw [Int.fmod_eq_emod_of_nonneg i (by omega)]; exact q)
theorem op_modN : OpR X (binaryOp .Mod) (rI (fun _ j => j ≠ 0) fun i j => .int (i.fmod j)) := opI fun _ _ _ _ _ _ _ hc q => mod_int' hc q
theorem op_pow : OpR X (binaryOp .Pow) (rI CPow fun i j => .int (i ^ j.toNat)) := opI fun _ _ _ _ _ _ _ hc q => pow_int_small hc.1 hc.2.1 hc.2.2 q
theorem op_shl : OpR X (binaryOp .LShift) (rI CPow fun i j => .int (i * 2 ^ j.toNat)) := opI fun _ _ _ _ _ _ _ hc q => lshift_int_small hc.1 hc.2.1 hc.2.2 q
theorem op_shr : OpR X (binaryOp .RShift) (rI (fun _ j => 0 ≤ j) fun i j => .int (i / 2 ^ j.toNat)) := opI fun i j _ _ _ _ _ hc q =>
  rshift_int hc (by rw [Int.fdiv_eq_ediv_of_nonneg i (two_pow_nn _)]; exact q)
theorem op_and : OpR X (binaryOp .BitAnd) (rI0 fun i j => .int (Builtin.bitAnd i j)) := opI0 fun _ _ _ _ _ _ _ q => and_int q
theorem op_or : OpR X (binaryOp .BitOr) (rI0 fun i j => .int (Builtin.bitOr i j)) := opI0 fun _ _ _ _ _ _ _ q => or_int q
theorem op_xor : OpR X (binaryOp .BitXor) (rI0 fun i j => .int (Builtin.bitXor i j)) := opI0 fun _ _ _ _ _ _ _ q => xor_int q

theorem iop_add : OpR X (inplaceOp .Add) (rI0 fun i j => .int (i + j)) := opI0 fun _ _ _ _ _ _ _ q => iadd_int q
theorem iop_sub : OpR X (inplaceOp .Sub) (rI0 fun i j => .int (i - j)) := opI0 fun _ _ _ _ _ _ _ q => isub_int q
theorem iop_mul : OpR X (inplaceOp .Mult) (rI CMul fun i j => .int (i * j)) := opI fun _ _ _ _ _ _ _ hc q => imul_int q hc.ok
theorem iop_fdiv : OpR X (inplaceOp .FloorDiv) (rI CDiv fun i j => .int (i / j)) := opI fun i j _ _ _ _ _ hc q => by
  have h1 : (0 : Int) < j := hc.1
  have h2 : j < 1073741824 := hc.2
  exact ifloordiv_int (by omega) (by rw [Int.fdiv_eq_ediv_of_nonneg i (by omega)]; exact q) (.inl (PyProof.noPylong_small (by omega)))
theorem iop_mod : OpR X (inplaceOp .Mod) (rI (fun _ j => 0 < j) fun i j => .int (i % j)) := opI fun i j _ _ _ _ _ hc q => by
  have h1 : (0 : Int) < j := hc
  exact imod_int (by omega) (by rw [Int.fmod_eq_emod_of_nonneg i (by omega)]; exact q)
theorem iop_shl : OpR X (inplaceOp .LShift) (rI CPow fun i j => .int (i * 2 ^ j.toNat)) := opI fun _ _ _ _ _ _ _ hc q => ilshift_int_small hc.1 hc.2.1 hc.2.2 q
theorem iop_shr : OpR X (inplaceOp .RShift) (rI (fun _ j => 0 ≤ j) fun i j => .int (i / 2 ^ j.toNat)) := opI fun i j _ _ _ _ _ hc q =>
  irshift_int hc (by rw [Int.fdiv_eq_ediv_of_nonneg i (two_pow_nn _)]; exact q)
theorem iop_and : OpR X (inplaceOp .BitAnd) (rI0 fun i j => .int (Builtin.bitAnd i j)) := opI0 fun _ _ _ _ _ _ _ q => iand_int q
theorem iop_or : OpR X (inplaceOp .BitOr) (rI0 fun i j => .int (Builtin.bitOr i j)) := opI0 fun _ _ _ _ _ _ _ q => ior_int q
theorem iop_xor : OpR X (inplaceOp .BitXor) (rI0 fun i j => .int (Builtin.bitXor i j)) := opI0 fun _ _ _ _ _ _ _ q => ixor_int q

theorem unI {f : Value → Sem Value} {g : Int → Int}
    (rule : ∀ (i : Int) (t : Tok) (s : Shared) (Q : Value → Shared → Prop) (E : Value → Shared → Prop), Q (.int (g i) s.toks) { s with toks := s.toks + 1 } → wpAny (model X.prog X.w) X.A (f (.int i t)) Q E s) :
    UnR X f (rU fun i => .int (g i)) := by
  intro pins s σ H x v Q I rx h
  obtain ⟨i, rfl, q⟩ := h
  obtain ⟨t, rfl⟩ := rx
  exact rule i t s _ _ ⟨.int (g i), H, I.tok _, ⟨_, rfl⟩, q⟩
theorem un_neg : UnR X (unaryOp .USub) (rU fun i => .int (-i)) := unI fun _ _ _ _ _ q => neg_int q
theorem un_inv : UnR X (unaryOp .Invert) (rU fun i => .int (Builtin.bitNot i)) := unI fun _ _ _ _ _ q => invert_int q

/-! ### bools among ints: n += (a < b) -/
theorem op_add_ib : OpR X (binaryOp .Add) (fun x y H Q => ∃ i k, x = .int i ∧ y = .bl k ∧ Q (.int (i + b2i k)) H) := by
  intro pins s σ H x y v u Q I rx ry h
  obtain ⟨i, k, rfl, rfl, q⟩ := h
  obtain ⟨t, rfl⟩ := rx
  cases ry
  exact add_int_bool ⟨.int (i + b2i k), H, I.tok _, ⟨_, rfl⟩, q⟩
end

/-! ### comparisons -/
/-- the scalars that == tells apart as data does -/
def scal : V → V → Bool
  | .non, .non => true | .non, .int _ => true | .int _, .non => true | .non, .bl _ => true | .bl _, .non => true | .non, .str _ => true | .str _, .non => true
  | .int _, .int _ => true | .bl _, .bl _ => true | .str _, .str _ => true | .byt _, .byt _ => true
  | .int _, .str _ => true | .str _, .int _ => true | .bl _, .str _ => true | .str _, .bl _ => true
  | _, _ => false
def rEq : R2 := fun x y H Q => scal x y = true ∧ Q (.bl (decide (x = y))) H
def rNe : R2 := fun x y H Q => scal x y = true ∧ Q (.bl (!decide (x = y))) H

theorem dec_int {i j : Int} : decide (V.int i = V.int j) = (i == j) := by
  rw [Bool.eq_iff_iff]
  simp
theorem dec_bl {i j : Bool} : decide (V.bl i = V.bl j) = (i == j) := by
  rw [Bool.eq_iff_iff]
  simp
theorem dec_str {i j : Str} : decide (V.str i = V.str j) = (i == j) := by
  rw [Bool.eq_iff_iff]
  simp
theorem dec_byt {i j : Array UInt8} : decide (V.byt i = V.byt j) = (i.toList == j.toList) := by
  rw [Bool.eq_iff_iff]
  cases i
  cases j
  simp

section
variable {X : Cx} {a b c : Expr} {ta tb tc : TE} {pos : Pos}
theorem fin_bl {pins : List (Addr × Obj)} {σ : St} {H : Hp} {s : Shared} {Q : VK} {k k' : Bool} (I : Inv X pins σ H s) (q : Q (.bl k) H) (e : k = k') : EP X pins σ Q (.bool k') s := by
  subst e
  exact ⟨.bl k, H, I, rfl, q⟩
theorem op_eq : OpR X (compareOp .Eq) rEq := by
  intro pins s σ H x y v u Q I rx ry h
  obtain ⟨hs, q⟩ := h
  cases x with
  | non =>
    cases rx
    cases y with
    | non => cases ry; exact PySem.EqNone.eq_none_none (fin_bl I q (by simp))
    | bl j => cases ry; exact PySem.EqNone.eq_none_bool (fin_bl I q (by simp))
    | int j => obtain ⟨t', rfl⟩ := ry; exact PySem.EqNone.eq_none_int (fin_bl I q (by simp))
    | str j => obtain ⟨t', rfl⟩ := ry; exact PySem.EqNone.eq_none_str (fin_bl I q (by simp))
    | _ => exact absurd (show false = true from hs) Bool.false_ne_true
  | bl i =>
    cases rx
    cases y with
    | non => cases ry; exact PySem.EqNone.eq_bool_none (fin_bl I q (by simp))
    | bl j => cases ry; exact eq_bool (fin_bl I q dec_bl)
    | str j => obtain ⟨t', rfl⟩ := ry; exact PySem.EqMixed.eq_bool_str (fin_bl I q (by simp))
    | _ => exact absurd (show false = true from hs) Bool.false_ne_true
  | int i =>
    obtain ⟨t, rfl⟩ := rx
    cases y with
    | non => cases ry; exact PySem.EqNone.eq_int_none (fin_bl I q (by simp))
    | int j => obtain ⟨t', rfl⟩ := ry; exact eq_int (fin_bl I q dec_int)
    | str j => obtain ⟨t', rfl⟩ := ry; exact PySem.EqMixed.eq_int_str (fin_bl I q (by simp))
    | _ => exact absurd (show false = true from hs) Bool.false_ne_true
  | str i =>
    obtain ⟨t, rfl⟩ := rx
    cases y with
    | non => cases ry; exact PySem.EqNone.eq_str_none (fin_bl I q (by simp))
    | bl j => cases ry; exact PySem.EqMixed.eq_str_bool (fin_bl I q (by simp))
    | int j => obtain ⟨t', rfl⟩ := ry; exact PySem.EqMixed.eq_str_int (fin_bl I q (by simp))
    | str j => obtain ⟨t', rfl⟩ := ry; exact eq_str (fin_bl I q dec_str)
    | _ => exact absurd (show false = true from hs) Bool.false_ne_true
  | byt i =>
    obtain ⟨t, rfl⟩ := rx
    cases y with
    | byt j => obtain ⟨t', rfl⟩ := ry; exact PySem.W.eq_bytes (fin_bl I q dec_byt)
    | _ => exact absurd (show false = true from hs) Bool.false_ne_true
  | _ => cases y <;> exact absurd (show false = true from hs) Bool.false_ne_true
theorem op_ne : OpR X (compareOp .NotEq) rNe := by
  intro pins s σ H x y v u Q I rx ry h
  obtain ⟨hs, q⟩ := h
  cases x with
  | non =>
    cases rx
    cases y with
    | non => cases ry; exact PySem.EqNone.ne_none_none (fin_bl I q (by simp))
    | bl j => cases ry; exact PySem.EqNone.ne_none_bool (fin_bl I q (by simp))
    | int j => obtain ⟨t', rfl⟩ := ry; exact PySem.EqNone.ne_none_int (fin_bl I q (by simp))
    | str j => obtain ⟨t', rfl⟩ := ry; exact PySem.EqNone.ne_none_str (fin_bl I q (by simp))
    | _ => exact absurd (show false = true from hs) Bool.false_ne_true
  | bl i =>
    cases rx
    cases y with
    | non => cases ry; exact PySem.EqNone.ne_bool_none (fin_bl I q (by simp))
    | bl j => cases ry; exact ne_bool (fin_bl I q (congrArg not dec_bl))
    | str j => obtain ⟨t', rfl⟩ := ry; exact PySem.EqMixed.ne_bool_str (fin_bl I q (by simp))
    | _ => exact absurd (show false = true from hs) Bool.false_ne_true
  | int i =>
    obtain ⟨t, rfl⟩ := rx
    cases y with
    | non => cases ry; exact PySem.EqNone.ne_int_none (fin_bl I q (by simp))
    | int j => obtain ⟨t', rfl⟩ := ry; exact ne_int (fin_bl I q (congrArg not dec_int))
    | str j => obtain ⟨t', rfl⟩ := ry; exact PySem.EqMixed.ne_int_str (fin_bl I q (by simp))
    | _ => exact absurd (show false = true from hs) Bool.false_ne_true
  | str i =>
    obtain ⟨t, rfl⟩ := rx
    cases y with
    | non => cases ry; exact PySem.EqNone.ne_str_none (fin_bl I q (by simp))
    | bl j => cases ry; exact PySem.EqMixed.ne_str_bool (fin_bl I q (by simp))
    | int j => obtain ⟨t', rfl⟩ := ry; exact PySem.EqMixed.ne_str_int (fin_bl I q (by simp))
    | str j => obtain ⟨t', rfl⟩ := ry; exact ne_str (fin_bl I q (congrArg not dec_str))
    | _ => exact absurd (show false = true from hs) Bool.false_ne_true
  | byt i =>
    obtain ⟨t, rfl⟩ := rx
    cases y with
    | byt j => obtain ⟨t', rfl⟩ := ry; exact PySem.W.ne_bytes (fin_bl I q (congrArg not dec_byt))
    | _ => exact absurd (show false = true from hs) Bool.false_ne_true
  | _ => cases y <;> exact absurd (show false = true from hs) Bool.false_ne_true

theorem op_lt : OpR X (compareOp .Lt) (rI0 fun i j => .bl (decide (i < j))) := opB0 fun _ _ _ _ _ _ _ q => lt_int q
theorem op_le : OpR X (compareOp .LtE) (rI0 fun i j => .bl (decide (i ≤ j))) := opB0 fun _ _ _ _ _ _ _ q => le_int q
theorem op_gt : OpR X (compareOp .Gt) (rI0 fun i j => .bl (decide (j < i))) := opB0 fun _ _ _ _ _ _ _ q => gt_int q
theorem op_ge : OpR X (compareOp .GtE) (rI0 fun i j => .bl (decide (j ≤ i))) := opB0 fun _ _ _ _ _ _ _ q => ge_int q
theorem op_lt_str : OpR X (compareOp .Lt) (fun x y H Q => ∃ i j, x = .str i ∧ y = .str j ∧ Q (.bl (decide (i.cps.toList < j.cps.toList))) H) := by
  intro pins s σ H x y v u Q I rx ry h
  obtain ⟨i, j, rfl, rfl, q⟩ := h
  obtain ⟨t, rfl⟩ := rx
  obtain ⟨t', rfl⟩ := ry
  exact lt_str (fin_bl I q rfl)
/-- the one string within the other -/
theorem op_in_str : OpR X (compareOp .In) (fun x y H Q => ∃ i j, x = .str i ∧ y = .str j ∧ Q (.bl (!(Builtin.Str.occurrences j i 0 j.length 1).isEmpty)) H) := by
  intro pins s σ H x y v u Q I rx ry h
  obtain ⟨i, j, rfl, rfl, q⟩ := h
  obtain ⟨t, rfl⟩ := rx
  obtain ⟨t', rfl⟩ := ry
  exact in_str (fin_bl I q rfl)

/-- is None, is not None: the right side a value none -/
theorem op_isN : OpR X (compareOp .Is) (fun x y H Q => y = .non ∧ Q (.bl (decide (x = .non))) H) := by
  intro pins s σ H x y v u Q I rx ry h
  obtain ⟨rfl, q⟩ := h
  cases ry
  refine is_none_gen (fin_bl I q ?_)
  cases x <;> first
    | (cases rx; rfl)
    | (obtain ⟨t, rfl⟩ := rx; rfl)
theorem op_notN : OpR X (compareOp .IsNot) (fun x y H Q => y = .non ∧ Q (.bl (!decide (x = .non))) H) := by
  intro pins s σ H x y v u Q I rx ry h
  obtain ⟨rfl, q⟩ := h
  cases ry
  refine isnot_none_gen (fin_bl I q ?_)
  cases x <;> first
    | (cases rx; rfl)
    | (obtain ⟨t, rfl⟩ := rx; rfl)

theorem op_notin_str : OpR X (compareOp .NotIn) (fun x y H Q => ∃ i j, x = .str i ∧ y = .str j ∧ Q (.bl (!(!(Builtin.Str.occurrences j i 0 j.length 1).isEmpty))) H) := by
  intro pins s σ H x y v u Q I rx ry h
  obtain ⟨i, j, rfl, rfl, q⟩ := h
  obtain ⟨t, rfl⟩ := rx
  obtain ⟨t', rfl⟩ := ry
  exact notIn_str (fin_bl I q rfl)
/-- is, is not of two objects that are tracked lists or instances -/
def isObj : HO → Bool
  | .lst _ => true
  | .ins _ _ _ => true
  | _ => false
theorem obj_there {pins : List (Addr × Obj)} {s : Shared} {σ : St} {H : Hp} {a : Addr} {o : HO} (I : Inv X pins σ H s) (h : H a = some o) (p : isObj o = true) : ∃ ob, s.heap.get? a = some ob ∧ ob.cls ≠ .type "tuple" := by
  cases o with
  | lst xs =>
    obtain ⟨_, its, n, _, e⟩ : xs.length ≤ sizeLine ∧ ∃ (its : List Value) (n : Nat), Vals xs its ∧ s.heap.get? a = some { cls := .type "list", data := .seq its.toArray n } := I.hok a _ h
    exact ⟨_, e, (by show Value.type "list" ≠ .type "tuple"; decide +kernel)⟩
  | ins C dx fs =>
    have x := I.hok a _ h
    obtain ⟨_, _, _, e, _⟩ := x
    exact ⟨_, e, (by show Value.ref C ≠ .type "tuple"; exact fun z => by cases z)⟩
  | _ => exact absurd (show false = true from p) Bool.false_ne_true
theorem op_is_ref : OpR X (compareOp .Is) (fun x y H Q => ∃ a b oa ob, x = .ref a ∧ y = .ref b ∧ H a = some oa ∧ isObj oa = true ∧ H b = some ob ∧ isObj ob = true ∧ Q (.bl (decide (a = b))) H) := by
  intro pins s σ H x y v u Q I rx ry h
  obtain ⟨a, b, oa, ob, rfl, rfl, ha, pa, hb, pb, q⟩ := h
  cases rx
  cases ry
  obtain ⟨o1, e1, n1⟩ := obj_there I ha pa
  obtain ⟨o2, e2, _⟩ := obj_there I hb pb
  by_cases z : a = b
  · subst z
    exact wpAny_is_ref_self (fin_bl I q (by simp))
  · exact wpAny_is_ref_other z e1 e2 n1 (fin_bl I q (by simp [z]))
theorem op_isnot_ref : OpR X (compareOp .IsNot) (fun x y H Q => ∃ a b oa ob, x = .ref a ∧ y = .ref b ∧ H a = some oa ∧ isObj oa = true ∧ H b = some ob ∧ isObj ob = true ∧ Q (.bl (!decide (a = b))) H) := by
  intro pins s σ H x y v u Q I rx ry h
  obtain ⟨a, b, oa, ob, rfl, rfl, ha, pa, hb, pb, q⟩ := h
  cases rx
  cases ry
  obtain ⟨o1, e1, n1⟩ := obj_there I ha pa
  obtain ⟨o2, e2, _⟩ := obj_there I hb pb
  by_cases z : a = b
  · subst z
    exact wpAny_isNot_ref_self (fin_bl I q (by simp))
  · exact wpAny_isNot_ref_other z e1 e2 n1 (fin_bl I q (by simp [z]))

/-- two rules for one operation: by cases -/
theorem OpR.or {f : Value → Value → Sem Value} {r r' : R2} (h : OpR X f r) (h' : OpR X f r') : OpR X f (fun x y H Q => r x y H Q ∨ r' x y H Q) := by
  intro pins s σ H x y v u Q I rx ry q
  rcases q with q | q
  · exact h pins s σ H x y v u Q I rx ry q
  · exact h' pins s σ H x y v u Q I rx ry q

theorem nomark (b : Expr) {op : CmpOp} (h : op ≠ .In := by decide) (h2 : op ≠ .NotIn := by decide) : behindInMarks op b = false := by
  have e1 : (op == CmpOp.In) = false := by cases op <;> first | rfl | exact absurd rfl h
  have e2 : (op == CmpOp.NotIn) = false := by cases op <;> first | rfl | exact absurd rfl h2
  cases b <;> simp [behindInMarks, e1, e2]
/-- a comparison as a value; hm: nomark b, or (for in, not in) by with_unfolding_all rfl -/
theorem pe_cmpR {op : CmpOp} {r : R2} (ho : OpR X (compareOp op) r) (ha : PE X a ta) (hb : PE X b tb) (hm : behindInMarks op b = false) : PE X (.Compare a [op] [b] pos) (tOp r ta tb) := by
  intro pins s σ H Q I h
  exact wpAny_Compare1 (binT ha hb I h fun v u s2 x y H2 I2 rx ry q => ho pins s2 σ H2 x y v u Q I2 rx ry q) hm
/-- a reading of a value as a test -/
def tTest (t : TE) : TT := fun σ H Q => t σ H fun x H' => ∃ k, x = .bl k ∧ Q k H'
theorem pt_cmpR {op : CmpOp} {r : R2} (ho : OpR X (compareOp op) r) (ha : PE X a ta) (hb : PE X b tb) (hm : behindInMarks op b = false) : PT X (.Compare a [op] [b] pos) (tTest (tOp r ta tb)) := by
  intro pins s σ H Q I h
  refine wpAny_isTrue_Compare1 (thn (ha pins s σ H _ I h) fun v s1 ⟨x, H1, I1, r1, q1⟩ => thn (hb pins s1 σ H1 _ I1 q1) fun u s2 ⟨y, H2, I2, r2, q2⟩ =>
    thn (ho pins s2 σ H2 x y v u _ I2 r1 r2 q2) fun c s3 ⟨z, H3, I3, r3, k, e, q3⟩ => ?_) hm
  subst e
  cases r3
  exact wpAny_truthy_bool ⟨H3, I3, q3⟩
/-- a op1 b op2 c -/
def tChain (r r' : R2) (ta tb tc : TE) : TE := fun σ H Q => ta σ H fun x H1 => tb σ H1 fun y H2 => r x y H2 fun z H3 => ∃ k, z = .bl k ∧
  (if k = true then tc σ H3 fun w' H4 => r' y w' H4 Q else Q (.bl false) H3)
theorem pe_chain {op op' : CmpOp} {r r' : R2} (ho : OpR X (compareOp op) r) (ho' : OpR X (compareOp op') r') (ha : PE X a ta) (hb : PE X b tb) (hc : PE X c tc)
    (hm : lastMarks [op, op'] [b, c] = false := by with_unfolding_all rfl) : PE X (.Compare a [op, op'] [b, c] pos) (tChain r r' ta tb tc) := by
  intro pins s σ H Q I h
  refine Compare_chain (thn (ha pins s σ H _ I h) fun v s1 ⟨x, H1, I1, r1, q1⟩ => chain_link (thn (hb pins s1 σ H1 _ I1 q1) fun u s2 ⟨y, H2, I2, r2, q2⟩ =>
    thn (ho pins s2 σ H2 x y v u _ I2 r1 r2 q2) fun d s3 ⟨z, H3, I3, r3, k, e, q3⟩ => ?_)) hm
  subst e
  cases r3
  refine wpAny_truthy_bool ?_
  cases k with
  | false => exact ite_ff ⟨.bl false, H3, I3, rfl, q3⟩
  | true => exact ite_tt (chain_last (thn (hc pins s3 σ H3 _ I3 q3) fun w' s4 ⟨z', H4, I4, r4, q4⟩ => ho' pins s4 σ H4 y z' u w' Q I4 r2 r4 q4))
theorem pt_chain {op op' : CmpOp} {r r' : R2} (ho : OpR X (compareOp op) r) (ho' : OpR X (compareOp op') r') (ha : PE X a ta) (hb : PE X b tb) (hc : PE X c tc)
    (hm : lastMarks [op, op'] [b, c] = false := by with_unfolding_all rfl) : PT X (.Compare a [op, op'] [b, c] pos) (tTest (tChain r r' ta tb tc)) := by
  intro pins s σ H Q I h
  refine isTrue_chain (thn (ha pins s σ H _ I h) fun v s1 ⟨x, H1, I1, r1, q1⟩ => test_link (thn (hb pins s1 σ H1 _ I1 q1) fun u s2 ⟨y, H2, I2, r2, q2⟩ =>
    thn (ho pins s2 σ H2 x y v u _ I2 r1 r2 q2) fun d s3 ⟨z, H3, I3, r3, k, e, q3⟩ => ?_)) hm
  subst e
  cases r3
  refine wpAny_truthy_bool ?_
  cases k with
  | false =>
    obtain ⟨k', e', q'⟩ := q3
    cases e'
    exact ite_ff ⟨H3, I3, q'⟩
  | true =>
    refine ite_tt (test_last (thn (hc pins s3 σ H3 _ I3 q3) fun w' s4 ⟨z', H4, I4, r4, q4⟩ => thn (ho' pins s4 σ H4 y z' u w' _ I4 r2 r4 q4) fun d' s5 ⟨z2, H5, I5, r5, k2, e2, q5⟩ => ?_))
    subst e2
    cases r5
    exact wpAny_truthy_bool ⟨H5, I5, q5⟩

/-! ### truth -/
/-- a value's truth by the abstract heap -/
def TruV (K : PySem.W.Frag) (x : V) (H : Hp) (k : Bool) : Prop :=
  match x with
  | .non => k = false
  | .bl b => k = b
  | .int i => k = (i != 0)
  | .str y => y.length ≤ sizeLine ∧ k = ((y.length : Int) != 0)
  | .byt y => y.size ≤ sizeLine ∧ k = ((y.size : Int) != 0)
  | .ref p => (∃ xs, SqL K H p xs ∧ k = !xs.isEmpty) ∨ (∃ xs, SqT K H p xs ∧ k = !xs.isEmpty) ∨ ∃ kvs, H p = some (.dK kvs) ∧ k = !kvs.isEmpty
  | _ => False
theorem isEmpty_kv {κ : Type} {kvs : List (κ × V)} {vs : List (κ × Value)} (r : KV kvs vs) : (!vs.isEmpty) = !kvs.isEmpty := by
  cases r <;> rfl
theorem isEmpty_of {xs : List V} {its : List Value} (r : Vals xs its) : (!its.toArray.isEmpty) = !xs.isEmpty := by
  cases r <;> simp
theorem line63 : (sizeLine : Nat) < 2 ^ 63 := by rw [sizeLine_eq]; decide
theorem tru_ok : TruR X (fun x H Q => ∃ k, TruV X.K x H k ∧ Q k H) := by
  intro pins s σ H x v Q I rx h
  obtain ⟨k, e, q⟩ := h
  have hl := line63
  have hs : sizeLine = 16777216 := sizeLine_eq
  cases x with
  | non =>
    cases rx
    have e' : k = false := e
    subst e'
    exact truthy_none ⟨H, I, q⟩
  | bl b =>
    cases rx
    have e' : k = b := e
    subst e'
    exact wpAny_truthy_bool ⟨H, I, q⟩
  | int i =>
    obtain ⟨t, rfl⟩ := rx
    have e' : k = (i != 0) := e
    subst e'
    exact PySem.P.truthy_int ⟨H, I, q⟩
  | str y =>
    obtain ⟨t, rfl⟩ := rx
    obtain ⟨hy, e'⟩ : y.length ≤ sizeLine ∧ k = ((y.length : Int) != 0) := e
    subst e'
    exact PySem.P.truthy_str (by omega) ⟨H, I.tok _, q⟩
  | byt y =>
    obtain ⟨t, rfl⟩ := rx
    obtain ⟨hy, e'⟩ : y.size ≤ sizeLine ∧ k = ((y.size : Int) != 0) := e
    subst e'
    exact PySem.W.truthy_bytes (by omega) ⟨H, I.tok _, q⟩
  | ref p =>
    cases rx
    have e' : (∃ xs, SqL X.K H p xs ∧ k = !xs.isEmpty) ∨ (∃ xs, SqT X.K H p xs ∧ k = !xs.isEmpty) ∨ ∃ kvs, H p = some (.dK kvs) ∧ k = !kvs.isEmpty := e
    rcases e' with ⟨xs, hx, e'⟩ | ⟨xs, hx, e'⟩ | ⟨kvs, hx, e'⟩
    · subst e'
      obtain ⟨its, r, pl, hz⟩ := I.list hx
      have hlen := r.length
      exact wpAny_truthy_list pl.isList (by simp only [List.size_toArray]; omega) ⟨H, I.tok _, by rw [isEmpty_of r]; exact q⟩
    · subst e'
      obtain ⟨its, r, pl, hz⟩ := I.tuple hx
      have hlen := r.length
      exact truthy_tuple pl (by simp only [List.size_toArray]; omega) ⟨H, I.tok _, by rw [isEmpty_of r]; exact q⟩
    · subst e'
      obtain ⟨hz, hS, vs, r, m⟩ : kvs.length ≤ sizeLine ∧ (p == sysModules) = false ∧ ∃ vs, KV kvs vs ∧ s.heap.DictOf (mixKind X.prog X.w) p vs := I.hok p _ hx
      have hlen : kvs.length = vs.length := Paired.length r
      exact wpAny_truthy_dict hS m (by omega) ⟨H, I.tok _, by rw [isEmpty_kv r]; exact q⟩
  | _ => exact (show False from e).elim
/-- any expression whose test is its value's truth (a name, a call, a subscript, a field ..: he by fun _ => rfl) -/
theorem pt_truth (ha : PE X a ta) (he : ∀ whole, isTrue a X.env whole = (do let v ← whole; standAt a.pos; holding [v] (truthy v))) :
    PT X a (fun σ H Q => ta σ H fun x H' => ∃ k, TruV X.K x H' k ∧ Q k H') := by
  intro pins s σ H Q I h
  exact isTrue_plain (thn (ha pins s σ H _ I h) fun v s1 ⟨x, H1, I1, r1, q1⟩ => tru_ok pins s1 σ H1 x v Q I1 r1 q1) (he _)

/-! ### strs and bytes -/
theorem pe_byt {x : List UInt8} {k : Nat} : PE X (.Constant (.bytes x) k pos) (fun _ H Q => Q (.byt x.toArray) H) := fun _ _ _ H _ I h => PySem.W.Constant_bytes ⟨.byt x.toArray, H, I.tok _, ⟨_, rfl⟩, h⟩
theorem op_add_str : OpR X (binaryOp .Add) (fun x y H Q => ∃ i j, x = .str i ∧ y = .str j ∧ i.length + j.length ≤ sizeLine ∧ Q (.str (i ++ j)) H) := by
  intro pins s σ H x y v u Q I rx ry h
  obtain ⟨i, j, rfl, rfl, hz, q⟩ := h
  obtain ⟨t, rfl⟩ := rx
  obtain ⟨t', rfl⟩ := ry
  exact add_str (fun t' tk => ⟨.str (i ++ j), H, I.tok _, ⟨_, rfl⟩, q⟩) hz
theorem iop_add_str : OpR X (inplaceOp .Add) (fun x y H Q => ∃ i j, x = .str i ∧ y = .str j ∧ i.length + j.length ≤ sizeLine ∧ Q (.str (i ++ j)) H) := by
  intro pins s σ H x y v u Q I rx ry h
  obtain ⟨i, j, rfl, rfl, hz, q⟩ := h
  obtain ⟨t, rfl⟩ := rx
  obtain ⟨t', rfl⟩ := ry
  exact iadd_str (fun t' tk => ⟨.str (i ++ j), H, I.tok _, ⟨_, rfl⟩, q⟩) hz
theorem op_add_byt : OpR X (binaryOp .Add) (fun x y H Q => ∃ i j, x = .byt i ∧ y = .byt j ∧ i.size + j.size ≤ 16777216 ∧ Q (.byt (i ++ j)) H) := by
  intro pins s σ H x y v u Q I rx ry h
  obtain ⟨i, j, rfl, rfl, hz, q⟩ := h
  obtain ⟨t, rfl⟩ := rx
  obtain ⟨t', rfl⟩ := ry
  exact PySem.W.KBy.add_bytes hz (fun t' tk => ⟨.byt (i ++ j), H, I.tok _, ⟨_, rfl⟩, q⟩)

def PlainIxT (b : Expr) : Prop := ∀ o i, subscripted b false o i = operate [o, i] (getItem o i)
/-- s[i], 0 ≤ i < len -/
theorem pe_item_str (ha : PE X a ta) (hb : PE X b tb) (hs : PlainIxT b) :
    PE X (.Subscript a b pos) (tOp (fun x y H Q => ∃ z i c, x = .str z ∧ y = .int i ∧ 0 ≤ i ∧ i < 2 ^ 63 ∧ i < z.length ∧ z.cps[i.toNat]? = some c ∧ Q (.str ⟨#[c]⟩) H) ta tb) := by
  intro pins s σ H Q I h
  refine Subscript_ (binT ha hb I h fun v u s2 x y H2 I2 rx ry q => ?_)
  obtain ⟨z, i, c, rfl, rfl, h0, h63, h1, hc, q⟩ := q
  obtain ⟨t, rfl⟩ := rx
  obtain ⟨t', rfl⟩ := ry
  have e : seqIndex? i z.length = some i.toNat := PySem.StrLaws.seqIndex_nonneg h0 h1
  exact tail_any (typeIs_str s2 z t) slot_str_getitem.lookup (getItem_str (c := c) (by
    have e1 : decide (i < -(2 ^ 63 : Int)) = false := decide_eq_false (by omega)
    have e2 : decide (i ≥ 2 ^ 63) = false := decide_eq_false (by omega)
    rw [e1, e2] <;> rfl) (by rw [e]; exact hc) ⟨.str ⟨#[c]⟩, H2, I2.tok _, ⟨_, rfl⟩, q⟩) (hs _ _)
/-- b[i], 0 ≤ i < len -/
theorem pe_item_byt (ha : PE X a ta) (hb : PE X b tb) (hs : PlainIxT b) :
    PE X (.Subscript a b pos) (tOp (fun x y H Q => ∃ (z : List UInt8) (i : Int), x = .byt z.toArray ∧ y = .int i ∧ z.length ≤ sizeLine ∧ 0 ≤ i ∧ i < z.length ∧ Q (.int ((z.getD i.toNat 0).toNat : Nat)) H) ta tb) := by
  intro pins s σ H Q I h
  refine Subscript_ (binT ha hb I h fun v u s2 x y H2 I2 rx ry q => ?_)
  obtain ⟨z, i, rfl, rfl, hz, h0, h1, q⟩ := q
  obtain ⟨t, rfl⟩ := rx
  obtain ⟨t', rfl⟩ := ry
  have hl : sizeLine = 16777216 := sizeLine_eq
  exact tail_any (PySem.W.typeIs_bytes s2 z.toArray t) PySem.W.FB.slot_bytes_getitem.lookup (PySem.W.getItem_bytes (by omega) h0 h1 ⟨.int ((z.getD i.toNat 0).toNat : Nat), H2, I2.tok _, ⟨_, rfl⟩, q⟩) (hs _ _)

/-! ### scalar builtins, by CallR -/
theorem vals1 {x : V} {us : List Value} (r : Vals [x] us) : ∃ u, us = [u] ∧ RelV x u := by
  cases r with
  | cons r1 r2 => cases r2; exact ⟨_, rfl, r1⟩
theorem vals2 {x y : V} {us : List Value} (r : Vals [x, y] us) : ∃ u w', us = [u, w'] ∧ RelV x u ∧ RelV y w' := by
  cases r with
  | cons r1 r2 =>
    cases r2 with
    | cons r3 r4 => cases r4; exact ⟨_, _, rfl, r1, r3⟩
theorem call_abs : CallR X (.builtin "abs") (fun xs H Q => ∃ i, xs = [.int i] ∧ Q (.int (if i < 0 then -i else i)) H) := by
  intro pins s σ H xs us Q I r h
  obtain ⟨i, rfl, q⟩ := h
  obtain ⟨u, rfl, t, rfl⟩ := vals1 r
  exact call_abs_int fun u tk => ⟨.int (if i < 0 then -i else i), H, I.tok _, ⟨_, rfl⟩, q⟩
theorem call_max2 (hc : X.calm = true) : CallR X (.builtin "max") (fun xs H Q => ∃ i j, xs = [.int i, .int j] ∧ Q (.int (if j > i then j else i)) H) := by
  intro pins s σ H xs us Q I r h
  obtain ⟨i, j, rfl, q⟩ := h
  obtain ⟨u, w', rfl, ⟨t, rfl⟩, ⟨t', rfl⟩⟩ := vals2 r
  refine max_two_ints (I.ok.hd hc) fun h' tk k => ⟨_, H, I.kept k, ?_, q⟩
  by_cases hj : j > i
  · rw [if_pos hj, if_pos hj]; exact ⟨_, rfl⟩
  · rw [if_neg hj, if_neg hj]; exact ⟨_, rfl⟩
theorem call_min2 (hc : X.calm = true) : CallR X (.builtin "min") (fun xs H Q => ∃ i j, xs = [.int i, .int j] ∧ Q (.int (if j < i then j else i)) H) := by
  intro pins s σ H xs us Q I r h
  obtain ⟨i, j, rfl, q⟩ := h
  obtain ⟨u, w', rfl, ⟨t, rfl⟩, ⟨t', rfl⟩⟩ := vals2 r
  refine min_two_ints (I.ok.hd hc) fun h' tk k => ⟨_, H, I.kept k, ?_, q⟩
  by_cases hj : j < i
  · rw [if_pos hj, if_pos hj]; exact ⟨_, rfl⟩
  · rw [if_neg hj, if_neg hj]; exact ⟨_, rfl⟩
theorem call_int1 : CallR X (.type "int") (fun xs H Q => (∃ i, xs = [.int i] ∧ Q (.int i) H) ∨ ∃ k, xs = [.bl k] ∧ Q (.int (if k then 1 else 0)) H) := by
  intro pins s σ H xs us Q I r h
  rcases h with ⟨i, rfl, q⟩ | ⟨k, rfl, q⟩
  · obtain ⟨u, rfl, t, rfl⟩ := vals1 r
    exact call_int_int ⟨.int i, H, I, ⟨_, rfl⟩, q⟩
  · obtain ⟨u, rfl, r1⟩ := vals1 r
    cases r1
    exact call_int_bool ⟨.int (if k then 1 else 0), H, I.tok _, ⟨_, rfl⟩, q⟩
theorem call_bool1 : CallR X (.type "bool") (fun xs H Q => (∃ i, xs = [.int i] ∧ Q (.bl (i != 0)) H) ∨ ∃ k, xs = [.bl k] ∧ Q (.bl k) H) := by
  intro pins s σ H xs us Q I r h
  rcases h with ⟨i, rfl, q⟩ | ⟨k, rfl, q⟩
  · obtain ⟨u, rfl, t, rfl⟩ := vals1 r
    exact call_bool_int ⟨.bl (i != 0), H, I, rfl, q⟩
  · obtain ⟨u, rfl, r1⟩ := vals1 r
    cases r1
    exact call_bool_bool ⟨.bl k, H, I, rfl, q⟩
theorem call_str_int : CallR X (.type "str") (fun xs H Q => ∃ i, xs = [.int i] ∧ i.natAbs.log2 < 1920 ∧ Q (.str (toString i)) H) := by
  intro pins s σ H xs us Q I r h
  obtain ⟨i, rfl, hz, q⟩ := h
  obtain ⟨u, rfl, t, rfl⟩ := vals1 r
  exact PySem.P.str_of_int hz ⟨.str _, H, I.tok _, ⟨_, rfl⟩, q⟩
theorem call_ord : CallR X (.builtin "ord") (fun xs H Q => ∃ x, xs = [.str x] ∧ x.length = 1 ∧ Q (.int (x.cps.getD 0 0 : Nat)) H) := by
  intro pins s σ H xs us Q I r h
  obtain ⟨x, rfl, hz, q⟩ := h
  obtain ⟨u, rfl, t, rfl⟩ := vals1 r
  exact ord_of_one hz ⟨.int _, H, I.tok _, ⟨_, rfl⟩, q⟩
theorem call_chr : CallR X (.builtin "chr") (fun xs H Q => ∃ i, xs = [.int i] ∧ 0 ≤ i ∧ i ≤ 1114111 ∧ Q (.str ⟨#[i.toNat]⟩) H) := by
  intro pins s σ H xs us Q I r h
  obtain ⟨i, rfl, h0, h1, q⟩ := h
  obtain ⟨u, rfl, t, rfl⟩ := vals1 r
  exact chr_of_range h0 h1 ⟨.str _, H, I.tok _, ⟨_, rfl⟩, q⟩
/-- len of a str, a bytes, a list, a tuple -/
def LenV (K : PySem.W.Frag) (x : V) (H : Hp) (n : Nat) : Prop :=
  match x with
  | .str y => y.length ≤ sizeLine ∧ n = y.length
  | .byt y => y.size ≤ sizeLine ∧ n = y.size
  | .ref p => (∃ xs, SqL K H p xs ∧ n = xs.length) ∨ ∃ xs, SqT K H p xs ∧ n = xs.length
  | _ => False
theorem call_len : CallR X (.builtin "len") (fun xs H Q => ∃ x n, xs = [x] ∧ LenV X.K x H n ∧ Q (.int n) H) := by
  intro pins s σ H xs us Q I r h
  obtain ⟨x, n, rfl, e, q⟩ := h
  obtain ⟨u, rfl, rx⟩ := vals1 r
  have hl := line63
  have hs : sizeLine = 16777216 := sizeLine_eq
  cases x with
  | str y =>
    obtain ⟨t, rfl⟩ := rx
    obtain ⟨hy, e'⟩ : y.length ≤ sizeLine ∧ n = y.length := e
    subst e'
    exact len_str (by omega) ⟨.int _, H, I.tok _, ⟨_, rfl⟩, q⟩
  | byt y =>
    obtain ⟨t, rfl⟩ := rx
    obtain ⟨hy, e'⟩ : y.size ≤ sizeLine ∧ n = y.size := e
    subst e'
    exact PySem.W.len_bytes (by omega) ⟨.int _, H, I.tok _, ⟨_, rfl⟩, q⟩
  | ref p =>
    cases rx
    have e' : (∃ xs, SqL X.K H p xs ∧ n = xs.length) ∨ ∃ xs, SqT X.K H p xs ∧ n = xs.length := e
    rcases e' with ⟨xs, hx, e'⟩ | ⟨xs, hx, e'⟩
    · subst e'
      obtain ⟨its, r', pl, hz⟩ := I.list hx
      have hlen := r'.length
      exact Calls.call_len_list pl.isList (by simp only [List.size_toArray]; omega) ⟨.int xs.length, H, I.tok _, ⟨_, by simp only [List.size_toArray]; rw [hlen]⟩, q⟩
    · subst e'
      obtain ⟨its, r', pl, hz⟩ := I.tuple hx
      have hlen := r'.length
      exact len_tuple pl (by simp only [List.size_toArray]; omega) ⟨.int xs.length, H, I.tok _, ⟨_, by simp only [List.size_toArray]; rw [hlen]⟩, q⟩
  | _ => exact (show False from e).elim
/-- divmod: a new tuple -/
theorem call_divmod : CallR X (.builtin "divmod") (fun xs H Q => ∃ i j, xs = [.int i, .int j] ∧ CDiv i j ∧ ∀ p, H p = none → Q (.ref p) (upd H p (.tup [.int (i / j), .int (i % j)]))) := by
  intro pins s σ H xs us Q I r h
  obtain ⟨i, j, rfl, ⟨h1, h2⟩, q⟩ := h
  obtain ⟨u, w', rfl, ⟨t, rfl⟩, ⟨t', rfl⟩⟩ := vals2 r
  refine divmod_int (by omega) ?_ (.inl (PyProof.noPylong_small (by omega)))
  rw [Int.fdiv_eq_ediv_of_nonneg i (by omega), Int.fmod_eq_emod_of_nonneg i (by omega)]
  have hn : H s.heap.objs.size = none := I.hok.fresh (Nat.le_refl _)
  refine ⟨.ref s.heap.objs.size, _, ?_, rfl, q _ hn⟩
  refine I.laid (fun b o e => Heap.get?_push_of_some _ e) (Nat.le_refl _) ⟨by simp only [List.length_cons, List.length_nil]; rw [sizeLine_eq]; decide, [.int (i / j) s.toks, .int (i % j) (s.toks + 1)], .cons ⟨_, rfl⟩ (.cons ⟨_, rfl⟩ .nil), ?_⟩
  exact ⟨_, Heap.get?_push_size s.heap rfl, rfl, 0, rfl⟩
end
end L2

namespace L2
open PySem PySem.Spec PyProof.Rows

/-! ### an instance, its attributes a map -/
structure ObjM (h : Heap) (x dx C : Addr) (mA : Str → Option Value) : Prop where
  obj : h.get? x = some (PySem.W.instObj C dx)
  ns : h.Ns1 dx mA
  ne : dx ≠ x

theorem lookIn_ns {h : Heap} {dx : Addr} {mA : Str → Option Value} (n : h.Ns1 dx mA) : ∃ od, h.get? dx = some od ∧ ∀ name, PySem.W.lookIn name od = some (mA name) := by
  obtain ⟨o, es, ep, ho, hd, hk, _, hm⟩ := n
  refine ⟨o, ho, fun name => ?_⟩
  have e := hm name
  unfold nsFind findBy at e
  rw [← Array.find?_toList] at e
  unfold PySem.W.lookIn
  rw [hd]
  dsimp only
  split
  · rename_i y q
    rw [q] at e
    exact congrArg some e
  · rename_i q
    rw [q] at e
    have a : es.toList.any (·.refKey) = false := by
      rw [List.any_eq_false]
      intro y hy
      obtain ⟨z, t, hkey⟩ := hk y (Array.mem_toList_iff.mp hy)
      simp [DictEntry.refKey, hkey]
    have a' : ¬ es.toList.any (·.refKey) = true := by rw [a]; exact Bool.false_ne_true
    rw [if_neg a']
    exact congrArg some e

theorem ObjM.look {h : Heap} {x dx C : Addr} {mA : Str → Option Value} (I : ObjM h x dx C mA) : ∃ od, PySem.W.InstAt h x (PySem.W.instObj C dx) C (some od) ∧ ∀ name, PySem.W.lookIn name od = some (mA name) :=
  let ⟨od, ho, hl⟩ := lookIn_ns I.ns
  ⟨od, ⟨I.obj, rfl, rfl, ho⟩, hl⟩

section
variable {prog : Program} {w : World} {A : Around} {E : Value → Shared → Prop} {s : Shared} {K : PySem.W.Frag} {x dx C f : Addr} {mA : Str → Option Value} {name : Str} {v : Value}

theorem get_map {expr : Bool} {Q : Value → Shared → Prop} (X : K.In s.heap) (I : ObjM s.heap x dx C mA) (hg : PySem.W.plainGet K C name = true) (hh : PySem.W.hasDictIn K C = true)
    (ha : PySem.W.findIn K (.ref C) name = some none) (hv : mA name = some v) (hv' : PySem.W.handedIn v = true) (h : Q v { s with toks := s.toks + 1 }) :
    wpAny (model prog w) A (getAttr (.ref x) name expr) Q E s := by
  obtain ⟨od, J, hl⟩ := I.look
  exact PySem.W.get_value X J (PySem.W.plainGet_of hg).1 (PySem.W.findObj_own hh ha rfl (by rw [hl, hv])) hv' h

theorem get_const {expr : Bool} {a : Value} {Q : Value → Shared → Prop} (X : K.In s.heap) (I : ObjM s.heap x dx C mA) (hg : PySem.W.plainGet K C name = true) (hh : PySem.W.hasDictIn K C = true)
    (ha : PySem.W.findIn K (.ref C) name = some (some a)) (hn : PySem.W.specialIn K a "__get__" = some none) (hc : PySem.W.copiedNames.contains name = false) (hv : mA name = none) (hv' : PySem.W.handedIn a = true)
    (h : Q a { s with toks := s.toks + 1 }) : wpAny (model prog w) A (getAttr (.ref x) name expr) Q E s := by
  obtain ⟨od, J, hl⟩ := I.look
  exact PySem.W.get_value X J (PySem.W.plainGet_of hg).1 (PySem.W.findObj_cls hh ha hn hv' hc (by rw [hl, hv])) hv' h

theorem get_meth {pl : Sem Bool} {Q : Value × List Value → Shared → Prop} (X : K.In s.heap) (I : ObjM s.heap x dx C mA) (hg : PySem.W.plainGet K C name = true)
    (hf : PySem.W.findIn K (.ref C) name = some (some (.ref f))) (ht : PySem.W.isFn K (.ref f) = true) (hv : mA name = none) (h : Q (.ref f, [.ref x]) s) :
    wpAny (model prog w) A (getMethod (.ref x) name pl) Q E s := by
  obtain ⟨od, J, hl⟩ := I.look
  exact PySem.W.method_fn X J (PySem.W.plainGet_of hg).1 (PySem.W.plainGet_of hg).2 hf (beq_iff_eq.mp ht) (by show (PySem.W.lookIn name od).map (·.isSome) = some false; rw [hl, hv]; rfl) h

theorem set_map {ns : List Str} {Q : Unit → Shared → Prop} (X : K.In s.heap) (I : ObjM s.heap x dx C mA)
    (hs : PySem.W.findIn K (.ref C) "__setattr__" = some (some (.builtin "object.__setattr__"))) (hp : PySem.W.plainOver K C = true) (ht : PySem.W.takerIn K C name = some none) (hh : PySem.W.hasDictIn K C = true)
    (hw : PySem.Within mA ns) (hsz : ns.length ≤ sizeLine)
    (h : ∀ h', ObjM h' x dx C (fun y => if y = name then some v else mA y) → Heap.SameBut dx s.heap h' → Q () { s with heap := h', toks := s.toks + 2 }) :
    wpAny (model prog w) A (setAttr (.ref x) name v) Q E s := by
  obtain ⟨od, J, hl⟩ := I.look
  refine PySem.W.set_plain X J hs (PySem.W.osa_open (s := { s with toks := s.toks + 1 }) (r := none) X J hp ht fun b => ?_)
  obtain ⟨cd, hc, hd'⟩ := PySem.W.any_some hh
  have hx : s.heap.get? x = some ⟨.ref C, some dx, .plain, #[]⟩ := I.obj
  refine wpAny_bind (wpAny_pure (wpAny_bind (wpAny_bind (wpAny_loadPart hx (wpAny_bind (PySem.W.Looks.here (s := { s with toks := s.toks + 1 }) (PySem.W.looks_clsIn X hc) ?_))))))
  rw [hd']
  refine wpAny_pure (a := some dx) (wpAny_bind (wpAny_pure (wpAny_bind ?_)))
  refine wpAny_nsSet1 (s := { s with toks := s.toks + 1 }) I.ns fun h' hn2 hs2 => ?_
  obtain ⟨oD, esD, epD, hoD, hdD, hcD⟩ := hn2.count (PySem.Within.cons name v hw)
  refine wpAny_bind (wpAny_lookBehind hoD (by rw [hdD]; exact pastItsLine_dict (Nat.le_trans hcD (by rw [List.length_cons]; omega))) ?_)
  exact wpAny_pure (h _ ⟨(hs2.2 _ (Ne.symm I.ne)).trans I.obj, hn2, I.ne⟩ hs2)

/-- C(..): the dict at the heap's end, the instance behind it; then its __init__ -/
theorem make_map {R : Result → Shared → Prop} {vs : List Value} {kw : List (Str × Value)} (X : K.In s.heap) (hm : PySem.W.makesIn K C = true)
    (hi : PySem.W.findIn K (.ref C) "__init__" = some (some (.ref f))) (hf : PySem.W.typeIn K (.ref f) = some (.type "function"))
    (h : codeAny (model prog w) (A.under (.builtin "type.__call__" ⟨.ref C :: vs, kw⟩)) (.call (.ref f) ⟨.ref (s.heap.objs.size + 1) :: vs, kw⟩) (PySem.W.InitBack (s.heap.objs.size + 1) R)
      { s with heap := (s.heap.push PySem.W.emptyDict).push (PySem.W.instObj C s.heap.objs.size) }) :
    codeAny (model prog w) A (.call (.ref C) ⟨vs, kw⟩) R s := by
  obtain ⟨hh, g, d, t, os⟩ := s
  exact PySem.W.make_core (PySem.W.makes_of X hm) (PySem.W.looks_findIn X hi) (fun self => PySem.W.bind_fn X self hf) (.inl rfl) h
/-- C() where there is no __init__ but object's -/
theorem make_map0 {R : Result → Shared → Prop} (X : K.In s.heap) (hm : PySem.W.makesIn K C = true)
    (hi : PySem.W.findIn K (.ref C) "__init__" = some (some (.builtin "object.__init__")))
    (hb : ∀ self, PySem.W.Looks (model prog w) s.heap (bindSpecial (.builtin "object.__init__") self) (.builtin "object.__init__", [self]))
    (h : codeAny (model prog w) (A.under (.builtin "type.__call__" ⟨[.ref C], []⟩)) (.call (.builtin "object.__init__") ⟨[.ref (s.heap.objs.size + 1)], []⟩) (PySem.W.InitBack (s.heap.objs.size + 1) R)
      { s with heap := (s.heap.push PySem.W.emptyDict).push (PySem.W.instObj C s.heap.objs.size) }) :
    codeAny (model prog w) A (.call (.ref C) ⟨[], []⟩) R s := by
  obtain ⟨hh, g, d, t, os⟩ := s
  exact PySem.W.make_core (PySem.W.makes_of X hm) (PySem.W.looks_findIn X hi) hb (.inr ⟨rfl, rfl⟩) h
end

/-! ### the attributes as a list of pairs -/
def putF (f : Str) (v : V) : List (Str × V) → List (Str × V)
  | [] => [(f, v)]
  | (g, x) :: r => if g = f then (g, v) :: r else (g, x) :: putF f v r
theorem lookup_putF (f g : Str) (v : V) : ∀ fs : List (Str × V), (putF f v fs).lookup g = if g = f then some v else fs.lookup g
  | [] => by
    show List.lookup g [(f, v)] = _
    by_cases h : g = f
    · have hb : (g == f) = true := beq_iff_eq.mpr h
      simp only [List.lookup, hb, if_pos h]
    · have hb : (g == f) = false := beq_eq_false_iff_ne.mpr h
      simp only [List.lookup, hb, if_neg h]
  | (k, x) :: r => by
    have ih := lookup_putF f g v r
    rw [show putF f v ((k, x) :: r) = (if k = f then (k, v) :: r else (k, x) :: putF f v r) from rfl]
    by_cases hk : k = f
    · rw [if_pos hk]
      by_cases h : g = k
      · have hb : (g == k) = true := beq_iff_eq.mpr h
        simp only [List.lookup, hb, if_pos (h.trans hk)]
      · have hb : (g == k) = false := beq_eq_false_iff_ne.mpr h
        simp only [List.lookup, hb, if_neg (fun e : g = f => h (e.trans hk.symm))]
    · rw [if_neg hk]
      by_cases h : g = k
      · have hb : (g == k) = true := beq_iff_eq.mpr h
        simp only [List.lookup, hb, if_neg (fun e : g = f => hk (h.symm.trans e))]
      · have hb : (g == k) = false := beq_eq_false_iff_ne.mpr h
        simp only [List.lookup, hb]
        exact ih
theorem keys_putF (f : Str) (v : V) : ∀ fs : List (Str × V), f ∈ (putF f v fs).map (·.1) ∧ ∀ g, g ∈ fs.map (·.1) → g ∈ (putF f v fs).map (·.1)
  | [] => ⟨by simp [putF], fun g h => by simp at h⟩
  | (k, x) :: r => by
    obtain ⟨i1, i2⟩ := keys_putF f v r
    rw [show putF f v ((k, x) :: r) = (if k = f then (k, v) :: r else (k, x) :: putF f v r) from rfl]
    by_cases hk : k = f
    · rw [if_pos hk]
      subst hk
      exact ⟨by simp, fun g h => by simpa using h⟩
    · rw [if_neg hk]
      refine ⟨?_, fun g h => ?_⟩
      · rw [List.map_cons]
        exact List.mem_cons_of_mem _ i1
      · rw [List.map_cons] at h ⊢
        rcases List.mem_cons.mp h with e | e
        · exact List.mem_cons.mpr (.inl e)
        · exact List.mem_cons_of_mem _ (i2 g e)
theorem length_putF (f : Str) (v : V) : ∀ fs : List (Str × V), (putF f v fs).length ≤ fs.length + 1
  | [] => by simp [putF]
  | (k, x) :: r => by
    have ih := length_putF f v r
    rw [show putF f v ((k, x) :: r) = (if k = f then (k, v) :: r else (k, x) :: putF f v r) from rfl]
    by_cases hk : k = f
    · rw [if_pos hk, List.length_cons, List.length_cons]; omega
    · rw [if_neg hk, List.length_cons, List.length_cons]; omega

theorem RelO.some_of {v : V} {o : Option Value} (r : RelO (some v) o) : ∃ u, o = some u ∧ RelV v u := by
  cases o with
  | none => exact (show False from r).elim
  | some u => exact ⟨u, rfl, r⟩
theorem RelO.none_of {o : Option Value} (r : RelO none o) : o = none := by
  cases o with
  | none => rfl
  | some u => exact (show False from r).elim
theorem handed_of {v : V} {u : Value} (r : RelV v u) : PySem.W.handedIn u = true := by
  cases v with
  | non => cases (show u = Value.none from r); rfl
  | bl b => cases (show u = Value.bool b from r); rfl
  | int i => obtain ⟨t, e⟩ := (show ∃ t, u = Value.int i t from r); cases e; rfl
  | str x => obtain ⟨t, e⟩ := (show ∃ t, u = Value.str x t from r); cases e; rfl
  | byt b => obtain ⟨t, e⟩ := (show ∃ t, u = Value.bytes b t from r); cases e; rfl
  | flt b => obtain ⟨t, e⟩ := (show ∃ t, u = Value.float b t from r); cases e; rfl
  | ref a => cases (show u = Value.ref a from r); rfl
  | ty n => cases (show u = Value.type n from r); rfl

section
variable {P : Program} {w : World} {H H' : Hp} {h h' : Heap} {a C dx : Addr} {fs fs' : List (Str × V)}
theorem ins_get (hok : HOk P w H h) (e : H a = some (.ins C dx fs)) : ∃ mA, ObjM h a dx C mA ∧ (∀ f, RelO (fs.lookup f) (mA f)) ∧ PySem.Within mA (fs.map (·.1)) ∧ fs.length ≤ 1000 ∧ H dx = some (.own a) := by
  obtain ⟨d, z, ne, ob, mA, n, r, q⟩ := (show ObjOk P w H h a (.ins C dx fs) from hok a _ e)
  exact ⟨mA, ⟨ob, n, ne⟩, r, q, z, d⟩
end

/-! ### what of the text a class must have -/
structure Cls (K : PySem.W.Frag) (C : Addr) : Prop where
  pg : PySem.W.plainGet K C Str.empty = true
  hd : PySem.W.hasDictIn K C = true
  po : PySem.W.plainOver K C = true
  sa : PySem.W.findIn K (.ref C) "__setattr__" = some (some (.builtin "object.__setattr__"))
theorem Cls.get {K : PySem.W.Frag} {C : Addr} (c : Cls K C) (f : Str) : PySem.W.plainGet K C f = true := c.pg
/-- no class of it has the name -/
def NoAttr (K : PySem.W.Frag) (C : Addr) (f : Str) : Prop := PySem.W.findIn K (.ref C) f = some none
theorem NoAttr.taker {K : PySem.W.Frag} {C : Addr} {f : Str} (n : NoAttr K C f) : PySem.W.takerIn K C f = some none := by
  unfold PySem.W.takerIn
  rw [show PySem.W.findIn K (.ref C) f = some none from n]
  rfl
/-- a constant of the class -/
structure Con (K : PySem.W.Frag) (C : Addr) (f : Str) (v : V) (u : Value) : Prop where
  at_ : PySem.W.findIn K (.ref C) f = some (some u)
  rel : RelV v u
  get : PySem.W.specialIn K u "__get__" = some none
  cp : PySem.W.copiedNames.contains f = false
/-- a method: a plain def of the class or of one above it -/
structure Meth (K : PySem.W.Frag) (C : Addr) (m : Str) (f : Addr) : Prop where
  at_ : PySem.W.findIn K (.ref C) m = some (some (.ref f))
  fn : PySem.W.isFn K (.ref f) = true
  kp : PySem.W.keepIn K (.ref f) = true

section
variable {X : Cx} {pins : List (Addr × Obj)} {σ : St} {H : Hp} {s : Shared} {a C dx : Addr} {fs : List (Str × V)} {f : Str} {v : V} {A : Around} {E : Value → Shared → Prop}

theorem getattr_ok {b : Bool} {Q : Value → Shared → Prop} (I : Inv X pins σ H s) (e : H a = some (.ins C dx fs)) (c : Cls X.K C) (n : NoAttr X.K C f) (l : fs.lookup f = some v)
    (h : ∀ u s', Inv X pins σ H s' → RelV v u → Q u s') : wpAny (model X.prog X.w) A (getAttr (.ref a) f b) Q E s := by
  obtain ⟨mA, O, r, _, _, _⟩ := ins_get I.hok e
  obtain ⟨u, hu, ru⟩ := RelO.some_of (v := v) (o := mA f) (by rw [← l]; exact r f)
  exact get_map I.kIn O (c.get f) c.hd n hu (handed_of ru) (h u _ (I.tok _) ru)

theorem getcon_ok {b : Bool} {u : Value} {Q : Value → Shared → Prop} (I : Inv X pins σ H s) (e : H a = some (.ins C dx fs)) (c : Cls X.K C) (k : Con X.K C f v u) (l : fs.lookup f = none)
    (h : ∀ s', Inv X pins σ H s' → Q u s') : wpAny (model X.prog X.w) A (getAttr (.ref a) f b) Q E s := by
  obtain ⟨mA, O, r, _, _, _⟩ := ins_get I.hok e
  have hn : mA f = none := RelO.none_of (by rw [← l]; exact r f)
  exact get_const I.kIn O (c.get f) c.hd k.at_ k.get k.cp hn (handed_of k.rel) (h _ (I.tok _))

theorem getmeth_ok {m : Str} {g : Addr} {pl : Sem Bool} {Q : Value × List Value → Shared → Prop} (I : Inv X pins σ H s) (e : H a = some (.ins C dx fs)) (c : Cls X.K C) (k : Meth X.K C m g) (l : fs.lookup m = none)
    (h : Q (.ref g, [.ref a]) s) : wpAny (model X.prog X.w) A (getMethod (.ref a) m pl) Q E s := by
  obtain ⟨mA, O, r, _, _, _⟩ := ins_get I.hok e
  have hn : mA m = none := RelO.none_of (by rw [← l]; exact r m)
  exact get_meth I.kIn O (c.get m) k.at_ k.fn hn h

theorem setattr_ok {y : V} {u : Value} {Q : Unit → Shared → Prop} (I : Inv X pins σ H s) (e : H a = some (.ins C dx fs)) (c : Cls X.K C) (n : NoAttr X.K C f) (hl : fs.length < 1000) (ry : RelV y u)
    (h : ∀ s', Inv X pins σ (upd H a (.ins C dx (putF f y fs))) s' → Q () s') : wpAny (model X.prog X.w) A (setAttr (.ref a) f u) Q E s := by
  obtain ⟨mA, O, r, wi, _, ho⟩ := ins_get I.hok e
  have hz : (fs.map (·.1)).length ≤ sizeLine := by rw [List.length_map, sizeLine_eq]; omega
  refine set_map I.kIn O c.sa c.po n.taker c.hd wi hz fun h' O' sb => h _ ?_
  have hd : ∃ o, h'.get? dx = some o := let ⟨o, _, _, e', _⟩ := O'.ns; ⟨o, e'⟩
  refine I.write (x := a) (e := dx) (by rw [e]; exact True.intro) (.inr ho) (fun b q hb z => (sb.2 b hb).trans z) hd ?_
  refine ⟨by rw [upd_ne O.ne]; exact ho, ?_, O.ne, O'.obj, _, O'.ns, fun g => ?_, fun g hg => ?_⟩
  · have := length_putF f y fs; omega
  · show RelO ((putF f y fs).lookup g) (if g = f then some u else mA g)
    rw [lookup_putF]
    by_cases q : g = f
    · rw [if_pos q, if_pos q]; exact ry
    · rw [if_neg q, if_neg q]; exact r g
  · by_cases q : g = f
    · rw [q]; exact (keys_putF f y fs).1
    · refine (keys_putF f y fs).2 g (wi g fun z => hg ?_)
      show (if g = f then some u else mA g) = none
      rw [if_neg q]; exact z

/-- a new instance, tracked, without attributes -/
theorem Inv.made (I : Inv X pins σ H s) : Inv X pins σ (upd (upd H s.heap.objs.size (.own (s.heap.objs.size + 1))) (s.heap.objs.size + 1) (.ins C s.heap.objs.size []))
    { s with heap := (s.heap.push PySem.W.emptyDict).push (PySem.W.instObj C s.heap.objs.size) } := by
  have e1 : (s.heap.push PySem.W.emptyDict).get? s.heap.objs.size = some PySem.W.emptyDict := Heap.get?_push_size s.heap rfl
  have e2 : ((s.heap.push PySem.W.emptyDict).push (PySem.W.instObj C s.heap.objs.size)).get? (s.heap.objs.size + 1) = some (PySem.W.instObj C s.heap.objs.size) := by
    have := Heap.get?_push_size (s.heap.push PySem.W.emptyDict) (o := PySem.W.instObj C s.heap.objs.size) rfl
    rwa [Heap.size_push] at this
  have e3 : (s.heap.push PySem.W.emptyDict).Ns s.heap.objs.size (fun _ => none) := ⟨PySem.W.emptyDict, #[], _, e1, rfl, (fun e he => absurd he (by simp)), fun _ => rfl⟩
  have I1 := I.laid (a := s.heap.objs.size) (o := .own (s.heap.objs.size + 1)) (h' := s.heap.push PySem.W.emptyDict) (t' := s.toks) (fun b u q => Heap.get?_push_of_some _ q) (Nat.le_refl _) ⟨_, e1⟩
  refine I1.laid (a := s.heap.objs.size + 1) (o := .ins C s.heap.objs.size []) (t' := s.toks) (fun b u q => Heap.get?_push_of_some _ q) (Nat.le_of_eq (Heap.size_push _ _)) ?_
  have ne : s.heap.objs.size ≠ s.heap.objs.size + 1 := Nat.ne_of_lt (Nat.lt_succ_self _)
  refine ⟨by rw [upd_ne ne, upd_same], Nat.zero_le _, ne, e2, fun _ => none, (Heap.Ns1.of_empty e3).at fun o q => Heap.get?_push_of_some _ q, fun _ => True.intro, fun y hy => absurd rfl hy⟩

/-- e.f where nothing but the object is asked: through attributeBase (super) and the last hold -/
theorem attr_of {prog : Program} {w : World} {env : Env} {e : Expr} {f : Str} {pos : Pos} {s : Shared} {Q : Value → Shared → Prop} (hb : attributeBase e f env (eval e env) = eval e env)
    (h : wpAny (model prog w) A (eval e env) (fun o s₁ => wpAny (model prog w) A (getAttr o f true) Q E s₁) E s) : wpAny (model prog w) A (eval (.Attribute e f pos) env) Q E s :=
  Attribute_any_ h (by rw [arm_eval_Attribute, hb])
end

/-! ### readings and rules -/
/-- e.f, an attribute of the instance -/
def tFld (K : PySem.W.Frag) (ta : TE) (f : Str) : TE := fun σ H Q => ta σ H fun x H1 => ∃ a C dx fs v, x = .ref a ∧ H1 a = some (.ins C dx fs) ∧ Cls K C ∧ NoAttr K C f ∧ fs.lookup f = some v ∧ Q v H1
/-- e.f, a constant of the class -/
def tCon (K : PySem.W.Frag) (ta : TE) (f : Str) : TE := fun σ H Q => ta σ H fun x H1 => ∃ a C dx fs v u, x = .ref a ∧ H1 a = some (.ins C dx fs) ∧ Cls K C ∧ Con K C f v u ∧ fs.lookup f = none ∧ Q v H1
/-- e.f = value -/
def sFld (K : PySem.W.Frag) (ta tv : TE) (f : Str) : TS := fun D σ H => tv σ H fun y H1 => ta σ H1 fun x H2 => ∃ a C dx fs, x = .ref a ∧ H2 a = some (.ins C dx fs) ∧ Cls K C ∧ NoAttr K C f ∧ fs.length < 1000 ∧
  D.nx σ (upd H2 a (.ins C dx (putF f y fs)))
/-- an augmented operator on two values -/
def InOp (X : Cx) (op : Operator) (rd : V → V → Hp → VK → Prop) : Prop :=
  ∀ (pins : List (Addr × Obj)) (s : Shared) (σ : St) (H : Hp) (x y : V) (u v : Value) (Q : VK), Inv X pins σ H s → RelV x u → RelV y v → rd x y H Q → wpAny (model X.prog X.w) X.A (inplaceOp op u v) (EP X pins σ Q) X.xe s
/-- e.f op= value -/
def sFldAug (K : PySem.W.Frag) (ta tv : TE) (rd : V → V → Hp → VK → Prop) (f : Str) : TS := fun D σ H => ta σ H fun x H1 => ∃ a C dx fs v, x = .ref a ∧ H1 a = some (.ins C dx fs) ∧ Cls K C ∧ NoAttr K C f ∧ fs.lookup f = some v ∧
  tv σ H1 fun y H2 => rd v y H2 fun z H3 => ∃ dx' fs', H3 a = some (.ins C dx' fs') ∧ fs'.length < 1000 ∧ D.nx σ (upd H3 a (.ins C dx' (putF f z fs')))

section
variable {X : Cx} {o e value : Expr} {f : Str} {pos pos' tpos : Pos} {ta tv : TE}
theorem pe_fld (he : PE X e ta) (hb : attributeBase e f X.env (eval e X.env) = eval e X.env) : PE X (.Attribute e f pos) (tFld X.K ta f) := by
  intro pins s σ H Q I h
  refine attr_of hb (thn (he pins s σ H _ I h) fun u s1 ⟨x, H1, I1, rx, a, C, dx, fs, v, ex, ea, c, n, l, q⟩ => ?_)
  subst ex
  obtain rfl : u = Value.ref a := rx
  exact getattr_ok I1 ea c n l fun u' s2 I2 ru => ⟨v, H1, I2, ru, q⟩
theorem pe_con (he : PE X e ta) (hb : attributeBase e f X.env (eval e X.env) = eval e X.env) : PE X (.Attribute e f pos) (tCon X.K ta f) := by
  intro pins s σ H Q I h
  refine attr_of hb (thn (he pins s σ H _ I h) fun u s1 ⟨x, H1, I1, rx, a, C, dx, fs, v, u0, ex, ea, c, k, l, q⟩ => ?_)
  subst ex
  obtain rfl : u = Value.ref a := rx
  exact getcon_ok I1 ea c k l fun s2 I2 => ⟨v, H1, I2, k.rel, q⟩
theorem ps_fld (ha : PE X o ta) (hv : PE X value tv) (hs : swapsWith value (some (.Attribute o f pos')) pos.line X.env = pure false) : PS X (.Assign [.Attribute o f pos'] value pos) (sFld X.K ta tv f) := by
  intro pins s σ H D I h
  refine plainObj_wpAny_Assign_Attribute (thn (hv pins s σ H _ I h) fun u s1 ⟨y, H1, I1, ry, q⟩ => thn (ha pins s1 σ H1 _ I1 q) fun ov s2 ⟨x, H2, I2, rx, a, C, dx, fs, ex, ea, c, n, l, q2⟩ => ?_) hs
  subst ex
  obtain rfl : ov = Value.ref a := rx
  exact setattr_ok I2 ea c n l ry fun s3 I3 => ⟨σ, _, I3, q2⟩
theorem ps_fldaug {op : Operator} {rd : V → V → Hp → VK → Prop} (ha : PE X o ta) (hv : PE X value tv) (hop : InOp X op rd) : PS X (.AugAssign (.Attribute o f tpos) op value pos) (sFldAug X.K ta tv rd f) := by
  intro pins s σ H D I h
  refine wpAny_AugAssign_AttributeAny (thn (ha pins s σ H _ I h) fun ov s1 ⟨x, H1, I1, rx, a, C, dx, fs, v, ex, ea, c, n, l, q⟩ => ?_)
  subst ex
  obtain rfl : ov = Value.ref a := rx
  refine getattr_ok I1 ea c n l fun u s2 I2 ru => thn (hv pins s2 σ H1 _ I2 q) fun w3 s3 ⟨y, H2, I3, ry, q3⟩ => thn (hop pins s3 σ H2 v y u w3 _ I3 ru ry q3) fun w4 s4 ⟨z, H3, I4, rz, dx', fs', ea', l', q4⟩ => ?_
  exact setattr_ok I4 ea' c n l' rz fun s5 I5 => ⟨σ, _, I5, q4⟩
def rAdd : V → V → Hp → VK → Prop := fun x y H Q => ∃ i j, x = .int i ∧ y = .int j ∧ Q (.int (i + j)) H
def rSub : V → V → Hp → VK → Prop := fun x y H Q => ∃ i j, x = .int i ∧ y = .int j ∧ Q (.int (i - j)) H
theorem in_add : InOp X .Add rAdd := by
  rintro pins s σ H x y u v Q I rx ry ⟨i, j, rfl, rfl, q⟩
  obtain ⟨t, rfl⟩ := (show ∃ t, u = Value.int i t from rx)
  obtain ⟨t', rfl⟩ := (show ∃ t', v = Value.int j t' from ry)
  exact PyProof.Rows.iadd_int ⟨.int (i + j), H, I.tok _, ⟨_, rfl⟩, q⟩
theorem in_sub : InOp X .Sub rSub := by
  rintro pins s σ H x y u v Q I rx ry ⟨i, j, rfl, rfl, q⟩
  obtain ⟨t, rfl⟩ := (show ∃ t, u = Value.int i t from rx)
  obtain ⟨t', rfl⟩ := (show ∃ t', v = Value.int j t' from ry)
  exact PyProof.Rows.isub_int ⟨.int (i - j), H, I.tok _, ⟨_, rfl⟩, q⟩

/-- what is between an instance and its method: the tree of a method call -/
theorem methcall_of {pl : Sem Bool} {m : Str} {apos : Pos} {args : List Expr} {pins : List (Addr × Obj)} {s : Shared} {σ : St} {H : Hp} {Q : Value → Shared → Prop} {te : TE} (he : PE X e te) (I : Inv X pins σ H s)
    (h : te σ H fun x H1 => ∃ a C dx fs g, x = .ref a ∧ H1 a = some (.ins C dx fs) ∧ Cls X.K C ∧ Meth X.K C m g ∧ fs.lookup m = none ∧
      ∀ s1, Inv X pins σ H1 s1 → wpAny (model X.prog X.w) X.A (callWith pos (.ref g) [.ref a] (backTo pos (starEach args X.env)) (backToKw pos (keywordEach [] X.env))) Q X.xe s1)
    (ht : eval (.Call (.Attribute e m apos) args [] pos) X.env = (do
      let ov ← eval e X.env
      standAt apos.atName
      let (f, first) ← holding [ov] (getMethod ov m pl)
      callWith pos f first (backTo pos (starEach args X.env)) (backToKw pos (keywordEach [] X.env)))) :
    wpAny (model X.prog X.w) X.A (eval (.Call (.Attribute e m apos) args [] pos) X.env) Q X.xe s := by
  refine PySem.W.methodCall_KW (pl := pl) (thn (he pins s σ H _ I h) fun u s1 ⟨x, H1, I1, rx, a, C, dx, fs, g, ex, ea, c, k, l, q⟩ => ?_) ht
  subst ex
  obtain rfl : u = Value.ref a := rx
  exact getmeth_ok I1 ea c k l (q s1 I1)
end

/-! ### isinstance -/
section
variable {X : Cx} {pins : List (Addr × Obj)} {σ : St} {H : Hp} {s : Shared} {A : Around} {E : Value → Shared → Prop} {Q : Value → Shared → Prop} {c : Value} {b : Bool}
/-- the type of a value, as the fragment's deciders take it; for an instance its class -/
inductive TyOf (K : PySem.W.Frag) (H : Hp) : V → Value → Prop where
  | non : TyOf K H .non (.type "NoneType")
  | bl (x : Bool) : TyOf K H (.bl x) (.type "bool")
  | int (i : Int) : TyOf K H (.int i) (.type "int")
  | str (x : Str) : TyOf K H (.str x) (.type "str")
  | flt (x : UInt64) : TyOf K H (.flt x) (.type "float")
  | lst {a : Addr} {xs : List V} (e : H a = some (.lst xs)) : TyOf K H (.ref a) (.type "list")
  | frz {a : Addr} {o : Obj} {xs : List V} (e : H a = some (.frz o (.lst xs))) : TyOf K H (.ref a) (.type "list")
  | tup {a : Addr} {xs : List V} (e : H a = some (.tup xs)) : TyOf K H (.ref a) (.type "tuple")
  | dK {a : Addr} {kvs : List (Key × V)} (e : H a = some (.dK kvs)) : TyOf K H (.ref a) (.type "dict")
  | dT {a : Addr} {kvs : List (List Key × V)} (e : H a = some (.dT kvs)) : TyOf K H (.ref a) (.type "dict")
  | ins {a C dx : Addr} {fs : List (Str × V)} (e : H a = some (.ins C dx fs)) (cl : Cls K C) (ha : PySem.W.findIn K (.ref C) "__class__" = some (some (.builtin "object.__class__")))
      (hn : PySem.W.specialIn K (.builtin "object.__class__") "__get__" = some (some (.builtin "getset_descriptor.__get__"))) (htk : PySem.W.takesIn K (.builtin "object.__class__") = some true)
      (hm : PySem.W.mroIn K C (.type "object") = some true) : TyOf K H (.ref a) (.ref C)
/-- isinstance(x, c) for one class c, a built-in or an own one: kitOne's answer -/
theorem isinst_ok {x : V} {u t : Value} (I : Inv X pins σ H s) (rx : RelV x u) (ty : TyOf X.K H x t) (e : PySem.W.kitOne X.K t c = some b) (h : ∀ tk, Q (.bool b) { s with toks := tk }) :
    wpAny (model X.prog X.w) A (call (.builtin "isinstance") [u, c]) Q E s := by
  cases ty with
  | non => cases (show u = Value.none from rx); exact PySem.W.kia_one PySem.W.kitx_none I.kIn True.intro e (fun z => nomatch z) h
  | bl y => cases (show u = Value.bool y from rx); exact PySem.W.kia_one PySem.W.kitx_bool I.kIn True.intro e (fun z => nomatch z) h
  | int i => obtain ⟨t, q⟩ := (show ∃ t, u = Value.int i t from rx); cases q; exact PySem.W.kia_one PySem.W.kitx_int I.kIn True.intro e (fun z => nomatch z) h
  | str y => obtain ⟨t, q⟩ := (show ∃ t, u = Value.str y t from rx); cases q; exact PySem.W.kia_one PySem.W.kitx_str I.kIn True.intro e (fun z => nomatch z) h
  | flt y => obtain ⟨t, q⟩ := (show ∃ t, u = Value.float y t from rx); cases q; exact PySem.W.kia_one PySem.W.kitx_float I.kIn True.intro e (fun z => nomatch z) h
  | @lst a xs ea =>
    cases (show u = Value.ref a from rx)
    obtain ⟨_, _, n, _, h1⟩ := (show ObjOk X.prog X.w H s.heap a (.lst xs) from I.hok a _ ea)
    exact PySem.W.kia_one PySem.W.kitx_list I.kIn ⟨_, h1, rfl⟩ e (fun z => nomatch z) h
  | @frz a ob xs ea =>
    cases (show u = Value.ref a from rx)
    obtain ⟨_, _, _, n, _, h1⟩ := (show ObjOk X.prog X.w H s.heap a (.frz ob (.lst xs)) from I.hok a _ ea)
    exact PySem.W.kia_one PySem.W.kitx_list I.kIn ⟨_, h1, rfl⟩ e (fun z => nomatch z) h
  | @tup a xs ea =>
    cases (show u = Value.ref a from rx)
    obtain ⟨_, _, _, p⟩ := (show ObjOk X.prog X.w H s.heap a (.tup xs) from I.hok a _ ea)
    obtain ⟨o, h1, h2, _⟩ := p
    exact PySem.W.kia_one PySem.W.kitx_tuple I.kIn ⟨o, h1, h2⟩ e (fun z => nomatch z) h
  | @dK a kvs ea =>
    cases (show u = Value.ref a from rx)
    obtain ⟨_, _, vs, _, p⟩ := (show ObjOk X.prog X.w H s.heap a (.dK kvs) from I.hok a _ ea)
    obtain ⟨o, es, ep, h1, h2, _⟩ := p
    exact PySem.W.kia_one PySem.W.kitx_dict I.kIn ⟨o, h1, h2.1⟩ e (fun z => nomatch z) h
  | @dT a kvs ea =>
    cases (show u = Value.ref a from rx)
    obtain ⟨_, _, xs, _, o, es, ep, h1, h2, _⟩ := (show ObjOk X.prog X.w H s.heap a (.dT kvs) from I.hok a _ ea)
    exact PySem.W.kia_one PySem.W.kitx_dict I.kIn ⟨o, h1, h2.1⟩ e (fun z => nomatch z) h
  | @ins a C dx fs ea cl ha hn htk hm =>
    cases (show u = Value.ref a from rx)
    obtain ⟨mA, O, _⟩ := ins_get I.hok ea
    obtain ⟨od, J, _⟩ := O.look
    exact PySem.W.kia_one (PySem.W.kitx_own (cl.get _) cl.hd ha hn htk hm) I.kIn J e (fun z => nomatch z) h
end
end L2

namespace L2
open PySem PySem.Spec PyProof.Rows

/-! ### room -/
structure Room (k : Nat) (A : Around) : Prop where
  hd : A.handled = none
  dp : A.depth + 3 * k + 5 < recursionLimit
  un : A.units + 16 * k + 200 < cLine
theorem Room.mono {j k : Nat} {A : Around} (r : Room k A) (h : j ≤ k) : Room j A := ⟨r.hd, by have := r.dp; omega, by have := r.un; omega⟩
theorem Room.deeper {k : Nat} {A : Around} (r : Room (k + 1) A) (env : Env) : Room k (A.deeper env) :=
  ⟨r.hd, by have := r.dp; show A.depth + 1 + 3 * k + 5 < _; omega, by have := r.un; show A.units + 3 + 16 * k + 200 < _; omega⟩
theorem Room.in1 {k : Nat} {A : Around} (r : Room (k + 1) A) : Room k A.in1 :=
  ⟨r.hd, by have := r.dp; show A.depth + 3 * k + 5 < _; omega, by have := r.un; show A.units + 1 + 16 * k + 200 < _; omega⟩
theorem make_depth {A : Around} {C : Addr} {us : List Value} {kw : List (Str × Value)} : (A.under (.builtin "type.__call__" ⟨.ref C :: us, kw⟩)).depth = A.depth + 1 := by
  first | rfl | simp [Around.under, Code.weight, Code.isCreation, Code.isGuard, Code.isCaller, Code.frames, Code.isFrame, guardIds]
theorem make_units {A : Around} {C : Addr} {us : List Value} {kw : List (Str × Value)} : (A.under (.builtin "type.__call__" ⟨.ref C :: us, kw⟩)).units = A.units + 1 := by
  first | rfl | simp [Around.under, Code.cUnits, Code.frames, Code.isFrame]
theorem Room.make {k : Nat} {A : Around} (r : Room (k + 1) A) (C : Addr) (us : List Value) (kw : List (Str × Value)) : Room k (A.under (.builtin "type.__call__" ⟨.ref C :: us, kw⟩)) :=
  ⟨r.hd, by have := r.dp; rw [make_depth]; omega, by have := r.un; rw [make_units]; omega⟩
theorem Room.depth {k : Nat} {A : Around} (r : Room k A) : A.depth < recursionLimit := by have := r.dp; omega
theorem Room.units {k : Nat} {A : Around} (r : Room k A) : A.units + 64 < cLine := by have := r.un; omega
theorem Room.units0 {k : Nat} {A : Around} (r : Room k A) : A.units < cLine := by have := r.un; omega

/-! ### argument lists and displays -/
def tNil : TA := fun _ H Q => Q [] H
def tCons (ta : TE) (tr : TA) : TA := fun σ H Q => ta σ H fun x H1 => tr σ H1 fun xs H2 => Q (x :: xs) H2
section
variable {X : Cx} {e : Expr} {es : List Expr} {te : TE} {t : TA} {pos : Pos}
theorem pa_nil : PA X [] tNil := fun _ _ _ _ H Q I h => Calls.spliced_nil ⟨[], H, I, .nil, h⟩
theorem pa_cons (ha : PE X e te) (hr : PA X es t) (hs : starEach (e :: es) X.env = (false, eval e X.env) :: starEach es X.env := by rfl) : PA X (e :: es) (tCons te t) := by
  intro pos pins s σ H Q I h
  rw [hs]
  show wpAny _ _ (spliced ((false, eval e X.env) :: backTo pos (starEach es X.env))) _ _ s
  refine Calls.spliced_cons (thn (ha pins s σ H _ I h) fun u s1 ⟨x, H1, I1, r1, q1⟩ => ?_)
  exact thn (hr pos pins s1 σ H1 _ I1 q1) fun us s2 ⟨xs, H2, I2, r2, q2⟩ => ⟨x :: xs, H2, I2, .cons r1 r2, q2⟩

/-- a tuple, a list of written items -/
def tTup (t : TA) : TE := fun σ H Q => t σ H fun xs H1 => xs.length ≤ sizeLine ∧ ∀ p, H1 p = none → Q (.ref p) (upd H1 p (.tup xs))
def tLst (t : TA) : TE := fun σ H Q => t σ H fun xs H1 => xs.length ≤ sizeLine ∧ ∀ p, H1 p = none → Q (.ref p) (upd H1 p (.lst xs))
theorem pe_tup {x1} (h : PA X es t) : PE X (.Tuple es x1 pos) (tTup t) := by
  intro pins s σ H Q I hq
  refine wpAny_Tuple_spliced (thn (h pos pins s σ H _ I hq) fun us s1 ⟨xs, H1, I1, r, z, q⟩ => ⟨by rw [← r.length]; exact z, ?_⟩)
  have hf : H1 s1.heap.objs.size = none := I1.hok.fresh (Nat.le_refl _)
  refine ⟨.ref s1.heap.objs.size, upd H1 s1.heap.objs.size (.tup xs), I1.laid (t' := s1.toks) (fun b u e => Heap.get?_push_of_some _ e) (Nat.le_refl _) ?_, rfl, q _ hf⟩
  exact ⟨z, us, r, ⟨_, Heap.get?_push_size _ rfl, rfl, _, rfl⟩⟩
theorem pe_lst (h : PA X es t) : PE X (.List es pos) (tLst t) := by
  intro pins s σ H Q I hq
  refine wpAny_List_spliced (thn (h pos pins s σ H _ I hq) fun us s1 ⟨xs, H1, I1, r, z, q⟩ => ⟨by rw [← r.length]; exact z, ?_⟩)
  have hf : H1 s1.heap.objs.size = none := I1.hok.fresh (Nat.le_refl _)
  refine ⟨.ref s1.heap.objs.size, upd H1 s1.heap.objs.size (.lst xs), I1.laid (t' := s1.toks) (fun b u e => Heap.get?_push_of_some _ e) (Nat.le_refl _) ?_, rfl, q _ hf⟩
  exact ⟨z, us, 0, r, Heap.get?_push_size _ rfl⟩
end

/-! ### what a def promises -/
/-- a def's promise: the bound arguments in the parameters' order, the heap, the wanted end, the wanted exception -/
abbrev Sp := List V → Hp → VK → XK → Prop
/-- how an exception lies behind a call (file 08 gives it): the callers' frames, abstract heap and state ahead of the call, the wish, the exception, the state -/
abbrev CXT := List Env → Hp → Shared → XK → Value → Shared → Prop

/-- the state at a call -/
structure Env0 (P : Program) (w : World) (K : PySem.W.Frag) (mg : Str → Option Value) (base : Heap) (A : Around) (outer : List Env) (s : Shared) (H : Hp) : Prop where
  frames : A.frames = some outer
  mod : Mod K mg base
  bs : ∀ b o, base.get? b = some o → s.heap.get? b = some o ∧ H b = none
  bsz : base.objs.size ≤ s.heap.objs.size
  funs : s.heap.FunFrames base outer
  frf : ∀ b ∈ frs outer, H b = none
  hok : HOk P w H s.heap
  bare : AllBare s.gens
/-- a call's end -/
def CE (outer : List Env) (P : Program) (w : World) (H : Hp) (s : Shared) (Q : VK) (u : Value) (s' : Shared) : Prop :=
  ∃ v H', s'.os = s.os ∧ AllBare s'.gens ∧ Un (frs outer) [] H H' s.heap s'.heap ∧ HOk P w H' s'.heap ∧ RelV v u ∧ Q v H'
def CR (CX : CXT) (outer : List Env) (P : Program) (w : World) (H : Hp) (s : Shared) (Q : VK) (E : XK) (r : Result) (s' : Shared) : Prop :=
  match r with
  | .ok (.ret u) => CE outer P w H s Q u s'
  | .ok _ => False
  | .error e => CX outer H s E e s'
structure FnOk (P : Program) (w : World) (K : PySem.W.Frag) (mg : Str → Option Value) (base : Heap) (CX : CXT) (k : Nat) (f : Addr) (fd : FuncData) (ps : List Str) (sp : Sp) : Prop where
  len : ∀ vs H Q E, sp vs H Q E → vs.length = ps.length
  run : ∀ (A : Around) (outer : List Env) (s : Shared) (H : Hp) (args : Args) (us : List Value) (vs : List V) (Q : VK) (E : XK), Room k A → Env0 P w K mg base A outer s H → BindsTo s fd args (ps.zip us) → Vals vs us → sp vs H Q E →
    codeAny (model P w) A (.call (.ref f) args) (CR CX outer P w H s Q E) s
theorem FnOk.mono {P : Program} {w : World} {K : PySem.W.Frag} {mg : Str → Option Value} {base : Heap} {CX : CXT} {j k : Nat} {f : Addr} {fd : FuncData} {ps : List Str} {sp : Sp} (F : FnOk P w K mg base CX j f fd ps sp) (h : j ≤ k) :
    FnOk P w K mg base CX k f fd ps sp := ⟨F.len, fun A outer s H args us vs Q E hr => F.run A outer s H args us vs Q E (hr.mono h)⟩
/-- a weaker promise -/
theorem FnOk.imp {P : Program} {w : World} {K : PySem.W.Frag} {mg : Str → Option Value} {base : Heap} {CX : CXT} {k : Nat} {f : Addr} {fd : FuncData} {ps : List Str} {sp sp' : Sp} (F : FnOk P w K mg base CX k f fd ps sp)
    (h : ∀ vs H Q E, sp' vs H Q E → sp vs H Q E) : FnOk P w K mg base CX k f fd ps sp' :=
  ⟨fun vs H Q E q => F.len vs H Q E (h _ _ _ _ q), fun A outer s H args us vs Q E hr he hb hv hs => F.run A outer s H args us vs Q E hr he hb hv (h _ _ _ _ hs)⟩

theorem Env0.make {P : Program} {w : World} {K : PySem.W.Frag} {mg : Str → Option Value} {base : Heap} {A : Around} {outer : List Env} {s : Shared} {H : Hp} (e : Env0 P w K mg base A outer s H) (C : Addr) (us : List Value) (kw : List (Str × Value)) :
    Env0 P w K mg base (A.under (.builtin "type.__call__" ⟨.ref C :: us, kw⟩)) outer s H := ⟨by first | exact e.frames | (simpa [Around.under, Code.envs, Code.isFrame, pushEnvs] using e.frames), e.mod, e.bs, e.bsz, e.funs, e.frf, e.hok, e.bare⟩
theorem Env0.in1 {P : Program} {w : World} {K : PySem.W.Frag} {mg : Str → Option Value} {base : Heap} {A : Around} {outer : List Env} {s : Shared} {H : Hp} (e : Env0 P w K mg base A outer s H) :
    Env0 P w K mg base A.in1 outer s H := ⟨e.frames, e.mod, e.bs, e.bsz, e.funs, e.frf, e.hok, e.bare⟩

section
variable {X : Cx} {pins : List (Addr × Obj)} {σ : St} {H : Hp} {s s' : Shared}
/-- from a body: what a callee wants -/
theorem Inv.env0 (I : Inv X pins σ H s) : Env0 X.prog X.w X.K X.mg X.base X.A X.stack s H :=
  ⟨I.ok.frames, I.ok.mod, I.bs, Nat.le_trans I.ok.bsz I.sz, I.stack, I.stkFree, I.hok, I.bare⟩
/-- behind a call -/
theorem Inv.after {Q : VK} {u : Value} (I : Inv X pins σ H s) (h : CE X.stack X.prog X.w H s Q u s') : EP X pins σ Q u s' := by
  obtain ⟨v, H', os, bare, un, hok, r, q⟩ := h
  obtain ⟨hh, g, d, t, os'⟩ := s'
  obtain rfl : os' = s.os := os
  exact ⟨v, H', I.call (h' := hh) (g' := g) (d' := d) (t' := t) (ch := []) un hok bare (fun b z => absurd z (by simp)), r, q⟩
end

/-! ### calls -/
/-- f(..): the written arguments, then the defaults dvs; E: what is wanted of an exception -/
def tCall (sp : Sp) (dvs : List V) (E : XK) (t : TA) : TE := fun σ H Q => t σ H fun vs H1 => sp (vs ++ dvs) H1 Q E
/-- o.m(..) of an instance of the class at C -/
def tMeth (C : Addr) (m : Str) (sp : Sp) (dvs : List V) (E : XK) (ta : TE) (t : TA) : TE := fun σ H Q => ta σ H fun x H1 => ∃ a dx fs, x = .ref a ∧ H1 a = some (.ins C dx fs) ∧ fs.lookup m = none ∧
  t σ H1 fun vs H2 => sp (x :: (vs ++ dvs)) H2 Q E
/-- C(..): a new instance and its dict, then __init__ -/
def tMake (C : Addr) (sp : Sp) (dvs : List V) (E : XK) (t : TA) : TE := fun σ H Q => t σ H fun vs H1 => ∀ x dx, H1 x = none → H1 dx = none → dx ≠ x →
  sp (.ref x :: (vs ++ dvs)) (upd (upd H1 dx (.own x)) x (.ins C dx [])) (fun v H2 => v = .non ∧ Q (.ref x) H2) E

/-- how the parameters are bound: us the positional arguments, kw the keywords' values by name, ds the defaults that fill up -/
def Binds (K : PySem.W.Frag) (fd : FuncData) (ps : List Str) (ds : List Value) : Prop :=
  ∀ (s : Shared) (us : List Value), K.In s.heap → (us ++ ds).length = ps.length → BindsTo s fd ⟨us, []⟩ (ps.zip (us ++ ds))
/-- every parameter is given -/
theorem Binds.all {K : PySem.W.Frag} {fd : FuncData} {ps : List Str} (h : ∀ us : List Value, us.length = ps.length → bindArgs fd ⟨us, []⟩ = pure (ps.zip us)) : Binds K fd ps [] := fun s us _ hl => by
  rw [List.append_nil] at hl ⊢
  exact .of_eq (h us hl)

/-- an exception of a callee reaches what this body wants of exceptions -/
def Passes (CX : CXT) (X : Cx) (E : XK) : Prop := ∀ (pins : List (Addr × Obj)) (σ : St) (H : Hp) (s : Shared) (e : Value) (s' : Shared), Inv X pins σ H s → CX X.stack H s E e s' → X.xe e s'

section
variable {X : Cx} {CX : CXT} {k : Nat} {f C : Addr} {fd : FuncData} {ps : List Str} {sp : Sp} {dvs : List V} {ds : List Value} {E : XK} {x m : Str} {p pos apos : Pos} {e o : Expr} {es : List Expr} {ta : TE} {t : TA}

/-- the callee runs -/
theorem run_fn {pins : List (Addr × Obj)} {σ : St} {H : Hp} {s : Shared} {Q : VK} {us : List Value} {vs : List V} (F : FnOk X.prog X.w X.K X.mg X.base CX k f fd ps sp) (hr : Room k X.A) (hb : Binds X.K fd ps ds) (hd : Vals dvs ds) (hx : Passes CX X E)
    (I : Inv X pins σ H s) (r : Vals vs us) (h : sp (vs ++ dvs) H Q E) : wpAny (model X.prog X.w) X.A (call (.ref f) us) (EP X pins σ Q) X.xe s := by
  have r2 : Vals (vs ++ dvs) (us ++ ds) := r.append hd
  have hl : (us ++ ds).length = ps.length := by rw [← r2.length]; exact F.len _ _ _ _ h
  refine wpAny_call (codeAny_mono (F.run X.A X.stack s H ⟨us, []⟩ (us ++ ds) (vs ++ dvs) Q E hr I.env0 (hb s us I.kIn hl) r2 h) fun r s' hq => ?_)
  cases r with
  | error e => exact hx pins σ H s e s' I hq
  | ok fl =>
    cases fl with
    | ret u => exact I.after hq
    | next => exact False.elim hq
    | brk => exact False.elim hq
    | cont => exact False.elim hq

theorem pe_call (F : FnOk X.prog X.w X.K X.mg X.base CX k f fd ps sp) (hr : Room k X.A) (hg : Gl X x) (hm : X.mg x = some (.ref f)) (hk : PySem.W.keepIn X.K (.ref f) = true) (hb : Binds X.K fd ps ds) (hd : Vals dvs ds) (hx : Passes CX X E)
    (ha : PA X (e :: es) t) (hdb : (x == ("__debug__" : Str)) = false := by decide) (he : starEach (e :: es) X.env = (false, eval e X.env) :: starEach es X.env := by rfl) (hpl : (backTo pos (starEach es X.env)).any (·.1) = false := by rfl) :
    PE X (.Call (.Name x p) (e :: es) [] pos) (tCall sp dvs E t) := by
  intro pins s σ H Q I h
  refine wpAny_Call_Name_kw (ld_glob I hg hm ?_ hdb)
  refine PySem.W.callWith_K (h₀ := X.base) I.ok.mod.kin hk (thn (ha pos pins s σ H _ I h) fun us s1 ⟨vs, H1, I1, r, q⟩ => ⟨I1.kIn, ?_⟩) he hpl
  exact run_fn F hr hb hd hx I1 r q
theorem pe_call0 (F : FnOk X.prog X.w X.K X.mg X.base CX k f fd ps sp) (hr : Room k X.A) (hg : Gl X x) (hm : X.mg x = some (.ref f)) (hk : PySem.W.keepIn X.K (.ref f) = true) (hb : Binds X.K fd ps ds) (hd : Vals dvs ds) (hx : Passes CX X E)
    (hdb : (x == ("__debug__" : Str)) = false := by decide) : PE X (.Call (.Name x p) [] [] pos) (tCall sp dvs E tNil) := by
  intro pins s σ H Q I h
  refine wpAny_Call_Name_kw (ld_glob I hg hm ?_ hdb)
  exact PySem.W.callWith_K0 I.kIn hk (run_fn (us := []) F hr hb hd hx I .nil h)

/-- o.m(e, ..) -/
theorem pe_meth {pl : Sem Bool} (he : PE X o ta) (c : Cls X.K C) (hm : Meth X.K C m f) (F : FnOk X.prog X.w X.K X.mg X.base CX k f fd ps sp) (hr : Room k X.A) (hb : Binds X.K fd ps ds) (hd : Vals dvs ds) (hx : Passes CX X E) (ha : PA X (e :: es) t)
    (hst : starEach (e :: es) X.env = (false, eval e X.env) :: starEach es X.env := by rfl) (hpl : (backTo pos (starEach es X.env)).any (·.1) = false := by rfl)
    (ht : eval (.Call (.Attribute o m apos) (e :: es) [] pos) X.env = (do
      let ov ← eval o X.env
      standAt apos.atName
      let (f, first) ← holding [ov] (getMethod ov m pl)
      callWith pos f first (backTo pos (starEach (e :: es) X.env)) (backToKw pos (keywordEach [] X.env))) := by rfl) :
    PE X (.Call (.Attribute o m apos) (e :: es) [] pos) (tMeth C m sp dvs E ta t) := by
  intro pins s σ H Q I h
  refine PySem.W.methodCall_KW (pl := pl) (thn (he pins s σ H _ I h) fun u s1 ⟨x, H1, I1, rx, a, dx, fs, ex, ea, l, q⟩ => ?_) ht
  subst ex
  obtain rfl : u = Value.ref a := rx
  refine getmeth_ok I1 ea c hm l ?_
  refine PySem.W.callWith_K (first := [.ref a]) (h₀ := X.base) I.ok.mod.kin hm.kp (thn (ha pos pins s1 σ H1 _ I1 q) fun us s2 ⟨vs, H2, I2, r, q2⟩ => ⟨I2.kIn, ?_⟩) hst hpl
  exact run_fn (us := .ref a :: us) (vs := .ref a :: vs) F hr hb hd hx I2 (.cons rfl r) q2
/-- o.m() -/
theorem pe_meth0 {pl : Sem Bool} (he : PE X o ta) (c : Cls X.K C) (hm : Meth X.K C m f) (F : FnOk X.prog X.w X.K X.mg X.base CX k f fd ps sp) (hr : Room k X.A) (hb : Binds X.K fd ps ds) (hd : Vals dvs ds) (hx : Passes CX X E)
    (ht : eval (.Call (.Attribute o m apos) [] [] pos) X.env = (do
      let ov ← eval o X.env
      standAt apos.atName
      let (f, first) ← holding [ov] (getMethod ov m pl)
      callWith pos f first (backTo pos (starEach [] X.env)) (backToKw pos (keywordEach [] X.env))) := by rfl) :
    PE X (.Call (.Attribute o m apos) [] [] pos) (tMeth C m sp dvs E ta tNil) := by
  intro pins s σ H Q I h
  refine PySem.W.methodCall_KW (pl := pl) (thn (he pins s σ H _ I h) fun u s1 ⟨x, H1, I1, rx, a, dx, fs, ex, ea, l, q⟩ => ?_) ht
  subst ex
  obtain rfl : u = Value.ref a := rx
  refine getmeth_ok I1 ea c hm l ?_
  exact PySem.W.callWith_K0 (first := [.ref a]) I1.kIn hm.kp (run_fn (us := [.ref a]) (vs := [.ref a]) F hr hb hd hx I1 (.cons rfl .nil) q)

/-- what a class must have to be made -/
structure Mk (K : PySem.W.Frag) (C f : Addr) : Prop where
  makes : PySem.W.makesIn K C = true
  init : PySem.W.findIn K (.ref C) "__init__" = some (some (.ref f))
  fn : PySem.W.isFn K (.ref f) = true
  kp : PySem.W.keepIn K (.ref C) = true

theorem run_make {pins : List (Addr × Obj)} {σ : St} {H : Hp} {s : Shared} {Q : VK} {us : List Value} {vs : List V} (M : Mk X.K C f) (F : FnOk X.prog X.w X.K X.mg X.base CX k f fd ps sp) (hr : Room (k + 1) X.A) (hb : Binds X.K fd ps ds) (hd : Vals dvs ds)
    (hx : Passes CX X E) (I : Inv X pins σ H s) (r : Vals vs us)
    (h : ∀ x dx, H x = none → H dx = none → dx ≠ x → sp (.ref x :: (vs ++ dvs)) (upd (upd H dx (.own x)) x (.ins C dx [])) (fun v H2 => v = .non ∧ Q (.ref x) H2) E) :
    wpAny (model X.prog X.w) X.A (call (.ref C) us) (EP X pins σ Q) X.xe s := by
  have hq := h (s.heap.objs.size + 1) s.heap.objs.size (I.hok.fresh (Nat.le_succ _)) (I.hok.fresh (Nat.le_refl _)) (Nat.ne_of_lt (Nat.lt_succ_self _))
  have I2 := Inv.made (C := C) I
  have r2 : Vals (V.ref (s.heap.objs.size + 1) :: (vs ++ dvs)) (Value.ref (s.heap.objs.size + 1) :: (us ++ ds)) := .cons rfl (r.append hd)
  have hl : (Value.ref (s.heap.objs.size + 1) :: us ++ ds).length = ps.length := by
    have e := r2.length
    rw [F.len _ _ _ _ hq] at e
    exact e.symm
  refine wpAny_call (make_map (f := f) I.kIn M.makes M.init (beq_iff_eq.mp M.fn) (codeAny_mono (F.run _ X.stack _ _ ⟨Value.ref (s.heap.objs.size + 1) :: us, []⟩ (Value.ref (s.heap.objs.size + 1) :: (us ++ ds)) _ _ E (hr.make C us [])
    (I2.env0.make C us []) (hb _ (Value.ref (s.heap.objs.size + 1) :: us) I2.kIn hl) r2 hq) fun r s' hq' => ?_))
  cases r with
  | error e => exact hx pins σ _ _ e s' I2 hq'
  | ok fl =>
    cases fl with
    | ret u =>
      obtain ⟨v, H', I3, rv, ev, q3⟩ := I2.after hq'
      subst ev
      exact ⟨rv, ⟨V.ref (s.heap.objs.size + 1), H', I3, rfl, q3⟩⟩
    | next => exact False.elim hq'
    | brk => exact False.elim hq'
    | cont => exact False.elim hq'
theorem pe_make (M : Mk X.K C f) (F : FnOk X.prog X.w X.K X.mg X.base CX k f fd ps sp) (hr : Room (k + 1) X.A) (hg : Gl X x) (hm : X.mg x = some (.ref C)) (hb : Binds X.K fd ps ds) (hd : Vals dvs ds) (hx : Passes CX X E)
    (ha : PA X (e :: es) t) (hdb : (x == ("__debug__" : Str)) = false := by decide) (he : starEach (e :: es) X.env = (false, eval e X.env) :: starEach es X.env := by rfl) (hpl : (backTo pos (starEach es X.env)).any (·.1) = false := by rfl) :
    PE X (.Call (.Name x p) (e :: es) [] pos) (tMake C sp dvs E t) := by
  intro pins s σ H Q I h
  refine wpAny_Call_Name_kw (ld_glob I hg hm ?_ hdb)
  refine PySem.W.callWith_K (h₀ := X.base) I.ok.mod.kin M.kp (thn (ha pos pins s σ H _ I h) fun us s1 ⟨vs, H1, I1, r, q⟩ => ⟨I1.kIn, ?_⟩) he hpl
  exact run_make M F hr hb hd hx I1 r q
theorem pe_make0 (M : Mk X.K C f) (F : FnOk X.prog X.w X.K X.mg X.base CX k f fd ps sp) (hr : Room (k + 1) X.A) (hg : Gl X x) (hm : X.mg x = some (.ref C)) (hb : Binds X.K fd ps ds) (hd : Vals dvs ds) (hx : Passes CX X E)
    (hdb : (x == ("__debug__" : Str)) = false := by decide) : PE X (.Call (.Name x p) [] [] pos) (tMake C sp dvs E tNil) := by
  intro pins s σ H Q I h
  refine wpAny_Call_Name_kw (ld_glob I hg hm ?_ hdb)
  exact PySem.W.callWith_K0 I.kIn M.kp (run_make (us := []) M F hr hb hd hx I .nil h)
end

/-! ### keywords -/
/-- the values of the keywords, from the left -/
def PK (X : Cx) (kws : List Keyword) (t : TA) : Prop :=
  ∀ (pos : Pos) (pins : List (Addr × Obj)) (s : Shared) (σ : St) (H : Hp) (Q : List V → Hp → Prop), Inv X pins σ H s → t σ H Q → wpAny (model X.prog X.w) X.A (evalAll ((backToKw pos (keywordEach kws X.env)).map (·.2))) (AP X pins σ Q) X.xe s
section
variable {X : Cx} {CX : CXT} {k : Nat} {f C : Addr} {fd : FuncData} {ps ks : List Str} {sp : Sp} {E : XK} {x m : Str} {p pos apos kpos : Pos} {e o : Expr} {es : List Expr} {kws : List Keyword} {te ta : TE} {t tk : TA} {nm : Option Str}
theorem pk_nil : PK X [] tNil := fun _ _ _ _ H Q I h => wpAny_evalAll_nil ⟨[], H, I, .nil, h⟩
theorem pk_cons (ha : PE X e te) (hr : PK X kws t) : PK X (⟨nm, e, kpos⟩ :: kws) (tCons te t) := by
  intro pos pins s σ H Q I h
  show wpAny _ _ (evalAll ((do let v ← eval e X.env; standAt pos; pure v) :: (backToKw pos (keywordEach kws X.env)).map (·.2))) _ _ s
  refine wpAny_evalAll_cons (wpAny_bind (thn (ha pins s σ H _ I h) fun u s1 ⟨x, H1, I1, r1, q1⟩ => wpAny_bind (wpAny_standAt (wpAny_pure ?_))))
  exact thn (hr pos pins s1 σ H1 _ I1 q1) fun us s2 ⟨xs, H2, I2, r2, q2⟩ => ⟨x :: xs, H2, I2, .cons r1 r2, q2⟩

/-- how a call with keywords binds: g puts the positional values us and the keywords' values ws (names ks) in the parameters' order, defaults among them -/
structure KBinds (K : PySem.W.Frag) (fd : FuncData) (ps ks : List Str) (g : List Value → List Value → List Value) (gV : List V → List V → List V) : Prop where
  to : ∀ (s : Shared) (us ws : List Value), K.In s.heap → (g us ws).length = ps.length → BindsTo s fd ⟨us, ks.zip ws⟩ (ps.zip (g us ws))
  rel : ∀ {vs : List V} {us : List Value} {zs : List V} {ws : List Value}, Vals vs us → Vals zs ws → Vals (gV vs zs) (g us ws)
def tCallK (sp : Sp) (gV : List V → List V → List V) (E : XK) (t tk : TA) : TE := fun σ H Q => t σ H fun vs H1 => tk σ H1 fun zs H2 => sp (gV vs zs) H2 Q E
variable {g : List Value → List Value → List Value} {gV : List V → List V → List V}
theorem run_fnk {pins : List (Addr × Obj)} {σ : St} {H : Hp} {s : Shared} {Q : VK} {us ws : List Value} {vs zs : List V} (F : FnOk X.prog X.w X.K X.mg X.base CX k f fd ps sp) (hr : Room k X.A) (hb : KBinds X.K fd ps ks g gV) (hx : Passes CX X E)
    (I : Inv X pins σ H s) (r : Vals vs us) (rz : Vals zs ws) (h : sp (gV vs zs) H Q E) : wpAny (model X.prog X.w) X.A (call (.ref f) us (ks.zip ws)) (EP X pins σ Q) X.xe s := by
  have r2 := hb.rel r rz
  have hl : (g us ws).length = ps.length := by rw [← r2.length]; exact F.len _ _ _ _ h
  refine wpAny_call (codeAny_mono (F.run X.A X.stack s H ⟨us, ks.zip ws⟩ (g us ws) (gV vs zs) Q E hr I.env0 (hb.to s us ws I.kIn hl) r2 h) fun r s' hq => ?_)
  cases r with
  | error e => exact hx pins σ H s e s' I hq
  | ok fl =>
    cases fl with
    | ret u => exact I.after hq
    | next => exact False.elim hq
    | brk => exact False.elim hq
    | cont => exact False.elim hq
/-- f(e, .., k = v, ..) -/
theorem pe_callK (F : FnOk X.prog X.w X.K X.mg X.base CX k f fd ps sp) (hr : Room k X.A) (hg : Gl X x) (hm : X.mg x = some (.ref f)) (hk : PySem.W.keepIn X.K (.ref f) = true) (hb : KBinds X.K fd ps ks g gV) (hx : Passes CX X E)
    (ha : PA X (e :: es) t) (hkw : PK X kws tk) (hall : (backToKw pos (keywordEach kws X.env)).all (·.1.isSome) = true := by rfl) (hks : (backToKw pos (keywordEach kws X.env)).filterMap (·.1) = ks := by rfl)
    (hdb : (x == ("__debug__" : Str)) = false := by decide) (he : starEach (e :: es) X.env = (false, eval e X.env) :: starEach es X.env := by rfl)
    (hpl : ((backTo pos (starEach (e :: es) X.env)).any (·.1) || (backToKw pos (keywordEach kws X.env)).any (·.1.isNone)) = false := by rfl) :
    PE X (.Call (.Name x p) (e :: es) kws pos) (tCallK sp gV E t tk) := by
  intro pins s σ H Q I h
  refine wpAny_Call_Name_kw (ld_glob I hg hm ?_ hdb)
  refine PySem.W.callWith_KW (h₀ := X.base) I.ok.mod.kin hk hall (thn (ha pos pins s σ H _ I h) fun us s1 ⟨vs, H1, I1, r, q⟩ => ?_) hpl he
  refine thn (hkw pos pins s1 σ H1 _ I1 q) fun ws s2 ⟨zs, H2, I2, rz, q2⟩ => ⟨I2.kIn, ?_⟩
  rw [hks]
  exact run_fnk F hr hb hx I2 r rz q2
end

/-! ### a def's body keeps its promise -/
/-- names: the parameters first -/
structure FnScope (N P : List Str) (sc : Scope) : Prop where
  kind : sc.kind = .function
  co : sc.isCoroutine = false
  gen : sc.isGenerator = false
  nd : N.Nodup
  pre : N.take P.length = P
  par : ∀ x ∈ P, sc.names.lookup x = some .local ∨ sc.names.lookup x = some .cell
  nofree : ∀ y ∈ sc.names, y.2 ≠ .free

theorem bindL_out {kindOf : Str → Option NameKind} {x : Str} : ∀ {binds : List (Str × Value)} {m : Str → Option Value}, (∀ v, (x, v) ∉ binds) → bindL kindOf binds m x = m x
  | [], _, _ => rfl
  | (n, v) :: r, m, h => by
    unfold bindL
    rw [bindL_out fun w hw => h w (List.mem_cons_of_mem _ hw)]
    split
    · have : x ≠ n := by rintro rfl; exact h v List.mem_cons_self
      simp [this]
    · rfl
theorem bindC_out {kindOf : Str → Option NameKind} {x : Str} : ∀ {binds : List (Str × Value)} {m : Str → Option Value}, (∀ v, (x, v) ∉ binds) → bindC kindOf binds m x = m x
  | [], _, _ => rfl
  | (n, v) :: r, m, h => by
    unfold bindC
    rw [bindC_out fun w hw => h w (List.mem_cons_of_mem _ hw)]
    split
    · rfl
    · have : x ≠ n := by rintro rfl; exact h v List.mem_cons_self
      simp [this]
theorem bindL_get {kindOf : Str → Option NameKind} {x : Str} {v : Value} : ∀ {P : List Str} {vs : List Value} {i : Nat} {m : Str → Option Value}, P.Nodup → P[i]? = some x → vs[i]? = some v → kindOf x = some .local →
    bindL kindOf (P.zip vs) m x = some v
  | [], _, _, _, _, h, _, _ => by simp at h
  | _ :: _, [], _, _, _, _, h, _ => by simp at h
  | p :: P, w :: vs, 0, m, nd, h1, h2, hk => by
    simp at h1 h2; subst h1; subst h2
    show bindL kindOf ((p, w) :: P.zip vs) m p = _
    unfold bindL
    rw [bindL_out fun v hv => (List.nodup_cons.mp nd).1 (List.of_mem_zip hv).1, if_pos hk]
    simp
  | p :: P, w :: vs, i + 1, m, nd, h1, h2, hk => by
    show bindL kindOf ((p, w) :: P.zip vs) m x = _
    unfold bindL
    exact bindL_get (i := i) (List.nodup_cons.mp nd).2 (by simpa using h1) (by simpa using h2) hk
theorem bindC_get {kindOf : Str → Option NameKind} {x : Str} {v : Value} : ∀ {P : List Str} {vs : List Value} {i : Nat} {m : Str → Option Value}, P.Nodup → P[i]? = some x → vs[i]? = some v → kindOf x ≠ some .local →
    bindC kindOf (P.zip vs) m x = some v
  | [], _, _, _, _, h, _, _ => by simp at h
  | _ :: _, [], _, _, _, _, h, _ => by simp at h
  | p :: P, w :: vs, 0, m, nd, h1, h2, hk => by
    simp at h1 h2; subst h1; subst h2
    show bindC kindOf ((p, w) :: P.zip vs) m p = _
    unfold bindC
    rw [bindC_out fun v hv => (List.nodup_cons.mp nd).1 (List.of_mem_zip hv).1, if_neg hk]
    simp
  | p :: P, w :: vs, i + 1, m, nd, h1, h2, hk => by
    show bindC kindOf ((p, w) :: P.zip vs) m x = _
    unfold bindC
    exact bindC_get (i := i) (List.nodup_cons.mp nd).2 (by simpa using h1) (by simpa using h2) hk

/-- the names' values at the entry -/
def start (N : List Str) (vs : List V) : St := vs.map some ++ List.replicate (N.length - vs.length) none

/-- the context of a def's body, at its entry; an exception leaves the frame, then lies as CX says -/
def cxOf (CX : CXT) (P : Program) (w : World) (K : PySem.W.Frag) (mg : Str → Option Value) (base : Heap) (N : List Str) (qual : Str) (scope : Scope) (f : Addr) (cd : Value) (A : Around) (outer : List Env) (s : Shared) (H : Hp) (E : XK) : Cx where
  prog := P
  w := w
  K := K
  mg := mg
  base := base
  A := A.deeper (envOfC qual scope s.heap.objs.size f cd)
  N := N
  s₀ := s
  H₀ := H
  env := envOfC qual scope s.heap.objs.size f cd
  outer := outer
  stack := envOfC qual scope s.heap.objs.size f cd :: outer
  ex := []
  calm := true
  fn := fun _ => true
  pn := []
  xe := fun e s' => wpAny (model P w) (A.deeper (envOfC qual scope s.heap.objs.size f cd)) (leaving (envOfC qual scope s.heap.objs.size f cd) e) (fun _ s'' => CX outer H s E e s'') (fun e' s'' => CX outer H s E e' s'') s'

theorem cell_has {sc : Scope} {n : Nat} {x : Str} (h : sc.names.lookup x = some .cell) : ∃ c, (cellsFrom n sc.names []).lookup x = some c := by
  have q := PySem.W.cellsFrom_some sc.names n [] (.inl h)
  exact Option.isSome_iff_exists.mp q

theorem inv_start {CX : CXT} {P : Program} {w : World} {K : PySem.W.Frag} {mg : Str → Option Value} {base : Heap} {N ps : List Str} {qual : Str} {scope : Scope} {f : Addr} {cd : Value} {A : Around} {outer : List Env} {s s1 : Shared} {H : Hp} {E : XK} {us : List Value} {vs : List V}
    (S : FnScope N ps scope) (hd : A.handled = none) (e0 : Env0 P w K mg base A outer s H) (hl : vs.length = ps.length) (r : Vals vs us)
    (x : InCallC s s.heap.objs.size (bindL (envOfC qual scope s.heap.objs.size f cd).kindOf (ps.zip us) fun _ => none) (cellsFrom (s.heap.objs.size + 1) scope.names []) (bindC (envOfC qual scope s.heap.objs.size f cd).kindOf (ps.zip us) fun _ => none) s1) :
    Inv (cxOf CX P w K mg base N qual scope f cd A outer s H E) [] (start N vs) H s1 := by
  have hpl : ps.length ≤ N.length := by have := congrArg List.length S.pre; rw [List.length_take] at this; omega
  obtain ⟨h1, tk, rfl, hk⟩ := x.done
  have noA : ∀ b : Addr, b ∉ (cxOf CX P w K mg base N qual scope f cd A outer s H E).ex := fun b z => absurd (show b ∈ ([] : List Addr) from z) (by simp)
  refine ⟨⟨e0.mod, S.kind, rfl, rfl, Nat.le_refl _, fun y z c h1 h2 => ?_, fun y hy => ?_, fun y c _ h => ?_, fun _ => hd, Around.frames_deeper e0.frames, .inr ⟨rfl, rfl⟩, fun b z => absurd z (noA b), e0.bs, e0.bsz, fun b _ _ => noA b, fun b z => absurd z (noA b), e0.funs, e0.frf⟩,
    rfl, e0.bare, Un.kept hk, ⟨_, x.toInCall.ns, fun i y v h1 h2 h3 => ?_⟩, fun y c h => ⟨_, x.cell y c h⟩, e0.hok.fresh (Nat.le_refl _), fun y c h => ?_, fun p hp => absurd (show p ∈ ([] : List (Addr × Obj)) from hp) (by simp), e0.hok.kept hk, ?_⟩
  · exact name_of_addr x.apart (PySem.mem_of_lookup h1) (PySem.mem_of_lookup h2)
  · have hy : scope.names.lookup y = some .cell ∨ scope.names.lookup y = some .free := hy
    rcases hy with hy | hy
    · exact cell_has hy
    · exact absurd rfl (S.nofree _ (PySem.mem_of_lookup hy))
  · exact Nat.le_of_lt (x.above y c (PySem.mem_of_lookup h))
  · have hi : i < vs.length := by
      unfold start at h2
      by_cases hi : i < vs.length
      · exact hi
      · rw [List.getElem?_append_right (by simpa using hi)] at h2
        rw [List.getElem?_replicate] at h2
        split at h2 <;> cases h2
    have ha : vs[i]? = some v := by
      unfold start at h2
      rw [List.getElem?_append_left (by simpa using hi), List.getElem?_map] at h2
      cases e : vs[i]? with
      | none => rw [e] at h2; cases h2
      | some a => rw [e] at h2; cases h2; rfl
    obtain ⟨u, hu, rv⟩ := r.get ha
    have hp : ps[i]? = some y := by
      rw [← S.pre, List.getElem?_take_of_lt (by omega)]; exact h1
    have ndP : ps.Nodup := by rw [← S.pre]; exact S.nd.sublist (List.take_sublist _ _)
    refine ⟨u, rv, ?_⟩
    rcases S.par y (List.mem_of_getElem? hp) with k | k
    · exact .inl ⟨k, bindL_get ndP hp hu k⟩
    · obtain ⟨c, e⟩ := cell_has (n := s.heap.objs.size + 1) k
      refine .inr ⟨.inl k, c, e, ?_⟩
      have q := x.cell y c e
      rw [bindC_get ndP hp hu (by show scope.names.lookup y ≠ _; rw [k]; decide)] at q
      exact q
  · exact e0.hok.fresh (Nat.le_of_lt (x.above y c (PySem.mem_of_lookup h)))
  · unfold start
    show _ = N.length
    rw [List.length_append, List.length_map, List.length_replicate]
    omega

/-- THE RULE: a def (or a method) of the text, by its body. The body's reading t is chosen for each entry; it is run at the parameters' values -/
theorem fn_of {CX : CXT} {P : Program} {w : World} {K : PySem.W.Frag} {mg : Str → Option Value} {base : Heap} {k : Nat} {f : Addr} {name qual : Str} {params : Arguments} {body : List Stmt} {scope : Scope} {dV kV doc pm cdv ct oc : Value} {an od : Option Addr}
    {osl : Array (Option Value)} {N ps : List Str} {sp : Sp} (lk : K.lookup f = some ⟨oc, od, .func (PySem.W.fnOf name qual params body scope dV kV doc pm an cdv ct), osl⟩) (hcd : PySem.W.codeIn K cdv qual = true) (S : FnScope N ps scope)
    (len : ∀ vs H Q E, sp vs H Q E → vs.length = ps.length)
    (hbody : ∀ (A : Around) (outer : List Env) (s : Shared) (H : Hp) (vs : List V) (Q : VK) (E : XK), Room k (A.deeper (envOfC qual scope s.heap.objs.size f cdv)) → sp vs H Q E →
      ∃ t, PSs (cxOf CX P w K mg base N qual scope f cdv A outer s H E) body t ∧ t { nx := fun _ H' => Q .non H', rt := Q } (start N vs) H) :
    FnOk P w K mg base CX (k + 1) f (PySem.W.fnOf name qual params body scope dV kV doc pm an cdv ct) ps sp := by
  refine ⟨len, fun A outer s H args us vs Q E hr e0 hb r hsp => ?_⟩
  have hl := len _ _ _ _ hsp
  have KX : K.In s.heap := e0.mod.kin.keeps fun b o e => (e0.bs b o e).1
  have lim : s.heap.NoLimit := e0.mod.nolimit.keeps fun b o e => (e0.bs b o e).1
  have hkind : ∀ y ∈ ps.zip us, scope.names.lookup y.1 = some .local ∨ (scope.names.lookup y.1 = some .cell ∧ ((cellsFrom (s.heap.objs.size + 1) scope.names []).lookup y.1).isSome = true) := fun ⟨n, v⟩ hy => by
    rcases S.par n (List.of_mem_zip hy).1 with q | q
    · exact .inl q
    · exact .inr ⟨q, PySem.W.cellsFrom_some _ _ _ (.inl q)⟩
  refine codeAny_call_function hr.depth (KX _ _ lk) rfl S.co S.gen rfl (PySem.W.codeRec_of KX hcd) (hb _ _ _ _ ?_)
  refine wpAny_newFunctionEnv_cells S.kind hkind fun env he s1 x => ?_
  subst he
  refine ⟨lim.keeps x.toInCall.keep, codeAny_func ?_⟩
  obtain ⟨t, ht, hq⟩ := hbody A outer s H vs Q E (hr.deeper _) hsp
  have I : Inv (cxOf CX P w K mg base N qual scope f cdv A outer s H E) [] (start N vs) H s1 := inv_start S hr.hd e0 hl r x
  refine wpAny_mono (ht [] s1 (start N vs) H _ I hq) (fun fl s' hs => ?_) fun e s' hs => hs
  have fin : ∀ {σ' : St} {H' : Hp} {v : V} {u : Value}, Inv (cxOf CX P w K mg base N qual scope f cdv A outer s H E) [] σ' H' s' → RelV v u → Q v H' → CE outer P w H s Q u s' :=
    fun {σ' H' v u} J rv q => ⟨v, H', J.os, J.bare, J.base, J.hok, rv, q⟩
  cases fl with
  | ret u =>
    obtain ⟨v, σ', H', J, rv, q⟩ := hs
    exact fin J rv q
  | next =>
    obtain ⟨σ', H', J, q⟩ := hs
    exact fin (v := V.non) (u := Value.none) J rfl q
  | brk =>
    obtain ⟨_, _, _, q⟩ := hs
    exact False.elim q
  | cont =>
    obtain ⟨_, _, _, q⟩ := hs
    exact False.elim q
end L2

namespace L2
open PySem PySem.Spec PyProof.Rows
section
variable {X : Cx} {x : Str} {p pos : Pos} {e : Expr} {es : List Expr} {t : TA} {id T : String} {r : List V → Hp → VK → Prop}

def tCB (r : List V → Hp → VK → Prop) (t : TA) : TE := fun σ H Q => t σ H fun vs H1 => r vs H1 Q
/-- f(e, ..), f a built-in function -/
theorem pe_callB (hc : CallR X (.builtin id) r) (hg : Gl X x) (hm : X.mg x = none) (hv : bootBuiltins x = some (.builtin id)) (ha : PA X (e :: es) t) (hn : x ≠ "__name__" := by decide) (hdb : (x == ("__debug__" : Str)) = false := by decide)
    (he : starEach (e :: es) X.env = (false, eval e X.env) :: starEach es X.env := by rfl) (hpl : (backTo pos (starEach es X.env)).any (·.1) = false := by rfl) : PE X (.Call (.Name x p) (e :: es) [] pos) (tCB r t) := by
  intro pins s σ H Q I h
  refine wpAny_Call_Name_kw (ld_blt I hg hm hv ?_ hn hdb)
  exact PyProof.Rows.callWith_builtin1 (thn (ha pos pins s σ H _ I h) fun us s1 ⟨vs, H1, I1, r1, q1⟩ => hc pins s1 σ H1 vs us Q I1 r1 q1) he hpl
/-- T(e, ..), T a built-in type -/
theorem pe_callTy (hc : CallR X (.type T) r) (hg : Gl X x) (hm : X.mg x = none) (hv : bootBuiltins x = some (.type T)) (ha : PA X (e :: es) t) (hn : x ≠ "__name__" := by decide) (hdb : (x == ("__debug__" : Str)) = false := by decide)
    (he : starEach (e :: es) X.env = (false, eval e X.env) :: starEach es X.env := by rfl) (hpl : (backTo pos (starEach es X.env)).any (·.1) = false := by rfl) : PE X (.Call (.Name x p) (e :: es) [] pos) (tCB r t) := by
  intro pins s σ H Q I h
  refine wpAny_Call_Name_kw (ld_blt I hg hm hv ?_ hn hdb)
  exact PyProof.Rows.callWith_type1 (thn (ha pos pins s σ H _ I h) fun us s1 ⟨vs, H1, I1, r1, q1⟩ => hc pins s1 σ H1 vs us Q I1 r1 q1) he hpl
/-- T() -/
theorem pe_callTy0 (hc : CallR X (.type T) r) (hg : Gl X x) (hm : X.mg x = none) (hv : bootBuiltins x = some (.type T)) (hn : x ≠ "__name__" := by decide) (hdb : (x == ("__debug__" : Str)) = false := by decide) :
    PE X (.Call (.Name x p) [] [] pos) (tCB r tNil) := by
  intro pins s σ H Q I h
  refine wpAny_Call_Name_kw (ld_blt I hg hm hv ?_ hn hdb)
  exact PyProof.Rows.callWith_type0 (hc pins s σ H [] [] Q I .nil h)
end
end L2

namespace HT
open PySem PyProof.Rows

/-- t < u of tuples of ints -/
def lexLt : List Int → List Int → Bool
  | [], [] => false
  | [], _ :: _ => true
  | _ :: _, [] => false
  | x :: xs, y :: ys => if x = y then lexLt xs ys else decide (x < y)
theorem lexLt_cons (x y : Int) (xs ys : List Int) : lexLt (x :: xs) (y :: ys) = if x = y then lexLt xs ys else decide (x < y) := rfl
theorem lexLt_nil_nil : lexLt [] [] = false := rfl
theorem lexLt_nil_cons (y : Int) (ys : List Int) : lexLt [] (y :: ys) = true := rfl
theorem lexLt_cons_nil (x : Int) (xs : List Int) : lexLt (x :: xs) [] = false := rfl

theorem eqAt_int (A : Around) (s : Shared) (a : Int) (t : Tok) (c : Int) (u : Tok) : ∃ e, SeqAt.EqAt A s (.int a t) (.int c u) e ∧ (e = true ↔ a = c) :=
  ⟨(a == c), SeqAt.EqAt.int_int a t c u, by simp⟩
theorem rcLt_int (A : Around) (s : Shared) (a : Int) (t : Tok) (c : Int) (u : Tok) (prog : Program) (w : World) (E : Value → Shared → Prop) (Q : Value → Shared → Prop) (h : Q (.bool (decide (a < c))) s) :
    wpAny (model prog w) A (richCompare .Lt (.int a t) (.int c u)) Q E s :=
  (PyProof.Rows.lt_int h : wpAny (model prog w) A (compareOp .Lt (.int a t) (.int c u)) Q E s)

section
open PySem.SeqAt
open PySem.AutoSeq1 (wpAny_loadPart')
open PySem.MeetsSeq PySem.MeetsSeq2 PySem.MeetsSeq3

theorem tuple_lt_ints (l b : Addr) (items items2 : Array Value) (n n2 : Nat) (dd dd2 : Option Addr) (sl sl2 : Array (Option Value)) (ns ms : List Int) (hi : IntsAre items.toList ns) (hj : IntsAre items2.toList ms) :
    Meets (Builtin.«tuple.__lt__» ⟨[.ref l, .ref b], []⟩)
      (fun _ R s => s.heap.get? l = some { cls := .type "tuple", dict := dd, data := .seq items n, slots := sl } ∧ s.heap.get? b = some { cls := .type "tuple", dict := dd2, data := .seq items2 n2, slots := sl2 } ∧
        R (.ok (.ret (.bool (lexLt ns ms)))) s) :=
  .of_wp fun prog w A R s h => by
    obtain ⟨hp, g, d, tk, os⟩ := s; obtain ⟨hl, hb, h⟩ := h
    have f2 := AutoSeq1.sub_tuple_tuple
    have z1 : items.size = ns.length := by rw [← hi.length]; simp
    have z2 : items2.size = ms.length := by rw [← hj.length]; simp
    wp_walk using wpAny_loadPart' hl, wpAny_loadPart' hb, wpAny_forIn_list _ (fun rest b s' => b.1 = none ∧ s' = ⟨hp, g, d, tk, os⟩ ∧ ∃ (vs ws : List Value) (ns' ms' : List Int), rest = vs.zip ws ∧
      IntsAre vs ns' ∧ IntsAre ws ms' ∧ ns'.length + items2.size = ms'.length + items.size ∧ R (.ok (.ret (.bool (lexLt ns' ms')))) ⟨hp, g, d, tk, os⟩) _
    case turn =>
      rintro ⟨y, x⟩ rest b s' ⟨hb', rfl, vs, ws, ns', ms', hz, hvi, hwi, hlen, hR⟩
      cases hvi with
      | nil => rw [List.zip_nil_left] at hz; cases hz
      | cons a t hvi' =>
        cases hwi with
        | nil => rw [List.zip_nil_right] at hz; cases hz
        | cons c u hwi' =>
          rw [List.zip_cons_cons] at hz
          injection hz with hyx hrest
          injection hyx with hy hx
          subst hy hx
          rw [lexLt_cons] at hR
          simp only [List.length_cons] at hlen
          obtain ⟨e, he, hiff⟩ := eqAt_int A.in1 ⟨hp, g, d, tk, os⟩ a t c u
          refine wpAny_bind (he prog w _ _ ?_)
          cases e with
          | true =>
            rw [if_pos (hiff.mp rfl)] at hR
            wp_walk
            exact ⟨rfl, rfl, _, _, _, _, hrest, hvi', hwi', by omega, hR⟩
          | false =>
            rw [if_neg (fun q => absurd (hiff.mpr q) Bool.false_ne_true)] at hR
            have hri := rcLt_int A.in1 ⟨hp, g, d, tk, os⟩ a t c u prog w
            wp_walk using hri
            exact ⟨_, rfl, by simpa using hR⟩
    case fin =>
      rintro ⟨b1, b2⟩ s' ⟨hb', rfl, vs, ws, ns', ms', hz, hvi, hwi, hlen, hR⟩
      simp only at hb'
      subst hb'
      have hv : lexLt ns' ms' = decide (items.size < items2.size) := by
        cases hvi with
        | nil =>
          cases hwi with
          | nil =>
            simp only [List.length_nil] at hlen
            rw [lexLt_nil_nil]
            exact (decide_eq_false (by omega)).symm
          | cons c u hw =>
            simp only [List.length_nil, List.length_cons] at hlen
            rw [lexLt_nil_cons]
            exact (decide_eq_true (by omega)).symm
        | cons a t hv =>
          cases hwi with
          | nil =>
            simp only [List.length_nil, List.length_cons] at hlen
            rw [lexLt_cons_nil]
            exact (decide_eq_false (by omega)).symm
          | cons c u hw =>
            rw [List.zip_cons_cons] at hz
            cases hz
      rw [hv] at hR
      wp_walk
      exact ⟨_, rfl, by simpa [Builtin.Tuple.tupleCompareSizes] using hR⟩
    case h =>
      exact ⟨rfl, rfl, items.toList, items2.toList, ns, ms, rfl, hi, hj, by omega, h⟩
end

section
variable {prog : Program} {w : World} {A : Around} {E : Value → Shared → Prop} {s : Shared}

theorem lt_tupInts {l b : Addr} {items items2 : Array Value} {ns ms : List Int} {Q : Value → Shared → Prop} (hl : IsTup s.heap l items) (hb : IsTup s.heap b items2) (hi : IntsAre items.toList ns) (hj : IntsAre items2.toList ms)
    (hu : A.units < cLine) (h : Q (.bool (lexLt ns ms)) s) : wpAny (model prog w) A (compareOp .Lt (.ref l) (.ref b)) Q E s := by
  obtain ⟨⟨cls, dd, data, sl⟩, ho, hc, n, hd⟩ := id hl
  obtain ⟨⟨cls2, dd2, data2, sl2⟩, ho2, hc2, n2, hd2⟩ := id hb
  simp only at hc hd hc2 hd2
  subst hc hd hc2 hd2
  exact richCompare_meets_room (op := .Lt) ⟨_, ho, rfl⟩ ⟨_, ho2, rfl⟩ PySem.F.slot_tuple_lt PySem.F.entry_tuple_lt (PySem.F.args_tuple_lt_2 _ _) (tuple_lt_ints l b items items2 n n2 dd dd2 sl sl2 ns ms hi hj)
    ⟨ho, ho2, show Value.bool (lexLt ns ms) ≠ Value.notImplemented ∧ Q (.bool (lexLt ns ms)) s from ⟨(fun x => nomatch x), h⟩⟩ hu

/-- t + u, t not empty -/
theorem cat_tup {t b : Addr} {vs ws : List Value} {Q : Value → Shared → Prop} (ht : IsTup s.heap t vs.toArray) (hb : IsTup s.heap b ws.toArray) (hv : vs ≠ [])
    (h1 : ws = [] → Q (.ref t) s) (h2 : ws ≠ [] → Q (.ref s.heap.objs.size) { s with heap := s.heap.push { cls := .type "tuple", data := .seq (vs ++ ws).toArray } })
    (hsz : vs.length + ws.length ≤ sizeLine) : wpAny (model prog w) A (binaryOp .Add (.ref t) (.ref b)) Q E s := by
  obtain ⟨⟨cls, dd, data, sl⟩, ho, hc, n, hd⟩ := id ht
  obtain ⟨⟨cls2, dd2, data2, sl2⟩, ho2, hc2, n2, hd2⟩ := id hb
  simp only at hc hd hc2 hd2
  subst hc hd hc2 hd2
  have e : vs.toArray ++ ws.toArray = (vs ++ ws).toArray := by simp
  by_cases hw : ws = []
  · exact concat_meets ⟨_, ho, rfl⟩ ⟨_, ho2, rfl⟩ noFill_tuple_add seq_tuple_add PySem.F.slot_tuple_add PySem.F.entry_tuple_add (PySem.F.args_tuple_add_2 _ _)
      (tuple_addW1 t b vs.toArray ws.toArray n n2 dd dd2 sl sl2 (by simpa using hv) (by simp [hw])) ⟨ho, ho2, h1 hw⟩
  · refine concat_meets ⟨_, ho, rfl⟩ ⟨_, ho2, rfl⟩ noFill_tuple_add seq_tuple_add PySem.F.slot_tuple_add PySem.F.entry_tuple_add (PySem.F.args_tuple_add_2 _ _)
      (tuple_addW2 t b vs.toArray ws.toArray n n2 dd dd2 sl sl2 (by simpa using hv) (by simpa using hw) (by rw [List.size_toArray, List.size_toArray]; exact hsz)) ⟨ho, ho2, ?_⟩
    rw [e]
    exact h2 hw

/-! ### t[a:b], not the whole -/
/-- a slice's bound as a place among n (d where it is left out) -/
def sIx (n d : Nat) : Option Int → Nat
  | none => d
  | some v => if v < 0 then (v + (n : Int)).toNat else min v.toNat n
theorem sIx_none (n d : Nat) : sIx n d none = d := rfl
theorem sIx_nat (n d k : Nat) : sIx n d (some (k : Int)) = min k n := by
  show (if (k : Int) < 0 then ((k : Int) + (n : Int)).toNat else min (k : Int).toNat n) = min k n
  rw [if_neg (by omega), Int.toNat_natCast]
theorem sIx_le (n d : Nat) (hd : d ≤ n) (o : Option Int) : sIx n d o ≤ n := by
  cases o with
  | none => exact hd
  | some v =>
    show (if v < 0 then (v + (n : Int)).toNat else min v.toNat n) ≤ n
    by_cases hv : v < 0
    · rw [if_pos hv]; omega
    · rw [if_neg hv]; exact Nat.min_le_right _ _
theorem clip_eq (v : Int) (n d : Nat) : (if v < 0 then max (v + (n : Int)) 0 else min v (n : Int)) = ((sIx n d (some v) : Nat) : Int) := by
  show (if v < 0 then max (v + (n : Int)) 0 else min v (n : Int)) = (((if v < 0 then (v + (n : Int)).toNat else min v.toNat n) : Nat) : Int)
  by_cases hv : v < 0
  · simp only [if_pos hv]; omega
  · simp only [if_neg hv]; omega
theorem adjust_gen (lo hi : Option Int) (n : Nat) : Builtin.Slice.sliceAdjust lo hi 1 (n : Int) = (((sIx n 0 lo : Nat) : Int), ((sIx n n hi : Nat) : Int)) := by
  have h1 : ¬ ((1 : Int) < 0) := by omega
  unfold Builtin.Slice.sliceAdjust
  simp only [h1, if_false]
  refine Prod.ext ?_ ?_
  · cases lo with
    | none => rfl
    | some v => exact clip_eq v n 0
  · cases hi with
    | none => rfl
    | some v => exact clip_eq v n n
theorem places_gen (i j : Nat) : Builtin.Slice.slicePlaces (i : Int) (j : Int) 1 = j - i := by
  unfold Builtin.Slice.slicePlaces
  have h1 : (1 : Int) > 0 := by omega
  simp only [h1, if_true, Int.ediv_one]
  split <;> omega
theorem slicePart_ {v : Value} {o : Option Int} {Q : Option Int → Shared → Prop} (p : IsPart v o) (h : Q o s) : wpAny (model prog w) A (Builtin.Slice.slicePartIndex v) Q E s := by
  cases p with
  | none => exact slicePart_none h
  | int i t => exact slicePart_int h
theorem sliceApplied_gen {sl : Addr} {vl vu : Value} {lo hi : Option Int} {n : Nat} {Q : Int × Int × Nat → Shared → Prop} (hs : s.heap.IsSliceOf sl vl vu .none) (pl : IsPart vl lo) (pu : IsPart vu hi)
    (h : Q (((sIx n 0 lo : Nat) : Int), 1, sIx n n hi - sIx n 0 lo) s) : wpAny (model prog w) A (Builtin.Slice.sliceApplied (.ref sl) (pure (n : Int))) Q E s := by
  obtain ⟨os, hos, hcs, hds⟩ := id hs
  unfold Builtin.Slice.sliceApplied Builtin.Slice.sliceFields
  refine wpAny_bind (wpAny_bind (wpAny_field hos hds (x := vl) rfl (wpAny_bind (wpAny_field hos hds (x := vu) rfl (wpAny_bind (wpAny_field hos hds (x := .none) rfl (wpAny_pure ?_)))))))
  refine wpAny_bind (slicePart_none ?_)
  show wpAny _ _ (if ((1 : Int) == 0) = true then _ else _) _ _ s
  rw [if_neg (by decide)]
  refine wpAny_bind (slicePart_ pl (wpAny_bind (slicePart_ pu (wpAny_bind (wpAny_pure ?_)))))
  show wpAny _ _ (match Builtin.Slice.sliceAdjust lo hi 1 (n : Int) with | (lo, hi) => pure (lo, (1 : Int), Builtin.Slice.slicePlaces lo hi 1)) _ _ s
  rw [adjust_gen lo hi n]
  show wpAny _ _ (pure (((sIx n 0 lo : Nat) : Int), (1 : Int), Builtin.Slice.slicePlaces ((sIx n 0 lo : Nat) : Int) ((sIx n n hi : Nat) : Int) 1)) _ _ s
  rw [places_gen]
  exact wpAny_pure h
theorem pick_gen (xs : Array Value) (i k : Nat) : ((List.range k).filterMap fun (m : Nat) => xs[((i : Int) + (m : Int) * 1).toNat]?).toArray = ((xs.toList.drop i).take k).toArray := by
  have e : (fun (m : Nat) => xs[((i : Int) + (m : Int) * 1).toNat]?) = fun m => xs[i + m]? := by
    funext m
    have : ((i : Int) + (m : Int) * 1).toNat = i + m := by omega
    rw [this]
  rw [e]
  have := pick_run xs i k
  rw [List.filterMap_map] at this
  have e2 : ((fun x => xs[x]?) ∘ fun x => i + x) = fun m => xs[i + m]? := rfl
  rw [e2] at this
  rw [this]

theorem getItem_tuple_cut {t sl : Addr} {items : Array Value} {vl vu : Value} {lo hi : Option Int} {Q : Value → Shared → Prop} (ht : IsTup s.heap t items) (hs : s.heap.IsSliceOf sl vl vu .none) (pl : IsPart vl lo) (pu : IsPart vu hi)
    (hw : ¬ (sIx items.size 0 lo = 0 ∧ sIx items.size items.size hi = items.size))
    (h : Q (.ref s.heap.objs.size) { s with heap := s.heap.push { cls := .type "tuple", data := .seq ((items.toList.drop (sIx items.size 0 lo)).take (sIx items.size items.size hi - sIx items.size 0 lo)).toArray } })
    (hsz : items.size ≤ sizeLine) : wpAny (model prog w) A (getItem (.ref t) (.ref sl)) Q E s := by
  have htake : sizeOk (.seq ((items.toList.drop (sIx items.size 0 lo)).take (sIx items.size items.size hi - sIx items.size 0 lo)).toArray) := by
    show ((items.toList.drop (sIx items.size 0 lo)).take (sIx items.size items.size hi - sIx items.size 0 lo)).toArray.size ≤ sizeLine
    rw [List.size_toArray, List.length_take, List.length_drop, Array.length_toList]
    omega
  have hj : sIx items.size items.size hi ≤ items.size := sIx_le _ _ (Nat.le_refl _) hi
  obtain ⟨os, hos, hcs, hds⟩ := id hs
  have hTs : s.TypeIs (.ref sl) "slice" := ⟨os, hos, hcs⟩
  unfold getItem
  try with_reducible refine wpAny_holding ?_
  first | refine wpAny_bind (wpAny_pure ?_) | skip
  refine wpAny_bind (wpAny_sequenceKey ht.typeIs (by decide) ?_)
  refine wpAny_bind (wpAny_callSpecial?_slot (name := Str.ofString "__getitem__") ht.typeIs PyProof.Rows.slot_tuple_getitem
    (wpAny_call_entry PyProof.Rows.slot_tuple_getitem ht.typeIs entry_tuple_getitem ?_ (args_tuple_getitem _ _)))
  show wpAny _ _ (Builtin.Tuple.tupleItemsOf (.ref t) >>= _) _ _ s
  refine wpAny_bind (tupleItemsOf_ ht ?_)
  refine wpAny_bind (wpAny_typeOf hTs ?_)
  rw [if_pos (by decide)]
  refine wpAny_bind (sliceApplied_gen hs pl pu ?_)
  have hno : ¬ ((((sIx items.size 0 lo : Nat) : Int) == 0 && (1 : Int) == 1 && (sIx items.size items.size hi - sIx items.size 0 lo) == items.size) = true) := by
    intro q
    rw [Bool.and_eq_true, Bool.and_eq_true] at q
    have q1 : ((sIx items.size 0 lo : Nat) : Int) = 0 := eq_of_beq q.1.1
    have q2 : sIx items.size items.size hi - sIx items.size 0 lo = items.size := eq_of_beq q.2
    exact hw ⟨by omega, by omega⟩
  show wpAny _ _ (if (((sIx items.size 0 lo : Nat) : Int) == 0 && (1 : Int) == 1 && (sIx items.size items.size hi - sIx items.size 0 lo) == items.size) = true then _ else _) _ _ s
  rw [if_neg hno, pick_gen]
  first
    | exact wpAny_bind (m := Builtin.Tuple.tupleExact _) (wpAny_newObj_type (wpAny_pure ⟨_, rfl, wpAny_pure h⟩) htake)
    | exact wpAny_bind (m := Builtin.Tuple.tupleExact _) (wpAny_newObj_type (wpAny_bind (wpAny_pure (wpAny_pure ⟨_, rfl, wpAny_pure h⟩))) htake)
    | exact wpAny_bind (wpAny_bind (m := Builtin.Tuple.tupleExact _) (wpAny_newObj_type (wpAny_pure (wpAny_pure ⟨_, rfl, wpAny_pure h⟩)) htake))
    | exact wpAny_bind (wpAny_bind (m := Builtin.Tuple.tupleExact _) (wpAny_newObj_type (wpAny_pure ⟨_, rfl, wpAny_pure h⟩) htake))
end
end HT

namespace L2
open PySem PySem.Spec PyProof.Rows

/-! ### the parts of a slice -/
abbrev TO := St → Hp → (Option Int → Hp → Prop) → Prop
/-- a slice's part (left out, or an int) -/
def PO (X : Cx) (e : Option Expr) (t : TO) : Prop :=
  ∀ (pins : List (Addr × Obj)) (s : Shared) (σ : St) (H : Hp) (Q : Option Int → Hp → Prop), Inv X pins σ H s → t σ H Q →
    wpAny (model X.prog X.w) X.A (evalPart e X.env) (fun u s' => ∃ o H', Inv X pins σ H' s' ∧ IsPart u o ∧ Q o H') X.xe s
def tNoPart : TO := fun _ H Q => Q none H
def tPart (t : TE) : TO := fun σ H Q => t σ H fun x H1 => ∃ i, x = .int i ∧ Q (some i) H1

theorem intsAre_of {ns : List Int} : ∀ {us : List Value}, Vals (ns.map V.int) us → IntsAre us ns := by
  induction ns with
  | nil => intro us r; rw [List.map_nil] at r; cases r; exact .nil
  | cons n ns ih =>
    intro us r
    rw [List.map_cons] at r
    cases r with
    | cons r1 r2 =>
      obtain ⟨t, e⟩ := r1
      subst e
      exact .cons n t (ih r2)

section
variable {X : Cx} {e : Expr} {te : TE} {lo hi : Option Expr} {tl th : TO} {pos p2 : Pos}

theorem po_none : PO X none tNoPart := by
  intro pins s σ H Q I h
  rw [evalPart_none]
  exact wpAny_pure ⟨none, H, I, .none, h⟩
theorem po_some (h : PE X e te) : PO X (some e) (tPart te) := by
  intro pins s σ H Q I hw
  rw [evalPart_some]
  refine thn (h pins s σ H _ I hw) fun u s1 ⟨x, H1, I1, r1, q1⟩ => ?_
  obtain ⟨i, rfl, q⟩ := q1
  obtain ⟨t, rfl⟩ := r1
  exact ⟨some i, H1, I1, .int i t, q⟩

/-- what a slice of a value is, by values: the slice object stands at sl -/
def SlR (X : Cx) (r : V → Option Int → Option Int → Hp → VK → Prop) : Prop :=
  ∀ (pins : List (Addr × Obj)) (s : Shared) (σ : St) (H : Hp) (x : V) (v vl vu : Value) (lo hi : Option Int) (sl : Addr) (Q : VK), Inv X pins σ H s → RelV x v → s.heap.IsSliceOf sl vl vu .none → IsPart vl lo → IsPart vu hi → r x lo hi H Q →
    ∃ T id, typeLookup (.type T) "__getitem__" = pure (some (.builtin id)) ∧ s.TypeIs v T ∧ wpAny (model X.prog X.w) X.A (getItem v (.ref sl)) (EP X pins σ Q) X.xe s
theorem SlR.or {r r' : V → Option Int → Option Int → Hp → VK → Prop} (h : SlR X r) (h' : SlR X r') : SlR X (fun x lo hi H Q => r x lo hi H Q ∨ r' x lo hi H Q) := by
  intro pins s σ H x v vl vu lo hi sl Q I rx hs pl pu q
  rcases q with q | q
  · exact h pins s σ H x v vl vu lo hi sl Q I rx hs pl pu q
  · exact h' pins s σ H x v vl vu lo hi sl Q I rx hs pl pu q
def tSl (r : V → Option Int → Option Int → Hp → VK → Prop) (te : TE) (tl th : TO) : TE := fun σ H Q => te σ H fun x H1 => tl σ H1 fun l H2 => th σ H2 fun u H3 => r x l u H3 Q
/-- a[lo:hi], any a -/
theorem pe_slice {r : V → Option Int → Option Int → Hp → VK → Prop} (hr : SlR X r) (he : PE X e te) (hl : PO X lo tl) (hu : PO X hi th) : PE X (.Subscript e (.Slice lo hi none p2) pos) (tSl r te tl th) := by
  intro pins s σ H Q I h
  refine Subscript_ (thn (he pins s σ H _ I h) fun v s1 ⟨x, H1, I1, r1, q1⟩ => ?_)
  refine wpAny_Slice (thn (hl pins s1 σ H1 _ I1 q1) fun vl s2 ⟨l, H2, I2, pl, q2⟩ => thn (hu pins s2 σ H2 _ I2 q2) fun vu s3 ⟨u, H3, I3, pu, q3⟩ => ?_)
  rw [evalPart_none]
  refine wpAny_pure ?_
  have I4 : Inv X pins σ H3 { s3 with heap := s3.heap.push { cls := .type "slice", data := .fields #[vl, vu, .none] } } := I3.kept (t' := s3.toks) fun b ob q => Heap.get?_push_of_some _ q
  obtain ⟨T, id, hT, ht, hg⟩ := hr pins { s3 with heap := s3.heap.push { cls := .type "slice", data := .fields #[vl, vu, .none] } } σ H3 x v vl vu l u s3.heap.objs.size Q I4 r1 (Heap.IsSliceOf.new ..) pl pu q3
  show wpAny (model X.prog X.w) X.A (subscriptTail e (.Slice lo hi none p2) v (.ref s3.heap.objs.size)) (EP X pins σ Q) X.xe { s3 with heap := s3.heap.push { cls := .type "slice", data := .fields #[vl, vu, .none] } }
  exact tail_any (ops := [.ref s3.heap.objs.size, v]) ht hT hg (by with_unfolding_all rfl)

/-- the items of xs[lo:hi] -/
def cutV (xs : List V) (lo hi : Option Int) : List V := (xs.drop (HT.sIx xs.length 0 lo)).take (HT.sIx xs.length xs.length hi - HT.sIx xs.length 0 lo)
theorem cutV_length (xs : List V) (lo hi : Option Int) : (cutV xs lo hi).length ≤ xs.length := by
  unfold cutV
  rw [List.length_take, List.length_drop]
  omega
/-- t[lo:hi], not the whole of it (the whole would be t itself) -/
def rSlT (K : PySem.W.Frag) : V → Option Int → Option Int → Hp → VK → Prop := fun x lo hi H Q => ∃ a xs, x = .ref a ∧ SqT K H a xs ∧
  ¬ (HT.sIx xs.length 0 lo = 0 ∧ HT.sIx xs.length xs.length hi = xs.length) ∧ ∀ p, H p = none → Q (.ref p) (upd H p (.tup (cutV xs lo hi)))
theorem sl_tup : SlR X (rSlT X.K) := by
  intro pins s σ H x v vl vu lo hi sl Q I rx hs pl pu h
  obtain ⟨a, xs, rfl, hx, hw, q⟩ := h
  cases rx
  obtain ⟨its, r, ht, hz⟩ := I.tuple hx
  have hlen : its.toArray.size = xs.length := by rw [List.size_toArray]; exact r.length.symm
  refine ⟨"tuple", _, PyProof.Rows.slot_tuple_getitem.lookup, ht.typeIs, ?_⟩
  refine HT.getItem_tuple_cut ht hs pl pu (by rw [hlen]; exact hw) ?_ (by rw [hlen]; exact hz)
  rw [hlen]
  refine ⟨.ref s.heap.objs.size, _, I.laid (t' := s.toks) (o := .tup (cutV xs lo hi)) (fun b ob q => Heap.get?_push_of_some _ q) (Nat.le_refl _) ?_, rfl, q _ (I.hok.fresh (Nat.le_refl _))⟩
  exact ⟨Nat.le_trans (cutV_length xs lo hi) hz, _, (r.drop (HT.sIx xs.length 0 lo)).take (HT.sIx xs.length xs.length hi - HT.sIx xs.length 0 lo), IsTup.new _ _⟩

/-! ### t < u, t + u -/
def rLtT (K : PySem.W.Frag) : R2 := fun x y H Q => ∃ a b ns ms, x = .ref a ∧ y = .ref b ∧ SqT K H a (ns.map V.int) ∧ SqT K H b (ms.map V.int) ∧ Q (.bl (HT.lexLt ns ms)) H
theorem op_ltT (hu : X.A.units < cLine) : OpR X (compareOp .Lt) (rLtT X.K) := by
  intro pins s σ H x y v u Q I rx ry h
  obtain ⟨a, b, ns, ms, rfl, rfl, ha, hb, q⟩ := h
  cases rx
  cases ry
  obtain ⟨its, r1, p1, _⟩ := I.tuple ha
  obtain ⟨its2, r2, p2, _⟩ := I.tuple hb
  have i1 : IntsAre its.toArray.toList ns := intsAre_of r1
  have i2 : IntsAre its2.toArray.toList ms := intsAre_of r2
  exact HT.lt_tupInts p1 p2 i1 i2 hu ⟨.bl (HT.lexLt ns ms), H, I, rfl, q⟩
/-- t + u, t not empty: u empty gives t itself -/
def rCatT (K : PySem.W.Frag) : R2 := fun x y H Q => ∃ a b xs ys, x = .ref a ∧ y = .ref b ∧ SqT K H a xs ∧ SqT K H b ys ∧ xs ≠ [] ∧ xs.length + ys.length ≤ sizeLine ∧
  (ys = [] → Q (.ref a) H) ∧ (ys ≠ [] → ∀ p, H p = none → Q (.ref p) (upd H p (.tup (xs ++ ys))))
theorem Vals.nil_iff {xs : List V} {us : List Value} (r : Vals xs us) : us = [] ↔ xs = [] := by
  cases r with
  | nil => simp
  | cons _ _ => simp
theorem op_catT : OpR X (binaryOp .Add) (rCatT X.K) := by
  intro pins s σ H x y v u Q I rx ry h
  obtain ⟨a, b, xs, ys, rfl, rfl, ha, hb, hx, hz, q1, q2⟩ := h
  cases rx
  cases ry
  obtain ⟨its, r1, p1, _⟩ := I.tuple ha
  obtain ⟨its2, r2, p2, _⟩ := I.tuple hb
  refine HT.cat_tup p1 p2 (fun z => hx (r1.nil_iff.mp z)) (fun z => ⟨.ref a, H, I, rfl, q1 (r2.nil_iff.mp z)⟩) (fun z => ?_) (by rw [← r1.length, ← r2.length]; exact hz)
  refine ⟨.ref s.heap.objs.size, _, I.laid (t' := s.toks) (o := .tup (xs ++ ys)) (fun b ob q => Heap.get?_push_of_some _ q) (Nat.le_refl _) ?_, rfl, q2 (fun w => z (r2.nil_iff.mpr w)) _ (I.hok.fresh (Nat.le_refl _))⟩
  exact ⟨by rw [List.length_append]; exact hz, _, r1.append r2, IsTup.new _ _⟩
/-- tuple(t) -/
theorem call_tupleT : CallR X (.type "tuple") (fun xs H Q => ∃ a ys, xs = [.ref a] ∧ SqT X.K H a ys ∧ Q (.ref a) H) := by
  intro pins s σ H xs us Q I r h
  obtain ⟨a, ys, rfl, ha, q⟩ := h
  obtain ⟨u, rfl, ru⟩ := vals1 r
  cases ru
  obtain ⟨its, _, p1, _⟩ := I.tuple ha
  exact call_tuple_same (items := its.toArray) p1 ⟨.ref a, H, I, rfl, q⟩
end
end L2

namespace L2
open PySem PySem.Spec PyProof.Rows

/-! ### places -/
/-- the place that an index of any sign means -/
def ixN (n : Nat) (i : Int) : Option Nat := if 0 ≤ i then (if i < n then some i.toNat else none) else if -(n : Int) ≤ i then some (i + n).toNat else none
def atI {α : Type} (xs : List α) (i : Int) : Option α := (ixN xs.length i).bind fun j => xs[j]?
theorem ixN_seq {n : Nat} {i : Int} {j : Nat} (h : ixN n i = some j) : seqIndex? i n = some j ∧ j < n ∧ -(n : Int) ≤ i ∧ i < n := by
  unfold ixN at h
  by_cases h0 : 0 ≤ i
  · rw [if_pos h0] at h
    by_cases h1 : i < n
    · rw [if_pos h1] at h
      have e : i.toNat = j := Option.some.inj h
      exact ⟨by rw [seqIndex_of h0 h1, e], by omega, by omega, h1⟩
    · rw [if_neg h1] at h; cases h
  · rw [if_neg h0] at h
    by_cases h1 : -(n : Int) ≤ i
    · rw [if_pos h1] at h
      have e : (i + n).toNat = j := Option.some.inj h
      exact ⟨by rw [seqIndex_neg (by omega) h1, e], by omega, h1, by omega⟩
    · rw [if_neg h1] at h; cases h
theorem atI_get {α : Type} {xs : List α} {i : Int} {v : α} (h : atI xs i = some v) : ∃ j, seqIndex? i xs.length = some j ∧ xs[j]? = some v ∧ j < xs.length ∧ -(xs.length : Int) ≤ i ∧ i < xs.length := by
  unfold atI at h
  cases e : ixN xs.length i with
  | none => rw [e] at h; cases h
  | some j =>
    rw [e] at h
    obtain ⟨h1, h2, h3, h4⟩ := ixN_seq e
    exact ⟨j, h1, h, h2, h3, h4⟩
theorem atI_nat {α : Type} {xs : List α} {j : Nat} {v : α} (h : xs[j]? = some v) : atI xs (j : Int) = some v := by
  have hj : j < xs.length := (List.getElem?_eq_some_iff.mp h).1
  have e : ixN xs.length (j : Int) = some j := by
    unfold ixN
    rw [if_pos (by omega), if_pos (by omega)]; simp
  unfold atI; rw [e]; exact h
theorem atI_last {α : Type} (xs : List α) (v : α) : atI (xs ++ [v]) (-1) = some v := by
  have hl : (xs ++ [v]).length = xs.length + 1 := by simp
  have e : ixN (xs ++ [v]).length (-1) = some xs.length := by
    unfold ixN
    rw [hl, if_neg (by decide), if_pos (by omega)]
    congr 1
    omega
  unfold atI
  rw [e]
  show (xs ++ [v])[xs.length]? = some v
  simp

/-! ### what may be subscripted -/
/-- what stands as an index of a plain subscript -/
def PlainIx (b : Expr) : Prop := ∀ o i, subscripted b false o i = operate [o, i] (getItem o i)
/-- a subscript by values -/
def IxR (X : Cx) (r : R2) : Prop :=
  ∀ (value slice : Expr) (pins : List (Addr × Obj)) (s : Shared) (σ : St) (H : Hp) (x y : V) (v u : Value) (Q : VK), Inv X pins σ H s → RelV x v → RelV y u → r x y H Q →
    subscripted slice false v u = operate [v, u] (getItem v u) → wpAny (model X.prog X.w) X.A (subscriptTail value slice v u) (EP X pins σ Q) X.xe s
/-- a call of a builtin's method by values: the receiver, the arguments -/
def MtR (X : Cx) (id : String) (r : V → List V → Hp → VK → Prop) : Prop :=
  ∀ (pins : List (Addr × Obj)) (s : Shared) (σ : St) (H : Hp) (x : V) (xs : List V) (v : Value) (us : List Value) (Q : VK), Inv X pins σ H s → RelV x v → Vals xs us → r x xs H Q →
    wpAny (model X.prog X.w) X.A (call (.builtin id) (v :: us)) (EP X pins σ Q) X.xe s
section
variable {X : Cx} {a b : Expr} {ta tb : TE} {pos : Pos}
theorem IxR.or {r r' : R2} (h : IxR X r) (h' : IxR X r') : IxR X (fun x y H Q => r x y H Q ∨ r' x y H Q) := by
  intro value slice pins s σ H x y v u Q I rx ry q hs
  rcases q with q | q
  · exact h value slice pins s σ H x y v u Q I rx ry q hs
  · exact h' value slice pins s σ H x y v u Q I rx ry q hs
theorem MtR.or {id : String} {r r' : V → List V → Hp → VK → Prop} (h : MtR X id r) (h' : MtR X id r') : MtR X id (fun x xs H Q => r x xs H Q ∨ r' x xs H Q) := by
  intro pins s σ H x xs v us Q I rx rs q
  rcases q with q | q
  · exact h pins s σ H x xs v us Q I rx rs q
  · exact h' pins s σ H x xs v us Q I rx rs q
/-- a[b] -/
theorem pe_ix {r : R2} (hr : IxR X r) (ha : PE X a ta) (hb : PE X b tb) (hs : PlainIx b) : PE X (.Subscript a b pos) (tOp r ta tb) := by
  intro pins s σ H Q I h
  exact Subscript_ (binT ha hb I h fun v u s2 x y H2 I2 rx ry q => hr a b pins s2 σ H2 x y v u Q I2 rx ry q (hs _ _))

def rIxL (K : PySem.W.Frag) : R2 := fun x y H Q => ∃ p xs i v, x = .ref p ∧ y = .int i ∧ SqL K H p xs ∧ atI xs i = some v ∧ Q v H
def rIxT (K : PySem.W.Frag) : R2 := fun x y H Q => ∃ p xs i v, x = .ref p ∧ y = .int i ∧ SqT K H p xs ∧ atI xs i = some v ∧ Q v H
def rIxS : R2 := fun x y H Q => ∃ z i c, x = .str z ∧ y = .int i ∧ z.length ≤ sizeLine ∧ atI z.cps.toList i = some c ∧ Q (.str ⟨#[c]⟩) H
theorem ix_list : IxR X (rIxL X.K) := by
  intro value slice pins s σ H x y v u Q I rx ry h hs
  obtain ⟨p, xs, i, z, rfl, rfl, hq, he, q⟩ := h
  cases rx
  obtain ⟨t, rfl⟩ := ry
  obtain ⟨its, r, pl, hz⟩ := I.list hq
  obtain ⟨j, h1, h2, h3, h4, h5⟩ := atI_get he
  obtain ⟨w, ew, rw'⟩ := r.get h2
  have hl := r.length
  have hn := line63
  have fin : EP X pins σ Q w s := ⟨z, H, I, rw', q⟩
  by_cases h0 : 0 ≤ i
  · have hj : i.toNat = j := by
      rw [seqIndex_of h0 h5] at h1
      exact Option.some.inj h1
    exact item_listR pl.isList h0 (by omega) (by rw [hj]; simpa using ew) fin hs
  · have hj : (i + (its.toArray.size : Int)).toNat = j := by
      rw [seqIndex_neg (by omega) h4] at h1
      rw [List.size_toArray, ← hl]
      exact Option.some.inj h1
    exact subscriptTail_builtinR (x := w) pl.isList.typeIs slot_list_getitem.lookup
      (wpAny_getItem_list_neg (Q := fun r s' => r = w ∧ EP X pins σ Q r s') pl.isList (by omega) (by rw [List.size_toArray] <;> omega) (by omega) (by rw [hj]; simpa using ew) ⟨rfl, fin⟩) hs
theorem ix_tup : IxR X (rIxT X.K) := by
  intro value slice pins s σ H x y v u Q I rx ry h hs
  obtain ⟨p, xs, i, z, rfl, rfl, hq, he, q⟩ := h
  cases rx
  obtain ⟨t, rfl⟩ := ry
  obtain ⟨its, r, pl, hz⟩ := I.tuple hq
  obtain ⟨j, h1, h2, h3, h4, h5⟩ := atI_get he
  obtain ⟨w, ew, rw'⟩ := r.get h2
  have hl := r.length
  have hn := line63
  have fin : EP X pins σ Q w s := ⟨z, H, I, rw', q⟩
  exact subscriptTail_builtinR (x := w) pl.typeIs slot_tuple_getitem.lookup
    (getItem_tuple (j := j) (Q := fun r s' => r = w ∧ EP X pins σ Q r s') pl (by omega) (by omega) (by rw [List.size_toArray, ← hl]; exact h1) (by simpa using ew) ⟨rfl, fin⟩) hs
theorem ix_str : IxR X rIxS := by
  intro value slice pins s σ H x y v u Q I rx ry h hs
  obtain ⟨z, i, c, rfl, rfl, hz, he, q⟩ := h
  obtain ⟨t, rfl⟩ := rx
  obtain ⟨t', rfl⟩ := ry
  obtain ⟨j, h1, h2, h3, h4, h5⟩ := atI_get he
  have hl : z.cps.toList.length = z.length := by simp [Str.length]
  rw [hl] at h1 h4 h5
  have hn := line63
  exact tail_any (typeIs_str s z t) slot_str_getitem.lookup (getItem_str (c := c) (by
    have e1 : decide (i < -(2 ^ 63 : Int)) = false := decide_eq_false (by omega)
    have e2 : decide (i ≥ 2 ^ 63) = false := decide_eq_false (by omega)
    rw [e1, e2, Bool.or_false]) (by rw [h1]; simpa using h2) ⟨.str ⟨#[c]⟩, H, I.tok _, ⟨_, rfl⟩, q⟩) hs
/-- list, tuple or str -/
def rIx (K : PySem.W.Frag) : R2 := fun x y H Q => rIxL K x y H Q ∨ rIxT K x y H Q ∨ rIxS x y H Q
theorem ix_seq : IxR X (rIx X.K) := ix_list.or (ix_tup.or ix_str)

/-! ### xs[i] = v, any sign -/
/-- the list's object behind a store -/
theorem mapSeq_set (its : List Value) (n j : Nat) (u : Value) : Obj.mapSeq (·.setIfInBounds j u) { cls := .type "list", data := .seq its.toArray n } = { cls := .type "list", data := .seq (its.set j u).toArray n } := by
  simp [Obj.mapSeq]
theorem Inv.lst {pins : List (Addr × Obj)} {σ : St} {H : Hp} {s : Shared} {p : Addr} {xs : List V} (I : Inv X pins σ H s) (h : H p = some (.lst xs)) :
    ∃ (its : List Value) (n : Nat), Vals xs its ∧ s.heap.get? p = some { cls := .type "list", data := .seq its.toArray n } ∧ xs.length ≤ sizeLine := by
  obtain ⟨z, its, n, r, e⟩ := I.hok p _ h
  exact ⟨its, n, r, e, z⟩
/-- the list at p is written by an update of its object -/
theorem Inv.lstUpd {pins : List (Addr × Obj)} {σ : St} {H : Hp} {s : Shared} {p : Addr} {xs ys : List V} {its its' : List Value} {n n' : Nat} {f : Obj → Obj} (I : Inv X pins σ H s) (h : H p = some (.lst xs))
    (ho : s.heap.get? p = some { cls := .type "list", data := .seq its.toArray n }) (hf : f { cls := .type "list", data := .seq its.toArray n } = { cls := .type "list", data := .seq its'.toArray n' }) (r : Vals ys its') (hz : ys.length ≤ sizeLine) (t : Nat) :
    Inv X pins σ (upd H p (.lst ys)) { s with heap := s.heap.update p f, toks := t } := by
  have e : (s.heap.update p f).get? p = some { cls := .type "list", data := .seq its'.toArray n' } := by
    rw [Heap.get?_update_self f ho (by rw [hf] <;> rfl), hf]
  refine I.write (x := p) (e := p) (by rw [h]; trivial) (.inl rfl) (fun b u hb q => (Heap.get?_update_other _ _ (Ne.symm hb)).trans q) ⟨_, e⟩ ?_
  exact ⟨hz, its', n', r, e⟩
def rSetL : V → V → V → Hp → (Hp → Prop) → Prop := fun o i v H Q => ∃ p xs k j, o = .ref p ∧ i = .int k ∧ H p = some (.lst xs) ∧ ixN xs.length k = some j ∧ Q (upd H p (.lst (xs.set j v)))
theorem set_list : PSet X rSetL := by
  intro pins s σ H o i v ov iv u Q I ro ri rv h
  obtain ⟨p, xs, k, j, rfl, rfl, hp, hj, q⟩ := h
  cases ro
  obtain ⟨t, rfl⟩ := ri
  obtain ⟨its, n, r, ho, hz⟩ := I.lst hp
  obtain ⟨h1, h2, h3, h4⟩ := ixN_seq hj
  have hl := r.length
  have hn := line63
  have I' : Inv X pins σ (upd H p (.lst (xs.set j v))) { s with heap := s.heap.update p (Obj.mapSeq (·.setIfInBounds j u)) } :=
    I.lstUpd hp ho (mapSeq_set its n j u) (r.set rv j) (by rw [List.length_set]; exact hz) s.toks
  by_cases h0 : 0 ≤ k
  · have hk : k.toNat = j := by
      rw [seqIndex_of h0 h4] at h1
      exact Option.some.inj h1
    exact PySem.W.ki_setAt ho h0 (by omega) (by rw [List.size_toArray, ← hl]; exact h4) (by rw [hk]; exact ⟨_, I', q⟩)
  · have hk : (k + (its.toArray.size : Int)).toNat = j := by
      rw [seqIndex_neg (by omega) h3] at h1
      rw [List.size_toArray, ← hl]
      exact Option.some.inj h1
    exact PySem.W.ki_setBack ho (by omega) (by rw [List.size_toArray, ← hl]; exact h3) (by omega) (by rw [hk]; exact ⟨_, I', q⟩)

/-! ### slices -/
theorem slice_bounds (lo hi : Option Int) (n : Nat) : (sliceBounds lo hi none n).1 = ((HT.sIx n 0 lo : Nat) : Int) ∧ (sliceBounds lo hi none n).2.1 = ((HT.sIx n n hi : Nat) : Int) ∧ (sliceBounds lo hi none n).2.2 = 1 := by
  refine ⟨?_, ?_, rfl⟩
  · cases lo with
    | none => simp [sliceBounds, HT.sIx]
    | some i =>
      simp only [sliceBounds, HT.sIx, Option.getD_none, show (1 : Int) > 0 by decide, if_true]
      by_cases h : i < 0
      · simp only [h, if_true] <;> omega
      · simp only [h, if_false] <;> omega
  · cases hi with
    | none => simp [sliceBounds, HT.sIx]
    | some i =>
      simp only [sliceBounds, HT.sIx, Option.getD_none, show (1 : Int) > 0 by decide, if_true]
      by_cases h : i < 0
      · simp only [h, if_true] <;> omega
      · simp only [h, if_false] <;> omega
theorem slicePick_cut (its : List Value) (lo hi : Option Int) : slicePick its.toArray lo hi none = ((its.drop (HT.sIx its.length 0 lo)).take (HT.sIx its.length its.length hi - HT.sIx its.length 0 lo)).toArray := by
  obtain ⟨h1, h2, h3⟩ := slice_bounds lo hi its.toArray.size
  unfold slicePick
  rw [h1, h2, h3]
  simp only [sliceRange_one, pick_run, List.size_toArray] <;> rfl
/-- xs[lo:hi] of a list: a new list -/
def rSlL (K : PySem.W.Frag) : V → Option Int → Option Int → Hp → VK → Prop := fun x lo hi H Q => ∃ a xs, x = .ref a ∧ SqL K H a xs ∧ ∀ p, H p = none → Q (.ref p) (upd H p (.lst (cutV xs lo hi)))
theorem sl_list : SlR X (rSlL X.K) := by
  intro pins s σ H x v vl vu lo hi sl Q I rx hs pl pu h
  obtain ⟨a, xs, rfl, hx, q⟩ := h
  cases rx
  obtain ⟨its, r, ht, hz⟩ := I.list hx
  have hlen := r.length
  refine ⟨"list", _, slot_list_getitem.lookup, ht.isList.typeIs, ?_⟩
  refine wpAny_getItem_list_slice ht.isList hs pl pu .none (by simp) ?_ (by rw [List.size_toArray] <;> omega)
  rw [slicePick_cut, ← hlen]
  refine ⟨.ref s.heap.objs.size, _, I.laid (t' := s.toks) (o := .lst (cutV xs lo hi)) (fun b ob q => Heap.get?_push_of_some _ q) (Nat.le_refl _) ?_, rfl, q _ (I.hok.fresh (Nat.le_refl _))⟩
  exact ⟨Nat.le_trans (cutV_length xs lo hi) hz, _, 0, (r.drop (HT.sIx xs.length 0 lo)).take (HT.sIx xs.length xs.length hi - HT.sIx xs.length 0 lo), Heap.get?_push_size _ rfl⟩

/-! ### in, not in: flat items -/
def flatV : V → Bool
  | .non => true
  | .bl _ => true
  | .int _ => true
  | .str _ => true
  | _ => false
/-- == of flat values -/
def eqV : V → V → Bool
  | .non, .non => true
  | .bl a, .bl b => a == b
  | .bl a, .int b => (if a then 1 else 0) == b
  | .int a, .bl b => a == (if b then 1 else 0)
  | .int a, .int b => a == b
  | .str a, .str b => a == b
  | _, _ => false
theorem eqAt_V {A : Around} {s : Shared} {y x : V} {u v : Value} (ry : RelV y u) (rx : RelV x v) (fy : flatV y = true) (fx : flatV x = true) : SeqAt.EqAt A s u v (eqV y x) := by
  cases y with
  | non =>
    cases ry
    cases x with
    | non => cases rx; exact SeqAt.EqAt.same _
    | bl b => cases rx; exact SeqAt.EqAt.none_bool b
    | int b => obtain ⟨t, rfl⟩ := rx; exact SeqAt.EqAt.none_int b t
    | str b => obtain ⟨t, rfl⟩ := rx; exact SeqAt.EqAt.none_str b t
    | _ => exact absurd (show false = true from fx) Bool.false_ne_true
  | bl a =>
    cases ry
    cases x with
    | non => cases rx; exact SeqAt.EqAt.bool_none a
    | bl b => cases rx; exact SeqAt.EqAt.bool_bool a b
    | int b => obtain ⟨t, rfl⟩ := rx; exact SeqAt.EqAt.bool_int a b t
    | str b => obtain ⟨t, rfl⟩ := rx; exact SeqAt.EqAt.bool_str a b t
    | _ => exact absurd (show false = true from fx) Bool.false_ne_true
  | int a =>
    obtain ⟨t', rfl⟩ := ry
    cases x with
    | non => cases rx; exact SeqAt.EqAt.int_none a t'
    | bl b => cases rx; exact SeqAt.EqAt.int_bool a t' b
    | int b => obtain ⟨t, rfl⟩ := rx; exact SeqAt.EqAt.int_int a t' b t
    | str b => obtain ⟨t, rfl⟩ := rx; exact SeqAt.EqAt.int_str a t' b t
    | _ => exact absurd (show false = true from fx) Bool.false_ne_true
  | str a =>
    obtain ⟨t', rfl⟩ := ry
    cases x with
    | non => cases rx; exact SeqAt.EqAt.str_none a t'
    | bl b => cases rx; exact SeqAt.EqAt.str_bool a t' b
    | int b => obtain ⟨t, rfl⟩ := rx; exact SeqAt.EqAt.str_int a t' b t
    | str b => obtain ⟨t, rfl⟩ := rx; exact SeqAt.EqAt.str_str a t' b t
    | _ => exact absurd (show false = true from fx) Bool.false_ne_true
  | _ => exact absurd (show false = true from fy) Bool.false_ne_true
/-- the items' answers, read off the values (a value's own answer does not lean on its token) -/
def eqU (x : V) (u : Value) : Bool := match u with
  | .none => eqV .non x
  | .bool b => eqV (.bl b) x
  | .int i _ => eqV (.int i) x
  | .str z _ => eqV (.str z) x
  | _ => false
theorem eqU_of {x y : V} {u : Value} (r : RelV y u) (f : flatV y = true) : eqU x u = eqV y x := by
  cases y with
  | non => cases r; rfl
  | bl b => cases r; rfl
  | int i => obtain ⟨t, rfl⟩ := r; rfl
  | str z => obtain ⟨t, rfl⟩ := r; rfl
  | _ => exact absurd (show false = true from f) Bool.false_ne_true
theorem any_eqU {x : V} : ∀ {xs : List V} {us : List Value}, Vals xs us → xs.all flatV = true → us.any (eqU x) = xs.any fun y => eqV y x
  | _, _, .nil, _ => rfl
  | y :: xs, u :: us, .cons r t, f => by
    rw [List.all_cons, Bool.and_eq_true] at f
    rw [List.any_cons, List.any_cons, eqU_of r f.1, any_eqU t f.2]
theorem mem_eqAt {A : Around} {s : Shared} {x : V} {v : Value} (rx : RelV x v) (fx : flatV x = true) : ∀ {xs : List V} {us : List Value}, Vals xs us → xs.all flatV = true → ∀ u ∈ us, SeqAt.EqAt A s u v (eqU x u)
  | _, _, .nil, _ => fun u hu => by cases hu
  | y :: xs, u :: us, .cons r t, f => fun u' hu => by
    rw [List.all_cons, Bool.and_eq_true] at f
    rcases List.mem_cons.mp hu with rfl | hu
    · rw [eqU_of r f.1]; exact eqAt_V r rx f.1 fx
    · exact mem_eqAt rx fx t f.2 u' hu
def inV (x : V) (xs : List V) : Bool := xs.any fun y => eqV y x
/-- x in a list or tuple of flat items -/
def rIn (K : PySem.W.Frag) (neg : Bool) : R2 := fun x y H Q => ∃ p xs, y = .ref p ∧ (SqL K H p xs ∨ SqT K H p xs) ∧ flatV x = true ∧ xs.all flatV = true ∧ Q (.bl (if neg then !inV x xs else inV x xs)) H
theorem op_in_seq : OpR X (compareOp .In) (rIn X.K false) := by
  intro pins s σ H x y v u Q I rx ry h
  obtain ⟨p, xs, rfl, hq, fx, fs, q⟩ := h
  cases ry
  rcases hq with hq | hq
  · obtain ⟨its, r, pl, hz⟩ := I.list hq
    refine SeqAt.in_listAt (eqU x) pl.isList (fun w hw => mem_eqAt rx fx r fs w (by simpa using hw)) ⟨.bl _, H, I, rfl, ?_⟩
    rw [show its.toArray.any (eqU x) = its.any (eqU x) by simp, any_eqU r fs]
    exact q
  · obtain ⟨its, r, pl, hz⟩ := I.tuple hq
    refine SeqAt.in_tupleAt (eqU x) pl (fun w hw => mem_eqAt rx fx r fs w (by simpa using hw)) ⟨.bl _, H, I, rfl, ?_⟩
    rw [show its.toArray.any (eqU x) = its.any (eqU x) by simp, any_eqU r fs]
    exact q
theorem op_notIn_seq : OpR X (compareOp .NotIn) (rIn X.K true) := by
  intro pins s σ H x y v u Q I rx ry h
  obtain ⟨p, xs, rfl, hq, fx, fs, q⟩ := h
  cases ry
  rcases hq with hq | hq
  · obtain ⟨its, r, pl, hz⟩ := I.list hq
    refine SeqAt.notIn_listAt (eqU x) pl.isList (fun w hw => mem_eqAt rx fx r fs w (by simpa using hw)) ⟨.bl _, H, I, rfl, ?_⟩
    rw [show its.toArray.any (eqU x) = its.any (eqU x) by simp, any_eqU r fs]
    exact q
  · obtain ⟨its, r, pl, hz⟩ := I.tuple hq
    refine SeqAt.notIn_tupleAt (eqU x) pl (fun w hw => mem_eqAt rx fx r fs w (by simpa using hw)) ⟨.bl _, H, I, rfl, ?_⟩
    rw [show its.toArray.any (eqU x) = its.any (eqU x) by simp, any_eqU r fs]
    exact q
theorem op_notIn_str : OpR X (compareOp .NotIn) (fun x y H Q => ∃ i j, x = .str i ∧ y = .str j ∧ Q (.bl (!(!(Builtin.Str.occurrences j i 0 j.length 1).isEmpty))) H) := by
  intro pins s σ H x y v u Q I rx ry h
  obtain ⟨i, j, rfl, rfl, q⟩ := h
  obtain ⟨t, rfl⟩ := rx
  obtain ⟨t', rfl⟩ := ry
  exact notIn_str ⟨.bl _, H, I, rfl, q⟩

/-! ### len, list(x), tuple(x) of any list or tuple that is read -/
theorem call_len_seq : CallR X (.builtin "len") (fun xs H Q => ∃ p ys, xs = [.ref p] ∧ (SqL X.K H p ys ∨ SqT X.K H p ys) ∧ Q (.int ys.length) H) := by
  intro pins s σ H xs us Q I r h
  obtain ⟨p, ys, rfl, hq, q⟩ := h
  obtain ⟨u, rfl, rx⟩ := vals1 r
  cases rx
  have hn := line63
  rcases hq with hq | hq
  · obtain ⟨its, r', pl, hz⟩ := I.list hq
    have hlen := r'.length
    exact Calls.call_len_list pl.isList (by simp only [List.size_toArray] <;> omega) ⟨.int ys.length, H, I.tok _, ⟨s.toks + 1, by rw [List.size_toArray, hlen]⟩, q⟩
  · obtain ⟨its, r', pl, hz⟩ := I.tuple hq
    have hlen := r'.length
    exact len_tuple pl (by simp only [List.size_toArray] <;> omega) ⟨.int ys.length, H, I.tok _, ⟨s.toks + 1, by rw [List.size_toArray, hlen]⟩, q⟩
theorem call_len_str : CallR X (.builtin "len") (fun xs H Q => ∃ z, xs = [.str z] ∧ z.length ≤ sizeLine ∧ Q (.int z.length) H) := by
  intro pins s σ H xs us Q I r h
  obtain ⟨z, rfl, hz, q⟩ := h
  obtain ⟨u, rfl, t, rfl⟩ := vals1 r
  have hn := line63
  exact len_str (by omega) ⟨.int z.length, H, I.tok _, ⟨_, rfl⟩, q⟩
theorem CallR.or {f : Value} {r r' : List V → Hp → VK → Prop} (h : CallR X f r) (h' : CallR X f r') : CallR X f (fun xs H Q => r xs H Q ∨ r' xs H Q) := by
  intro pins s σ H xs us Q I rs q
  rcases q with q | q
  · exact h pins s σ H xs us Q I rs q
  · exact h' pins s σ H xs us Q I rs q
theorem call_list_of : CallR X (.type "list") (fun xs H Q => ∃ p ys, xs = [.ref p] ∧ (SqL X.K H p ys ∨ SqT X.K H p ys) ∧ ∀ l, H l = none → Q (.ref l) (upd H l (.lst ys))) := by
  intro pins s σ H xs us Q I r h
  obtain ⟨p, ys, rfl, hq, q⟩ := h
  obtain ⟨u, rfl, rx⟩ := vals1 r
  cases rx
  have fin : ∀ (its : List Value), Vals ys its → ys.length ≤ sizeLine → ∀ (h' : Heap) (c' : Nat), (∀ b o', s.heap.get? b = some o' → h'.get? b = some o') →
      h'.get? s.heap.objs.size = some { cls := .type "list", dict := none, data := .seq its.toArray c', slots := #[] } → EP X pins σ Q (.ref s.heap.objs.size) { s with heap := h' } := fun its r' hz h' c' kp e =>
    ⟨.ref s.heap.objs.size, _, I.laid (t' := s.toks) kp (Nat.le_refl _) (show ObjOk X.prog X.w _ h' _ (.lst ys) from ⟨hz, its, c', r', e⟩), rfl, q _ (I.hok.fresh (Nat.le_refl _))⟩
  rcases hq with hq | hq
  · obtain ⟨its, r', pl, hz⟩ := I.list hq
    have hlen := r'.length
    obtain ⟨o, ho, hc, n, hd⟩ := pl.isList
    exact call_list_seq p (.inl rfl) ho hc hd (fun h' c' kp e => fin its r' hz h' c' kp e) (by simp only [List.size_toArray] <;> omega)
  · obtain ⟨its, r', pl, hz⟩ := I.tuple hq
    have hlen := r'.length
    obtain ⟨o, ho, hc, n, hd⟩ := pl
    exact call_list_seq p (.inr rfl) ho hc hd (fun h' c' kp e => fin its r' hz h' c' kp e) (by simp only [List.size_toArray] <;> omega)
theorem call_tuple_of : CallR X (.type "tuple") (fun xs H Q => ∃ p ys, xs = [.ref p] ∧ ((SqL X.K H p ys ∧ ∀ l, H l = none → Q (.ref l) (upd H l (.tup ys))) ∨ (SqT X.K H p ys ∧ Q (.ref p) H))) := by
  intro pins s σ H xs us Q I r h
  obtain ⟨p, ys, rfl, h⟩ := h
  obtain ⟨u, rfl, rx⟩ := vals1 r
  cases rx
  rcases h with ⟨hq, q⟩ | ⟨hq, q⟩
  · obtain ⟨its, r', pl, hz⟩ := I.list hq
    have hlen := r'.length
    refine call_tuple_list pl.isList (fun h' kp => ?_) (by simp only [List.size_toArray] <;> omega)
    have I1 : Inv X pins σ H { s with heap := h' } := I.kept (t' := s.toks) kp
    have I2 : Inv X pins σ (upd H h'.objs.size (.tup ys)) { s with heap := h'.push { cls := .type "tuple", data := .seq its.toArray } } :=
      I1.laid (t' := s.toks) (fun b o e => Heap.get?_push_of_some _ e) (Nat.le_refl _) (show ObjOk X.prog X.w _ _ _ (.tup ys) from ⟨hz, its, r', IsTup.new _ _⟩)
    exact ⟨.ref h'.objs.size, _, I2, rfl, q _ (I1.hok.fresh (Nat.le_refl _))⟩
  · obtain ⟨its, r', pl, hz⟩ := I.tuple hq
    exact call_tuple_same pl ⟨.ref p, H, I, rfl, q⟩

/-! ### the call of a builtin's method: o.m(..) -/
/-- the value is of that builtin type -/
def tyV (K : PySem.W.Frag) (T : String) (x : V) (H : Hp) : Prop := match x with
  | .str _ => T = "str"
  | .int _ => T = "int"
  | .ref p => (T = "list" ∧ ∃ xs, SqL K H p xs) ∨ (T = "tuple" ∧ ∃ o, K.lookup p = some o ∧ o.cls = .type "tuple" ∧ o.dict = none) ∨
      (T = "dict" ∧ ((∃ kvs, H p = some (.dK kvs)) ∨ ∃ kvs, H p = some (.dT kvs))) ∨ (T = "set" ∧ ∃ S n, H p = some (.set S n))
  | _ => False
theorem tyV_is {pins : List (Addr × Obj)} {σ : St} {H : Hp} {s : Shared} {T : String} {x : V} {v : Value} (I : Inv X pins σ H s) (r : RelV x v) (ty : tyV X.K T x H) :
    s.TypeIs v T ∧ ∀ a, v = .ref a → ∃ ob, s.heap.get? a = some ob ∧ ob.dict = none := by
  cases x with
  | str z =>
    obtain ⟨t, rfl⟩ := r
    cases (show T = "str" from ty)
    exact ⟨typeIs_str s z t, fun _ e => nomatch e⟩
  | int i =>
    obtain ⟨t, rfl⟩ := r
    cases (show T = "int" from ty)
    exact ⟨typeIs_int s i t, fun _ e => nomatch e⟩
  | ref p =>
    cases r
    rcases ty with ⟨rfl, xs, hq⟩ | ⟨rfl, o, hk, hc, hd⟩ | ⟨rfl, hk⟩ | ⟨rfl, S, n, hk⟩
    · obtain ⟨its, _, pl, _⟩ := I.list hq
      refine ⟨pl.isList.typeIs, fun a e => ?_⟩
      cases e
      obtain ⟨o, n, e, c, hd, _⟩ := pl
      exact ⟨o, e, hd⟩
    · refine ⟨⟨o, I.kIn p o hk, hc⟩, fun a e => ?_⟩
      cases e
      exact ⟨o, I.kIn _ o hk, hd⟩
    · have z : ∃ o, s.heap.get? p = some o ∧ o.ExactDict := by
        rcases hk with ⟨kvs, hk⟩ | ⟨kvs, hk⟩
        · obtain ⟨_, _, _, _, o, _, _, e, ex, _⟩ := I.hok p _ hk
          exact ⟨o, e, ex⟩
        · obtain ⟨_, _, _, _, o, _, _, e, ex, _⟩ := I.hok p _ hk
          exact ⟨o, e, ex⟩
      obtain ⟨o, e, ex⟩ := z
      refine ⟨⟨o, e, ex.1⟩, fun a e2 => ?_⟩
      cases e2
      exact ⟨o, e, ex.2.1⟩
    · obtain ⟨o, _, _, _, e, ex, _⟩ := I.hok p _ hk
      refine ⟨⟨o, e, ex.1⟩, fun a e2 => ?_⟩
      cases e2
      exact ⟨o, e, ex.2.1⟩
  | _ => exact False.elim ty
def tBM0 (K : PySem.W.Frag) (T : String) (r : V → List V → Hp → VK → Prop) (to : TE) : TE := fun σ H Q => to σ H fun x H1 => tyV K T x H1 ∧ r x [] H1 Q
def tBM (K : PySem.W.Frag) (T : String) (r : V → List V → Hp → VK → Prop) (to : TE) (t : TA) : TE := fun σ H Q => to σ H fun x H1 => tyV K T x H1 ∧ t σ H1 fun xs H2 => r x xs H2 Q
variable {o e : Expr} {es : List Expr} {to : TE} {t : TA} {name : Str} {apos cpos : Pos} {T id : String} {r : V → List V → Hp → VK → Prop}
theorem pe_bm0 (pa : PlainAttrs T) (slot : Slot T name id) (hty : typeOf (.builtin id) = pure (.type "method_descriptor")) (hm : MtR X id r) (ho : PE X o to)
    (hbase : attributeBase o name X.env (eval o X.env) = eval o X.env := by rfl) (hline : (apos.endLine == cpos.line) = true := by rfl) : PE X (.Call (.Attribute o name apos) [] [] cpos) (tBM0 X.K T r to) := by
  intro pins s σ H Q I h
  refine wpAny_Call_method0_late hbase hline (thn (ho pins s σ H _ I h) fun v s1 ⟨x, H1, I1, r1, ty, q1⟩ => ?_)
  obtain ⟨h1, h2⟩ := tyV_is I1 r1 ty
  exact ⟨T, id, pa, slot, hty, h1, h2, Calls.callWith_builtin rfl (PySem.evalArgs_none (hm pins s1 σ H1 x [] v [] Q I1 r1 .nil q1))⟩
theorem pe_bm (pa : PlainAttrs T) (slot : Slot T name id) (hty : typeOf (.builtin id) = pure (.type "method_descriptor")) (hm : MtR X id r) (ho : PE X o to) (ha : PA X (e :: es) t)
    (hbase : attributeBase o name X.env (eval o X.env) = eval o X.env := by rfl)
    (hfew : ((backTo cpos (starEach (e :: es) X.env)).all (fun x => !x.1) && (backToKw cpos (keywordEach [] X.env)).all (fun x => x.1.isSome)
      && decide ((e :: es).length + ([] : List Keyword).length + (if ([] : List Keyword).isEmpty then 0 else 1) < 30)) = true := by rfl)
    (hline : (apos.endLine == cpos.line) = true := by rfl) (hs : starEach (e :: es) X.env = (false, eval e X.env) :: starEach es X.env := by rfl) (hplain : (backTo cpos (starEach es X.env)).any (·.1) = false := by rfl) :
    PE X (.Call (.Attribute o name apos) (e :: es) [] cpos) (tBM X.K T r to t) := by
  intro pins s σ H Q I h
  refine wpAny_Call_method_late hbase hfew hline rfl (thn (ho pins s σ H _ I h) fun v s1 ⟨x, H1, I1, r1, ty, q1⟩ => ?_)
  obtain ⟨h1, h2⟩ := tyV_is I1 r1 ty
  refine ⟨T, id, pa, slot, hty, h1, h2, ?_⟩
  have hA := ha cpos pins s1 σ H1 _ I1 q1
  rw [hs] at hA ⊢
  refine Calls.callWith_builtin (by show (false || (backTo cpos (starEach es X.env)).any (·.1)) = false; rw [hplain] <;> rfl) (Calls.evalArgs_plain ?_)
  exact thn hA fun us s2 ⟨vs, H2, I2, r2, q2⟩ => hm pins s2 σ H2 x vs v us Q I2 r1 r2 q2
/- xs.append(e), list.index on a module's tuple .. are MtR facts of 06m -/
end
end L2

namespace L2
open PySem PySem.Spec PyProof.Rows

def MtM (X : Cx) (id : String) (r : V → List V → Hp → VK → Prop) : Prop :=
  ∀ (pins : List (Addr × Obj)) (s : Shared) (σ : St) (H : Hp) (x : V) (xs : List V) (v : Value) (us : List Value) (Q : VK), Inv X pins σ H s → RelV x v → Vals xs us → r x xs H Q →
    wpAny (model X.prog X.w) X.A (call (.builtin id) (v :: us)) (EP X pins σ Q) X.xe s

/-! ### lists of values -/
theorem Vals.one : ∀ {x : V} {us : List Value}, Vals [x] us → ∃ u, us = [u] ∧ RelV x u
  | _, _, .cons r .nil => ⟨_, rfl, r⟩
theorem Vals.two : ∀ {x y : V} {us : List Value}, Vals [x, y] us → ∃ u v, us = [u, v] ∧ RelV x u ∧ RelV y v
  | _, _, _, .cons r (.cons q .nil) => ⟨_, _, rfl, r, q⟩
theorem Vals.zero : ∀ {us : List Value}, Vals [] us → us = []
  | _, .nil => rfl
theorem Vals.dropLast {xs : List V} {us : List Value} (h : Vals xs us) : Vals xs.dropLast us.dropLast := by
  induction h with
  | nil => exact .nil
  | cons r t ih =>
    cases t with
    | nil => exact .nil
    | cons q t' => exact .cons r ih
theorem Vals.eraseIdx : ∀ {xs : List V} {us : List Value} (i : Nat), Vals xs us → Vals (xs.eraseIdx i) (us.eraseIdx i)
  | _, _, _, .nil => .nil
  | _, _, 0, .cons _ t => t
  | _, _, i + 1, .cons r t => .cons r (Vals.eraseIdx i t)
theorem Vals.reverse {xs : List V} {us : List Value} (h : Vals xs us) : Vals xs.reverse us.reverse := by
  induction h with
  | nil => exact .nil
  | cons r t ih => rw [List.reverse_cons, List.reverse_cons]; exact Vals.append ih (.cons r .nil)
theorem Vals.rep {xs : List V} {us : List Value} (h : Vals xs us) : ∀ k : Nat, Vals (List.replicate k xs).flatten (List.replicate k us).flatten
  | 0 => .nil
  | k + 1 => by
    rw [List.replicate_succ, List.replicate_succ, List.flatten_cons, List.flatten_cons]
    exact Vals.append h (Vals.rep h k)
theorem erase_last {α : Type} (l : List α) : l.eraseIdx (l.length - 1) = l.dropLast := by
  induction l with
  | nil => rfl
  | cons a r ih =>
    cases r with
    | nil => rfl
    | cons b r =>
      have e : (a :: b :: r).length - 1 = ((b :: r).length - 1) + 1 := by
        have h1 : (a :: b :: r).length = r.length + 2 := rfl
        have h2 : (b :: r).length = r.length + 1 := rfl
        omega
      rw [e, List.eraseIdx_cons_succ, ih]
      all_goals rfl
theorem len_erase {α : Type} : ∀ (l : List α) (i : Nat), (l.eraseIdx i).length ≤ l.length
  | [], _ => Nat.le_refl _
  | _ :: _, 0 => Nat.le_succ _
  | _ :: r, i + 1 => Nat.succ_le_succ (len_erase r i)
theorem foldl_rep (its : List Value) : ∀ (k : Nat) (acc : List Value),
    List.foldl (fun x1 x2 => x1 ++ x2) acc.toArray (List.replicate k its.toArray) = (acc ++ (List.replicate k its).flatten).toArray
  | 0, acc => by simp
  | k + 1, acc => by
    have e : acc.toArray ++ its.toArray = (acc ++ its).toArray := by simp
    have e2 : (acc ++ its) ++ (List.replicate k its).flatten = acc ++ (List.replicate (k + 1) its).flatten := by
      rw [List.replicate_succ, List.flatten_cons, List.append_assoc]
    rw [← e2, ← foldl_rep its k (acc ++ its), ← e, List.replicate_succ, List.foldl_cons]

section
variable {X : Cx} {pins : List (Addr × Obj)} {σ : St} {H : Hp} {s : Shared} {l b : Addr} {xs ys zs : List V}

/-! ### the two steps: a tracked list is rewritten, a new list is laid -/
theorem Inv.lset {its its' : List Value} {n : Nat} {f : Array Value → Array Value} {t' : Nat} (I : Inv X pins σ H s) (hH : H l = some (.lst xs))
    (e : s.heap.get? l = some { cls := .type "list", data := .seq its.toArray n }) (hf : f its.toArray = its'.toArray) (hv : Vals ys its') (hz : ys.length ≤ sizeLine) :
    Inv X pins σ (upd H l (.lst ys)) { s with heap := s.heap.update l (Obj.mapSeq f), toks := t' } := by
  have q := PySem.IsL.update e f
  rw [hf] at q
  refine I.write (x := l) (e := l) (by rw [hH]; exact trivial) (.inl rfl) (fun b' u hb hu => (Heap.get?_update_other s.heap (Obj.mapSeq f) (Ne.symm hb)).trans hu) ⟨_, q⟩ ?_
  exact ⟨hz, its', _, hv, q⟩
theorem Inv.lnew {its : List Value} {t' : Nat} (I : Inv X pins σ H s) (hv : Vals ys its) (hz : ys.length ≤ sizeLine) :
    Inv X pins σ (upd H s.heap.objs.size (.lst ys)) { s with heap := s.heap.push { cls := .type "list", data := .seq its.toArray }, toks := t' } :=
  I.laid (fun _ _ q => Heap.get?_push_of_some _ q) (Nat.le_refl _) ⟨hz, its, 0, hv, Heap.get?_push_size _ rfl⟩
theorem Inv.fresh (I : Inv X pins σ H s) : H s.heap.objs.size = none := I.hok.fresh (Nat.le_refl _)
theorem Inv.lstM (I : Inv X pins σ H s) (hH : H l = some (.lst xs)) : xs.length ≤ sizeLine ∧ ∃ (its : List Value) (n : Nat), Vals xs its ∧ xs.length = its.length ∧ s.heap.get? l = some { cls := .type "list", data := .seq its.toArray n } := by
  obtain ⟨z, its, n, r, e⟩ := I.hok l _ hH
  exact ⟨z, its, n, r, r.length, e⟩

theorem notLongL {n : Nat} (h : n ≤ sizeLine) : Builtin.List.listTooLong n = false := by
  unfold Builtin.List.listTooLong
  exact decide_eq_false (by omega)
end

section
variable {X : Cx}

/-! ### methods -/
def rAppend : V → List V → Hp → VK → Prop := fun x vs H Q => ∃ l xs y, x = .ref l ∧ vs = [y] ∧ H l = some (.lst xs) ∧ xs.length < sizeLine ∧ Q .non (upd H l (.lst (xs ++ [y])))
theorem mt_append : MtM X "list.append" rAppend := by
  intro pins s σ H x vs v us Q I rx rv h
  obtain ⟨l, xs, y, rfl, rfl, hH, hz, q⟩ := h
  cases rx
  obtain ⟨u, rfl, ru⟩ := rv.one
  obtain ⟨z, its, n, r, hl, e⟩ := I.lstM hH
  refine call_meets F.slot_list_append ⟨_, e, rfl⟩ F.entry_list_append (F.args_list_append_2 _ _) (PySem.list_append l its.toArray n u (by rw [List.size_toArray]; omega)) ⟨e, ?_⟩
  refine ⟨.non, _, I.lset (its' := its ++ [u]) hH e (by simp) (r.append (.cons ru .nil)) ?_, rfl, q⟩
  rw [List.length_append, List.length_singleton]
  omega

def rExtend : V → List V → Hp → VK → Prop := fun x vs H Q => ∃ l b xs zs, x = .ref l ∧ vs = [.ref b] ∧ H l = some (.lst xs) ∧ H b = some (.lst zs) ∧ xs.length + zs.length ≤ sizeLine ∧ Q .non (upd H l (.lst (xs ++ zs)))
theorem mt_extend : MtM X "list.extend" rExtend := by
  intro pins s σ H x vs v us Q I rx rv h
  obtain ⟨l, b, xs, zs, rfl, rfl, hH, hB, hz, q⟩ := h
  cases rx
  obtain ⟨u, rfl, ru⟩ := rv.one
  cases ru
  obtain ⟨z, its, n, r, hl, e⟩ := I.lstM hH
  obtain ⟨z2, its2, n2, r2, hl2, e2⟩ := I.lstM hB
  have hsz : its.toArray.size + its2.toArray.size ≤ sizeLine := by rw [List.size_toArray, List.size_toArray]; omega
  have hlong : ¬ (!its.toArray.isEmpty && Builtin.List.listTooLong (its.toArray.size + its2.toArray.size)) = true := by
    rw [notLongL hsz, Bool.and_false]
    exact Bool.false_ne_true
  refine call_meets F.slot_list_extend ⟨_, e, rfl⟩ F.entry_list_extend (F.args_list_extend_2 _ _)
    (AutoSeq1.list_extend_list_list_0 l its.toArray n b its2.toArray n2 hlong (by rw [List.size_toArray]; omega) (by omega)) ⟨e, e2, ?_⟩
  refine ⟨.non, _, I.lset (its' := its ++ its2) hH e (by simp) (r.append r2) ?_, rfl, q⟩
  rw [List.length_append]
  omega

def rPop : V → List V → Hp → VK → Prop := fun x vs H Q => ∃ l xs y, x = .ref l ∧ vs = [] ∧ H l = some (.lst xs) ∧ xs[xs.length - 1]? = some y ∧ Q y (upd H l (.lst xs.dropLast))
theorem mt_pop : MtM X "list.pop" rPop := by
  intro pins s σ H x vs v us Q I rx rv h
  obtain ⟨l, xs, y, rfl, rfl, hH, hy, q⟩ := h
  cases rx
  have hus := rv.zero
  subst hus
  obtain ⟨z, its, n, r, hl, e⟩ := I.lstM hH
  obtain ⟨u, hu, ru⟩ := r.get hy
  have hy' : its.toArray[its.toArray.size - 1]? = some u := by
    show its.toArray[its.length - 1]? = some u
    rw [← Array.getElem?_toList, ← hl]
    exact hu
  refine call_meets F.slot_list_pop ⟨_, e, rfl⟩ F.entry_list_pop (F.args_list_pop_1 _) (MeetsSeq.list_pop_last l its.toArray n u hy' (by rw [List.size_toArray]; omega)) ⟨e, ?_⟩
  refine ⟨y, _, I.lset (its' := its.dropLast) hH e ?_ r.dropLast ?_, ru, q⟩
  · show its.toArray.eraseIdxIfInBounds (its.toArray.size - 1) = its.dropLast.toArray
    rw [List.size_toArray, List.eraseIdxIfInBounds_toArray, erase_last]
  · rw [List.length_dropLast]
    omega

def rPopAt : V → List V → Hp → VK → Prop := fun x vs H Q => ∃ l xs i k y, x = .ref l ∧ vs = [.int i] ∧ H l = some (.lst xs) ∧ -(2 ^ 63) ≤ i ∧ i < 2 ^ 63 ∧ seqIndex? i xs.length = some k ∧ xs[k]? = some y ∧ Q y (upd H l (.lst (xs.eraseIdx k)))
theorem mt_popAt : MtM X "list.pop" rPopAt := by
  intro pins s σ H x vs v us Q I rx rv h
  obtain ⟨l, xs, i, k, y, rfl, rfl, hH, h1, h2, hk, hy, q⟩ := h
  cases rx
  obtain ⟨u, rfl, ru⟩ := rv.one
  obtain ⟨t, rfl⟩ := ru
  obtain ⟨z, its, n, r, hl, e⟩ := I.lstM hH
  obtain ⟨w, hw, rw'⟩ := r.get hy
  refine call_meets F.slot_list_pop ⟨_, e, rfl⟩ F.entry_list_pop (F.args_list_pop_2 _ _)
    (MeetsSeq.list_pop_at l its.toArray n i t k w (fitsIndex_both h1 h2) (by rw [List.size_toArray, ← hl]; exact hk) (by rw [← Array.getElem?_toList]; exact hw) (by rw [List.size_toArray]; omega)) ⟨e, ?_⟩
  refine ⟨y, _, I.lset (its' := its.eraseIdx k) hH e ?_ (r.eraseIdx k) ?_, rw', q⟩
  · show its.toArray.eraseIdxIfInBounds k = (its.eraseIdx k).toArray
    rw [List.eraseIdxIfInBounds_toArray]
  · have := len_erase xs k
    omega

def rReverse : V → List V → Hp → VK → Prop := fun x vs H Q => ∃ l xs, x = .ref l ∧ vs = [] ∧ H l = some (.lst xs) ∧ Q .non (upd H l (.lst xs.reverse))
theorem mt_reverse : MtM X "list.reverse" rReverse := by
  intro pins s σ H x vs v us Q I rx rv h
  obtain ⟨l, xs, rfl, rfl, hH, q⟩ := h
  cases rx
  have hus := rv.zero
  subst hus
  obtain ⟨z, its, n, r, hl, e⟩ := I.lstM hH
  refine call_meets F.slot_list_reverse ⟨_, e, rfl⟩ F.entry_list_reverse (F.args_list_reverse_1 _) (AutoSeq1.list_reverse_list_0 l its.toArray n (by rw [List.size_toArray]; omega)) ⟨e, ?_⟩
  refine ⟨.non, _, I.lset (its' := its.reverse) hH e (by simp) r.reverse ?_, rfl, q⟩
  rw [List.length_reverse]
  omega

def rClear : V → List V → Hp → VK → Prop := fun x vs H Q => ∃ l xs, x = .ref l ∧ vs = [] ∧ H l = some (.lst xs) ∧ Q .non (upd H l (.lst []))
theorem mt_clear : MtM X "list.clear" rClear := by
  intro pins s σ H x vs v us Q I rx rv h
  obtain ⟨l, xs, rfl, rfl, hH, q⟩ := h
  cases rx
  have hus := rv.zero
  subst hus
  obtain ⟨z, its, n, r, hl, e⟩ := I.lstM hH
  refine call_meets F.slot_list_clear ⟨_, e, rfl⟩ F.entry_list_clear (F.args_list_clear_1 _) (AutoSeq1.list_clear_list_0 l its.toArray n (by rw [List.size_toArray]; omega)) ⟨e, ?_⟩
  exact ⟨.non, _, I.lset (its' := []) (ys := []) hH e rfl .nil (Nat.zero_le _), rfl, q⟩

/-! ### list + list, list += list, list * int -/
def rCat : R2 := fun x y H Q => ∃ l b xs zs, x = .ref l ∧ y = .ref b ∧ H l = some (.lst xs) ∧ H b = some (.lst zs) ∧ xs.length + zs.length ≤ sizeLine ∧ ∀ p, H p = none → Q (.ref p) (upd H p (.lst (xs ++ zs)))
theorem op_cat : OpR X (binaryOp .Add) rCat := by
  intro pins s σ H x y v u Q I rx ry h
  obtain ⟨l, b, xs, zs, rfl, rfl, hH, hB, hz, q⟩ := h
  cases rx
  cases ry
  obtain ⟨z, its, n, r, hl, e⟩ := I.lstM hH
  obtain ⟨z2, its2, n2, r2, hl2, e2⟩ := I.lstM hB
  refine PySem.P.add_list e e2 ?_ (by rw [List.size_toArray, List.size_toArray]; omega)
  have ea : its.toArray ++ its2.toArray = (its ++ its2).toArray := by simp
  rw [ea]
  exact ⟨.ref _, _, I.lnew (t' := s.toks) (r.append r2) (by rw [List.length_append]; omega), rfl, q _ I.fresh⟩
/-- a list times an int (a negative one is nothing) -/
def rRep : R2 := fun x y H Q => ∃ l k xs, x = .ref l ∧ y = .int k ∧ H l = some (.lst xs) ∧ -(2 ^ 63) ≤ k ∧ k < 2 ^ 63 ∧ xs.length * k.toNat ≤ sizeLine ∧
  ∀ p, H p = none → Q (.ref p) (upd H p (.lst (List.replicate k.toNat xs).flatten))
theorem len_rep {α : Type} (xs : List α) (k : Nat) : (List.replicate k xs).flatten.length = k * xs.length := by
  induction k with
  | zero => simp
  | succ k ih => rw [List.replicate_succ, List.flatten_cons, List.length_append, ih, Nat.succ_mul, Nat.add_comm]
theorem op_rep : OpR X (binaryOp .Mult) rRep := by
  intro pins s σ H x y v u Q I rx ry h
  obtain ⟨l, k, xs, rfl, rfl, hH, h1, h2, hz, q⟩ := h
  cases rx
  obtain ⟨t, rfl⟩ := ry
  obtain ⟨z, its, n, r, hl, e⟩ := I.lstM hH
  have hlen : its.toArray.size * k.toNat ≤ sizeLine := by rw [List.size_toArray, ← hl]; exact hz
  have hcap : ¬ its.toArray.size * k.toNat > (2 ^ 63 - 1) / 8 := by
    have : (sizeLine : Nat) ≤ (2 ^ 63 - 1) / 8 := by decide
    omega
  have hfit : ¬ (!Builtin.List.listFitsIndex k) = true := by
    rw [fitsIndex_both h1 h2]
    exact Bool.false_ne_true
  have hlong : ¬ Builtin.List.listTooLong (its.toArray.size * k.toNat) = true := by
    rw [notLongL hlen]
    exact Bool.false_ne_true
  have hnew : List.foldl (fun x1 x2 => x1 ++ x2) #[] (List.replicate (if its.toArray.isEmpty = true then 0 else k.toNat) its.toArray) = (List.replicate k.toNat its).flatten.toArray := by
    have f0 : ∀ m : Nat, List.foldl (fun x1 x2 => x1 ++ x2) #[] (List.replicate m its.toArray) = (List.replicate m its).flatten.toArray := fun m => by
      have := foldl_rep its m []
      rw [List.nil_append] at this
      exact this
    rw [f0]
    cases its with
    | nil => simp
    | cons a r' => rw [if_neg (by simp)]
  refine wpAny_binaryOp_repeat_ref (T := "list") (U := "int") (by decide) ⟨_, e, rfl⟩ (fun s' => typeIs_int s' k t) noFill_list_mul F.fills_int_mul F.slot_int_rmul repeat_list F.slot_int_index.lookup
    (call_meets F.slot_int_rmul (typeIs_int s k t) F.entry_int_rmul (F.args_int_rmul_2 _ _) (int___rmul___int_list k t l its.toArray n)
      ⟨e, rfl, ⟨_, e, rfl⟩, call_meets F.slot_list_mul ⟨_, e, rfl⟩ F.entry_list_mul (F.args_list_mul_2 _ _) (AutoListH.list___mul___list_int_3 l its.toArray n k t hfit hcap hlong) ⟨e, ?_⟩⟩)
  rw [hnew]
  exact ⟨.ref _, _, I.lnew (t' := s.toks) (r.rep k.toNat) (by rw [len_rep, Nat.mul_comm]; exact hz), rfl, q _ I.fresh⟩

/-! ### del xs[i] -/
theorem del_list {pins : List (Addr × Obj)} {s : Shared} {σ : St} {H : Hp} {l : Addr} {xs : List V} {i : Int} {t : Tok} {k : Nat} {Q : Unit → Shared → Prop} (I : Inv X pins σ H s) (hH : H l = some (.lst xs))
    (h1 : -(2 ^ 63) ≤ i) (h2 : i < 2 ^ 63) (hk : seqIndex? i xs.length = some k) (h : ∀ s', Inv X pins σ (upd H l (.lst (xs.eraseIdx k))) s' → Q () s') :
    wpAny (model X.prog X.w) X.A (delItem (.ref l) (.int i t)) Q X.xe s := by
  obtain ⟨z, its, n, r, hl, e⟩ := I.lstM hH
  refine PySem.P.delItem_list (k := k) e (fitsIndex_both h1 h2) (by rw [List.size_toArray, ← hl]; exact hk) (h _ ?_) (by rw [List.size_toArray]; omega)
  refine I.lset (its' := its.eraseIdx k) (t' := s.toks) hH e ?_ (r.eraseIdx k) ?_
  · show its.toArray.eraseIdxIfInBounds k = (its.eraseIdx k).toArray
    rw [List.eraseIdxIfInBounds_toArray]
  · have := len_erase xs k
    omega
end

/-! ### xs[a:b] = ys -/
section
variable {prog : Program} {w : World} {A : Around} {E : Value → Shared → Prop} {s : Shared}
theorem splice_eq (its its2 : List Value) (a c : Nat) : its.toArray.extract 0 a ++ its2.toArray ++ its.toArray.extract c its.toArray.size = (its.take a ++ its2 ++ its.drop c).toArray := by
  apply Array.toList_inj.mp
  first
    | (simp
       exact List.take_of_length_le (by simp))
    | simp [List.take_of_length_le]
    | simp
theorem bounds_run {a c n : Nat} (hac : a ≤ c) (hc : c ≤ n) : sliceBounds (some (a : Int)) (some (c : Int)) none n = ((a : Int), (c : Int), 1) := by
  simp only [sliceBounds, Option.getD_none]
  have h1 : ¬ ((a : Int) < 0) := by omega
  have h2 : ¬ ((c : Int) < 0) := by omega
  simp only [h1, h2, if_false, show (1 : Int) > 0 by decide, if_true]
  congr 1
  · omega
  · congr 1; omega
set_option maxRecDepth 100000 in
/-- list.__setitem__ with a slice of step one and another list -/
theorem setItem_slice {l b sl : Addr} {items new : Array Value} {n n2 : Nat} {vl vu : Value} {a c : Nat} {Q : Unit → Shared → Prop}
    (e : s.heap.get? l = some { cls := .type "list", data := .seq items n }) (e2 : s.heap.get? b = some { cls := .type "list", data := .seq new n2 }) (hne : l ≠ b)
    (hs : s.heap.IsSliceOf sl vl vu .none) (pl : IsPart vl (some (a : Int))) (pu : IsPart vu (some (c : Int))) (hac : a ≤ c) (hc : c ≤ items.size)
    (hsz : items.size + new.size ≤ sizeLine) (h : Q () { s with heap := s.heap.update l (Obj.mapSeq fun xs => xs.extract 0 a ++ new ++ xs.extract c xs.size) }) :
    wpAny (model prog w) A (setItem (.ref l) (.ref sl) (.ref b)) Q E s := by
  have hl : s.heap.IsList l items := PySem.IsL.isList e
  have hb : s.heap.IsList b new := PySem.IsL.isList e2
  obtain ⟨os, hos, hcs, hds⟩ := id hs
  have hTs : s.TypeIs (.ref sl) "slice" := ⟨os, hos, hcs⟩
  have hstep : ¬ ((rawPart none == rawInt 0) = true) := Bool.false_ne_true
  have hsame : Builtin.List.listSameRef (.ref l) (.ref b) = false := by
    unfold Builtin.List.listSameRef
    exact beq_eq_false_iff_ne.mpr hne
  have hmax : (max (a : Int) (c : Int)).toNat = c := by omega
  have hz' : ((fun xs : Array Value => xs.extract 0 a ++ new ++ xs.extract c xs.size) items).size ≤ sizeLine + 1 := by
    simp only [Array.size_append, Array.size_extract]
    omega
  unfold setItem
  try with_reducible refine wpAny_holding ?_
  first | refine wpAny_bind (wpAny_pure ?_) | skip
  refine wpAny_bind (wpAny_sequenceKey hl.typeIs (by decide) ?_)
  refine wpAny_bind (wpAny_callSpecial?_slot (name := Str.ofString "__setitem__") hl.typeIs slot_list_setitem
    (wpAny_call_entry slot_list_setitem hl.typeIs entry_list_setitem ?_ (args_list_setitem _ _ _)))
  show wpAny _ _ (Builtin.List.listSubscript? (.ref sl) >>= _) _ _ s
  refine wpAny_bind ?_
  unfold Builtin.List.listSubscript?
  refine wpAny_bind (wpAny_specialOf hTs slice_no_index ?_)
  simp only [Option.isNone_none, if_true]
  refine wpAny_pure ?_
  show wpAny _ _ (typeOf (.ref sl) >>= _) _ _ s
  refine wpAny_bind (wpAny_typeOf hTs ?_)
  first
    | rw [if_neg (by decide)]
    | refine PySem.W.KFB.if_not (by decide) ?_
  rw [listSliceParts_eq]
  refine wpAny_bind (wpAny_bind (wpAny_field hos hds (x := .none) rfl (wpAny_bind (wpAny_listPart .none ?_))))
  rw [if_neg hstep]
  refine wpAny_bind (wpAny_field hos hds (x := vl) rfl (wpAny_bind (wpAny_listPart pl ?_)))
  refine wpAny_bind (wpAny_field hos hds (x := vu) rfl (wpAny_bind (wpAny_listPart pu (wpAny_pure ?_))))
  first
    | simp only [hsame, Bool.false_eq_true, if_false]
    | refine PySem.W.KFB.if_not hsame ?_
    | (dsimp only
       rw [if_neg (by rw [hsame]; exact Bool.false_ne_true)])
  refine wpAny_bind (m := Builtin.List.listAllItems (.ref b) "must assign iterable to extended slice") ?_
  unfold Builtin.List.listAllItems
  refine wpAny_bind (wpAny_typeOf hb.typeIs ?_)
  first
    | refine PySem.W.KFB.if_so (by decide) ?_
    | rw [if_pos (by decide)]
    | simp only [beq_self_eq_true, Bool.true_or, if_true]
  unfold Builtin.List.listItems
  refine wpAny_bind (wpAny_seqItems e2 rfl (wpAny_pure ?_))
  refine wpAny_bind (wpAny_bind (wpAny_seqItems e rfl (wpAny_pure ?_)))
  refine wpAny_bind (wpAny_of_eq ((sliceIndices_raw (some (a : Int)) (some (c : Int)) none items.size (by simp)).trans (congrArg (pure : Int × Int × Int → Sem (Int × Int × Int)) (bounds_run hac hc))) ?_)
  show wpAny _ _ (if ((1 : Int) == 1) = true then _ else _) _ _ s
  rw [if_pos (by decide)]
  refine wpAny_bind (wpAny_rule ?_)
  first
    | simp only [notLongL hsz, Bool.false_eq_true, if_false]
    | refine PySem.W.KFB.if_not (notLongL hsz) ?_
  first | refine wpAny_bind (wpAny_pure ?_) | skip
  show wpAny _ _ (updateSeq l (fun xs => xs.extract 0 ((a : Int)).toNat ++ new ++ xs.extract (max (a : Int) (c : Int)).toNat xs.size) >>= _) _ _ s
  rw [hmax, Int.toNat_natCast]
  refine wpAny_bind (wpAny_updateSeq (hz := Nat.le_trans (Nat.le_add_right _ _) hsz) (_hz' := hz') e rfl ?_)
  refine wpAny_bind (wpAny_letGo ?_)
  first
    | exact wpAny_bind (wpAny_pure (wpAny_pure ⟨.none, rfl, wpAny_pure h⟩))
    | exact wpAny_pure ⟨.none, rfl, wpAny_pure h⟩
end

section
variable {X : Cx}
/-- xs[a:c] = ys of another list, at the value level: sl is the slice object that was just made -/
theorem set_slice {pins : List (Addr × Obj)} {s : Shared} {σ : St} {H : Hp} {l b sl : Addr} {xs ys : List V} {a c : Int} {vl vu : Value} {Q : Unit → Shared → Prop} (I : Inv X pins σ H s)
    (hH : H l = some (.lst xs)) (hB : H b = some (.lst ys)) (hne : l ≠ b) (hs : s.heap.IsSliceOf sl vl vu .none) (ra : RelV (.int a) vl) (rc : RelV (.int c) vu) (h0 : 0 ≤ a) (hac : a ≤ c) (hc : c ≤ xs.length)
    (hz : xs.length + ys.length ≤ sizeLine) (h : ∀ s', Inv X pins σ (upd H l (.lst (xs.take a.toNat ++ ys ++ xs.drop c.toNat))) s' → Q () s') :
    wpAny (model X.prog X.w) X.A (setItem (.ref l) (.ref sl) (.ref b)) Q X.xe s := by
  obtain ⟨ta, rfl⟩ := ra
  obtain ⟨tc, rfl⟩ := rc
  obtain ⟨z, its, n, r, hl, e⟩ := I.lstM hH
  obtain ⟨z2, its2, n2, r2, hl2, e2⟩ := I.lstM hB
  obtain ⟨a', rfl⟩ := Int.eq_ofNat_of_zero_le h0
  obtain ⟨c', rfl⟩ := Int.eq_ofNat_of_zero_le (Int.le_trans h0 hac)
  simp only [Int.toNat_natCast] at h
  refine setItem_slice (a := a') (c := c') e e2 hne hs (.int _ _) (.int _ _) (by omega) (by rw [List.size_toArray]; omega) (by rw [List.size_toArray, List.size_toArray]; omega) (h _ ?_)
  refine I.lset (its' := its.take a' ++ its2 ++ its.drop c') (t' := s.toks) hH e ?_ (Vals.append (Vals.append (r.take _) r2) (r.drop _)) ?_
  · exact splice_eq its its2 a' c'
  · rw [List.length_append, List.length_append, List.length_take, List.length_drop]
    omega
end
end L2

namespace Att
open PySem PySem.W PySem.Calls PyProof.Rows

/-! ### the script -/
theorem ints_of_wellAll {P : Params} {h : Heap} : ∀ (ns : List Int) (vs : List Value), WellAll P h vs (ns.map WData.int) → IntsAre vs ns := by
  intro ns
  induction ns with
  | nil =>
    intro vs w
    rw [List.map_nil] at w
    cases w
    exact .nil
  | cons n ns ih =>
    intro vs w
    rw [List.map_cons] at w
    cases w with
    | cons a b =>
      cases a
      exact .cons _ _ (ih _ b)

theorem script_of {l : OpenLaw} {n : Nat} (hn : l.most = some n) {P : Params} {h : Heap} {args : List WData} {vals : List Value}
    (hpre : l.row.toRowW.claim.pre args = true) (hwl : WellAll P h vals args) :
    ∃ a vs ns, vals = [Value.ref a] ∧ args = [WData.list (ns.map WData.int)] ∧ h.get? a = some { cls := .type "list", data := .seq vs.toArray } ∧ IntsAre vs ns ∧ ns.length ≤ n := by
  have hsh : WShape.hasAll [] args [.list .int] = true := (pre_splitW hpre).1
  have hc : l.pre.holds [] { args := args } = true := (pre_splitW hpre).2
  obtain ⟨d, r, rfl, h1, h2⟩ := hasAllW_cons hsh
  obtain rfl := hasAllW_nil h2
  obtain ⟨xs, rfl, h3⟩ := hasW_list h1
  obtain ⟨ns, rfl⟩ := items_int h3
  have hlen : ns.length ≤ n := by
    unfold OpenLaw.pre at hc
    have h4 : (WTm.not (.lt (.lit (.int (n : Int))) (.len (.arg 0)))).holds [] { args := [.list (ns.map .int)] } = true := by
      have h4 := (holds_andW hc).1
      rw [hn] at h4
      exact h4
    have h5 := condW_of h4 (w_not (w_lt w_lit (w_len_list (w_arg rfl))))
    rw [List.length_map] at h5
    refine Nat.le_of_not_lt fun q => ?_
    have q' : (n : Int) < ((ns.length : Nat) : Int) := by omega
    first
      | (rw [decide_eq_true q'] at h5; exact absurd h5 (by decide))
      | (simp at h5; omega)
  cases hwl with
  | cons w1 w2 =>
    cases w2
    cases w1 with
    | list ho hall => exact ⟨_, _, ns, rfl, rfl, ho, ints_of_wellAll ns _ hall, hlen⟩

theorem post_true (l : OpenLaw) (args : List WData) : l.row.toRowW.claim.post args (.bool true) args = true :=
  postW_of (r := l.row.toRowW) (X := (true == true))
    (show WShape.has [] (.bool true) .bool = true by first | rfl | decide | simp [WShape.has, WShape.arms, WShape.armsAll])
    (show (WTm.eq .res (.lit (.bool true))).value [] { args := args, res := some (.bool true), after := args } = some (.bool (true == true)) from w_eq_bool (w_res rfl) w_lit) rfl

/-! ### the attachment: holds_open's last premise (the goal 'hc' behind k_head) from a wpAny of the law's body -/
theorem attach {l : OpenLaw} {n : Nat} {q : Program} {loose : List Str} {XP : (Str → Option Value) → Heap → Prop} {YP : World → Heap → Prop} {d : DefRec} {x : Str}
    (hn : l.most = some n) (hdf : d.params.defaults = [])
    (hbind : ∀ pm cd doc v : Value, bindArgs (docDef d.name d.params d.body d.scope pm cd doc) ⟨[v], []⟩ = pure [(x, v)])
    (hx : d.scope.names.lookup x = some .local ∨ d.scope.names.lookup x = some .cell)
    (hk : d.scope.kind = .function) (hco : d.scope.isCoroutine = false) (hgen : d.scope.isGenerator = false)
    (body : ∀ (w : World) (s₀ s₁ s : Shared) (mg mb : Str → Option Value) (fa : Addr) (o : Obj) (pm cd doc : Value) (a : Addr) (vs : List Value) (ns : List Int),
      Ground q loose [] XP w s₀ mg mb s₁.heap → YP w s₁.heap →
      s₁.heap.get? fa = some o → o.data = .func (docDef d.name d.params d.body d.scope pm cd doc) → s₁.heap.CodeRec cd d.name → mg d.name = some (.ref fa) →
      s₁.heap.get? a = some { cls := .type "list", data := .seq vs.toArray } → IntsAre vs ns → ns.length ≤ n →
      s.gens = #[] → s.os = s₁.os →
      Fr s₁.heap s₁.heap.objs.size s.heap (bindL (envOfC d.name d.scope s₁.heap.objs.size fa cd).kindOf [(x, .ref a)] fun _ => none) →
      Cl s₁.heap.objs.size (cellsFrom (s₁.heap.objs.size + 1) d.scope.names []) s.heap (bindC (envOfC d.name d.scope s₁.heap.objs.size fa cd).kindOf [(x, .ref a)] fun _ => none) →
      wpAny (model l.prog w) (callerA.deeper (envOfC d.name d.scope s₁.heap.objs.size fa cd)) (execs d.body (envOfC d.name d.scope s₁.heap.objs.size fa cd))
        (fun f s' => f = .ret (.bool true) ∧ OldK s₁.heap s'.heap ∧ s'.os = s₁.os ∧ AllBare s'.gens) (fun _ _ => False) s) :
    WalkO q loose XP YP l.row.toRowW d [] (fun f vs => PySem.call f vs) := by
  intro w s₀ s₁ mg mb G Y fa o pm cd doc dV kV ho hd hcd hD hmg hg args vals as hpre hlay hrd hwl hlo
  obtain rfl : dV = .none := Dflts.none hD hdf
  obtain rfl : kV = .none := Dflts.noKw hD
  obtain ⟨a, vs, ns, rfl, rfl, hobj, hints, hlen⟩ := script_of hn hpre hwl
  refine enter_call ?_
  refine call_cells_ret (o := o) (by rw [depth_caller]; decide) ho (fd_plain hd) G.T.nolimit hcd (hbind pm cd doc (.ref a)) (fun y hy => ?_) (fun h₁ tk F X => ?_) hco hgen hk
  · obtain rfl : y = (x, Value.ref a) := List.mem_singleton.mp hy
    rcases hx with e | e
    · exact .inl e
    · exact .inr ⟨e, cellsFrom_some _ _ _ (.inl e)⟩
  · refine wpAny_mono (body w s₀ s₁ { s₁ with heap := h₁, toks := tk } mg mb fa o pm cd doc a vs ns G Y ho (fd_plain hd) hcd hmg hobj hints hlen hg rfl F X) (fun f s' hq => ?_) (fun _ _ hq => hq)
    obtain ⟨rfl, h2, h3, h4⟩ := hq
    exact ⟨.inl ⟨.bool true, .bool true, [], rfl, fun _ => rfl, .bool true, post_true l _, fun _ => ⟨List.Pairwise.nil, fun _ hm => (nomatch hm)⟩⟩, h2, h3, h4⟩

/-- the same from a codeAny of the CALL (for a layer whose function contracts speak of calls) -/
theorem attach_call {l : OpenLaw} {n : Nat} {q : Program} {loose : List Str} {XP : (Str → Option Value) → Heap → Prop} {YP : World → Heap → Prop} {d : DefRec}
    (hn : l.most = some n) (hdf : d.params.defaults = [])
    (call : ∀ (w : World) (s₀ s₁ : Shared) (mg mb : Str → Option Value) (fa : Addr) (o : Obj) (pm cd doc : Value) (a : Addr) (vs : List Value) (ns : List Int),
      Ground q loose [] XP w s₀ mg mb s₁.heap → YP w s₁.heap →
      s₁.heap.get? fa = some o → o.data = .func (docDef d.name d.params d.body d.scope pm cd doc) → s₁.heap.CodeRec cd d.name → mg d.name = some (.ref fa) →
      s₁.heap.get? a = some { cls := .type "list", data := .seq vs.toArray } → IntsAre vs ns → ns.length ≤ n → s₁.gens = #[] →
      codeAny (model l.prog w) callerA (.call (.ref fa) ⟨[.ref a], []⟩) (fun r s' => r = .ok (.ret (.bool true)) ∧ OldK s₁.heap s'.heap ∧ s'.os = s₁.os ∧ AllBare s'.gens) s₁) :
    WalkO q loose XP YP l.row.toRowW d [] (fun f vs => PySem.call f vs) := by
  intro w s₀ s₁ mg mb G Y fa o pm cd doc dV kV ho hd hcd hD hmg hg args vals as hpre hlay hrd hwl hlo
  obtain rfl : dV = .none := Dflts.none hD hdf
  obtain rfl : kV = .none := Dflts.noKw hD
  obtain ⟨a, vs, ns, rfl, rfl, hobj, hints, hlen⟩ := script_of hn hpre hwl
  refine enter_call (codeAny_mono (call w s₀ s₁ mg mb fa o pm cd doc a vs ns G Y ho (fd_plain hd) hcd hmg hobj hints hlen hg) fun r s' hq => ?_)
  obtain ⟨rfl, h2, h3, h4⟩ := hq
  exact ⟨.inl ⟨.bool true, .bool true, [], rfl, fun _ => rfl, .bool true, post_true l _, fun _ => ⟨List.Pairwise.nil, fun _ hm => (nomatch hm)⟩⟩, h2, h3, h4⟩

/-- the same where the top left finished generators (o_head chose holds_openN): nothing may have changed at all and no generator may be left -/
theorem attachN {l : OpenLaw} {n : Nat} {q : Program} {loose : List Str} {XP : (Str → Option Value) → Heap → Prop} {YP : World → Heap → Prop} {d : DefRec} {x : Str}
    (hn : l.most = some n) (hdf : d.params.defaults = [])
    (hbind : ∀ pm cd doc v : Value, bindArgs (docDef d.name d.params d.body d.scope pm cd doc) ⟨[v], []⟩ = pure [(x, v)])
    (hx : d.scope.names.lookup x = some .local ∨ d.scope.names.lookup x = some .cell)
    (hk : d.scope.kind = .function) (hco : d.scope.isCoroutine = false) (hgen : d.scope.isGenerator = false)
    (body : ∀ (w : World) (s₀ s₁ s : Shared) (mg mb : Str → Option Value) (fa : Addr) (o : Obj) (pm cd doc : Value) (a : Addr) (vs : List Value) (ns : List Int),
      Ground q loose [] XP w s₀ mg mb s₁.heap → YP w s₁.heap →
      s₁.heap.get? fa = some o → o.data = .func (docDef d.name d.params d.body d.scope pm cd doc) → s₁.heap.CodeRec cd d.name → mg d.name = some (.ref fa) →
      s₁.heap.get? a = some { cls := .type "list", data := .seq vs.toArray } → IntsAre vs ns → ns.length ≤ n →
      s.gens = #[] → s.os = s₁.os →
      Fr s₁.heap s₁.heap.objs.size s.heap (bindL (envOfC d.name d.scope s₁.heap.objs.size fa cd).kindOf [(x, .ref a)] fun _ => none) →
      Cl s₁.heap.objs.size (cellsFrom (s₁.heap.objs.size + 1) d.scope.names []) s.heap (bindC (envOfC d.name d.scope s₁.heap.objs.size fa cd).kindOf [(x, .ref a)] fun _ => none) →
      wpAny (model l.prog w) (callerA.deeper (envOfC d.name d.scope s₁.heap.objs.size fa cd)) (execs d.body (envOfC d.name d.scope s₁.heap.objs.size fa cd))
        (fun f s' => f = .ret (.bool true) ∧ (∀ b o, s₁.heap.get? b = some o → s'.heap.get? b = some o) ∧ s'.os = s₁.os ∧ s'.gens = #[]) (fun _ _ => False) s) :
    WalkN q loose XP YP l.row.toRowW d [] (fun f vs => PySem.call f vs) := by
  intro w s₀ s₁ mg mb G Y fa o pm cd doc dV kV ho hd hcd hD hmg hg args vals as hpre hlay hrd hwl hlo
  obtain rfl : dV = .none := Dflts.none hD hdf
  obtain rfl : kV = .none := Dflts.noKw hD
  obtain ⟨a, vs, ns, rfl, rfl, hobj, hints, hlen⟩ := script_of hn hpre hwl
  refine enter_callW ?_
  refine call_cells_ret (o := o) (by rw [depth_caller]; decide) ho (fd_plain hd) G.T.nolimit hcd (hbind pm cd doc (.ref a)) (fun y hy => ?_) (fun h₁ tk F X => ?_) hco hgen hk
  · obtain rfl : y = (x, Value.ref a) := List.mem_singleton.mp hy
    rcases hx with e | e
    · exact .inl e
    · exact .inr ⟨e, cellsFrom_some _ _ _ (.inl e)⟩
  · refine wpAny_mono (body w s₀ s₁ { s₁ with heap := h₁, toks := tk } mg mb fa o pm cd doc a vs ns G Y ho (fd_plain hd) hcd hmg hobj hints hlen hg rfl F X) (fun f s' hq => ?_) (fun _ _ hq => hq)
    obtain ⟨rfl, h2, h3, h4⟩ := hq
    exact ⟨.inl ⟨.bool true, .bool true, [], rfl, fun _ => rfl, .bool true, post_true l _, fun _ => ⟨List.Pairwise.nil, fun _ hm => (nomatch hm)⟩⟩, h2, h3, h4⟩

/-! ### rules over ANY heap (no ledger) from facts about the written part K: the library's own take a ledger (News) for what they write -/
section
variable {prog : Program} {w : World} {A : Around} {E : Value → Shared → Prop} {s : Shared} {K : Frag}

/-- a def of the module, or a method (qual 'C.m'), entered: the frame is the next address; cells behind it -/
theorem call_fn {R : Result → Shared → Prop} {name qual : Str} {params : Arguments} {body : List Stmt} {scope : Scope} {dV kV doc pm cdv ct oc : Value} {an od : Option Addr} {osl : Array (Option Value)} {f : Addr} {args : Args} {binds : List (Str × Value)}
    (X : K.In s.heap) (hlim : s.heap.NoLimit) (ho : K.lookup f = some ⟨oc, od, .func (fnOf name qual params body scope dV kV doc pm an cdv ct), osl⟩) (hcd : codeIn K cdv qual = true) (hroom : A.depth < recursionLimit)
    (hbind : BindsTo s (fnOf name qual params body scope dV kV doc pm an cdv ct) args binds)
    (hkind : (binds.all fun y => scope.names.lookup y.1 == some .local || scope.names.lookup y.1 == some .cell) = true)
    (h : ∀ s₁, InCallC s s.heap.objs.size (bindL (envOfC qual scope s.heap.objs.size f cdv).kindOf binds fun _ => none) (cellsFrom (s.heap.objs.size + 1) scope.names [])
        (bindC (envOfC qual scope s.heap.objs.size f cdv).kindOf binds fun _ => none) s₁ →
      wpAny (model prog w) (A.deeper (envOfC qual scope s.heap.objs.size f cdv)) (execs body (envOfC qual scope s.heap.objs.size f cdv))
        (fun fl s' => R (.ok (.ret (match fl with | .ret v => v | _ => .none))) s')
        (fun e s' => wpAny (model prog w) (A.deeper (envOfC qual scope s.heap.objs.size f cdv)) (leaving (envOfC qual scope s.heap.objs.size f cdv) e) (fun _ s'' => R (.error e) s'') (fun e' s'' => R (.error e') s'') s') s₁)
    (hco : scope.isCoroutine = false) (hgen : scope.isGenerator = false) (hk : scope.kind = .function) : codeAny (model prog w) A (.call (.ref f) args) R s := by
  refine codeAny_call_function hroom (X _ _ ho) rfl hco hgen rfl (codeRec_of X hcd) (hbind _ _ _ _ ?_)
  refine wpAny_newFunctionEnv_cells hk (kindsX hkind _) fun env he s₁ x => ?_
  subst he
  exact ⟨hlim.keeps x.toInCall.keep, codeAny_func (h s₁ x)⟩

/-- C(..): dict at size, instance at size + 1, then __init__ -/
theorem make_obj {R : Result → Shared → Prop} {C fI : Addr} {rest : List Value} {kw : List (Str × Value)}
    (X : K.In s.heap) (hm : makesIn K C = true) (hi : findIn K (.ref C) "__init__" = some (some (.ref fI))) (hf : isFn K (.ref fI) = true)
    (h : codeAny (model prog w) (A.under (.builtin "type.__call__" ⟨.ref C :: rest, kw⟩)) (.call (.ref fI) ⟨.ref (s.heap.objs.size + 1) :: rest, kw⟩) (InitBack (s.heap.objs.size + 1) R)
      { s with heap := (s.heap.push emptyDict).push (instObj C s.heap.objs.size) }) : codeAny (model prog w) A (.call (.ref C) ⟨rest, kw⟩) R s := by
  obtain ⟨hh, g, d, t, os⟩ := s
  exact make_core (makes_of X hm) (looks_findIn X hi) (fun self => bind_fn X self (beq_iff_eq.mp hf)) (.inl rfl) h

/-- x.name where the instance's dict holds the name and the class does not -/
theorem get_field {x C : Addr} {ox : Obj} {es : List DictEntry} {n : Nat} {name : Str} {expr : Bool} {v : Value} {Q : Value → Shared → Prop}
    (X : K.In s.heap) (I : PySem.W.InstAt s.heap x ox C (some (dictOf es n))) (hg : plainGet K C name = true) (hh : hasDictIn K C = true) (ha : findIn K (.ref C) name = some none)
    (hl : getL name es = some (some v)) (hv : handedIn v = true) (h : Q v { s with toks := s.toks + 1 }) : wpAny (model prog w) A (getAttr (.ref x) name expr) Q E s :=
  get_value X I (plainGet_of hg).1 (findObj_own hh ha rfl hl) hv h

/-- x.m(..): the method found in the class -/
theorem get_method {x C f : Addr} {ox : Obj} {es : List DictEntry} {n : Nat} {name : Str} {pl : Sem Bool} {Q : Value × List Value → Shared → Prop}
    (X : K.In s.heap) (I : PySem.W.InstAt s.heap x ox C (some (dictOf es n))) (hg : plainGet K C name = true) (hf : findIn K (.ref C) name = some (some (.ref f))) (ht : isFn K (.ref f) = true)
    (hl : getL name es = some none) (h : Q (.ref f, [.ref x]) s) : wpAny (model prog w) A (getMethod (.ref x) name pl) Q E s :=
  method_fn X I (plainGet_of hg).1 (plainGet_of hg).2 hf (beq_iff_eq.mp ht) (by show (lookIn name (dictOf es n)).map _ = _; rw [lookIn_dict, hl]; rfl) h

/-! the whole heap as the ledger: makes every rule that writes through a ledger a rule over any heap -/
def noObjs (h : Heap) : Heap := { h with objs := #[] }
theorem noObjs_get (h : Heap) (b : Addr) : (noObjs h).get? b = none := by
  cases e : (noObjs h).get? b with
  | none => rfl
  | some o => exact absurd (Heap.lt_size e) (Nat.not_lt_zero _)
def ledger (h : Heap) (L d : Addr) : List (Addr × Obj) := (List.range h.objs.size).filterMap fun a => if a = L ∨ a = d then none else (h.get? a).map fun o => (a, o)
theorem mem_ledger {h : Heap} {L d a : Addr} {o : Obj} : (a, o) ∈ ledger h L d ↔ a ≠ L ∧ a ≠ d ∧ h.get? a = some o := by
  unfold ledger
  rw [List.mem_filterMap]
  constructor
  · rintro ⟨b, _, e⟩
    split at e
    · cases e
    · rename_i hb
      obtain ⟨o', ho, e'⟩ := Option.map_eq_some_iff.mp e
      cases e'
      exact ⟨fun q => hb (.inl q), fun q => hb (.inr q), ho⟩
  · rintro ⟨n1, n2, ho⟩
    refine ⟨a, List.mem_range.mpr (Heap.lt_size ho), ?_⟩
    rw [if_neg (show ¬ (a = L ∨ a = d) from fun q => q.elim n1 n2), ho] <;> rfl
theorem news_ledger {h : Heap} {L d : Addr} {od : Obj} (hne : d ≠ L) (ho : h.get? d = some od) : News (noObjs h) L h ([] ++ (d, od) :: ledger h L d) := by
  rintro ⟨a, o⟩ hp
  rcases List.mem_cons.mp hp with e | hp
  · cases e
    exact ⟨ho, hne, noObjs_get _ _⟩
  · obtain ⟨n1, n2, e⟩ := mem_ledger.mp hp
    exact ⟨e, n1, noObjs_get _ _⟩
theorem fr_all {h : Heap} {L : Addr} {m : Str → Option Value} (n : h.Ns L m) : Fr (noObjs h) L h m :=
  ⟨n, fun b o e => (by rw [noObjs_get] at e; cases e), Nat.zero_le _⟩
/-- Upd of the head entry (for append_K, setItem_K ..) -/
theorem upd_ledger {h : Heap} {L d : Addr} {o o' : Obj} : Upd d o o' ((d, o) :: ledger h L d) ((d, o') :: ledger h L d) :=
  .head fun ⟨_, _⟩ hp => (mem_ledger.mp hp).2.1

/-- x.name = v over any heap: L is any namespace of the heap (the frame's, say): its map stays, its object is not told; all else but the dict stays -/
theorem set_field {x C dx L : Addr} {ox : Obj} {m : Str → Option Value} {es es' : List DictEntry} {n n' : Nat} {name : Str} {v : Value} {Q : Unit → Shared → Prop}
    (X : K.In s.heap) (I : PySem.W.InstAt s.heap x ox C (some (dictOf es n))) (hd : ox.dict = some dx) (hL : s.heap.Ns L m) (hne : dx ≠ L)
    (hs : findIn K (.ref C) "__setattr__" = some (some (.builtin "object.__setattr__"))) (hp : plainOver K C = true) (ht : takerIn K C name = some none) (hh : hasDictIn K C = true) (hl : (getL name es).isSome = true)
    (e : (putL name (PyData.keyHash w.params name) (.str name (s.toks + 1)) v es, putN name es n) = (es', n')) (hz : es'.length ≤ 1000)
    (h : ∀ h' : Heap, h'.Ns L m → h'.get? dx = some (dictOf es' n') → (∀ b o, b ≠ dx → b ≠ L → s.heap.get? b = some o → h'.get? b = some o) → Q () { s with heap := h', toks := s.toks + 2 }) :
    wpAny (model prog w) A (setAttr (.ref x) name v) Q E s := by
  obtain ⟨e1, e2⟩ := Prod.mk.inj e
  have hdx : s.heap.get? dx = some (dictOf es n) := by
    have := I.dict
    rw [hd] at this
    exact this
  refine set_plain X I hs (osa_dict (s := { s with toks := s.toks + 1 }) (h₀ := noObjs s.heap) (L := L) (m := m) (od := dictOf es n) (od' := dictOf es' n') (es := es') (n := n') (pre := []) (post := ledger s.heap L dx)
    (fr_all hL) (news_ledger hne hdx) X I hd hp ht hh hl (fun _ q => nomatch q) (fun ⟨_, _⟩ q => (mem_ledger.mp q).2.1) (by rw [putName_dict, e1, e2]) rfl hz fun h' F' N' => ?_)
  exact h h' F'.ns (N'.get (List.Mem.head _)) fun b o n1 n2 ho => N'.get (List.Mem.tail _ (mem_ledger.mpr ⟨n2, n1, ho⟩))
end
end Att

namespace L2
open PySem PySem.Spec PyProof.Rows

theorem vals_ints : ∀ {vs : List Value} {ns : List Int}, IntsAre vs ns → Vals (ns.map V.int) vs
  | _, _, .nil => .nil
  | _, _, .cons n t h => .cons ⟨t, rfl⟩ (vals_ints h)

/-- nothing is tracked but the script, known to the object (or it is an object of the module) -/
def Only (H : Hp) : Prop := ∀ b, H b = none ∨ ∃ o xs, H b = some (.frz o (.lst xs))

/-- THE HEAD: the law's promise, at the heap behind the top. F, the promise of the law's def, may use that base is part of the heap (so K.In base, base.Ns mainGlobals mg stand in Mod) -/
theorem law_call {P : Program} {w : World} {K : PySem.W.Frag} {mg mb : Str → Option Value} {CX : CXT} {k : Nat} {fa a : Addr} {fd : FuncData} {x : Str} {sp : Sp} {s₁ : Shared} {vs : List Value} {ns : List Int}
    (KX : K.In s₁.heap) (hns : s₁.heap.Ns mainGlobals mg) (hb : s₁.heap.Ns builtinsNs mb) (hbb : ∀ x : Str, x ≠ "__name__" → mb x = bootBuiltins x) (hlim : s₁.heap.NoLimit) (hg : s₁.gens = #[])
    (ha : s₁.heap.get? a = some { cls := .type "list", data := .seq vs.toArray }) (hi : IntsAre vs ns) (hl : ns.length ≤ sizeLine) (hr : Room k callerA)
    (F : ∀ base : Heap, K.In base → base.Ns mainGlobals mg → FnOk P w K mg base CX k fa fd [x] sp) (hbind : ∀ (s : Shared) (u : Value), BindsTo s fd ⟨[u], []⟩ [(x, u)])
    (hsp : ∀ H : Hp, Only H → SqL K H a (ns.map V.int) → sp [.ref a] H (fun v _ => v = .bl true) fun _ _ _ => False)
    (hCX : ∀ H e s', CX [] H s₁ (fun _ _ _ => False) e s' → False) :
    codeAny (model P w) callerA (.call (.ref fa) ⟨[.ref a], []⟩) (fun r s' => r = .ok (.ret (.bool true)) ∧ OldK s₁.heap s'.heap ∧ s'.os = s₁.os ∧ AllBare s'.gens) s₁ := by
  have rv := vals_ints hi
  have lenV := hi.length
  -- from an abstract heap in which nothing but the script may be tracked
  have core : ∀ H : Hp, Only H → SqL K H a (ns.map V.int) → HOk P w H s₁.heap → (∀ b, H b ≠ none → b = a) → (H a ≠ none → K.lookup a = none) →
      codeAny (model P w) callerA (.call (.ref fa) ⟨[.ref a], []⟩) (fun r s' => r = .ok (.ret (.bool true)) ∧ OldK s₁.heap s'.heap ∧ s'.os = s₁.os ∧ AllBare s'.gens) s₁ := by
    intro H hO hS hok hA hK
    have base_of : ∀ {b : Addr} {o : Obj}, s₁.heap.get? b = some o → H b = none → (hidT s₁.heap H).get? b = some o := fun e n => hidT_get e n
    have noA : ∀ {b : Addr} {o : Obj} {es : Array DictEntry} {ep : Nat}, s₁.heap.get? b = some o → o.data = .dict es ep → H b = none := fun {b o es ep} e d => by
      cases q : H b with
      | none => rfl
      | some u =>
        have e' : b = a := hA b (by rw [q]; simp)
        subst e'
        rw [ha] at e; cases e
        have d' : Data.seq vs.toArray _ = Data.dict es ep := d
        cases d'
    have nsK : ∀ {b : Addr} {m : Str → Option Value}, s₁.heap.Ns b m → (hidT s₁.heap H).Ns b m := fun {b m} ⟨o, es, ep, e, d, r⟩ => ⟨o, es, ep, base_of e (noA e d), d, r⟩
    have hKb : K.In (hidT s₁.heap H) := fun b o e => base_of (KX b o e) (by
      cases q : H b with
      | none => rfl
      | some u =>
        have e' : b = a := hA b (by rw [q]; simp)
        subst e'
        rw [hK (by rw [q]; simp)] at e; cases e)
    have hM : Mod K mg (hidT s₁.heap H) := ⟨hKb, nsK hns, ⟨mb, nsK hb, hbb⟩, let ⟨mc, h1, h2⟩ := hlim; ⟨mc, nsK h1, h2⟩⟩
    have e0 : Env0 P w K mg (hidT s₁.heap H) callerA [] s₁ H := ⟨rfl, hM, fun b o e => of_hidT e, Nat.le_of_eq (hidT_size _ _), trivial, fun b hb => absurd (show b ∈ ([] : List Addr) from hb) (by simp), hok, .of_eq hg⟩
    refine codeAny_mono ((F _ hKb (nsK hns)).run callerA [] s₁ H ⟨[.ref a], []⟩ [.ref a] [.ref a] _ _ hr e0 (hbind s₁ (.ref a)) (.cons rfl .nil) (hsp H hO hS)) fun r s' h => ?_
    cases r with
    | error e => exact (hCX H e s' h).elim
    | ok fl =>
      cases fl with
      | next => exact False.elim h
      | brk => exact False.elim h
      | cont => exact False.elim h
      | ret u =>
        obtain ⟨v, H', os, bare, un, hok', r', q⟩ := h
        have q' : v = .bl true := q
        subst q'
        obtain rfl : u = Value.bool true := r'
        refine ⟨rfl, OldK.of_keep fun b o e => ?_, os, bare⟩
        cases q : H b with
        | none => exact un.keep b o e q (by intro z; exact absurd (show b ∈ ([] : List Addr) from z) (by simp)) (by simp)
        | some u =>
          rcases hO b with z | ⟨ob, xs, z⟩
          · rw [q] at z; cases z
          · have z2 := un.frzs b ob _ z
            obtain ⟨e1, _⟩ := hok b _ z
            obtain ⟨e2, _⟩ := hok' b _ z2
            rw [e] at e1; cases e1
            exact e2
  cases hk : K.lookup a with
  | some o =>
    -- the script is one of the module's own objects
    have e := KX a o hk
    rw [ha] at e
    cases e
    refine core (fun _ => none) (fun _ => .inl rfl) (.inr ⟨_, vs.toArray, _, hk, rfl, rfl, rfl, by rw [List.size_toArray, lenV]; exact hl, by simpa using rv⟩) (fun b u z => by have z' : (none : Option HO) = some u := z; cases z') (fun b z => absurd rfl z) fun z => absurd rfl z
  | none =>
    refine core (fun b => if b = a then some (.frz { cls := .type "list", data := .seq vs.toArray } (.lst (ns.map V.int))) else none) (fun b => ?_) (.inl (.inr ⟨{ cls := .type "list", data := .seq vs.toArray }, if_pos rfl⟩)) (fun b u z => ?_) (fun b z => ?_) fun _ => hk
    · by_cases hb : b = a
      · exact .inr ⟨_, _, if_pos hb⟩
      · exact .inl (if_neg hb)
    · by_cases hb : b = a
      · have z' := (if_pos hb).symm.trans z
        cases z'
        subst hb
        exact ⟨ha, by rw [List.length_map]; exact hl, vs, _, rv, ha⟩
      · have z' := (if_neg hb).symm.trans z
        cases z'
    · by_cases hb : b = a
      · exact hb
      · exact absurd (if_neg hb) z
end L2

namespace L2
open PySem PySem.Spec PyProof.Rows

abbrev KOf {K : PySem.W.Frag} {h : Heap} (_ : K.In h) : PySem.W.Frag := K

/-- the goal that k_head leaves (case hc), from the law's promise. F gives the function object fd (K's own) once, then the promise over every base -/
theorem walk_of {l : PySem.W.OpenLaw} {n k : Nat} {q : Program} {loose : List Str} {XP : (Str → Option Value) → Heap → Prop} {YP : World → Heap → Prop} {d : DefRec} {K : Params → PySem.W.Frag} {CX : World → CXT} {sp : World → Sp} {x : Str}
    (hn : l.most = some n) (hn2 : n ≤ sizeLine) (hdf : d.params.defaults = []) (hr : Room k callerA)
    (hY : ∀ (w : World) (h : Heap), YP w h → (K w.params).In h)
    (F : ∀ (w : World) (mg : Str → Option Value) (fa : Addr) (h : Heap), (K w.params).In h → h.Ns mainGlobals mg → mg d.name = some (.ref fa) →
      ∃ fd : FuncData, (∀ (s : Shared) (u : Value), BindsTo s fd ⟨[u], []⟩ [(x, u)]) ∧
        ∀ base : Heap, (K w.params).In base → base.Ns mainGlobals mg → FnOk l.prog w (K w.params) mg base (CX w) k fa fd [x] (sp w))
    (hsp : ∀ (w : World) (H : Hp) (a : Addr) (ns : List Int), ns.length ≤ n → Only H → SqL (K w.params) H a (ns.map V.int) → sp w [.ref a] H (fun v _ => v = .bl true) fun _ _ _ => False)
    (hCX : ∀ (w : World) (H : Hp) (s : Shared) (e : Value) (s' : Shared), CX w [] H s (fun _ _ _ => False) e s' → False) :
    PySem.W.WalkO q loose XP YP l.row.toRowW d [] (fun f vs => PySem.call f vs) := by
  refine Att.attach_call hn hdf fun w s₀ s₁ mg mb fa o pm cd doc a vs ns G Y ho hd hcd hmg hobj hints hlen hg => ?_
  have KX := hY w _ Y
  obtain ⟨fd, hb, hF⟩ := F w mg fa _ KX G.T.g hmg
  exact law_call KX G.T.g G.T.b G.T.builtins G.T.nolimit hg hobj hints (Nat.le_trans hlen hn2) hr hF hb (fun H hO hS => hsp w H a ns hlen hO hS) fun H e s' => hCX w H s₁ e s'
/-- the same where the promise hangs on the written part alone: (sp := My.sp_law), no hole under a binder -/
theorem walk_ofK {l : PySem.W.OpenLaw} {n k : Nat} {q : Program} {loose : List Str} {XP : (Str → Option Value) → Heap → Prop} {YP : World → Heap → Prop} {d : DefRec} {K : Params → PySem.W.Frag} {CX : CXT} {sp : PySem.W.Frag → Sp} {x : Str}
    (hn : l.most = some n) (hn2 : n ≤ sizeLine) (hdf : d.params.defaults = []) (hr : Room k callerA)
    (hY : ∀ (w : World) (h : Heap), YP w h → (K w.params).In h)
    (F : ∀ (w : World) (mg : Str → Option Value) (fa : Addr) (h : Heap), (K w.params).In h → h.Ns mainGlobals mg → mg d.name = some (.ref fa) →
      ∃ fd : FuncData, (∀ (s : Shared) (u : Value), BindsTo s fd ⟨[u], []⟩ [(x, u)]) ∧
        ∀ base : Heap, (K w.params).In base → base.Ns mainGlobals mg → FnOk l.prog w (K w.params) mg base CX k fa fd [x] (sp (K w.params)))
    (hsp : ∀ (K : PySem.W.Frag) (H : Hp) (a : Addr) (ns : List Int), ns.length ≤ n → Only H → SqL K H a (ns.map V.int) → sp K [.ref a] H (fun v _ => v = .bl true) fun _ _ _ => False)
    (hCX : ∀ (H : Hp) (s : Shared) (e : Value) (s' : Shared), CX [] H s (fun _ _ _ => False) e s' → False) :
    PySem.W.WalkO q loose XP YP l.row.toRowW d [] (fun f vs => PySem.call f vs) :=
  walk_of (K := K) (CX := fun _ => CX) (sp := fun w => sp (K w.params)) hn hn2 hdf hr hY F (fun w H a ns h1 h2 h3 => hsp (K w.params) H a ns h1 h2 h3) fun _ H s e s' => hCX H s e s'
end L2

/- THE LAST THEOREM (shape; LID, My.* are yours):
   My.Adr: a structure of the addresses that your layer names (classes, functions); My.Txt K t: a structure (Prop) of the equations over K;
   My.txt_mk : {K} {implicit addresses ..} (e1 : nsIn K mainGlobals "law" = some (some (.ref f))) (e2 : K.lookup f = some ⟨oc, od, .func (fnOf "law" "law" params body scope dV kV doc pm an cdv ct), sl⟩) (e3 : codeIn K cdv "law" = true) .. : ∃ t, My.Txt K t

set_option maxRecDepth 100000 in
set_option maxHeartbeats 0 in
theorem PySem.Challenge.cw_LID_holds : PySem.Challenge.rw_LID.Holds := by
  w_on; o_law; k_head; (case hw => w_witness2)
  k_fill
  refine L2.walk_of (l := PySem.Challenge.rw_LID) (n := 63) (k := 40) (x := "script") (CX := fun w => ..) (sp := fun _ => My.sp_law) rfl (by decide) rfl ⟨rfl, by decide, by decide⟩ (fun w h Y => PySem.W.kIn_of Y) ?F ?S ?C
  case F =>
    intro w mg fa h KX G hmg
    have T : ∃ t, My.Txt (L2.KOf KX) t := by
      dsimp only [L2.KOf]                          -- K must stand as «<heap const> w.params» for k_is
      refine' My.txt_mk ?e1 ?e2 ?e3 ..
      (case e1 => PySem.W.k_is)                    -- in the order: a name -> its address -> its object -> its parts
      (case e2 => PySem.W.k_is)
      ..
    obtain ⟨t, T⟩ := T
    have e0 := hmg.symm.trans (PySem.W.mg_of KX G T.law)
    cases e0                                       -- fa is the law's own address
    exact ⟨_, fun s u => .of_eq rfl, fun base kb nb => My.law_fn T kb nb⟩     -- if «.of_eq rfl» comes too early: refine' ⟨_, ?b, fun base kb nb => My.law_fn T kb nb⟩; exact fun s u => .of_eq rfl
  case S => exact fun w H a ns hl hO hS => ..
  case C => exact ..
(the tactic k_is has no namespace: write k_is) -/

/-! SHORT WORDS over the layer: a def of the text, its body, what a loop and a test want. -/
namespace L2
open PySem PySem.Spec PyProof.Rows

/-! ### the text by places -/
/-- the j-th statement of a class's body -/
def inClass (s : Stmt) (j : Nat) : Stmt := match s with
  | .ClassDef _ _ _ body _ _ _ _ _ _ _ => body.getD j (.Pass ⟨0, 0, 0, 0⟩)
  | _ => .Pass ⟨0, 0, 0, 0⟩
def defArgs (s : Stmt) : Arguments := match s with
  | .FunctionDef _ a _ _ _ _ _ _ _ _ => a
  | _ => { posonlyargs := [], args := [], vararg := none, kwonlyargs := [], kw_defaults := [], kwarg := none, defaults := [] }
def defBody (s : Stmt) : List Stmt := match s with
  | .FunctionDef _ _ b _ _ _ _ _ _ _ => b
  | _ => []
def defScope (s : Stmt) : Scope := match s with
  | .FunctionDef _ _ _ _ _ _ sc _ _ _ => sc
  | _ => { kind := .function, names := [], isGenerator := false, isCoroutine := false }

/-! ### no exception leaves a def -/
abbrev CX0 : CXT := fun _ _ _ _ _ _ => False
abbrev E0 : XK := fun _ _ _ => False
theorem pass0 {X : Cx} : Passes CX0 X E0 := fun _ _ _ _ _ _ _ h => h.elim

/-! ### a def (or method) of the text as it stands behind the top -/
structure Fun (K : PySem.W.Frag) (x qual : Str) (st : Stmt) (f : Addr) (fd : FuncData) : Prop where
  ex : ∃ (oc : Value) (od : Option Addr) (kV doc pm : Value) (an : Option Addr) (cdv ct : Value) (osl : Array (Option Value)),
    fd = PySem.W.fnOf x qual (defArgs st) (defBody st) (defScope st) .none kV doc pm an cdv ct ∧ K.lookup f = some ⟨oc, od, .func fd, osl⟩ ∧ PySem.W.codeIn K cdv qual = true
  kp : PySem.W.keepIn K (.ref f) = true
section
variable {P : Program} {w : World} {K : PySem.W.Frag} {mg : Str → Option Value} {base : Heap}
/-- THE RULE for a def: its body as a term of rules, and the reading of that term -/
theorem Fun.ok {x qual : Str} {st : Stmt} {f : Addr} {fd : FuncData} {N ps : List Str} {k : Nat} {sp : Sp} (F : Fun K x qual st f fd) (S : FnScope N ps (defScope st)) (len : ∀ vs H Q E, sp vs H Q E → vs.length = ps.length)
    (hbody : ∀ (cdv : Value) (A : Around) (outer : List Env) (s : Shared) (H : Hp) (vs : List V) (Q : VK) (E : XK), Room k (A.deeper (envOfC qual (defScope st) s.heap.objs.size f cdv)) → sp vs H Q E →
      ∃ t, PSs (cxOf CX0 P w K mg base N qual (defScope st) f cdv A outer s H E).nox (defBody st) t ∧ t { nx := fun _ H' => Q .non H', rt := Q } (start N vs) H) : FnOk P w K mg base CX0 (k + 1) f fd ps sp := by
  obtain ⟨oc, od, kV, doc, pm, an, cdv, ct, osl, rfl, lk, hcd⟩ := F.ex
  refine fn_of lk hcd S len fun A outer s H vs Q E hr hsp => ?_
  obtain ⟨t, h, q⟩ := hbody cdv A outer s H vs Q E hr hsp
  exact ⟨t, h.nox, q⟩
/-- how its arguments bind (no defaults): h is «fun _ _ _ _ _ _ us hl => match us, hl with | [_, _], _ => rfl», one _ a parameter -/
theorem Fun.binds {x qual : Str} {st : Stmt} {f : Addr} {fd : FuncData} {ps : List Str} (F : Fun K x qual st f fd)
    (h : ∀ (kV doc pm : Value) (an : Option Addr) (cdv ct : Value) (us : List Value), us.length = ps.length → bindArgs (PySem.W.fnOf x qual (defArgs st) (defBody st) (defScope st) .none kV doc pm an cdv ct) ⟨us, []⟩ = pure (ps.zip us)) : Binds K fd ps [] := by
  obtain ⟨oc, od, kV, doc, pm, an, cdv, ct, osl, rfl, lk, hcd⟩ := F.ex
  exact .all (h kV doc pm an cdv ct)
theorem fun_mk {x qual : Str} {st : Stmt} {f : Addr} {oc : Value} {od an : Option Addr} {osl : Array (Option Value)} {kV doc pm cdv ct : Value} (l : K.lookup f = some ⟨oc, od, .func (PySem.W.fnOf x qual (defArgs st) (defBody st) (defScope st) .none kV doc pm an cdv ct), osl⟩)
    (c : PySem.W.codeIn K cdv qual = true) (k : PySem.W.keepIn K (.ref f) = true) : Fun K x qual st f (PySem.W.fnOf x qual (defArgs st) (defBody st) (defScope st) .none kV doc pm an cdv ct) := ⟨⟨oc, od, kV, doc, pm, an, cdv, ct, osl, rfl, l, c⟩, k⟩
end
theorem hu_of {A : Around} {k : Nat} (hr : Room k A) : A.units + 1 < cLine := Nat.lt_of_le_of_lt (Nat.add_le_add_left (by decide : 1 ≤ 64) _) hr.units
theorem small1000 {n : Nat} (h : n ≤ 1000) : n < sizeLine := Nat.lt_of_le_of_lt h (by decide)

/-! ### expressions in short: the name that stands in the i-th slot -/
section
variable {X : Cx}
theorem pv (i : Nat) {x : Str} {pos : Pos} (hN : X.N[i]? = some x := by rfl) (hv : Vis X.env.scope x := by first | exact Or.inl rfl | exact Or.inr (Or.inl rfl) | exact Or.inr (Or.inr rfl)) (hd : (x == ("__debug__" : Str)) = false := by decide)
    (hcd : (x == ("__classdict__" : Str)) = false := by decide) : PE X (.Name x pos) (tVar i) := pe_var hN hv hd hcd
end

/-! ### tests -/
theorem iteF {A B : Prop} (h : B) : if false = true then A else B := by
  rw [if_neg Bool.false_ne_true]
  exact h
theorem iteT {A B : Prop} (h : A) : if true = true then A else B := by
  rw [if_pos rfl]
  exact h
theorem ite2 {c A B : Prop} [Decidable c] (h1 : c → A) (h2 : ¬ c → B) : if c then A else B := by
  by_cases h : c
  · rw [if_pos h]
    exact h1 h
  · rw [if_neg h]
    exact h2 h
theorem iteNS {c A B : Prop} [Decidable c] (hc : c) (h : B) : if (!decide c) = true then A else B := by
  rw [decide_eq_true hc]
  exact iteF h

/-! ### heaps -/
/-- all that was tracked is as it was -/
def Same (H H' : Hp) : Prop := ∀ b o, H b = some o → H' b = some o
theorem Same.refl (H : Hp) : Same H H := fun _ _ h => h
theorem Same.trans {H H1 H2 : Hp} (a : Same H H1) (b : Same H1 H2) : Same H H2 := fun c o h => b c o (a c o h)
theorem Same.free {H H' : Hp} (e : Same H H') {l : Addr} (h : H' l = Option.none) : H l = Option.none := by
  cases q : H l with
  | none => rfl
  | some o =>
    rw [e l o q] at h
    cases h
theorem Same.seq {K : PySem.W.Frag} {H H' : Hp} {a : Addr} {xs : List V} (e : Same H H') (h : SqL K H a xs) : SqL K H' a xs := by
  rcases h with (h | ⟨o, h⟩) | h
  · exact .inl (.inl (e _ _ h))
  · exact .inl (.inr ⟨o, e _ _ h⟩)
  · exact .inr h

end L2
end

section
set_option Elab.async false
set_option linter.all false
set_option maxRecDepth 100000
namespace L2
open PySem PySem.Spec PyProof.Rows

/-! ### a comprehension: its tests -/
def PTs (X : Cx) (ifs : List Expr) (t : TT) : Prop :=
  ∀ (pins : List (Addr × Obj)) (s : Shared) (σ : St) (H : Hp) (Q : Bool → Hp → Prop), Inv X pins σ H s → t σ H Q →
    wpAny (model X.prog X.w) X.A (forIn ifs true fun c r => if r = true then do let ok ← isTrue c X.env (eval c X.env); pure (ForInStep.yield ok) else pure (ForInStep.yield r)) (TP X pins σ Q) X.xe s
def tYes : TT := fun _ H Q => Q true H
theorem pts_nil {X : Cx} : PTs X [] tYes := fun _ _ _ H _ I h => wpAny_tests_nil ⟨H, I, h⟩
theorem pts_one {X : Cx} {c : Expr} {t : TT} (h : PT X c t) : PTs X [c] t := fun pins s σ H Q I q => wpAny_tests_one (h pins s σ H Q I q)

/-! ### its cells -/
def clo (cells : List (Str × Addr)) : List (Str × NameKind) → List (Str × Addr) → List (Str × Addr)
  | [], acc => acc
  | (n, k) :: r, acc => if k == .free then clo cells r ((n, (cells.lookup n).getD 0) :: acc) else clo cells r acc
theorem clo_eq {env : Env} {scope : Scope} (h : ∀ x ∈ scope.names, x.2 = .free → (env.cells.lookup x.1).isSome = true) : closureFor scope env = pure (clo env.cells scope.names []) := by
  unfold closureFor
  have key : ∀ (l : List (Str × NameKind)) (acc : List (Str × Addr)), (∀ x ∈ l, x.2 = .free → (env.cells.lookup x.1).isSome = true) →
      (forIn (m := Sem) l acc fun x r => match x with | (name, kind) => if (kind == NameKind.free) = true then do let __do_lift ← cellOf env name; pure (ForInStep.yield ((name, __do_lift) :: r)) else pure (ForInStep.yield r)) = pure (clo env.cells l acc) := by
    intro l
    induction l with
    | nil => intro acc _; rfl
    | cons a r ih =>
      intro acc hl
      obtain ⟨n, k⟩ := a
      rw [List.forIn_cons]
      by_cases hk : (k == NameKind.free) = true
      · have e := hl (n, k) List.mem_cons_self (by simpa using hk)
        obtain ⟨c, hc⟩ := Option.isSome_iff_exists.mp e
        have e1 : cellOf env n = pure c := by unfold cellOf; rw [show env.cells.lookup n = some c from hc]
        have e2 : clo env.cells ((n, k) :: r) acc = clo env.cells r ((n, c) :: acc) := by
          show (if (k == NameKind.free) = true then _ else _) = _
          rw [if_pos hk, show env.cells.lookup n = some c from hc]; rfl
        simp only [if_pos hk, e1, pure_bind]
        rw [ih _ fun x hx => hl x (List.mem_cons_of_mem _ hx), e2]
      · have e2 : clo env.cells ((n, k) :: r) acc = clo env.cells r acc := by
          show (if (k == NameKind.free) = true then _ else _) = _
          rw [if_neg hk]
        simp only [if_neg hk, pure_bind]
        rw [ih _ fun x hx => hl x (List.mem_cons_of_mem _ hx), e2]
  have := key scope.names [] h
  simp only [bind_pure]
  exact this
theorem clo_out {cells : List (Str × Addr)} {x : Str} : ∀ {l : List (Str × NameKind)} {acc : List (Str × Addr)} {c : Addr}, (clo cells l acc).lookup x = some c → acc.lookup x = some c ∨ ((x, NameKind.free) ∈ l ∧ (cells.lookup x).getD 0 = c)
  | [], acc, c, h => .inl h
  | (n, k) :: r, acc, c, h => by
    have e : clo cells ((n, k) :: r) acc = if (k == NameKind.free) = true then clo cells r ((n, (cells.lookup n).getD 0) :: acc) else clo cells r acc := rfl
    rw [e] at h
    by_cases hk : (k == NameKind.free) = true
    · rw [if_pos hk] at h
      have hk' : k = .free := by simpa using hk
      rcases clo_out h with h | ⟨h1, h2⟩
      · rw [List.lookup_cons] at h
        cases hx : x == n with
        | true =>
          rw [hx] at h
          have e : x = n := by simpa using hx
          subst e
          injection h with h
          exact .inr ⟨by rw [hk']; exact List.mem_cons_self, h⟩
        | false =>
          rw [hx] at h
          exact .inl h
      · exact .inr ⟨List.mem_cons_of_mem _ h1, h2⟩
    · rw [if_neg hk] at h
      rcases clo_out h with h | ⟨h1, h2⟩
      · exact .inl h
      · exact .inr ⟨List.mem_cons_of_mem _ h1, h2⟩
theorem clo_in {cells : List (Str × Addr)} {x : Str} : ∀ {l : List (Str × NameKind)} {acc : List (Str × Addr)}, ((x, NameKind.free) ∈ l ∨ acc.lookup x = some ((cells.lookup x).getD 0)) → (clo cells l acc).lookup x = some ((cells.lookup x).getD 0)
  | [], acc, h => h.elim (fun z => by simp at z) id
  | (n, k) :: r, acc, h => by
    have e : clo cells ((n, k) :: r) acc = if (k == NameKind.free) = true then clo cells r ((n, (cells.lookup n).getD 0) :: acc) else clo cells r acc := rfl
    rw [e]
    by_cases hk : (k == NameKind.free) = true
    · rw [if_pos hk]
      refine clo_in ?_
      cases hx : x == n with
      | true =>
        have e : x = n := by simpa using hx
        subst e
        exact .inr (by rw [List.lookup_cons, hx])
      | false =>
        rcases h with h | h
        · rcases List.mem_cons.mp h with e | h
          · have : x = n := by injection e
            subst this
            simp at hx
          · exact .inl h
        · exact .inr (by rw [List.lookup_cons, hx]; exact h)
    · rw [if_neg hk]
      refine clo_in ?_
      rcases h with h | h
      · rcases List.mem_cons.mp h with e | h
        · have : k = .free := by injection e with _ e; exact e.symm
          subst this
          simp at hk
        · exact .inl h
      · exact .inr h

/-! ### the block's context -/
def cxComp (X : Cx) (N : List Str) (scope : Scope) (C : Addr) (fp : List Addr) (s₀ : Shared) (H₀ : Hp) : Cx where
  prog := X.prog
  w := X.w
  K := X.K
  mg := X.mg
  base := X.base
  A := X.A
  N := N
  s₀ := s₀
  H₀ := H₀
  env := compEnvC scope (clo X.env.cells scope.names []) C X.env
  outer := X.stack
  stack := X.stack
  ex := fp
  calm := true
  fn := fun _ => false
  pn := []
  xe := fun _ _ => False

/-- what of the scopes is checked: ix tells which slot of the frame a free name is -/
structure CompScope (X : Cx) (N : List Str) (scope : Scope) (ix : List (Option Nat)) : Prop where
  kind : scope.kind = .function
  nocell : ∀ y ∈ scope.names, y.2 ≠ .cell
  names : ∀ y ∈ scope.names, y.2 = .local → scope.names.lookup y.1 = some .local
  free : ∀ y ∈ scope.names, y.2 = .free → X.env.kindOf y.1 = some .cell ∨ X.env.kindOf y.1 = some .free
  rel : ∀ y, ((relabel scope X.env).names.lookup y = some .cell ∨ (relabel scope X.env).names.lookup y = some .free) → (y, NameKind.free) ∈ scope.names
  len : ix.length = N.length
  slot : ∀ (j i : Nat) (y : Str), ix[j]? = some (some i) → N[j]? = some y → X.N[i]? = some y ∧ (y, NameKind.free) ∈ scope.names ∧ ((relabel scope X.env).names.lookup y = some .cell ∨ (relabel scope X.env).names.lookup y = some .free)
/-- the block's values at its start -/
def pickO (σ : St) : Option Nat → Option V
  | some i => (σ[i]?).getD none
  | none => none
def compSt (ix : List (Option Nat)) (σ : St) : St := ix.map (pickO σ)

theorem comp_inv {X : Cx} {N : List Str} {scope : Scope} {ix : List (Option Nat)} {fp : List Addr} {pins : List (Addr × Obj)} {σ : St} {H : Hp} {s : Shared} {h' : Heap} {tk : Nat} (S : CompScope X N scope ix) (hc : X.calm = true)
    (I : Inv X pins σ H s) (hf : ∀ b ∈ fp, FpOk X pins H b ∧ b < s.heap.objs.size) (hns : h'.Ns s.heap.objs.size fun _ => none)
    (hk : ∀ b o, s.heap.get? b = some o → h'.get? b = some o) : Inv (cxComp X N scope s.heap.objs.size fp s H) [] (compSt ix σ) H { s with heap := h', toks := tk } := by
  have lk : ∀ {y : Str} {c : Addr}, (clo X.env.cells scope.names []).lookup y = some c → X.env.cells.lookup y = some c := fun {y c} h => by
    rcases clo_out h with h | ⟨h1, h2⟩
    · simp at h
    · obtain ⟨c', hc'⟩ := I.ok.has y (S.free _ h1 rfl)
      rw [hc'] at h2 ⊢
      simpa using h2
  have lk2 : ∀ {y : Str}, (y, NameKind.free) ∈ scope.names → ∃ c, (clo X.env.cells scope.names []).lookup y = some c ∧ X.env.cells.lookup y = some c := fun {y} h => by
    obtain ⟨c', hc'⟩ := I.ok.has y (S.free _ h rfl)
    refine ⟨c', ?_, hc'⟩
    have := clo_in (cells := X.env.cells) (acc := []) (.inl h)
    rw [hc'] at this
    exact this
  refine ⟨⟨I.ok.mod, S.kind, I.ok.glob, I.ok.blt, Nat.le_refl _, fun y z c h1 h2 => I.ok.inj y z c (lk h1) (lk h2), fun y hy => ?_, fun y c h _ => (by cases h), fun _ => I.ok.hd hc, I.ok.frames, .inl rfl, fun b hb => ⟨Nat.ne_of_lt (hf b hb).2, fun y c h => (hf b hb).1.2.2.2.2.1 y c (lk h)⟩,
      I.bs, Nat.le_trans I.ok.bsz I.sz, fun b o e hb => ?_, fun b hb hb2 => ?_, I.stack, I.stkFree⟩, rfl, I.bare, Un.kept hk, ⟨_, hns, fun j y v h1 h2 h3 => ?_⟩, fun y c h => ?_, I.hok.fresh (Nat.le_refl _), fun y c h => I.freeC y c (lk h), fun p hp => absurd (show p ∈ ([] : List (Addr × Obj)) from hp) (by simp), I.hok.kept hk, ?_⟩
  · obtain ⟨c, h1, _⟩ := lk2 (S.rel y hy)
    exact ⟨c, h1⟩
  · have hx := (hf b hb).1.2.2.2.1
    rcases hx with hx | hx
    · exact I.ok.noex b o e hx
    · exact absurd (Nat.lt_of_lt_of_le (Heap.lt_size (I.ok.bs b o e).1) hx) (Nat.lt_irrefl _)
  · obtain ⟨_, f1, f2, _⟩ := (hf b hb).1
    rcases List.mem_cons.mp (I.stkSub b hb2) with z | z
    · exact f1 z
    · exact f2 z
  · have hj : ix[j]?.isSome = true := by
      have : j < N.length := (List.getElem?_eq_some_iff.mp h1).1
      rw [← S.len] at this
      simp [this]
    obtain ⟨o, ho⟩ := Option.isSome_iff_exists.mp hj
    have h2' : pickO σ o = some v := by
      have : (compSt ix σ)[j]? = some (pickO σ o) := by
        unfold compSt
        rw [List.getElem?_map, ho]
        rfl
      rw [this] at h2
      exact Option.some.inj h2
    cases o with
    | none => cases h2'
    | some i =>
      have h2'' : (σ[i]?).getD none = some v := h2'
      cases hs : σ[i]? with
      | none => rw [hs] at h2''; cases h2''
      | some z =>
        rw [hs] at h2''
        have h3' : z = some v := h2''
        subst h3'
        obtain ⟨e1, e2, e3⟩ := S.slot j i y ho h1
        obtain ⟨m, hn, hl⟩ := I.loc
        have hv : Vis X.env.scope y := by
          rcases S.free _ e2 rfl with q | q
          · exact .inr (.inl q)
          · exact .inr (.inr q)
        obtain ⟨u, r, l⟩ := hl i y v e1 hs hv
        refine ⟨u, r, ?_⟩
        rcases l with ⟨l, _⟩ | ⟨_, c, hc1, hc2⟩
        · rcases S.free _ e2 rfl with q | q
          · rw [l] at q; cases q
          · rw [l] at q; cases q
        · obtain ⟨c', h3, h4⟩ := lk2 e2
          rw [hc1] at h4
          cases h4
          refine .inr ⟨e3, c, h3, ?_⟩
          obtain ⟨oc, hoc, hd⟩ := hc2
          exact ⟨oc, hk _ _ hoc, hd⟩
  · obtain ⟨v, oc, hoc, hd⟩ := I.cell y c (lk h)
    exact ⟨v, oc, hk _ _ hoc, hd⟩
  · unfold compSt
    rw [List.length_map]
    exact S.len

/-! ### the reading -/
/-- W: turn, measure, the block's values, what is gathered, the heap -/
def CompW (J : It) (g : TG) (tc : TT) (te : TE) (p : Addr) (σc : St) (H1 : Hp) (Q : Hp → Prop) : Prop :=
  ∃ W : Nat → Nat → St → List V → Hp → Prop, (∃ m, W 0 m σc [] (upd H1 p (.lst []))) ∧ ∀ i m σ' ys H, W i m σ' ys H →
    (J.stop i H ∧ Q H) ∨ (J.go i H ∧ ∃ N : St → List V → Hp → Prop, (∀ σ2 ys' H', N σ2 ys' H' → ∃ m', m' < m ∧ W (i + 1) m' σ2 ys' H') ∧
      ∀ x H', J.yld i H x H' → g x σ' H' fun σ2 H2 => tc σ2 H2 fun b H3 => if b = true then te σ2 H3 fun y H4 => ∃ zs, H4 p = some (.lst zs) ∧ zs.length < sizeLine ∧ N σ2 (zs ++ [y]) (upd H4 p (.lst (zs ++ [y]))) else ∃ zs, N σ2 zs H3)
def tComp (ix : List (Option Nat)) (wi : TI) (g : TG) (tc : TT) (te : TE) : TE := fun σ H Q => wi σ H fun J H1 => ∀ p, H1 p = none → CompW J g tc te p (compSt ix σ) H1 fun H2 => Q (.ref p) H2

theorem compLoop_turns {prog : Program} {w : World} {A : Around} {R : Result → Shared → Prop} {s : Shared} {elt target iter : Expr} {ifs : List Expr} {scope : Scope} {pos : Pos} {it acc : Value} {env : Env} (I : Nat → Shared → Prop)
    (turn : ∀ n s, I n s → wpAny (model prog w) A (pyNext it) (fun r s₁ => match r with
      | none => R (.ok .next) s₁
      | some v => wpAny (model prog w) A (letOwnedTupleGo target it v) (fun _ s₁ => wpAny (model prog w) A (assign target env v) (fun _ s₂ =>
          wpAny (model prog w) A (forIn ifs true fun c r => if r = true then do let ok ← isTrue c env (eval c env); pure (ForInStep.yield ok) else pure (ForInStep.yield r)) (fun ok s₃ =>
            if ok = true then wpAny (model prog w) A (eval elt env) (fun x s₄ =>
              wpAny (model prog w) A (call (.builtin "list.append") [acc, x]) (fun _ s₅ => ∃ m, m < n ∧ I m s₅) (fun _ _ => False) s₄) (fun _ _ => False) s₃
            else ∃ m, m < n ∧ I m s₃) (fun _ _ => False) s₂) (fun _ _ => False) s₁) (fun _ _ => False) s₁) (fun _ _ => False) s)
    (n : Nat) (h : I n s) :
    codeAny (model prog w) A (.compLoop (.ListComp elt [⟨target, iter, ifs, 0⟩] scope pos) 0 it acc env) R s := by
  refine codeAny_loop rfl I (fun n s hI => ?_) n h
  show wpAny _ A ((compTurn (.ListComp elt [⟨target, iter, ifs, 0⟩] scope pos) 0 it acc env).onRaise (fun x => do noteFrame x env; theTreesLotGoes x)) _ _ s
  refine wpAny_noted ?_
  rw [compTurn_list]
  refine wpAny_bind (wpAny_standAt (wpAny_bind (wpAny_mono (turn n s hI) (fun r s₁ h₁ => ?_) fun _ _ h' => h'.elim)))
  cases r with
  | none => exact wpAny_pure h₁
  | some v =>
    refine wpAny_bind (wpAny_mono h₁ (fun _ s₁ h₁ => ?_) fun _ _ h' => h'.elim)
    refine wpAny_bind (wpAny_mono h₁ (fun _ s₂ h₂ => wpAny_bind (wpAny_mono h₂ (fun ok s₃ h₃ => ?_) fun _ _ h' => h'.elim)) fun _ _ h' => h'.elim)
    cases ok with
    | false => exact wpAny_pure ⟨rfl, h₃⟩
    | true =>
      exact wpAny_bind (wpAny_bind (wpAny_mono h₃ (fun x s₄ h₄ => wpAny_bind (wpAny_mono h₄ (fun _ s₅ h₅ => wpAny_pure (wpAny_pure ⟨rfl, h₅⟩)) fun _ _ h' => h'.elim)) fun _ _ h' => h'.elim))

/-- behind the block: the frame's own context again; the block's own dict stands apart -/
theorem comp_back {X : Cx} {N : List Str} {scope : Scope} {fp : List Addr} {pins : List (Addr × Obj)} {σ σ' : St} {H H' : Hp} {s s' : Shared}
    (I : Inv X pins σ H s) (hf : ∀ b ∈ fp, FpOk X pins H b) (J : Inv (cxComp X N scope s.heap.objs.size fp s H) [] σ' H' s') : Inv X pins σ H' s' := by
  refine I.call' (ch := fp) J.os J.base J.hok J.bare fun b hb => ?_
  obtain ⟨_, f1, f2, f3, f4, f5⟩ := hf b hb
  exact ⟨f3, f1, f4, f5⟩

section
variable {X : Cx} {N : List Str} {scope : Scope} {ix : List (Option Nat)} {tg iter elt : Expr} {ifs : List Expr} {pos : Pos} {wi : TI} {g : TG} {tc : TT} {te : TE}
theorem comp_block (S : CompScope X N scope ix) (hc : X.calm = true) (hg : ∀ C fp s H, PG (cxComp X N scope C fp s H) tg g) (ht : ∀ C fp s H, PTs (cxComp X N scope C fp s H) ifs tc) (he : ∀ C fp s H, PE (cxComp X N scope C fp s H) elt te)
    {pins : List (Addr × Obj)} {σ : St} {s2 : Shared} {H2 : Hp} {J : It} {it : Addr} {fp : List Addr} {tn : Nat → Heap → Prop} {Q : Addr → Hp → Prop} (I2 : Inv X pins σ H2 s2) (T : Turn X.prog X.w X.K tg J fp it tn) (st2 : tn 0 s2.heap) (f2 : ∀ b ∈ fp, FpOk X pins H2 b)
    (hW : ∀ p, H2 p = none → CompW J g tc te p (compSt ix σ) H2 (Q p)) {RR : Value → Addr → Result → Shared → Prop} {E : Value → Shared → Prop}
    (hRR : ∀ (p C : Addr) (m : Str → Option Value) (s' : Shared) (H' : Hp), Inv X pins σ H' s' → FpOk X pins H' C → s'.heap.Ns C m → Q p H' → RR (.ref p) C (.ok .next) s') :
    wpAny (model X.prog X.w) X.A (newList []) (fun acc s₃ => wpAny (model X.prog X.w) X.A (newFunctionEnv scope X.env.globals (clo X.env.cells scope.names []) [] X.env.qual none .none (some X.env)) (fun cenv s₄ =>
      codeAny (model X.prog X.w) X.A (.compStart (.ListComp elt [⟨tg, iter, ifs, 0⟩] scope pos) 0 (.ref it) acc { cenv with scope := relabel scope X.env }) (RR acc cenv.locals) s₄) E s₃) E s2 := by
  refine wpAny_newObj_type (wpAny_newFunctionEnv S.nocell (by intro y hy; simp at hy) (fun h₁ hns₁ hsb₁ => ?_) S.kind)
  have I3 := I2.lnew (ys := []) (its := []) (t' := s2.toks) .nil (Nat.zero_le _)
  have np : H2 s2.heap.objs.size = none := I2.fresh
  have lt2 : ∀ b ∈ fp, b < s2.heap.objs.size := fun b hb => by
    obtain ⟨o, e, _⟩ := T.obj 0 _ st2 b hb
    exact Heap.lt_size e
  have hk : ∀ b o, (s2.heap.push { cls := .type "list", data := .seq ([] : List Value).toArray }).get? b = some o → h₁.get? b = some o := fun b o e =>
    hsb₁.extBut b o (Nat.ne_of_lt (Heap.lt_size e)) (Heap.get?_push_of_some _ e)
  have f3 : ∀ b ∈ fp, FpOk X pins (upd H2 s2.heap.objs.size (.lst [])) b ∧ b < (s2.heap.push { cls := .type "list", data := .seq ([] : List Value).toArray }).objs.size := fun b hb => by
    refine ⟨⟨?_, (f2 b hb).2⟩, ?_⟩
    · rw [upd_ne (Nat.ne_of_lt (lt2 b hb))]; exact (f2 b hb).1
    · rw [Heap.size_push]; exact Nat.lt_succ_of_lt (lt2 b hb)
  have J0 := comp_inv (h' := h₁) (tk := s2.toks + ([] : List (Str × Value)).length) S hc I3 f3 hns₁ hk
  have st4 : tn 0 h₁ := T.keep 0 _ _ st2 fun b hb o e => hk b o (Heap.get?_push_of_some _ e)
  obtain ⟨W, ⟨m0, w0⟩, turn⟩ := hW _ np
  -- from here on the block
  generalize hX : cxComp X N scope (s2.heap.push { cls := .type "list", data := .seq ([] : List Value).toArray }).objs.size fp { s2 with heap := s2.heap.push { cls := .type "list", data := .seq ([] : List Value).toArray }, toks := s2.toks } (upd H2 s2.heap.objs.size (.lst [])) = Xc at J0
  have eA : Xc.A = X.A := by rw [← hX]; rfl
  have eP : Xc.prog = X.prog := by rw [← hX]; rfl
  have ew : Xc.w = X.w := by rw [← hX]; rfl
  have eK : Xc.K = X.K := by rw [← hX]; rfl
  have ex : Xc.xe = fun _ _ => False := by rw [← hX]; rfl
  have eE : Xc.env = compEnvC scope (clo X.env.cells scope.names []) (s2.heap.push { cls := .type "list", data := .seq ([] : List Value).toArray }).objs.size X.env := by rw [← hX]; rfl
  have eF : Xc.ex = fp := by rw [← hX]; rfl
  have eC : Xc.calm = true := by rw [← hX]; rfl
  have pn0 : Xc.pn = [] := by rw [← hX]; rfl
  have hg' : PG Xc tg g := by rw [← hX]; exact hg _ _ _ _
  have ht' : PTs Xc ifs tc := by rw [← hX]; exact ht _ _ _ _
  have he' : PE Xc elt te := by rw [← hX]; exact he _ _ _ _
  have stat : ∀ {H' : Hp}, (∀ b ∈ fp, H' b = none) → ∀ b ∈ fp, FpOk Xc [] H' b := fun {H'} hn b hb => by
    have hb' : b ∈ Xc.ex := by rw [eF]; exact hb
    obtain ⟨q1, q2⟩ := J0.ok.exf b hb'
    exact ⟨hn b hb, q1, J0.ok.exfs b hb', .inl hb', q2, fun p hp => absurd (show p ∈ ([] : List (Addr × Obj)) from by rw [pn0] at hp; exact hp) (by simp)⟩
  have fin : ∀ {σ' : St} {H' : Hp} {s' : Shared}, Inv Xc [] σ' H' s' → Q s2.heap.objs.size H' → RR (.ref s2.heap.objs.size) (s2.heap.push { cls := .type "list", data := .seq ([] : List Value).toArray }).objs.size (.ok .next) s' := fun {σ' H' s'} J q => by
    obtain ⟨m, hn, _⟩ := J.loc
    have hfr : H' Xc.env.locals = none := J.free
    rw [eE] at hn hfr
    subst hX
    exact hRR _ _ m s' H' (comp_back I3 (fun b hb => (f3 b hb).1) J) (I3.fpOk (Nat.le_refl _) hfr) hn q
  have loop : ∀ s₄ : Shared, s₄ = { s2 with heap := h₁, toks := s2.toks + ([] : List (Str × Value)).length } → codeAny (model X.prog X.w) X.A (.compLoop (.ListComp elt [⟨tg, iter, ifs, 0⟩] scope pos) 0 (.ref it) (.ref s2.heap.objs.size) Xc.env)
      (RR (.ref s2.heap.objs.size) (s2.heap.push { cls := .type "list", data := .seq ([] : List Value).toArray }).objs.size) s₄ := by
    rintro s₄ rfl
    rw [← eA, ← eP, ← ew]
    refine compLoop_turns (fun n s' => ∃ i σ' ys H', Inv Xc [] σ' H' s' ∧ tn i s'.heap ∧ (∀ b ∈ fp, H' b = none) ∧ W i n σ' ys H') ?_ m0 ⟨0, _, [], _, J0, st4, fun b hb => (f3 b hb).1.1, w0⟩
    rintro n s3 ⟨i, σ3, ys, H3, I3', st3, fr3, w3⟩
    rcases turn i n σ3 ys H3 w3 with ⟨stop, qn⟩ | ⟨go, Nx, hN, step⟩
    · have z := T.done Xc eP ew eK eC i [] s3 σ3 H3 (fun _ _ => False) I3' (stat fr3) st3 stop
      rw [← eP, ← ew] at z
      refine thn z fun r s4 ⟨hr, I4⟩ => ?_
      subst hr
      exact fin I4 qn
    · have z := T.item Xc eP ew eK eC i [] s3 σ3 H3 (fun _ _ => False) I3' (stat fr3) st3 go
      rw [← eP, ← ew] at z
      refine thn z fun r s4 ⟨u, hr, h4⟩ => ?_
      subst hr
      refine thn h4 fun _ s5 ⟨x, H5, I5, r5, y5, st5, fr5⟩ => ?_
      have I5' := I5.pinned (stat fr5) (T.obj _ _ st5)
      have step5 := step x H5 y5
      have a1 := hg' _ s5 σ3 H5 x u _ I5' r5 step5
      rw [ex] at a1
      refine thn a1 fun _ s6 ⟨σ6, H6, I6, q6⟩ => ?_
      have a2 := ht' _ s6 σ6 H6 _ I6 q6
      rw [ex] at a2
      refine thn a2 fun b s7 ⟨H7, I7, q7⟩ => ?_
      have again : ∀ {zs : List V} {H8 : Hp} {s8 : Shared}, Inv Xc ([] ++ pinsAt fp s5.heap) σ6 H8 s8 → Nx σ6 zs H8 → ∃ m, m < n ∧ ∃ i σ' ys H', Inv Xc [] σ' H' s8 ∧ tn i s8.heap ∧ (∀ b ∈ fp, H' b = none) ∧ W i m σ' ys H' := fun {zs H8 s8} I8 n8 => by
        obtain ⟨m', hm, w8⟩ := hN σ6 zs H8 n8
        refine ⟨m', hm, i + 1, σ6, zs, H8, I8.unpinned, T.keep _ _ _ st5 fun b hb o e => (I8.pin (b, o) (List.mem_append_right _ (List.mem_append_right _ (mem_pinsAt hb e)))).1, fun b hb => ?_, w8⟩
        obtain ⟨o, e, d⟩ := T.obj _ _ st5 b hb
        exact (I8.pin (b, o) (List.mem_append_right _ (List.mem_append_right _ (mem_pinsAt hb e)))).2.1
      cases b with
      | false =>
        rw [if_neg Bool.false_ne_true]
        rw [if_neg Bool.false_ne_true] at q7
        obtain ⟨zs, n7⟩ := q7
        exact again I7 n7
      | true =>
        rw [if_pos rfl]
        rw [if_pos rfl] at q7
        have a3 := he' _ s7 σ6 H7 _ I7 q7
        rw [ex] at a3
        refine thn a3 fun y s8 ⟨v, H8, I8, r8, zs, hz, hl, n8⟩ => ?_
        have a4 := mt_append (X := Xc) _ s8 σ6 H8 (.ref s2.heap.objs.size) [v] (.ref s2.heap.objs.size) [y] (fun _ H9 => Nx σ6 (zs ++ [v]) H9) I8 rfl (.cons r8 .nil) ⟨_, zs, v, rfl, rfl, hz, hl, n8⟩
        rw [ex] at a4
        refine thn a4 fun _ s9 ⟨_, H9, I9, _, n9⟩ => ?_
        exact again I9 n9
  have l1 := loop _ rfl
  rw [eE] at l1
  exact codeAny_compStart_list l1 (T.self X.A 0 _ _ _ st4 l1)

/-- [elt for tg in iter if ..] -/
theorem pe_comp (S : CompScope X N scope ix) (hc : X.calm = true) (hi : PI X tg iter wi) (hg : ∀ C fp s H, PG (cxComp X N scope C fp s H) tg g) (ht : ∀ C fp s H, PTs (cxComp X N scope C fp s H) ifs tc) (he : ∀ C fp s H, PE (cxComp X N scope C fp s H) elt te)
    (hs : ∀ x, foldedSetIterable iter X.env x = pure x := by intro _; rfl) : PE X (.ListComp elt [⟨tg, iter, ifs, 0⟩] scope pos) (tComp ix wi g tc te) := by
  intro pins s σ H Q I h
  rw [eval_ListComp]
  have hcl : closureFor scope X.env = pure (clo X.env.cells scope.names []) := clo_eq fun y hy hf => by
    obtain ⟨c, e⟩ := I.ok.has y.1 (S.free y hy hf)
    rw [e]; rfl
  refine wpAny_comprehension_free (use := none) rfl hs hcl S.kind S.names (thn (hi pins s σ H _ I h) fun v s1 h1 => thn h1 fun itv s2 h2 => ?_)
  obtain ⟨it, fp, tn, J, H2, e, I2, T, st2, f2, hW⟩ := h2
  subst e
  refine comp_block S hc hg ht he I2 T st2 f2 hW fun p C m s' H' I' f' hn q => ?_
  refine ⟨m, hn, fun h' hs' => ?_⟩
  obtain ⟨f0, f1, _, f3, f4, f5⟩ := f'
  exact ⟨.ref p, H', I'.turned (t' := s'.toks) (fun b o hb e => (hs'.2 b hb).trans e) f0 f1 f3 f4 f5, rfl, q⟩

/-- name = [elt for tg in iter if ..]: the name is stored ahead of the block's end -/
theorem ps_setComp {i : Nat} {x : Str} {pos' pos2 : Pos} (S : CompScope X N scope ix) (hc : X.calm = true) (hN : X.N.Nodup) (hix : X.N[i]? = some x) (hx : X.env.scope.names.lookup x = some .local) (hi : PI X tg iter wi) (hg : ∀ C fp s H, PG (cxComp X N scope C fp s H) tg g) (ht : ∀ C fp s H, PTs (cxComp X N scope C fp s H) ifs tc)
    (he : ∀ C fp s H, PE (cxComp X N scope C fp s H) elt te)
    (hsw : swapsWith (.ListComp elt [⟨tg, iter, ifs, 0⟩] scope pos) (some (.Name x pos')) pos2.line X.env = pure true)
    (hs : ∀ x, foldedSetIterable iter X.env x = pure x := by intro _; rfl) : PS X (.Assign [.Name x pos'] (.ListComp elt [⟨tg, iter, ifs, 0⟩] scope pos) pos2) (tAsg (tComp ix wi g tc te) (gName i)) := by
  intro pins s σ H D I h
  rw [exec_Assign_Name_used _ _ _ _ hsw]
  have hcl : closureFor scope X.env = pure (clo X.env.cells scope.names []) := clo_eq fun y hy hf => by
    obtain ⟨c, e⟩ := I.ok.has y.1 (S.free y hy hf)
    rw [e]; rfl
  refine wpAny_bind (wpAny_standAt (wpAny_bind ?_))
  show wpAny _ X.A (do let _ ← comprehension (.ListComp elt [⟨tg, iter, ifs, 0⟩] scope pos) scope X.env _ (newList []) false (eval iter X.env) (some (assign (.Name x pos') X.env))) _ _ s
  refine wpAny_bind (wpAny_mono (wpAny_comprehension_free (use := some (assign (.Name x pos') X.env)) (Q := fun _ s' => SP X pins D .next s') rfl hs hcl S.kind S.names
    (thn (hi pins s σ H _ I h) fun v s1 h1 => thn h1 fun itv s2 h2 => ?_)) (fun _ s' hq => wpAny_pure (wpAny_pure hq)) fun _ _ e => e)
  obtain ⟨it, fp, tn, J, H2, e, I2, T, st2, f2, hW⟩ := h2
  subst e
  refine comp_block S hc hg ht he I2 T st2 f2 hW fun p C m s' H' I' f' hn q => ?_
  show wpAny _ X.A (assign (.Name x pos') X.env (.ref p)) _ _ _
  obtain ⟨f0, f1, _, f3, f4, f5⟩ := f'
  refine wpAny_assign_Name (store_ok2 (v := .ref p) I' hN hix (.inl hx) rfl (fun s'' I'' ⟨a, sb, ha⟩ => ?_) (.inr hx))
  have hCa : C ≠ a := by
    rcases ha with ha | ha
    · rw [ha]; exact f1
    · exact (f4 x a ha).symm
  refine ⟨m, hn.sameBut sb hCa, fun h' hs' => ?_⟩
  exact ⟨_, H', I''.turned (t' := s''.toks) (fun b o hb e => (hs'.2 b hb).trans e) f0 f1 f3 f4 f5, q⟩
end
end L2
end

section
namespace PySem
namespace SI
/-- strictly rising -/
def Rise (xs : Array Nat) : Prop := xs.toList.Pairwise (· < ·)

theorem below_go (xs : Array Nat) (j : Nat) (hr : Rise xs) : ∀ (fuel lo hi : Nat), lo ≤ hi → hi ≤ xs.size → hi - lo ≤ fuel →
    (∀ i x, i < lo → xs[i]? = some x → x < j) → (∀ i x, hi ≤ i → xs[i]? = some x → j ≤ x) →
    (∀ i x, i < SetTable.below.go xs j fuel lo hi → xs[i]? = some x → x < j) ∧ (∀ i x, SetTable.below.go xs j fuel lo hi ≤ i → xs[i]? = some x → j ≤ x) ∧ SetTable.below.go xs j fuel lo hi ≤ xs.size := by
  have mono : ∀ (i k x y : Nat), i < k → xs[i]? = some x → xs[k]? = some y → x < y := by
    intro i k x y hik hx hy
    have hk : k < xs.size := (Array.getElem?_eq_some_iff.mp hy).1
    have hi : i < xs.size := (Array.getElem?_eq_some_iff.mp hx).1
    have := List.pairwise_iff_getElem.mp hr i k (by simpa using hi) (by simpa using hk) hik
    have e1 : xs[i] = x := (Array.getElem?_eq_some_iff.mp hx).2
    have e2 : xs[k] = y := (Array.getElem?_eq_some_iff.mp hy).2
    simp only [Array.getElem_toList] at this
    omega
  intro fuel
  induction fuel with
  | zero =>
    intro lo hi h1 h2 h3 ha hb
    have e : lo = hi := by omega
    subst e
    exact ⟨fun i x hi hx => ha i x hi hx, fun i x hi hx => hb i x hi hx, h2⟩
  | succ fuel ih =>
    intro lo hi h1 h2 h3 ha hb
    unfold SetTable.below.go
    by_cases hlt : lo < hi
    · rw [if_pos hlt]
      have hm : (lo + hi) / 2 < xs.size := by omega
      have em : xs[(lo + hi) / 2]? = some xs[(lo + hi) / 2] := by simp [hm]
      have eg : xs.getD ((lo + hi) / 2) j = xs[(lo + hi) / 2] := by simp [Array.getD, hm]
      dsimp only
      rw [eg]
      by_cases hc : xs[(lo + hi) / 2] < j
      · rw [if_pos hc]
        refine ih _ _ (by omega) h2 (by omega) (fun i x hi' hx => ?_) hb
        by_cases hi2 : i = (lo + hi) / 2
        · subst hi2; rw [em] at hx; cases hx; exact hc
        · have := mono i ((lo + hi) / 2) x _ (by omega) hx em
          omega
      · rw [if_neg hc]
        refine ih _ _ (by omega) (by omega) (by omega) ha (fun i x hi' hx => ?_)
        by_cases hi2 : i = (lo + hi) / 2
        · subst hi2; rw [em] at hx; cases hx; omega
        · have := mono ((lo + hi) / 2) i _ x (by omega) em hx
          omega
    · rw [if_neg hlt]
      have e : lo = hi := by omega
      subst e
      exact ⟨fun i x hi hx => ha i x hi hx, fun i x hi hx => hb i x hi hx, h2⟩

theorem below_spec (xs : Array Nat) (j : Nat) (hr : Rise xs) :
    (∀ i x, i < SetTable.below xs j → xs[i]? = some x → x < j) ∧ (∀ i x, SetTable.below xs j ≤ i → xs[i]? = some x → j ≤ x) ∧ SetTable.below xs j ≤ xs.size := by
  unfold SetTable.below
  exact below_go xs j hr xs.size 0 xs.size (Nat.zero_le _) (Nat.le_refl _) (by omega) (fun i x h => absurd h (Nat.not_lt_zero _)) (fun i x h hx => by
    have := (Array.getElem?_eq_some_iff.mp hx).1
    omega)

/-- the place of the next element, behind the k-th -/
theorem below_next (xs : Array Nat) (hr : Rise xs) (k y : Nat) (hy : xs[k]? = some y) : SetTable.below xs (y + 1) = k + 1 := by
  obtain ⟨h1, h2, h3⟩ := below_spec xs (y + 1) hr
  have hk : k < xs.size := (Array.getElem?_eq_some_iff.mp hy).1
  have mono : ∀ (i k x y : Nat), i < k → xs[i]? = some x → xs[k]? = some y → x < y := by
    intro i k x y hik hx hy
    have hk : k < xs.size := (Array.getElem?_eq_some_iff.mp hy).1
    have hi : i < xs.size := (Array.getElem?_eq_some_iff.mp hx).1
    have := List.pairwise_iff_getElem.mp hr i k (by simpa using hi) (by simpa using hk) hik
    have e1 : xs[i] = x := (Array.getElem?_eq_some_iff.mp hx).2
    have e2 : xs[k] = y := (Array.getElem?_eq_some_iff.mp hy).2
    simp only [Array.getElem_toList] at this
    omega
  by_cases ha : SetTable.below xs (y + 1) ≤ k
  · have := h2 k y ha hy
    omega
  · by_cases hb : k + 1 < SetTable.below xs (y + 1)
    · have hz : k + 1 < xs.size := by omega
      have e : xs[k + 1]? = some xs[k + 1] := by simp [hz]
      have l1 := h1 (k + 1) _ hb e
      have l2 := mono k (k + 1) y _ (by omega) hy e
      omega
    · omega
theorem below_zero (xs : Array Nat) (hr : Rise xs) : SetTable.below xs 0 = 0 := by
  obtain ⟨h1, h2, h3⟩ := below_spec xs 0 hr
  cases e : SetTable.below xs 0 with
  | zero => rfl
  | succ m =>
    have hz : 0 < xs.size := by omega
    have := h1 0 xs[0] (by omega) (by simp [hz])
    omega

theorem rise_insert (xs : Array Nat) (hr : Rise xs) (j : Nat) (hn : xs[SetTable.below xs j]? ≠ some j) : Rise (SetTable.insertAt xs (SetTable.below xs j) j) := by
  obtain ⟨h1, h2, h3⟩ := below_spec xs j hr
  have mono : ∀ (i k x y : Nat), i < k → xs[i]? = some x → xs[k]? = some y → x < y := by
    intro i k x y hik hx hy
    have hk : k < xs.size := (Array.getElem?_eq_some_iff.mp hy).1
    have hi : i < xs.size := (Array.getElem?_eq_some_iff.mp hx).1
    have := List.pairwise_iff_getElem.mp hr i k (by simpa using hi) (by simpa using hk) hik
    have e1 : xs[i] = x := (Array.getElem?_eq_some_iff.mp hx).2
    have e2 : xs[k] = y := (Array.getElem?_eq_some_iff.mp hy).2
    simp only [Array.getElem_toList] at this
    omega
  unfold Rise
  rw [SetTable.toList_insertAt]
  have ht : (xs.toList.take (SetTable.below xs j)).Pairwise (· < ·) := hr.sublist (List.take_sublist _ _)
  have hd : (xs.toList.drop (SetTable.below xs j)).Pairwise (· < ·) := hr.sublist (List.drop_sublist _ _)
  have mt : ∀ a ∈ xs.toList.take (SetTable.below xs j), a < j := by
    intro a ha
    obtain ⟨i, hi, e⟩ := List.mem_iff_getElem.mp ha
    rw [List.getElem_take] at e
    have hi' : i < SetTable.below xs j := by rw [List.length_take] at hi; omega
    refine h1 i a hi' ?_
    rw [Array.getElem?_eq_some_iff]
    exact ⟨by omega, by simpa using e⟩
  have md : ∀ b ∈ xs.toList.drop (SetTable.below xs j), j < b := by
    intro b hb
    obtain ⟨i, hi, e⟩ := List.mem_iff_getElem.mp hb
    rw [List.getElem_drop] at e
    have hi' : SetTable.below xs j + i < xs.size := by rw [List.length_drop] at hi; simp at hi; omega
    have eb : xs[SetTable.below xs j + i]? = some b := by
      rw [Array.getElem?_eq_some_iff]
      exact ⟨hi', by simpa using e⟩
    have l := h2 _ b (by omega) eb
    by_cases hb : j = b
    · exfalso
      subst hb
      by_cases h0 : i = 0
      · subst h0
        exact hn (by simpa using eb)
      · have hz : SetTable.below xs j < xs.size := by omega
        have e0 : xs[SetTable.below xs j]? = some xs[SetTable.below xs j] := by simp [hz]
        have l1 := mono _ _ _ _ (by omega : SetTable.below xs j < SetTable.below xs j + i) e0 eb
        have l2 := h2 _ _ (Nat.le_refl _) e0
        omega
    · omega
  rw [List.pairwise_append]
  refine ⟨ht, List.pairwise_cons.mpr ⟨md, hd⟩, fun a ha b hb => ?_⟩
  rcases List.mem_cons.mp hb with rfl | hb
  · exact mt a ha
  · have := mt a ha
    have := md b hb
    omega

theorem rise_range (n : Nat) : Rise (Array.range n) := by
  unfold Rise
  rw [Array.toList_range]
  exact List.pairwise_lt_range

theorem probe_empty (t : SetTable) (hashAt : Nat → Int) (h : Int) : ∀ (fuel : Nat) (p : SetTable.Probe) (j : Nat) (d : Option Nat),
    (∀ x, p.dummy = some x → t.slot x = .dummy) → SetTable.probe.go t hashAt h fuel p = some (.empty j d) → t.slot j = .empty ∧ ∀ x, d = some x → t.slot x = .dummy := by
  intro fuel
  induction fuel with
  | zero => intro p j d _ e; simp [SetTable.probe.go] at e
  | succ fuel ih =>
    intro p j d hp e
    unfold SetTable.probe.go at e
    cases hs : t.slot p.j with
    | empty =>
      rw [hs] at e
      simp only [Option.some.injEq, SetTable.Met.empty.injEq] at e
      obtain ⟨rfl, rfl⟩ := e
      exact ⟨hs, hp⟩
    | dummy =>
      rw [hs] at e
      refine ih _ j d ?_ e
      intro x hx
      have : (t.advance { p with dummy := some p.j }).dummy = some p.j := by unfold SetTable.advance; split <;> rfl
      rw [this] at hx
      cases hx
      exact hs
    | live i =>
      rw [hs] at e
      dsimp only at e
      split at e
      · cases e
      · refine ih _ j d ?_ e
        intro x hx
        have : (t.advance p).dummy = p.dummy := by unfold SetTable.advance; split <;> rfl
        rw [this] at hx
        exact hp x hx

theorem not_live {t : SetTable} {j : Nat} (h : t.slot j = .empty ∨ t.slot j = .dummy) : t.place[SetTable.below t.place j]? ≠ some j := by
  intro e
  unfold SetTable.slot at h
  simp [e] at h

theorem freeSlot_new {t : SetTable} {h : Int} {slot : Nat} {b : Bool} (e : t.freeSlot h = some (slot, b)) : t.place[SetTable.below t.place slot]? ≠ some slot := by
  unfold SetTable.freeSlot at e
  split at e
  · rename_i j dummy hp
    simp only [Option.some.injEq, Prod.mk.injEq] at e
    obtain ⟨e1, _⟩ := e
    have := probe_empty t (fun _ => h + 1) h _ (t.probeStart h) j dummy (by intro x hx; simp [SetTable.probeStart] at hx) hp
    cases dummy with
    | none => simp only [Option.getD_none] at e1; subst e1; exact not_live (.inl this.1)
    | some d => simp only [Option.getD_some] at e1; subst e1; exact not_live (.inr (this.2 _ rfl))
  · cases e

/-- what the walk needs of the table -/
structure Tb (b : Bool) (t : SetTable) : Prop where
  led : t.led = b
  rise : Rise t.place

theorem Tb.standIn {b : Bool} {t : SetTable} (h : Tb b t) (n : Nat) : Tb b (t.standIn n) := ⟨h.led, rise_range n⟩
theorem Tb.off {b : Bool} {t : SetTable} (h : Tb b t) : Tb b { t with plain := false } := ⟨h.led, h.rise⟩

theorem Tb.layNew {b : Bool} {t : SetTable} (ht : Tb b t) (es : Array (Int × Value)) (h : Int) (x : Value) : Tb b (layNew t es h x).2.1 := by
  unfold PySem.layNew
  split
  · rename_i slot wasDummy e
    have key : ∀ (u : SetTable) (n : Nat), Tb b u → Tb b (u.orStandIn n) := fun u n hu => by
      unfold SetTable.orStandIn
      split
      · exact hu
      · exact hu.standIn n
    exact key _ _ ⟨ht.led, rise_insert _ ht.rise _ (freeSlot_new e)⟩
  · exact ht.standIn _

theorem filterMap_rise {α : Type} (f : Nat → Option α) : ∀ (l : List Nat), l.Pairwise (· < ·) → ((l.filterMap fun j => (f j).map (j, ·)).map (·.1)).Pairwise (· < ·) ∧
    ∀ y ∈ ((l.filterMap fun j => (f j).map (j, ·)).map (·.1)), y ∈ l := by
  intro l
  induction l with
  | nil => intro _; exact ⟨List.Pairwise.nil, fun y hy => hy⟩
  | cons a r ih =>
    intro hp
    obtain ⟨ha, hr⟩ := List.pairwise_cons.mp hp
    obtain ⟨h1, h2⟩ := ih hr
    cases e : f a with
    | none =>
      have : (a :: r).filterMap (fun j => (f j).map (j, ·)) = r.filterMap (fun j => (f j).map (j, ·)) := by simp [e]
      rw [this]
      exact ⟨h1, fun y hy => List.mem_cons_of_mem _ (h2 y hy)⟩
    | some z =>
      have : (a :: r).filterMap (fun j => (f j).map (j, ·)) = (a, z) :: r.filterMap (fun j => (f j).map (j, ·)) := by simp [e]
      rw [this, List.map_cons]
      refine ⟨List.pairwise_cons.mpr ⟨fun y hy => ha y (h2 y hy), h1⟩, fun y hy => ?_⟩
      rcases List.mem_cons.mp hy with rfl | hy
      · exact List.mem_cons_self
      · exact List.mem_cons_of_mem _ (h2 y hy)

theorem Tb.relayAll {b : Bool} {t : SetTable} (ht : Tb b t) (es : Array (Int × Value)) (wanted : Nat) : Tb b (relayAll t es wanted).2.1 := by
  unfold PySem.relayAll
  split
  · rename_i t' order e
    dsimp only
    split
    · unfold SetTable.relaid SetTable.laid at e
      simp only [Option.bind_eq_bind, Option.bind_eq_some_iff, Option.pure_def, Option.some.injEq, Prod.mk.injEq] at e
      obtain ⟨owner, _, e1, _⟩ := e
      subst e1
      refine ⟨ht.led, ?_⟩
      exact (filterMap_rise (fun j => owner.getD j none) _ List.pairwise_lt_range).1
    · exact ht.standIn _
  · exact ht.standIn _

/-! ### the orders in which a set is walked -/
theorem cons_erase_perm {α : Type} : ∀ (l : List α) (i : Nat) (h : i < l.length), ([l[i]] ++ l.eraseIdx i).Perm l
  | a :: r, 0, _ => by simp
  | a :: r, i + 1, h => by
    have hr : i < r.length := by simpa using h
    have := cons_erase_perm r i hr
    simp only [List.getElem_cons_succ, List.eraseIdx_cons_succ]
    exact (List.Perm.swap _ _ _).trans (List.Perm.cons _ this)
theorem pick_perm {α : Type} (next : Nat → Nat) : ∀ (fuel k : Nat) (left : List α) (out : Array α), left.length ≤ fuel →
    (pickOrder.go next fuel k left out).toList.Perm (out.toList ++ left) := by
  intro fuel
  induction fuel with
  | zero =>
    intro k left out h
    have : left = [] := List.length_eq_zero_iff.mp (by omega)
    subst this
    simp [pickOrder.go]
  | succ fuel ih =>
    intro k left out h
    unfold pickOrder.go
    cases left with
    | nil => simp
    | cons a r =>
      have hlt : next k % (a :: r).length < (a :: r).length := Nat.mod_lt _ (by simp)
      generalize next k % (a :: r).length = i at hlt
      rw [List.getElem?_eq_getElem hlt]
      dsimp only
      refine (ih (k + 1) _ _ ?_).trans ?_
      · rw [List.length_eraseIdx_of_lt hlt]; omega
      · rw [Array.toList_push, List.append_assoc]
        refine List.Perm.append_left _ ?_
        exact cons_erase_perm _ _ hlt
theorem pickOrder_perm {α : Type} (next : Nat → Nat) (xs : Array α) : (pickOrder next xs).toList.Perm xs.toList := by
  unfold pickOrder
  simpa using pick_perm next xs.size 0 xs.toList #[] (by simp)
end SI
end PySem
end

section
namespace PySem
namespace SI
section
variable {prog : Program} {w : World} {K : Type} [DecidableEq K] {knd : KeyKind prog w K}
variable {A : Around} {E : Value → Shared → Prop} {s : Shared}

/-- a set of keys of a kind, its entries in the table's order -/
def Heap.Set2 (knd : KeyKind prog w K) (b : Bool) (h : Heap) (a : Addr) (es : Array (Int × Value)) : Prop :=
  ∃ o ep t, h.get? a = some o ∧ o.ExactSet ∧ o.data = .set es ep t ∧ ElemsOf knd es.toList ∧ es.size < scanBound ∧ t.fits es.size = true ∧ Tb b t

theorem store2 {b : Bool} {h : Heap} {a : Addr} {o : Obj} {es : Array (Int × Value)} {ep : Nat} {t : SetTable} (ho : h.get? a = some o) (hex : o.ExactSet) (hd : o.data = .set es ep t)
    {es' : Array (Int × Value)} {t' : SetTable} (hel : ElemsOf knd es'.toList) (hb : es'.size < scanBound) (hf : t'.fits es'.size = true) (ht : Tb b t') :
    (h.update a (Obj.putSet es' t')).get? a = some { o with data := .set es' (ep + 1) t' } ∧ Heap.Set2 knd b (h.update a (Obj.putSet es' t')) a es' := by
  have hg : (h.update a (Obj.putSet es' t')).get? a = some { o with data := .set es' (ep + 1) t' } := by
    have := Heap.get?_update_self (Obj.putSet es' t') ho (by rw [putSet_of es' t' hd]; rfl)
    rw [putSet_of es' t' hd] at this; exact this
  exact ⟨hg, _, ep + 1, t', hg, hex, rfl, hel, hb, hf, ht⟩

theorem addTail2 {b : Bool} {g : Bool → Sem Unit} (hg : ∀ (b : Bool) (s₁ : Shared) (Q' : Unit → Shared → Prop), Q' () s₁ → wpAny (model prog w) A (g b) Q' E s₁)
    {a : Addr} {o : Obj} {es : Array (Int × Value)} {ep : Nat} {t : SetTable} (ho : s.heap.get? a = some o) (hex : o.ExactSet) (hd : o.data = .set es ep t)
    {es1 : Array (Int × Value)} {t2 : SetTable} (hel1 : ElemsOf knd es1.toList)
    (hb1 : es1.size < scanBound) (hf2 : t2.fits es1.size = true) (ht2 : Tb b t2) {wasDummy : Bool} {R : Option Bool → Shared → Prop}
    (h : ∀ h' es', Heap.SameBut a s.heap h' → es'.toList.Perm es1.toList → Heap.Set2 knd b h' a es' → R (some true) { s with heap := h' }) :
    wpAny (model prog w) A (do
        storeSet a es1 t2
        if (!wasDummy && t2.tooFull) = true then do
            g (relayAll t2 es1 (SetTable.grown es1.size)).2.2
            storeSet a (relayAll t2 es1 (SetTable.grown es1.size)).1 (relayAll t2 es1 (SetTable.grown es1.size)).2.1
            pure (some true)
          else pure (some true)) R E s := by
  refine wpAny_bind (wpAny_storeSet_of ho hd ?_ (fits_of_scanBound hb1))
  obtain ⟨ho1, hS1⟩ := store2 (knd := knd) ho hex hd hel1 hb1 hf2 ht2
  have hsb1 := Heap.SameBut.update s.heap a (Obj.putSet es1 t2)
  split
  · have hp := relayAll_perm t2 es1 (SetTable.grown es1.size)
    have hfr := relayAll_fits t2 es1 (SetTable.grown es1.size)
    have htr := ht2.relayAll es1 (SetTable.grown es1.size)
    generalize relayAll t2 es1 (SetTable.grown es1.size) = Rl at hp hfr htr ⊢
    obtain ⟨es2, t3, gave2⟩ := Rl
    dsimp only at hp hfr htr ⊢
    have hel2 : ElemsOf knd es2.toList := hel1.perm hp
    have hsz : es2.size = es1.size := by rw [← Array.length_toList, hp.length_eq, Array.length_toList]
    have hb2 : es2.size < scanBound := by rw [hsz]; exact hb1
    refine wpAny_bind (hg _ _ _ ?_)
    refine wpAny_bind (wpAny_storeSet_of ho1 rfl ?_ (fits_of_scanBound hb2))
    obtain ⟨_, hS2⟩ := store2 (knd := knd) ho1 hex rfl hel2 hb2 hfr htr
    exact wpAny_pure (h _ _ (hsb1.trans (Heap.SameBut.update _ a _)) hp hS2)
  · exact wpAny_pure (h _ _ hsb1 .rfl hS1)

/-- x is laid into the set: the entries are as before, or one more -/
theorem addHashed2 {b : Bool} {a : Addr} {es : Array (Int × Value)} {k : K} {x : Value} {Q : Bool → Shared → Prop} (hkey : knd.is k x = true) (hsc : x.scannable = true) (hS : Heap.Set2 knd b s.heap a es)
    (hroom : es.size + 1 < scanBound)
    (h : ∀ c h' es', Heap.SameBut a s.heap h' → Heap.Set2 knd b h' a es' →
      ((∃ e ∈ es.toList, knd.is k e.2 = true) ∧ es' = es ∨ (¬ ∃ e ∈ es.toList, knd.is k e.2 = true) ∧ es'.toList.Perm (es.toList ++ [(knd.hash k, x)])) → Q c { s with heap := h' }) :
    wpAny (model prog w) A (setAddHashed a x (knd.hash k)) Q E s := by
  obtain ⟨o, ep, t, ho, hex, hd, hel, hb, hf, ht⟩ := hS
  unfold setAddHashed setAddHashedIn
  refine wpAny_holding (wpAny_bind (wpAny_setState_of ho hd hf ?_))
  dsimp only
  rw [byScan_of hsc hb hel]
  simp only [↓reduceIte]
  unfold setAddByScan
  refine wpAny_bind ?_
  refine wpAny_bind (wpAny_rule ?_)
  refine wpAny_bind (wpAny_setScan_of hkey ho hd hf hel ?_)
  cases hr : List.findIdx? (fun e => knd.is k e.2) es.toList with
  | some j =>
    dsimp only
    obtain ⟨hj, hpj, _⟩ := List.findIdx?_eq_some_iff_getElem.mp hr
    refine wpAny_pure (wpAny_pure ?_)
    have e : s = { s with heap := s.heap } := by cases s; rfl
    rw [e]
    exact h _ s.heap es (Heap.SameBut.refl a s.heap) ⟨o, ep, t, ho, hex, hd, hel, hb, hf, ht⟩ (.inl ⟨⟨es.toList[j], List.getElem_mem hj, hpj⟩, rfl⟩)
  | none =>
    dsimp only
    have hno : ¬ ∃ e ∈ es.toList, knd.is k e.2 = true := fun ⟨e, he, hp⟩ => by
      have := List.findIdx?_eq_none_iff.mp hr e he
      rw [hp] at this; exact Bool.noConfusion this
    have hgw : ∀ (b : Bool) {s₁ : Shared} {Q' : Unit → Shared → Prop}, Q' () s₁ → wpAny (model prog w) A (match b with | true => rule "set.scan.the-table-gave-way" | false => pure ()) Q' E s₁ :=
      fun b s₁ Q' hq => by cases b <;> first | exact wpAny_pure hq | exact wpAny_rule hq
    have hperm := layNew_perm t es (knd.hash k) x
    have hfits := layNew_fits t es (knd.hash k) x
    have htb := ht.layNew es (knd.hash k) x
    generalize hL : layNew t es (knd.hash k) x = L at hperm hfits htb ⊢
    obtain ⟨es1, t1, wasDummy, gave⟩ := L
    dsimp only at hperm hfits htb ⊢
    rw [Array.toList_push] at hperm
    have hel1 : ElemsOf knd es1.toList := (hel.push hkey hsc).perm hperm
    have hb1' : es1.size < scanBound := by rw [← Array.length_toList, hperm.length_eq, List.length_append, Array.length_toList]; simpa using hroom
    refine wpAny_bind (hgw _ ?_)
    have hend : ∀ h' es', Heap.SameBut a s.heap h' → es'.toList.Perm es1.toList → Heap.Set2 knd b h' a es' → Q true { s with heap := h' } := by
      intro h' es' hsb hp hS'
      exact h _ h' es' hsb hS' (.inr ⟨hno, hp.trans hperm⟩)
    split
    · refine wpAny_bind ?_
      rw [hashByValue_scannable 8 hsc]
      refine wpAny_pure ?_
      refine addTail2 (b := b) ?_ ho hex hd hel1 hb1' ?_ ?_ ?_
      · intro b s₁ Q' hq; cases b <;> first | exact wpAny_pure hq | exact wpAny_rule hq
      · split
        · exact hfits
        · exact SetTable.fits_plain_off hfits
      · split
        · exact htb
        · exact htb.off
      · intro h' es' hsb hp hS'; dsimp only; exact wpAny_pure (hend h' es' hsb hp hS')
    · refine wpAny_bind (wpAny_pure ?_)
      simp only [↓reduceIte]
      refine addTail2 (b := b) ?_ ho hex hd hel1 hb1' hfits htb ?_
      · intro b s₁ Q' hq; cases b <;> first | exact wpAny_pure hq | exact wpAny_rule hq
      · intro h' es' hsb hp hS'; dsimp only; exact wpAny_pure (hend h' es' hsb hp hS')
end
end SI
end PySem
end

section
set_option maxRecDepth 100000
namespace PySem
namespace SI
theorem owner_sit : Manifest.owners.lookup (String.ofList ['r', 'o', 't', 'a', 'r', 'e', 't', 'i', '_', 't', 'e', 's'].reverse) = some Manifest.sig_set_iterator := by kernel_rfl
theorem slot_sit_next : Slot "set_iterator" "__next__" "set_iterator.__next__" :=
  .of (owner := "set_iterator") (n := "__next__") (by rw [typeLookup_type, builtinLookup_eq_fast]; kernel_rfl) (by decide +kernel) (by decide +kernel) (by decide +kernel)
    (by first | exact .inl (by decide +kernel) | exact .inr (by decide +kernel)) (by rw [isSubtype_type]; kernel_rfl)
theorem entry_sit_next : entryFor table "set_iterator.__next__" = some Builtin.«set_iterator.__next__» := entryFor_of_tree (by kernel_rfl)
theorem args_sit_next (a : Value) : argsOk "set_iterator.__next__" ⟨[a], []⟩ := by
  unfold argsOk; rw [signature?_of (id := "set_iterator.__next__") (n := ['_', '_', 't', 'x', 'e', 'n', '_', '_']) (o := ['r', 'o', 't', 'a', 'r', 'e', 't', 'i', '_', 't', 'e', 's']) (by kernel_rfl) owner_sit]; kernel_rfl
theorem slot_sit_iter : Slot "set_iterator" "__iter__" "set_iterator.__iter__" :=
  .of (owner := "set_iterator") (n := "__iter__") (by rw [typeLookup_type, builtinLookup_eq_fast]; kernel_rfl) (by decide +kernel) (by decide +kernel) (by decide +kernel)
    (by first | exact .inl (by decide +kernel) | exact .inr (by decide +kernel)) (by rw [isSubtype_type]; kernel_rfl)
theorem args_sit_iter (a : Value) : argsOk "set_iterator.__iter__" ⟨[a], []⟩ := by
  unfold argsOk; rw [signature?_of (id := "set_iterator.__iter__") (n := ['_', '_', 'r', 'e', 't', 'i', '_', '_']) (o := ['r', 'o', 't', 'a', 'r', 'e', 't', 'i', '_', 't', 'e', 's']) (by kernel_rfl) owner_sit]; kernel_rfl
theorem entry_sit_iter : entryFor table "set_iterator.__iter__" = some Builtin.«dict_keyiterator.__iter__» :=
  entryFor_alias (id' := "dict_keyiterator.__iter__") (by kernel_rfl) (by first | rfl | decide +kernel | (unfold String.splitOn; simp +decide [String.splitOnAux])) (by decide +kernel) (by kernel_rfl)
theorem entry_set_iter : entryFor table "set.__iter__" = some Builtin.«frozenset.__iter__» :=
  entryFor_alias (id' := "frozenset.__iter__") (by kernel_rfl) (by first | rfl | decide +kernel | (unfold String.splitOn; simp +decide [String.splitOnAux])) (by decide +kernel) (by kernel_rfl)

section
variable {prog : Program} {w : World} {K : Type} [DecidableEq K] {knd : KeyKind prog w K}
variable {A : Around} {E : Value → Shared → Prop} {s : Shared}

/-- the set's object as it stands while it is walked -/
structure SetAt (b : Bool) (h : Heap) (a : Addr) (es : Array (Int × Value)) (ep : Nat) (t : SetTable) : Prop where
  ex : ∃ o, h.get? a = some o ∧ o.ExactSet ∧ o.data = .set es ep t
  fits : t.fits es.size = true
  tb : Tb b t
theorem SetAt.keep {b : Bool} {h h' : Heap} {a : Addr} {es : Array (Int × Value)} {ep : Nat} {t : SetTable} (x : SetAt b h a es ep t) (k : ∀ o, h.get? a = some o → h'.get? a = some o) : SetAt b h' a es ep t :=
  ⟨let ⟨o, ho, r⟩ := x.ex; ⟨o, k o ho, r⟩, x.fits, x.tb⟩
theorem SetAt.typeIs {b : Bool} {a : Addr} {es : Array (Int × Value)} {ep : Nat} {t : SetTable} (x : SetAt b s.heap a es ep t) : s.TypeIs (.ref a) "set" := let ⟨o, ho, hc, _⟩ := x.ex; ⟨o, ho, hc.1⟩
theorem SetAt.state {b : Bool} {a : Addr} {es : Array (Int × Value)} {ep : Nat} {t : SetTable} {Q : (Array (Int × Value) × Nat × SetTable) → Shared → Prop} (x : SetAt b s.heap a es ep t) (h : Q (es, ep, t) s) :
    wpAny (model prog w) A (setState a) Q E s := let ⟨_, ho, _, hd⟩ := x.ex; wpAny_setState_of ho hd x.fits h
theorem Set2.at {b : Bool} {h : Heap} {a : Addr} {es : Array (Int × Value)} (x : Heap.Set2 knd b h a es) : ∃ ep t, SetAt b h a es ep t :=
  let ⟨o, ep, t, ho, hex, hd, _, _, hf, ht⟩ := x; ⟨ep, t, ⟨o, ho, hex, hd⟩, hf, ht⟩

def IsSetIter (h : Heap) (I : Addr) (first : Value) (i : Nat) (S : Addr) (n ep : Nat) : Prop :=
  ∃ o, h.get? I = some o ∧ o.cls = .type "set_iterator" ∧ o.data = .fields #[first, rawInt i, .ref S, rawInt n, rawInt ep]
theorem IsSetIter.typeIs {I S : Addr} {f : Value} {i n ep : Nat} (x : IsSetIter s.heap I f i S n ep) : s.TypeIs (.ref I) "set_iterator" := let ⟨o, ho, hc, _⟩ := x; ⟨o, ho, hc⟩
theorem IsSetIter.at {h h' : Heap} {I S : Addr} {f : Value} {i n ep : Nat} (x : IsSetIter h I f i S n ep) (e : ∀ o, h.get? I = some o → h'.get? I = some o) : IsSetIter h' I f i S n ep := let ⟨o, ho, r⟩ := x; ⟨o, e _ ho, r⟩

theorem iter_self {I S : Addr} {f : Value} {i n ep : Nat} {Q : Value → Shared → Prop} (x : IsSetIter s.heap I f i S n ep) (h : Q (.ref I) s) : wpAny (model prog w) A (pyIter (.ref I)) Q E s := by
  refine wpAny_pyIter_slot x.typeIs slot_sit_iter (wpAny_call_entry slot_sit_iter x.typeIs entry_sit_iter ?_ (args_sit_iter _))
  show wpAny _ _ (ret (.ref I)) _ _ s
  exact wpAny_pure ⟨_, rfl, "set_iterator", _, x.typeIs, slot_sit_next.lookup, h⟩

theorem drawOrder_ok {α : Type} {Q : List α → Shared → Prop} : ∀ (n : Nat) (xs : List α) (s : Shared), xs.length ≤ n → (∀ ys d, ys.Perm xs → Q ys { s with drawn := d }) → wpAny (model prog w) A (drawOrder n xs) Q E s := by
  intro n
  induction n generalizing Q with
  | zero =>
    intro xs s h hQ
    have : xs = [] := List.length_eq_zero_iff.mp (by omega)
    subst this
    exact wpAny_pure (hQ [] s.drawn .rfl)
  | succ n ih =>
    intro xs s h hQ
    cases xs with
    | nil => exact wpAny_pure (hQ [] s.drawn .rfl)
    | cons a r =>
      unfold drawOrder
      refine wpAny_bind ?_
      intro Γ p hΓ
      show Sem.wp _ _ (Sem.choose _ _ _) _ _ _ _
      rw [Sem.wp_choose]
      refine ⟨by simp, ?_⟩
      have hlt : (model prog w).w.draws .order (s.drawn.get .order) % (a :: r).length < (a :: r).length := Nat.mod_lt _ (by simp)
      generalize (model prog w).w.draws .order (s.drawn.get .order) % (a :: r).length = i at hlt
      show Sem.wp _ _ (Sem.pure i) _ _ _ _
      rw [Sem.wp_pure]
      dsimp only
      rw [List.getElem?_eq_getElem hlt]
      dsimp only
      refine wpAny_bind (ih _ _ (by rw [List.length_eraseIdx_of_lt hlt]; omega) fun ys d hp => wpAny_pure ?_)
      exact hQ _ d ((hp.cons _).trans (cons_erase_perm _ _ hlt))

/-- the walk's order: by the world's own, else the table's -/
def ordOf (w : World) (S : Addr) (ep : Nat) (es : Array (Int × Value)) : Array (Int × Value) := if w.params.followText "set-order" = true then pickOrder (w.params.setOrder S ep) es else es
theorem ordOf_perm (w : World) (S : Addr) (ep : Nat) (es : Array (Int × Value)) : (ordOf w S ep es).toList.Perm es.toList := by
  unfold ordOf
  split
  · exact pickOrder_perm _ _
  · exact .rfl
theorem ordOf_size (w : World) (S : Addr) (ep : Nat) (es : Array (Int × Value)) : (ordOf w S ep es).size = es.size := by
  have := (ordOf_perm w S ep es).length_eq
  simpa using this

/-- setNext where no order is drawn -/
theorem setNext_ok {S : Addr} {es : Array (Int × Value)} {ep : Nat} {t : SetTable} {slot i : Nat} {Q : Option (Value × Nat) → Shared → Prop} (x : SetAt (!(w.params.followText "set-order")) s.heap S es ep t)
    (hi : i ≤ es.size) (hc : w.params.followText "set-order" = true ∨ ((!t.plain && decide (es.size > 1)) = false ∧ SetTable.below t.place slot = i))
    (h1 : ∀ e slot', (ordOf w S ep es)[i]? = some e → (w.params.followText "set-order" = true ∨ SetTable.below t.place slot' = i + 1) → Q (some (e.2, slot')) s) (h2 : es.size = i → Q none s) :
    wpAny (model prog w) A (setNext S slot i ep) Q E s := by
  unfold setNext
  refine wpAny_bind (x.state ?_)
  dsimp only
  unfold setsByText
  refine wpAny_bind (wpAny_bind (wpAny_askSetting (wpAny_pure ?_)))
  show wpAny _ _ (if w.params.followText "set-order" = true then _ else _) _ _ _
  by_cases hb : w.params.followText "set-order" = true
  · rw [if_pos hb]
    rw [if_neg (by simp)]
    refine wpAny_bind ?_
    unfold setWalk
    refine wpAny_bind (x.state ?_)
    dsimp only
    unfold setsByText
    refine wpAny_bind (wpAny_bind (wpAny_askSetting (wpAny_pure ?_)))
    show wpAny _ _ (if w.params.followText "set-order" = true then _ else _) _ _ _
    rw [if_pos hb]
    refine wpAny_bind (wpAny_askSetting (wpAny_pure ?_))
    refine wpAny_pure ?_
    have eo : ordOf w S ep es = pickOrder (w.params.setOrder S ep) es := by unfold ordOf; rw [if_pos hb]
    show Q (((pickOrder (w.params.setOrder S ep) es)[i]?).map fun e => (e.2, slot)) s
    rw [← eo]
    cases e : (ordOf w S ep es)[i]? with
    | some y => exact h1 y slot e (.inl hb)
    | none =>
      refine h2 ?_
      have := Array.getElem?_eq_none_iff.mp e
      rw [ordOf_size] at this
      omega
  · rw [if_neg hb]
    obtain ⟨hd, hs⟩ := hc.resolve_left hb
    have eo : ordOf w S ep es = es := by unfold ordOf; rw [if_neg hb]
    have hled : t.led = true := by rw [x.tb.led]; simp [hb]
    have hps : t.place.size = es.size := by
      have := x.fits
      simp only [SetTable.fits, Bool.and_eq_true, beq_iff_eq] at this
      exact this.1
    show wpAny _ _ (if (!t.plain && decide (es.size > 1)) = true then _ else _) _ _ _
    rw [if_neg (by rw [hd]; simp)]
    refine wpAny_bind ?_
    show wpAny _ _ (if (!t.led && !es.isEmpty) = true then _ else _) _ _ _
    rw [if_neg (by rw [hled]; simp)]
    refine wpAny_pure ?_
    refine wpAny_pure ?_
    rw [hs]
    by_cases hlt : i < es.size
    · have e1 : es[i]? = some es[i] := by simp [hlt]
      have e2 : t.place[i]? = some (t.place[i]'(by omega)) := by simp [hps, hlt]
      rw [e1, e2]
      exact h1 es[i] _ (by rw [eo]; exact e1) (.inr (below_next _ x.tb.rise i _ e2))
    · have e1 : es[i]? = none := by simp; omega
      rw [e1]
      exact h2 (by omega)
end
end SI
end PySem
end

section
set_option maxRecDepth 100000
namespace PySem
namespace SI
section
variable {prog : Program} {w : World} {K : Type} [DecidableEq K] {knd : KeyKind prog w K}
variable {A : Around} {E : Value → Shared → Prop} {s : Shared}

/-- the state of a walk over the set at S by the iterator at I: the i-th is next. T: the drawn places, where they are drawn -/
structure Wk (w : World) (h : Heap) (I S : Addr) (es : Array (Int × Value)) (ep : Nat) (t : SetTable) (pl : Option (Addr × List Nat)) (i : Nat) : Prop where
  st : SetAt (!(w.params.followText "set-order")) h S es ep t
  le : i ≤ es.size
  it : match pl with
    | none => ∃ slot : Nat, IsSetIter h I (rawInt slot) i S es.size ep ∧ (w.params.followText "set-order" = true ∨ ((!t.plain && decide (es.size > 1)) = false ∧ SetTable.below t.place slot = i))
    | some (T, ps) => IsSetIter h I (.ref T) i S es.size ep ∧ h.IsTuple T (ps.map fun p => rawInt ((p : Nat) : Int)).toArray ∧ ps.Perm (List.range es.size)
/-- the items in the walk's order -/
def seqOf (w : World) (S : Addr) (ep : Nat) (es : Array (Int × Value)) (pl : Option (Addr × List Nat)) : List (Int × Value) := match pl with
  | none => (ordOf w S ep es).toList
  | some (_, ps) => ps.filterMap fun p => es[p]?
theorem seqOf_perm {w : World} {h : Heap} {I S : Addr} {es : Array (Int × Value)} {ep : Nat} {t : SetTable} {pl : Option (Addr × List Nat)} {i : Nat} (x : Wk w h I S es ep t pl i) : (seqOf w S ep es pl).Perm es.toList := by
  cases pl with
  | none => exact ordOf_perm w S ep es
  | some p =>
    obtain ⟨T, ps⟩ := p
    obtain ⟨_, _, hp⟩ := x.it
    show (ps.filterMap fun p => es[p]?).Perm es.toList
    exact (hp.filterMap _).trans (by rw [filterMap_getElem?_range])
theorem filterMap_get {es : Array (Int × Value)} : ∀ (ps : List Nat), (∀ p ∈ ps, p < es.size) → ∀ i : Nat, (ps.filterMap fun p => es[p]?)[i]? = ps[i]?.bind fun p => es[p]?
  | [], _, i => by simp
  | p :: r, h, i => by
    have hp := h p List.mem_cons_self
    have e : es[p]? = some es[p] := by simp [hp]
    have e2 : (p :: r).filterMap (fun p => es[p]?) = es[p] :: r.filterMap fun p => es[p]? := by simp [e]
    rw [e2]
    cases i with
    | zero => simp [e]
    | succ i =>
      simp only [List.getElem?_cons_succ]
      exact filterMap_get r (fun q hq => h q (List.mem_cons_of_mem _ hq)) i

theorem wk_item {I S : Addr} {es : Array (Int × Value)} {ep : Nat} {t : SetTable} {pl : Option (Addr × List Nat)} {i : Nat} {Q : Option Value → Shared → Prop} (hIS : I ≠ S) (hIT : ∀ p, pl = some p → I ≠ p.1)
    (x : Wk w s.heap I S es ep t pl i) (hi : i < es.size)
    (hQ : ∀ e h', (seqOf w S ep es pl)[i]? = some e → Wk w h' I S es ep t pl (i + 1) → Heap.SameBut I s.heap h' → Q (some e.2) { s with heap := h' }) : wpAny (model prog w) A (pyNext (.ref I)) Q E s := by
  have st := x.st
  obtain ⟨oS, hoS, hex, hdS⟩ := st.ex
  cases pl with
  | none =>
    obtain ⟨slot, hit, hc⟩ := x.it
    obtain ⟨o, ho, hcl, hd⟩ := id hit
    unfold pyNext
    refine wpAny_bind (wpAny_attempt (wpAny_callSpecial?_slot (name := Str.ofString "__next__") hit.typeIs slot_sit_next
      (wpAny_call_entry slot_sit_next hit.typeIs entry_sit_next ?_ (args_sit_next _))))
    unfold Builtin.«set_iterator.__next__»
    refine wpAny_bind (wpAny_of_eq (a := (Value.ref I, [])) rfl ?_)
    try dsimp only
    refine wpAny_bind (wpAny_fieldsOf ho hd ?_)
    show wpAny _ _ (setEntries S >>= _) _ _ s
    refine wpAny_bind (wpAny_setEntries_of hoS hdS st.fits ?_)
    rw [if_neg (by simp)]
    show wpAny _ _ (setNext S (Int.toNat (slot : Int)) (Int.toNat (i : Int)) (Int.toNat (ep : Int)) >>= _) _ _ s
    simp only [Int.toNat_natCast]
    refine wpAny_bind (setNext_ok st x.le hc (fun e slot' he hs => ?_) fun hn => by omega)
    dsimp only
    refine wpAny_bind (wpAny_setField ho hd (by simp) ?_)
    have ho1 := Heap.get?_update_self (Obj.mapFields (·.setIfInBounds 0 (rawInt (slot' : Nat)))) ho (Obj.isFreed_of_fields (Obj.data_mapFields hd _))
    have hd1 : (Obj.mapFields (·.setIfInBounds 0 (rawInt (slot' : Nat))) o).data = .fields #[rawInt slot', rawInt i, .ref S, rawInt es.size, rawInt ep] := by rw [Obj.data_mapFields hd]; simp
    refine wpAny_bind (wpAny_setField ho1 hd1 (by simp) ?_)
    refine wpAny_pure ⟨e.2, rfl, wpAny_pure (hQ e _ ?_ ?_ ((Heap.SameBut.update ..).trans (Heap.SameBut.update ..)))⟩
    · show (ordOf w S ep es).toList[i]? = some e
      rw [Array.getElem?_toList]; exact he
    · refine ⟨st.keep fun ob eb => ?_, hi, slot', ?_, ?_⟩
      · rw [Heap.get?_update_other _ _ hIS, Heap.get?_update_other _ _ hIS]; exact eb
      · refine ⟨_, Heap.get?_update_self _ ho1 (Obj.isFreed_of_fields (Obj.data_mapFields hd1 _)), (Obj.cls_mapFields ..).trans ((Obj.cls_mapFields ..).trans hcl), ?_⟩
        rw [Obj.data_mapFields hd1]
        simp
      · rcases hs with hs | hs
        · exact .inl hs
        · rcases hc with hc | hc
          · exact .inl hc
          · exact .inr ⟨hc.1, hs⟩
  | some p =>
    obtain ⟨T, ps⟩ := p
    obtain ⟨hit, hT, hp⟩ := x.it
    obtain ⟨o, ho, hcl, hd⟩ := id hit
    have hlen : ps.length = es.size := by have := hp.length_eq; simpa using this
    have hps : ps[i]? = some (ps[i]'(by omega)) := by simp
    have hin : ∀ p ∈ ps, p < es.size := fun p h => by have := hp.mem_iff.mp h; simpa using this
    have hpi : ps[i]'(by omega) < es.size := hin _ (List.getElem_mem _)
    have he : es[ps[i]'(by omega)]? = some (es[ps[i]'(by omega)]'hpi) := by simp
    unfold pyNext
    refine wpAny_bind (wpAny_attempt (wpAny_callSpecial?_slot (name := Str.ofString "__next__") hit.typeIs slot_sit_next
      (wpAny_call_entry slot_sit_next hit.typeIs entry_sit_next ?_ (args_sit_next _))))
    unfold Builtin.«set_iterator.__next__»
    refine wpAny_bind (wpAny_of_eq (a := (Value.ref I, [])) rfl ?_)
    try dsimp only
    refine wpAny_bind (wpAny_fieldsOf ho hd ?_)
    show wpAny _ _ (setEntries S >>= _) _ _ s
    refine wpAny_bind (wpAny_setEntries_of hoS hdS st.fits ?_)
    rw [if_neg (by simp)]
    obtain ⟨oT, hoT, _, nT, hdT⟩ := id hT
    show wpAny _ _ (seqItems? (.ref T) >>= _) _ _ s
    refine wpAny_bind (wpAny_seqItems hoT hdT ?_)
    have e1 : (ps.map fun p => rawInt ((p : Nat) : Int)).toArray[Int.toNat (i : Int)]? = some (rawInt ((ps[i]'(by omega) : Nat) : Int)) := by simp [hlen, hi]
    simp only [e1]
    show wpAny _ _ (setNextDrawn S (Int.toNat ((ps[i]'(by omega) : Nat) : Int)) (Int.toNat (ep : Int)) >>= _) _ _ s
    simp only [Int.toNat_natCast]
    refine wpAny_bind ?_
    unfold setNextDrawn
    refine wpAny_bind (st.state ?_)
    dsimp only
    rw [if_neg (by simp), he]
    refine wpAny_pure ?_
    refine wpAny_bind (wpAny_setField ho hd (by simp) ?_)
    refine wpAny_pure ⟨_, rfl, wpAny_pure (hQ (es[ps[i]'(by omega)]'hpi) _ ?_ ?_ (Heap.SameBut.update ..))⟩
    · show (ps.filterMap fun p => es[p]?)[i]? = _
      rw [filterMap_get ps hin i, hps]
      exact he
    · refine ⟨st.keep fun ob eb => ?_, hi, ?_, ?_, hp⟩
      · rw [Heap.get?_update_other _ _ hIS]; exact eb
      · refine ⟨_, Heap.get?_update_self _ ho (Obj.isFreed_of_fields (Obj.data_mapFields hd _)), (Obj.cls_mapFields ..).trans hcl, ?_⟩
        rw [Obj.data_mapFields hd]
        simp
      · refine hT.at fun ob eb => ?_
        rw [Heap.get?_update_other _ _ (hIT _ rfl)]; exact eb

theorem wk_done {I S : Addr} {es : Array (Int × Value)} {ep : Nat} {t : SetTable} {pl : Option (Addr × List Nat)} {Q : Option Value → Shared → Prop} (hh : A.handled = none)
    (x : Wk w s.heap I S es ep t pl es.size)
    (hQ : ∀ h', Heap.ExtBut I s.heap h' → Q none { s with heap := h' }) : wpAny (model prog w) A (pyNext (.ref I)) Q E s := by
  have st := x.st
  obtain ⟨oS, hoS, hex, hdS⟩ := st.ex
  cases pl with
  | none =>
    obtain ⟨slot, hit, hc⟩ := x.it
    obtain ⟨o, ho, hcl, hd⟩ := id hit
    unfold pyNext
    refine wpAny_bind (wpAny_attempt (wpAny_callSpecial?_slot (name := Str.ofString "__next__") hit.typeIs slot_sit_next
      (wpAny_call_entry slot_sit_next hit.typeIs entry_sit_next ?_ (args_sit_next _))))
    unfold Builtin.«set_iterator.__next__»
    refine wpAny_bind (wpAny_of_eq (a := (Value.ref I, [])) rfl ?_)
    try dsimp only
    refine wpAny_bind (wpAny_fieldsOf ho hd ?_)
    show wpAny _ _ (setEntries S >>= _) _ _ s
    refine wpAny_bind (wpAny_setEntries_of hoS hdS st.fits ?_)
    rw [if_neg (by simp)]
    show wpAny _ _ (setNext S (Int.toNat (slot : Int)) (Int.toNat (es.size : Int)) (Int.toNat (ep : Int)) >>= _) _ _ s
    simp only [Int.toNat_natCast]
    refine wpAny_bind (setNext_ok st x.le hc (fun e slot' he hs => ?_) fun hn => ?_)
    · have := (Array.getElem?_eq_some_iff.mp he).1
      rw [ordOf_size] at this
      omega
    dsimp only
    refine wpAny_bind (wpAny_setField ho hd (by simp) ?_)
    show wpAny _ _ (newExc (.type "StopIteration") [] >>= _) _ _ _
    refine wpAny_bind ?_
    simp only [newExc, newTuple]
    refine wpAny_bind (wpAny_newObj_type ?_ (by size_fits))
    refine wpAny_bind (m := firstArgMember _ _) (wpAny_of_eq (a := Value.none) (by first | rfl | (simp only [firstArgMember]; rfl)) ?_)
    refine wpAny_newObj_type ?_ (by size_fits)
    simp only [raiseNew]
    refine wpAny_bind (wpAny_handled ?_)
    first | rw [show A.in1.handled = none from hh] | rw [hh]
    refine wpAny_bind (wpAny_pure (wpAny_throw ?_))
    refine wpAny_bind (wpAny_isInstance (T := "StopIteration") (b := true) ⟨_, Heap.get?_push_size _ rfl, rfl⟩ isSubtype_stop ?_)
    exact wpAny_pure (hQ _ (((Heap.SameBut.update s.heap I _).extBut.push _).push _))
  | some p =>
    obtain ⟨T, ps⟩ := p
    obtain ⟨hit, hT, hp⟩ := x.it
    obtain ⟨o, ho, hcl, hd⟩ := id hit
    have hlen : ps.length = es.size := by have := hp.length_eq; simpa using this
    unfold pyNext
    refine wpAny_bind (wpAny_attempt (wpAny_callSpecial?_slot (name := Str.ofString "__next__") hit.typeIs slot_sit_next
      (wpAny_call_entry slot_sit_next hit.typeIs entry_sit_next ?_ (args_sit_next _))))
    unfold Builtin.«set_iterator.__next__»
    refine wpAny_bind (wpAny_of_eq (a := (Value.ref I, [])) rfl ?_)
    try dsimp only
    refine wpAny_bind (wpAny_fieldsOf ho hd ?_)
    show wpAny _ _ (setEntries S >>= _) _ _ s
    refine wpAny_bind (wpAny_setEntries_of hoS hdS st.fits ?_)
    rw [if_neg (by simp)]
    obtain ⟨oT, hoT, _, nT, hdT⟩ := id hT
    show wpAny _ _ (seqItems? (.ref T) >>= _) _ _ s
    refine wpAny_bind (wpAny_seqItems hoT hdT ?_)
    have e1 : (ps.map fun p => rawInt ((p : Nat) : Int)).toArray[Int.toNat (es.size : Int)]? = none := by simp [hlen]
    simp only [e1]
    refine wpAny_bind (wpAny_setField ho hd (by simp) ?_)
    have ho1 := Heap.get?_update_self (Obj.mapFields (·.setIfInBounds 0 (rawInt 0))) ho (Obj.isFreed_of_fields (Obj.data_mapFields hd _))
    have hd1 : (Obj.mapFields (·.setIfInBounds 0 (rawInt 0)) o).data = .fields #[rawInt 0, rawInt es.size, .ref S, rawInt es.size, rawInt ep] := by rw [Obj.data_mapFields hd]; simp
    refine wpAny_bind (wpAny_setField ho1 hd1 (by simp) ?_)
    show wpAny _ _ (newExc (.type "StopIteration") [] >>= _) _ _ _
    refine wpAny_bind ?_
    simp only [newExc, newTuple]
    refine wpAny_bind (wpAny_newObj_type ?_ (by size_fits))
    refine wpAny_bind (m := firstArgMember _ _) (wpAny_of_eq (a := Value.none) (by first | rfl | (simp only [firstArgMember]; rfl)) ?_)
    refine wpAny_newObj_type ?_ (by size_fits)
    simp only [raiseNew]
    refine wpAny_bind (wpAny_handled ?_)
    first | rw [show A.in1.handled = none from hh] | rw [hh]
    refine wpAny_bind (wpAny_pure (wpAny_throw ?_))
    refine wpAny_bind (wpAny_isInstance (T := "StopIteration") (b := true) ⟨_, Heap.get?_push_size _ rfl, rfl⟩ isSubtype_stop ?_)
    exact wpAny_pure (hQ _ ((((Heap.SameBut.update s.heap I _).trans (Heap.SameBut.update _ I _)).extBut.push _).push _))

/-- the walk -/
theorem walks_set {I S : Addr} {es : Array (Int × Value)} {ep : Nat} {t : SetTable} {pl : Option (Addr × List Nat)} (hh : A.handled = none) (hIS : I ≠ S) (hIT : ∀ p, pl = some p → I ≠ p.1) :
    Walks prog w A I (I :: S :: (pl.map (·.1)).toList) [I] es.size (fun i v => ∃ e, (seqOf w S ep es pl)[i]? = some e ∧ v = e.2) (fun i h => Wk w h I S es ep t pl i) where
  sub := fun b hb => by simp at hb; simp [hb]
  frame := fun i h h' x k => by
    refine ⟨x.st.keep fun o e => k S (by simp) o e, x.le, ?_⟩
    cases pl with
    | none =>
      obtain ⟨slot, hit, hc⟩ := x.it
      exact ⟨slot, hit.at fun o e => k I (by simp) o e, hc⟩
    | some p =>
      obtain ⟨T, ps⟩ := p
      obtain ⟨hit, hT, hp⟩ := x.it
      exact ⟨hit.at fun o e => k I (by simp) o e, hT.at fun o e => k T (by simp) o e, hp⟩
  item := fun i s Q E hi x hQ => wk_item hIS hIT x hi fun e h' he x' sb => by
    have := hQ e.2 h' s.toks ⟨e, he, rfl⟩ x' fun b o hb eo => (sb.2 b (fun z => hb (by simp [z]))).trans eo
    exact this
  done := fun s Q E x hQ => wk_done hh x fun h' eb => hQ h' s.toks fun b o hb eo => eb b o (fun z => hb (by simp [z])) eo
  self := fun i s Q E x hQ => by
    cases pl with
    | none => obtain ⟨slot, hit, hc⟩ := x.it; exact iter_self hit hQ
    | some p => obtain ⟨T, ps⟩ := p; obtain ⟨hit, hT, hp⟩ := x.it; exact iter_self hit hQ

/-- iter(a set): where an order is drawn, its tuple stands below the iterator -/
theorem iter_set {S : Addr} {es : Array (Int × Value)} {ep : Nat} {t : SetTable} {Q : Value → Shared → Prop} (x : SetAt (!(w.params.followText "set-order")) s.heap S es ep t) (hz : es.size ≤ sizeLine)
    (hQ : ∀ I pl h' d, s.heap.objs.size ≤ I → (∀ p, pl = some p → I ≠ p.1 ∧ s.heap.objs.size ≤ p.1) → I < h'.objs.size → (∀ p, pl = some p → p.1 < h'.objs.size) → Wk w h' I S es ep t pl 0 → (∀ b o, s.heap.get? b = some o → h'.get? b = some o) → Q (.ref I) { s with heap := h', drawn := d }) :
    wpAny (model prog w) A (pyIter (.ref S)) Q E s := by
  obtain ⟨oS, hoS, hex, hdS⟩ := x.ex
  have hSlt : S < s.heap.objs.size := Heap.lt_size hoS
  refine wpAny_pyIter_slot x.typeIs F.slot_set_iter (wpAny_call_entry F.slot_set_iter x.typeIs entry_set_iter ?_ (F.args_set_iter_1 _))
  unfold Builtin.«frozenset.__iter__» Builtin.Frozenset.slot0
  refine wpAny_bind (m := do Builtin.Frozenset.addrOf (← slotArgs "__iter__" 0 ⟨[.ref S], []⟩).1) (wpAny_of_eq (a := S) rfl ?_)
  unfold Builtin.Frozenset.sizeOf
  refine wpAny_bind (wpAny_bind (wpAny_setEntries_of hoS hdS x.fits (wpAny_pure ?_)))
  unfold setDrawn
  refine wpAny_bind ?_
  refine wpAny_bind (x.state ?_)
  dsimp only
  unfold setsByText
  refine wpAny_bind (wpAny_bind (wpAny_askSetting (wpAny_pure ?_)))
  refine wpAny_pure ?_
  show wpAny _ _ (if (!(w.params.followText "set-order") && (!t.plain && decide (es.size > 1))) = true then _ else _) _ _ _
  by_cases hdr : (!(w.params.followText "set-order") && (!t.plain && decide (es.size > 1))) = true
  · rw [if_pos hdr]
    refine wpAny_bind (drawOrder_ok _ _ _ (by simp) fun ps d hp => ?_)
    have hl : (ps.map fun (i : Nat) => rawInt i).length ≤ sizeLine := by rw [List.length_map, hp.length_eq, List.length_range]; exact hz
    refine wpAny_bind ?_
    unfold newTuple
    refine wpAny_newObj_type ?_ (by show (ps.map fun (i : Nat) => rawInt i).toArray.size ≤ sizeLine; rw [List.size_toArray]; exact hl)
    refine wpAny_bind ?_
    unfold setEpoch
    have x1 : SetAt (!(w.params.followText "set-order")) (s.heap.push { cls := .type "tuple", dict := none, data := .seq (ps.map fun (i : Nat) => rawInt i).toArray }) S es ep t := x.keep fun o e => Heap.get?_push_of_some _ e
    refine wpAny_bind (SetAt.state (s := { s with heap := s.heap.push { cls := .type "tuple", dict := none, data := .seq (ps.map fun (i : Nat) => rawInt i).toArray }, drawn := d }) x1 (wpAny_pure ?_))
    refine wpAny_bind (wpAny_newObj_type ?_ (by size_fits))
    refine wpAny_pure ⟨_, rfl, "set_iterator", _, ⟨_, Heap.get?_push_size _ rfl, rfl⟩, slot_sit_next.lookup, ?_⟩
    refine hQ _ (some (s.heap.objs.size, ps)) _ d ?_ (fun p e => ?_) ?_ (fun p e => ?_) ⟨?_, Nat.zero_le _, ?_, ?_, hp⟩ fun b o e => Heap.get?_push_of_some _ (Heap.get?_push_of_some _ e)
    · show s.heap.objs.size ≤ (s.heap.push _).objs.size
      rw [Heap.size_push]; omega
    · cases e
      refine ⟨?_, Nat.le_refl _⟩
      show (s.heap.push _).objs.size ≠ s.heap.objs.size
      rw [Heap.size_push]; omega
    · show (s.heap.push _).objs.size < ((s.heap.push _).push _).objs.size
      simp only [Heap.size_push]; omega
    · cases e
      show s.heap.objs.size < ((s.heap.push _).push _).objs.size
      simp only [Heap.size_push]; omega
    · exact x1.keep fun o e => Heap.get?_push_of_some _ e
    · exact ⟨_, Heap.get?_push_size _ rfl, rfl, rfl⟩
    · exact ⟨_, Heap.get?_push_of_some _ (Heap.get?_push_size _ rfl), rfl, _, rfl⟩
  · rw [if_neg hdr]
    refine wpAny_bind (wpAny_pure ?_)
    refine wpAny_bind ?_
    unfold setEpoch
    refine wpAny_bind (x.state (wpAny_pure ?_))
    refine wpAny_bind (wpAny_newObj_type ?_ (by size_fits))
    refine wpAny_pure ⟨_, rfl, "set_iterator", _, ⟨_, Heap.get?_push_size _ rfl, rfl⟩, slot_sit_next.lookup, ?_⟩
    refine hQ _ none _ s.drawn (Nat.le_refl _) (fun p e => by cases e) ?_ (fun p e => by cases e) ⟨x.keep fun o e => Heap.get?_push_of_some _ e, Nat.zero_le _, 0, ⟨_, Heap.get?_push_size _ rfl, rfl, rfl⟩, ?_⟩ fun b o e => Heap.get?_push_of_some _ e
    · rw [Heap.size_push]; omega
    · cases hb : w.params.followText "set-order" with
      | true => exact .inl rfl
      | false =>
        rw [hb] at hdr
        exact .inr ⟨by simpa using hdr, below_zero _ x.tb.rise⟩
end
end SI
end PySem
end

section
set_option maxRecDepth 100000
namespace PySem
namespace SI
section
variable {prog : Program} {w : World} {A : Around} {E : Value → Shared → Prop} {s : Shared}

theorem collect_set {S : Addr} {es : Array (Int × Value)} {ep : Nat} {t : SetTable} {Q : List Value → Shared → Prop} (hh : A.handled = none) (x : SetAt (!(w.params.followText "set-order")) s.heap S es ep t) (hz : es.size ≤ sizeLine)
    (hQ : ∀ (sq : List (Int × Value)) h' d tk, sq.Perm es.toList → (∀ b o, s.heap.get? b = some o → h'.get? b = some o) → s.heap.objs.size < h'.objs.size → Q (sq.map (·.2)) { s with heap := h', drawn := d, toks := tk }) :
    wpAny (model prog w) A (collect (.ref S)) Q E s := by
  have hSlt : S < s.heap.objs.size := by obtain ⟨o, ho, _⟩ := x.ex; exact Heap.lt_size ho
  unfold collect
  refine wpAny_bind (wpAny_runValue (codeAny_builtin F.entry_proto_collect ?_))
  rw [Around.under_plainId F.plain_proto_collect _]
  show wpAny _ A.in1 (newList [] >>= fun l => again (.builtin "list.__iadd__" ⟨[l, .ref S], []⟩)) _ _ s
  refine wpAny_bind (wpAny_newObj_type ?_)
  refine wpAny_pure ⟨plainId_quiet F.plain_list_iadd _, codeAny_builtin F.entry_list_iadd ?_⟩
  rw [Around.under_plainId F.plain_list_iadd _]
  have x1 : SetAt (!(w.params.followText "set-order")) (s.heap.push { cls := .type "list", data := .seq ([] : List Value).toArray }) S es ep t := x.keep fun o e => Heap.get?_push_of_some _ e
  have hS₁ : (s.heap.push { cls := .type "list", data := .seq ([] : List Value).toArray }).get? s.heap.objs.size = some { cls := .type "list", data := .seq ([] : List Value).toArray } := Heap.get?_push_size _ rfl
  have h1 : Builtin.List.listSameRef (.ref s.heap.objs.size) (.ref S) = false := by simp only [Builtin.List.listSameRef]; exact beq_eq_false_iff_ne.mpr (Nat.ne_of_gt hSlt)
  show wpAny _ A.in1 (Builtin.List.listExtendWith (.ref s.heap.objs.size) (.ref S) (.ref s.heap.objs.size)) _ _ { s with heap := s.heap.push { cls := .type "list", data := .seq ([] : List Value).toArray } }
  unfold Builtin.List.listExtendWith
  refine wpAny_bind (wpAny_typeOf (SetAt.typeIs (s := { s with heap := s.heap.push { cls := .type "list", data := .seq ([] : List Value).toArray } }) x1) ?_)
  rw [if_neg (by rw [h1]; decide)]
  refine wpAny_bind (iter_set (s := { s with heap := s.heap.push { cls := .type "list", data := .seq ([] : List Value).toArray } }) x1 hz fun I pl h₂ d hI hpl hI2 hpl2 wk kp => ?_)
  have hI' : s.heap.objs.size + 1 ≤ I := by
    have : (s.heap.push { cls := .type "list", data := .seq ([] : List Value).toArray }).objs.size ≤ I := hI
    rw [Heap.size_push] at this; exact this
  have hpl' : ∀ p, pl = some p → s.heap.objs.size + 1 ≤ p.1 := fun p e => by
    have : (s.heap.push { cls := .type "list", data := .seq ([] : List Value).toArray }).objs.size ≤ p.1 := (hpl p e).2
    rw [Heap.size_push] at this; exact this
  refine wpAny_bind (wpAny_holding ?_)
  have hT : Shared.TypeIs { s with heap := h₂, drawn := d } (.ref S) "set" := SetAt.typeIs (s := { s with heap := h₂, drawn := d }) wk.st
  unfold Builtin.List.listLengthHint
  refine wpAny_bind (wpAny_specialOf hT F.slot_set_len.lookup ?_)
  (generalize hid : ("set.__len__" : String) = id0; (fail_if_success (clear hid id0)); wp_delta; rw [show splitId id0 = some ("set", "__len__") from by subst hid; decide +kernel]; subst hid)
  refine wpAny_bind (wpAny_isInstance (b := true) hT (by rw [isSubtype_type]; kernel_rfl) ?_)
  rw [if_neg (by simp)]
  show wpAny _ A.in1 (if _ = true then (typeOf (Value.ref S) >>= _) else _) _ _ _
  rw [if_pos (by decide +kernel)]
  refine wpAny_bind (wpAny_typeOf hT ?_)
  refine wpAny_pure ?_
  show wpAny _ A.in1 (if _ = true then (rule "list.extend.makes-room" >>= fun _ => Builtin.List.listTouch (.ref s.heap.objs.size) >>= fun _ =>
    again (.builtin "list.extend.loop" ⟨[.ref s.heap.objs.size, .ref I, .ref s.heap.objs.size], []⟩)) else _) _ _ _
  rw [if_pos (by decide +kernel)]
  refine wpAny_bind (wpAny_rule ?_)
  have hS₀ : h₂.get? s.heap.objs.size = some { cls := .type "list", data := .seq ([] : List Value).toArray } := kp _ _ hS₁
  refine wpAny_bind ?_
  show wpAny _ A.in1 (updateSeq s.heap.objs.size (·.push .none) >>= fun _ => updateSeq s.heap.objs.size (·.pop)) _ _ { s with heap := h₂, drawn := d }
  refine wpAny_bind (wpAny_updateSeq hS₀ rfl ?_)
  have hS₂ := Heap.get?_update_self (Obj.mapSeq (·.push Value.none)) hS₀ rfl
  refine wpAny_updateSeq hS₂ rfl ?_
  have hS₃ := Heap.get?_update_self (Obj.mapSeq (·.pop)) hS₂ rfl
  have oth : ∀ b o, b ≠ s.heap.objs.size → h₂.get? b = some o → ((h₂.update s.heap.objs.size (Obj.mapSeq (·.push Value.none))).update s.heap.objs.size (Obj.mapSeq (·.pop))).get? b = some o :=
    fun b o hb e => (Heap.get?_update_other _ _ (Ne.symm hb)).trans ((Heap.get?_update_other _ _ (Ne.symm hb)).trans e)
  have hSf : s.heap.objs.size ∉ I :: S :: (pl.map (·.1)).toList := by
    intro hm
    rcases List.mem_cons.mp hm with e | hm
    · rw [← e] at hI'; exact Nat.not_succ_le_self _ hI'
    · rcases List.mem_cons.mp hm with e | hm
      · exact Nat.ne_of_gt hSlt e
      · cases pl with
        | none => simp at hm
        | some p =>
          have e : s.heap.objs.size = p.1 := by simpa using hm
          have := hpl' p rfl
          rw [← e] at this
          exact Nat.not_succ_le_self _ this
  have hIS : I ≠ S := fun e => by
    rw [e] at hI'
    exact Nat.not_succ_le_self _ (Nat.le_trans hI' (Nat.le_of_lt hSlt))
  have W := (walks_set (prog := prog) (w := w) (A := A.in1) (I := I) (S := S) (es := es) (ep := ep) (t := t) (pl := pl) hh hIS fun p e => (hpl p e).1).toS
  refine wpAny_pure ⟨plainId_quiet F.plain_extend_loop _, codeAny_extend_loopS W hz _ hSf _ es.size 0 _ _ _ rfl (Nat.zero_le _)
    (W.frame 0 ({ s with heap := h₂, drawn := d } : Shared) _ s.toks wk (Nat.le_refl _) fun b hb o e => oth b o (fun h => hSf (h ▸ hb)) e) hS₃ (ItemsOf.nil _) fun s' acc' c' hm hS' hacc => ?_⟩
  show wpAny _ A (load s.heap.objs.size >>= _) _ _ s'
  refine wpAny_bind (wpAny_load hS' ?_)
  refine wpAny_pure ?_
  have hsq := seqOf_perm wk
  have ea : acc'.toList = (seqOf w S ep es pl).map (·.2) := by
    refine List.ext_getElem? fun i => ?_
    rw [Array.getElem?_toList, List.getElem?_map]
    cases e : acc'[i]? with
    | some v =>
      obtain ⟨y, hy, rfl⟩ := hacc.2 i v e
      rw [hy]; rfl
    | none =>
      have h1 := Array.getElem?_eq_none_iff.mp e
      rw [hacc.1] at h1
      have h2 : (seqOf w S ep es pl)[i]? = none := by
        rw [List.getElem?_eq_none_iff, hsq.length_eq]
        simpa using h1
      rw [h2]; rfl
  obtain ⟨h', g', d', tk', os'⟩ := s'
  have eg : g' = s.gens := hm.gens
  have ed : d' = d := hm.drawn
  have eo : os' = s.os := hm.os
  subst eg; subst ed; subst eo
  show Q acc'.toList _
  rw [ea]
  refine hQ _ h' d' tk' hsq (fun b o e => ?_) (Heap.lt_size hS')
  have hb : b < s.heap.objs.size := Heap.lt_size e
  refine hm.heap b o ?_ (oth b o (Nat.ne_of_lt hb) (kp b o (Heap.get?_push_of_some _ e)))
  intro hm
  rcases List.mem_cons.mp hm with z | hm
  · exact Nat.ne_of_lt hb z
  · have z : b = I := by simpa using hm
    rw [z] at hb
    exact Nat.not_succ_le_self _ (Nat.le_trans hI' (Nat.le_of_lt hb))
end
end SI
end PySem
end

section
set_option maxRecDepth 100000
namespace PySem
namespace SI
open PyProof.Rows
theorem intsAre_perm {vs vs' : List Value} (hp : vs'.Perm vs) : ∀ {ns : List Int}, IntsAre vs ns → ∃ ns', IntsAre vs' ns' ∧ ns'.Perm ns := by
  induction hp with
  | nil => intro ns h; exact ⟨ns, h, .rfl⟩
  | cons x _ ih =>
    intro ns h
    cases h with
    | cons n t h =>
      obtain ⟨ns', a, b⟩ := ih h
      exact ⟨n :: ns', .cons n t a, b.cons _⟩
  | swap x y l =>
    intro ns h
    cases h with
    | cons n t h =>
      cases h with
      | cons m u h => exact ⟨_, .cons _ _ (.cons _ _ h), .swap _ _ _⟩
  | trans _ _ ih1 ih2 =>
    intro ns h
    obtain ⟨n1, a1, b1⟩ := ih2 h
    obtain ⟨n2, a2, b2⟩ := ih1 a1
    exact ⟨n2, a2, b2.trans b1⟩
theorem intsAre_append : ∀ {vs us : List Value} {ns ms : List Int}, IntsAre vs ns → IntsAre us ms → IntsAre (vs ++ us) (ns ++ ms)
  | _, _, _, _, .nil, h => h
  | _, _, _, _, .cons n t g, h => .cons n t (intsAre_append g h)

section
variable {prog : Program} {w : World} {A : Around} {E : Value → Shared → Prop} {s : Shared}
theorem sorted_set {S : Addr} {es : Array (Int × Value)} {ep : Nat} {t : SetTable} {ns : List Int} {Q : Value → Shared → Prop} (hh : A.handled = none) (x : SetAt (!(w.params.followText "set-order")) s.heap S es ep t)
    (hI : IntsAre (es.toList.map (·.2)) ns) (h64 : es.size < 64)
    (h : ∀ (h' : Heap) (d : Drawn) (tk : Nat) (l : Addr) (vs' : List Value) (ns' : List Int) (e : Nat), IntsAre vs' ns' → ns'.Perm ns → ns'.Pairwise (· ≤ ·) → s.heap.objs.size ≤ l →
      h'.get? l = some (seqObj "list" vs'.toArray e) → (∀ b o, s.heap.get? b = some o → h'.get? b = some o) → Q (.ref l) { s with heap := h', drawn := d, toks := tk }) :
    wpAny (model prog w) A (call (.builtin "sorted") [.ref S]) Q E s := by
  refine Calls.call_function_entry kind_sorted plain_sorted entry_sorted (args_sorted1 _) ?_
  unfold Builtin.«sorted»
  refine wpAny_bind (m := checkCount "sorted" 1 1 _) (wpAny_pure ?_)
  have hz : es.size ≤ sizeLine := by rw [sizeLine_eq]; omega
  refine wpAny_bind (collect_set (by first | exact hh | simpa using hh) x hz fun sq h₁ d tk hp k₁ z₁ => ?_)
  obtain ⟨ns1, hI1, hp1⟩ := intsAre_perm (hp.map (·.2)) hI
  have hl1 : (sq.map (·.2)).length < 64 := by
    rw [List.length_map, hp.length_eq, Array.length_toList]; exact h64
  refine wpAny_bind (wpAny_newList ?_ (by rw [sizeLine_eq]; omega))
  have hoL : (h₁.push (seqObj "list" (sq.map (·.2)).toArray 0)).get? h₁.objs.size = some (seqObj "list" (sq.map (·.2)).toArray 0) := Heap.get?_push_size _ rfl
  show wpAny _ _ _ _ _ { s with heap := h₁.push (seqObj "list" (sq.map (·.2)).toArray 0), drawn := d, toks := tk }
  refine wpAny_bind (wpAny_holding (wpAny_call_entry slot_list_sort ⟨_, hoL, rfl⟩ entry_list_sort (list_sort_tree hoL hI1 hl1 fun out ns' a1 a2 a3 => ⟨_, rfl, ?_⟩) (args_list_sort _)))
  obtain ⟨e, he⟩ := sortedHeap_at (out := out) hoL
  have hle : s.heap.objs.size ≤ h₁.objs.size := Nat.le_of_lt z₁
  refine wpAny_pure ⟨_, rfl, h _ d tk h₁.objs.size out.toList ns' e a1 (a2.trans hp1) a3 hle he fun b o eb => ?_⟩
  have eb1 := k₁ b o eb
  have hb : b < h₁.objs.size := Heap.lt_size eb1
  rw [sortedHeap_old (Nat.ne_of_lt hb) (by rw [size_push']; exact Nat.lt_succ_of_lt hb)]
  exact Heap.get?_push_of_some _ eb1

theorem isInt_of {k n : Int} {t : Tok} (h : Value.isInt k (.int n t) = true) : n = k := by
  obtain ⟨u, e⟩ := Value.isInt_shape h
  injection e
/-- the entries' keys -/
structure Keys (es : Array (Int × Value)) (ks : List Int) : Prop where
  isI : IntsAre (es.toList.map (·.2)) ks
  nodup : ks.Nodup
theorem Keys.has {es : Array (Int × Value)} {ks : List Int} (x : Keys es ks) (k : Int) : (∃ e ∈ es.toList, Value.isInt k e.2 = true) ↔ k ∈ ks := by
  have key : ∀ (l : List (Int × Value)) (ks : List Int), IntsAre (l.map (·.2)) ks → ((∃ e ∈ l, Value.isInt k e.2 = true) ↔ k ∈ ks) := by
    intro l
    induction l with
    | nil =>
      intro ks h
      cases h
      simp
    | cons a r ih =>
      intro ks h
      rw [List.map_cons] at h
      obtain ⟨a1, a2⟩ := a
      dsimp only at h
      cases h with
      | cons n t h =>
        rw [List.mem_cons, ← ih _ h]
        constructor
        · rintro ⟨e, he, hk⟩
          rcases List.mem_cons.mp he with rfl | he
          · exact .inl (isInt_of hk).symm
          · exact .inr ⟨e, he, hk⟩
        · rintro (rfl | ⟨e, he, hk⟩)
          · exact ⟨_, List.mem_cons_self, by simp [Value.isInt]⟩
          · exact ⟨e, List.mem_cons_of_mem _ he, hk⟩
  exact key _ _ x.isI
/-- what stands in the set behind the first i -/
def Upto (ns : List Int) (i : Nat) (es : Array (Int × Value)) : Prop := ∃ ks, Keys es ks ∧ (∀ x, x ∈ ks ↔ x ∈ ns.take i) ∧ ks.length ≤ i
theorem Upto.size {ns : List Int} {i : Nat} {es : Array (Int × Value)} (x : Upto ns i es) : es.size ≤ i := by
  obtain ⟨ks, k, _, l⟩ := x
  have := k.isI.length
  simp at this
  omega

theorem set_loop {I : Addr} {fp wr : List Addr} {G : Array GenState → Array GenState → Prop} {P : Nat → Value → Prop} {St : Nat → Shared → Prop} {R : Result → Shared → Prop} {b : Bool} (ns : List Int)
    (W : WalksS prog w A.in1 I fp wr G ns.length P St) (S : Addr) (hSf : S ∉ fp)
    (hval : ∀ i v, P i v → ∃ t n, ns[i]? = some n ∧ v = .int n t) (hb : ns.length + 1 < scanBound) :
    ∀ (k i : Nat) (s : Shared) (es : Array (Int × Value)), ns.length - i = k → i ≤ ns.length → St i s →
      Heap.Set2 (intKind prog w) b s.heap S es → Upto ns i es →
      (∀ s' es', Moved (S :: wr) G s s' → Heap.Set2 (intKind prog w) b s'.heap S es' → Upto ns ns.length es' → R (.ok (.ret .none)) s') →
      codeAny (model prog w) A (.builtin "set.update.loop" ⟨[.ref S, .ref I], []⟩) R s := by
  have hSw : S ∉ wr := fun h => hSf (W.sub _ h)
  have hsub : ∀ b ∈ wr, b ∈ S :: wr := fun b hb => List.mem_cons_of_mem _ hb
  intro k
  induction k with
  | zero =>
    intro i s es hk hi hst hS hU hR
    have hin : i = ns.length := by omega
    subst hin
    refine codeAny_builtin PyProof.Rows.F.entry_set_update_loop ?_
    rw [Around.under_plainId PyProof.Rows.F.plain_set_update_loop _]
    show wpAny _ A.in1 (pyNext (.ref I) >>= _) _ _ s
    refine wpAny_bind (W.done s _ _ hst fun s' hm => ?_)
    show wpAny _ A.in1 (ret Value.none) _ _ s'
    exact wpAny_pure (hR s' es (hm.mono hsub) (by
      obtain ⟨o, ep, t, ho, rest⟩ := hS
      exact ⟨o, ep, t, hm.heap S _ hSw ho, rest⟩) hU)
  | succ k ih =>
    intro i s es hk hi hst hS hU hR
    have hlt : i < ns.length := by omega
    refine codeAny_builtin PyProof.Rows.F.entry_set_update_loop ?_
    rw [Around.under_plainId PyProof.Rows.F.plain_set_update_loop _]
    show wpAny _ A.in1 (pyNext (.ref I) >>= _) _ _ s
    refine wpAny_bind (W.item i s _ _ hlt hst fun v s' hP hst' hm => ?_)
    obtain ⟨t, n, hn, rfl⟩ := hval i v hP
    have hS' : Heap.Set2 (intKind prog w) b s'.heap S es := by
      obtain ⟨o, ep, tb, ho, rest⟩ := hS
      exact ⟨o, ep, tb, hm.heap S _ hSw ho, rest⟩
    show wpAny _ A.in1 (holding [Value.int n t] (setAdd S (.int n t)) >>= _) _ _ s'
    refine wpAny_bind (wpAny_holding ?_)
    unfold setAdd
    refine wpAny_holding ?_
    refine wpAny_bind ((intKind prog w).pyHash (k := n) (intKind_is _ _ _ _) ?_)
    have hroom : es.size + 1 < scanBound := by have := hU.size; omega
    refine addHashed2 (knd := intKind prog w) (b := b) (s := { s' with toks := s'.toks + 1 }) (intKind_is _ _ _ _) rfl hS' hroom fun c h' es' hsb hS2 hc => ?_
    have hU' : Upto ns (i + 1) es' := by
      obtain ⟨ks, hks, hm', hl⟩ := hU
      have et : ns.take (i + 1) = ns.take i ++ [n] := by
        rw [List.take_succ, hn]; rfl
      rcases hc with ⟨hthere, rfl⟩ | ⟨hno, hp⟩
      · have hin : n ∈ ks := (hks.has n).mp hthere
        refine ⟨ks, hks, fun x => ?_, by omega⟩
        rw [et, List.mem_append, ← hm' x]
        exact ⟨.inl, fun h => h.elim id fun h => by rw [List.mem_singleton] at h; rw [h]; exact hin⟩
      · have hnin : n ∉ ks := fun h => hno ((hks.has n).mpr h)
        have h1 : IntsAre ((es.toList ++ [((intKind prog w).hash n, Value.int n t)]).map (·.2)) (ks ++ [n]) := by
          rw [List.map_append]
          exact intsAre_append hks.isI (.cons n t .nil)
        obtain ⟨ks', hi', hp'⟩ := intsAre_perm (hp.map (·.2)) h1
        refine ⟨ks', ⟨hi', hp'.nodup_iff.mpr ?_⟩, fun x => ?_, ?_⟩
        · rw [List.nodup_append]
          exact ⟨hks.nodup, by simp, fun a ha b hb => by rw [List.mem_singleton] at hb; rintro rfl; rw [hb] at ha; exact hnin ha⟩
        · rw [hp'.mem_iff, et, List.mem_append, List.mem_append, hm' x]
        · rw [hp'.length_eq, List.length_append]; simp; omega
    refine wpAny_pure ⟨plainId_quiet PyProof.Rows.F.plain_set_update_loop _, ih (i + 1) _ es' (by omega) hlt (W.frame _ s' _ _ hst' (Nat.le_succ _) fun b hb o e => ?_) hS2 hU' fun s'' es'' hm'' hS'' hU'' => ?_⟩
    · rw [hsb.2 b (fun h : b = S => hSf (by rw [← h]; exact hb))]; exact e
    · refine hR s'' es'' (Moved.trans W.gtrans ((hm.mono hsub).then_heap (Nat.le_succ _) fun b o hb e => ?_) hm'') hS'' hU''
      rw [hsb.2 b (fun h : b = S => hb (by rw [h]; exact List.mem_cons_self))]; exact e

theorem code_set_new (a : Value) {Q₁ : Value → Shared → Prop}
    (h : Q₁ (.ref s.heap.objs.size) { s with heap := s.heap.push { cls := .type "set", dict := none, data := .set #[] 0 (.fresh 0 0 (!(w.params.followText "set-order"))) } }) :
    codeAny (model prog w) A (.call (.builtin "set.__new__") ⟨[.type "set", a], []⟩) (wants Q₁ E) s := by
  refine codeAny_of_tree ?_
  show wpAny _ A.in1 (do checkBuiltinCall "set.__new__" ⟨[.type "set", a], []⟩; again (.builtin "set.__new__" ⟨[.type "set", a], []⟩)) _ _ s
  refine wpAny_bind (wpAny_of_eq (PySem.F.newCall_set_1 a) (wpAny_pure ⟨plainId_quiet PySem.F.plain_set_new _, codeAny_builtin PySem.F.entry_set_new ?_⟩))
  rw [Around.under_plainId PySem.F.plain_set_new _]
  unfold Builtin.«set.__new__» Builtin.Frozenset.newClass
  have hsub := sub_set_self
  obtain ⟨hp, g, d, tk, os⟩ := s
  dsimp only
  wp_walk
  refine wpAny_askSetting (wpAny_pure ?_)
  dsimp only
  simp only [newObj]
  refine wpAny_bind (wpAny_alloc (wpAny_pure ?_))
  exact wpAny_pure h

set_option maxHeartbeats 3200000 in
theorem set_list {l : Addr} {items : Array Value} {ns : List Int} {Q : Value → Shared → Prop}
    (hh : A.handled = none) (hl : s.heap.IsList l items) (hi : IntsAre items.toList ns) (hb : ns.length + 1 < scanBound)
    (h : ∀ (h' : Heap) (tk : Nat) (es : Array (Int × Value)), Heap.Set2 (intKind prog w) (!(w.params.followText "set-order")) h' s.heap.objs.size es → Upto ns ns.length es →
      (∀ b o, s.heap.get? b = some o → h'.get? b = some o) → Q (.ref s.heap.objs.size) { s with heap := h', toks := tk }) :
    wpAny (model prog w) A (call (.type "set") [.ref l]) Q E s := by
  obtain ⟨c, tl, hmro⟩ := PySem.F.called_set.mro
  have hmade := PySem.F.called_set.made
  have hsub := PySem.F.called_set.sub
  have hlen : items.size = ns.length := by have := hi.length; simpa using this
  refine wpAny_call (codeAny_of_tree ?_)
  show wpAny _ _ (callAny (.type "set") _) _ _ _
  refine wpAny_pure ⟨Code.quiet_builtin _ (by decide +kernel), codeAny_builtin PySem.F.entry_type_call ?_⟩
  rw [Around.under_plain (weight_type_call_type "set" [.ref l] []) rfl]
  have h1 := PySem.F.called_set.notType
  have h2 := PySem.F.called_set.canCreate
  have hct := PySem.F.typeCall_set_1 (.ref l)
  repeat (any_goals (first | assumption | wp_step))
  refine codeAny_mono (code_set_new (.ref l) (E := E) (Q₁ := fun obj s₁ => obj = .ref s.heap.objs.size ∧ s₁ = { s with heap := s.heap.push { cls := .type "set", dict := none, data := .set #[] 0 (.fresh 0 0 (!(w.params.followText "set-order"))) } }) ⟨rfl, rfl⟩) fun r s₁ hr => ?_
  cases r with
  | error e => exact hr
  | ok fl =>
    cases fl with
    | ret obj =>
      obtain ⟨rfl, rfl⟩ := hr
      generalize hled : (!(w.params.followText "set-order")) = led at h ⊢
      have hS : (s.heap.push { cls := .type "set", dict := none, data := .set #[] 0 (.fresh 0 0 led) }).get? s.heap.objs.size = some { cls := .type "set", dict := none, data := .set #[] 0 (.fresh 0 0 led) } := Heap.get?_push_size _ rfl
      have hT : Shared.TypeIs { s with heap := s.heap.push { cls := .type "set", dict := none, data := .set #[] 0 (.fresh 0 0 led) } } (.ref s.heap.objs.size) "set" := ⟨_, hS, rfl⟩
      have hli := PySem.F.called_set.init.lookup
      have hbi := PySem.F.called_set.init.bind (.ref s.heap.objs.size)
      repeat (any_goals (first | assumption | wp_step))
      refine codeAny_mono (codeAny_call_builtin (R := wants (fun r s₂ => r = .none ∧ ∃ h' tk es, s₂ = { s with heap := h', toks := tk } ∧
          Heap.Set2 (intKind prog w) led h' s.heap.objs.size es ∧ Upto ns ns.length es ∧
          (∀ b o, b < s.heap.objs.size → s.heap.get? b = some o → h'.get? b = some o)) E) PySem.F.called_set.init.plain PySem.F.entry_set_init (check_set_init_1 hT ?_)) fun r₂ s₂ hr₂ => ?_
      · obtain ⟨ol, hol, hcl, nl, hdl⟩ := hl
        obtain ⟨ocls, odict, odata, oslots⟩ := ol
        simp only at hcl hdl
        subst hcl; subst hdl
        have hol' : (s.heap.push { cls := .type "set", dict := none, data := .set #[] 0 (.fresh 0 0 led) }).get? l = some { cls := .type "list", dict := odict, data := .seq items nl, slots := oslots } := Heap.get?_push_of_some _ hol
        have hsls := PySem.F.sub_list_set
        have hslf := PySem.F.sub_list_frozenset
        have hne : (Value.type "list" == Value.type "dict") = false := by decide
        have hl1 : (s.heap.push { cls := .type "set", dict := none, data := .set #[] 0 (.fresh 0 0 led) }).IsList l items := ⟨_, hol', rfl, nl, rfl⟩
        unfold Builtin.«set.__init__» noKeywords Builtin.Frozenset.updateFrom
        generalize hPI : pyIter = PI
        wp_walk
        subst hPI
        refine wpAny_pyIter_list hl1 ?_
        refine wpAny_bind (wpAny_runValue ?_)
        have hlS : l < s.heap.objs.size := Heap.lt_size hol
        have hh3 : A.in1.in1.in1.handled = none := by simp [hh]
        have hneI : l ≠ (s.heap.push { cls := .type "set", dict := none, data := .set #[] 0 (.fresh 0 0 led) }).objs.size := by
          rw [Heap.size_push]; exact Nat.ne_of_lt (Nat.lt_succ_of_lt hlS)
        have hSf : s.heap.objs.size ∉ [(s.heap.push { cls := .type "set", dict := none, data := .set #[] 0 (.fresh 0 0 led) }).objs.size, l] := by
          rw [Heap.size_push]; simp only [List.mem_cons, List.not_mem_nil, or_false, not_or]
          exact ⟨Nat.ne_of_lt (Nat.lt_succ_self _), Nat.ne_of_gt hlS⟩
        have hval : ∀ (i : Nat) (v : Value), items[i]? = some v → ∃ t n, ns[i]? = some n ∧ v = .int n t := fun i v hv => by
          obtain ⟨t, e⟩ := PyProof.Rows.IntsAre.int_at hi i v (by rw [Array.getElem?_toList]; exact hv)
          have hlt : i < ns.length := by rw [← hlen]; exact (Array.getElem?_eq_some_iff.mp hv).1
          exact ⟨t, ns.getD i 0, by simp [List.getD, hlt], e⟩
        have W := (Walks.list (prog := prog) (w := w) hh3 (s.heap.push { cls := .type "set", dict := none, data := .set #[] 0 (.fresh 0 0 led) }).objs.size l hneI items).toS
        rw [hlen] at W
        refine set_loop (b := led) ns W s.heap.objs.size hSf hval hb (ns.length - 0) 0 _ #[] (by omega) (Nat.zero_le _)
          ⟨⟨_, Heap.get?_push_size _ rfl, rfl, rfl⟩, (hl1.push _)⟩ ?hS0 ⟨[], ⟨.nil, List.nodup_nil⟩, fun x => by simp, Nat.zero_le _⟩ ?hR
        case hS0 =>
          exact ⟨_, 0, _, Heap.get?_push_of_some _ hS, ⟨rfl, rfl, rfl⟩, rfl, fun e he => by simp at he, by decide, by rfl, rfl, List.Pairwise.nil⟩
        case hR =>
          intro s' es' hm hS' hU'
          obtain ⟨h', g', d', tk', os'⟩ := s'
          have eg : g' = s.gens := hm.gens
          have ed : d' = s.drawn := hm.drawn
          have eo : os' = s.os := hm.os
          subst eg; subst ed; subst eo
          show wpAny _ _ _ _ _ _
          refine wpAny_pure ?_
          show wpAny _ _ (ret Value.none) _ _ _
          refine wpAny_pure ⟨rfl, h', tk', es', rfl, hS', hU', fun b o hb e => ?_⟩
          have hb1 : b ≠ s.heap.objs.size := Nat.ne_of_lt hb
          have hb2 : b ≠ (s.heap.push { cls := .type "set", dict := none, data := .set #[] 0 (.fresh 0 0 led) }).objs.size := by
            rw [Heap.size_push]; exact Nat.ne_of_lt (Nat.lt_succ_of_lt hb)
          exact hm.heap b o (by simp only [List.mem_cons, List.not_mem_nil, or_false, not_or]; exact ⟨hb1, hb2⟩) (Heap.get?_push_of_some _ (Heap.get?_push_of_some _ e))
      · cases r₂ with
        | error e => exact hr₂
        | ok fl₂ =>
          cases fl₂ with
          | ret r =>
            obtain ⟨rfl, h', tk, es, rfl, hS', hU', hk'⟩ := hr₂
            repeat (any_goals (first | assumption | wp_step))
            exact h _ _ es hS' hU' fun b o e => hk' b o (Heap.lt_size e) e
          | _ => exact hr₂.elim
    | _ => exact hr.elim
end
end SI
end PySem
end

section
set_option Elab.async false
set_option linter.all false
set_option maxRecDepth 100000
namespace L2
open PySem PySem.Spec PyProof.Rows
section
variable {X : Cx}
theorem listOk {pins : List (Addr × Obj)} {σ : St} {H : Hp} {s : Shared} {p : Addr} {ns : List Int} (I : Inv X pins σ H s) (h : SqL X.K H p (ns.map V.int)) : ∃ its : List Value, s.heap.IsList p its.toArray ∧ IntsAre its ns ∧ its.length = ns.length ∧ ns.length ≤ sizeLine := by
  obtain ⟨its, r, pl, z⟩ := I.list h
  have q := intsAre_of r
  have l := r.length
  rw [List.length_map] at l z
  exact ⟨its, pl.isList, q, l.symm, z⟩
/-- sum(xs) of ints -/
theorem call_sumI (hc : X.calm = true) : CallR X (.builtin "sum") (fun xs H Q => ∃ (p : Addr) (ns : List Int), xs = [.ref p] ∧ SqL X.K H p (ns.map V.int) ∧ Q (.int ns.sum) H) := by
  intro pins s σ H xs us Q I r h
  obtain ⟨p, ns, rfl, hq, q⟩ := h
  obtain ⟨u, rfl, ru⟩ := vals1 r
  cases ru
  obtain ⟨its, hl, hi, _⟩ := listOk I hq
  obtain ⟨ys, e⟩ := hi.allInts.items
  have hns : ns = ys.toList.map (·.1) := by rw [← hi.numsOf, ← nums_intItems, ← e]
  rw [e] at hl
  refine sum_intListG (I.ok.hd hc) hl fun h' tk t' hk => ?_
  refine ⟨.int ns.sum, H, I.kept hk, ⟨t', ?_⟩, q⟩
  rw [preSum_eq, List.take_of_length_le (by simp), hns]
theorem call_minI (hc : X.calm = true) : CallR X (.builtin "min") (fun xs H Q => ∃ (p : Addr) (ns : List Int), xs = [.ref p] ∧ SqL X.K H p (ns.map V.int) ∧ 0 < ns.length ∧ ∀ M, M ∈ ns → (∀ a, a ∈ ns → M ≤ a) → Q (.int M) H) := by
  intro pins s σ H xs us Q I r h
  obtain ⟨p, ns, rfl, hq, hne, q⟩ := h
  obtain ⟨u, rfl, ru⟩ := vals1 r
  cases ru
  obtain ⟨its, hl, hi, _⟩ := listOk I hq
  obtain ⟨ys, e⟩ := hi.allInts.items
  have hns : ns = ys.toList.map (·.1) := by rw [← hi.numsOf, ← nums_intItems, ← e]
  have hsz : 0 < ys.size := by
    have h3 := hne; rw [hns, List.length_map, Array.length_toList] at h3; exact h3
  rw [e] at hl
  refine min_intList (I.ok.hd hc) hl hsz fun v h' tk hv hk => ?_
  obtain ⟨t, rfl⟩ := intItems_at hv
  obtain ⟨h1, h2⟩ := argBest_lt (numAt ys) (ys.size - 1)
  refine ⟨.int _, H, I.kept hk, ⟨t, rfl⟩, q _ ?_ fun a ha => ?_⟩
  · rw [hns, numAt_eq]; exact getD_mem (by rw [List.length_map, Array.length_toList]; omega)
  · rw [hns] at ha
    obtain ⟨j, hj, rfl⟩ := mem_getD ha
    rw [List.length_map, Array.length_toList] at hj
    rw [← numAt_eq]; exact h2 j (by omega)
theorem call_maxI (hc : X.calm = true) : CallR X (.builtin "max") (fun xs H Q => ∃ (p : Addr) (ns : List Int), xs = [.ref p] ∧ SqL X.K H p (ns.map V.int) ∧ 0 < ns.length ∧ ∀ M, M ∈ ns → (∀ a, a ∈ ns → a ≤ M) → Q (.int M) H) := by
  intro pins s σ H xs us Q I r h
  obtain ⟨p, ns, rfl, hq, hne, q⟩ := h
  obtain ⟨u, rfl, ru⟩ := vals1 r
  cases ru
  obtain ⟨its, hl, hi, _⟩ := listOk I hq
  obtain ⟨ys, e⟩ := hi.allInts.items
  have hns : ns = ys.toList.map (·.1) := by rw [← hi.numsOf, ← nums_intItems, ← e]
  have hsz : 0 < ys.size := by
    have h3 := hne; rw [hns, List.length_map, Array.length_toList] at h3; exact h3
  rw [e] at hl
  refine max_intList (I.ok.hd hc) hl hsz fun v h' tk hv hk => ?_
  obtain ⟨t, rfl⟩ := intItems_at hv
  obtain ⟨h1, h2⟩ := argBest_gt (numAt ys) (ys.size - 1)
  refine ⟨.int _, H, I.kept hk, ⟨t, rfl⟩, q _ ?_ fun a ha => ?_⟩
  · rw [hns, numAt_eq]; exact getD_mem (by rw [List.length_map, Array.length_toList]; omega)
  · rw [hns] at ha
    obtain ⟨j, hj, rfl⟩ := mem_getD ha
    rw [List.length_map, Array.length_toList] at hj
    rw [← numAt_eq]; exact h2 j (by omega)

/-! ### // by any positive divisor below 2^9000 -/
def CDivL (i j : Int) : Prop := 0 < j ∧ j.natAbs.log2 < 9000
theorem op_fdivL : OpR X (binaryOp .FloorDiv) (rI CDivL fun i j => .int (i / j)) := opI fun i j _ _ _ _ _ hc q => by
  refine floordiv_int (by have := hc.1; omega) ?_ (.inl (PyProof.noPylong_of_log2 hc.2))
  rw [Int.fdiv_eq_ediv_of_nonneg _ (Int.le_of_lt hc.1)]
  exact q

/-! ### sets of ints -/
def SetO (P : Program) (w : World) (S : Addr) (ns : List Int) : HO := .ext fun h => ∃ es, SI.Heap.Set2 (intKind P w) (!(w.params.followText "set-order")) h S es ∧ SI.Upto ns ns.length es
theorem call_setI (hc : X.calm = true) : CallR X (.type "set") (fun xs H Q => ∃ (p : Addr) (ns : List Int), xs = [.ref p] ∧ SqL X.K H p (ns.map V.int) ∧ ns.length < 4000 ∧ ∀ l, H l = none → Q (.ref l) (upd H l (SetO X.prog X.w l ns))) := by
  intro pins s σ H xs us Q I r h
  obtain ⟨p, ns, rfl, hq, hz, q⟩ := h
  obtain ⟨u, rfl, ru⟩ := vals1 r
  cases ru
  obtain ⟨its, hl, hi, _⟩ := listOk I hq
  refine SI.set_list (I.ok.hd hc) hl (by simpa using hi) (by unfold scanBound; omega) fun h' tk es hS hU hk => ?_
  refine ⟨.ref s.heap.objs.size, _, I.laid hk (Nat.le_refl _) ?_, rfl, q _ I.fresh⟩
  refine ⟨⟨es, hS, hU⟩, ?_, fun h1 h2 ⟨es', a, b⟩ k => ⟨es', ?_, b⟩⟩
  · obtain ⟨o, _, _, e, _⟩ := hS
    exact ⟨o, e⟩
  · obtain ⟨o, ep, t, e, rest⟩ := a
    exact ⟨o, ep, t, k _ e, rest⟩
/-- behind a step that draws -/
theorem Inv.drawn {h' : Heap} {tk : Nat} {d : Drawn} {a : Addr} {o : HO} {pins : List (Addr × Obj)} {σ : St} {H : Hp} {s : Shared} (I : Inv X pins σ H s) (k : ∀ b u, s.heap.get? b = some u → h'.get? b = some u) (hp : s.heap.objs.size ≤ a) (new : ObjOk X.prog X.w (upd H a o) h' a o) :
    Inv X pins σ (upd H a o) { s with heap := h', drawn := d, toks := tk } := by
  have J := I.laid (t' := tk) k hp new
  have R := J.step (g' := s.gens) (t' := tk) (d' := d) (ch := []) (h' := h') (fun _ z => nomatch z) (fun _ _ _ _ _ e _ => e) (fun _ o _ _ _ e _ => ⟨o.slots, e⟩) (fun _ _ _ _ n => n) (fun _ o _ e => ⟨o, e⟩) (fun _ _ e => e) (fun _ _ _ e => e) (fun _ ps e => ⟨#[], by rw [e]; simp⟩) (fun _ e => e) J.hok J.bare
  exact R
theorem strict_of {ms : List Int} (h1 : ms.Pairwise (· ≤ ·)) (h2 : ms.Nodup) : ms.Pairwise (· < ·) := by
  induction ms with
  | nil => exact List.Pairwise.nil
  | cons a r ih =>
    obtain ⟨a1, b1⟩ := List.pairwise_cons.mp h1
    obtain ⟨a2, b2⟩ := List.nodup_cons.mp h2
    refine List.pairwise_cons.mpr ⟨fun x hx => ?_, ih b1 b2⟩
    have := a1 x hx
    have : a ≠ x := fun e => a2 (e ▸ hx)
    omega
/-- sorted(a set of ints): rising, each once -/
theorem call_sortedS (hc : X.calm = true) : CallR X (.builtin "sorted") (fun xs H Q => ∃ (S : Addr) (ns : List Int), xs = [.ref S] ∧ H S = some (SetO X.prog X.w S ns) ∧ ns.length < 64 ∧ ∀ (l : Addr) (ms : List Int), H l = none → ms.Pairwise (· < ·) → (∀ x, x ∈ ms ↔ x ∈ ns) → Q (.ref l) (upd H l (.lst (ms.map V.int)))) := by
  intro pins s σ H xs us Q I r h
  obtain ⟨S, ns, rfl, hS, hz, q⟩ := h
  obtain ⟨u, rfl, ru⟩ := vals1 r
  cases ru
  obtain ⟨⟨es, h2, hU⟩, _⟩ := I.hok S _ hS
  obtain ⟨ep, t, x⟩ := SI.Set2.at h2
  obtain ⟨ks, hks, hm, hl⟩ := id hU
  have hes := hU.size
  refine SI.sorted_set (I.ok.hd hc) x hks.isI (by omega) fun h' d tk l vs' ns' e hi hp hs hle hl' hk => ?_
  have hlen : ns'.length ≤ 64 := by rw [hp.length_eq]; omega
  refine ⟨.ref l, _, I.drawn (o := .lst (ns'.map V.int)) hk hle ⟨?_, vs', e, vals_ints hi, hl'⟩, rfl, q l ns' (I.hok.fresh hle) (strict_of hs (hp.nodup_iff.mpr hks.nodup)) fun y => ?_⟩
  · rw [List.length_map]; exact Nat.le_trans hlen (by decide)
  · rw [hp.mem_iff, hm y, List.take_length]

/-! ### for x in reversed(xs) -/
def Itv (K : PySem.W.Frag) (a : Addr) (xs : List V) : It :=
  ⟨fun i H => SqL K H a xs ∧ i < xs.length, fun i H x H' => H' = H ∧ xs.reverse[i]? = some x, fun i H => xs.length ≤ i⟩
theorem turn_rev {P : Program} {w : World} {K : PySem.W.Frag} {tg : Expr} (a it : Addr) (xs : List V) : Turn P w K tg (Itv K a xs) [it] it (fun i h => i ≤ xs.length ∧ h.IsRevIter it a ((xs.length : Int) - 1 - (i : Int))) where
  mem := by simp
  obj := fun i h st b hb => by
    have e : b = it := by simpa using hb
    subst e
    obtain ⟨_, o, e, c, d⟩ := st
    exact ⟨o, e, fun v z => by rw [d] at z; cases z⟩
  keep := fun i h h' st k => ⟨st.1, st.2.at fun o e => k it (by simp) o e⟩
  item := by
    intro X hP hw hK hc i pins s σ H E I hf st hg
    subst hP hw hK
    obtain ⟨hq, hx⟩ := hg
    obtain ⟨its, rv, p, hz⟩ := I.list hq
    have hl := rv.length
    have hxr : xs.reverse[i]? = some (xs[xs.length - 1 - i]'(by omega)) := by
      rw [List.getElem?_reverse (by omega)]
      simp
    obtain ⟨u, hu, ru⟩ := rv.get (i := xs.length - 1 - i) (x := xs[xs.length - 1 - i]'(by omega)) (by simp)
    obtain ⟨f0, f1, f2, f3, f4, f5⟩ := hf it (by simp)
    have e : (xs.length : Int) - 1 - (i : Int) = ((xs.length - 1 - i : Nat) : Int) := by omega
    have hit := st.2
    rw [e] at hit
    refine wpAny_pyNext_rev_item hit p.isList (x := u) (by simpa using hu) fun h' st' sb => ?_
    have e2 : ((xs.length - 1 - i : Nat) : Int) - 1 = (xs.length : Int) - 1 - ((i + 1 : Nat) : Int) := by omega
    rw [e2] at st'
    have I1 : Inv X pins σ H { s with heap := h' } := I.turned (t' := s.toks) (fun b o hb e => (sb.2 b hb).trans e) f0 f1 f3 f4 f5
    obtain ⟨o, eo, c, d⟩ := id st'
    exact ⟨u, rfl, go_of (s := { s with heap := h' }) eo c d (by decide) ⟨_, H, I1, ru, ⟨rfl, hxr⟩, ⟨by omega, st'⟩, fun b hb => (hf b hb).1⟩⟩
  done := by
    intro X hP hw hK hc i pins s σ H E I hf st hg
    subst hP hw hK
    obtain ⟨f0, f1, f2, f3, f4, f5⟩ := hf it (by simp)
    have hx : xs.length ≤ i := hg
    have e : (xs.length : Int) - 1 - (i : Int) = -1 := by have := st.1; omega
    have hit := st.2
    rw [e] at hit
    exact wpAny_pyNext_rev_end (I.ok.hd hc) hit fun h' eb => ⟨rfl, I.turned (t' := s.toks) (fun b o hb e => eb b o hb e) f0 f1 f3 f4 f5⟩
  self := fun _ _ _ _ _ st h => wpAny_pyIter_revIter st.2 h
def iRev (K : PySem.W.Frag) (ta : TA) : TI := fun σ H R => ta σ H fun vs H1 => ∃ a xs, vs = [.ref a] ∧ SqL K H1 a xs ∧ R (Itv K a xs) H1
theorem pi_rev {tg a : Expr} {ta : TA} {p pos : Pos} (hg : Gl X "reversed") (hm : X.mg "reversed" = none) (ha : PA X [a] ta) (hs : starEach [a] X.env = [(false, eval a X.env)] := by rfl) : PI X tg (.Call (.Name "reversed" p) [a] [] pos) (iRev X.K ta) := by
  intro pins s σ H R I h
  refine Call_ (ld_blt I hg hm boot_reversed (PyProof.Rows.callWith_type1 (thn (ha pos pins s σ H _ I h) fun us s1 ⟨vs, H1, I1, r1, q1⟩ => ?_) hs rfl))
  obtain ⟨b, xs, e, hq, q⟩ := q1
  subst e
  obtain ⟨u, rfl, ru⟩ := vals1 r1
  cases ru
  obtain ⟨its, rv, pl, hz⟩ := I1.list hq
  have hl := rv.length
  refine call_reversed_list pl.isList ?_
  have el : ((its.toArray.size : Nat) : Int) - 1 = (xs.length : Int) - 1 - ((0 : Nat) : Int) := by rw [List.size_toArray]; omega
  rw [el]
  have hit : (s1.heap.push (revObj b ((xs.length : Int) - 1 - ((0 : Nat) : Int)))).IsRevIter s1.heap.objs.size b ((xs.length : Int) - 1 - ((0 : Nat) : Int)) := ⟨_, Heap.get?_push_size _ rfl, rfl, rfl⟩
  refine wpAny_pyIter_revIter (s := { s1 with heap := s1.heap.push (revObj b ((xs.length : Int) - 1 - ((0 : Nat) : Int))) }) hit ?_
  refine ⟨s1.heap.objs.size, [s1.heap.objs.size], _, _, H1, rfl, I1.kept (t' := s1.toks) fun b o e => Heap.get?_push_of_some _ e, turn_rev b _ xs, ⟨Nat.zero_le _, hit⟩, fun b hb => ?_, q⟩
  have e : b = s1.heap.objs.size := by simpa using hb
  subst e
  exact I1.fpOk (Nat.le_refl _) (I1.hok.fresh (Nat.le_refl _))
end
end L2
end

section
set_option Elab.async false
set_option linter.all false
set_option maxRecDepth 100000
namespace L2
open PySem PySem.Spec PyProof.Rows

/-! ### scopes, checked -/
def relNames (sc scope : Scope) : List (Str × NameKind) := scope.names.map fun (n, k) => if (k == .free && sc.kind == .function && sc.names.lookup n == some .cell) then (n, .cell) else (n, k)
def ckSlots (sc : Scope) (XN N : List Str) (scope : Scope) (ix : List (Option Nat)) : Bool := (List.range ix.length).all fun j => match ix[j]?, N[j]? with
  | some (some i), some y => XN[i]? == some y && scope.names.any (fun p => p.1 == y && p.2 == .free) && ((relNames sc scope).lookup y == some .cell || (relNames sc scope).lookup y == some .free)
  | _, _ => true
def ckComp (sc : Scope) (XN N : List Str) (scope : Scope) (ix : List (Option Nat)) : Bool :=
  scope.kind == .function && scope.names.all (fun y => y.2 != .cell) && scope.names.all (fun y => y.2 != .local || scope.names.lookup y.1 == some .local) &&
  scope.names.all (fun y => y.2 != .free || (sc.names.lookup y.1 == some .cell || sc.names.lookup y.1 == some .free)) && ix.length == N.length && ckSlots sc XN N scope ix
theorem compScope {X : Cx} {sc : Scope} {XN N : List Str} {scope : Scope} {ix : List (Option Nat)} (hsc : X.env.scope = sc) (hN : X.N = XN) (h : ckComp sc XN N scope ix = true) : CompScope X N scope ix := by
  unfold ckComp at h
  simp only [Bool.and_eq_true, beq_iff_eq] at h
  obtain ⟨⟨⟨⟨⟨h1, h2⟩, h3⟩, h4⟩, h5⟩, h6⟩ := h
  have nocell : ∀ y ∈ scope.names, y.2 ≠ .cell := fun y hy e => by
    have := List.all_eq_true.mp h2 y hy
    rw [e] at this
    simp at this
  have er : (relabel scope X.env).names = relNames sc scope := by
    unfold relabel relNames Env.kindOf
    rw [hsc]
  refine ⟨h1, nocell, fun y hy e => ?_, fun y hy e => ?_, fun y hy => ?_, h5, fun j i y e1 e2 => ?_⟩
  · have := List.all_eq_true.mp h3 y hy
    rw [e] at this
    simpa using this
  · have := List.all_eq_true.mp h4 y hy
    rw [e] at this
    have : (sc.names.lookup y.1 = some .cell) ∨ (sc.names.lookup y.1 = some .free) := by simpa using this
    unfold Env.kindOf
    rw [hsc]
    exact this
  · rw [er] at hy
    have hm : ∃ k, (y, k) ∈ relNames sc scope ∧ (k = .cell ∨ k = .free) := by
      rcases hy with hy | hy
      · exact ⟨_, PySem.mem_of_lookup hy, .inl rfl⟩
      · exact ⟨_, PySem.mem_of_lookup hy, .inr rfl⟩
    obtain ⟨k, hk, hk2⟩ := hm
    unfold relNames at hk
    obtain ⟨⟨n, k0⟩, hp, e⟩ := List.mem_map.mp hk
    dsimp only at e
    by_cases hc : (k0 == .free && sc.kind == .function && sc.names.lookup n == some .cell) = true
    · rw [if_pos hc] at e
      simp only [Bool.and_eq_true, beq_iff_eq] at hc
      injection e with e1 e2
      rw [← e1, ← hc.1.1]
      exact hp
    · rw [if_neg hc] at e
      injection e with e1 e2
      rcases hk2 with z | z
      · exact absurd (e2.trans z) (nocell _ hp)
      · rw [← e1, ← e2.trans z]
        exact hp
  · have hj : j < ix.length := (List.getElem?_eq_some_iff.mp e1).1
    have := List.all_eq_true.mp h6 j (List.mem_range.mpr hj)
    rw [e1, e2] at this
    simp only [Bool.and_eq_true, Bool.or_eq_true, beq_iff_eq, List.any_eq_true] at this
    obtain ⟨⟨a, ⟨p, hp, e3, e4⟩⟩, c⟩ := this
    rw [er, hN]
    refine ⟨a, ?_, c⟩
    obtain ⟨p1, p2⟩ := p
    dsimp only at e3 e4
    subst e3 e4
    exact hp

section
variable {X : Cx}
/-! ### isinstance, texts -/
theorem call_isinst : CallR X (.builtin "isinstance") (fun xs H Q => ∃ (x : V) (n : String) (t : Value) (b : Bool), xs = [x, .ty n] ∧ TyOf X.K H x t ∧ PySem.W.kitOne X.K t (.type n) = some b ∧ Q (.bl b) H) := by
  intro pins s σ H xs us Q I r h
  obtain ⟨x, n, t, b, rfl, ty, e, q⟩ := h
  obtain ⟨u, v, rfl, ru, rv⟩ := vals2 r
  cases (show v = Value.type n from rv)
  exact isinst_ok I ru ty e fun tk => ⟨.bl b, H, I.tok tk, rfl, q⟩
theorem call_int_text : CallR X (.type "int") (fun xs H Q => ∃ (x : Str) (n : Int), xs = [.str x] ∧ PySem.intText? x = some n ∧ x.length ≤ 640 ∧ Q (.int n) H) := by
  intro pins s σ H xs us Q I r h
  obtain ⟨x, n, rfl, e, l, q⟩ := h
  obtain ⟨u, rfl, ru⟩ := vals1 r
  obtain ⟨t, rfl⟩ := (show ∃ t, u = Value.str x t from ru)
  exact PySem.W.KIN.call_text e l ⟨.int n, H, I.tok _, ⟨_, rfl⟩, q⟩
theorem op_mul_text : OpR X (binaryOp .Mult) (fun x y H Q => ∃ (z : Str) (n : Int), x = .str z ∧ y = .int n ∧ MulOk z n ∧ Q (.str (Txt.mul z n)) H) := by
  intro pins s σ H x y v u Q I rx ry h
  obtain ⟨z, n, rfl, rfl, hok, q⟩ := h
  obtain ⟨t, rfl⟩ := (show ∃ t, v = Value.str z t from rx)
  obtain ⟨t', rfl⟩ := (show ∃ t, u = Value.int n t from ry)
  exact SB.mul hok fun t' k => ⟨.str (Txt.mul z n), H, I.tok k, ⟨t', rfl⟩, q⟩

/-! ### for i, x in enumerate(xs) -/
/-- several untracked records of ours have turned -/
theorem Inv.turnedL {h' : Heap} {t' : Nat} {ch : List Addr} {pins : List (Addr × Obj)} {σ : St} {H : Hp} {s : Shared} (I : Inv X pins σ H s) (k : ∀ b o, b ∉ ch → s.heap.get? b = some o → h'.get? b = some o) (hf : ∀ b ∈ ch, FpOk X pins H b) :
    Inv X pins σ H { s with heap := h', toks := t' } := by
  have nit : ∀ b u, H b = some u → b ∉ ch := fun b u e z => by rw [(hf b z).1] at e; cases e
  refine I.step (g' := s.gens) (d' := s.drawn) (ch := ch) (fun b hb => ?_) (fun b o _ _ hc e _ => k b o hc e) (fun b o _ _ hc e _ => ⟨o.slots, k b o hc e⟩) (fun _ _ _ _ n => n)
    (fun b o hc e => ⟨o, k b o hc e⟩) (fun _ _ e => e) (fun _ _ _ e => e) (fun b ps e => ⟨#[], by rw [e]; simp⟩) (fun m hm => ?_) (fun b u e => ?_) I.bare
  · obtain ⟨_, f1, _, f3, f4, f5⟩ := hf b hb
    exact ⟨f3, f1, f4, f5⟩
  · obtain ⟨o, es, ep, ho, r⟩ := hm
    exact ⟨o, es, ep, k _ o (fun z => (hf _ z).2.1 rfl) ho, r⟩
  · refine (I.hok b u e).stay (fun c v hc q => k c v ?_ q) (fun _ q => q) fun _ _ q => q
    rcases hc with z | z
    · rw [z]; exact nit b u e
    · exact nit c _ z
/-- .. and a new object is laid with it -/
theorem Inv.turnedNew {h' : Heap} {t' : Nat} {ch : List Addr} {a : Addr} {o' : HO} {pins : List (Addr × Obj)} {σ : St} {H : Hp} {s : Shared} (I : Inv X pins σ H s) (k : ∀ b o, b ∉ ch → s.heap.get? b = some o → h'.get? b = some o) (hf : ∀ b ∈ ch, FpOk X pins H b)
    (hp : s.heap.objs.size ≤ a) (new : ObjOk X.prog X.w (upd H a o') h' a o') : Inv X pins σ (upd H a o') { s with heap := h', toks := t' } := by
  have hn := I.hok.fresh hp
  have nit : ∀ b u, H b = some u → b ∉ ch := fun b u e z => by rw [(hf b z).1] at e; cases e
  refine I.step (g' := s.gens) (d' := s.drawn) (ch := ch) (fun b hb => ?_) (fun b o _ _ hc e _ => k b o hc e) (fun b o _ _ hc e _ => ⟨o.slots, k b o hc e⟩) (fun b o _ e n => ?_)
    (fun b o hc e => ⟨o, k b o hc e⟩) (fun b xs e => by rw [upd_ne (ne_of_none e hn)]; exact e) (fun b o xs e => by rw [upd_ne (ne_of_none e hn)]; exact e) (fun b ps e => ⟨#[], by rw [upd_ne (ne_of_none e hn), e]; simp⟩) (fun m hm => ?_) (fun b u e => ?_) I.bare
  · obtain ⟨_, f1, _, f3, f4, f5⟩ := hf b hb
    exact ⟨f3, f1, f4, f5⟩
  · rw [upd_ne (Nat.ne_of_lt (Nat.lt_of_lt_of_le (Heap.lt_size e) hp))]; exact n
  · obtain ⟨o, es, ep, ho, r⟩ := hm
    exact ⟨o, es, ep, k _ o (fun z => (hf _ z).2.1 rfl) ho, r⟩
  · by_cases hb : b = a
    · subst hb
      rw [upd_same] at e
      cases e
      exact new
    · rw [upd_ne hb] at e
      refine (I.hok b u e).stay (fun c v hc q => k c v ?_ q) (fun c q => by rw [upd_ne (ne_of_none q hn)]; exact q) fun c xs q => by rw [upd_ne (ne_of_none q hn)]; exact q
      rcases hc with z | z
      · rw [z]; exact nit b u e
      · exact nit c _ z
def Ite (K : PySem.W.Frag) (a : Addr) (xs : List V) : It :=
  ⟨fun i H => SqL K H a xs ∧ i < xs.length, fun i H x H' => ∃ (T : Addr) (v : V), H T = none ∧ xs[i]? = some v ∧ x = .ref T ∧ H' = upd H T (.tup [.int i, v]), fun i H => SqL K H a xs ∧ i = xs.length⟩
theorem turn_enum {P : Program} {w : World} {K : PySem.W.Frag} {elts : List Expr} {k : Nat} {pos : Pos} (a e it : Addr) (hei : e ≠ it) (xs : List V) :
    Turn P w K (.Tuple elts k pos) (Ite K a xs) [e, it] e (fun i h => (∃ old, IsEnum h e it i old) ∧ h.IsListIter it a i) where
  mem := by simp
  obj := fun i h st b hb => by
    obtain ⟨⟨old, he⟩, o, ho, c, d⟩ := st
    rcases List.mem_cons.mp hb with rfl | hb
    · exact ⟨_, he, fun v z => by
        have z' : Data.fields _ = Data.cell v := z
        cases z'⟩
    · have z : b = it := by simpa using hb
      subst z
      exact ⟨o, ho, fun v z => by rw [d] at z; cases z⟩
  keep := fun i h h' st kk => by
    obtain ⟨⟨old, he⟩, hi⟩ := st
    exact ⟨⟨old, kk e (by simp) _ he⟩, hi.at fun o x => kk it (by simp) o x⟩
  item := by
    intro X hP hw hK hc i pins s σ H E I hf st hg
    subst hP hw hK
    obtain ⟨hq, hx⟩ := hg
    obtain ⟨its, rv, p, hz⟩ := I.list hq
    have hl := rv.length
    obtain ⟨⟨old, he⟩, hit⟩ := st
    have hL : s.heap.IsList a its.toArray := p.isList
    obtain ⟨ol, hol, hcl, _⟩ := id hL
    have hle : a ≠ e := fun z => by
      rw [z, he] at hol
      cases hol
      have z' : Value.type "enumerate" = Value.type "list" := hcl
      injection z' with z'
      exact absurd z' (by decide)
    have hli : a ≠ it := fun z => by
      obtain ⟨oi, hoi, hci, _⟩ := hit
      rw [z, hoi] at hol
      cases hol
      rw [hci] at hcl
      injection hcl with hcl
      exact absurd hcl (by decide)
    have W := WalksT.enumerate (prog := X.prog) (w := X.w) (I.ok.hd hc) e it a hei hle hli its.toArray
    refine W.item i s _ _ (by rw [List.size_toArray]; omega) ⟨⟨old, he⟩, hit, hL⟩ fun T vals h' tk hP hsz hT hm hk => ?_
    obtain ⟨t, x, hxi, rfl⟩ := hP
    have hxv : ∃ v, xs[i]? = some v ∧ RelV v x := by
      have hv : xs[i]? = some (xs[i]'hx) := by simp [hx]
      obtain ⟨u, hu, ru⟩ := rv.get hv
      have : its.toArray[i]? = some u := by simpa using hu
      rw [this] at hxi
      cases hxi
      exact ⟨_, hv, ru⟩
    obtain ⟨v, hv, ru⟩ := hxv
    have hTn : H T = none := I.hok.fresh hsz
    have hfr : ∀ b ∈ [e, it], FpOk X pins H b := hf
    have I1 : Inv X pins σ (upd H T (.tup [.int i, v])) { s with heap := h', toks := tk } := I.turnedNew hk hfr hsz
      ⟨by show 2 ≤ sizeLine; decide, [.int i t, x], .cons ⟨t, rfl⟩ (.cons ru .nil), hT⟩
    have hTne : ∀ b ∈ [e, it], b ≠ T := fun b hb z => by
      have hlt : b < s.heap.objs.size := by
        rcases List.mem_cons.mp hb with z | hb
        · rw [z]; exact Heap.lt_size he
        · have z : b = it := by simpa using hb
          obtain ⟨oi, hoi, _⟩ := hit
          rw [z]; exact Heap.lt_size hoi
      rw [z] at hlt
      exact Nat.lt_irrefl _ (Nat.lt_of_lt_of_le hlt hsz)
    have hf1 : ∀ b ∈ [e, it], FpOk X pins (upd H T (.tup [.int i, v])) b := fun b hb => ⟨by rw [upd_ne (hTne b hb)]; exact (hf b hb).1, (hf b hb).2⟩
    refine ⟨.ref T, rfl, W.go elts k pos i T { s with heap := h', toks := tk } _ _ hm fun h2 st2 hk2 => ?_⟩
    have I2 : Inv X pins σ (upd H T (.tup [.int i, v])) { s with heap := h2, toks := tk } := I1.turnedL (t' := tk) hk2 hf1
    exact ⟨.ref T, _, I2, rfl, ⟨T, v, hTn, hv, rfl, rfl⟩, ⟨st2.1, st2.2.1⟩, fun b hb => (hf1 b hb).1⟩
  done := by
    intro X hP hw hK hc i pins s σ H E I hf st hg
    subst hP hw hK
    obtain ⟨hq, hx⟩ := hg
    subst hx
    obtain ⟨its, rv, p, hz⟩ := I.list hq
    have hl := rv.length
    obtain ⟨⟨old, he⟩, hit⟩ := st
    have hL : s.heap.IsList a its.toArray := p.isList
    exact wpAny_pyNext_enum_end (I.ok.hd hc) he hit hL (by simp; omega) fun h' eb => ⟨rfl, I.turnedL (t' := s.toks) (ch := [e, it]) (fun b o hb eo => eb b o (fun z => hb (by simp [z])) eo) hf⟩
  self := fun _ _ _ _ _ st h => by
    obtain ⟨⟨old, he⟩, _⟩ := st
    exact wpAny_pyIter_enum he h
def iEnum (K : PySem.W.Frag) (ta : TA) : TI := fun σ H R => ta σ H fun vs H1 => ∃ (a : Addr) (xs : List V), vs = [.ref a] ∧ SqL K H1 a xs ∧ R (Ite K a xs) H1
theorem pi_enum {elts : List Expr} {k : Nat} {tpos : Pos} {a : Expr} {ta : TA} {p pos : Pos} (hg : Gl X "enumerate") (hm : X.mg "enumerate" = none) (ha : PA X [a] ta) (hs : starEach [a] X.env = [(false, eval a X.env)] := by rfl) :
    PI X (.Tuple elts k tpos) (.Call (.Name "enumerate" p) [a] [] pos) (iEnum X.K ta) := by
  intro pins s σ H R I h
  refine Call_ (ld_blt I hg hm boot_enumerate (PyProof.Rows.callWith_type1 (thn (ha pos pins s σ H _ I h) fun us s1 ⟨vs, H1, I1, r1, q1⟩ => ?_) hs rfl))
  obtain ⟨b, xs, e, hq, q⟩ := q1
  subst e
  obtain ⟨u, rfl, ru⟩ := vals1 r1
  cases ru
  obtain ⟨its, rv, pl, hz⟩ := I1.list hq
  refine call_enumerate_list pl.isList fun h' he hi hsz hk => ?_
  refine wpAny_pyIter_enum he ?_
  have I2 : Inv X pins σ H1 { s1 with heap := h' } := I1.kept (t' := s1.toks) hk
  refine ⟨s1.heap.objs.size + 1, [s1.heap.objs.size + 1, s1.heap.objs.size], _, _, H1, rfl, I2, turn_enum b _ _ (Nat.succ_ne_self _) xs, ⟨⟨_, he⟩, hi⟩, fun c hc => ?_, q⟩
  rcases List.mem_cons.mp hc with rfl | hc
  · exact I1.fpOk (Nat.le_succ _) (I1.hok.fresh (Nat.le_succ _))
  · have e : c = s1.heap.objs.size := by simpa using hc
    subst e
    exact I1.fpOk (Nat.le_refl _) (I1.hok.fresh (Nat.le_refl _))
end
end L2
end

section
set_option Elab.async false
set_option linter.all false
set_option maxRecDepth 100000
namespace L2
open PySem PySem.Spec PyProof.Rows
theorem same_upd {H : Hp} {p : Addr} {o : HO} (h : H p = none) : Same H (upd H p o) := fun b u e => by rw [upd_ne (ne_of_none e h)]; exact e
theorem set_set {σ : St} {j : Nat} {a b : Option V} : (σ.set j a).set j b = σ.set j b := by simp
/-- [te for x in xs] of a list that stays, te without a trace -/
theorem comp_map {K : PySem.W.Frag} {a p : Addr} {xs : List V} {te : TE} {σc : St} {H1 : Hp} {Q : Hp → Prop} {j : Nat} (f : V → V) (hp : H1 p = none) (hS : SqL K H1 a xs) (hz : xs.length ≤ sizeLine)
    (he : ∀ (i : Nat) (x : V) (ys : List V) (R : VK), xs[i]? = some x → R (f x) (upd H1 p (.lst ys)) → te (σc.set j (some x)) (upd H1 p (.lst ys)) R)
    (hQ : Q (upd H1 p (.lst (xs.map f)))) : CompW (Itl K a) (gName j) tYes te p σc H1 Q := by
  refine ⟨fun i m σ' ys H => m = xs.length - i ∧ i ≤ xs.length ∧ (∀ o, σ'.set j o = σc.set j o) ∧ ys = (xs.take i).map f ∧ H = upd H1 p (.lst ys), ⟨_, rfl, Nat.zero_le _, fun _ => rfl, by simp, rfl⟩, ?_⟩
  rintro i m σ' ys H ⟨rfl, hi, hσ, rfl, rfl⟩
  have q : SqL K (upd H1 p (.lst ((xs.take i).map f))) a xs := (same_upd hp).seq hS
  by_cases hlt : i < xs.length
  · refine .inr ⟨⟨xs, xs[i], q, by simp [hlt]⟩, fun σ2 ys' H' => (∀ o, σ2.set j o = σc.set j o) ∧ ys' = (xs.take (i + 1)).map f ∧ H' = upd H1 p (.lst ys'), fun σ2 ys' H' ⟨a1, a2, a3⟩ => ⟨xs.length - (i + 1), by omega, rfl, hlt, a1, a2, a3⟩, fun x H' y => ?_⟩
    obtain ⟨e, y⟩ := y
    subst e
    have hx := y xs q
    dsimp only [gName, tYes]
    rw [if_pos rfl, hσ]
    refine he i x _ _ hx ⟨(xs.take i).map f, upd_same, ?_, fun o => set_set, ?_, ?_⟩
    · rw [List.length_map, List.length_take]; omega
    · rw [List.take_add_one, hx]; simp
    · rw [upd_upd]
  · have e : i = xs.length := by omega
    subst e
    refine .inl ⟨⟨xs, q, Nat.le_refl _⟩, ?_⟩
    rw [List.take_length]
    exact hQ

def enumTail (c : Nat → V → Bool) (f : Nat → V → V) : List V → Nat → List V
  | [], _ => []
  | x :: r, i => if c i x = true then f i x :: enumTail c f r (i + 1) else enumTail c f r (i + 1)
theorem enumTail_len (c : Nat → V → Bool) (f : Nat → V → V) : ∀ (xs : List V) (i : Nat), (enumTail c f xs i).length ≤ xs.length
  | [], _ => Nat.le_refl _
  | x :: r, i => by
    have := enumTail_len c f r (i + 1)
    unfold enumTail
    split
    · simp only [List.length_cons]; omega
    · simp only [List.length_cons]; omega
/-- [te for i, x in enumerate(xs) if tc] -/
theorem comp_enum {K : PySem.W.Frag} {a p : Addr} {xs : List V} {tc : TT} {te : TE} {σc : St} {H1 : Hp} {Q : Hp → Prop} {ja jb : Nat} (c : Nat → V → Bool) (f : Nat → V → V) (hj : ja ≠ jb) (hp : H1 p = none) (hS : SqL K H1 a xs) (hz : xs.length < sizeLine)
    (hc : ∀ (i : Nat) (x : V) (H : Hp) (R : Bool → Hp → Prop), xs[i]? = some x → Same H1 H → R (c i x) H → tc ((σc.set ja (some (.int i))).set jb (some x)) H R)
    (he : ∀ (i : Nat) (x : V) (H : Hp) (R : VK), xs[i]? = some x → Same H1 H → R (f i x) H → te ((σc.set ja (some (.int i))).set jb (some x)) H R)
    (hQ : ∀ H, Same H1 H → H p = some (.lst (enumTail c f xs 0)) → Q H) : CompW (Ite K a xs) (gTup K 2 (gCons (gName ja) (gCons (gName jb) gNil))) tc te p σc H1 Q := by
  refine ⟨fun i m σ' ys H => m = xs.length - i ∧ i ≤ xs.length ∧ (∀ o u, (σ'.set ja o).set jb u = (σc.set ja o).set jb u) ∧ ys ++ enumTail c f (xs.drop i) i = enumTail c f xs 0 ∧ Same H1 H ∧ H p = some (.lst ys), ⟨_, rfl, Nat.zero_le _, fun _ _ => rfl, by simp, same_upd hp, upd_same⟩, ?_⟩
  rintro i m σ' ys H ⟨rfl, hi, hσ, hy, hs, hpy⟩
  have q : SqL K H a xs := hs.seq hS
  by_cases hlt : i < xs.length
  · refine .inr ⟨⟨q, hlt⟩, fun σ2 ys' H' => (∀ o u, (σ2.set ja o).set jb u = (σc.set ja o).set jb u) ∧ ys' ++ enumTail c f (xs.drop (i + 1)) (i + 1) = enumTail c f xs 0 ∧ Same H1 H' ∧ H' p = some (.lst ys'), fun σ2 ys' H' ⟨a1, a2, a3, a4⟩ => ⟨xs.length - (i + 1), by omega, rfl, hlt, a1, a2, a3, a4⟩, fun x H' y => ?_⟩
    obtain ⟨T, v, hT, hv, rfl, rfl⟩ := y
    have hTp : p ≠ T := ne_of_none hpy hT
    have hs' : Same H1 (upd H T (.tup [.int i, v])) := hs.trans (same_upd hT)
    have hd : xs.drop i = v :: xs.drop (i + 1) := by
      rw [List.drop_eq_getElem_cons hlt]
      have : xs[i] = v := (List.getElem?_eq_some_iff.mp hv).2
      rw [this]
    rw [hd] at hy
    have hlen : (ys ++ enumTail c f (v :: xs.drop (i + 1)) i).length ≤ xs.length := by rw [hy]; exact enumTail_len c f xs 0
    refine ⟨T, [.int i, v], rfl, SqT.of upd_same, rfl, _, _, rfl, _, _, rfl, rfl, ?_⟩
    show tc ((σ'.set ja (some (.int i))).set jb (some v)) _ _
    have es : ∀ o u, ((((σ'.set ja (some (.int i))).set jb (some v)).set ja o).set jb u) = (σc.set ja o).set jb u := fun o u => by
      rw [hσ]
      have h1 : ((σc.set ja (some (.int i))).set jb (some v)).set ja o = ((σc.set ja (some (.int i))).set ja o).set jb (some v) := List.set_comm _ _ (Ne.symm hj)
      rw [h1, set_set, set_set]
    rw [hσ] at es ⊢
    refine hc i v _ _ hv hs' ?_
    have ht : enumTail c f (v :: xs.drop (i + 1)) i = if c i v = true then f i v :: enumTail c f (xs.drop (i + 1)) (i + 1) else enumTail c f (xs.drop (i + 1)) (i + 1) := rfl
    by_cases hcv : c i v = true
    · rw [if_pos hcv]
      rw [ht, if_pos hcv] at hy hlen
      refine he i v _ _ hv hs' ⟨ys, by rw [upd_ne hTp]; exact hpy, ?_, es, ?_, ?_, upd_same⟩
      · rw [List.length_append, List.length_cons] at hlen; omega
      · rw [List.append_assoc]; exact hy
      · intro b o e
        by_cases hb : b = p
        · rw [hb] at e; rw [e] at hp; cases hp
        · rw [upd_ne hb]; exact hs' b o e
    · rw [if_neg hcv]
      rw [ht, if_neg hcv] at hy
      exact ⟨ys, es, hy, hs', by rw [upd_ne hTp]; exact hpy⟩
  · have e : i = xs.length := by omega
    subst e
    refine .inl ⟨⟨q, rfl⟩, hQ H hs ?_⟩
    rw [List.drop_length] at hy
    have : ys = enumTail c f xs 0 := by rw [← hy]; simp [enumTail]
    rw [← this]; exact hpy
end L2
end

section
set_option Elab.async false
set_option linter.all false
set_option maxRecDepth 100000
set_option maxHeartbeats 2000000
namespace EX
open PySem PySem.W PySem.Spec PyProof.Rows

/-- an own exception class, as the fragment has it -/
structure ECls (K : PySem.W.Frag) (C : Addr) : Prop where
  ga : findIn K (.ref C) "__getattribute__" = some (some (.builtin "BaseException.__getattribute__"))
  gt : findIn K (.ref C) "__getattr__" = some none
  cl : findIn K (.ref C) "__class__" = some (some (.builtin "object.__class__"))
  ob : mroIn K C (.type "object") = some true
  be : mroIn K C (.type "BaseException") = some true

/-- the exception's object, by its class -/
def At (h : Heap) (a C : Addr) : Prop := ∃ o, h.get? a = some o ∧ o.cls = .ref C
theorem At.type {M : Model} {h : Heap} {a C : Addr} (I : At h a C) : Looks M h (typeOf (.ref a)) (.ref C) := let ⟨_, hx, hc⟩ := I; hc ▸ (Looks.ld hx).andThen .now
section
variable {prog : Program} {w : World} {A : Around} {E : Value → Shared → Prop} {K : PySem.W.Frag} {h : Heap} {g : Array GenState} {d : Drawn} {t : Nat} {os : OsState} {a C : Addr} {o : Obj}
theorem look_at {α : Type} {M : Model} {tr : Sem α} {r : α} {Q : α → Shared → Prop} {s : Shared} (x : Looks M s.heap tr r) (q : Q r s) : wpAny M A tr Q E s := x A Q E s (fun _ _ z => z) q
theorem cls_get {tp : Value} {R : Result → Shared → Prop} (EC : ECls K C) (X : K.In h) (I : At h a C) (hq : R (.ok (.ret (.ref C))) ⟨h, g, d, t, os⟩) :
    codeAny (model prog w) A (.call (.builtin "getset_descriptor.__get__") ⟨[.builtin "object.__class__", .ref a, tp], []⟩) R ⟨h, g, d, t, os⟩ := by
  have L0 := At.type (M := model prog w) I
  have L1 := looks_mroIn (M := model prog w) X EC.ob
  refine codeAny_call_builtin KF.slot_gs.plain KF.entry_gs
    (KF.slot_gs.check _ _ _ _ _ _ _ _ KF.type_class (KF.args_gs _ _ _) ?_)
  unfold Builtin.«getset_descriptor.__get__»; unfold Builtin.Getset_descriptor.descrGet; rw [dga_obj]
  refine wpAny_bind (wpAny_pure ?_)
  unfold Builtin.Getset_descriptor.descrGetter Builtin.Getset_descriptor.descrCheckInstance; unfold Builtin.Getset_descriptor.descrNameAndClass isInstance; simp only [KF.owner_class]
  repeat lk
  refine ⟨Code.quiet_builtin _ (by decide +kernel),
    codeAny_builtin KF.entry_class ?_⟩
  unfold Builtin.«object.__class__»; unfold shownTypeOf; (repeat lk); exact hq
theorem cls_entry {tk : Tok} {Q : Fin → Shared → Prop} (EC : ECls K C) (X : K.In h) (I : At h a C) (hq : Q (.done (.ret (.ref C))) ⟨h, g, d, t, os⟩) :
    wpAny (model prog w) A (Builtin.«object.__getattribute__» ⟨[.ref a, .str "__class__" tk], []⟩) Q E ⟨h, g, d, t, os⟩ := by
  obtain ⟨o, hx, hc⟩ := id I
  have f5 : typeOf (.builtin "object.__class__") = pure (.type "getset_descriptor") := KF.type_class
  have f6 := F.slot_gs_get.lookup
  have f7 := F.slot_gs_set.lookup
  have L1 := looks_findIn (M := model prog w) X EC.cl
  repeat (any_goals (first | assumption | (with_reducible refine wpAny_loadPart_at hx ?_; rw [hc]) | with_reducible refine L1.at ?_ | wp_step))
  refine cls_get EC X I ?_
  repeat (any_goals (first | assumption | wp_step))
theorem chk_ga {M : Model} {nameV : Value} {Q : Unit → Shared → Prop} (EC : ECls K C) (X : K.In h) (I : At h a C) (hq : Q () ⟨h, g, d, t, os⟩) :
    wpAny M A (checkBuiltinCall "BaseException.__getattribute__" ⟨[.ref a, nameV], []⟩) Q E ⟨h, g, d, t, os⟩ := by
  obtain ⟨o, hx, hc⟩ := id I
  have q1 : builtinKind "BaseException.__getattribute__" = some .slot := by decide +kernel
  have q2 : splitId "BaseException.__getattribute__" = some ("BaseException", "__getattribute__") := by decide +kernel
  have ha := F.args_bexc_ga (.ref a) nameV
  have L1 := looks_mroIn (M := M) X EC.be
  simp only [checkBuiltinCall, q1, q2]
  refine wpAny_bind ?_
  unfold isInstance
  repeat (first | (with_reducible refine wpAny_loadPart_at hx ?_; rw [hc]) | with_reducible refine L1.at ?_ | wp_step)
  exact hq
theorem cls_call {tk : Tok} {R : Result → Shared → Prop} (EC : ECls K C) (X : K.In h) (I : At h a C) (hq : R (.ok (.ret (.ref C))) ⟨h, g, d, t, os⟩) :
    codeAny (model prog w) A (.call (.builtin "BaseException.__getattribute__") ⟨[.ref a, .str "__class__" tk], []⟩) R ⟨h, g, d, t, os⟩ :=
  codeAny_call_builtin F.attr_ValueError.ga.plain F.entry_bexc_ga (chk_ga EC X I (cls_entry EC X I hq))
theorem cls_by {tk : Tok} {Q : Value → Shared → Prop} (EC : ECls K C) (X : K.In h) (I : At h a C) (hq : Q (.ref C) ⟨h, g, d, t, os⟩) :
    wpAny (model prog w) A (getAttrBy (.ref a) (.str "__class__" tk) false) Q E ⟨h, g, d, t, os⟩ := by
  obtain ⟨o, hx, hc⟩ := id I
  have f3 := F.attr_ValueError.ga.bind (.ref a)
  have z2 : (Value.builtin "BaseException.__getattribute__" == Value.builtin "object.__getattribute__") = false := by decide +kernel
  have z1 : (onTheHeap (Value.ref C) && Value.builtin "BaseException.__getattribute__" == Value.builtin "object.__getattribute__") = false := by rw [z2]; rfl
  have L1 := looks_findIn (M := model prog w) X EC.ga
  have L2 := looks_findIn (M := model prog w) X EC.gt
  repeat (any_goals (first | assumption | (with_reducible refine wpAny_loadPart_at hx ?_; rw [hc]) | with_reducible refine L1.at ?_ | with_reducible refine L2.at ?_ | wp_step))
  refine cls_call EC X I ?_
  repeat (any_goals (first | assumption | wp_step))
theorem cls_attr {Q : Option Value → Shared → Prop} (EC : ECls K C) (X : K.In h) (I : At h a C) (hq : Q (some (.ref C)) ⟨h, g, d, t + 1, os⟩) :
    wpAny (model prog w) A (getAttr? (.ref a) "__class__") Q E ⟨h, g, d, t, os⟩ := by
  unfold getAttr? getAttrBy?
  repeat (any_goals (first | assumption | with_reducible apply cls_by EC X I | wp_step))
end
/-- except S: an exception of the class C, which is S or under S -/
theorem matches_own {M : Model} {A : Around} {E : Value → Shared → Prop} {K : PySem.W.Frag} {h : Heap} {g : Array GenState} {d : Drawn} {t : Nat} {os : OsState} {a C S : Addr} {Q : Bool → Shared → Prop} (X : K.In h) (I : At h a C)
    (ES : ECls K S) (ty : typeIn K (.ref S) = some (.type "type")) (m : mroIn K C (.ref S) = some true) (hq : Q true ⟨h, g, d, t, os⟩) : wpAny M A (excMatches (.ref a) (.ref S)) Q E ⟨h, g, d, t, os⟩ := by
  obtain ⟨o, hx, hc⟩ := id I
  have LT := looks_typeIn (M := M) X ty
  have LB := looks_mroIn (M := M) X ES.be
  have LS := looks_mroIn (M := M) X m
  have LE := At.type (M := M) I
  have LI : Looks M h (isType (.ref S)) true := by
    obtain ⟨cd, hcd, _⟩ := Option.bind_eq_some_iff.mp ES.ob
    unfold clsIn at hcd
    split at hcd
    · rename_i ho
      intro A' Q' E' s' k q
      unfold isType loadHead
      exact wpAny_bind (wpAny_loadPart (k _ _ (X _ _ ho)) (wpAny_pure q))
    · cases hcd
  have f := tc_notTuple
  unfold excMatches isExcClass isInstance
  repeat (first | with_reducible refine LT.at ?_ | with_reducible refine LE.at ?_ | with_reducible refine LI.at ?_ | with_reducible refine LB.at ?_ | with_reducible refine LS.at ?_ | wp_step)
  exact hq
/-- what isinstance asks of an exception of an own class -/
theorem kitx_exc {K : PySem.W.Frag} {a C : Addr} (EC : ECls K C) : KitX K (.ref a) (.ref C) (fun h => At h a C) where
  ty := fun _ _ _ I => At.type I
  it := fun _ _ X _ => by
    obtain ⟨cd, hc, _⟩ := Option.bind_eq_some_iff.mp EC.ob
    unfold clsIn at hc
    split at hc
    · rename_i ho
      intro A' Q' E' s' k q
      unfold isType loadHead
      exact wpAny_bind (wpAny_loadPart (k _ _ (X _ _ ho)) (wpAny_pure q))
    · cases hc
  ne := fun h tp dd its n sl X htp => by
    obtain ⟨cd, hc, _⟩ := Option.bind_eq_some_iff.mp EC.ob
    refine Bool.eq_false_iff.mpr fun q => ?_
    have e : C = tp := Value.ref.inj (beq_iff_eq.mp q)
    subst e
    unfold clsIn at hc
    split at hc
    · rename_i ho
      have z := (X _ _ ho).symm.trans htp
      cases z
    · cases hc
  ca := fun {_ _ _ _ _ s} X I k => by
    obtain ⟨h, g, d, t, os⟩ := s
    exact cls_attr EC X I k
end EX
end

section
set_option Elab.async false
set_option linter.all false
set_option maxRecDepth 100000
set_option maxHeartbeats 2000000
namespace L2
open PySem PySem.Spec PyProof.Rows

/-- how an exception lies behind a call: B holds all that the frames are not -/
def CXe (P : Program) (w : World) : CXT := fun outer H s E e s' => ∃ (a : Addr) (C a0 : Value) (B : Heap) (H' : Hp),
  e = .ref a ∧ s'.os = s.os ∧ AllBare s'.gens ∧ Un (frs outer) [] H H' s.heap s'.heap ∧ HOk P w H' B ∧
  (∀ b o, s.heap.get? b = some o → H b = none → b ∉ frs outer → B.get? b = some o) ∧ (∀ b o, s.heap.get? b = some o → b ∉ frs outer → ∃ o', B.get? b = some o') ∧
  Heap.FlyingW B outer a C a0 s'.heap ∧ E C none H'

theorem ObjOk.here {P : Program} {w : World} {H : Hp} {h : Heap} {a : Addr} {o : HO} (x : ObjOk P w H h a o) : ∃ u, h.get? a = some u := by
  cases o with
  | lst xs => obtain ⟨_, _, _, _, e⟩ := x; exact ⟨_, e⟩
  | tup xs => obtain ⟨_, _, _, o, e, _⟩ := x; exact ⟨_, e⟩
  | dK kvs => obtain ⟨_, _, _, _, o, _, _, e, _⟩ := x; exact ⟨_, e⟩
  | dT kvs => obtain ⟨_, _, _, _, o, _, _, e, _⟩ := x; exact ⟨_, e⟩
  | set S n => obtain ⟨o, _, _, _, e, _⟩ := x; exact ⟨_, e⟩
  | ins C dx fs => obtain ⟨_, _, _, e, _⟩ := x; exact ⟨_, e⟩
  | own y => exact x
  | xd fs => obtain ⟨_, ⟨_, _, _, e, _⟩, _⟩ := x; exact ⟨_, e⟩
  | rng lo hi => obtain ⟨_, _, _, e⟩ := x; exact ⟨_, e⟩
  | frz ob u => obtain ⟨e, _⟩ := x; exact ⟨_, e⟩
  | tbl ps => exact ⟨_, (show h.get? a = some _ from x)⟩
  | met f y => exact ⟨_, (show h.get? a = some _ from x)⟩
  | ext φ => obtain ⟨_, e, _⟩ := x; exact e

section
variable {X : Cx} {pins : List (Addr × Obj)} {σ : St} {H H1 : Hp} {s s' : Shared} {h' B : Heap} {a : Addr} {C a0 : Value} {E : XK}
/-- a frame that runs is no record -/
theorem Inv.noRec (I : Inv X pins σ H s) {b : Addr} {o : Obj} (hb : b ∈ frs X.stack) (e : s.heap.get? b = some o) : ∀ vs, o.data ≠ .fields vs := by
  obtain ⟨_, o', e', n⟩ := I.stack.mem hb
  rw [e] at e'
  cases e'
  exact n
/-- what the flight leaves: as behind the call, where B stands and the frames' slots alone have changed -/
theorem Inv.flown (I : Inv X pins σ H s) (un : Un (frs X.stack) [] H H1 s.heap s'.heap) (kB : ∀ b o, s.heap.get? b = some o → H b = none → b ∉ frs X.stack → B.get? b = some o)
    (tB : ∀ b o, s.heap.get? b = some o → b ∉ frs X.stack → ∃ o', B.get? b = some o') (st : B.StaysIn h') (up : s'.heap.UpToSlots h') : Un (frs X.stack) [] H H1 s.heap h' where
  keep := fun b o e n hb _ => st b o (kB b o e n hb)
  slot := fun b o e n hb hx => by
    obtain ⟨sl, e1⟩ := un.slot b o e n hb hx
    obtain ⟨sl', e2⟩ := up b _ e1 (show ∀ vs, o.data ≠ _ from I.noRec hb e)
    exact ⟨sl', e2⟩
  free := un.free
  there := fun b o e hx => by
    by_cases hb : b ∈ frs X.stack
    · obtain ⟨sl, e1⟩ := un.slot b o e (I.stkFree b hb) hb hx
      obtain ⟨sl', e2⟩ := up b _ e1 (show ∀ vs, o.data ≠ _ from I.noRec hb e)
      exact ⟨_, e2⟩
    · obtain ⟨o', e1⟩ := tB b o e hb
      exact ⟨o', st b o' e1⟩
  tups := un.tups
  frzs := un.frzs
  tbls := un.tbls
/-- .. seen from the caller of this body -/
theorem Inv.cxe (I : Inv X pins σ H s) (hex : X.ex = []) (un : Un (frs X.stack) [] H H1 s.heap s'.heap) (kB : ∀ b o, s.heap.get? b = some o → H b = none → b ∉ frs X.stack → B.get? b = some o)
    (tB : ∀ b o, s.heap.get? b = some o → b ∉ frs X.stack → ∃ o', B.get? b = some o') (os : s'.os = s.os) (bare : AllBare s'.gens) (hok : HOk X.prog X.w H1 B) (up : s'.heap.UpToSlots h') (fl : Heap.FlyingW B X.outer a C a0 h') (hE : E C none H1) :
    CXe X.prog X.w X.outer X.H₀ X.s₀ E (.ref a) { s' with heap := h' } := by
  have nx : ∀ b : Addr, b ∉ X.ex := fun b => by rw [hex]; simp
  have old : ∀ b o, X.s₀.heap.get? b = some o → b ≠ X.env.locals := fun b o e => Nat.ne_of_lt (Nat.lt_of_lt_of_le (Heap.lt_size e) I.ok.above)
  have nst : ∀ b o, X.s₀.heap.get? b = some o → b ∉ frs X.outer → b ∉ frs X.stack := fun b o e hb z => (List.mem_cons.mp (I.stkSub b z)).elim (old b o e) hb
  have out : ∀ b, b ∈ frs X.outer → b ∈ frs X.stack := fun b hb => by
    rcases I.ok.stk with z | ⟨z, hf⟩
    · rw [z]; exact hb
    · rw [z]; unfold frs; rw [List.filterMap_cons, hf]; exact List.mem_cons_of_mem _ hb
  have un2 := I.flown un kB tB fl.1 up
  refine ⟨a, C, a0, B, H1, rfl, os.trans I.os, bare, ⟨fun b o e n hb _ => ?_, fun b o e n hb _ => ?_, fun b o e n _ => ?_, fun b o e _ => ?_, fun b xs e => un.tups b xs (I.base.tups b xs e), fun b o u e => un.frzs b o u (I.base.frzs b o u e), fun b ps e => ?_⟩, hok, fun b o e n hb => ?_, fun b o e hb => ?_, fl, hE⟩
  · exact un2.keep b o (I.base.keep b o e n hb (nx b)) (I.base.free b o e n (nx b)) (nst b o e hb) (by simp)
  · obtain ⟨sl, e1⟩ := I.base.slot b o e n hb (nx b)
    obtain ⟨sl', e2⟩ := un2.slot b _ e1 (I.base.free b o e n (nx b)) (out b hb) (by simp)
    exact ⟨sl', e2⟩
  · obtain ⟨o', e1⟩ := I.base.there b o e (nx b)
    exact un.free b o' e1 (I.base.free b o e n (nx b)) (by simp)
  · obtain ⟨o', e1⟩ := I.base.there b o e (nx b)
    exact un2.there b o' e1 (by simp)
  · obtain ⟨m1, e1⟩ := I.base.tbls b ps e
    obtain ⟨m2, e2⟩ := un.tbls b _ e1
    exact ⟨m1 ++ m2, by rw [e2, Array.append_assoc]⟩
  · exact kB b o (I.base.keep b o e n hb (nx b)) (I.base.free b o e n (nx b)) (nst b o e hb)
  · obtain ⟨o', e1⟩ := I.base.there b o e (nx b)
    exact tB b o' e1 (nst b o e hb)
end

section
variable {P : Program} {w : World} {K : PySem.W.Frag} {mg : Str → Option Value} {base : Heap} {N : List Str} {qual : Str} {scope : Scope} {f C : Addr} {cd : Value} {A : Around} {outer : List Env} {s₀ : Shared} {H₀ : Hp} {E : XK}
/-- an exception of a callee leaves this body too -/
theorem pass_on : Passes (CXe P w) (cxOf (CXe P w) P w K mg base N qual scope f cd A outer s₀ H₀ E) E := by
  intro pins σ H s e s' I h
  obtain ⟨a, C, a0, B, H1, rfl, os, bare, un, hok, kB, tB, fl, hE⟩ := h
  exact wpAny_leaves_onW I.ok.frames rfl fl fun h' x1 x2 => I.cxe rfl un kB tB os bare hok x2 x1 hE
/-- what a raise hands over -/
def Raises (X : Cx) (C : Addr) (E : XK) : Prop := ∀ (pins : List (Addr × Obj)) (σ : St) (H : Hp) (s : Shared) (h' : Heap) (a : Addr) (vs : List Value), Inv X pins σ H s → Heap.MadeExcOf s.heap h' a (.ref C) vs → E (.ref C) none H → X.xe (.ref a) { s with heap := h' }
theorem raise_out : Raises (cxOf (CXe P w) P w K mg base N qual scope f cd A outer s₀ H₀ E) C E := by
  intro pins σ H s h' a vs I m hE
  have hin : ∀ env ∈ (cxOf (CXe P w) P w K mg base N qual scope f cd A outer s₀ H₀ E).stack, ∀ b, env.frame = some b → b ∈ frs (cxOf (CXe P w) P w K mg base N qual scope f cd A outer s₀ H₀ E).stack := fun env he b hb => List.mem_filterMap.mpr ⟨env, he, hb⟩
  refine wpAny_leaves_madeW (base := PySem.W.hideAll s.heap (frs (cxOf (CXe P w) P w K mg base N qual scope f cd A outer s₀ H₀ E).stack)) I.ok.frames rfl (fun b o q => PySem.W.of_hideAll _ q) (PySem.W.funFrames_hide I.stack hin) m fun h2 t fl _ _ up => ?_
  refine I.cxe (s' := { s with heap := h' }) rfl (Un.kept m.keeps) (fun b o e _ hb => PySem.W.hideAll_get _ e hb) (fun b o e hb => ⟨o, PySem.W.hideAll_get _ e hb⟩) rfl I.bare (fun b u e => ?_) up fl hE
  refine (I.hok b u e).stay (fun c v hc q => PySem.W.hideAll_get _ q fun hm => ?_) (fun _ q => q) fun _ _ q => q
  have z := I.stkFree c hm
  rcases hc with rfl | hc
  · rw [e] at z; cases z
  · rw [hc] at z; cases z
end
section
variable {P : Program} {w : World} {K : PySem.W.Frag} {mg : Str → Option Value} {base : Heap}
/-- THE RULE for a def that may raise -/
theorem Fun.okE {x qual : Str} {st : Stmt} {f : Addr} {fd : FuncData} {N ps : List Str} {k : Nat} {sp : Sp} (F : Fun K x qual st f fd) (S : FnScope N ps (defScope st)) (len : ∀ vs H Q E, sp vs H Q E → vs.length = ps.length)
    (hbody : ∀ (cdv : Value) (A : Around) (outer : List Env) (s : Shared) (H : Hp) (vs : List V) (Q : VK) (E : XK), Room k (A.deeper (envOfC qual (defScope st) s.heap.objs.size f cdv)) → sp vs H Q E →
      ∃ t, PSs (cxOf (CXe P w) P w K mg base N qual (defScope st) f cdv A outer s H E) (defBody st) t ∧ t { nx := fun _ H' => Q .non H', rt := Q } (start N vs) H) : FnOk P w K mg base (CXe P w) (k + 1) f fd ps sp := by
  obtain ⟨oc, od, kV, doc, pm, an, cdv, ct, osl, rfl, lk, hcd⟩ := F.ex
  exact fn_of lk hcd S len fun A outer s H vs Q E hr hsp => hbody cdv A outer s H vs Q E hr hsp
end

/-! ### raise C(e, ..) -/
theorem exc_obj {K : PySem.W.Frag} {h : Heap} {C : Addr} {bmB : List Value} {newId : String} (X : K.In h) (q : PySem.W.excIn K C bmB newId = true) :
    ∃ bm N nm qn bs hdct sn sub ab col dd k0 k1 k2 k3 k5 mN, h.get? C = some (excClassObj nm qn C N bs bm hdct sn sub ab col dd k0 k1 k2 k3 k5 newId) ∧ h.Ns N mN ∧ mN "__init__" = none ∧ OwnTail h bmB bm := by
  unfold PySem.W.excIn at q
  split at q
  · rename_i dd cd sl ho
    split at q
    · rename_i C' bm k0 k1 k2 k3 n k5 hm hs
      rw [Bool.and_eq_true, Bool.and_eq_true, Bool.and_eq_true, Bool.and_eq_true, Bool.and_eq_true, beq_iff_eq, beq_iff_eq, beq_iff_eq, Bool.not_eq_true'] at q
      obtain ⟨⟨⟨⟨⟨e1, e2⟩, hdel⟩, ht⟩, hns⟩, hin⟩ := q
      subst e1 e2
      obtain ⟨nm, bs, mro, ns, qn, hd, sn, sub, ab, col, del⟩ := cd
      dsimp only at hm hdel hns hin
      subst hm hdel
      have hsl : sl = #[k0, k1, k2, k3, some (.builtin n), k5] := by
        obtain ⟨l⟩ := sl
        simp only at hs
        rw [hs]
      subst hsl
      refine ⟨bm, ns, nm, qn, bs, hd, sn, sub, ab, col, dd, k0, k1, k2, k3, k5, h.nsMap ns, X _ _ ho, ?_, ?_, PySem.W.tail_of_in X ht⟩
      · exact .of_isNs (PySem.W.isNs_of_in X hns)
      · exact PySem.W.nsMap_none_of_in X hns hin
    · cases q
  · cases q
section
variable {X : Cx} {x : Str} {C : Addr} {bm : List Value} {B newId initId : String} {np cpos pos : Pos} {e : Expr} {es : List Expr} {t : TA} {E : XK}
def tRaise (C : Addr) (E : XK) (t : TA) : TS := fun _ σ H => t σ H fun vs H1 => vs.length ≤ sizeLine ∧ E (.ref C) none H1
theorem ps_raise (hg : Gl X x) (hm : X.mg x = some (.ref C)) (q : PySem.W.excIn X.K C bm newId = true) (FB : ExcBaseFacts B newId initId bm) (hc : X.calm = true) (hx : Raises X C E) (ha : PA X (e :: es) t) (hd : (x == ("__debug__" : Str)) = false := by decide)
    (he : starEach (e :: es) X.env = (false, eval e X.env) :: starEach es X.env := by rfl) (hpl : (backTo cpos (starEach es X.env)).any (·.1) = false := by rfl) :
    PS X (.Raise (some (.Call (.Name x np) (e :: es) [] cpos)) none pos) (tRaise C E t) := by
  intro pins s σ H D I h
  obtain ⟨tl, N, nm, qn, bs, hdct, sn, sub, ab, col, dd, k0, k1, k2, k3, k5, mN, hC, hN, hni, T⟩ := exc_obj I.mod.kin q
  refine wpAny_Raise_call_subT (C := C) (nm := nm) (q := qn) (N := N) (bs := bs) (bm := tl) (hdct := hdct) (sn := sn) (sub := sub) (ab := ab) (col := col) (dd := dd) (k0 := k0) (k1 := k1) (k2 := k2) (k3 := k3) (k5 := k5) FB (mN := mN) (T.hasType FB.hasBase) (I.ok.hd hc)
    (by rw [he]; show (false || (backTo cpos (starEach es X.env)).any (·.1)) = false; rw [hpl]; rfl) hni (ld_glob I hg hm ⟨rfl, ?_⟩ hd)
  have h1 := ha cpos pins s σ H _ I h
  rw [he] at h1 ⊢
  refine Calls.evalArgs_plain (thn h1 fun us s2 ⟨vs, H2, I2, r, z, q2⟩ => ⟨rfl, ?_, I2.bk _ _ hC, hN.keeps I2.bk, T.keeps I2.bk, fun h' a m => hx pins σ H2 s2 h' a us I2 m q2⟩)
  show us.length ≤ sizeLine
  rw [← r.length]; exact z
end
end L2
end

section
set_option Elab.async false
set_option linter.all false
set_option maxRecDepth 100000
set_option maxHeartbeats 2000000
namespace L2
open PySem PySem.Spec PyProof.Rows

/-! ### code whose exception is met here; the names are as they were when it came -/
def XP (X : Cx) (pins : List (Addr × Obj)) (σ : St) (E : XK) : Value → Shared → Prop := fun e s' => ∃ H s, Inv X pins σ H s ∧ CXe X.prog X.w X.stack H s E e s'
abbrev TX := Ends → XK → St → Hp → Prop
def PEx (X : Cx) (e : Expr) (t : St → Hp → VK → XK → Prop) : Prop :=
  ∀ (pins : List (Addr × Obj)) (s : Shared) (σ : St) (H : Hp) (Q : VK) (E : XK), Inv X pins σ H s → t σ H Q E → wpAny (model X.prog X.w) X.A (eval e X.env) (EP X pins σ Q) (XP X pins σ E) s
def PSx (X : Cx) (st : Stmt) (t : TX) : Prop :=
  ∀ (pins : List (Addr × Obj)) (s : Shared) (σ : St) (H : Hp) (D : Ends) (E : XK), Inv X pins σ H s → t D E σ H → wpAny (model X.prog X.w) X.A (exec st X.env) (SP X pins D) (XP X pins σ E) s
section
variable {X : Cx} {k : Nat} {f : Addr} {fd : FuncData} {ps : List Str} {sp : Sp} {x : Str} {p pos : Pos} {e : Expr} {es : List Expr} {t : TA}
def tCallX (sp : Sp) (t : TA) : St → Hp → VK → XK → Prop := fun σ H Q E => t σ H fun vs H1 => sp vs H1 Q E
theorem pex_call (F : FnOk X.prog X.w X.K X.mg X.base (CXe X.prog X.w) k f fd ps sp) (hr : Room k X.A) (hg : Gl X x) (hm : X.mg x = some (.ref f)) (hk : PySem.W.keepIn X.K (.ref f) = true) (hb : Binds X.K fd ps [])
    (ha : PA X.nox (e :: es) t) (hdb : (x == ("__debug__" : Str)) = false := by decide) (he : starEach (e :: es) X.env = (false, eval e X.env) :: starEach es X.env := by rfl) (hpl : (backTo pos (starEach es X.env)).any (·.1) = false := by rfl) :
    PEx X (.Call (.Name x p) (e :: es) [] pos) (tCallX sp t) := by
  intro pins s σ H Q E I h
  refine wpAny_Call_Name_kw (ld_glob I hg hm ?_ hdb)
  refine PySem.W.callWith_K (h₀ := X.base) I.ok.mod.kin hk (wpAny_mono (ha pos pins s σ H _ (I.wish _) h) (fun us s1 ⟨vs, H1, I0, r, q⟩ => ?_) fun _ _ z => False.elim z) he hpl
  have I1 : Inv X pins σ H1 s1 := I0.unwish
  refine ⟨I1.kIn, ?_⟩
  have hl : us.length = ps.length := by rw [← r.length]; exact F.len _ _ _ _ q
  have hb1 := hb s1 us I1.kIn (by rw [List.append_nil]; exact hl)
  rw [List.append_nil] at hb1
  refine wpAny_call (codeAny_mono (F.run X.A X.stack s1 H1 ⟨us, []⟩ us vs Q E hr I1.env0 hb1 r q) fun res s' hq => ?_)
  cases res with
  | error e => exact ⟨H1, s1, I1, hq⟩
  | ok fl =>
    cases fl with
    | ret u => exact I1.after hq
    | next => exact False.elim hq
    | brk => exact False.elim hq
    | cont => exact False.elim hq
def tSetX (i : Nat) (te : St → Hp → VK → XK → Prop) : TX := fun D E σ H => te σ H (fun v H1 => D.nx (σ.set i (some v)) H1) E
theorem psx_set {i : Nat} {te : St → Hp → VK → XK → Prop} {pos' : Pos} (hN : X.N.Nodup) (hi : X.N[i]? = some x) (hx : Loc X.env.scope x) (he : PEx X e te) (hs : swapsWith e (some (.Name x pos')) pos.line X.env = pure false := by rfl)
    (hf : X.fn x = true ∨ X.env.scope.names.lookup x = some .local := by first | exact .inl rfl | exact .inr rfl | assumption) : PSx X (.Assign [.Name x pos'] e pos) (tSetX i te) := by
  intro pins s σ H D E I h
  refine wpAny_Assign_Name (thn (he pins s σ H _ E I h) fun v s1 ⟨y, H1, I1, r1, q1⟩ => ?_) hs
  exact store_ok I1 hN hi hx r1 (fun s2 I2 => ⟨_, H1, I2, q1⟩) hf
def tDropX (te : St → Hp → VK → XK → Prop) : TX := fun D E σ H => te σ H (fun _ H1 => D.nx σ H1) E
theorem psx_expr {te : St → Hp → VK → XK → Prop} (he : PEx X e te) (hs : swapsWith e none pos.line X.env = pure false := by rfl) : PSx X (.Expr e pos) (tDropX te) := by
  intro pins s σ H D E I h
  exact wpAny_Expr_any (thn (he pins s σ H _ E I h) fun v s1 ⟨x, H1, I1, r1, q1⟩ => ⟨σ, H1, I1, q1⟩) I.quiet hs
def tIfX (c : TT) (t u : TX) : TX := fun D E σ H => c σ H fun b H1 => if b = true then t D E σ H1 else u D E σ H1
theorem psx_if {c : Expr} {a b : Stmt} {tc : TT} {t u : TX} (hc : PT X.nox c tc) (ha : PSx X a t) (hb : PSx X b u) : PSx X (.If c [a] [b] pos) (tIfX tc t u) := by
  intro pins s σ H D E I h
  have one : ∀ (st : Stmt) (v : TX) (H1 : Hp) (s1 : Shared), PSx X st v → Inv X pins σ H1 s1 → v D E σ H1 → wpAny (model X.prog X.w) X.A (execs [st] X.env) (SP X pins D) (XP X pins σ E) s1 := fun st v H1 s1 hst I1 q => by
    refine wpAny_execs_cons (thn (hst pins s1 σ H1 D E I1 q) fun f s2 q2 => ?_)
    cases f with
    | next => exact wpAny_execs_nil q2
    | ret v => exact q2
    | brk => exact q2
    | cont => exact q2
  refine wpAny_If (wpAny_mono (hc pins s σ H _ (I.wish _) h) (fun d s1 ⟨H1, I0, q1⟩ => ?_) fun _ _ z => False.elim z)
  have I1 : Inv X pins σ H1 s1 := I0.unwish
  cases d with
  | true => exact one a t H1 s1 ha I1 q1
  | false => exact one b u H1 s1 hb I1 q1
end

/-! ### an except suite -/
/-- the context of a suite that meets the exception at a; nothing leaves it -/
abbrev Cx.hand (X : Cx) (a : Addr) : Cx := { X with A := X.A.mark (some (.ref a)), calm := false, xe := fun _ _ => False }
section
variable {X : Cx} {pins : List (Addr × Obj)} {σ : St} {H H1 : Hp} {s s' : Shared} {h' B : Heap} {a : Addr}
theorem Inv.hand (I : Inv X pins σ H s) (a : Addr) : Inv (X.hand a) pins σ H s :=
  ⟨⟨I.ok.mod, I.ok.kind, I.ok.glob, I.ok.blt, I.ok.above, I.ok.inj, I.ok.has, I.ok.cab, (fun z => nomatch z), I.ok.frames, I.ok.stk, I.ok.exf, I.ok.bs, I.ok.bsz, I.ok.noex, I.ok.exfs, I.ok.funs, I.ok.frf⟩,
    I.os, I.bare, I.base, I.loc, I.cell, I.free, I.freeC, I.pin, I.hok, I.len⟩
theorem Inv.unhand (hX : X.Ok) (I : Inv (X.hand a) pins σ H s) : Inv X pins σ H s := ⟨hX, I.os, I.bare, I.base, I.loc, I.cell, I.free, I.freeC, I.pin, I.hok, I.len⟩
theorem SP.unhand {D : Ends} {f : Flow} (hX : X.Ok) (h : SP (X.hand a) pins D f s') : SP X pins D f s' := by
  cases f with
  | next => obtain ⟨σ', H', I, q⟩ := h; exact ⟨σ', H', I.unhand hX, q⟩
  | brk => obtain ⟨σ', H', I, q⟩ := h; exact ⟨σ', H', I.unhand hX, q⟩
  | cont => obtain ⟨σ', H', I, q⟩ := h; exact ⟨σ', H', I.unhand hX, q⟩
  | ret u => obtain ⟨v, σ', H', I, r, q⟩ := h; exact ⟨v, σ', H', I.unhand hX, r, q⟩
/-- an exception of the class at C -/
def ExcO (a C : Addr) : HO := .ext fun h => EX.At h a C
theorem excO_ok {P : Program} {w : World} {C : Addr} {h : Heap} (x : EX.At h a C) : ObjOk P w H h a (ExcO a C) := by
  obtain ⟨o, e, c⟩ := id x
  exact ⟨x, ⟨o, e⟩, fun h1 h2 ⟨o1, e1, c1⟩ k => ⟨o1, k _ e1, c1⟩⟩
/-- the exception's address is new -/
theorem Inv.excNew (I : Inv X pins σ H s) {C a0 : Value} (un : Un (frs X.stack) [] H H1 s.heap s'.heap) (tB : ∀ b o, s.heap.get? b = some o → b ∉ frs X.stack → ∃ o', B.get? b = some o') (hok : HOk X.prog X.w H1 B)
    (fl : Heap.FlyingW B X.stack a C a0 s'.heap) : s.heap.get? a = none ∧ H1 a = none := by
  constructor
  · cases e : s.heap.get? a with
    | none => rfl
    | some o =>
      exfalso
      by_cases hb : a ∈ frs X.stack
      · obtain ⟨sl, e1⟩ := un.slot a o e (I.stkFree a hb) hb (by simp)
        obtain ⟨oe, vs, e2, _, e3, _⟩ := fl.first
        rw [e1] at e2
        cases e2
        exact I.noRec hb e vs e3
      · obtain ⟨o', e1⟩ := tB a o e hb
        have := fl.2.1
        rw [e1] at this
        cases this
  · cases e : H1 a with
    | none => rfl
    | some u =>
      obtain ⟨o, e1⟩ := ObjOk.here (hok a u e)
      have := fl.2.1
      rw [e1] at this
      cases this
/-- behind the flight, the exception tracked -/
theorem Inv.landed (I : Inv X pins σ H s) {C : Addr} (un : Un (frs X.stack) [] H H1 s.heap s'.heap) (kB : ∀ b o, s.heap.get? b = some o → H b = none → b ∉ frs X.stack → B.get? b = some o)
    (tB : ∀ b o, s.heap.get? b = some o → b ∉ frs X.stack → ∃ o', B.get? b = some o') (os : s'.os = s.os) (bare : AllBare s'.gens) (hok : HOk X.prog X.w H1 B) (hn : s.heap.get? a = none) (hn1 : H1 a = none)
    (st : B.StaysIn h') (up : s'.heap.UpToSlots h') (ha : EX.At h' a C) : Inv X pins σ (upd H1 a (ExcO a C)) { s' with heap := h' } := by
  have u := I.flown un kB tB st up
  refine I.call' (s' := { s' with heap := h' }) (ch := []) os ⟨u.keep, u.slot, fun b o e n hx => ?_, u.there, fun b xs e => ?_, fun b o xs e => ?_, fun b ps e => ?_⟩ (fun b v e => ?_) bare fun b z => absurd z (by simp)
  · rw [upd_ne (fun z => by rw [z, hn] at e; cases e)]
    exact u.free b o e n hx
  · have := u.tups b xs e
    rw [upd_ne (ne_of_none this hn1)]
    exact this
  · have := u.frzs b o xs e
    rw [upd_ne (ne_of_none this hn1)]
    exact this
  · obtain ⟨m, e1⟩ := u.tbls b ps e
    exact ⟨m, by rw [upd_ne (ne_of_none e1 hn1)]; exact e1⟩
  · by_cases hb : b = a
    · subst hb
      rw [upd_same] at e
      cases e
      exact excO_ok ha
    · rw [upd_ne hb] at e
      exact (hok b v e).stay (fun c o _ q => st c o q) (fun c q => by rw [upd_ne (ne_of_none q hn1)]; exact q) fun c xs q => by rw [upd_ne (ne_of_none q hn1)]; exact q
end

/-- a class that an except clause names -/
structure Catch (X : Cx) (x : Str) (S : Addr) : Prop where
  gl : Gl X x
  mg : X.mg x = some (.ref S)
  ec : EX.ECls X.K S
  ty : PySem.W.typeIn X.K (.ref S) = some (.type "type")
section
variable {X : Cx} {st b₀ : Stmt} {suite : List Stmt} {x n : Str} {S : Addr} {np hpos pos : Pos} {tb : TX} {th : Addr → TS} {i : Nat}
/-- what the suite is run at -/
def tTry (K : PySem.W.Frag) (S : Addr) (tb : TX) (th : Addr → TS) : TS := fun D σ H => tb D (fun c _ H1 => ∃ C, c = .ref C ∧ PySem.W.mroIn K C (.ref S) = some true ∧ ∀ a, H1 a = none → th a D σ (upd H1 a (ExcO a C))) σ H
def tTryAs (K : PySem.W.Frag) (S : Addr) (i : Nat) (tb : TX) (th : Addr → TS) : TS := fun D σ H => tb D (fun c _ H1 => ∃ C, c = .ref C ∧ PySem.W.mroIn K C (.ref S) = some true ∧ ∀ a, H1 a = none →
  th a { nx := fun σ' H' => D.nx (σ'.set i none) H', rt := D.rt, bk := fun σ' H' => D.bk (σ'.set i none) H', ct := fun σ' H' => D.ct (σ'.set i none) H' } (σ.set i (some (.ref a))) (upd H1 a (ExcO a C))) σ H
/-- the try's body, then the flight up to the clause -/
theorem try_core {hs : ExceptHandler} {E : XK} {pins : List (Addr × Obj)} {s : Shared} {σ : St} {H : Hp} {D : Ends} (hb : PSx X st tb) (hst : X.stack = X.env :: X.outer) (hfr : X.env.frame = some X.env.locals) (I : Inv X pins σ H s) (h : tb D E σ H)
    (k : ∀ (a : Addr) (c : Value) (H1 : Hp) (B : Heap) (a0 : Value) (s2 : Shared), E c none H1 → H1 a = none → Heap.FlyingW B X.stack a c a0 s2.heap →
      (∀ (h' : Heap) (C : Addr), c = .ref C → Heap.FlyingW B X.stack a c a0 h' → s2.heap.UpToSlots h' → Inv X pins σ (upd H1 a (ExcO a C)) { s2 with heap := h' }) →
      wpAny (model X.prog X.w) X.A (handleBy (.ref a) X.env [hs]) (SP X pins D) X.xe s2) :
    wpAny (model X.prog X.w) X.A (exec (.Try [st] [hs] [] [] pos) X.env) (SP X pins D) X.xe s := by
  have one : wpAny (model X.prog X.w) X.A (execs [st] X.env) (SP X pins D) (XP X pins σ E) s := by
    refine wpAny_execs_cons (thn (hb pins s σ H D E I h) fun f s1 q => ?_)
    cases f with
    | next => exact wpAny_execs_nil q
    | ret v => exact q
    | brk => exact q
    | cont => exact q
  refine wpAny_Try_except (wpAny_mono one (fun f s1 q => ?_) fun e s1 q => ?_)
  · cases f with
    | next => exact wpAny_execs_nil q
    | ret v => exact q
    | brk => exact q
    | cont => exact q
  · obtain ⟨H0, s0, I0, a, c, a0, B, H1, rfl, os, bare, un, hok, kB, tB, fl, hE⟩ := q
    obtain ⟨hn, hn1⟩ := I0.excNew un tB hok fl
    refine wpAny_looks_onW (by rw [I.ok.frames, hst]) hfr (by rw [← hst]; exact fl) fun h4 held up4 => ?_
    refine wpAny_landsW held fun h5 fl5 up5 => ?_
    rw [← hst] at fl5
    refine k a c H1 B a0 { s1 with heap := h5 } hE hn1 fl5 fun h' C ec fl' up' => ?_
    obtain ⟨ob, h1, h2⟩ := fl'.there
    exact I0.landed (s' := s1) un kB tB os bare hok hn hn1 fl'.1 ((up4.trans up5).trans up') ⟨ob, h1, h2.trans ec⟩
theorem ps_try (hb : PSx X st tb) (c : Catch X x S) (hh : ∀ a, PSs (X.hand a) (b₀ :: suite) (th a)) (hst : X.stack = X.env :: X.outer := by rfl) (hfr : X.env.frame = some X.env.locals := by rfl) (hd : (x == ("__debug__" : Str)) = false := by decide) :
    PS X (.Try [st] [.ExceptHandler (some (.Name x np)) none (b₀ :: suite) hpos] [] [] pos) (tTry X.K S tb th) := by
  intro pins s σ H D I h
  refine try_core hb hst hfr I h fun a cv H1 B a0 s2 hE hn1 fl land => ?_
  obtain ⟨C, rfl, hm, q⟩ := hE
  have I2 := land s2.heap C rfl fl (fun b o e _ => ⟨o.slots, e⟩)
  refine wpAny_handleBy_cons (codeAny_handlers_test (ld_glob (I2.hand a) c.gl c.mg ?_ hd)) (by intro z; cases z)
  obtain ⟨ob, h1, h2⟩ := fl.there
  obtain ⟨hp, g, d, tk, os⟩ := s2
  refine EX.matches_own (K := X.K) I2.kIn ⟨ob, h1, h2⟩ c.ec c.ty hm (codeAny_handlers_suite ?_)
  refine lands_againW fl fun h6 fl6 up6 => ?_
  have I6 := land h6 C rfl fl6 up6
  exact wpAny_mono (hh a pins _ σ _ D (I6.hand a) (q a hn1)) (fun f s4 q4 => SP.unhand I.ok q4) fun _ _ z => False.elim z
/-- the name of the clause goes behind its suite -/
theorem name_goes {pins : List (Addr × Obj)} {s : Shared} {σ : St} {H : Hp} {a : Addr} {A : Around} {E : Value → Shared → Prop} {Q : Unit → Shared → Prop} (I : Inv X pins σ H s) (hN : X.N.Nodup) (hi : X.N[i]? = some n) (hl : X.env.scope.names.lookup n = some .local)
    (h : ∀ s', Inv X pins (σ.set i none) H s' → Q () s') : wpAny (model X.prog X.w) A (do bindName X.env n .none; unbindBehindTheSuite X.env n hpos) Q E s := by
  obtain ⟨m, hn, hv⟩ := id I.loc
  have hcls : (X.env.scope.kind == .class || (X.env.scope.kind == .module && X.env.locals != X.env.globals)) = false := by rw [I.ok.kind]; rfl
  refine wpAny_nameGoes_keeps hl hn hcls fun h' v hn' hs => h _ ?_
  have kp : ∀ b o, b ≠ X.env.locals → s.heap.get? b = some o → h'.get? b = some o := fun b o hb e => (hs.2 b hb).trans e
  have I0 : Inv X pins (σ.set i none) H s := I.weak (by simp) fun j v e => by
    by_cases hj : j = i
    · subst hj
      rw [List.getElem?_set] at e
      split at e
      · split at e <;> cases e
      · rename_i hne; exact absurd rfl hne
    · rw [List.getElem?_set_ne (Ne.symm hj)] at e
      exact e
  have neC := I.cne
  refine ⟨I.ok, I.os, I.bare, ⟨fun b o e nn hb hx => ?_, fun b o e nn hb hx => ?_, I.base.free, fun b o e hx => ?_, I.base.tups, I.base.frzs, I.base.tbls⟩, ⟨_, hn', fun j y v' e1 e2 e3 => ?_⟩, fun y c e => ?_, I.free, I.freeC, fun p hp => ?_, fun b u e => ?_, by simpa using I.len⟩
  · exact kp b o (Nat.ne_of_lt (Nat.lt_of_lt_of_le (Heap.lt_size e) I.ok.above)) (I.base.keep b o e nn hb hx)
  · obtain ⟨sl, e1⟩ := I.base.slot b o e nn hb hx
    exact ⟨sl, kp b _ (Nat.ne_of_lt (Nat.lt_of_lt_of_le (Heap.lt_size e) I.ok.above)) e1⟩
  · obtain ⟨o', e1⟩ := I.base.there b o e hx
    exact ⟨o', kp b _ (Nat.ne_of_lt (Nat.lt_of_lt_of_le (Heap.lt_size e) I.ok.above)) e1⟩
  · have hj : j ≠ i := fun z => by
      subst z
      rw [List.getElem?_set] at e2
      split at e2
      · split at e2 <;> cases e2
      · rename_i hne; exact absurd rfl hne
    rw [List.getElem?_set_ne (Ne.symm hj)] at e2
    obtain ⟨u', r', q⟩ := hv j y v' e1 e2 e3
    refine ⟨u', r', ?_⟩
    rcases q with ⟨k, e⟩ | ⟨k, c, e, o, z1, z2⟩
    · refine .inl ⟨k, ?_⟩
      have : y ≠ n := fun e => hj (nodup_ix hN e1 (e ▸ hi))
      show (if y = n then v else m y) = some u'
      rw [if_neg this]
      exact e
    · exact .inr ⟨k, c, e, o, kp c o (neC y c e) z1, z2⟩
  · obtain ⟨w', o, z1, z2⟩ := I.cell y c e
    exact ⟨w', o, kp c o (neC y c e) z1, z2⟩
  · obtain ⟨e, nn, ne, nf, d⟩ := I.pin p hp
    exact ⟨kp p.1 p.2 ne e, nn, ne, nf, d⟩
  · refine (I.hok b u e).stay (fun c o hc q => kp c o ?_ q) (fun _ q => q) fun _ _ q => q
    rintro rfl
    have z := I.free
    rcases hc with rfl | hc
    · rw [e] at z; cases z
    · rw [hc] at z; cases z
theorem ps_tryAs (hb : PSx X st tb) (c : Catch X x S) (hN : X.N.Nodup) (hi : X.N[i]? = some n) (hl : X.env.scope.names.lookup n = some .local) (hh : ∀ a, PSs (X.hand a) (b₀ :: suite) (th a)) (hst : X.stack = X.env :: X.outer := by rfl) (hfr : X.env.frame = some X.env.locals := by rfl)
    (hd : (x == ("__debug__" : Str)) = false := by decide) : PS X (.Try [st] [.ExceptHandler (some (.Name x np)) (some n) (b₀ :: suite) hpos] [] [] pos) (tTryAs X.K S i tb th) := by
  intro pins s σ H D I h
  refine try_core hb hst hfr I h fun a cv H1 B a0 s2 hE hn1 fl land => ?_
  obtain ⟨C, rfl, hm, q⟩ := hE
  have I2 := land s2.heap C rfl fl (fun b o e _ => ⟨o.slots, e⟩)
  refine wpAny_handleBy_cons (codeAny_handlers_test (ld_glob (I2.hand a) c.gl c.mg ?_ hd)) (by intro z; cases z)
  obtain ⟨ob, h1, h2⟩ := fl.there
  obtain ⟨hp, g, d, tk, os⟩ := s2
  refine EX.matches_own (K := X.K) I2.kIn ⟨ob, h1, h2⟩ c.ec c.ty hm (codeAny_handlers_suite_as ?_)
  refine lands_againW fl fun h6 fl6 up6 => ?_
  have I6 := land h6 C rfl fl6 up6
  refine store_ok (X := X.hand a) (I6.hand a) hN hi (.inl hl) (v := .ref a) rfl (fun s3 I3 => ?_) (.inr hl)
  refine wpAny_mono (hh a pins s3 _ _ _ I3 (q a hn1)) (fun f s4 q4 => ?_) fun _ _ z => False.elim z
  have q5 := SP.unhand I.ok q4
  cases f with
  | next => obtain ⟨σ', H', I5, z⟩ := q5; exact name_goes (a := a) I5 hN hi hl fun s' J => ⟨_, H', J, z⟩
  | brk => obtain ⟨σ', H', I5, z⟩ := q5; exact name_goes (a := a) I5 hN hi hl fun s' J => ⟨_, H', J, z⟩
  | cont => obtain ⟨σ', H', I5, z⟩ := q5; exact name_goes (a := a) I5 hN hi hl fun s' J => ⟨_, H', J, z⟩
  | ret u => obtain ⟨v, σ', H', I5, r, z⟩ := q5; exact name_goes (a := a) I5 hN hi hl fun s' J => ⟨v, _, H', J, r, z⟩
/-- isinstance(e, C) of an exception of an own class, C an own class or a built-in one -/
theorem call_isinstE : CallR X (.builtin "isinstance") (fun xs H Q => ∃ (a C D : Addr) (b : Bool), xs = [.ref a, .ref D] ∧ H a = some (ExcO a C) ∧ EX.ECls X.K C ∧ PySem.W.kitOne X.K (.ref C) (.ref D) = some b ∧ Q (.bl b) H) := by
  intro pins s σ H xs us Q I r h
  obtain ⟨a, C, D, b, rfl, e, ec, k, q⟩ := h
  obtain ⟨u, v, rfl, ru, rv⟩ := vals2 r
  cases (show u = Value.ref a from ru)
  cases (show v = Value.ref D from rv)
  obtain ⟨x, _, _⟩ := (show ObjOk X.prog X.w H s.heap a (ExcO a C) from I.hok a _ e)
  exact PySem.W.kia_one (EX.kitx_exc ec) I.kIn x k (fun z => nomatch z) fun tk => ⟨.bl b, H, I.tok tk, rfl, q⟩
theorem call_isinstT : CallR X (.builtin "isinstance") (fun xs H Q => ∃ (a C : Addr) (n : String) (b : Bool), xs = [.ref a, .ty n] ∧ H a = some (ExcO a C) ∧ EX.ECls X.K C ∧ PySem.W.kitOne X.K (.ref C) (.type n) = some b ∧ Q (.bl b) H) := by
  intro pins s σ H xs us Q I r h
  obtain ⟨a, C, n, b, rfl, e, ec, k, q⟩ := h
  obtain ⟨u, v, rfl, ru, rv⟩ := vals2 r
  cases (show u = Value.ref a from ru)
  cases (show v = Value.type n from rv)
  obtain ⟨x, _, _⟩ := (show ObjOk X.prog X.w H s.heap a (ExcO a C) from I.hok a _ e)
  exact PySem.W.kia_one (EX.kitx_exc ec) I.kIn x k (fun z => nomatch z) fun tk => ⟨.bl b, H, I.tok tk, rfl, q⟩
end
end L2
end

section
set_option Elab.async false
set_option linter.all false
set_option maxRecDepth 100000
set_option maxHeartbeats 2000000
namespace L2
open PySem PySem.Spec PyProof.Rows
section
variable {X : Cx}
/-- xs == ys, xs != ys of two lists of ints -/
theorem op_eqL (hu : X.A.units + 64 < cLine) : OpR X (compareOp .Eq) (fun x y H Q => ∃ (a b : Addr) (ns ms : List Int), x = .ref a ∧ y = .ref b ∧ SqL X.K H a (ns.map V.int) ∧ SqL X.K H b (ms.map V.int) ∧ Q (.bl (decide (ns = ms))) H) := by
  intro pins s σ H x y v u Q I rx ry h
  obtain ⟨a, b, ns, ms, rfl, rfl, ha, hb, q⟩ := h
  cases (show v = Value.ref a from rx)
  cases (show u = Value.ref b from ry)
  obtain ⟨xs, h1, i1, _⟩ := listOk I ha
  obtain ⟨ys, h2, i2, _⟩ := listOk I hb
  exact PySem.W.ke_eq_ints h1 h2 i1 i2 hu ⟨.bl _, H, I, rfl, q⟩
theorem op_neL (hu : X.A.units + 64 < cLine) : OpR X (compareOp .NotEq) (fun x y H Q => ∃ (a b : Addr) (ns ms : List Int), x = .ref a ∧ y = .ref b ∧ SqL X.K H a (ns.map V.int) ∧ SqL X.K H b (ms.map V.int) ∧ Q (.bl (!decide (ns = ms))) H) := by
  intro pins s σ H x y v u Q I rx ry h
  obtain ⟨a, b, ns, ms, rfl, rfl, ha, hb, q⟩ := h
  cases (show v = Value.ref a from rx)
  cases (show u = Value.ref b from ry)
  obtain ⟨xs, h1, i1, _⟩ := listOk I ha
  obtain ⟨ys, h2, i2, _⟩ := listOk I hb
  exact PySem.W.ke_ne_ints h1 h2 i1 i2 hu ⟨.bl _, H, I, rfl, q⟩
theorem bools_read {h : Heap} : ∀ (bs : List Bool) (us : List Value), Vals (bs.map V.bl) us → ReadsAll h us (bs.map PyData.bool) []
  | [], _, .nil => .nil
  | b :: bs, _, .cons (b := u) r t => by
    cases (show u = Value.bool b from r)
    exact .cons (as := []) (bs := []) (.bool b) (bools_read bs _ t)
theorem bools_all (bs : List Bool) : (bs.map PyData.bool).all Shape.bool.has = true := by
  rw [List.all_map]
  exact List.all_eq_true.mpr fun b _ => rfl
theorem countIn_bools (k : Bool) : ∀ bs : List Bool, countIn (.bool k) (bs.map PyData.bool) = ((bs.count k : Nat) : Int)
  | [] => rfl
  | b :: bs => by
    have e : same (.bool b) (.bool k) = (b == k) := by simp only [same]
    rw [List.map_cons, countIn, countIn_bools k bs, List.count_cons]
    by_cases h : (b == k) = true
    · rw [if_pos (e.trans h), if_pos h]; omega
    · rw [if_neg (fun z => h (e.symm.trans z)), if_neg h]; omega
/-- bs.count(k) of bools -/
theorem mt_countB : MtM X "list.count" (fun x vs H Q => ∃ (l : Addr) (bs : List Bool) (k : Bool), x = .ref l ∧ vs = [.bl k] ∧ H l = some (.lst (bs.map V.bl)) ∧ Q (.int (bs.count k : Nat)) H) := by
  intro pins s σ H x vs v us Q I rx rv h
  obtain ⟨l, bs, k, rfl, rfl, hH, q⟩ := h
  cases (show v = Value.ref l from rx)
  obtain ⟨u, rfl, ru⟩ := rv.one
  cases (show u = Value.bool k from ru)
  obtain ⟨z, its, n, r, hl, e⟩ := I.lstM hH
  refine count_list_bools (vs := its) (hp := s.heap) ⟨_, e, rfl, n, rfl⟩ (bools_read bs its r) (bools_all bs) ?_
  rw [countIn_bools]
  exact ⟨.int _, H, I.tok _, ⟨_, rfl⟩, q⟩
end
/-- [te for x in xs] of a list that stays; te may lay new things -/
theorem comp_mapS {K : PySem.W.Frag} {a p : Addr} {xs : List V} {te : TE} {σc : St} {H1 : Hp} {Q : Hp → Prop} {j : Nat} (f : V → V) (hp : H1 p = none) (hS : SqL K H1 a xs) (hz : xs.length ≤ sizeLine)
    (he : ∀ (i : Nat) (x : V) (H : Hp) (R : VK), xs[i]? = some x → Same H1 H → (∀ H', Same H H' → R (f x) H') → te (σc.set j (some x)) H R)
    (hQ : ∀ H, Same H1 H → H p = some (.lst (xs.map f)) → Q H) : CompW (Itl K a) (gName j) tYes te p σc H1 Q := by
  refine ⟨fun i m σ' ys H => m = xs.length - i ∧ i ≤ xs.length ∧ (∀ o, σ'.set j o = σc.set j o) ∧ ys = (xs.take i).map f ∧ Same H1 H ∧ H p = some (.lst ys), ⟨_, rfl, Nat.zero_le _, fun _ => rfl, by simp, same_upd hp, upd_same⟩, ?_⟩
  rintro i m σ' ys H ⟨rfl, hi, hσ, rfl, hs, hpy⟩
  have q : SqL K H a xs := hs.seq hS
  by_cases hlt : i < xs.length
  · refine .inr ⟨⟨xs, xs[i], q, by simp [hlt]⟩, fun σ2 ys' H' => (∀ o, σ2.set j o = σc.set j o) ∧ ys' = (xs.take (i + 1)).map f ∧ Same H1 H' ∧ H' p = some (.lst ys'), fun σ2 ys' H' ⟨a1, a2, a3, a4⟩ => ⟨xs.length - (i + 1), by omega, rfl, hlt, a1, a2, a3, a4⟩, fun x H' y => ?_⟩
    obtain ⟨e, y⟩ := y
    subst e
    have hx := y xs q
    dsimp only [gName, tYes]
    rw [if_pos rfl, hσ]
    refine he i x _ _ hx hs fun H' s' => ⟨(xs.take i).map f, s' _ _ hpy, ?_, fun o => set_set, ?_, ?_, upd_same⟩
    · rw [List.length_map, List.length_take]; omega
    · rw [List.take_add_one, hx]; simp
    · intro b o e
      rw [upd_ne (ne_of_none e hp)]
      exact s' b o (hs b o e)
  · have e : i = xs.length := by omega
    subst e
    refine .inl ⟨⟨xs, q, Nat.le_refl _⟩, ?_⟩
    rw [List.take_length] at hpy
    exact hQ H hs hpy
end L2
end

section
set_option Elab.async false
set_option linter.all false
set_option maxRecDepth 100000
set_option maxHeartbeats 2000000
namespace L2
open PySem PySem.Spec PyProof.Rows
/-- a number of at most a hundred and twenty figures -/
def Big (k : Int) : Prop := -(10 ^ 120) < k ∧ k < 10 ^ 120
theorem Big.bits {k : Int} (h : Big k) : Builtin.Int.intBits k ≤ 2 ^ 20 := by
  obtain ⟨a, b⟩ := h
  have h1 : k.natAbs < 10 ^ 120 := by omega
  have h2 : (10 : Nat) ^ 120 ≤ 2 ^ 400 := by decide +kernel
  have h3 : Builtin.Int.intBits k ≤ 400 := by
    unfold Builtin.Int.intBits
    split
    · exact Nat.zero_le _
    · have : k.natAbs.log2 < 400 := by
        rcases Nat.eq_zero_or_pos k.natAbs with h0 | hp
        · rw [h0]; decide
        · exact (Nat.log2_lt (Nat.ne_of_gt hp)).mpr (Nat.lt_of_lt_of_le h1 h2)
      omega
  exact Nat.le_trans h3 (by decide)
section
variable {X : Cx}
/-- a * b of such numbers -/
theorem op_mulL : OpR X (binaryOp .Mult) (rI (fun i j => Big i ∧ Big j) fun i j => .int (i * j)) := opI fun _ _ _ _ _ _ _ hc q => mul_int q (IntMulOk.of_bits hc.1.bits hc.2.bits)
end
end L2
end

section
set_option Elab.async false
set_option linter.all false
set_option maxRecDepth 100000
set_option maxHeartbeats 2000000
namespace RV
open PySem PySem.W PySem.Spec PyProof.Rows
theorem nolen : typeLookup (.type "list_reverseiterator") "__len__" = pure none := by rw [typeLookup_type, builtinLookup_eq_fast]; kernel_rfl
theorem hint : typeLookup (.type "list_reverseiterator") "__length_hint__" = pure (some (.builtin "list_reverseiterator.__length_hint__")) := by rw [typeLookup_type, builtinLookup_eq_fast]; kernel_rfl
section
variable {prog : Program} {w : World} {A : Around} {E : Value → Shared → Prop} {s : Shared} {I l : Addr} {items : Array Value}
theorem ext {R : Result → Shared → Prop} (hh : A.handled = none) (hne : l ≠ I) (S : Addr) (hSI : S ≠ I) (hSl : S ≠ l) (res : Value) (c₀ : Nat) (hit : s.heap.IsRevIter I l ((items.size : Int) - 1)) (hl : s.heap.IsList l items)
    (hS : s.heap.get? S = some { cls := .type "list", data := .seq #[] c₀ })
    (hR : ∀ h' tk acc' c', (∀ b o, b ≠ S → b ≠ I → s.heap.get? b = some o → h'.get? b = some o) → h'.get? S = some { cls := .type "list", dict := none, data := .seq acc' c', slots := #[] } →
      ItemsOf (fun i v => items[items.size - 1 - i]? = some v) acc' items.size → R (.ok (.ret res)) { s with heap := h', toks := tk }) (hn : items.size ≤ sizeLine) :
    wpAny (model prog w) A.in1 (Builtin.List.listExtendWith (.ref S) (.ref I) res)
      (fun fin s' => match fin with | .done f => R (.ok f) s' | .again c' => c'.quiet = true ∧ codeAny (model prog w) A c' R s') (fun e s' => R (.error e) s') s := by
  have W := PySem.Walks.listRev (prog := prog) (w := w) (A := A.in1) hh I l hne items
  have hSf : S ∉ [I, l] := by
    simp only [List.mem_cons, List.not_mem_nil, or_false, not_or]
    exact ⟨hSI, hSl⟩
  have hT : s.TypeIs (.ref I) "list_reverseiterator" := hit.typeIs
  unfold Builtin.List.listExtendWith
  refine wpAny_bind (wpAny_typeOf hT ?_)
  have h1 : Builtin.List.listSameRef (.ref S) (.ref I) = false := by
    simp [Builtin.List.listSameRef, hSI]
  rw [if_neg (by rw [h1]; decide)]
  refine wpAny_bind (wpAny_pyIter_revIter hit ?_)
  refine wpAny_bind (wpAny_holding ?_)
  unfold Builtin.List.listLengthHint
  refine wpAny_bind (wpAny_specialOf hT nolen ?_)
  show wpAny _ A.in1 (specialOf (Value.ref I) (Str.ofString "__length_hint__") >>= _) _ _ _
  refine wpAny_bind (wpAny_specialOf hT hint ?_)
  (generalize hid : ("list_reverseiterator.__length_hint__" : String) = id0; (fail_if_success (clear hid id0)); wp_delta; rw [show splitId id0 = some ("list_reverseiterator", "__length_hint__") from by subst hid; decide +kernel]; subst hid)
  refine wpAny_bind (wpAny_isInstance (b := true) hT (by rw [isSubtype_type]; kernel_rfl) ?_)
  refine wpAny_pure ?_
  rw [if_neg (by decide)]
  have st0 : (fun i (h : Heap) => i ≤ items.size ∧ h.IsRevIter I l ((items.size : Int) - 1 - (i : Int)) ∧ h.IsList l items) 0 s.heap := by
    refine ⟨Nat.zero_le _, ?_, hl⟩
    rw [show (items.size : Int) - 1 - ((0 : Nat) : Int) = (items.size : Int) - 1 by omega]
    exact hit
  refine wpAny_pure ⟨plainId_quiet PySem.F.plain_extend_loop _, codeAny_extend_loopS W.toS hn S hSf res items.size 0 _ #[] c₀ rfl (Nat.zero_le _) st0 hS (ItemsOf.nil _) fun s' acc' c' hm hS' hacc => ?_⟩
  rw [Moved.eq_with hm]
  refine hR s'.heap s'.toks acc' c' (fun b o hS2 hI2 e => hm.heap b o (fun hmem => ?_) e) hS' hacc
  rcases List.mem_cons.mp hmem with z | hmem
  · exact hS2 z
  · exact hI2 (List.mem_singleton.mp hmem)
theorem init {R : Result → Shared → Prop} (hh : A.handled = none) (hne : l ≠ I) (S : Addr) (hSI : S ≠ I) (hSl : S ≠ l) (hit : s.heap.IsRevIter I l ((items.size : Int) - 1)) (hl : s.heap.IsList l items)
    (hS : s.heap.get? S = some { cls := .type "list", data := .seq #[] })
    (hR : ∀ h' tk acc' c', (∀ b o, b ≠ S → b ≠ I → s.heap.get? b = some o → h'.get? b = some o) → h'.get? S = some { cls := .type "list", dict := none, data := .seq acc' c', slots := #[] } →
      ItemsOf (fun i v => items[items.size - 1 - i]? = some v) acc' items.size → R (.ok (.ret .none)) { s with heap := h', toks := tk }) (hn : items.size ≤ sizeLine) :
    wpAny (model prog w) A.in1 (Builtin.«list.__init__» ⟨[.ref S, .ref I], []⟩)
      (fun fin s' => match fin with | .done f => R (.ok f) s' | .again c' => c'.quiet = true ∧ codeAny (model prog w) A c' R s') (fun e s' => R (.error e) s') s := by
  show wpAny _ _ (do let old ← Builtin.List.listItems (.ref S); Builtin.List.listUpdate (.ref S) (fun _ => #[]); letGo old.toList.reverse; Builtin.List.listExtendWith (.ref S) (.ref I) .none) _ _ s
  refine wpAny_bind ?_
  unfold Builtin.List.listItems
  refine wpAny_bind (wpAny_seqItems hS rfl (wpAny_pure ?_))
  show wpAny _ _ (updateSeq S (fun _ => #[]) >>= fun _ => letGo (#[] : Array Value).toList.reverse >>= fun _ => Builtin.List.listExtendWith (.ref S) (.ref I) .none) _ _ s
  refine wpAny_bind (wpAny_updateSeq hS rfl ?_)
  have hS₂ := Heap.get?_update_self (Obj.mapSeq (fun _ => (#[] : Array Value))) hS rfl
  have keep : ∀ b o, b ≠ S → s.heap.get? b = some o → (s.heap.update S (Obj.mapSeq (fun _ => (#[] : Array Value)))).get? b = some o := fun b o hb e => (Heap.get?_update_other _ _ (Ne.symm hb)).trans e
  refine wpAny_bind (wpAny_letGo ?_)
  refine ext hh hne S hSI hSl .none _ (hit.at fun o e => keep I o (Ne.symm hSI) e) (hl.at fun o e => keep l o (Ne.symm hSl) e) hS₂ (fun h' tk acc' c' hk hS' hacc => ?_) hn
  exact hR h' tk acc' c' (fun b o h1 h2 e => hk b o h1 h2 (keep b o h1 e)) hS' hacc
/-- list(reversed(xs)) -/
theorem call {Q : Value → Shared → Prop} (hh : A.handled = none) (hne : l ≠ I) (hit : s.heap.IsRevIter I l ((items.size : Int) - 1)) (hl : s.heap.IsList l items) (hn : items.size ≤ sizeLine)
    (hQ : ∀ h' tk acc' c', (∀ b o, b ≠ I → s.heap.get? b = some o → h'.get? b = some o) → h'.get? s.heap.objs.size = some { cls := .type "list", dict := none, data := .seq acc' c', slots := #[] } →
      ItemsOf (fun i v => items[items.size - 1 - i]? = some v) acc' items.size → Q (.ref s.heap.objs.size) { s with heap := h', toks := tk }) :
    wpAny (model prog w) A (PySem.call (.type "list") [.ref I]) Q E s := by
  refine callType_codes (Q₁ := fun obj s₁ => obj = .ref s.heap.objs.size ∧ s₁ = { s with heap := s.heap.push { cls := .type "list", data := .seq #[] } }) PySem.F.called_list (PySem.F.typeCall_list_1 _) PySem.F.entry_list_init
    (code_list_new _ ⟨rfl, rfl⟩) fun obj s₁ h₁ => ?_
  obtain ⟨rfl, rfl⟩ := h₁
  have hS : (s.heap.push { cls := .type "list", data := .seq #[] }).get? s.heap.objs.size = some { cls := .type "list", data := .seq #[] } := Heap.get?_push_size _ rfl
  obtain ⟨oI, eI, _⟩ := id hit
  obtain ⟨ol, el, _⟩ := id hl
  refine ⟨⟨_, hS, rfl⟩, PySem.F.args_list_init_2 _ _, init (A := A.in1) hh hne _ (Nat.ne_of_gt (Heap.lt_size eI)) (Nat.ne_of_gt (Heap.lt_size el)) (hit.at fun o e => Heap.get?_push_of_some _ e) (hl.at fun o e => Heap.get?_push_of_some _ e) hS (fun h' tk acc' c' hk hS' hacc => ?_) hn⟩
  exact ⟨rfl, hQ h' tk acc' c' (fun b o h1 e => hk b o (Nat.ne_of_lt (Heap.lt_size e)) h1 (Heap.get?_push_of_some _ e)) hS' hacc⟩
end
end RV
namespace L2
open PySem PySem.Spec PyProof.Rows
theorem vals_of : ∀ {xs : List V} {us : List Value}, xs.length = us.length → (∀ (i : Nat) x u, xs[i]? = some x → us[i]? = some u → RelV x u) → Vals xs us
  | [], [], _, _ => .nil
  | [], _ :: _, h, _ => by cases h
  | _ :: _, [], h, _ => by cases h
  | x :: xs, u :: us, h, k => .cons (k 0 x u rfl rfl) (vals_of (by simpa using h) fun i y v e1 e2 => k (i + 1) y v (by simpa using e1) (by simpa using e2))
section
variable {X : Cx} {a : Expr} {ta : TA} {p q pos pos2 : Pos}
def tListRev (K : PySem.W.Frag) (ta : TA) : TE := fun σ H Q => ta σ H fun vs H1 => ∃ b xs, vs = [.ref b] ∧ SqL K H1 b xs ∧ ∀ l, H1 l = none → Q (.ref l) (upd H1 l (.lst xs.reverse))
theorem pe_listRev (hc : X.calm = true) (hgl : Gl X "list") (hml : X.mg "list" = none) (hgr : Gl X "reversed") (hmr : X.mg "reversed" = none) (ha : PA X [a] ta) (hs : starEach [a] X.env = [(false, eval a X.env)] := by rfl)
    (hs2 : starEach [.Call (.Name "reversed" q) [a] [] pos2] X.env = [(false, eval (.Call (.Name "reversed" q) [a] [] pos2) X.env)] := by rfl) :
    PE X (.Call (.Name "list" p) [.Call (.Name "reversed" q) [a] [] pos2] [] pos) (tListRev X.K ta) := by
  intro pins s σ H Q I h
  refine wpAny_Call_Name_kw (ld_blt I hgl hml PySem.Pv.boot_list ?_)
  refine PyProof.Rows.callWith_type1 (Calls.spliced_cons ?_) hs2 rfl
  refine Call_ (ld_blt I hgr hmr boot_reversed (PyProof.Rows.callWith_type1 (thn (ha pos2 pins s σ H _ I h) fun us s1 ⟨vs, H1, I1, r1, q1⟩ => ?_) hs rfl))
  obtain ⟨b, xs, e, hq, k⟩ := q1
  subst e
  obtain ⟨u, rfl, ru⟩ := vals1 r1
  cases ru
  obtain ⟨its, rv, pl, hz⟩ := I1.list hq
  have hl := rv.length
  refine call_reversed_list pl.isList ?_
  refine Calls.spliced_nil ?_
  have hit : (s1.heap.push (revObj b (((its.toArray.size : Nat) : Int) - 1))).IsRevIter s1.heap.objs.size b (((its.toArray.size : Nat) : Int) - 1) := ⟨_, Heap.get?_push_size _ rfl, rfl, rfl⟩
  have hb : b ≠ s1.heap.objs.size := by
    obtain ⟨o, e, _⟩ := id pl.isList
    exact Nat.ne_of_lt (Heap.lt_size e)
  have kp : ∀ c o, s1.heap.get? c = some o → (s1.heap.push (revObj b (((its.toArray.size : Nat) : Int) - 1))).get? c = some o := fun c o e => Heap.get?_push_of_some _ e
  refine RV.call (s := { s1 with heap := s1.heap.push (revObj b (((its.toArray.size : Nat) : Int) - 1)) }) (I1.ok.hd hc) hb hit (pl.isList.at fun o e => kp _ o e) (by rw [List.size_toArray]; omega) fun h' tk acc c hk hD hacc => ?_
  have sz : (s1.heap.push (revObj b (((its.toArray.size : Nat) : Int) - 1))).objs.size = s1.heap.objs.size + 1 := Heap.size_push _ _
  have kp2 : ∀ d o, s1.heap.get? d = some o → h'.get? d = some o := fun d o e => hk d o (Nat.ne_of_lt (Heap.lt_size e)) (kp d o e)
  have hlen : acc.size = its.length := by rw [hacc.1, List.size_toArray]
  have hvals : Vals xs.reverse acc.toList := by
    refine vals_of (by rw [List.length_reverse, hl, ← hlen]; exact (Array.length_toList).symm) fun i x u h1 h2 => ?_
    have hi : i < xs.length := by have := (List.getElem?_eq_some_iff.mp h1).1; rw [List.length_reverse] at this; exact this
    rw [List.getElem?_reverse hi] at h1
    have h3 := hacc.2 i u (by rw [← h2, Array.getElem?_toList])
    rw [List.size_toArray, List.getElem?_toArray, ← hl] at h3
    obtain ⟨u', e1, e2⟩ := rv.get h1
    rw [h3] at e1
    cases e1
    exact e2
  have new : s1.heap.objs.size ≤ (s1.heap.push (revObj b (((its.toArray.size : Nat) : Int) - 1))).objs.size := by rw [sz]; exact Nat.le_succ _
  refine ⟨.ref _, upd H1 _ (.lst xs.reverse), I1.laid (t' := tk) kp2 new ?_, rfl, k _ (I1.hok.fresh new)⟩
  exact ⟨by rw [List.length_reverse]; exact hz, acc.toList, c, hvals, by rw [Array.toArray_toList]; exact hD⟩
end
/-! ### data: numbers, texts, lists and tuples of them -/
mutual
inductive RdV (K : PySem.W.Frag) (H : Hp) : V → PyData → Prop where
  | int (i : Int) : RdV K H (.int i) (.int i)
  | str (x : Str) : RdV K H (.str x) (.str x)
  | lst {a : Addr} {xs : List V} {ds : List PyData} : SqL K H a xs → RdVs K H xs ds → RdV K H (.ref a) (.list ds)
  | tup {a : Addr} {xs : List V} {ds : List PyData} : SqT K H a xs → RdVs K H xs ds → RdV K H (.ref a) (.tuple ds)
inductive RdVs (K : PySem.W.Frag) (H : Hp) : List V → List PyData → Prop where
  | nil : RdVs K H [] []
  | cons {x : V} {d : PyData} {xs : List V} {ds : List PyData} : RdV K H x d → RdVs K H xs ds → RdVs K H (x :: xs) (d :: ds)
end
section
variable {X : Cx} {pins : List (Addr × Obj)} {σ : St} {H : Hp} {s : Shared}
mutual
theorem RdV.reads (I : Inv X pins σ H s) : ∀ {x : V} {d : PyData} {u : Value}, RdV X.K H x d → RelV x u → ∃ as, Reads s.heap u d as
  | _, _, u, .int i, r => by
    obtain ⟨t, rfl⟩ := (show ∃ t, u = Value.int i t from r)
    exact ⟨_, .int i t⟩
  | _, _, u, .str x, r => by
    obtain ⟨t, rfl⟩ := (show ∃ t, u = Value.str x t from r)
    exact ⟨_, .str x t⟩
  | _, _, u, .lst (a := a) h hs, r => by
    cases (show u = Value.ref a from r)
    obtain ⟨its, rv, pl, _⟩ := I.list h
    obtain ⟨as, ra⟩ := RdVs.reads I hs rv
    obtain ⟨o, ho, hc, n, hd⟩ := id pl.isList
    exact ⟨_, reads_list_at ho hc hd (by simpa using ra)⟩
  | _, _, u, .tup (a := a) h hs, r => by
    cases (show u = Value.ref a from r)
    obtain ⟨its, rv, pl, _⟩ := I.tuple h
    obtain ⟨as, ra⟩ := RdVs.reads I hs rv
    obtain ⟨o, ho, hc, n, hd⟩ := id pl
    exact ⟨_, reads_tuple_at ho hc hd (by simpa using ra)⟩
theorem RdVs.reads (I : Inv X pins σ H s) : ∀ {xs : List V} {ds : List PyData} {us : List Value}, RdVs X.K H xs ds → Vals xs us → ∃ as, ReadsAll s.heap us ds as
  | _, _, _, .nil, .nil => ⟨_, .nil⟩
  | _, _, _, .cons h t, .cons r rs => by
    obtain ⟨a1, r1⟩ := RdV.reads I h r
    obtain ⟨a2, r2⟩ := RdVs.reads I t rs
    exact ⟨_, .cons r1 r2⟩
end
end
section
variable {X : Cx}
theorem op_neD (hu : X.A.units + 64 < cLine) : OpR X (compareOp .NotEq) (fun x y H Q => ∃ (d1 d2 : PyData), RdV X.K H x d1 ∧ RdV X.K H y d2 ∧ SeqAt.shaped d1 = true ∧ SeqAt.shaped d2 = true ∧ Q (.bl (!PyData.eqv d1 d2)) H) := by
  intro pins s σ H x y v u Q I rx ry h
  obtain ⟨d1, d2, h1, h2, s1, s2, q⟩ := h
  obtain ⟨as, r1⟩ := RdV.reads I h1 rx
  obtain ⟨bs, r2⟩ := RdV.reads I h2 ry
  exact ne_dataH r1 r2 s1 s2 hu ⟨.bl _, H, I, rfl, q⟩
end
theorem rdvs_ints {K : PySem.W.Frag} {H : Hp} : ∀ ns : List Int, RdVs K H (ns.map V.int) (ns.map PyData.int)
  | [] => .nil
  | n :: r => .cons (.int n) (rdvs_ints r)
/-- a deal as data -/
def dealD (g t : List Int) (fr : Int) : PyData := .tuple [.list (g.map PyData.int), .list (t.map PyData.int), .int fr]
theorem dealD_shaped (g t : List Int) (fr : Int) : SeqAt.shaped (dealD g t fr) = true := by
  simp [dealD, SeqAt.shaped, PyData.canLay0, PyData.canLayAll0, PyData.depth, PyData.depthAll, PySem.W.ke_canLayAll0, PySem.W.ke_depthAll]
theorem dealD_eqv (g t : List Int) (fr : Int) : PyData.eqv (dealD g t fr) (dealD g t fr) = true := by
  simp [dealD, PyData.eqv, PyData.eqvAll, PySem.W.ked_eqvAll]
def oneD (x : Str) : PyData := .tuple [.str x]
theorem oneD_shaped (x : Str) (h : PyData.strOk x = true) : SeqAt.shaped (oneD x) = true := by
  simp [h, oneD, SeqAt.shaped, PyData.canLay0, PyData.canLayAll0, PyData.depth, PyData.depthAll]
theorem oneD_eqv (x : Str) : PyData.eqv (oneD x) (oneD x) = true := by
  simp [oneD, PyData.eqv, PyData.eqvAll]
end L2
end

section
set_option Elab.async false
set_option linter.all false
set_option maxRecDepth 100000
set_option maxHeartbeats 2000000
namespace L2
open PySem PySem.Spec PyProof.Rows
section
variable {X : Cx}
/-- xs.insert(i, y), i from nought to the length -/
theorem mt_insert : MtM X "list.insert" (fun x vs H Q => ∃ (l : Addr) (xs : List V) (i : Nat) (y : V), x = .ref l ∧ vs = [.int (i : Int), y] ∧ H l = some (.lst xs) ∧ i ≤ xs.length ∧ xs.length < 1000 ∧ Q .non (upd H l (.lst (xs.take i ++ y :: xs.drop i)))) := by
  intro pins s σ H x vs v us Q I rx rv h
  obtain ⟨l, xs, i, y, rfl, rfl, hH, hi, hz0, q⟩ := h
  cases (show v = Value.ref l from rx)
  obtain ⟨u1, u2, rfl, r1, r2⟩ := vals2 rv
  obtain ⟨t, rfl⟩ := (show ∃ t, u1 = Value.int (i : Int) t from r1)
  obtain ⟨z, its, n, r, hl, e⟩ := I.lstM hH
  have hlt : (1000 : Nat) ≤ sizeLine := by decide
  have hfit : ¬ (!Builtin.List.listFitsIndex (i : Int)) = true := by
    rw [fitsIndex_both (by omega) (by omega)]
    exact Bool.false_ne_true
  have hsz : its.toArray.size ≤ sizeLine := by rw [List.size_toArray]; omega
  generalize hix : (i : Int) = ii at *
  have hm := PySem.AutoSeq1.list_insert_list_int_val_1 l its.toArray n ii t u2 hfit hsz
  refine call_meets PySem.F.slot_list_insert ⟨_, e, rfl⟩ PySem.F.entry_list_insert (PySem.F.args_list_insert_3 _ _ _) hm ⟨e, ?_⟩
  subst hix
  refine ⟨.non, _, I.lset (its' := its.take i ++ u2 :: its.drop i) hH e ?_ (Vals.append (r.take i) (.cons r2 (r.drop i))) ?_, rfl, q⟩
  · have hk : (if (i : Int) < 0 then ((i : Int) + ((its.toArray.size : Nat) : Int)).toNat else min (i : Int).toNat its.toArray.size) = i := by
      rw [if_neg (by omega), Int.toNat_natCast, List.size_toArray]
      omega
    show (its.toArray.extract 0 (if (i : Int) < 0 then ((i : Int) + ((its.toArray.size : Nat) : Int)).toNat else min (i : Int).toNat its.toArray.size)).push u2 ++ its.toArray.extract (if (i : Int) < 0 then ((i : Int) + ((its.toArray.size : Nat) : Int)).toNat else min (i : Int).toNat its.toArray.size) = _
    rw [hk]
    apply Array.ext'
    simp
    exact List.take_of_length_le (by rw [List.length_drop]; exact Nat.le_refl _)
  · rw [List.length_append, List.length_take, List.length_cons, List.length_drop]
    omega
end
/-- [te for x in xs if tc] of a list that stays -/
theorem comp_filt {K : PySem.W.Frag} {a p : Addr} {xs : List V} {tc : TT} {te : TE} {σc : St} {H1 : Hp} {Q : Hp → Prop} {j : Nat} (c : V → Bool) (f : V → V) (hp : H1 p = none) (hS : SqL K H1 a xs) (hz : xs.length ≤ sizeLine)
    (hc : ∀ (i : Nat) (x : V) (H : Hp) (R : Bool → Hp → Prop), xs[i]? = some x → Same H1 H → R (c x) H → tc (σc.set j (some x)) H R)
    (he : ∀ (i : Nat) (x : V) (H : Hp) (R : VK), xs[i]? = some x → Same H1 H → R (f x) H → te (σc.set j (some x)) H R)
    (hQ : ∀ H, Same H1 H → H p = some (.lst ((xs.filter c).map f)) → Q H) : CompW (Itl K a) (gName j) tc te p σc H1 Q := by
  refine ⟨fun i m σ' ys H => m = xs.length - i ∧ i ≤ xs.length ∧ (∀ o, σ'.set j o = σc.set j o) ∧ ys = ((xs.take i).filter c).map f ∧ Same H1 H ∧ H p = some (.lst ys), ⟨_, rfl, Nat.zero_le _, fun _ => rfl, by simp, same_upd hp, upd_same⟩, ?_⟩
  rintro i m σ' ys H ⟨rfl, hi, hσ, rfl, hs, hpy⟩
  have q : SqL K H a xs := hs.seq hS
  by_cases hlt : i < xs.length
  · refine .inr ⟨⟨xs, xs[i], q, by simp [hlt]⟩, fun σ2 ys' H' => (∀ o, σ2.set j o = σc.set j o) ∧ ys' = ((xs.take (i + 1)).filter c).map f ∧ Same H1 H' ∧ H' p = some (.lst ys'), fun σ2 ys' H' ⟨a1, a2, a3, a4⟩ => ⟨xs.length - (i + 1), by omega, rfl, hlt, a1, a2, a3, a4⟩, fun x H' y => ?_⟩
    obtain ⟨e, y⟩ := y
    subst e
    have hx := y xs q
    have et : xs.take (i + 1) = xs.take i ++ [x] := by rw [List.take_add_one, hx]; rfl
    dsimp only [gName]
    rw [hσ]
    refine hc i x _ _ hx hs ?_
    have ht : ∀ o : Option V, ((σc.set j (some x)).set j o) = σc.set j o := fun o => set_set
    by_cases hcx : c x = true
    · rw [if_pos hcx]
      refine he i x _ _ hx hs ⟨_, hpy, ?_, ht, ?_, ?_, upd_same⟩
      · rw [List.length_map]
        have h1 : ((xs.take i).filter c).length ≤ (xs.take i).length := List.length_filter_le _ _
        rw [List.length_take] at h1
        omega
      · rw [et, List.filter_append, List.map_append]
        simp [hcx]
      · intro b o e
        rw [upd_ne (ne_of_none e hp)]
        exact hs b o e
    · rw [if_neg hcx]
      refine ⟨_, ht, ?_, hs, hpy⟩
      rw [et, List.filter_append, List.map_append]
      simp [hcx]
  · have e : i = xs.length := by omega
    subst e
    refine .inl ⟨⟨xs, q, Nat.le_refl _⟩, ?_⟩
    rw [List.take_length] at hpy
    exact hQ H hs hpy
/-- [te for x in range(n) if tc] -/
theorem comp_rangeF {p : Addr} {n : Nat} {tc : TT} {te : TE} {σc : St} {H1 : Hp} {Q : Hp → Prop} {j : Nat} (c : Nat → Bool) (f : Nat → V) (hp : H1 p = none) (hz : n ≤ sizeLine)
    (hc : ∀ (i : Nat) (H : Hp) (R : Bool → Hp → Prop), i < n → Same H1 H → R (c i) H → tc (σc.set j (some (.int (i : Int)))) H R)
    (he : ∀ (i : Nat) (H : Hp) (R : VK), i < n → Same H1 H → R (f i) H → te (σc.set j (some (.int (i : Int)))) H R)
    (hQ : ∀ H, Same H1 H → H p = some (.lst (((List.range n).filter c).map f)) → Q H) : CompW (Itr 0 n) (gName j) tc te p σc H1 Q := by
  refine ⟨fun i m σ' ys H => m = n - i ∧ i ≤ n ∧ (∀ o, σ'.set j o = σc.set j o) ∧ ys = ((List.range i).filter c).map f ∧ Same H1 H ∧ H p = some (.lst ys), ⟨_, rfl, Nat.zero_le _, fun _ => rfl, by simp, same_upd hp, upd_same⟩, ?_⟩
  rintro i m σ' ys H ⟨rfl, hi, hσ, rfl, hs, hpy⟩
  by_cases hlt : i < n
  · refine .inr ⟨hlt, fun σ2 ys' H' => (∀ o, σ2.set j o = σc.set j o) ∧ ys' = ((List.range (i + 1)).filter c).map f ∧ Same H1 H' ∧ H' p = some (.lst ys'), fun σ2 ys' H' ⟨a1, a2, a3, a4⟩ => ⟨n - (i + 1), by omega, rfl, hlt, a1, a2, a3, a4⟩, fun x H' y => ?_⟩
    obtain ⟨e, y⟩ := y
    subst e y
    dsimp only [gName]
    rw [hσ, Int.zero_add]
    refine hc i _ _ hlt hs ?_
    have ht : ∀ o : Option V, ((σc.set j (some (.int (i : Int)))).set j o) = σc.set j o := fun o => set_set
    by_cases hcx : c i = true
    · rw [if_pos hcx]
      refine he i _ _ hlt hs ⟨_, hpy, ?_, ht, ?_, ?_, upd_same⟩
      · rw [List.length_map]
        have h1 : ((List.range i).filter c).length ≤ (List.range i).length := List.length_filter_le _ _
        rw [List.length_range] at h1
        omega
      · rw [List.range_succ, List.filter_append, List.map_append]
        simp [hcx]
      · intro b o e
        rw [upd_ne (ne_of_none e hp)]
        exact hs b o e
    · rw [if_neg hcx]
      refine ⟨_, ht, ?_, hs, hpy⟩
      rw [List.range_succ, List.filter_append, List.map_append]
      simp [hcx]
  · have e : i = n := by omega
    subst e
    exact .inl ⟨Nat.le_refl _, hQ H hs hpy⟩
end L2
end

section
set_option Elab.async false
set_option linter.all false
set_option maxRecDepth 100000
set_option maxHeartbeats 2000000
namespace L2
open PySem PySem.Spec PyProof.Rows
/-! lambdas: how one is made, what it promises, how it is called; a code's table grows by it -/
def NT : HO → Bool
  | .tbl _ => false
  | _ => true
/-- a code's table: what is kept there is known -/
def TabOk (T : Addr) (q : Str) (H : Hp) : Prop := ∃ ps : Array Value, H T = some (.tbl ps) ∧ TriplesOk ps.toList ∧
  ∀ pos cv, codeAmong pos ps.toList = some cv → ∃ (c : Addr) (oc : Obj) (vs : Array Value) (t : Tok), cv = .ref c ∧ H c = some (.frz oc (.own c)) ∧ oc.data = .fields vs ∧ vs[1]? = some (.str q t)
/-- the tables that are known: their addresses, the names of the codes there -/
abbrev Tabs := List (Addr × Str)
def TabsOk (Z : Tabs) (H : Hp) : Prop := ∀ z ∈ Z, TabOk z.1 z.2 H
/-- all that was tracked is as it was, but the tables, which are still sound -/
structure Sm (Z : Tabs) (H H' : Hp) : Prop where
  at' : ∀ b o, H b = some o → (nt : NT o = true := by rfl) → H' b = some o
  tab : TabsOk Z H → TabsOk Z H'
  there : ∀ b o, H b = some o → ∃ o', H' b = some o'
instance {Z : Tabs} {H H' : Hp} : CoeFun (Sm Z H H') (fun _ => ∀ b o, H b = some o → (nt : NT o = true := by rfl) → H' b = some o) := ⟨fun s => @Sm.at' _ _ _ s⟩
section
variable {Z : Tabs} {H H' H1 H2 : Hp}
theorem Sm.refl (H : Hp) : Sm Z H H := ⟨fun _ _ h _ => h, fun h => h, fun _ o h => ⟨o, h⟩⟩
theorem Sm.trans (a : Sm Z H H1) (b : Sm Z H1 H2) : Sm Z H H2 :=
  ⟨fun c o h n => b.at' c o (a.at' c o h n) n, fun h => b.tab (a.tab h), fun c o h => let ⟨o', h'⟩ := a.there c o h; b.there c o' h'⟩
theorem TabOk.same {T : Addr} {q : Str} (x : TabOk T q H) (e : Same H H') : TabOk T q H' := by
  obtain ⟨ps, h1, h2, h3⟩ := x
  refine ⟨ps, e _ _ h1, h2, fun pos cv h => ?_⟩
  obtain ⟨c, oc, vs, t, e1, e2, r⟩ := h3 pos cv h
  exact ⟨c, oc, vs, t, e1, e _ _ e2, r⟩
theorem TabsOk.same (x : TabsOk Z H) (e : Same H H') : TabsOk Z H' := fun z hz => (x z hz).same e
theorem Same.sm (e : Same H H') : Sm Z H H' := ⟨fun b o h _ => e b o h, fun x => x.same e, fun b o h => ⟨o, e b o h⟩⟩
theorem Sm.free (e : Sm Z H H') {l : Addr} (h : H' l = none) : H l = none := by
  cases q : H l with
  | none => rfl
  | some o =>
    obtain ⟨o', z⟩ := e.there l o q
    rw [h] at z; cases z
theorem Sm.seq {K : PySem.W.Frag} {a : Addr} {xs : List V} (e : Sm Z H H') (h : SqL K H a xs) : SqL K H' a xs := by
  rcases h with (h | ⟨o, h⟩) | h
  · exact .inl (.inl (e _ _ h))
  · exact .inl (.inr ⟨o, e _ _ h⟩)
  · exact .inr h
theorem sm_upd {p : Addr} {o : HO} (h : H p = none) : Sm Z H (upd H p o) := (same_upd h).sm
end

/-- a lambda lies at f: its function object, its code -/
def LamAt (H : Hp) (f : Addr) (fd : FuncData) : Prop := H f = some (.frz { cls := .type "function", data := .func fd } (.own f)) ∧
  ∃ (c : Addr) (oc : Obj) (vs : Array Value) (t : Tok), fd.code = .ref c ∧ H c = some (.frz oc (.own c)) ∧ oc.data = .fields vs ∧ vs[1]? = some (.str fd.qualname t)
theorem LamAt.same {H H' : Hp} {f : Addr} {fd : FuncData} (x : LamAt H f fd) (e : Same H H') : LamAt H' f fd := by
  obtain ⟨h1, c, oc, vs, t, e1, e2, r⟩ := x
  exact ⟨e _ _ h1, c, oc, vs, t, e1, e _ _ e2, r⟩
theorem LamAt.sm {Z : Tabs} {H H' : Hp} {f : Addr} {fd : FuncData} (x : LamAt H f fd) (e : Sm Z H H') : LamAt H' f fd := by
  obtain ⟨h1, c, oc, vs, t, e1, e2, r⟩ := x
  exact ⟨e _ _ h1, c, oc, vs, t, e1, e _ _ e2, r⟩
theorem LamAt.fn {P : Program} {w : World} {H : Hp} {h : Heap} {f : Addr} {fd : FuncData} (x : LamAt H f fd) (ok : HOk P w H h) : h.get? f = some { cls := .type "function", data := .func fd } := (ok f _ x.1).1
theorem LamAt.code {P : Program} {w : World} {H : Hp} {h : Heap} {f : Addr} {fd : FuncData} (x : LamAt H f fd) (ok : HOk P w H h) : h.CodeRec fd.code fd.qualname := by
  obtain ⟨h1, c, oc, vs, t, e1, e2, r1, r2⟩ := x
  exact ⟨c, oc, vs, t, e1, (ok c _ e2).1, r1, r2⟩

/-- where a new def finds Python's own names -/
def Bm (mg : Str → Option Value) (base : Heap) : Prop := ∃ bm ob, mg "__builtins__" = some (.ref bm) ∧ bm ≠ builtinsNs ∧ base.get? bm = some ob ∧ ob.cls = .type "module" ∧ ob.dict = some builtinsNs ∧ ob.data = .plain
abbrev lamFd (q : Str) (params : Arguments) (body : Expr) (scope : Scope) (clos : List (Str × Addr)) (pm : Value) (c : Addr) (ct : Value) : FuncData := PySem.W.kla_fn "<lambda>" q params body scope clos pm (.ref c) ct

section
variable {P : Program} {w : World} {H H' : Hp} {h h' : Heap} {T : Addr} {ps more : Array Value} {fs ex : List Addr}
/-- a table grows, new objects come -/
theorem Un.grow (hT : H T = some (.tbl ps)) (hT' : H' T = some (.tbl (ps ++ more))) (ag : ∀ b, b ≠ T → b < h.objs.size → H' b = H b) (lt : ∀ b o, H b = some o → b < h.objs.size)
    (k : ∀ b u, b ≠ T → h.get? b = some u → h'.get? b = some u) (eT : ∃ o, h'.get? T = some o) : Un fs ex H H' h h' := by
  have nT : ∀ b, H b = none → b ≠ T := fun b n z => by rw [z, hT] at n; cases n
  have nt : ∀ b u, H b = some u → (∀ ps, u ≠ .tbl ps) → b ≠ T := fun b u e n z => by rw [z, hT] at e; exact n ps (Option.some.inj e).symm
  refine ⟨fun b o e n _ _ => k b o (nT b n) e, fun b o e n _ _ => ⟨o.slots, k b o (nT b n) e⟩, fun b o e n _ => by rw [ag b (nT b n) (Heap.lt_size e)]; exact n, fun b o e _ => ?_, fun b xs e => ?_, fun b o u e => ?_, fun b qs e => ?_⟩
  · by_cases hb : b = T
    · subst hb; exact eT
    · exact ⟨o, k b o hb e⟩
  · rw [ag b (nt b _ e fun _ z => nomatch z) (lt b _ e)]; exact e
  · rw [ag b (nt b _ e fun _ z => nomatch z) (lt b _ e)]; exact e
  · by_cases hb : b = T
    · subst hb
      rw [hT] at e
      cases e
      exact ⟨more, hT'⟩
    · exact ⟨#[], by rw [ag b hb (lt b _ e), e]; simp⟩
theorem HOk.grow (x : HOk P w H h) (hT : H T = some (.tbl ps)) (hT' : H' T = some (.tbl (ps ++ more))) (ag : ∀ b, b ≠ T → b < h.objs.size → H' b = H b)
    (k : ∀ b u, b ≠ T → h.get? b = some u → h'.get? b = some u) (eT : h'.get? T = some { cls := .none, data := .fields (ps ++ more) }) (new : ∀ b o, h.objs.size ≤ b → H' b = some o → ObjOk P w H' h' b o) : HOk P w H' h' := fun b o e => by
  by_cases hs : h.objs.size ≤ b
  · exact new b o hs e
  · have hs : b < h.objs.size := Nat.lt_of_not_le hs
    by_cases hb : b = T
    · subst hb
      rw [hT'] at e
      cases e
      exact eT
    · rw [ag b hb hs] at e
      have nt : ∀ c u, H c = some u → (∀ ps, u ≠ .tbl ps) → c ≠ T := fun c u e n z => by rw [z, hT] at e; exact n ps (Option.some.inj e).symm
      refine (x b o e).stay (fun c u hc q => k c u ?_ q) (fun c q => ?_) fun c xs q => ?_
      · rcases hc with rfl | hc
        · exact hb
        · exact nt c _ hc fun _ z => nomatch z
      · rw [ag c (nt c _ q fun _ z => nomatch z) (x.lt q)]; exact q
      · rw [ag c (nt c _ q fun _ z => nomatch z) (x.lt q)]; exact q
end

section
variable {X : Cx}
/-- lambda ..: .. -/
def tLam (Z : Tabs) (q : Str) (params : Arguments) (body : Expr) (scope : Scope) (clos : List (Str × Addr)) : TE := fun _ H Q => TabsOk Z H ∧
  ∀ f pm c ct H', Sm Z H H' → H f = none → LamAt H' f (lamFd q params body scope clos pm c ct) → Q (.ref f) H'
theorem tri_inv {x y d : Value} {r : List Value} (h : TriplesOk (x :: y :: d :: r)) : ∃ a t b u, x = .int a t ∧ y = .int b u ∧ TriplesOk r := by
  cases x with
  | int a t =>
    cases y with
    | int b u => exact ⟨a, t, b, u, rfl, rfl, h⟩
    | _ => exact absurd h (by simp [TriplesOk])
  | _ => exact absurd h (by simp [TriplesOk])
theorem among_snoc {pos pos' : Pos} {c cv : Value} : ∀ (l : List Value), TriplesOk l → codeAmong pos' (l ++ [rawInt pos.line, rawInt pos.col, c]) = some cv → codeAmong pos' l = some cv ∨ cv = c
  | [], _, h => by
    simp only [List.nil_append, rawInt, codeAmong] at h
    split at h
    · exact .inr (Option.some.inj h).symm
    · cases h
  | [_], ht, _ => by simp [TriplesOk] at ht
  | [_, _], ht, _ => by simp [TriplesOk] at ht
  | x :: y :: d :: r, ht, h => by
    obtain ⟨a, t, b, u, rfl, rfl, hr⟩ := tri_inv ht
    simp only [List.cons_append, codeAmong] at h ⊢
    split at h
    · rename_i hc; rw [if_pos hc]; exact .inl h
    · rename_i hc; rw [if_neg hc]; exact among_snoc r hr h
theorem triples_snoc {pos : Pos} {c : Value} : ∀ (l : List Value), TriplesOk l → TriplesOk (l ++ [rawInt pos.line, rawInt pos.col, c])
  | [], _ => by simp [rawInt, TriplesOk]
  | [_], ht => by simp [TriplesOk] at ht
  | [_, _], ht => by simp [TriplesOk] at ht
  | x :: y :: d :: r, ht => by
    obtain ⟨a, t, b, u, rfl, rfl, hr⟩ := tri_inv ht
    exact triples_snoc r hr
theorem pe_lam {Z : Tabs} {params : Arguments} {body : Expr} {scope : Scope} {pos : Pos} {c T : Addr} {clos : List (Str × Addr)} (hb : Bm X.mg X.base) (C : PySem.W.CodeHd X.base c T) (hc : X.env.code = .ref c)
    (hcl : closureFor scope X.env = pure clos) (hdef : defaultsOf params X.env = ([], [])) (hz : (T, X.env.qual ++ "<lambda>") ∈ Z) (hZ : ∀ z ∈ Z, z.1 = T → z.2 = X.env.qual ++ "<lambda>") : PE X (.Lambda params body scope pos) (tLam Z (X.env.qual ++ "<lambda>") params body scope clos) := by
  intro pins s σ H Q I hq
  obtain ⟨hA, h⟩ := hq
  obtain ⟨ps, hT, ht, hk⟩ := hA _ hz
  dsimp only at hT hk
  refine PySem.W.kla_eval hdef ?_
  have hP : s.heap.get? T = some (PySem.W.tabObj ps) := I.hok T _ hT
  have hg : s.heap.Ns mainGlobals X.mg := I.mod.glob.keeps I.bk
  have Ck := C.keeps I.bk
  have hgP : mainGlobals ≠ T := fun q => by
    obtain ⟨o, es, ep, e, hd, _⟩ := hg
    rw [q, hP] at e; cases e; cases hd
  have hB : s.heap.BuiltinsAt X.mg T := by
    obtain ⟨bm, ob, b1, b2, b3, b4, b5, b6⟩ := hb
    have hbP : bm ≠ T := fun q => by
      have e := I.bk _ _ b3
      rw [q, hP] at e; cases e; cases b4
    have hbG : bm ≠ mainGlobals := fun q => by
      obtain ⟨o, es, ep, e, hd, _⟩ := hg
      have e2 := I.bk _ _ b3
      rw [q, e] at e2; cases e2; rw [hd] at b6; cases b6
    exact ⟨bm, ob, b1, b2, hbG, hbP, I.bk _ _ b3, b4, b5, b6⟩
  cases e : codeAmong pos ps.toList with
  | some cv =>
    obtain ⟨c', oc, vs, t, rfl, hc', hd, hv⟩ := hk pos cv e
    refine PySem.W.kla_makeFunctionHit hcl I.ok.glob hg hc Ck hP ht e hB fun ctv h' tk hkeep hsz => ?_
    have hf : H h'.objs.size = none := I.hok.fresh hsz
    refine ⟨.ref h'.objs.size, upd H h'.objs.size (.frz _ (.own h'.objs.size)), I.laid (t' := tk) (fun b u q => Heap.get?_push_of_some _ (hkeep b u q)) hsz ⟨Heap.get?_push_size _ rfl, _, Heap.get?_push_size _ rfl⟩, rfl, ?_⟩
    exact h _ _ c' ctv _ (sm_upd hf) hf ⟨upd_same, c', oc, vs, t, rfl, by rw [upd_ne (ne_of_none hc' hf)]; exact hc', hd, hv⟩
  | none =>
    refine PySem.W.kla_makeFunction hcl I.ok.glob hg hc Ck hP ht e hgP hB fun c' ctv h' tk hx hge hlt hrec htb => ?_
    obtain ⟨c₂, oc, vs, t, e2, hoc, hd, hv⟩ := hrec
    cases e2
    have hne : c' ≠ h'.objs.size := Nat.ne_of_lt hlt
    have lt : ∀ b o, H b = some o → b < s.heap.objs.size := fun b o e => I.hok.lt e
    have hTs := lt T _ hT
    have hsz : s.heap.objs.size ≤ h'.objs.size := Nat.le_trans hge (Nat.le_of_lt hlt)
    have hTc : T ≠ c' := Nat.ne_of_lt (Nat.lt_of_lt_of_le hTs hge)
    have hTf : T ≠ h'.objs.size := Nat.ne_of_lt (Nat.lt_of_lt_of_le hTs hsz)
    have ag : ∀ b, b ≠ T → b < s.heap.objs.size → (upd (upd (upd H T (.tbl (ps ++ #[rawInt pos.line, rawInt pos.col, .ref c']))) c' (.frz oc (.own c'))) h'.objs.size (.frz (PySem.W.kla_obj "<lambda>" (X.env.qual ++ "<lambda>") params body scope clos ((X.mg "__name__").getD .none) c' ctv) (.own h'.objs.size))) b = H b := fun b hb hs => by
      rw [upd_ne (Nat.ne_of_lt (Nat.lt_of_lt_of_le hs hsz)), upd_ne (Nat.ne_of_lt (Nat.lt_of_lt_of_le hs hge)), upd_ne hb]
    have hT' : (upd (upd (upd H T (.tbl (ps ++ #[rawInt pos.line, rawInt pos.col, .ref c']))) c' (.frz oc (.own c'))) h'.objs.size (.frz (PySem.W.kla_obj "<lambda>" (X.env.qual ++ "<lambda>") params body scope clos ((X.mg "__name__").getD .none) c' ctv) (.own h'.objs.size))) T = some (.tbl (ps ++ #[rawInt pos.line, rawInt pos.col, .ref c'])) := by
      rw [upd_ne hTf, upd_ne hTc, upd_same]
    have hc2 : (upd (upd (upd H T (.tbl (ps ++ #[rawInt pos.line, rawInt pos.col, .ref c']))) c' (.frz oc (.own c'))) h'.objs.size (.frz (PySem.W.kla_obj "<lambda>" (X.env.qual ++ "<lambda>") params body scope clos ((X.mg "__name__").getD .none) c' ctv) (.own h'.objs.size))) c' = some (.frz oc (.own c')) := by
      rw [upd_ne hne, upd_same]
    generalize hH : (upd (upd (upd H T (.tbl (ps ++ #[rawInt pos.line, rawInt pos.col, .ref c']))) c' (.frz oc (.own c'))) h'.objs.size (.frz (PySem.W.kla_obj "<lambda>" (X.env.qual ++ "<lambda>") params body scope clos ((X.mg "__name__").getD .none) c' ctv) (.own h'.objs.size))) = H' at ag hT' hc2
    have hf2 : H' h'.objs.size = some (.frz (PySem.W.kla_obj "<lambda>" (X.env.qual ++ "<lambda>") params body scope clos ((X.mg "__name__").getD .none) c' ctv) (.own h'.objs.size)) := by rw [← hH]; exact upd_same
    have k : ∀ b u, b ≠ T → s.heap.get? b = some u → (h'.push (PySem.W.kla_obj "<lambda>" (X.env.qual ++ "<lambda>") params body scope clos ((X.mg "__name__").getD .none) c' ctv)).get? b = some u := fun b u hb q => Heap.get?_push_of_some _ (hx b u hb q)
    have nw : ∀ b, s.heap.objs.size ≤ b → b ≠ c' → b ≠ h'.objs.size → H' b = none := fun b hb h1 h2 => by
      rw [← hH, upd_ne h2, upd_ne h1, upd_ne (Nat.ne_of_gt (Nat.lt_of_lt_of_le hTs hb))]
      exact I.hok.fresh hb
    have ok' := I.hok.grow (H' := H') hT hT' ag k (Heap.get?_push_of_some _ htb) (fun b o hb q => by
      by_cases h1 : b = c'
      · subst h1
        rw [hc2] at q; cases q
        exact ⟨Heap.get?_push_of_some _ hoc, _, Heap.get?_push_of_some _ hoc⟩
      · by_cases h2 : b = h'.objs.size
        · subst h2
          rw [hf2] at q; cases q
          exact ⟨Heap.get?_push_size _ rfl, _, Heap.get?_push_size _ rfl⟩
        · rw [nw b hb h1 h2] at q; cases q)
    refine ⟨.ref h'.objs.size, H', I.un (t' := tk) (Un.grow hT hT' ag lt k ⟨_, Heap.get?_push_of_some _ htb⟩) ok', rfl, ?_⟩
    refine h _ _ c' ctv _ ⟨fun b o q n => ?_, fun x z hz2 => ?_, fun b o q => ?_⟩ (I.hok.fresh hsz) ⟨hf2, c', oc, vs, t, rfl, hc2, hd, hv⟩
    · rw [ag b (fun z => by rw [z, hT] at q; cases q; cases n) (lt b o q)]; exact q
    · obtain ⟨ps2, g1, g2, g3⟩ := x z hz2
      have old : ∀ pos' cv, codeAmong pos' ps2.toList = some cv → ∃ (c : Addr) (oc : Obj) (vs : Array Value) (t : Tok), cv = .ref c ∧ H' c = some (.frz oc (.own c)) ∧ oc.data = .fields vs ∧ vs[1]? = some (.str z.2 t) := fun pos' cv q => by
        obtain ⟨c3, oc3, vs3, t3, f1, f2, f3⟩ := g3 pos' cv q
        exact ⟨c3, oc3, vs3, t3, f1, by rw [ag c3 (fun z => by rw [z, hT] at f2; cases f2) (lt _ _ f2)]; exact f2, f3⟩
      by_cases hT2 : z.1 = T
      · have e3 := hZ z hz2 hT2
        rw [hT2, hT] at g1
        cases g1
        refine ⟨_, by rw [hT2]; exact hT', by rw [Array.toList_append]; exact triples_snoc _ g2, fun pos' cv q => ?_⟩
        rw [Array.toList_append] at q
        rcases among_snoc _ g2 q with q | rfl
        · exact old pos' cv q
        · exact ⟨c', oc, vs, t, rfl, hc2, hd, by rw [e3]; exact hv⟩
      · exact ⟨ps2, by rw [ag z.1 hT2 (lt _ _ g1)]; exact g1, g2, old⟩
    · by_cases hb : b = T
      · subst hb; exact ⟨_, hT'⟩
      · exact ⟨o, by rw [ag b hb (lt b o q)]; exact q⟩
end
end L2
end

section
set_option Elab.async false
set_option linter.all false
set_option maxRecDepth 100000
set_option maxHeartbeats 2000000
namespace L2
open PySem PySem.Spec PyProof.Rows
/-! calls over a larger base; a lambda's promise; a call of a function that a name holds -/
section
variable {X : Cx} {pins : List (Addr × Obj)} {σ : St} {H : Hp} {s : Shared}
theorem Inv.up (I : Inv X pins σ H s) (hfn : ∀ x, X.fn x = true) : ∃ base' : Heap, (∀ b o, X.base.get? b = some o → base'.get? b = some o) ∧ Env0 X.prog X.w X.K X.mg base' X.A X.stack s H ∧
    ∀ x c v, X.env.cells.lookup x = some c → s.heap.IsCell c v → base'.IsCell c v := by
  have get : ∀ b o, s.heap.get? b = some o → H b = none → b ∉ frs X.stack → (PySem.W.hideAll s.heap (trk s.heap H ++ frs X.stack)).get? b = some o := fun b o e n hf => PySem.W.hideAll_get _ e fun z => by
    rcases List.mem_append.mp z with z | z
    · have q : (H b).isSome = true := (List.mem_filter.mp z).2
      rw [n] at q; cases q
    · exact hf z
  have inb : ∀ b o, X.base.get? b = some o → (PySem.W.hideAll s.heap (trk s.heap H ++ frs X.stack)).get? b = some o := fun b o e => get b o (I.bs b o e).1 (I.bs b o e).2 fun z => by
    have := (I.stack.mem z).1
    rw [e] at this; cases this
  refine ⟨_, inb, ⟨I.ok.frames, ⟨I.mod.kin.keeps inb, I.mod.glob.keeps inb, let ⟨mb, h1, h2⟩ := I.mod.blt; ⟨mb, h1.keeps inb, h2⟩, I.mod.nolimit.keeps inb⟩, fun b o e => ?_, Nat.le_of_eq (PySem.W.hideAll_size _ _),
    PySem.W.funFrames_hide I.stack fun env he a ha => ?_, I.stkFree, I.hok, I.bare⟩, fun x c v hc hv => ?_⟩
  · have e' := PySem.W.of_hideAll _ e
    refine ⟨e', ?_⟩
    cases q : H b with
    | none => rfl
    | some u =>
      have hm : b ∈ trk s.heap H := List.mem_filter.mpr ⟨List.mem_range.mpr (Heap.lt_size e'), by simp [q]⟩
      rw [PySem.W.hideAll_none _ (List.mem_append_left _ hm)] at e; cases e
  · exact List.mem_append_right _ (List.mem_filterMap.mpr ⟨env, he, ha⟩)
  · obtain ⟨o, ho, hd⟩ := hv
    refine ⟨o, get c o ho (I.freeC x c hc) fun z => ?_, hd⟩
    rcases List.mem_cons.mp (I.stkSub c z) with e | hb
    · exact I.cne x c hc e
    · obtain ⟨_, o', ho', _⟩ := I.ok.funs.mem hb
      exact absurd (Nat.lt_of_lt_of_le (Heap.lt_size ho') (I.ok.cab x c (hfn x) hc)) (Nat.lt_irrefl _)
/-- a larger base, which holds what the cells of the frame hold -/
structure Up (X : Cx) (base : Heap) (σ : St) : Prop where
  sub : ∀ b o, X.base.get? b = some o → base.get? b = some o
  kin : X.K.In base
  glob : base.Ns mainGlobals X.mg
  caps : ∀ (i : Nat) (x : Str) (v : V), X.N[i]? = some x → σ[i]? = some (some v) → X.env.scope.names.lookup x = some .cell → ∃ c u, X.env.cells.lookup x = some c ∧ RelV v u ∧ base.IsCell c (some u)
  cells : ∀ x c, X.env.cells.lookup x = some c → ∃ v, base.IsCell c v
  inj : ∀ x y c, X.env.cells.lookup x = some c → X.env.cells.lookup y = some c → x = y
  has : ∀ x, X.env.scope.names.lookup x = some .cell → ∃ c, X.env.cells.lookup x = some c
theorem Inv.upper (I : Inv X pins σ H s) (hfn : ∀ x, X.fn x = true) : ∃ base' : Heap, Up X base' σ ∧ Env0 X.prog X.w X.K X.mg base' X.A X.stack s H := by
  obtain ⟨base', h1, h2, h3⟩ := I.up hfn
  refine ⟨base', ⟨h1, h2.mod.kin, h2.mod.glob, fun i y v e1 e2 e3 => ?_, fun y c hc => ?_, I.ok.inj, fun y hy => I.ok.has y (.inl hy)⟩, h2⟩
  · obtain ⟨m, hn, hl⟩ := I.loc
    obtain ⟨u, rv, l⟩ := hl i y v e1 e2 (.inr (.inl e3))
    rcases l with ⟨l, _⟩ | ⟨_, c, hc, hcell⟩
    · have l' : X.env.scope.names.lookup y = some .local := l
      rw [e3] at l'; cases l'
    · exact ⟨c, u, hc, rv, h3 y c _ hc hcell⟩
  · obtain ⟨v, hv⟩ := I.cell y c hc
    exact ⟨v, h3 y c v hc hv⟩
end

section
variable {P : Program} {w : World} {K : PySem.W.Frag} {mg : Str → Option Value} {base : Heap} {CX : CXT} {k : Nat} {f : Addr} {fd : FuncData} {ps : List Str}
theorem FnOk.ex {α : Sort _} {R : α → Prop} {sp : α → Sp} (F : ∀ x, R x → FnOk P w K mg base CX k f fd ps (sp x)) : FnOk P w K mg base CX k f fd ps (fun vs H Q E => ∃ x, R x ∧ sp x vs H Q E) :=
  ⟨fun vs H Q E ⟨x, r, q⟩ => (F x r).len vs H Q E q, fun A outer s H args us vs Q E hr he hb hv ⟨x, r, q⟩ => (F x r).run A outer s H args us vs Q E hr he hb hv q⟩
end

section
variable {X : Cx} {CX : CXT} {k : Nat} {f : Addr} {fd : FuncData} {ps : List Str} {E : XK} {x : Str} {p pos : Pos} {e : Expr} {es : List Expr} {t : TA}
/-- f(..) over a larger base, which holds the caller's cells -/
def tCallUp (sp : St → Sp) (E : XK) (t : TA) : TE := fun σ H Q => t σ H fun vs H1 => sp σ vs H1 Q E
theorem pe_callUp {sp : St → Sp} (hfn : ∀ x, X.fn x = true) (F : ∀ (base' : Heap) (σ : St), Up X base' σ → FnOk X.prog X.w X.K X.mg base' CX k f fd ps (sp σ))
    (hr : Room k X.A) (hg : Gl X x) (hm : X.mg x = some (.ref f)) (hk : PySem.W.keepIn X.K (.ref f) = true) (hb : Binds X.K fd ps []) (hx : Passes CX X E)
    (ha : PA X (e :: es) t) (hdb : (x == ("__debug__" : Str)) = false := by decide) (he : starEach (e :: es) X.env = (false, eval e X.env) :: starEach es X.env := by rfl) (hpl : (backTo pos (starEach es X.env)).any (·.1) = false := by rfl) :
    PE X (.Call (.Name x p) (e :: es) [] pos) (tCallUp sp E t) := by
  intro pins s σ H Q I h
  refine wpAny_Call_Name_kw (ld_glob I hg hm ?_ hdb)
  refine PySem.W.callWith_K (h₀ := X.base) I.ok.mod.kin hk (thn (ha pos pins s σ H _ I h) fun us s1 ⟨vs, H1, I1, r, q⟩ => ⟨I1.kIn, ?_⟩) he hpl
  obtain ⟨base', U, h2⟩ := I1.upper hfn
  have G := F base' σ U
  have hl : (us ++ []).length = ps.length := by rw [List.append_nil, ← r.length]; exact G.len _ _ _ _ q
  have hb' := hb s1 us I1.kIn hl
  rw [List.append_nil] at hb'
  refine wpAny_call (codeAny_mono (G.run X.A X.stack s1 H1 ⟨us, []⟩ us vs Q E hr h2 hb' r q) fun rr s' hq => ?_)
  cases rr with
  | error e => exact hx pins σ H1 s1 e s' I1 hq
  | ok fl =>
    cases fl with
    | ret u => exact I1.after hq
    | next => exact False.elim hq
    | brk => exact False.elim hq
    | cont => exact False.elim hq
/-- f(..) where the name holds a lambda -/
def tCallV (f : Addr) (fd : FuncData) (i : Nat) (sp : Sp) (E : XK) (t : TA) : TE := fun σ H Q => σ[i]? = some (some (.ref f)) ∧ LamAt H f fd ∧ t σ H fun vs H1 => LamAt H1 f fd ∧ sp vs H1 Q E
theorem pe_callV {sp : Sp} (i : Nat) (F : FnOk X.prog X.w X.K X.mg X.base CX k f fd ps sp) (hr : Room k X.A) (hN : X.N[i]? = some x) (hv : Vis X.env.scope x) (hb : Binds X.K fd ps []) (hx : Passes CX X E)
    (ha : PA X (e :: es) t) (hdb : (x == ("__debug__" : Str)) = false := by decide) (hcd : (x == ("__classdict__" : Str)) = false := by decide)
    (he : starEach (e :: es) X.env = (false, eval e X.env) :: starEach es X.env := by rfl) (hpl : (backTo pos (starEach es X.env)).any (·.1) = false := by rfl) :
    PE X (.Call (.Name x p) (e :: es) [] pos) (tCallV f fd i sp E t) := by
  intro pins s σ H Q I h
  obtain ⟨h1, h2, h⟩ := h
  refine wpAny_Call_Name_kw (thn (pe_var (pos := p) hN hv hdb hcd pins s σ H (fun v H' => v = .ref f ∧ H' = H) I ⟨_, h1, rfl, rfl⟩) fun u s1 ⟨v, H', I1, r, e1, e2⟩ => ?_)
  subst e1; subst e2
  obtain rfl : u = Value.ref f := r
  refine PySem.W.callWith_F ⟨_, _, _, _, h2.fn I1.hok⟩ (thn (ha pos pins s1 σ H' _ I1 h) fun us s2 ⟨vs, H2, I2, rv, l2, q⟩ => ⟨⟨_, _, _, _, l2.fn I2.hok⟩, ?_⟩) he hpl
  have q' : sp (vs ++ []) H2 Q E := by rw [List.append_nil]; exact q
  exact run_fn (ds := []) (dvs := []) F hr hb .nil hx I2 rv q'
end

/-! a lambda's body keeps its promise -/
def cxL (CX : CXT) (P : Program) (w : World) (K : PySem.W.Frag) (mg : Str → Option Value) (base : Heap) (N : List Str) (q : Str) (scope : Scope) (clos : List (Str × Addr)) (f : Addr) (cd : Value) (A : Around) (outer : List Env) (s : Shared) (H : Hp) (E : XK) : Cx where
  prog := P
  w := w
  K := K
  mg := mg
  base := base
  A := A.deeper (PySem.W.envX q scope s.heap.objs.size f cd clos)
  N := N
  s₀ := s
  H₀ := H
  env := PySem.W.envX q scope s.heap.objs.size f cd clos
  outer := outer
  stack := PySem.W.envX q scope s.heap.objs.size f cd clos :: outer
  ex := []
  calm := true
  fn := fun _ => false
  pn := []
  xe := fun e s' => wpAny (model P w) (A.deeper (PySem.W.envX q scope s.heap.objs.size f cd clos)) (leaving (PySem.W.envX q scope s.heap.objs.size f cd clos) e) (fun _ s'' => CX outer H s E e s'') (fun e' s'' => CX outer H s E e' s'') s'

theorem fn_ofL {CX : CXT} {P : Program} {w : World} {K : PySem.W.Frag} {mg : Str → Option Value} {base : Heap} {k : Nat} {f c : Addr} {q : Str} {params : Arguments} {body : Expr} {scope : Scope} {clos : List (Str × Addr)} {pm ct : Value} {x : Str} {frees : List Str} {vals : List V} {sp : Sp}
    (hk : scope.kind = .function) (hco : scope.isCoroutine = false) (hgen : scope.isGenerator = false) (hp : scope.names.lookup x = some .local) (hcell : ∀ y ∈ scope.names, y.2 ≠ .cell)
    (hfk : ∀ y ∈ frees, scope.names.lookup y = some .free) (hhas : ∀ y, scope.names.lookup y = some .free → ∃ c, clos.lookup y = some c)
    (hinj : ∀ y z c, clos.lookup y = some c → clos.lookup z = some c → y = z) (hlen : vals.length = frees.length)
    (hval : ∀ (i : Nat) (y : Str) (v : V), frees[i]? = some y → vals[i]? = some v → ∃ c u, clos.lookup y = some c ∧ RelV v u ∧ base.IsCell c (some u)) (hcells : ∀ y c, clos.lookup y = some c → ∃ v, base.IsCell c v)
    (hsp : ∀ vs H Q E, sp vs H Q E → vs.length = 1 ∧ LamAt H f (lamFd q params body scope clos pm c ct))
    (hbody : ∀ (A : Around) (outer : List Env) (s : Shared) (H : Hp) (v : V) (Q : VK) (E : XK), Room k (A.deeper (PySem.W.envX q scope s.heap.objs.size f (.ref c) clos)) → sp [v] H Q E →
      ∃ t, PE (cxL CX P w K mg base (x :: frees) q scope clos f (.ref c) A outer s H E) body t ∧ t (some v :: vals.map some) H Q) :
    FnOk P w K mg base CX (k + 1) f (lamFd q params body scope clos pm c ct) [x] sp := by
  refine ⟨fun vs H Q E h => by rw [(hsp vs H Q E h).1]; rfl, fun A outer s H args us vs Q E hr e0 hb r h => ?_⟩
  obtain ⟨hl, la⟩ := hsp _ _ _ _ h
  obtain ⟨v, rfl⟩ : ∃ v, vs = [v] := by
    match vs, hl with
    | [v], _ => exact ⟨v, rfl⟩
  obtain ⟨u, rfl, rv⟩ := Vals.one r
  have KX : K.In s.heap := e0.mod.kin.keeps fun b o e => (e0.bs b o e).1
  have lim : s.heap.NoLimit := e0.mod.nolimit.keeps fun b o e => (e0.bs b o e).1
  refine PySem.W.kla_callFunE hr.depth (la.fn e0.hok) rfl hco hgen rfl (la.code e0.hok) (hb _ _ _ _ ?_)
  refine wpAny_newFunctionEnv hcell (fun y hy => ?_) (fun h₁ hns hsb => ⟨lim.fresh _ hsb, ?_⟩) hk
  · obtain rfl : y = (x, u) := List.mem_singleton.mp hy
    exact hp
  show codeAny _ _ (.expr body (PySem.W.envX q scope s.heap.objs.size f (.ref c) clos)) _ _
  have hk₁ : ∀ b o, s.heap.get? b = some o → h₁.get? b = some o := fun b o e => hsb.extBut b o (Nat.ne_of_lt (Heap.lt_size e)) (Heap.get?_push_of_some _ e)
  obtain ⟨t, ht, hq⟩ := hbody A outer s H v Q E (hr.deeper _) h
  have cellIn : ∀ y c v, base.IsCell c v → clos.lookup y = some c → h₁.IsCell c v ∧ H c = none := fun y c v ⟨o, ho, hd⟩ _ => ⟨⟨o, hk₁ c o (e0.bs c o ho).1, hd⟩, (e0.bs c o ho).2⟩
  have noA : ∀ b : Addr, b ∉ (cxL CX P w K mg base (x :: frees) q scope clos f (.ref c) A outer s H E).ex := fun b z => absurd (show b ∈ ([] : List Addr) from z) (by simp)
  have I : Inv (cxL CX P w K mg base (x :: frees) q scope clos f (.ref c) A outer s H E) [] (some v :: vals.map some) H { s with heap := h₁, toks := s.toks + ([x].zip [u]).length } := by
    refine ⟨⟨e0.mod, hk, rfl, rfl, Nat.le_refl _, hinj, fun y hy => ?_, fun y c z _ => ?_, fun _ => hr.hd, Around.frames_deeper e0.frames, .inr ⟨rfl, rfl⟩, fun b z => absurd z (noA b), e0.bs, e0.bsz, fun b _ _ => noA b, fun b z => absurd z (noA b), e0.funs, e0.frf⟩,
      rfl, e0.bare, Un.kept hk₁, ⟨_, hns, fun i y v' h1 h2 h3 => ?_⟩, fun y c hc => ?_, e0.hok.fresh (Nat.le_refl _), fun y c hc => ?_, fun p hp => absurd (show p ∈ ([] : List (Addr × Obj)) from hp) (by simp), e0.hok.kept hk₁, ?_⟩
    · have hy : scope.names.lookup y = some .cell ∨ scope.names.lookup y = some .free := hy
      rcases hy with hy | hy
      · exact absurd rfl (hcell _ (PySem.mem_of_lookup hy))
      · exact hhas y hy
    · have z' : false = true := z
      cases z'
    · cases i with
      | zero =>
        have e1 : some x = some y := h1
        have e2 : some (some v) = some (some v') := h2
        cases e1; cases e2
        refine ⟨u, rv, .inl ⟨hp, ?_⟩⟩
        simp
      | succ i =>
        have e1 : frees[i]? = some y := h1
        have e2 : (vals.map some)[i]? = some (some v') := h2
        rw [List.getElem?_map] at e2
        cases e3 : vals[i]? with
        | none => rw [e3] at e2; cases e2
        | some v2 =>
          rw [e3] at e2
          cases e2
          obtain ⟨c, u', hc, ru, hcc⟩ := hval i y _ e1 e3
          exact ⟨u', ru, .inr ⟨.inr (hfk y (List.mem_of_getElem? e1)), c, hc, (cellIn y c _ hcc hc).1⟩⟩
    · obtain ⟨v2, hv2⟩ := hcells y c hc
      exact ⟨v2, (cellIn y c v2 hv2 hc).1⟩
    · obtain ⟨v2, hv2⟩ := hcells y c hc
      exact (cellIn y c v2 hv2 hc).2
    · show (some v :: vals.map some).length = (x :: frees).length
      simp [hlen]
  refine PySem.W.kla_codeExpr (wpAny_mono (ht [] _ _ H _ I hq) (fun u' s' hs => ?_) fun e s' hs => hs)
  obtain ⟨v', H', J, rv', q'⟩ := hs
  exact ⟨v', H', J.os, J.bare, J.base, J.hok, rv', q'⟩
end L2
end

section
set_option Elab.async false
set_option linter.all false
set_option maxRecDepth 100000
set_option maxHeartbeats 2000000
namespace L2
open PySem PySem.Spec PyProof.Rows
/-! the law's head where code tables may grow -/
theorem tab_new {T : Addr} {q : Str} {H : Hp} (h : H T = some (.tbl #[])) : TabOk T q H := ⟨#[], h, trivial, fun pos cv e => by simp [codeAmong] at e⟩
theorem law_callT {P : Program} {w : World} {K : PySem.W.Frag} {mg mb : Str → Option Value} {CX : CXT} {k : Nat} {fa a : Addr} {fd : FuncData} {x : Str} {sp : Sp} {s₁ : Shared} {vs : List Value} {ns : List Int} (tabs : List (Addr × Addr))
    (KX : K.In s₁.heap) (hns : s₁.heap.Ns mainGlobals mg) (hb : s₁.heap.Ns builtinsNs mb) (hbb : ∀ x : Str, x ≠ "__name__" → mb x = bootBuiltins x) (hlim : s₁.heap.NoLimit) (hg : s₁.gens = #[])
    (ha : s₁.heap.get? a = some { cls := .type "list", data := .seq vs.toArray }) (hi : IntsAre vs ns) (hl : ns.length ≤ sizeLine) (hr : Room k callerA)
    (hT : PySem.W.TabsAt tabs s₁.heap) (hKT : PySem.W.noTabs K = true) (hbm : Bm mg s₁.heap)
    (F : ∀ base : Heap, K.In base → base.Ns mainGlobals mg → Bm mg base → (∀ z ∈ tabs, PySem.W.CodeHd base z.1 z.2) → FnOk P w K mg base CX k fa fd [x] sp) (hbind : ∀ (s : Shared) (u : Value), BindsTo s fd ⟨[u], []⟩ [(x, u)])
    (hsp : ∀ H : Hp, (∀ z ∈ tabs, H z.2 = some (.tbl #[])) → SqL K H a (ns.map V.int) → sp [.ref a] H (fun v _ => v = .bl true) fun _ _ _ => False)
    (hCX : ∀ H e s', CX [] H s₁ (fun _ _ _ => False) e s' → False) :
    codeAny (model P w) callerA (.call (.ref fa) ⟨[.ref a], []⟩) (fun r s' => r = .ok (.ret (.bool true)) ∧ OldK s₁.heap s'.heap ∧ s'.os = s₁.os ∧ AllBare s'.gens) s₁ := by
  have rv := vals_ints hi
  have lenV := hi.length
  have tabAt : ∀ b, b ∈ tabs.map (·.2) → s₁.heap.get? b = some (PySem.W.tabObj #[]) ∧ isCodeTable s₁.heap b := fun b hb => by
    obtain ⟨z, hz, rfl⟩ := List.mem_map.mp hb
    exact ⟨(hT z hz).2, ((hT z hz).1.tab (hT z hz).2).isCodeTable⟩
  have aT : a ∉ tabs.map (·.2) := fun z => by
    have := (tabAt a z).1
    rw [ha] at this; cases this
  have core : ∀ H : Hp, (∀ b, b ∈ tabs.map (·.2) → H b = some (.tbl #[])) → SqL K H a (ns.map V.int) → HOk P w H s₁.heap → (∀ b, H b ≠ none → b = a ∨ b ∈ tabs.map (·.2)) → (H a ≠ none → K.lookup a = none ∧ ∃ o xs, H a = some (.frz o (.lst xs))) →
      codeAny (model P w) callerA (.call (.ref fa) ⟨[.ref a], []⟩) (fun r s' => r = .ok (.ret (.bool true)) ∧ OldK s₁.heap s'.heap ∧ s'.os = s₁.os ∧ AllBare s'.gens) s₁ := by
    intro H hO hS hok hA hK
    have base_of : ∀ {b : Addr} {o : Obj}, s₁.heap.get? b = some o → H b = none → (hidT s₁.heap H).get? b = some o := fun e n => hidT_get e n
    have cls_free : ∀ {b : Addr} {o : Obj}, s₁.heap.get? b = some o → (∀ it n, o.data ≠ .seq it n) → (∀ vs, o.data = .fields vs → o.cls ≠ .none) → H b = none := fun {b o} e d1 d2 => by
      cases q : H b with
      | none => rfl
      | some u =>
        rcases hA b (by rw [q]; simp) with e' | e'
        · subst e'
          rw [ha] at e; cases e
          exact absurd rfl (d1 _ _)
        · have z := (tabAt b e').1
          rw [e] at z; cases z
          exact absurd rfl (d2 _ rfl)
    have nsK : ∀ {b : Addr} {m : Str → Option Value}, s₁.heap.Ns b m → (hidT s₁.heap H).Ns b m := fun {b m} ⟨o, es, ep, e, d, r⟩ => ⟨o, es, ep, base_of e (cls_free e (fun _ _ z => by rw [d] at z; cases z) fun _ z => by rw [d] at z; cases z), d, r⟩
    have hKb : K.In (hidT s₁.heap H) := fun b o e => base_of (KX b o e) (by
      cases q : H b with
      | none => rfl
      | some u =>
        rcases hA b (by rw [q]; simp) with e' | e'
        · subst e'
          rw [(hK (by rw [q]; simp)).1] at e; cases e
        · have z := (tabAt b e').1
          rw [KX b o e] at z; cases z
          have h2 := List.all_eq_true.mp hKT (b, PySem.W.tabObj #[]) (PySem.W.mem_of_lookupK e)
          exact absurd (show false = true from h2) Bool.false_ne_true)
    have hM : Mod K mg (hidT s₁.heap H) := ⟨hKb, nsK hns, ⟨mb, nsK hb, hbb⟩, let ⟨mc, h1, h2⟩ := hlim; ⟨mc, nsK h1, h2⟩⟩
    have hB : Bm mg (hidT s₁.heap H) := by
      obtain ⟨bm, ob, b1, b2, b3, b4, b5, b6⟩ := hbm
      exact ⟨bm, ob, b1, b2, base_of b3 (cls_free b3 (fun _ _ z => by rw [b6] at z; cases z) fun _ z => by rw [b6] at z; cases z), b4, b5, b6⟩
    have hC : ∀ z ∈ tabs, PySem.W.CodeHd (hidT s₁.heap H) z.1 z.2 := fun z hz => by
      obtain ⟨o, vs', file, tf, flags, tg, inF, text, tt, e1, r1, r2, r3⟩ := (hT z hz).1
      exact ⟨o, vs', file, tf, flags, tg, inF, text, tt, base_of e1 (cls_free e1 (fun _ _ z => by rw [r2] at z; cases z) fun _ _ => by rw [r1]; nofun), r1, r2, r3⟩
    have e0 : Env0 P w K mg (hidT s₁.heap H) callerA [] s₁ H := ⟨rfl, hM, fun b o e => of_hidT e, Nat.le_of_eq (hidT_size _ _), trivial, fun b hb => absurd (show b ∈ ([] : List Addr) from hb) (by simp), hok, .of_eq hg⟩
    refine codeAny_mono ((F _ hKb (nsK hns) hB hC).run callerA [] s₁ H ⟨[.ref a], []⟩ [.ref a] [.ref a] _ _ hr e0 (hbind s₁ (.ref a)) (.cons rfl .nil) (hsp H (fun z hz => hO z.2 (List.mem_map_of_mem hz)) hS)) fun r s' h => ?_
    cases r with
    | error e => exact (hCX H e s' h).elim
    | ok fl =>
      cases fl with
      | next => exact False.elim h
      | brk => exact False.elim h
      | cont => exact False.elim h
      | ret u =>
        obtain ⟨v, H', os, bare, un, hok', r', q⟩ := h
        have q' : v = .bl true := q
        subst q'
        obtain rfl : u = Value.bool true := r'
        refine ⟨rfl, ⟨fun b o e => ?_, fun b o e => un.there b o e (by simp)⟩, os, bare⟩
        cases q : H b with
        | none => exact .inl (un.keep b o e q (by intro z; exact absurd (show b ∈ ([] : List Addr) from z) (by simp)) (by simp))
        | some u =>
          rcases hA b (by rw [q]; simp) with e' | e'
          · subst e'
            obtain ⟨_, ob, xs, z⟩ := hK (by rw [q]; simp)
            have z2 := un.frzs b ob _ z
            obtain ⟨e1, _⟩ := hok b _ z
            obtain ⟨e2, _⟩ := hok' b _ z2
            rw [e] at e1; cases e1
            exact .inl e2
          · obtain ⟨g1, g2⟩ := tabAt b e'
            obtain ⟨more, z2⟩ := un.tbls b #[] (hO b e')
            rw [e] at g1; cases g1
            exact .inr (.inl ⟨g2, rfl, #[], more, rfl, hok' b _ z2⟩)
  cases hk : K.lookup a with
  | some o =>
    have e := KX a o hk
    rw [ha] at e
    cases e
    refine core (fun b => if b ∈ tabs.map (·.2) then some (.tbl #[]) else none) (fun b z => if_pos z) (.inr ⟨_, vs.toArray, _, hk, rfl, rfl, rfl, by rw [List.size_toArray, lenV]; exact hl, by simpa using rv⟩) (fun b u z => ?_) (fun b z => ?_) fun z => absurd (if_neg aT) z
    · by_cases hb : b ∈ tabs.map (·.2)
      · have z' := (if_pos hb).symm.trans z
        cases z'
        exact (tabAt b hb).1
      · have z' := (if_neg hb).symm.trans z
        cases z'
    · by_cases hb : b ∈ tabs.map (·.2)
      · exact .inr hb
      · exact absurd (if_neg hb) z
  | none =>
    refine core (fun b => if b ∈ tabs.map (·.2) then some (.tbl #[]) else if b = a then some (.frz { cls := .type "list", data := .seq vs.toArray } (.lst (ns.map V.int))) else none) (fun b z => if_pos z)
      (.inl (.inr ⟨{ cls := .type "list", data := .seq vs.toArray }, (if_neg aT).trans (if_pos rfl)⟩)) (fun b u z => ?_) (fun b z => ?_) fun _ => ⟨hk, _, _, (if_neg aT).trans (if_pos rfl)⟩
    · by_cases hb : b ∈ tabs.map (·.2)
      · have z' := (if_pos hb).symm.trans z
        cases z'
        exact (tabAt b hb).1
      · by_cases hb2 : b = a
        · have z' := ((if_neg hb).trans (if_pos hb2)).symm.trans z
          cases z'
          subst hb2
          exact ⟨ha, by rw [List.length_map]; exact hl, vs, _, rv, ha⟩
        · have z' := ((if_neg hb).trans (if_neg hb2)).symm.trans z
          cases z'
    · by_cases hb : b ∈ tabs.map (·.2)
      · exact .inr hb
      · by_cases hb2 : b = a
        · exact .inl hb2
        · exact absurd ((if_neg hb).trans (if_neg hb2)) z

/-- the goal that the head leaves, from the law's promise; tabs: the codes that make lambdas, and their tables -/
theorem walk_ofT {l : PySem.W.OpenLaw} {n k : Nat} {q : Program} {loose : List Str} {XP : (Str → Option Value) → Heap → Prop} {YP : World → Heap → Prop} {d : DefRec} {K : Params → PySem.W.Frag} {CX : World → CXT} {sp : World → List (Addr × Addr) → Sp} {x : Str}
    (hn : l.most = some n) (hn2 : n ≤ sizeLine) (hdf : d.params.defaults = []) (hr : Room k callerA)
    (hY : ∀ (w : World) (h : Heap), YP w h → (K w.params).In h) (hKT : ∀ w : World, PySem.W.noTabs (K w.params) = true)
    (F : ∀ (w : World) (mg mb : Str → Option Value) (mean : ExcName → Option Value) (fa : Addr) (h : Heap), (K w.params).In h → Top q (PySem.W.looseW q loose) mean mg mb h → mg d.name = some (.ref fa) →
      ∃ (tabs : List (Addr × Addr)) (fd : FuncData), PySem.W.TabsAt tabs h ∧ (∀ (s : Shared) (u : Value), BindsTo s fd ⟨[u], []⟩ [(x, u)]) ∧
        (∀ (H : Hp) (a : Addr) (ns : List Int), ns.length ≤ n → (∀ z ∈ tabs, H z.2 = some (.tbl #[])) → SqL (K w.params) H a (ns.map V.int) → sp w tabs [.ref a] H (fun v _ => v = .bl true) fun _ _ _ => False) ∧
        ∀ base : Heap, (K w.params).In base → base.Ns mainGlobals mg → Bm mg base → (∀ z ∈ tabs, PySem.W.CodeHd base z.1 z.2) → FnOk l.prog w (K w.params) mg base (CX w) k fa fd [x] (sp w tabs))
    (hCX : ∀ (w : World) (H : Hp) (s : Shared) (e : Value) (s' : Shared), CX w [] H s (fun _ _ _ => False) e s' → False) :
    PySem.W.WalkO q loose XP YP l.row.toRowW d [] (fun f vs => PySem.call f vs) := by
  refine Att.attach_call hn hdf fun w s₀ s₁ mg mb fa o pm cd doc a vs ns G Y ho hd hcd hmg hobj hints hlen hg => ?_
  have KX := hY w _ Y
  obtain ⟨tabs, fd, hT, hb, hS, hF⟩ := F w mg mb _ fa _ KX G.T hmg
  exact law_callT tabs KX G.T.g G.T.b G.T.builtins G.T.nolimit hg hobj hints (Nat.le_trans hlen hn2) hr hT (hKT w) G.T.bmain hF hb (fun H h1 h2 => hS H a ns hlen h1 h2) fun H e s' => hCX w H s₁ e s'
end L2
end

section
set_option Elab.async false
set_option linter.all false
set_option maxRecDepth 100000
set_option maxHeartbeats 2000000
namespace L2
open PySem PySem.Spec PyProof.Rows
/-! a def that makes a lambda: its code is known; the lambda by its text -/
section
variable {P : Program} {w : World} {K : PySem.W.Frag} {mg : Str → Option Value} {base : Heap}
theorem Fun.okEc {x qual : Str} {st : Stmt} {f : Addr} {fd : FuncData} {N ps : List Str} {k : Nat} {sp : Sp} (F : Fun K x qual st f fd) (S : FnScope N ps (defScope st)) (len : ∀ vs H Q E, sp vs H Q E → vs.length = ps.length)
    (hbody : ∀ (cdv : Value) (A : Around) (outer : List Env) (s : Shared) (H : Hp) (vs : List V) (Q : VK) (E : XK), fd.code = cdv → Room k (A.deeper (envOfC qual (defScope st) s.heap.objs.size f cdv)) → sp vs H Q E →
      ∃ t, PSs (cxOf (CXe P w) P w K mg base N qual (defScope st) f cdv A outer s H E) (defBody st) t ∧ t { nx := fun _ H' => Q .non H', rt := Q } (start N vs) H) : FnOk P w K mg base (CXe P w) (k + 1) f fd ps sp := by
  obtain ⟨oc, od, kV, doc, pm, an, cdv, ct, osl, rfl, lk, hcd⟩ := F.ex
  exact fn_of lk hcd S len fun A outer s H vs Q E hr hsp => hbody cdv A outer s H vs Q E rfl hr hsp
end
/-- the lambda that is the last argument of what a def returns -/
def theLam (s : Stmt) : Expr := match (defBody s).getLast? with
  | some (.Return (some (.Call _ args _ _)) _) => (args.getLast?).getD (.Constant .none 0 ⟨0, 0, 0, 0⟩)
  | _ => .Constant .none 0 ⟨0, 0, 0, 0⟩
def lamArgs : Expr → Arguments
  | .Lambda a _ _ _ => a
  | _ => { posonlyargs := [], args := [], vararg := none, kwonlyargs := [], kw_defaults := [], kwarg := none, defaults := [] }
def lamBody : Expr → Expr
  | .Lambda _ b _ _ => b
  | e => e
def lamScope : Expr → Scope
  | .Lambda _ _ s _ => s
  | _ => { kind := .function, names := [], isGenerator := false, isCoroutine := false }
/-- what is asked of a lambda's names: its one parameter, its free names and where they stand in the def -/
def ckLam (sc : Scope) (XN : List Str) (scope : Scope) (x : Str) (frees : List Str) (ix : List Nat) : Bool :=
  scope.kind == .function && !scope.isCoroutine && !scope.isGenerator && scope.names.lookup x == some .local && scope.names.all (fun y => y.2 != .cell && (y.2 != .free || sc.names.lookup y.1 == some .cell)) &&
  frees.all (fun y => scope.names.lookup y == some .free) && ix.length == frees.length && (List.range ix.length).all fun j => match ix[j]?, frees[j]? with
    | some i, some y => XN[i]? == some y && sc.names.lookup y == some .cell
    | _, _ => false
def valsOf (σ : St) (ix : List Nat) (vals : List V) : Prop := ix.length = vals.length ∧ ∀ (j i : Nat) (v : V), ix[j]? = some i → vals[j]? = some v → σ[i]? = some (some v)
theorem fn_lam {X : Cx} {CX : CXT} {base : Heap} {σ : St} {k : Nat} {f c : Addr} {q : Str} {params : Arguments} {body : Expr} {scope : Scope} {pm ct : Value} {x : Str} {frees : List Str} {ix : List Nat} {vals : List V} {sp : Sp} {sc : Scope} {XN : List Str}
    (U : Up X base σ) (hsc : X.env.scope = sc) (hN : X.N = XN) (ck : ckLam sc XN scope x frees ix = true) (hv : valsOf σ ix vals)
    (hsp : ∀ vs H Q E, sp vs H Q E → vs.length = 1 ∧ LamAt H f (lamFd q params body scope (clo X.env.cells scope.names []) pm c ct))
    (hbody : ∀ (A : Around) (outer : List Env) (s : Shared) (H : Hp) (v : V) (Q : VK) (E : XK), Room k (A.deeper (PySem.W.envX q scope s.heap.objs.size f (.ref c) (clo X.env.cells scope.names []))) → sp [v] H Q E →
      ∃ t, PE (cxL CX X.prog X.w X.K X.mg base (x :: frees) q scope (clo X.env.cells scope.names []) f (.ref c) A outer s H E) body t ∧ t (some v :: vals.map some) H Q) :
    FnOk X.prog X.w X.K X.mg base CX (k + 1) f (lamFd q params body scope (clo X.env.cells scope.names []) pm c ct) [x] sp := by
  unfold ckLam at ck
  simp only [Bool.and_eq_true, List.all_eq_true] at ck
  obtain ⟨⟨⟨⟨⟨⟨⟨c1, c2⟩, c3⟩, c4⟩, c5⟩, c6⟩, c7⟩, c8⟩ := ck
  subst hsc; subst hN
  have inN : ∀ y, scope.names.lookup y = some .free → X.env.scope.names.lookup y = some .cell := fun y hy => by
    have m := c5 _ (PySem.mem_of_lookup hy)
    have m2 := m.2
    simpa using m2
  have free_mem : ∀ y, scope.names.lookup y = some .free → (y, NameKind.free) ∈ scope.names := fun y hy => PySem.mem_of_lookup hy
  have look : ∀ y d, X.env.cells.lookup y = some d → (y, NameKind.free) ∈ scope.names → (clo X.env.cells scope.names []).lookup y = some d := fun y d hd hm => by
    have := clo_in (cells := X.env.cells) (acc := []) (x := y) (.inl hm)
    rw [hd] at this
    exact this
  have back : ∀ y d, (clo X.env.cells scope.names []).lookup y = some d → X.env.cells.lookup y = some d := fun y d h => by
    rcases clo_out h with h | ⟨h1, h2⟩
    · cases h
    · have m := (c5 _ h1).2
      obtain ⟨d', hd'⟩ := U.has y (by simpa using m)
      rw [hd'] at h2 ⊢
      rw [← h2]; rfl
  have c8' : ∀ j i y, ix[j]? = some i → frees[j]? = some y → X.N[i]? = some y ∧ X.env.scope.names.lookup y = some .cell := fun j i y e1 e2 => by
    have hj : j < ix.length := by
      rcases Nat.lt_or_ge j ix.length with h | h
      · exact h
      · rw [List.getElem?_eq_none h] at e1; cases e1
    have := c8 j (List.mem_range.mpr hj)
    rw [e1, e2] at this
    simpa using this
  have len : ix.length = frees.length := by simpa using c7
  refine fn_ofL (frees := frees) (vals := vals) (by simpa using c1) (by simpa using c2) (by simpa using c3) (by simpa using c4) (fun y hy => by have := (c5 y hy).1; simpa using this) (fun y hy => by have := c6 y hy; simpa using this)
    (fun y hy => ?_) (fun y z d h1 h2 => U.inj y z d (back y d h1) (back z d h2)) (by have := hv.1; omega) (fun j y v e1 e2 => ?_) (fun y d h => U.cells y d (back y d h)) hsp hbody
  · obtain ⟨d, hd⟩ := U.has y (inN y hy)
    exact ⟨d, look y d hd (free_mem y hy)⟩
  · have hj : j < ix.length := by
      rcases Nat.lt_or_ge j ix.length with h | h
      · exact h
      · rw [List.getElem?_eq_none (by omega)] at e1; cases e1
    have e3 : ix[j]? = some ix[j] := List.getElem?_eq_getElem hj
    obtain ⟨g1, g2⟩ := c8' j _ y e3 e1
    obtain ⟨d, u, h1, h2, h3⟩ := U.caps _ y v g1 (hv.2 j _ v e3 e2) g2
    have hy : scope.names.lookup y = some .free := by
      have := c6 y (List.mem_of_getElem? e1)
      simpa using this
    exact ⟨d, u, look y d h1 (free_mem y hy), h2, h3⟩
/-- the closure that is made, where the frame has the cells -/
theorem clo_of {X : Cx} {sc scope : Scope} {x : Str} {XN frees : List Str} {ix : List Nat} (hsc : X.env.scope = sc) (hN : X.N = XN) (has : ∀ y, X.env.scope.names.lookup y = some .cell → ∃ c, X.env.cells.lookup y = some c) (ck : ckLam sc XN scope x frees ix = true) :
    closureFor scope X.env = pure (clo X.env.cells scope.names []) := by
  unfold ckLam at ck
  simp only [Bool.and_eq_true, List.all_eq_true] at ck
  subst hsc
  refine clo_eq fun y hy hf => ?_
  obtain ⟨c, hc⟩ := has y.1 (by have := (ck.1.1.1.2 y hy).2; rw [hf] at this; simpa using this)
  rw [hc]; rfl
/-- for i, x in enumerate(xs) -/
theorem for_enum {K : PySem.W.Frag} {a : Addr} {xs : List V} {ja jb : Nat} {tb : TS} {D : Ends} {σ : St} {H : Hp} (Pv : Nat → St → Hp → Prop) (h0 : Pv 0 σ H) (hl : ∀ i σ H, i ≤ xs.length → Pv i σ H → SqL K H a xs)
    (hs : ∀ i x σ H T, xs[i]? = some x → H T = none → Pv i σ H → tb { D with nx := Pv (i + 1), ct := Pv (i + 1), bk := D.nx } ((σ.set ja (some (.int i))).set jb (some x)) (upd H T (.tup [.int i, x]))) (hd : ∀ σ H, Pv xs.length σ H → D.nx σ H) :
    ∃ W : Nat → Nat → St → Hp → Prop, (∃ m, W 0 m σ H) ∧ ∀ i m σ H, W i m σ H → ((Ite K a xs).stop i H ∧ D.nx σ H) ∨ ((Ite K a xs).go i H ∧ ∃ N : St → Hp → Prop, (∀ σ' H', N σ' H' → ∃ m', m' < m ∧ W (i + 1) m' σ' H') ∧
      ∀ x H', (Ite K a xs).yld i H x H' → gTup K 2 (gCons (gName ja) (gCons (gName jb) gNil)) x σ H' fun σ2 H2 => tb { D with nx := N, ct := N, bk := D.nx } σ2 H2) := by
  refine ⟨fun i m σ H => m = xs.length - i ∧ i ≤ xs.length ∧ Pv i σ H, ⟨xs.length, by simp, Nat.zero_le _, h0⟩, ?_⟩
  rintro i m σ H ⟨rfl, hi, p⟩
  have q := hl i σ H hi p
  by_cases hlt : i < xs.length
  · refine .inr ⟨⟨q, hlt⟩, Pv (i + 1), fun σ' H' p' => ⟨xs.length - (i + 1), by omega, rfl, hlt, p'⟩, fun x H' y => ?_⟩
    obtain ⟨T, v, hT, hv, rfl, rfl⟩ := y
    exact ⟨T, [.int i, v], rfl, SqT.of upd_same, rfl, _, _, rfl, _, _, rfl, rfl, hs i v σ H T hv hT p⟩
  · have e : i = xs.length := by omega
    exact .inl ⟨⟨q, e⟩, hd σ H (e ▸ p)⟩
theorem enum_all (f : Nat → V → V) : ∀ (xs : List V) (k : Nat), enumTail (fun _ _ => true) f xs k = (List.range xs.length).map fun j => f (k + j) (xs.getD j .non)
  | [], _ => rfl
  | x :: r, k => by
    rw [enumTail, if_pos rfl, enum_all f r (k + 1), List.length_cons, List.range_succ_eq_map, List.map_cons, List.map_map]
    congr 1
    refine List.map_congr_left fun j _ => ?_
    show f (k + 1 + j) (r.getD j .non) = f (k + (j + 1)) ((x :: r).getD (j + 1) .non)
    rw [show k + 1 + j = k + (j + 1) by omega]
    rfl
end L2
end

section
set_option Elab.async false
set_option linter.all false
set_option maxRecDepth 100000
set_option maxHeartbeats 2000000
namespace L2
open PySem PySem.Spec PyProof.Rows
/-! sorted(xs, key=lambda place: lot.index(place)) -/
theorem lt_idxOf {k : Int} : ∀ (ns : List Int) (j : Nat), j < ns.idxOf k → ∀ h : j < ns.length, ns[j] ≠ k
  | [], _, _, h => absurd h (Nat.not_lt_zero _)
  | a :: r, 0, hj, _ => by
    intro z
    rw [List.idxOf_cons] at hj
    have e : (a == k) = true := by simpa using z
    rw [e] at hj
    exact absurd hj (Nat.lt_irrefl _)
  | a :: r, j + 1, hj, h => by
    rw [List.idxOf_cons] at hj
    cases e : a == k with
    | true => rw [e] at hj; exact absurd hj (Nat.not_lt_zero _)
    | false =>
      rw [e] at hj
      exact lt_idxOf r j (by simpa using hj) (by simpa using h)
section
variable {prog : Program} {w : World} {A : Around} {E : Value → Shared → Prop} {s : Shared}
theorem call_index {l : Addr} {its : List Value} {ns : List Int} {k : Int} {t : Tok} {Q : Value → Shared → Prop} (hl : s.heap.IsList l its.toArray) (hi : IntsAre its ns) (hk : k ∈ ns) (hz : ns.length < 1000)
    (h : ∀ t', Q (.int (ns.idxOf k : Nat) t') { s with toks := s.toks + 1 }) : wpAny (model prog w) A (call (.builtin "list.index") [.ref l, .int k t]) Q E s := by
  obtain ⟨⟨cls, dd, data, slots⟩, ho, hc, n, hd⟩ := id hl
  obtain rfl : cls = .type "list" := hc
  obtain rfl : data = .seq its.toArray n := hd
  have e1 : its.length = ns.length := hi.length
  have e2 : ns.idxOf k < ns.length := List.idxOf_lt_length_iff.mpr hk
  have m := SeqAt.list_indexAt l its.toArray n dd slots (.int k t) (isInt k) (ns.idxOf k) (by rw [List.size_toArray, e1]; exact e2) (by omega)
    (by
      have e3 := isInt_at k hi (ns.idxOf k) (by omega) e2
      rw [List.getElem_idxOf e2] at e3
      simpa using e3)
    (fun j h1 h2 => by
      have e3 := isInt_at k hi j (by simpa using h1) (by omega)
      have e4 : ns[j]'(by omega) ≠ k := lt_idxOf ns j h2 (by omega)
      have e5 : (ns[j]'(by omega) == k) = false := by simpa using e4
      rw [e5] at e3
      simpa using e3)
  exact call_meets PySem.F.slot_list_index ⟨_, ho, rfl⟩ PySem.F.entry_list_index (PySem.F.args_list_index_2 _ _) m ⟨ho, fun y hy => (eq_isInt k t hi y (by simpa using hy)).at _ _, h _⟩
/-- the lambda's call -/
theorem lam_index {f c l cl : Addr} {q : Str} {params : Arguments} {scope : Scope} {clos : List (Str × Addr)} {pm ct : Value} {p1 p2 apos cpos : Pos} {its : List Value} {ns : List Int} {k : Int} {t : Tok} {Q : Value → Shared → Prop}
    (hroom : A.depth < recursionLimit) (ho : s.heap.get? f = some { cls := .type "function", data := .func (lamFd q params (.Call (.Attribute (.Name "lot" p1) "index" apos) [.Name "place" p2] [] cpos) scope clos pm c ct) })
    (hcd : s.heap.CodeRec (.ref c) q) (lim : s.heap.NoLimit) (hk : scope.kind = .function) (hco : scope.isCoroutine = false) (hgen : scope.isGenerator = false) (hx : scope.names.lookup ("place" : Str) = some .local) (hy : scope.names.lookup ("lot" : Str) = some .free)
    (hcell : ∀ z ∈ scope.names, z.2 ≠ .cell) (hb : ∀ u, bindArgs (lamFd q params (.Call (.Attribute (.Name "lot" p1) "index" apos) [.Name "place" p2] [] cpos) scope clos pm c ct) ⟨[u], []⟩ = pure [(("place" : Str), u)])
    (hc : clos.lookup ("lot" : Str) = some cl) (hcv : s.heap.IsCell cl (some (.ref l))) (hline : (apos.endLine == cpos.line) = true) (hl : PlainL s.heap l its.toArray) (hi : IntsAre its ns) (hkn : k ∈ ns) (hz : ns.length < 1000)
    (h : ∀ h' tk t', (∀ b o, s.heap.get? b = some o → h'.get? b = some o) → Q (.int (ns.idxOf k : Nat) t') { s with heap := h', toks := tk }) : wpAny (model prog w) A (call (.ref f) [.int k t]) Q E s := by
  refine wpAny_call (PySem.W.kla_callFunE hroom ho rfl hco hgen rfl hcd ?_)
  rw [hb]
  refine wpAny_pure (wpAny_newFunctionEnv hcell (fun z hz => ?_) (fun h₁ hns hsb => ⟨lim.fresh _ hsb, ?_⟩) hk)
  · obtain rfl : z = (("place" : Str), .int k t) := List.mem_singleton.mp hz
    exact hx
  show codeAny _ _ (.expr _ (PySem.W.envX q scope s.heap.objs.size f (.ref c) clos)) _ _
  have kp : ∀ b o, s.heap.get? b = some o → h₁.get? b = some o := fun b o e => hsb.extBut b o (Nat.ne_of_lt (Heap.lt_size e)) (Heap.get?_push_of_some _ e)
  refine PySem.W.kla_codeExpr ?_
  refine wpAny_Call_method_late rfl rfl hline rfl (wpAny_Name (wpAny_loadName_free hk hy hc (hcv.keeps kp) ?_))
  have pl := hl.keeps kp
  have il := pl.isList
  obtain ⟨ol, n, e1, e2, e3, e4⟩ := id pl
  refine ⟨"list", "list.index", PySem.F.plainAttrs_list, PySem.F.slot_list_index, PySem.F.type_list_index, il.typeIs, fun a e => ?_, ?_⟩
  · cases e
    exact ⟨ol, e1, e3⟩
  refine Calls.callWith_builtin rfl (Calls.evalArgs_plain ?_)
  show wpAny _ _ (spliced ((false, eval (.Name "place" p2) (PySem.W.envX q scope s.heap.objs.size f (.ref c) clos)) :: [])) _ _ _
  have hv : List.lookup ("place" : Str) [(("place" : Str), Value.int k t)].reverse = some (.int k t) := by simp
  refine Calls.spliced_cons (wpAny_Name (wpAny_loadName_local (v := .int k t) hk hx hns hv (Calls.spliced_nil ?_)))
  exact call_index il hi hkn hz fun t' => h h₁ _ t' kp
end
end L2
end

section
set_option Elab.async false
set_option linter.all false
set_option maxRecDepth 100000
set_option maxHeartbeats 2000000
namespace MX
open PySem
/-! max(xs, default=d) of a list of ints -/
theorem args_dflt (a v : Value) : argsOk "max" ⟨[a], [(Str.ofString "default", v)]⟩ := by unfold argsOk; kernel_rfl
/-- the greatest of the first j -/
def Top (f : Nat → Int) (j : Nat) (m : Int) : Prop := (∃ i, i < j ∧ f i = m) ∧ ∀ i, i < j → f i ≤ m
theorem Top.more {f : Nat → Int} {j : Nat} {m : Int} (h : Top f j m) (hl : f j ≤ m) : Top f (j + 1) m :=
  ⟨let ⟨i, hi, e⟩ := h.1; ⟨i, by omega, e⟩, fun i hi => by
    by_cases e : i = j
    · subst e; exact hl
    · exact h.2 i (by omega)⟩
theorem Top.new {f : Nat → Int} {j : Nat} (h : ∀ i, i < j → f i ≤ f j) : Top f (j + 1) (f j) :=
  ⟨⟨j, by omega, rfl⟩, fun i hi => by
    by_cases e : i = j
    · subst e; exact Int.le_refl _
    · exact h i (by omega)⟩
section
variable {prog : Program} {w : World} {A : Around} {R : Result → Shared → Prop} {I : Addr} {fp wr : List Addr} {n : Nat} {Pv : Nat → Value → Prop} {St : Nat → Heap → Prop}
theorem nm : (toString "max" ++ toString ".loop" : String) = "max.loop" := by decide
/-- what lies in the list that keeps the best -/
def Kept (f : Nat → Int) (j : Nat) (l : Array Value) : Prop := (j = 0 ∧ l = #[]) ∨ ∃ m t, l = #[.int m t, .int m t] ∧ Top f j m
def Res (f : Nat → Int) (n : Nat) (d : Value) (v : Value) : Prop := (n = 0 ∧ v = d) ∨ ∃ m t, v = .int m t ∧ Top f n m
theorem loop (W : Walks prog w A.in1 I fp wr n Pv St) (f : Nat → Int) (hf : ∀ i v, Pv i v → ∃ t, v = .int (f i) t) (B : Addr) (hB : B ∉ fp) (d : Value) (k : Nat) :
    ∀ (j : Nat) (s : Shared) (l : Array Value) (c : Nat), j + k = n → St j s.heap → Kept f j l → s.heap.get? B = some { cls := .type "list", data := .seq l c } →
      (∀ v h' tk, Res f n d v → (∀ b o, b ∉ wr → b ≠ B → s.heap.get? b = some o → h'.get? b = some o) → R (.ok (.ret v)) { s with heap := h', toks := tk }) →
      codeAny (model prog w) A (.builtin "max.loop" ⟨[.ref I, .none, .ref B], [(Str.ofString "default", d)]⟩) R s := by
  have hw : B ∉ wr := fun z => hB (W.sub _ z)
  induction k with
  | zero =>
    intro j s l c hj st hl hb hR
    obtain rfl : j = n := by omega
    refine codeAny_builtin F.entry_max_loop ?_
    rw [Around.under_plainId F.plain_max_loop]
    show wpAny _ A.in1 (do let x ← seqItems? (.ref B); _) _ _ s
    refine wpAny_bind (wpAny_seqItems hb rfl ?_)
    show wpAny _ A.in1 (do let x ← tryCatch (pyNext (.ref I)) _; _) _ _ s
    refine wpAny_bind (wpAny_tryCatch (W.done s _ _ st fun h1 tk kp => ?_))
    have hb1 := kp B _ hw hb
    rcases hl with ⟨h0, rfl⟩ | ⟨m, t, rfl, top⟩
    · show wpAny _ A.in1 (do rule _; ret d) _ _ _
      exact wpAny_bind (wpAny_rule (wpAny_pure (hR d h1 tk (.inl ⟨h0, rfl⟩) fun b o h2 _ e => kp b o h2 e)))
    · show wpAny _ A.in1 (do updateSeq B fun _ => #[]; _) _ _ _
      refine wpAny_bind (wpAny_updateSeq hb1 rfl (wpAny_bind (wpAny_letGo (wpAny_pure (hR _ _ tk (.inr ⟨m, t, rfl, top⟩) fun b o h2 h3 e => ?_)))))
      exact (Heap.get?_update_other _ _ (Ne.symm h3)).trans (kp b o h2 e)
  | succ k ih =>
    intro j s l c hj st hl hb hR
    refine codeAny_builtin F.entry_max_loop ?_
    rw [Around.under_plainId F.plain_max_loop]
    show wpAny _ A.in1 (do let x ← seqItems? (.ref B); _) _ _ s
    refine wpAny_bind (wpAny_seqItems hb rfl ?_)
    show wpAny _ A.in1 (do let x ← tryCatch (pyNext (.ref I)) _; _) _ _ s
    refine wpAny_bind (wpAny_tryCatch (W.item j s _ _ (by omega) st fun v h1 tk pv st1 kp => ?_))
    have hb1 := kp B _ hw hb
    obtain ⟨u, rfl⟩ := hf j v pv
    have sw : ∀ {h2 : Heap}, (∀ b, b ≠ B → h2.get? b = h1.get? b) → St (j + 1) h2 := fun {h2} e => W.frame _ _ _ st1 fun b hb2 o e2 => (e b fun z => hB (z ▸ hb2)).trans e2
    rcases hl with ⟨h0, rfl⟩ | ⟨m, t, rfl, top⟩
    · show wpAny _ A.in1 (do updateSeq B fun _ => #[.int (f j) u, .int (f j) u]; _) _ _ _
      refine wpAny_bind (wpAny_updateSeq hb1 rfl ?_)
      rw [nm]
      refine wpAny_pure ⟨plainId_quiet F.plain_max_loop _, ih (j + 1) _ _ _ (by omega) (sw fun b hne => Heap.get?_update_other _ _ (Ne.symm hne)) (.inr ⟨f j, u, rfl, .new fun i hi => by omega⟩) (Heap.get?_update_self _ hb1 rfl) fun v2 h2 tk2 r2 k2 => ?_⟩
      exact hR v2 h2 tk2 r2 fun b o h3 h4 e => k2 b o h3 h4 ((Heap.get?_update_other _ _ (Ne.symm h4)).trans (kp b o h3 e))
    · show wpAny _ A.in1 (do let x ← tryCatch (holding [.int (f j) u, .int (f j) u] (do let a ← richCompare .Gt (.int (f j) u) (.int m t); _)) _; _) _ _ _
      have cmp := CmpOf.ints_gt (prog := prog) (w := w) (A := A.in1) (P := fun i v => ∃ t, v = .int (if i = 0 then f j else m) t) (fun i => if i = 0 then f j else m) (fun _ _ h => h)
      refine wpAny_bind (wpAny_tryCatch (wpAny_holding (wpAny_bind (cmp 0 1 _ _ _ _ _ ⟨u, rfl⟩ ⟨t, rfl⟩ ?_))))
      refine wpAny_bind (wpAny_holding (wpAny_truthy_bool (wpAny_bind (wpAny_letGo (wpAny_pure ?_)))))
      by_cases hgt : m < f j
      · simp only [if_true, if_false, Nat.one_ne_zero, gt_iff_lt, hgt, decide_true]
        refine wpAny_bind (wpAny_updateSeq hb1 rfl (wpAny_bind (wpAny_letGo ?_)))
        rw [nm]
        refine wpAny_pure ⟨plainId_quiet F.plain_max_loop _, ih (j + 1) _ _ _ (by omega) (sw fun b hne => Heap.get?_update_other _ _ (Ne.symm hne)) (.inr ⟨f j, u, rfl, .new fun i hi => by have := top.2 i hi; omega⟩) (Heap.get?_update_self _ hb1 rfl) fun v2 h2 tk2 r2 k2 => ?_⟩
        exact hR v2 h2 tk2 r2 fun b o h3 h4 e => k2 b o h3 h4 ((Heap.get?_update_other _ _ (Ne.symm h4)).trans (kp b o h3 e))
      · simp only [if_true, if_false, Nat.one_ne_zero, gt_iff_lt, hgt, decide_false, Bool.false_eq_true]
        refine wpAny_bind (wpAny_letGo ?_)
        rw [nm]
        refine wpAny_pure ⟨plainId_quiet F.plain_max_loop _, ih (j + 1) _ _ _ (by omega) st1 (.inr ⟨m, t, rfl, top.more (by omega)⟩) hb1 fun v2 h2 tk2 r2 k2 => ?_⟩
        exact hR v2 h2 tk2 r2 fun b o h3 h4 e => k2 b o h3 h4 (kp b o h3 e)
end
section
variable {prog : Program} {w : World} {A : Around} {E : Value → Shared → Prop} {s : Shared} {l : Addr} {xs : Array (Int × Tok)}
theorem max_dflt {Q : Value → Shared → Prop} {d : Value} (hh : A.handled = none) (hl : s.heap.IsList l (intItems xs))
    (h : ∀ v h' tk, Res (numAt xs) xs.size d v → (∀ b o, s.heap.get? b = some o → h'.get? b = some o) → Q v { s with heap := h', toks := tk }) :
    wpAny (model prog w) A (call (.builtin "max") [.ref l] [(Str.ofString "default", d)]) Q E s := by
  refine PyProof.Rows.kmk_tree F.kind_max F.plain_max F.entry_max (args_dflt _ _) ?_
  show wpAny _ A.in1 (do let x ← Builtin.Builtins.bindParams "max" ["key", "default"] 0 ⟨[], [(Str.ofString "default", d)]⟩; _) _ _ s
  refine wpAny_bind (wpAny_of_eq (show Builtin.Builtins.bindParams "max" ["key", "default"] 0 ⟨[], [(Str.ofString "default", d)]⟩ = pure [none, some d] from rfl) ?_)
  refine wpAny_bind (wpAny_pure (wpAny_bind (iter_intList hl fun s2 e st hfp hne => ?_)))
  subst e
  refine wpAny_bind (wpAny_newObj_type ?_)
  rw [nm]
  have W := Walks.list (prog := prog) (w := w) (A := A.in1) hh _ l hne (intItems xs)
  refine wpAny_pure ⟨plainId_quiet F.plain_max_loop _, loop W (numAt xs) (fun _ _ => intItems_at) _ (fun z => Nat.lt_irrefl _ (hfp _ z)) d (intItems xs).size 0 _ #[] 0 (by omega) (W.frame _ _ _ st fun b _ o e => Heap.get?_push_of_some _ e) (.inl ⟨rfl, rfl⟩) (Heap.get?_push_size _ rfl) fun v h' tk hv kp => ?_⟩
  have sz : (intItems xs).size = xs.size := by simp [intItems]
  rw [sz] at hv
  exact h v h' tk hv (old_kept fun b o hb e => kp b o hb (Nat.ne_of_lt (Heap.lt_size e)) (Heap.get?_push_of_some _ e))
end
end MX
namespace L2
open PySem PySem.Spec PyProof.Rows
section
variable {X : Cx}
/-- the greatest, or d where there is none -/
def MaxD (ns : List Int) (d M : Int) : Prop := (ns = [] ∧ M = d) ∨ (M ∈ ns ∧ ∀ a ∈ ns, a ≤ M)
def tMaxD (K : PySem.W.Frag) (ta : TA) (tk : TA) : TE := fun σ H Q => ta σ H fun vs H1 => tk σ H1 fun zs H2 => ∃ p ns d, vs = [.ref p] ∧ zs = [.int d] ∧ SqL K H2 p (ns.map V.int) ∧ ∀ M, MaxD ns d M → Q (.int M) H2
theorem pe_maxD {e d : Expr} {ta tk : TA} {p pos kpos : Pos} (hc : X.calm = true) (hg : Gl X "max") (hm : X.mg "max" = none) (ha : PA X [e] ta) (hk : PK X [⟨some "default", d, kpos⟩] tk) (hs : starEach [e] X.env = [(false, eval e X.env)] := by rfl) :
    PE X (.Call (.Name "max" p) [e] [⟨some "default", d, kpos⟩] pos) (tMaxD X.K ta tk) := by
  intro pins s σ H Q I h
  refine wpAny_Call_Name_kw (ld_blt I hg hm boot_max ?_)
  refine callWith_kw (thn (ha pos pins s σ H _ I h) fun us s1 ⟨vs, H1, I1, r, q⟩ => ?_) (by rw [hs]; rfl) (by rw [hs]; rfl)
  refine thn (hk pos pins s1 σ H1 _ I1 q) fun ws s2 ⟨zs, H2, I2, rz, q2⟩ => ?_
  obtain ⟨a, ns, dd, rfl, rfl, hS, hQ⟩ := q2
  obtain ⟨u, rfl, ru⟩ := Vals.one r
  obtain ⟨uz, rfl, rd⟩ := Vals.one rz
  obtain rfl : u = Value.ref a := ru
  obtain ⟨t, rfl⟩ := rd
  obtain ⟨its, hl, hi, _⟩ := listOk I2 hS
  obtain ⟨ys, ey⟩ := hi.allInts.items
  have hns : ns = ys.toList.map (·.1) := by rw [← hi.numsOf, ← nums_intItems, ← ey]
  rw [ey] at hl
  show wpAny _ _ (call (.builtin "max") [.ref a] [(Str.ofString "default", .int dd t)]) _ _ s2
  refine MX.max_dflt (I2.ok.hd hc) hl fun v h' tk hv kp => ?_
  rcases hv with ⟨h0, rfl⟩ | ⟨m, t2, rfl, top⟩
  · refine ⟨.int dd, H2, I2.kept kp, ⟨t, rfl⟩, hQ dd (.inl ⟨?_, rfl⟩)⟩
    rw [hns, show ys.toList = [] from List.length_eq_zero_iff.mp (by rw [Array.length_toList]; exact h0)]
    rfl
  · refine ⟨.int m, H2, I2.kept kp, ⟨t2, rfl⟩, hQ m (.inr ⟨?_, fun b hb => ?_⟩)⟩
    · obtain ⟨i, hi2, e2⟩ := top.1
      rw [hns, ← e2, numAt_eq]
      exact getD_mem (by rw [List.length_map, Array.length_toList]; exact hi2)
    · rw [hns] at hb
      obtain ⟨j, hj, rfl⟩ := mem_getD hb
      rw [List.length_map, Array.length_toList] at hj
      rw [← numAt_eq]
      exact top.2 j hj
end
end L2
end

section
/-! the deal by what is left over, as plain lists -/
namespace MR
/-- how often -/
def cnt (ps : List Int) (m : Int) : Nat := (ps.filter fun p => decide (p = m)).length
/-- the places of m, from i on -/
def placesFrom (m : Int) : List Int → Nat → List Nat
  | [], _ => []
  | p :: r, i => if p = m then i :: placesFrom m r (i + 1) else placesFrom m r (i + 1)
def places (m : Int) (ps : List Int) : List Nat := placesFrom m ps 0
/-- who is served: values, the tied value, the free seats -/
def run (ps : List Int) : List Int → Int → List Int × Option Int × Int
  | [], _ => ([], none, 0)
  | m :: D, f => if f = 0 then ([], none, 0) else if (cnt ps m : Int) > f then ([], some m, f) else ((m :: (run ps D (f - cnt ps m)).1), (run ps D (f - cnt ps m)).2.1, (run ps D (f - cnt ps m)).2.2)
def wholes (v : List Int) (n T : Int) : List Int := v.map fun c => c * n / T
def parts (v : List Int) (n T : Int) : List Int := v.map fun c => c * n % T
/-- 1 where the part is among those served -/
def bonus (s : List Int) (p : Int) : Int := if p ∈ s then 1 else 0
def givenBy (v : List Int) (n T : Int) (s : List Int) : List Int := v.map fun c => c * n / T + bonus s (c * n % T)
/-- falling, and the members of ps -/
structure Desc (D ps : List Int) : Prop where
  fall : D.Pairwise (· > ·)
  mem : ∀ x, x ∈ D ↔ x ∈ ps

theorem Desc.unique {D E ps : List Int} (h : Desc D ps) (g : Desc E ps) : D = E := by
  have key : ∀ (D E : List Int), D.Pairwise (· > ·) → E.Pairwise (· > ·) → (∀ x, x ∈ D ↔ x ∈ E) → D = E := by
    intro D
    induction D with
    | nil =>
      intro E _ _ h
      cases E with
      | nil => rfl
      | cons a r => exact absurd ((h a).mpr List.mem_cons_self) (by simp)
    | cons a r ih =>
      intro E hD hE h
      cases E with
      | nil => exact absurd ((h a).mp List.mem_cons_self) (by simp)
      | cons b q =>
        obtain ⟨ha, hr⟩ := List.pairwise_cons.mp hD
        obtain ⟨hb, hq⟩ := List.pairwise_cons.mp hE
        have e : a = b := by
          have h1 := (h a).mp List.mem_cons_self
          have h2 := (h b).mpr List.mem_cons_self
          rcases List.mem_cons.mp h1 with e | h1
          · exact e
          · rcases List.mem_cons.mp h2 with e | h2
            · exact e.symm
            · have := hb a h1; have := ha b h2; omega
        subst e
        rw [ih q hr hq fun x => ?_]
        constructor
        · intro hx
          rcases List.mem_cons.mp ((h x).mp (List.mem_cons_of_mem _ hx)) with e | z
          · have := ha x hx; omega
          · exact z
        · intro hx
          rcases List.mem_cons.mp ((h x).mpr (List.mem_cons_of_mem _ hx)) with e | z
          · have := hb x hx; omega
          · exact z
  exact key D E h.fall g.fall fun x => (h.mem x).trans (g.mem x).symm

/-! ### sums -/
theorem sum_map_add {α : Type} (f g : α → Int) : ∀ l : List α, (l.map fun x => f x + g x).sum = (l.map f).sum + (l.map g).sum
  | [] => rfl
  | a :: r => by simp only [List.map_cons, List.sum_cons, sum_map_add f g r]; omega
theorem sum_map_mul (t : Int) {α : Type} (f : α → Int) : ∀ l : List α, (l.map fun x => f x * t).sum = (l.map f).sum * t
  | [] => by simp
  | a :: r => by simp only [List.map_cons, List.sum_cons, sum_map_mul t f r, Int.add_mul]
theorem sum_map_le {α : Type} (f g : α → Int) : ∀ l : List α, (∀ x ∈ l, f x ≤ g x) → (l.map f).sum ≤ (l.map g).sum
  | [], _ => Int.le_refl _
  | a :: r, h => by
    simp only [List.map_cons, List.sum_cons]
    have h1 := h a List.mem_cons_self
    have h2 := sum_map_le f g r fun x hx => h x (List.mem_cons_of_mem _ hx)
    omega
theorem sum_map_nonneg {α : Type} (f : α → Int) (l : List α) (h : ∀ x ∈ l, 0 ≤ f x) : 0 ≤ (l.map f).sum := by
  have := sum_map_le (fun _ => 0) f l h
  have e : (l.map fun _ => (0 : Int)).sum = 0 := by
    clear h this
    induction l with
    | nil => rfl
    | cons a r ih => simp only [List.map_cons, List.sum_cons, ih]; rfl
  omega

/-- the sum of the parts that are still in D -/
def rest (D ps : List Int) : Int := (ps.map fun p => if p ∈ D then p else 0).sum
theorem cnt_sum (ps : List Int) (m : Int) : (ps.map fun p => if p = m then (1 : Int) else 0).sum = cnt ps m := by
  induction ps with
  | nil => rfl
  | cons a r ih =>
    simp only [List.map_cons, List.sum_cons, ih, cnt, List.filter_cons]
    by_cases h : a = m
    · simp [h]; omega
    · simp [h]
theorem rest_cons (ps : List Int) {m : Int} {D : List Int} (hm : m ∉ D) : rest (m :: D) ps = cnt ps m * m + rest D ps := by
  unfold rest
  have e : (ps.map fun p => if p ∈ m :: D then p else 0) = ps.map fun p => (if p = m then (1 : Int) else 0) * m + (if p ∈ D then p else 0) := by
    refine List.map_congr_left fun p _ => ?_
    by_cases h1 : p = m
    · subst h1; simp [hm]
    · simp [h1]
  rw [e, sum_map_add, sum_map_mul, cnt_sum]

structure RunOk (ps D : List Int) (f : Int) (R : List Int × Option Int × Int) : Prop where
  tot : (ps.map (bonus R.1)).sum + R.2.2 = f
  sub : ∀ x ∈ R.1, x ∈ D ∧ 0 < x
  up : ∀ x ∈ R.1, ∀ y ∈ D, y ∉ R.1 → y < x
  non : R.2.1 = none → R.2.2 = 0
  tie : ∀ m, R.2.1 = some m → 0 < R.2.2 ∧ R.2.2 < cnt ps m ∧ 0 < m ∧ m ∈ D ∧ ∀ x ∈ D, x ∈ R.1 ↔ m < x

theorem bonus_cons (ps : List Int) {m : Int} {s : List Int} (hm : m ∉ s) : (ps.map (bonus (m :: s))).sum = cnt ps m + (ps.map (bonus s)).sum := by
  have e : ps.map (bonus (m :: s)) = ps.map fun p => (if p = m then (1 : Int) else 0) + bonus s p := by
    refine List.map_congr_left fun p _ => ?_
    unfold bonus
    by_cases h1 : p = m
    · subst h1; simp [hm]
    · simp [h1]
  rw [e, sum_map_add, cnt_sum]
theorem bonus_nil (ps : List Int) : (ps.map (bonus [])).sum = 0 := by
  induction ps with
  | nil => rfl
  | cons a r ih => simp only [List.map_cons, List.sum_cons, ih]; simp [bonus]

theorem run_ok (ps : List Int) (T : Int) (hT0 : 0 < T) (h0 : ∀ p ∈ ps, 0 ≤ p ∧ p < T) : ∀ (D : List Int) (f : Int), D.Pairwise (· > ·) → (∀ x ∈ D, x ∈ ps) → 0 ≤ f → f * T ≤ rest D ps → RunOk ps D f (run ps D f)
  | [], f, _, _, hf, hT => by
    have e : rest [] ps = 0 := by
      unfold rest
      have : ps.map (fun p => if p ∈ ([] : List Int) then p else 0) = ps.map (bonus []) := by
        refine List.map_congr_left fun p _ => ?_
        simp [bonus]
      rw [this, bonus_nil]
    have hf0 : f = 0 := by
      rw [e] at hT
      have : ¬ 0 < f := fun h => by
        have := Int.mul_pos h hT0
        omega
      omega
    subst hf0
    exact ⟨by show (ps.map (bonus [])).sum + 0 = 0; rw [bonus_nil]; rfl, fun x hx => absurd hx (by simp [run]), fun x hx => absurd hx (by simp [run]), fun _ => rfl, fun m h => by simp [run] at h⟩
  | m :: D, f, hp, hm, hf, hT => by
    obtain ⟨hlt, hD⟩ := List.pairwise_cons.mp hp
    have hmps := hm m List.mem_cons_self
    obtain ⟨hm0, hmT⟩ := h0 m hmps
    have hmD : m ∉ D := fun h => by have := hlt m h; omega
    unfold run
    by_cases hf0 : f = 0
    · rw [if_pos hf0]
      exact ⟨by show (ps.map (bonus [])).sum + 0 = f; rw [bonus_nil, hf0]; rfl, fun x hx => absurd hx (by simp), fun x hx => absurd hx (by simp), fun _ => rfl, fun m h => by simp at h⟩
    · rw [if_neg hf0]
      -- the greatest part is above nought
      have hpos : 0 < m := by
        refine Int.not_le.mp fun hle => ?_
        have : rest (m :: D) ps ≤ (ps.map fun _ => (0 : Int)).sum := sum_map_le _ _ _ fun p _ => by
          by_cases h : p ∈ m :: D
          · rw [if_pos h]
            rcases List.mem_cons.mp h with e | h
            · omega
            · have := hlt p h; omega
          · rw [if_neg h]; exact Int.le_refl _
        have e : (ps.map fun _ => (0 : Int)).sum = 0 := by
          have := sum_map_mul 0 (fun _ : Int => (0 : Int)) ps
          simpa using this
        have := Int.mul_pos (show 0 < f by omega) (show 0 < T by omega)
        omega
      by_cases hc : (cnt ps m : Int) > f
      · rw [if_pos hc]
        refine ⟨by show (ps.map (bonus [])).sum + f = f; rw [bonus_nil]; omega, fun x hx => absurd hx (by simp), fun x hx => absurd hx (by simp), fun h => by simp at h, fun m' h => ?_⟩
        have e : m = m' := by simpa using h
        subst e
        refine ⟨show 0 < f by omega, hc, hpos, List.mem_cons_self, fun x hx => ⟨fun h => absurd h (by simp), fun h => ?_⟩⟩
        rcases List.mem_cons.mp hx with e | hx
        · omega
        · have := hlt x hx; omega
      · rw [if_neg hc]
        have hr : (f - cnt ps m) * T ≤ rest D ps := by
          rw [rest_cons ps hmD] at hT
          have : (cnt ps m : Int) * m ≤ cnt ps m * T := Int.mul_le_mul_of_nonneg_left (by omega) (by omega)
          rw [Int.sub_mul]
          omega
        have ih := run_ok ps T hT0 h0 D (f - cnt ps m) hD (fun x hx => hm x (List.mem_cons_of_mem _ hx)) (by omega) hr
        have hms : m ∉ (run ps D (f - cnt ps m)).1 := fun h => hmD (ih.sub m h).1
        refine ⟨?_, fun x hx => ?_, fun x hx y hy hn => ?_, ih.non, fun m' h => ?_⟩
        · have := ih.tot
          show (ps.map (bonus (m :: (run ps D (f - cnt ps m)).1))).sum + (run ps D (f - cnt ps m)).2.2 = f
          rw [bonus_cons ps hms]
          omega
        · rcases List.mem_cons.mp hx with e | hx
          · subst e; exact ⟨List.mem_cons_self, hpos⟩
          · exact ⟨List.mem_cons_of_mem _ (ih.sub x hx).1, (ih.sub x hx).2⟩
        · have hy' : y ∈ D := by
            rcases List.mem_cons.mp hy with e | hy
            · exact absurd (by rw [e]; exact List.mem_cons_self) hn
            · exact hy
          rcases List.mem_cons.mp hx with e | hx
          · have := hlt y hy'; omega
          · exact ih.up x hx y hy' fun h => hn (List.mem_cons_of_mem _ h)
        · obtain ⟨h1, h2, h3, h4, h5⟩ := ih.tie m' h
          refine ⟨h1, h2, h3, List.mem_cons_of_mem _ h4, fun x hx => ?_⟩
          rcases List.mem_cons.mp hx with e | hx
          · have := hlt m' h4
            subst e
            exact ⟨fun _ => by omega, fun _ => List.mem_cons_self⟩
          · rw [← h5 x hx]
            constructor
            · intro h
              rcases List.mem_cons.mp h with e | h
              · exact absurd (e ▸ hx) hmD
              · exact h
            · exact fun h => List.mem_cons_of_mem _ h

/-! ### the whole deal -/
def free0 (v : List Int) (n T : Int) : Int := n - (wholes v n T).sum
def served (v : List Int) (n T : Int) (D : List Int) : List Int × Option Int × Int := run (parts v n T) D (free0 v n T)
def tiedOf (v : List Int) (n T : Int) (o : Option Int) : List Nat := match o with
  | none => []
  | some m => places m (parts v n T)

theorem parts_in (v : List Int) (n T : Int) (hT : 0 < T) : ∀ p ∈ parts v n T, 0 ≤ p ∧ p < T := by
  intro p hp
  obtain ⟨c, _, rfl⟩ := List.mem_map.mp hp
  exact ⟨Int.emod_nonneg _ (by omega), Int.emod_lt_of_pos _ hT⟩
theorem whole_part (v : List Int) (n T : Int) : (wholes v n T).sum * T + (parts v n T).sum = v.sum * n := by
  unfold wholes parts
  rw [← sum_map_mul T (fun c => c * n / T), ← sum_map_add]
  have e : v.map (fun c => c * n / T * T + c * n % T) = v.map fun c => id c * n := List.map_congr_left fun c _ => Int.ediv_mul_add_emod _ _
  rw [e, sum_map_mul n id, List.map_id]
theorem rest_all {D ps : List Int} (h : ∀ x ∈ ps, x ∈ D) : rest D ps = ps.sum := by
  unfold rest
  have e : ps.map (fun p => if p ∈ D then p else 0) = ps.map id := List.map_congr_left fun p hp => by rw [if_pos (h p hp)]; rfl
  rw [e, List.map_id]
theorem served_ok (v : List Int) (n T : Int) (D : List Int) (hv : T = v.sum) (hT : 0 < T) (hD : Desc D (parts v n T)) : RunOk (parts v n T) D (free0 v n T) (served v n T D) := by
  have hw := whole_part v n T
  rw [← hv] at hw
  have hp := parts_in v n T hT
  have hs : 0 ≤ (parts v n T).sum := by
    have := sum_map_nonneg id (parts v n T) fun x hx => (hp x hx).1
    rwa [List.map_id] at this
  have hf : free0 v n T * T = (parts v n T).sum := by
    unfold free0
    rw [Int.sub_mul, Int.mul_comm n T]
    omega
  have hf0 : 0 ≤ free0 v n T := by
    refine Int.not_lt.mp fun h => ?_
    have := Int.mul_neg_of_neg_of_pos h hT
    omega
  exact run_ok _ T hT hp D _ hD.fall (fun x hx => (hD.mem x).mp hx) hf0 (by rw [rest_all fun x hx => (hD.mem x).mpr hx]; omega)
end MR
end

section
namespace MR
theorem givenBy_nil (v : List Int) (n T : Int) : givenBy v n T [] = wholes v n T := by
  unfold givenBy wholes
  refine List.map_congr_left fun c _ => ?_
  simp [bonus]
theorem placesFrom_len (m : Int) : ∀ (ps : List Int) (i : Nat), (placesFrom m ps i).length = cnt ps m
  | [], _ => rfl
  | p :: r, i => by
    unfold placesFrom cnt
    rw [List.filter_cons]
    have ih := placesFrom_len m r (i + 1)
    unfold cnt at ih
    by_cases h : p = m
    · simp [h, ih]
    · simp [h, ih]
theorem places_len (m : Int) (ps : List Int) : (places m ps).length = cnt ps m := placesFrom_len m ps 0
theorem placesFrom_mem (m : Int) : ∀ (ps : List Int) (i j : Nat), j ∈ placesFrom m ps i ↔ i ≤ j ∧ ps[j - i]? = some m
  | [], i, j => by simp [placesFrom]
  | p :: r, i, j => by
    have ih := placesFrom_mem m r (i + 1) j
    unfold placesFrom
    by_cases hj : j = i
    · subst hj
      have e : (p :: r)[j - j]? = some p := by simp
      rw [e]
      by_cases h : p = m
      · rw [if_pos h]; simp [h]
      · rw [if_neg h, ih]
        constructor
        · intro z; omega
        · rintro ⟨_, z⟩; exact absurd (Option.some.inj z) h
    · have e : i ≤ j → (p :: r)[j - i]? = r[j - (i + 1)]? := fun hij => by
        have : j - i = (j - (i + 1)) + 1 := by omega
        rw [this]; simp
      by_cases h : p = m
      · rw [if_pos h, List.mem_cons, ih]
        constructor
        · rintro (z | ⟨a, b⟩)
          · exact absurd z hj
          · exact ⟨by omega, by rw [e (by omega)]; exact b⟩
        · rintro ⟨a, b⟩
          rw [e a] at b
          exact .inr ⟨by omega, b⟩
      · rw [if_neg h, ih]
        constructor
        · rintro ⟨a, b⟩; exact ⟨by omega, by rw [e (by omega)]; exact b⟩
        · rintro ⟨a, b⟩
          rw [e a] at b
          exact ⟨by omega, b⟩
theorem places_mem (m : Int) (ps : List Int) (j : Nat) : j ∈ places m ps ↔ ps[j]? = some m := by
  unfold places
  rw [placesFrom_mem]
  simp
theorem placesFrom_rise (m : Int) : ∀ (ps : List Int) (i : Nat), (placesFrom m ps i).Pairwise (· < ·)
  | [], _ => List.Pairwise.nil
  | p :: r, i => by
    unfold placesFrom
    by_cases h : p = m
    · rw [if_pos h]
      refine List.pairwise_cons.mpr ⟨fun j hj => ?_, placesFrom_rise m r (i + 1)⟩
      have := (placesFrom_mem m r (i + 1) j).mp hj
      omega
    · rw [if_neg h]; exact placesFrom_rise m r (i + 1)
theorem places_rise (m : Int) (ps : List Int) : (places m ps).Pairwise (· < ·) := placesFrom_rise m ps 0
theorem places_lt {m : Int} {ps : List Int} {j : Nat} (h : j ∈ places m ps) : j < ps.length := (List.getElem?_eq_some_iff.mp ((places_mem m ps j).mp h)).1

/-! ### one seat more at each place -/
def bump (g : List Int) (j : Nat) : List Int := g.set j (g.getD j 0 + 1)
theorem bump_len (g : List Int) (j : Nat) : (bump g j).length = g.length := by simp [bump]
theorem bumps_len (l : List Nat) : ∀ (g : List Int), (l.foldl bump g).length = g.length := by
  induction l with
  | nil => intro g; rfl
  | cons a r ih => intro g; rw [List.foldl_cons, ih, bump_len]
theorem bumps_get (l : List Nat) : ∀ (g : List Int) (j : Nat), l.Nodup → (l.foldl bump g)[j]? = g[j]?.map fun x => x + if j ∈ l then 1 else 0 := by
  induction l with
  | nil => intro g j _; simp
  | cons a r ih =>
    intro g j hn
    obtain ⟨ha, hr⟩ := List.nodup_cons.mp hn
    rw [List.foldl_cons, ih _ _ hr]
    unfold bump
    by_cases hj : j = a
    · subst hj
      by_cases hlt : j < g.length
      · rw [List.getElem?_set_self hlt]
        simp [ha, hlt, List.getD]
      · have e1 : (g.set j (g.getD j 0 + 1))[j]? = none := by simp; omega
        have e2 : g[j]? = none := by simp; omega
        rw [e1, e2]; rfl
    · rw [List.getElem?_set_ne (Ne.symm hj)]
      congr 1
      funext x
      by_cases hjr : j ∈ r
      · simp [hjr]
      · simp [hjr, hj]
theorem given_bump (v : List Int) (n T : Int) (s : List Int) (m : Int) (hm : m ∉ s) : (places m (parts v n T)).foldl bump (givenBy v n T s) = givenBy v n T (s ++ [m]) := by
  refine List.ext_getElem? fun j => ?_
  have hn : (places m (parts v n T)).Nodup := (places_rise m _).imp fun h => Nat.ne_of_lt h
  rw [bumps_get _ _ _ hn]
  unfold givenBy
  rw [List.getElem?_map, List.getElem?_map]
  cases hv : v[j]? with
  | none => rfl
  | some c =>
    simp only [Option.map_some, Option.some.injEq]
    have e : j ∈ places m (parts v n T) ↔ c * n % T = m := by
      rw [places_mem]
      unfold parts
      rw [List.getElem?_map, hv]
      simp
    unfold bonus
    by_cases h : c * n % T = m
    · rw [if_pos (e.mpr h)]
      have h1 : c * n % T ∉ s := by rw [h]; exact hm
      rw [if_neg h1, if_pos (by rw [h]; simp)]
      omega
    · rw [if_neg (fun z => h (e.mp z))]
      by_cases h2 : c * n % T ∈ s
      · rw [if_pos h2, if_pos (by simp [h2])]; omega
      · rw [if_neg h2, if_neg (by simp [h2, h])]; omega

/-! ### the run, step by step -/
/-- behind the first i values of D: what is still to come -/
def Then (ps D : List Int) (f0 : Int) (i : Nat) (f : Int) : Prop := run ps D f0 = (D.take i ++ (run ps (D.drop i) f).1, (run ps (D.drop i) f).2.1, (run ps (D.drop i) f).2.2)
theorem then_start (ps D : List Int) (f0 : Int) : Then ps D f0 0 f0 := by unfold Then; simp
theorem drop_cons {D : List Int} {i : Nat} {m : Int} (h : D[i]? = some m) : D.drop i = m :: D.drop (i + 1) := by
  obtain ⟨hi, e⟩ := List.getElem?_eq_some_iff.mp h
  rw [List.drop_eq_getElem_cons hi, e]
theorem then_zero {ps D : List Int} {f0 : Int} {i : Nat} {f : Int} {m : Int} (h : Then ps D f0 i f) (hm : D[i]? = some m) (hf : f = 0) : run ps D f0 = (D.take i, none, 0) := by
  unfold Then at h
  rw [drop_cons hm] at h
  rw [h]
  unfold run
  rw [if_pos hf]; simp
theorem then_tie {ps D : List Int} {f0 : Int} {i : Nat} {f : Int} {m : Int} (h : Then ps D f0 i f) (hm : D[i]? = some m) (hf : f ≠ 0) (hc : (cnt ps m : Int) > f) : run ps D f0 = (D.take i, some m, f) := by
  unfold Then at h
  rw [drop_cons hm] at h
  rw [h]
  unfold run
  rw [if_neg hf, if_pos hc]; simp
theorem then_next {ps D : List Int} {f0 : Int} {i : Nat} {f : Int} {m : Int} (h : Then ps D f0 i f) (hm : D[i]? = some m) (hf : f ≠ 0) (hc : ¬ (cnt ps m : Int) > f) : Then ps D f0 (i + 1) (f - cnt ps m) := by
  unfold Then at h ⊢
  rw [drop_cons hm] at h
  rw [h]
  have e : run ps (m :: D.drop (i + 1)) f = (m :: (run ps (D.drop (i + 1)) (f - cnt ps m)).1, (run ps (D.drop (i + 1)) (f - cnt ps m)).2.1, (run ps (D.drop (i + 1)) (f - cnt ps m)).2.2) := by
    conv => lhs; unfold run
    rw [if_neg hf, if_neg hc]
  rw [e, List.take_add_one, hm]
  simp
theorem then_end {ps D : List Int} {f0 : Int} {f : Int} (h : Then ps D f0 D.length f) : run ps D f0 = (D, none, 0) := by
  unfold Then at h
  rw [List.drop_length, List.take_length] at h
  rw [h]
  simp [run]
theorem not_before {D : List Int} (hD : D.Pairwise (· > ·)) {i : Nat} {m : Int} (hm : D[i]? = some m) : m ∉ D.take i := by
  intro h
  obtain ⟨k, hk, e⟩ := List.mem_iff_getElem.mp h
  rw [List.getElem_take] at e
  rw [List.length_take] at hk
  obtain ⟨hi, e2⟩ := List.getElem?_eq_some_iff.mp hm
  have := List.pairwise_iff_getElem.mp hD k i (by omega) hi (by omega)
  omega
end MR
end

section
namespace MR
def big : Int := 10 ^ 60
theorem sum_bound (v : List Int) (B : Int) (h : ∀ c ∈ v, 0 ≤ c ∧ c ≤ B) : 0 ≤ v.sum ∧ v.sum ≤ v.length * B := by
  induction v with
  | nil => simp
  | cons a r ih =>
    have h1 := h a List.mem_cons_self
    have h2 := ih fun c hc => h c (List.mem_cons_of_mem _ hc)
    simp only [List.sum_cons, List.length_cons]
    have : ((r.length + 1 : Nat) : Int) * B = r.length * B + B := by
      rw [Int.natCast_add, Int.add_mul]; simp
    rw [this]
    omega
theorem sum_zero (v : List Int) (h : ∀ c ∈ v, 0 ≤ c) (hs : v.sum = 0) : ∀ c ∈ v, c = 0 := by
  induction v with
  | nil => intro c hc; cases hc
  | cons a r ih =>
    have h1 := h a List.mem_cons_self
    have h2 : 0 ≤ r.sum := by
      have := sum_map_nonneg id r fun x hx => h x (List.mem_cons_of_mem _ hx)
      rwa [List.map_id] at this
    simp only [List.sum_cons] at hs
    intro c hc
    rcases List.mem_cons.mp hc with rfl | hc
    · omega
    · exact ih (fun x hx => h x (List.mem_cons_of_mem _ hx)) (by omega) c hc
theorem log_bound (n : Int) (h0 : 0 ≤ n) (h : n ≤ 64 * 10 ^ 80) : n.natAbs.log2 < 9000 := by
  by_cases hz : n.natAbs = 0
  · rw [hz]; decide +kernel
  · rw [Nat.log2_lt hz]
    have h1 : n.natAbs ≤ 64 * 10 ^ 80 := by omega
    exact Nat.lt_of_le_of_lt h1 (by decide +kernel)
end MR
end

section
namespace MR
section
variable {v : List Int} {n T : Int} {D : List Int}
theorem bonus_or (s : List Int) (p : Int) : (bonus s p = 1 ∧ p ∈ s) ∨ (bonus s p = 0 ∧ p ∉ s) := by
  unfold bonus
  by_cases h : p ∈ s
  · exact .inl ⟨if_pos h, h⟩
  · exact .inr ⟨if_neg h, h⟩
theorem whole_bound (hT : 0 < T) (hn : 0 ≤ n) {c : Int} (h0 : 0 ≤ c) (hc : c ≤ T) : 0 ≤ c * n / T ∧ c * n / T ≤ n := by
  refine ⟨Int.ediv_nonneg (Int.mul_nonneg h0 hn) (Int.le_of_lt hT), ?_⟩
  have h1 : c * n ≤ n * T := by rw [Int.mul_comm n T]; exact Int.mul_le_mul_of_nonneg_right hc hn
  exact Int.ediv_le_of_le_mul hT h1
theorem mem_le_sum {v : List Int} (h : ∀ c ∈ v, 0 ≤ c) : ∀ c ∈ v, c ≤ v.sum := by
  induction v with
  | nil => intro c hc; cases hc
  | cons a r ih =>
    have h2 : 0 ≤ r.sum := by
      have := sum_map_nonneg id r fun x hx => h x (List.mem_cons_of_mem _ hx)
      rwa [List.map_id] at this
    have h1 := h a List.mem_cons_self
    intro c hc
    simp only [List.sum_cons]
    rcases List.mem_cons.mp hc with rfl | hc
    · omega
    · have := ih (fun x hx => h x (List.mem_cons_of_mem _ hx)) c hc
      omega
/-- a seat's number times all votes, against the votes times the seats -/
theorem mine_eq (c : Int) (b : Int) : (c * n / T + b) * T - c * n = b * T - c * n % T := by
  have := Int.ediv_mul_add_emod (c * n) T
  rw [Int.add_mul]
  omega
theorem near_ok (hT : 0 < T) (s : List Int) (hs : ∀ x ∈ s, 0 < x) (c : Int) :
    (if (c * n / T + bonus s (c * n % T)) * T - c * n < 0 then -((c * n / T + bonus s (c * n % T)) * T - c * n) else (c * n / T + bonus s (c * n % T)) * T - c * n) < T := by
  have h1 := Int.emod_nonneg (c * n) (by omega : T ≠ 0)
  have h2 := Int.emod_lt_of_pos (c * n) hT
  rw [mine_eq]
  rcases bonus_or s (c * n % T) with ⟨e, h⟩ | ⟨e, h⟩
  · have := hs _ h
    rw [e, Int.one_mul]
    split <;> omega
  · rw [e, Int.zero_mul]
    split <;> omega
theorem rest_eq (c : Int) : c * n - c * n / T * T = c * n % T := by
  have := Int.ediv_mul_add_emod (c * n) T
  omega
theorem given_sum (s : List Int) : (givenBy v n T s).sum = (wholes v n T).sum + ((parts v n T).map (bonus s)).sum := by
  unfold givenBy wholes parts
  rw [sum_map_add, List.map_map]
  rfl
theorem given_get {s : List Int} {i : Nat} {c : Int} (h : v[i]? = some c) : (givenBy v n T s)[i]? = some (c * n / T + bonus s (c * n % T)) := by
  unfold givenBy
  rw [List.getElem?_map, h]; rfl
theorem part_get {i : Nat} {c : Int} (h : v[i]? = some c) : (parts v n T)[i]? = some (c * n % T) := by
  unfold parts
  rw [List.getElem?_map, h]; rfl
theorem tied_mem {o : Option Int} {i : Nat} {c : Int} (h : v[i]? = some c) : i ∈ tiedOf v n T o ↔ o = some (c * n % T) := by
  cases o with
  | none => simp [tiedOf]
  | some m =>
    show i ∈ places m (parts v n T) ↔ _
    rw [places_mem, part_get h]
    constructor
    · intro e; rw [Option.some.inj e]
    · intro e; rw [Option.some.inj e]
/-! ### what is gathered of the lists -/
def GE (R : List Int × Option Int × Int) (ev : List Int) : Prop := ∀ x ∈ ev, R.2.1 = some x
def GL (ps : List Int) (T : Int) (R : List Int × Option Int × Int) (le : List Int) : Prop := 0 < le.length ∧ ∀ x ∈ le, x = T ∨ (x ∈ ps ∧ x ∈ R.1)
def GM (ps : List Int) (R : List Int × Option Int × Int) (mo : List Int) : Prop := 0 < mo.length ∧ ∀ x ∈ mo, x = -1 ∨ (x ∈ ps ∧ x ∉ R.1 ∧ R.2.1 ≠ some x)
theorem less_more {ps : List Int} {f : Int} {R : List Int × Option Int × Int} (hp : ∀ p ∈ ps, 0 ≤ p ∧ p < T) (hT : 0 < T) (hD : Desc D ps) (ok : RunOk ps D f R) {le mo : List Int} (hl : GL ps T R le) (hm : GM ps R mo) : ∀ p ∈ le, ∀ q ∈ mo, q < p := by
  intro p hpl q hqm
  rcases hl.2 p hpl with rfl | ⟨h1, h2⟩
  · rcases hm.2 q hqm with rfl | ⟨h3, _⟩
    · omega
    · exact (hp q h3).2
  · have := (ok.sub p h2).2
    rcases hm.2 q hqm with rfl | ⟨h3, h4, _⟩
    · omega
    · exact ok.up p h2 q ((hD.mem q).mpr h3) h4
theorem less_even {ps : List Int} {f m : Int} {R : List Int × Option Int × Int} (hp : ∀ p ∈ ps, 0 ≤ p ∧ p < T) (hD : Desc D ps) (ok : RunOk ps D f R) {le : List Int} (hl : GL ps T R le) (hm : R.2.1 = some m) : ∀ p ∈ le, m < p := by
  obtain ⟨_, _, h0, hmD, hiff⟩ := ok.tie m hm
  intro p hpl
  rcases hl.2 p hpl with rfl | ⟨h1, h2⟩
  · exact (hp m ((hD.mem m).mp hmD)).2
  · exact (hiff p (ok.sub p h2).1).mp h2
theorem more_even {ps : List Int} {f m : Int} {R : List Int × Option Int × Int} (hD : Desc D ps) (ok : RunOk ps D f R) {mo : List Int} (hl : GM ps R mo) (hm : R.2.1 = some m) : ∀ q ∈ mo, q < m := by
  obtain ⟨_, _, h0, hmD, hiff⟩ := ok.tie m hm
  intro q hq
  rcases hl.2 q hq with rfl | ⟨h1, h2, h3⟩
  · omega
  · have : ¬ m < q := fun h => h2 ((hiff q ((hD.mem q).mpr h1)).mpr h)
    have : q ≠ m := fun e => h3 (by rw [hm, e])
    omega
end
end MR
end

section
namespace MD
/-- the votes, or the seats, of a place -/
abbrev at_ (l : List Int) (i : Nat) : Int := l.getD i 0
/-- no list is worth more than the one at i: v_j / (f + s g_j) <= v_i / (f + s g_i) -/
def IsTop (f s : Int) (v g : List Int) (i : Nat) : Prop := ∀ j, j < v.length → at_ v j * (f + s * at_ g i) ≤ at_ v i * (f + s * at_ g j)
instance (f s : Int) (v g : List Int) (i : Nat) : Decidable (IsTop f s v g i) := Nat.decidableBallLT v.length _
def tops (f s : Int) (v g : List Int) : List Nat := (List.range v.length).filter fun i => decide (IsTop f s v g i)
def plus (f s : Int) (v g : List Int) : List Int := (List.range v.length).map fun i => at_ g i + if IsTop f s v g i then 1 else 0
/-- from the seats g, with r still to deal: the seats, the tied, the free -/
inductive Deal (f s : Int) (v : List Int) : List Int → Int → List Int → List Nat → Int → Prop
  | done {g : List Int} : Deal f s v g 0 g [] 0
  | tie {g : List Int} {r : Int} : 0 < r → r < (tops f s v g).length → Deal f s v g r g (tops f s v g) r
  | step {g g' : List Int} {r r' : Int} {t' : List Nat} : 0 < r → ((tops f s v g).length : Int) ≤ r → Deal f s v (plus f s v g) (r - (tops f s v g).length) g' t' r' → Deal f s v g r g' t' r'
theorem mem_tops {f s : Int} {v g : List Int} {i : Nat} : i ∈ tops f s v g ↔ i < v.length ∧ IsTop f s v g i := by
  unfold tops
  rw [List.mem_filter, List.mem_range, decide_eq_true_iff]
theorem tops_rise {f s : Int} {v g : List Int} : (tops f s v g).Pairwise (· < ·) := (List.pairwise_lt_range).filter _
theorem plus_len {f s : Int} {v g : List Int} : (plus f s v g).length = v.length := by unfold plus; rw [List.length_map, List.length_range]
theorem plus_at {f s : Int} {v g : List Int} {i : Nat} (h : i < v.length) : at_ (plus f s v g) i = at_ g i + if IsTop f s v g i then 1 else 0 := by
  unfold plus at_
  simp [List.getD, h]
/-- what holds of the seats that are given -/
structure Fit (f s : Int) (v g : List Int) : Prop where
  len : g.length = v.length
  pos : ∀ i, i < v.length → 0 ≤ at_ g i
  best : ∀ j k, j < v.length → k < v.length → 0 < at_ g j → at_ v k * (f + s * (at_ g j - 1)) < at_ v j * (f + s * at_ g k)
  none : ∀ j, j < v.length → at_ v j = 0 → at_ g j = 0
/-- the divisors and the votes -/
structure Fine (f s : Int) (v : List Int) : Prop where
  first : 0 < f
  step : 0 < s
  votes : ∀ c ∈ v, 0 ≤ c
  some : ∃ i, i < v.length ∧ 0 < at_ v i
theorem Fine.at {f s : Int} {v : List Int} (h : Fine f s v) (i : Nat) (hi : i < v.length) : 0 ≤ at_ v i := by
  have : at_ v i ∈ v := by unfold at_; simp [List.getD, hi]
  exact h.votes _ this
theorem div_pos {f s x : Int} (hf : 0 < f) (hs : 0 < s) (hx : 0 ≤ x) : 0 < f + s * x := by
  have := Int.mul_nonneg (Int.le_of_lt hs) hx
  omega
theorem top_pos {f s : Int} {v g : List Int} {i : Nat} (h : Fine f s v) (p : ∀ i, i < v.length → 0 ≤ at_ g i) (hi : i < v.length) (ht : IsTop f s v g i) : 0 < at_ v i := by
  obtain ⟨j, hj, hv⟩ := h.some
  have h1 := ht j hj
  have h2 : 0 < at_ v j * (f + s * at_ g i) := Int.mul_pos hv (div_pos h.first h.step (p i hi))
  have h3 := h.at i hi
  rcases Int.lt_or_eq_of_le h3 with h4 | h4
  · exact h4
  · rw [← h4, Int.zero_mul] at h1; omega
/-- a round keeps what holds -/
theorem Fit.round {f s : Int} {v g : List Int} (h : Fine f s v) (F : Fit f s v g) : Fit f s v (plus f s v g) where
  len := plus_len
  pos := fun i hi => by
    rw [plus_at hi]
    have := F.pos i hi
    split <;> omega
  best := fun j k hj hk hp => by
    have hs := h.step
    have up : at_ v j * (f + s * at_ g k) ≤ at_ v j * (f + s * at_ (plus f s v g) k) := by
      rw [plus_at hk]
      refine Int.mul_le_mul_of_nonneg_left ?_ (h.at j hj)
      have : s * at_ g k ≤ s * (at_ g k + if IsTop f s v g k then 1 else 0) := Int.mul_le_mul_of_nonneg_left (by split <;> omega) (Int.le_of_lt hs)
      omega
    by_cases hj' : IsTop f s v g j
    · rw [plus_at hj, if_pos hj']
      have e : at_ g j + 1 - 1 = at_ g j := by omega
      rw [e]
      by_cases hk' : IsTop f s v g k
      · have h1 := hj' k hk
        rw [plus_at hk, if_pos hk']
        have hv := top_pos h F.pos hj hj'
        have e2 : at_ v j * (f + s * (at_ g k + 1)) = at_ v j * (f + s * at_ g k) + at_ v j * s := by rw [Int.mul_add s, Int.mul_one, ← Int.add_assoc, Int.mul_add (at_ v j) (f + s * at_ g k)]
        have := Int.mul_pos hv hs
        omega
      · -- k is worth less than j
        have h1 := hj' k hk
        have lt : at_ v k * (f + s * at_ g j) < at_ v j * (f + s * at_ g k) := by
          rcases Int.lt_or_eq_of_le h1 with h2 | h2
          · exact h2
          · exfalso
            refine hk' fun i hi => ?_
            have dj := div_pos h.first hs (F.pos j hj)
            have dk := div_pos h.first hs (F.pos k hk)
            have di := div_pos h.first hs (F.pos i hi)
            have h3 := hj' i hi
            -- v_i dk dj <= v_j di dk = v_k dj di
            have a1 : at_ v i * (f + s * at_ g j) * (f + s * at_ g k) ≤ at_ v j * (f + s * at_ g i) * (f + s * at_ g k) := Int.mul_le_mul_of_nonneg_right h3 (Int.le_of_lt dk)
            have a2 : at_ v j * (f + s * at_ g i) * (f + s * at_ g k) = at_ v k * (f + s * at_ g i) * (f + s * at_ g j) := by
              rw [Int.mul_assoc, Int.mul_comm (f + s * at_ g i) (f + s * at_ g k), ← Int.mul_assoc, ← h2, Int.mul_assoc, Int.mul_comm (f + s * at_ g j), ← Int.mul_assoc]
            rw [a2, Int.mul_assoc, Int.mul_comm (f + s * at_ g j), ← Int.mul_assoc] at a1
            exact Int.le_of_mul_le_mul_right a1 dj
        exact Int.lt_of_lt_of_le lt up
    · rw [plus_at hj, if_neg hj', Int.add_zero] at hp ⊢
      exact Int.lt_of_lt_of_le (F.best j k hj hk hp) up
  none := fun j hj hv => by
    rw [plus_at hj, if_neg fun ht => ?_, Int.add_zero]
    · exact F.none j hj hv
    · have := top_pos h F.pos hj ht
      omega
/-- two of the greatest worth are worth as much as one another -/
theorem top_eq {f s : Int} {v g : List Int} {j k : Nat} (hj : j < v.length) (hk : k < v.length) (tj : IsTop f s v g j) (tk : IsTop f s v g k) : at_ v j * (f + s * at_ g k) = at_ v k * (f + s * at_ g j) :=
  Int.le_antisymm (tk j hj) (tj k hk)
theorem top_of_eq {f s : Int} {v g : List Int} {j k : Nat} (h : Fine f s v) (p : ∀ i, i < v.length → 0 ≤ at_ g i) (hj : j < v.length) (hk : k < v.length) (tj : IsTop f s v g j) (e : at_ v j * (f + s * at_ g k) = at_ v k * (f + s * at_ g j)) : IsTop f s v g k := by
  intro i hi
  have dj := div_pos h.first h.step (p j hj)
  have dk := div_pos h.first h.step (p k hk)
  have h3 := tj i hi
  have a1 : at_ v i * (f + s * at_ g j) * (f + s * at_ g k) ≤ at_ v j * (f + s * at_ g i) * (f + s * at_ g k) := Int.mul_le_mul_of_nonneg_right h3 (Int.le_of_lt dk)
  have a2 : at_ v j * (f + s * at_ g i) * (f + s * at_ g k) = at_ v k * (f + s * at_ g i) * (f + s * at_ g j) := by
    rw [Int.mul_assoc, Int.mul_comm (f + s * at_ g i) (f + s * at_ g k), ← Int.mul_assoc, e, Int.mul_assoc, Int.mul_comm (f + s * at_ g j), ← Int.mul_assoc]
  rw [a2, Int.mul_assoc, Int.mul_comm (f + s * at_ g j), ← Int.mul_assoc] at a1
  exact Int.le_of_mul_le_mul_right a1 dj
/-- some list is of the greatest worth -/
theorem tops_some {f s : Int} {v g : List Int} (h : Fine f s v) (p : ∀ i, i < v.length → 0 ≤ at_ g i) : 0 < (tops f s v g).length := by
  -- the greatest among the first n
  have key : ∀ n, 0 < n → n ≤ v.length → ∃ i, i < n ∧ ∀ j, j < n → at_ v j * (f + s * at_ g i) ≤ at_ v i * (f + s * at_ g j) := by
    intro n
    induction n with
    | zero => intro h; omega
    | succ n ih =>
      intro _ hn
      by_cases h0 : n = 0
      · subst h0
        exact ⟨0, by omega, fun j hj => by have : j = 0 := by omega
                                           subst this; exact Int.le_refl _⟩
      · obtain ⟨i, hi, hm⟩ := ih (by omega) (by omega)
        have di := div_pos h.first h.step (p i (by omega))
        have dn := div_pos h.first h.step (p n (by omega))
        by_cases hc : at_ v n * (f + s * at_ g i) ≤ at_ v i * (f + s * at_ g n)
        · refine ⟨i, by omega, fun j hj => ?_⟩
          by_cases hjn : j = n
          · subst hjn; exact hc
          · exact hm j (by omega)
        · refine ⟨n, by omega, fun j hj => ?_⟩
          by_cases hjn : j = n
          · subst hjn; exact Int.le_refl _
          · have h1 := hm j (by omega)
            have dj := div_pos h.first h.step (p j (by omega))
            -- v_j dn di <= v_i dj dn < v_n di dj
            have a1 : at_ v j * (f + s * at_ g i) * (f + s * at_ g n) ≤ at_ v i * (f + s * at_ g j) * (f + s * at_ g n) := Int.mul_le_mul_of_nonneg_right h1 (Int.le_of_lt dn)
            have a2 : at_ v i * (f + s * at_ g n) * (f + s * at_ g j) ≤ at_ v n * (f + s * at_ g i) * (f + s * at_ g j) := Int.mul_le_mul_of_nonneg_right (by omega) (Int.le_of_lt dj)
            have e1 : at_ v i * (f + s * at_ g j) * (f + s * at_ g n) = at_ v i * (f + s * at_ g n) * (f + s * at_ g j) := by rw [Int.mul_assoc, Int.mul_comm (f + s * at_ g j), ← Int.mul_assoc]
            have e2 : at_ v j * (f + s * at_ g i) * (f + s * at_ g n) = at_ v j * (f + s * at_ g n) * (f + s * at_ g i) := by rw [Int.mul_assoc, Int.mul_comm (f + s * at_ g i), ← Int.mul_assoc]
            have e3 : at_ v n * (f + s * at_ g i) * (f + s * at_ g j) = at_ v n * (f + s * at_ g j) * (f + s * at_ g i) := by rw [Int.mul_assoc, Int.mul_comm (f + s * at_ g i), ← Int.mul_assoc]
            rw [e1] at a1
            rw [e2] at a1
            rw [e3] at a2
            exact Int.le_of_mul_le_mul_right (Int.le_trans a1 a2) di
  obtain ⟨j, hj, _⟩ := h.some
  obtain ⟨i, hi, hm⟩ := key v.length (by omega) (Nat.le_refl _)
  exact List.length_pos_of_mem (mem_tops.mpr ⟨hi, hm⟩)
theorem sum_plus {f s : Int} {v g : List Int} (hl : g.length = v.length) : (plus f s v g).sum = g.sum + (tops f s v g).length := by
  have gen : ∀ n, n ≤ v.length → ((List.range n).map fun i => at_ g i + if IsTop f s v g i then 1 else 0).sum = (g.take n).sum + ((List.range n).filter fun i => decide (IsTop f s v g i)).length := by
    intro n
    induction n with
    | zero => intro _; simp
    | succ n ih =>
      intro hn
      have hg : g[n]? = some (at_ g n) := by unfold at_; simp [List.getD, show n < g.length by omega]
      rw [List.range_succ, List.map_append, List.sum_append, ih (by omega), List.filter_append, List.length_append, List.take_add_one, hg]
      simp only [List.map_cons, List.map_nil, List.sum_cons, List.sum_nil, Option.toList_some, List.sum_append]
      by_cases ht : IsTop f s v g n
      · rw [if_pos ht, List.filter_cons_of_pos (by simp [ht])]; simp; omega
      · rw [if_neg ht, List.filter_cons_of_neg (by simp [ht])]; simp; omega
  have := gen v.length (Nat.le_refl _)
  rw [← hl, List.take_length] at this
  unfold plus tops
  rw [← hl]
  exact this
/-- what the law asks of a deal -/
structure DealOk (f s : Int) (v : List Int) (n : Int) (g : List Int) (t : List Nat) (r : Int) : Prop extends Fit f s v g where
  all : g.sum + r = n
  rise : t.Pairwise (· < ·)
  inn : ∀ i ∈ t, i < v.length
  free : (r = 0 ∧ t = []) ∨ (0 < r ∧ r < t.length)
  tied : t = [] ∨ t = tops f s v g
theorem deal_ok {f s : Int} {v : List Int} (h : Fine f s v) {g g' : List Int} {r r' : Int} {t' : List Nat} (d : Deal f s v g r g' t' r') (F : Fit f s v g) : DealOk f s v (g.sum + r) g' t' r' := by
  induction d with
  | done => exact ⟨F, rfl, .nil, fun i hi => (by cases hi), .inl ⟨rfl, rfl⟩, .inl rfl⟩
  | tie h0 h1 => exact ⟨F, rfl, tops_rise, fun i hi => (mem_tops.mp hi).1, .inr ⟨h0, h1⟩, .inr rfl⟩
  | step h0 h1 d ih =>
    have := ih (F.round h)
    rw [sum_plus F.len] at this
    have e : ∀ a b c : Int, a + b + (c - b) = a + c := fun a b c => by omega
    rw [e] at this
    exact this
theorem at_zeros {v : List Int} {i : Nat} : at_ (v.map fun _ => (0 : Int)) i = 0 := by
  unfold at_
  rw [List.getD, List.getElem?_map]
  cases v[i]? <;> rfl
theorem fit_zeros {f s : Int} {v : List Int} : Fit f s v (v.map fun _ => 0) where
  len := List.length_map _
  pos := fun i hi => by rw [at_zeros]; exact Int.le_refl _
  best := fun j k _ _ hp => by rw [at_zeros] at hp; omega
  none := fun j _ _ => at_zeros
theorem sum_zeros (v : List Int) : (v.map fun _ => (0 : Int)).sum = 0 := by
  induction v with
  | nil => rfl
  | cons a r ih => rw [List.map_cons, List.sum_cons, ih]; rfl
end MD
end

section
namespace MD
section
variable {f s : Int} {v : List Int}
theorem deal_zero {g g' : List Int} {t' : List Nat} {r' : Int} (d : Deal f s v g 0 g' t' r') : g' = g ∧ t' = [] ∧ r' = 0 := by
  cases d with
  | done => exact ⟨rfl, rfl, rfl⟩
  | tie h _ => omega
  | step h _ _ => omega
/-- with one seat more -/
structure OneMore (n : Nat) (g1 : List Int) (t1 : List Nat) (g2 : List Int) (t2 : List Nat) : Prop where
  low : ∀ k, k < n → at_ g1 k ≤ at_ g2 k
  high : ∀ k, k < n → at_ g2 k ≤ at_ g1 k + 1
  again : ∀ k, k < n → k ∈ t1 → at_ g2 k = at_ g1 k → k ∈ t2
  few : ((List.range n).filter fun k => decide (at_ g1 k < at_ g2 k) && !decide (k ∈ t1)).length ≤ 1
theorem one_more {g g1 g2 : List Int} {r r1 : Int} {t1 : List Nat} (h : Fine f s v) (d : Deal f s v g r g1 t1 r1) : Fit f s v g → ∀ {t2 : List Nat} {r2 : Int}, Deal f s v g (r + 1) g2 t2 r2 → OneMore v.length g1 t1 g2 t2 := by
  have still : ∀ (g : List Int) (t1 t2 : List Nat), (∀ k, k ∈ t1 → k ∈ t2) → OneMore v.length g t1 g t2 := fun g t1 t2 ht => by
    refine ⟨fun _ _ => Int.le_refl _, fun _ _ => by omega, fun k _ hk _ => ht k hk, ?_⟩
    rw [List.filter_eq_nil_iff.mpr fun k _ => ?_]
    · exact Nat.zero_le _
    · simp
  have more : ∀ (g : List Int) (k : Nat), k < v.length → at_ (plus f s v g) k = at_ g k + if IsTop f s v g k then 1 else 0 := fun g k hk => plus_at hk
  induction d with
  | @done g =>
    intro F t2 r2 d2
    cases d2 with
    | tie _ _ => exact still _ [] _ fun k hk => (by cases hk)
    | step h0 h1 d3 =>
      have hlen : ((tops f s v g).length : Int) ≤ 1 := by omega
      have he : 0 < (tops f s v g).length := tops_some h F.pos
      have e : (0 : Int) + 1 - (tops f s v g).length = 0 := by omega
      rw [e] at d3
      obtain ⟨rfl, rfl, rfl⟩ := deal_zero d3
      refine ⟨fun k hk => ?_, fun k hk => ?_, fun k _ hk => (by cases hk), ?_⟩
      · rw [more g k hk]; split <;> omega
      · rw [more g k hk]; split <;> omega
      · have e2 : ((List.range v.length).filter fun k => decide (at_ g k < at_ (plus f s v g) k) && !decide (k ∈ ([] : List Nat))) = tops f s v g := by
          unfold tops
          refine List.filter_congr fun k hk => ?_
          rw [more g k (List.mem_range.mp hk)]
          by_cases ht : IsTop f s v g k
          · simp [ht]; omega
          · simp [ht]
        rw [e2]; omega
  | @tie g r h0 h1 =>
    intro F t2 r2 d2
    generalize hq : r + 1 = q at d2
    cases d2 with
    | done => omega
    | tie _ _ => exact still _ _ _ fun k hk => hk
    | step h2 h3 d3 =>
      have e : q - (tops f s v g).length = 0 := by omega
      rw [e] at d3
      obtain ⟨rfl, rfl, rfl⟩ := deal_zero d3
      refine ⟨fun k hk => ?_, fun k hk => ?_, fun k hk ht he => ?_, ?_⟩
      · rw [more g k hk]; split <;> omega
      · rw [more g k hk]; split <;> omega
      · rw [more g k hk, if_pos (mem_tops.mp ht).2] at he; omega
      · rw [List.filter_eq_nil_iff.mpr fun k hk => ?_]
        · exact Nat.zero_le _
        · have hk' := List.mem_range.mp hk
          rw [more g k hk']
          by_cases ht : IsTop f s v g k
          · simp [mem_tops.mpr ⟨hk', ht⟩]
          · simp [ht]
  | @step g g' r r' t' h0 h1 d ih =>
    intro F t2 r2 d2
    generalize hq : r + 1 = q at d2
    cases d2 with
    | done => omega
    | tie _ _ => omega
    | step h2 h3 d3 =>
      have e : q - (tops f s v g).length = r - (tops f s v g).length + 1 := by omega
      rw [e] at d3
      exact ih (F.round h) d3
/-- more votes, no fewer seats; as many votes, as many seats -/
structure Fair (v g : List Int) (t : List Nat) : Prop where
  more : ∀ j k, j < v.length → k < v.length → at_ v k < at_ v j → at_ g k + (if k ∈ t then 1 else 0) ≤ at_ g j
  same : ∀ j k, j < v.length → k < v.length → at_ v j = at_ v k → at_ g j = at_ g k
  both : ∀ j k, j < v.length → k < v.length → at_ v j = at_ v k → (j ∈ t ↔ k ∈ t)
theorem cmp_of {a b x y f s : Int} (hs : 0 < s) (hb : 0 ≤ b) (hab : b ≤ a) (hd : 0 < f + s * x) (hxy : x ≤ y) : b * (f + s * x) ≤ a * (f + s * y) := by
  have h1 : f + s * x ≤ f + s * y := by
    have := Int.mul_le_mul_of_nonneg_left hxy (Int.le_of_lt hs)
    omega
  exact Int.mul_le_mul hab h1 (Int.le_of_lt hd) (Int.le_trans hb hab)
theorem fair {n : Int} {g : List Int} {t : List Nat} {r : Int} (h : Fine f s v) (D : DealOk f s v n g t r) : Fair v g t := by
  have le : ∀ j k, j < v.length → k < v.length → at_ v k ≤ at_ v j → at_ g k ≤ at_ g j := fun j k hj hk hv => by
    refine Int.le_of_not_gt fun hlt => ?_
    have p := D.pos j hj
    have b := D.best k j hk hj (by omega)
    have c := cmp_of (f := f) h.step (h.at k hk) hv (div_pos h.first h.step p) (show at_ g j ≤ at_ g k - 1 by omega)
    omega
  have tt : ∀ k ∈ t, IsTop f s v g k := fun k hk => by
    rcases D.tied with e | e
    · rw [e] at hk; cases hk
    · rw [e] at hk; exact (mem_tops.mp hk).2
  refine ⟨fun j k hj hk hv => ?_, fun j k hj hk hv => Int.le_antisymm (le k j hk hj (by omega)) (le j k hj hk (by omega)), fun j k hj hk hv => ?_⟩
  · have h1 := le j k hj hk (by omega)
    by_cases ht : k ∈ t
    · rw [if_pos ht]
      rcases Int.lt_or_eq_of_le h1 with h2 | h2
      · omega
      · exfalso
        have h3 := tt k ht j hj
        rw [h2] at h3
        have d := div_pos h.first h.step (D.pos j hj)
        have := Int.mul_lt_mul_of_pos_right hv d
        omega
    · rw [if_neg ht]; omega
  · have e : at_ g j = at_ g k := Int.le_antisymm (le k j hk hj (by omega)) (le j k hj hk (by omega))
    rcases D.tied with z | z
    · rw [z]; simp
    · rw [z, mem_tops, mem_tops]
      constructor
      · rintro ⟨_, ht⟩
        refine ⟨hk, fun i hi => ?_⟩
        have := ht i hi
        rw [← e, ← hv]; exact this
      · rintro ⟨_, ht⟩
        refine ⟨hj, fun i hi => ?_⟩
        have := ht i hi
        rw [e, hv]; exact this
end
end MD
end

section
namespace MD
section
variable {f s : Int} {v : List Int}
theorem at_rev {l : List Int} {i : Nat} (h : i < l.length) : at_ l.reverse i = at_ l (l.length - 1 - i) := by
  unfold at_
  rw [List.getD, List.getD, List.getElem?_reverse h]
theorem top_rev {g : List Int} (hl : g.length = v.length) {i : Nat} (hi : i < v.length) : IsTop f s v.reverse g.reverse i ↔ IsTop f s v g (v.length - 1 - i) := by
  have e1 := at_rev (l := v) hi
  have e2 : at_ g.reverse i = at_ g (v.length - 1 - i) := by rw [at_rev (by omega), hl]
  constructor
  · intro h j hj
    have := h (v.length - 1 - j) (by rw [List.length_reverse]; omega)
    have e3 : at_ g.reverse (v.length - 1 - j) = at_ g (v.length - 1 - (v.length - 1 - j)) := by rw [at_rev (l := g) (by omega), hl]
    rw [at_rev (l := v) (by omega), e1, e2, e3] at this
    have q : v.length - 1 - (v.length - 1 - j) = j := by omega
    rw [q] at this
    exact this
  · intro h j hj
    rw [List.length_reverse] at hj
    have := h (v.length - 1 - j) (by omega)
    have e3 : at_ g.reverse j = at_ g (v.length - 1 - j) := by rw [at_rev (l := g) (by omega), hl]
    rw [at_rev (l := v) hj, e1, e2, e3]
    exact this
/-- the places, seen from the other end -/
def turned (n : Nat) (t : List Nat) : List Nat := t.reverse.map fun k => n - 1 - k
theorem filter_turn (p q : Nat → Bool) : ∀ n : Nat, (∀ i, i < n → q i = p (n - 1 - i)) → (List.range n).filter q = turned n ((List.range n).filter p) := by
  intro n
  have key : ∀ m, m ≤ n → (∀ i, i < n → q i = p (n - 1 - i)) → ((List.range' (n - m) m).filter q) = (((List.range m).filter p).reverse).map fun k => n - 1 - k := by
    intro m
    induction m with
    | zero => intro _ _; rfl
    | succ m ih =>
      intro hm hq
      rw [List.range_succ, List.filter_append, List.reverse_append, List.map_append, ← ih (by omega) hq]
      have e : n - (m + 1) + 1 = n - m := by omega
      rw [List.range'_succ, e]
      have hqi : q (n - (m + 1)) = p m := by
        rw [hq _ (by omega)]
        congr 1
        omega
      by_cases hp : p m = true
      · rw [List.filter_cons_of_pos (by rw [hqi]; exact hp), List.filter_cons_of_pos hp]
        simp only [List.filter_nil, List.reverse_cons, List.reverse_nil, List.nil_append, List.map_cons, List.map_nil, List.singleton_append]
        congr 1
        omega
      · rw [List.filter_cons_of_neg (by rw [hqi]; exact hp), List.filter_cons_of_neg hp]
        simp
  intro hq
  have := key n (Nat.le_refl _) hq
  rw [Nat.sub_self, ← List.range_eq_range'] at this
  exact this
theorem tops_rev {g : List Int} (hl : g.length = v.length) : tops f s v.reverse g.reverse = turned v.length (tops f s v g) := by
  unfold tops
  rw [List.length_reverse]
  exact filter_turn _ _ _ fun i hi => decide_eq_decide.mpr (top_rev hl hi)
theorem turned_len {n : Nat} {t : List Nat} : (turned n t).length = t.length := by unfold turned; simp
theorem plus_rev {g : List Int} (hl : g.length = v.length) : plus f s v.reverse g.reverse = (plus f s v g).reverse := by
  refine List.ext_getElem (by simp [plus_len]) fun i h1 h2 => ?_
  have hi : i < v.length := by rw [plus_len, List.length_reverse] at h1; exact h1
  have a := plus_at (f := f) (s := s) (v := v.reverse) (g := g.reverse) (i := i) (by rw [List.length_reverse]; exact hi)
  have b := at_rev (l := plus f s v g) (i := i) (by rw [plus_len]; exact hi)
  have c := plus_at (f := f) (s := s) (g := g) (show v.length - 1 - i < v.length by omega)
  rw [plus_len, c] at b
  rw [at_rev (by omega), hl] at a
  have e : (if IsTop f s v.reverse g.reverse i then (1 : Int) else 0) = if IsTop f s v g (v.length - 1 - i) then 1 else 0 := by
    by_cases h : IsTop f s v g (v.length - 1 - i)
    · rw [if_pos h, if_pos ((top_rev hl hi).mpr h)]
    · rw [if_neg h, if_neg fun z => h ((top_rev hl hi).mp z)]
  rw [e, ← b] at a
  unfold at_ at a
  rw [List.getD, List.getD, List.getElem?_eq_getElem h1, List.getElem?_eq_getElem h2] at a
  exact a
/-- the deal of the lists in the other order -/
theorem deal_rev {g g' : List Int} {r r' : Int} {t' : List Nat} (d : Deal f s v g r g' t' r') : g.length = v.length → Deal f s v.reverse g.reverse r g'.reverse (turned v.length t') r' := by
  induction d with
  | done => intro _; exact .done
  | tie h0 h1 =>
    intro hl
    have e := tops_rev (f := f) (s := s) hl
    rw [← e]
    exact .tie h0 (by rw [e, turned_len]; exact h1)
  | step h0 h1 d ih =>
    intro hl
    have e := tops_rev (f := f) (s := s) hl
    refine .step h0 (by rw [e, turned_len]; exact h1) ?_
    rw [e, turned_len, plus_rev hl]
    exact ih plus_len
theorem deal_unique {g g1 g2 : List Int} {r r1 r2 : Int} {t1 t2 : List Nat} (d : Deal f s v g r g1 t1 r1) : Deal f s v g r g2 t2 r2 → g1 = g2 ∧ t1 = t2 ∧ r1 = r2 := by
  induction d with
  | done => intro d2; obtain ⟨rfl, rfl, rfl⟩ := deal_zero d2; exact ⟨rfl, rfl, rfl⟩
  | tie h0 h1 =>
    intro d2
    cases d2 with
    | done => omega
    | tie _ _ => exact ⟨rfl, rfl, rfl⟩
    | step _ h _ => omega
  | step h0 h1 d ih =>
    intro d2
    cases d2 with
    | done => omega
    | tie _ h => omega
    | step _ _ d3 => exact ih d3
/-- the tied against all: as much just where both are tied -/
theorem tied_cmp {n : Int} {g : List Int} {t : List Nat} {r : Int} (h : Fine f s v) (D : DealOk f s v n g t r) {j k : Nat} (hj : j ∈ t) (hk : k < v.length) :
    at_ v k * (f + s * at_ g j) ≤ at_ v j * (f + s * at_ g k) ∧ (at_ v j * (f + s * at_ g k) = at_ v k * (f + s * at_ g j) ↔ k ∈ t) := by
  have et : t = tops f s v g := by
    rcases D.tied with e | e
    · rw [e] at hj; cases hj
    · exact e
  rw [et] at hj
  obtain ⟨hjl, tj⟩ := mem_tops.mp hj
  refine ⟨tj k hk, fun e => ?_, fun hkt => ?_⟩
  · rw [et]; exact mem_tops.mpr ⟨hk, top_of_eq h D.pos hjl hk tj e⟩
  · rw [et] at hkt
    exact top_eq hjl hk tj (mem_tops.mp hkt).2
end
end MD
end

section
namespace MR
open MD
section
variable {v : List Int} {n T : Int} {D : List Int}
theorem at_get {l : List Int} {i : Nat} {c : Int} (h : l[i]? = some c) : at_ l i = c := by unfold at_; rw [List.getD, h]; rfl
theorem get_at {l : List Int} {i : Nat} (h : i < l.length) : l[i]? = some (at_ l i) := by unfold at_; simp [List.getD, h]
/-- by what is left over: more votes, no fewer seats -/
theorem fair_rem (h0 : ∀ c ∈ v, 0 ≤ c) (hT : 0 < v.sum) (hn : 0 ≤ n) (hD : Desc D (parts v n v.sum)) :
    Fair v (givenBy v n v.sum (served v n v.sum D).1) (tiedOf v n v.sum (served v n v.sum D).2.1) := by
  have ok := served_ok v n v.sum D rfl hT hD
  generalize served v n v.sum D = R at ok
  have inD : ∀ i, i < v.length → at_ v i * n % v.sum ∈ D := fun i hi => (hD.mem _).mpr (List.mem_of_getElem? (part_get (get_at hi)))
  have gv : ∀ i, i < v.length → at_ (givenBy v n v.sum R.1) i = at_ v i * n / v.sum + bonus R.1 (at_ v i * n % v.sum) := fun i hi => at_get (given_get (get_at hi))
  have tm : ∀ i, i < v.length → (i ∈ tiedOf v n v.sum R.2.1 ↔ R.2.1 = some (at_ v i * n % v.sum)) := fun i hi => tied_mem (get_at hi)
  refine ⟨fun j k hj hk hv => ?_, fun j k hj hk hv => ?_, fun j k hj hk hv => ?_⟩
  · rw [gv j hj, gv k hk]
    have hle : at_ v k * n ≤ at_ v j * n := Int.mul_le_mul_of_nonneg_right (by omega) hn
    have hw : at_ v k * n / v.sum ≤ at_ v j * n / v.sum := Int.ediv_le_ediv hT hle
    have ek := Int.mul_ediv_add_emod (at_ v k * n) v.sum
    have ej := Int.mul_ediv_add_emod (at_ v j * n) v.sum
    have bj := bonus_or R.1 (at_ v j * n % v.sum)
    have bk := bonus_or R.1 (at_ v k * n % v.sum)
    have tk : k ∈ tiedOf v n v.sum R.2.1 → at_ v k * n % v.sum ∉ R.1 := fun ht hin => by
      have := ((ok.tie _ ((tm k hk).mp ht)).2.2.2.2 _ (inD k hk)).mp hin
      omega
    by_cases he : at_ v k * n / v.sum = at_ v j * n / v.sum
    · rw [he] at ek
      rw [he]
      have hp : at_ v k * n % v.sum ≤ at_ v j * n % v.sum := by omega
      by_cases ht : k ∈ tiedOf v n v.sum R.2.1
      · rw [if_pos ht]
        obtain ⟨_, _, mp, _, iff⟩ := ok.tie _ ((tm k hk).mp ht)
        have n0 : n ≠ 0 := fun e => by rw [e, Int.mul_zero, Int.zero_emod] at mp; omega
        have hlt : at_ v k * n < at_ v j * n := Int.mul_lt_mul_of_pos_right hv (by omega)
        have hin := (iff _ (inD j hj)).mpr (by omega)
        rcases bk with ⟨_, h⟩ | ⟨e, _⟩
        · exact absurd h (tk ht)
        · rcases bj with ⟨e', _⟩ | ⟨_, h⟩
          · omega
          · exact absurd hin h
      · rw [if_neg ht]
        rcases bk with ⟨e, h⟩ | ⟨e, _⟩
        · rcases bj with ⟨e', _⟩ | ⟨_, h'⟩
          · omega
          · have := ok.up _ h _ (inD j hj) h'
            omega
        · rcases bj with ⟨e', _⟩ | ⟨e', _⟩ <;> omega
    · have hlt : at_ v k * n / v.sum < at_ v j * n / v.sum := by omega
      have b0 : 0 ≤ bonus R.1 (at_ v j * n % v.sum) := by rcases bj with ⟨e, _⟩ | ⟨e, _⟩ <;> omega
      by_cases ht : k ∈ tiedOf v n v.sum R.2.1
      · rw [if_pos ht]
        rcases bk with ⟨_, h⟩ | ⟨e, _⟩
        · exact absurd h (tk ht)
        · omega
      · rw [if_neg ht]
        rcases bk with ⟨e, _⟩ | ⟨e, _⟩ <;> omega
  · rw [gv j hj, gv k hk, hv]
  · rw [tm j hj, tm k hk, hv]
/-! the other order -/
theorem parts_rev : parts v.reverse n T = (parts v n T).reverse := by unfold parts; rw [List.map_reverse]
theorem wholes_rev : wholes v.reverse n T = (wholes v n T).reverse := by unfold wholes; rw [List.map_reverse]
theorem given_rev {s : List Int} : givenBy v.reverse n T s = (givenBy v n T s).reverse := by unfold givenBy; rw [List.map_reverse]
theorem cnt_rev {ps : List Int} {m : Int} : cnt ps.reverse m = cnt ps m := by unfold cnt; rw [List.filter_reverse, List.length_reverse]
theorem desc_rev {ps : List Int} : Desc D ps.reverse ↔ Desc D ps := ⟨fun h => ⟨h.fall, fun x => by rw [h.mem, List.mem_reverse]⟩, fun h => ⟨h.fall, fun x => by rw [h.mem, List.mem_reverse]⟩⟩
theorem run_rev {ps : List Int} : ∀ (D : List Int) (f : Int), run ps.reverse D f = run ps D f
  | [], _ => rfl
  | m :: D, f => by
    unfold run
    rw [cnt_rev, run_rev D]
theorem sum_rev (l : List Int) : l.reverse.sum = l.sum := by rw [List.sum_reverse]
theorem served_rev : served v.reverse n T D = served v n T D := by
  unfold served free0
  rw [parts_rev, wholes_rev, run_rev, sum_rev]
theorem placesFrom_filter (m : Int) : ∀ (ps : List Int) (i : Nat), placesFrom m ps i = (List.range' i ps.length).filter fun j => decide (ps[j - i]? = some m)
  | [], _ => rfl
  | p :: r, i => by
    unfold placesFrom
    rw [placesFrom_filter m r (i + 1), List.length_cons, List.range'_succ]
    have e : (List.range' (i + 1) r.length).filter (fun j => decide ((p :: r)[j - i]? = some m)) = (List.range' (i + 1) r.length).filter (fun j => decide (r[j - (i + 1)]? = some m)) := by
      refine List.filter_congr fun j hj => ?_
      have hj' := (List.mem_range'_1.mp hj).1
      have : j - i = (j - (i + 1)) + 1 := by omega
      rw [this, List.getElem?_cons_succ]
    by_cases h : p = m
    · rw [if_pos h, List.filter_cons_of_pos (by simp [h]), e]
    · rw [if_neg h, List.filter_cons_of_neg (by simp [h]), e]
theorem places_filter (m : Int) (ps : List Int) : places m ps = (List.range ps.length).filter fun j => decide (ps[j]? = some m) := by
  unfold places
  rw [placesFrom_filter, List.range_eq_range']
  rfl
theorem places_rev (m : Int) (ps : List Int) : places m ps.reverse = turned ps.length (places m ps) := by
  rw [places_filter, places_filter, List.length_reverse]
  exact filter_turn _ _ _ fun i hi => by rw [List.getElem?_reverse hi]
theorem tied_rev {o : Option Int} : tiedOf v.reverse n T o = turned v.length (tiedOf v n T o) := by
  cases o with
  | none => rfl
  | some m =>
    show places m (parts v.reverse n T) = turned v.length (places m (parts v n T))
    rw [parts_rev, places_rev]
    unfold parts
    rw [List.length_map]
end
end MR
end

section
namespace MD
section
variable {f s : Int} {v g : List Int}
/-- the best of the first i places -/
def BestOf (f s : Int) (v g : List Int) (t i : Nat) : Prop := t < v.length ∧ ∀ j, j < i → at_ v j * (f + s * at_ g t) ≤ at_ v t * (f + s * at_ g j)
theorem best_stay {t i : Nat} (h : BestOf f s v g t i) (hn : ¬ at_ v t * (f + s * at_ g i) < at_ v i * (f + s * at_ g t)) : BestOf f s v g t (i + 1) := by
  refine ⟨h.1, fun j hj => ?_⟩
  by_cases e : j = i
  · subst e; omega
  · exact h.2 j (by omega)
theorem best_new {t i : Nat} (F : Fine f s v) (p : ∀ i, i < v.length → 0 ≤ at_ g i) (h : BestOf f s v g t i) (hi : i < v.length) (hl : at_ v t * (f + s * at_ g i) < at_ v i * (f + s * at_ g t)) : BestOf f s v g i (i + 1) := by
  refine ⟨hi, fun j hj => ?_⟩
  by_cases e : j = i
  · subst e; exact Int.le_refl _
  · have h1 := h.2 j (by omega)
    have dt := div_pos F.first F.step (p t h.1)
    have di := div_pos F.first F.step (p i hi)
    have dj := div_pos F.first F.step (p j (by omega))
    have a1 : at_ v j * (f + s * at_ g t) * (f + s * at_ g i) ≤ at_ v t * (f + s * at_ g j) * (f + s * at_ g i) := Int.mul_le_mul_of_nonneg_right h1 (Int.le_of_lt di)
    have a2 : at_ v t * (f + s * at_ g i) * (f + s * at_ g j) ≤ at_ v i * (f + s * at_ g t) * (f + s * at_ g j) := Int.mul_le_mul_of_nonneg_right (Int.le_of_lt hl) (Int.le_of_lt dj)
    have e1 : at_ v t * (f + s * at_ g j) * (f + s * at_ g i) = at_ v t * (f + s * at_ g i) * (f + s * at_ g j) := by rw [Int.mul_assoc, Int.mul_comm (f + s * at_ g j), ← Int.mul_assoc]
    have e2 : at_ v j * (f + s * at_ g t) * (f + s * at_ g i) = at_ v j * (f + s * at_ g i) * (f + s * at_ g t) := by rw [Int.mul_assoc, Int.mul_comm (f + s * at_ g t), ← Int.mul_assoc]
    have e3 : at_ v i * (f + s * at_ g t) * (f + s * at_ g j) = at_ v i * (f + s * at_ g j) * (f + s * at_ g t) := by rw [Int.mul_assoc, Int.mul_comm (f + s * at_ g t), ← Int.mul_assoc]
    rw [e2, e1] at a1
    rw [e3] at a2
    exact Int.le_of_mul_le_mul_right (Int.le_trans a1 a2) dt
theorem best_top {t : Nat} (h : BestOf f s v g t v.length) : IsTop f s v g t := h.2
/-- who is worth as much as the best -/
theorem tops_eq {t : Nat} (F : Fine f s v) (p : ∀ i, i < v.length → 0 ≤ at_ g i) (ht : t < v.length) (h : IsTop f s v g t) :
    (List.range v.length).filter (fun k => decide (at_ v k * (f + s * at_ g t) = at_ v t * (f + s * at_ g k))) = tops f s v g := by
  unfold tops
  refine List.filter_congr fun k hk => decide_eq_decide.mpr ⟨fun e => ?_, fun hkt => ?_⟩
  · exact top_of_eq F p ht (List.mem_range.mp hk) h e.symm
  · exact (top_eq ht (List.mem_range.mp hk) h hkt).symm
theorem bump_len {g : List Int} {k : Nat} : (MR.bump g k).length = g.length := by unfold MR.bump; rw [List.length_set]
theorem bump_at {g : List Int} {k i : Nat} (hk : k < g.length) : at_ (MR.bump g k) i = at_ g i + if i = k then 1 else 0 := by
  unfold MR.bump at_
  rw [List.getD, List.getD, List.getElem?_set]
  by_cases e : k = i
  · subst e
    rw [if_pos rfl, if_pos hk, if_pos rfl]
    simp [List.getD, hk]
  · rw [if_neg e, if_neg (Ne.symm e), Int.add_zero]; rfl
theorem bumps_at : ∀ (M : List Nat) (g : List Int), M.Nodup → (∀ k ∈ M, k < g.length) → (M.foldl MR.bump g).length = g.length ∧ ∀ i, at_ (M.foldl MR.bump g) i = at_ g i + if i ∈ M then 1 else 0
  | [], g, _, _ => ⟨rfl, fun i => by simp⟩
  | k :: M, g, hn, hl => by
    obtain ⟨h1, h2⟩ := List.nodup_cons.mp hn
    obtain ⟨a, b⟩ := bumps_at M (MR.bump g k) h2 fun j hj => by rw [bump_len]; exact hl j (List.mem_cons_of_mem _ hj)
    refine ⟨by rw [List.foldl_cons, a, bump_len], fun i => ?_⟩
    rw [List.foldl_cons, b i, bump_at (hl k List.mem_cons_self)]
    by_cases e : i = k
    · subst e; simp [h1]
    · simp [e]
theorem plus_eq {g : List Int} (hg : g.length = v.length) : (tops f s v g).foldl MR.bump g = plus f s v g := by
  have nd : (tops f s v g).Nodup := tops_rise.imp fun h => Nat.ne_of_lt h
  obtain ⟨a, b⟩ := bumps_at (tops f s v g) g nd fun k hk => by rw [hg]; exact (mem_tops.mp hk).1
  refine List.ext_getElem (by rw [a, plus_len, hg]) fun i h1 h2 => ?_
  have hi : i < v.length := by rw [plus_len] at h2; exact h2
  have e1 := b i
  have e2 := plus_at (f := f) (s := s) (g := g) hi
  have e3 : (if i ∈ tops f s v g then (1 : Int) else 0) = if IsTop f s v g i then 1 else 0 := by
    by_cases ht : IsTop f s v g i
    · rw [if_pos ht, if_pos (mem_tops.mpr ⟨hi, ht⟩)]
    · rw [if_neg ht, if_neg fun z => ht (mem_tops.mp z).2]
  rw [e3, ← e2] at e1
  unfold at_ at e1
  rw [List.getD, List.getD, List.getElem?_eq_getElem h1, List.getElem?_eq_getElem h2] at e1
  exact e1
end
end MD
end

section
/-! rounds of a deal, by whose turn it is -/
namespace MD
def oneEach (g : List Int) (t : List Nat) : List Int := (List.range g.length).map fun i => at_ g i + if i ∈ t then 1 else 0
theorem one_len {g : List Int} {t : List Nat} : (oneEach g t).length = g.length := by unfold oneEach; rw [List.length_map, List.length_range]
theorem one_at {g : List Int} {t : List Nat} {i : Nat} (h : i < g.length) : at_ (oneEach g t) i = at_ g i + if i ∈ t then 1 else 0 := by
  unfold oneEach at_
  simp [List.getD, h]
inductive Rnd (best : List Int → List Nat) : List Int → Int → List Int → List Nat → Int → Prop
  | done {g : List Int} : Rnd best g 0 g [] 0
  | tie {g : List Int} {r : Int} : 0 < r → r < (best g).length → Rnd best g r g (best g) r
  | step {g g' : List Int} {r r' : Int} {t' : List Nat} : 0 < r → ((best g).length : Int) ≤ r → Rnd best (oneEach g (best g)) (r - (best g).length) g' t' r' → Rnd best g r g' t' r'
theorem one_plus {f s : Int} {v g : List Int} (hg : g.length = v.length) : oneEach g (tops f s v g) = plus f s v g := by
  unfold oneEach plus
  rw [hg]
  refine List.map_congr_left fun i hi => ?_
  have hi := List.mem_range.mp hi
  by_cases h : IsTop f s v g i
  · rw [if_pos h, if_pos (mem_tops.mpr ⟨hi, h⟩)]
  · rw [if_neg h, if_neg fun z => h (mem_tops.mp z).2]
theorem Rnd.deal {f s : Int} {v g g' : List Int} {r r' : Int} {t' : List Nat} (h : Rnd (tops f s v) g r g' t' r') : g.length = v.length → Deal f s v g r g' t' r' := by
  induction h with
  | done => exact fun _ => .done
  | tie h1 h2 => exact fun _ => .tie h1 h2
  | step h1 h2 _ ih =>
    intro hg
    rw [one_plus hg] at ih
    exact .step h1 h2 (ih plus_len)
end MD
namespace MR
open MD (at_ oneEach Rnd)
/-- a falling list of the members -/
def ins (x : Int) : List Int → List Int
  | [] => [x]
  | a :: r => if a < x then x :: a :: r else if a = x then a :: r else a :: ins x r
theorem ins_mem (x y : Int) : ∀ l : List Int, y ∈ ins x l ↔ y = x ∨ y ∈ l
  | [] => by simp [ins]
  | a :: r => by
    unfold ins
    split
    · simp
    · split
      · rename_i h; subst h; simp
      · have := ins_mem x y r
        simp only [List.mem_cons, this]
        constructor
        · rintro (h | h | h) <;> simp [h]
        · rintro (h | h | h) <;> simp [h]
theorem ins_fall (x : Int) : ∀ l : List Int, l.Pairwise (· > ·) → (ins x l).Pairwise (· > ·)
  | [], _ => by simp [ins]
  | a :: r, h => by
    obtain ⟨h1, h2⟩ := List.pairwise_cons.mp h
    unfold ins
    split
    · rename_i hl
      exact List.pairwise_cons.mpr ⟨fun y hy => by
        rcases List.mem_cons.mp hy with rfl | hy
        · exact hl
        · have := h1 y hy; omega, h⟩
    · split
      · exact h
      · rename_i n1 n2
        exact List.pairwise_cons.mpr ⟨fun y hy => by
          rcases (ins_mem x y r).mp hy with rfl | hy
          · omega
          · exact h1 y hy, ins_fall x r h2⟩
theorem desc_ex : ∀ ps : List Int, ∃ D, Desc D ps
  | [] => ⟨[], .nil, fun _ => Iff.rfl⟩
  | p :: r => by
    obtain ⟨D, h⟩ := desc_ex r
    exact ⟨ins p D, ins_fall p D h.fall, fun x => by rw [ins_mem, h.mem, List.mem_cons]⟩
section
variable {v D : List Int} {n T : Int}
/-- whose turn it is: the most left over among those with their whole share -/
def Turn (ps W g : List Int) (i : Nat) : Prop := at_ g i = at_ W i ∧ ∀ j, j < g.length → at_ g j = at_ W j → at_ ps j ≤ at_ ps i
instance (ps W g : List Int) (i : Nat) : Decidable (Turn ps W g i) :=
  have : Decidable (∀ j, j < g.length → at_ g j = at_ W j → at_ ps j ≤ at_ ps i) := Nat.decidableBallLT g.length fun j _ => at_ g j = at_ W j → at_ ps j ≤ at_ ps i
  inferInstanceAs (Decidable (_ ∧ _))
def turn (ps W g : List Int) : List Nat := (List.range g.length).filter fun i => decide (Turn ps W g i)
theorem given_len {s : List Int} : (givenBy v n T s).length = v.length := by unfold givenBy; rw [List.length_map]
theorem parts_len : (parts v n T).length = v.length := by unfold parts; rw [List.length_map]
theorem wholes_len : (wholes v n T).length = v.length := by unfold wholes; rw [List.length_map]
theorem given_at {s : List Int} {i : Nat} (h : i < v.length) : at_ (givenBy v n T s) i = at_ (wholes v n T) i + bonus s (at_ (parts v n T) i) := by
  have hv : v[i]? = some v[i] := List.getElem?_eq_getElem h
  rw [at_get (given_get hv), at_get (part_get hv), at_get (show (wholes v n T)[i]? = some (v[i] * n / T) by unfold wholes; rw [List.getElem?_map, hv]; rfl)]
theorem wait_iff {s : List Int} {i : Nat} (h : i < v.length) : at_ (givenBy v n T s) i = at_ (wholes v n T) i ↔ at_ (parts v n T) i ∉ s := by
  rw [given_at h]
  unfold bonus
  split
  · rename_i hm; exact ⟨fun e => by omega, fun e => absurd hm e⟩
  · rename_i hm; exact ⟨fun _ => hm, fun _ => by omega⟩
theorem part_at_mem {i : Nat} (h : i < v.length) : at_ (parts v n T) i ∈ parts v n T := by
  have := get_at (l := parts v n T) (i := i) (by rw [parts_len]; exact h)
  exact List.mem_of_getElem? this
theorem turn_eq (hD : Desc D (parts v n T)) {i : Nat} {m : Int} (hm : D[i]? = some m) : turn (parts v n T) (wholes v n T) (givenBy v n T (D.take i)) = places m (parts v n T) := by
  unfold turn
  rw [places_filter, given_len, parts_len]
  have sp : D = D.take i ++ m :: D.drop (i + 1) := by rw [← drop_cons hm, List.take_append_drop]
  have fall := hD.fall
  rw [sp] at fall
  obtain ⟨_, f2, f3⟩ := List.pairwise_append.mp fall
  have f4 := (List.pairwise_cons.mp f2).1
  have le : ∀ x ∈ parts v n T, x ∉ D.take i → x ≤ m := fun x hx hn => by
    have : x ∈ D := (hD.mem x).mpr hx
    rw [sp] at this
    rcases List.mem_append.mp this with h | h
    · exact absurd h hn
    · rcases List.mem_cons.mp h with rfl | h
      · exact Int.le_refl _
      · exact Int.le_of_lt (f4 x h)
  have mn : m ∉ D.take i := not_before hD.fall hm
  have mps : m ∈ parts v n T := (hD.mem m).mp (List.mem_of_getElem? hm)
  refine List.filter_congr fun j hj => ?_
  have hj := List.mem_range.mp hj
  refine decide_eq_decide.mpr ?_
  rw [get_at (l := parts v n T) (i := j) (by rw [parts_len]; exact hj)]
  constructor
  · rintro ⟨h1, h2⟩
    have h1 := (wait_iff hj).mp h1
    obtain ⟨k, hk, ek⟩ := List.mem_iff_getElem.mp mps
    rw [parts_len] at hk
    have ek' : at_ (parts v n T) k = m := at_get (by rw [List.getElem?_eq_getElem (by rw [parts_len]; exact hk), ek])
    have := h2 k (by rw [given_len]; exact hk) ((wait_iff hk).mpr (by rw [ek']; exact mn))
    have h3 := le _ (part_at_mem hj) h1
    rw [show at_ (parts v n T) j = m by omega]
  · intro e
    have e : at_ (parts v n T) j = m := Option.some.inj e
    refine ⟨(wait_iff hj).mpr (by rw [e]; exact mn), fun k hk hw => ?_⟩
    rw [given_len] at hk
    rw [e]
    exact le _ (part_at_mem hk) ((wait_iff hk).mp hw)
theorem one_given (hD : Desc D (parts v n T)) {i : Nat} {m : Int} (hm : D[i]? = some m) : oneEach (givenBy v n T (D.take i)) (places m (parts v n T)) = givenBy v n T (D.take (i + 1)) := by
  have mn : m ∉ D.take i := not_before hD.fall hm
  rw [List.take_add_one, hm, Option.toList_some, ← given_bump v n T (D.take i) m mn]
  refine List.ext_getElem? fun j => ?_
  have nd : (places m (parts v n T)).Nodup := (places_rise m _).imp fun h => Nat.ne_of_lt h
  rw [bumps_get _ _ _ nd]
  by_cases hj : j < v.length
  · rw [get_at (l := oneEach _ _) (by rw [MD.one_len, given_len]; exact hj), MD.one_at (by rw [given_len]; exact hj), get_at (l := givenBy v n T (D.take i)) (by rw [given_len]; exact hj)]
    rfl
  · rw [List.getElem?_eq_none (by rw [MD.one_len, given_len]; omega), List.getElem?_eq_none (by rw [given_len]; omega)]
    rfl
/-- where a deal by what is left over stands -/
structure At (v D : List Int) (n T : Int) (i : Nat) (g : List Int) (r : Int) : Prop where
  le : i ≤ D.length
  g : g = givenBy v n T (D.take i)
  r0 : 0 ≤ r
  room : r * T ≤ rest (D.drop i) (parts v n T)
  run : Then (parts v n T) D (free0 v n T) i r
theorem At.start (hT : T = v.sum) (hp : 0 < T) (hn : 0 ≤ n) (h0 : ∀ c ∈ v, 0 ≤ c) (hD : Desc D (parts v n T)) : At v D n T 0 (wholes v n T) (free0 v n T) := by
  have hw := whole_part v n T
  rw [← hT] at hw
  have hps := parts_in v n T hp
  have hs : 0 ≤ (parts v n T).sum := by
    have := sum_map_nonneg id (parts v n T) fun x hx => (hps x hx).1
    rwa [List.map_id] at this
  have hf : free0 v n T * T = (parts v n T).sum := by
    unfold free0
    rw [Int.sub_mul, Int.mul_comm n T]
    omega
  refine ⟨Nat.zero_le _, by rw [List.take_zero, givenBy_nil], ?_, ?_, then_start _ _ _⟩
  · refine Int.le_of_not_gt fun hneg => ?_
    have : free0 v n T * T < 0 := Int.mul_neg_of_neg_of_pos hneg hp
    omega
  · rw [List.drop_zero, rest_all fun x hx => (hD.mem x).mpr hx, hf]
    exact Int.le_refl _
theorem rest_nil {ps : List Int} : rest [] ps = 0 := by
  unfold rest
  have e : ps.map (fun p => if p ∈ ([] : List Int) then p else 0) = ps.map fun p => id p * 0 := List.map_congr_left fun p _ => by simp
  rw [e, sum_map_mul 0 id, Int.mul_zero]
theorem At.more {i : Nat} {g : List Int} {r : Int} (a : At v D n T i g r) (hp : 0 < T) (h : 0 < r) : ∃ m, D[i]? = some m := by
  by_cases hi : i < D.length
  · exact ⟨_, List.getElem?_eq_getElem hi⟩
  · exfalso
    have e : D.drop i = [] := List.drop_eq_nil_of_le (by omega)
    have := a.room
    rw [e, rest_nil] at this
    have := Int.mul_pos h hp
    omega
theorem At.turn {i : Nat} {g : List Int} {r : Int} {m : Int} (a : At v D n T i g r) (hD : Desc D (parts v n T)) (hm : D[i]? = some m) : turn (parts v n T) (wholes v n T) g = places m (parts v n T) := by
  rw [a.g]; exact turn_eq hD hm
theorem At.next {i : Nat} {g : List Int} {r : Int} {m : Int} (a : At v D n T i g r) (hp : 0 < T) (hD : Desc D (parts v n T)) (hm : D[i]? = some m) (h0 : 0 < r) (h : ((places m (parts v n T)).length : Int) ≤ r) :
    At v D n T (i + 1) (oneEach g (places m (parts v n T))) (r - (places m (parts v n T)).length) := by
  rw [places_len] at h ⊢
  have hi : i < D.length := (List.getElem?_eq_some_iff.mp hm).1
  refine ⟨hi, by rw [a.g]; exact one_given hD hm, by omega, ?_, then_next a.run hm (by omega) (by omega)⟩
  have hr := a.room
  have nd : m ∉ D.drop (i + 1) := fun z => by
    have f := hD.fall
    rw [show D = D.take i ++ m :: D.drop (i + 1) by rw [← drop_cons hm, List.take_append_drop]] at f
    have := (List.pairwise_cons.mp (List.pairwise_append.mp f).2.1).1 m z
    omega
  rw [drop_cons hm, rest_cons _ nd] at hr
  have mp := parts_in v n T hp m ((hD.mem m).mp (List.mem_of_getElem? hm))
  have : (cnt (parts v n T) m : Int) * m ≤ cnt (parts v n T) m * T := Int.mul_le_mul_of_nonneg_left (by omega) (by omega)
  rw [Int.sub_mul]
  omega
theorem rnd_served {g g' : List Int} {r fr : Int} {t : List Nat} (h : Rnd (turn (parts v n T) (wholes v n T)) g r g' t fr) (hp : 0 < T) (hD : Desc D (parts v n T)) :
    ∀ i, At v D n T i g r → g' = givenBy v n T (served v n T D).1 ∧ t = tiedOf v n T (served v n T D).2.1 ∧ fr = (served v n T D).2.2 := by
  induction h with
  | @done g =>
    intro i a
    have e : run (parts v n T) D (free0 v n T) = (D.take i, none, 0) := by
      cases hm : D[i]? with
      | some m => exact then_zero a.run hm rfl
      | none =>
        have hi : i = D.length := by
          have := List.getElem?_eq_none_iff.mp hm
          have := a.le
          omega
        have := a.run
        rw [hi] at this
        rw [then_end this, hi, List.take_length]
    unfold served
    rw [e]
    exact ⟨a.g, rfl, rfl⟩
  | @tie g r h1 h2 =>
    intro i a
    obtain ⟨m, hm⟩ := a.more hp h1
    have ht := a.turn hD hm
    rw [ht, places_len] at h2
    have e := then_tie a.run hm (by omega) (by omega)
    unfold served
    rw [e]
    exact ⟨a.g, ht, rfl⟩
  | @step g g' r r' t' h1 h2 _ ih =>
    intro i a
    obtain ⟨m, hm⟩ := a.more hp h1
    have ht := a.turn hD hm
    rw [ht] at h2 ih
    exact ih (i + 1) (a.next hp hD hm h1 h2)
end
end MR
end

section
set_option Elab.async false
set_option linter.all false
set_option maxRecDepth 100000
set_option maxHeartbeats 4000000
namespace LC
open PySem L2
/-! what the laws' own defs share -/
abbrev zs (v : List Int) : List V := v.map V.int
def nats (l : List Nat) : List V := l.map fun (i : Nat) => V.int (i : Int)
def Small (n : Int) : Prop := -(2 ^ 64) < n ∧ n < 2 ^ 64
/-- the votes that a law makes -/
structure VOk (v : List Int) : Prop where
  few : v.length < 64
  log : v.sum.natAbs.log2 < 9000
  nonneg : ∀ c ∈ v, 0 ≤ c
  big : ∀ c ∈ v, c ≤ 10 ^ 80
/-- a divisor's number -/
def Dv (f : Int) : Prop := 0 < f ∧ f ≤ 10 ^ 21
abbrev bmV : List Value := [Value.type "ValueError", Value.type "Exception", Value.type "BaseException", Value.type "object"]
structure Own (mg : Str → Option Value) : Prop where
  sum : mg "sum" = none
  len : mg "len" = none
  isinstance : mg "isinstance" = none
  int : mg "int" = none
  bool : mg "bool" = none
  tuple : mg "tuple" = none
  list : mg "list" = none
  range : mg "range" = none
  reversed : mg "reversed" = none
  sorted : mg "sorted" = none
  set : mg "set" = none
  enumerate : mg "enumerate" = none
  max : mg "max" = none
/-- a def of the text, where it stands -/
structure Def (K : PySem.W.Frag) (mg : Str → Option Value) (x : Str) (st : Stmt) (f : Addr) (fd : FuncData) (ps : List Str) : Prop where
  fn : Fun K x x st f fd
  bind : Binds K fd ps []
  name : mg x = some (.ref f)
/-- NoVotes, a refusal of the text -/
structure RefV (K : PySem.W.Frag) (mg : Str → Option Value) (C : Addr) : Prop where
  nC : mg "NoVotes" = some (.ref C)
  ex : PySem.W.excIn K C bmV "ValueError.__new__" = true
  eC : EX.ECls K C
  tC : PySem.W.typeIn K (.ref C) = some (.type "type")
  mC : PySem.W.mroIn K C (.ref C) = some true
theorem ifN {c A B : Prop} [Decidable c] (hc : ¬ c) (h : B) : if decide c = true then A else B := by rw [decide_eq_false hc]; exact iteF h
theorem ifY {c A B : Prop} [Decidable c] (hc : c) (h : A) : if decide c = true then A else B := by rw [decide_eq_true hc]; exact iteT h
theorem if2 {c A B : Prop} [Decidable c] (h1 : c → A) (h2 : ¬ c → B) : if decide c = true then A else B := by
  by_cases h : c
  · exact ifY h (h1 h)
  · exact ifN h (h2 h)
theorem zs_get {v : List Int} {i : Nat} {x : V} (hx : (zs v)[i]? = some x) : ∃ c, v[i]? = some c ∧ x = V.int c := by
  rw [List.getElem?_map] at hx
  cases e : v[i]? with
  | none => rw [e] at hx; cases hx
  | some c => rw [e] at hx; exact ⟨c, rfl, (Option.some.inj hx).symm⟩
theorem nats_get {l : List Nat} {i : Nat} {x : V} (hx : (nats l)[i]? = some x) : ∃ j, l[i]? = some j ∧ x = V.int (j : Int) := by
  unfold nats at hx
  rw [List.getElem?_map] at hx
  cases e : l[i]? with
  | none => rw [e] at hx; cases hx
  | some c => rw [e] at hx; exact ⟨c, rfl, (Option.some.inj hx).symm⟩
theorem zs_at {v : List Int} {i : Nat} (h : i < v.length) : (zs v)[i]? = some (V.int (MD.at_ v i)) := by
  unfold zs
  rw [List.getElem?_map, MR.get_at h]
  rfl
theorem kit_same (K : PySem.W.Frag) (n : String) : PySem.W.kitOne K (.type n) (.type n) = some true := by
  unfold PySem.W.kitOne
  rw [if_pos (by simp)]
theorem kit_int_bool (K : PySem.W.Frag) : PySem.W.kitOne K (.type "int") (.type "bool") = some false := by
  unfold PySem.W.kitOne
  rw [if_neg (by decide)]
  first | rfl | (unfold PySem.W.kitCls; decide +kernel) | (unfold PySem.W.kitCls; rfl)
theorem cut_zs (ns : List Int) (lo hi : Option Int) : ∃ cs : List Int, cutV (zs ns) lo hi = zs cs ∧ cs.length ≤ ns.length - HT.sIx ns.length 0 lo ∧ cs.length ≤ HT.sIx ns.length ns.length hi - HT.sIx ns.length 0 lo := by
  refine ⟨(ns.drop (HT.sIx ns.length 0 lo)).take (HT.sIx ns.length ns.length hi - HT.sIx ns.length 0 lo), ?_, ?_, ?_⟩
  · unfold cutV zs
    rw [List.length_map, List.map_take, List.map_drop]
  · rw [List.length_take, List.length_drop]
    exact Nat.min_le_right _ _
  · rw [List.length_take]
    exact Nat.min_le_left _ _
theorem inV_nats (t : List Nat) (i : Nat) : inV (.int (i : Int)) (nats t) = decide (i ∈ t) := by
  unfold inV nats
  induction t with
  | nil => rfl
  | cons a r ih =>
    rw [List.map_cons, List.any_cons, ih]
    show ((a : Int) == (i : Int) || decide (i ∈ r)) = _
    by_cases h : a = i
    · subst h; simp
    · have : ((a : Int) == (i : Int)) = false := by simp; omega
      rw [this, Bool.false_or]
      simp [Ne.symm h]
theorem flat_nats (t : List Nat) : (nats t).all flatV = true := by
  unfold nats
  rw [List.all_map]
  exact List.all_eq_true.mpr fun _ _ => rfl
theorem mulok : MulOk ("0" : Str) 60 := ⟨by decide, fun _ _ => by decide, fun _ _ => by first | decide | decide +kernel | rfl⟩
theorem texts : PySem.intText? (("1" : Str) ++ Txt.mul "0" 60) = some (10 ^ 60) := by decide +kernel
theorem textlen : (("1" : Str) ++ Txt.mul "0" 60).length ≤ 640 := by decide +kernel
theorem textlen2 : ("1" : Str).length + (Txt.mul "0" 60).length ≤ sizeLine := by decide +kernel
theorem cut_rest {t u : TS} {D : Ends} {σ : St} {H : Hp} (M : St → Hp → Prop) (h1 : ∀ σ H, M σ H → u D σ H) (h2 : (∀ σ H, M σ H → u D σ H) → tSeq t u D σ H) : tSeq t u D σ H := h2 h1
theorem map_zs (f : Int → Int) (v : List Int) : (zs v).map (fun x => match x with | .int c => V.int (f c) | x => x) = zs (v.map f) := by
  unfold zs
  rw [List.map_map, List.map_map]
  rfl
/-- an exception that is not wanted doesn't come -/
theorem passE0 {P : Program} {w : World} {X : Cx} : Passes (CXe P w) X E0 := fun _ _ _ _ _ _ _ h => by
  obtain ⟨_, _, _, _, _, _, _, _, _, _, _, _, _, z⟩ := h
  exact z.elim
theorem menu (x : Int) (h0 : 0 ≤ x) (h4 : x < 4) : ∃ M : Int, atI [V.int 7, V.int 30, V.int 1000, V.int 1000000000000000000] x = some (.int M) ∧ 0 < M ∧ M ≤ 1000000000000000000 := by
  have : x = 0 ∨ x = 1 ∨ x = 2 ∨ x = 3 := by omega
  rcases this with rfl | rfl | rfl | rfl
  · exact ⟨7, rfl, by decide, by decide⟩
  · exact ⟨30, rfl, by decide, by decide⟩
  · exact ⟨1000, rfl, by decide, by decide⟩
  · exact ⟨1000000000000000000, rfl, by decide, by decide⟩
theorem vok_plain (u : List Int) (hl : u.length ≤ 62) (h : ∀ c ∈ u, 0 ≤ c ∧ c ≤ 10 ^ 80) : VOk u := by
  obtain ⟨s0, s1⟩ := MR.sum_bound u _ h
  have hb : (u.length : Int) * 10 ^ 80 ≤ 62 * 10 ^ 80 := Int.mul_le_mul_of_nonneg_right (by omega) (by decide)
  exact ⟨by omega, MR.log_bound _ s0 (by omega), fun c hc => (h c hc).1, fun c hc => (h c hc).2⟩
theorem vok_of (u : List Int) (hl : u.length ≤ 61) (h : ∀ c ∈ u, 0 ≤ c ∧ c ≤ 10 ^ 80) : (u.sum ≠ 0 → VOk u ∧ 0 < u.sum) ∧ (u.sum = 0 → VOk (u ++ [5]) ∧ 0 < (u ++ [5]).sum) := by
  obtain ⟨s0, s1⟩ := MR.sum_bound u _ h
  refine ⟨fun hs => ⟨vok_plain u (by omega) h, by omega⟩, fun hs => ⟨vok_plain _ (by simp; omega) fun c hc => ?_, by rw [List.sum_append, hs]; decide⟩⟩
  rcases List.mem_append.mp hc with hc | hc
  · exact h c hc
  · rw [List.mem_singleton] at hc; subst hc; exact ⟨by decide, by decide⟩
/-! promises -/
def spIsW : Sp := fun vs H Q _ => ∃ i : Int, vs = [.int i] ∧ Q (.bl true) H
/-- the script's cell, or nought -/
def cell (ns : List Int) (k : Nat) : Int := (ns[k]?).getD 0
def spAt (K : PySem.W.Frag) : Sp := fun vs H Q _ => ∃ (a : Addr) (ns : List Int) (k : Nat), vs = [.ref a, .int k] ∧ SqL K H a (zs ns) ∧ Q (.int (cell ns k)) H
structure DealOk (g : List Int) (t : List Nat) (fr : Int) (seats : Int) : Prop where
  nonneg : ∀ x ∈ g, 0 ≤ x
  tot : fr + g.sum = seats
  rise : t.Pairwise (· < ·)
  lt : ∀ j ∈ t, j < g.length
  tie : (fr = 0 ∧ t = []) ∨ (0 < fr ∧ fr < t.length)
/-- a deal lies at q -/
def IsDeal (H : Hp) (q pg pt : Addr) (g : List Int) (t : List Nat) (fr : Int) : Prop := H q = some (.tup [.ref pg, .ref pt, .int fr]) ∧ H pg = some (.lst (zs g)) ∧ H pt = some (.lst (nats t))
theorem IsDeal.same {H H' : Hp} {q pg pt : Addr} {g : List Int} {t : List Nat} {fr : Int} (d : IsDeal H q pg pt g t fr) (s : Same H H') : IsDeal H' q pg pt g t fr := ⟨s _ _ d.1, s _ _ d.2.1, s _ _ d.2.2⟩
theorem IsDeal.sm {Z : Tabs} {H H' : Hp} {q pg pt : Addr} {g : List Int} {t : List Nat} {fr : Int} (d : IsDeal H q pg pt g t fr) (s : Sm Z H H') : IsDeal H' q pg pt g t fr := ⟨s _ _ d.1, s _ _ d.2.1, s _ _ d.2.2⟩
def spDeal : Sp := fun vs H Q _ => ∃ (q pg pt : Addr) (g : List Int) (t : List Nat) (fr seats : Int), vs = [.ref q, .int g.length, .int seats] ∧ IsDeal H q pg pt g t fr ∧ DealOk g t fr seats ∧ Q (.bl true) H
def spVotes (K : PySem.W.Frag) : Sp := fun vs H Q _ => ∃ (a : Addr) (cs : List Int) (x : Int), vs = [.ref a, .int x] ∧ SqL K H a (zs cs) ∧ cs.length ≤ 61 ∧ 0 ≤ x ∧ x < 4 ∧
  ∀ p H' v, Same H H' → H p = none → H' p = some (.lst (zs v)) → VOk v → 0 < v.sum → v.length ≤ cs.length + 1 → Q (.ref p) H'
/-- the deal by divisors -/
def spDiv (K : PySem.W.Frag) (Z : Tabs) (C : Addr) : Sp := fun vs H Q E => ∃ (a : Addr) (v : List Int) (n f s : Int), vs = [.ref a, .int n, .int f, .int s] ∧ SqL K H a (zs v) ∧ VOk v ∧ 0 ≤ n ∧ n ≤ 1000 ∧ Dv f ∧ Dv s ∧ TabsOk Z H ∧
  (0 < v.sum → ∀ q pg pt g t fr H', Sm Z H H' → IsDeal H' q pg pt g t fr → MD.Deal f s v (v.map fun _ => 0) n g t fr → Q (.ref q) H') ∧ (v.sum ≤ 0 → ∀ H', Sm Z H H' → E (.ref C) none H')
/-- the deal by what is left over -/
def spBy (K : PySem.W.Frag) (Z : Tabs) (C : Addr) : Sp := fun vs H Q E => ∃ (a : Addr) (v : List Int) (n : Int), vs = [.ref a, .int n] ∧ SqL K H a (zs v) ∧ VOk v ∧ 0 ≤ n ∧ n ≤ 1000 ∧ TabsOk Z H ∧
  (0 < v.sum → ∀ q pg pt D H', Sm Z H H' → MR.Desc D (MR.parts v n v.sum) → IsDeal H' q pg pt (MR.givenBy v n v.sum (MR.served v n v.sum D).1) (MR.tiedOf v n v.sum (MR.served v n v.sum D).2.1) (MR.served v n v.sum D).2.2 → Q (.ref q) H') ∧ (v.sum ≤ 0 → ∀ H', Sm Z H H' → E (.ref C) none H')
theorem fine_of {f s : Int} {v : List Int} (hf : Dv f) (hs : Dv s) (hv : VOk v) (hp : 0 < v.sum) : MD.Fine f s v := by
  refine ⟨hf.1, hs.1, hv.nonneg, ?_⟩
  refine Classical.byContradiction fun hn => ?_
  have z : ∀ c ∈ v, c = 0 := fun c hc => by
    obtain ⟨i, hi, e⟩ := List.mem_iff_getElem.mp hc
    have h0 := hv.nonneg c hc
    have : MD.at_ v i = c := MR.at_get (by rw [List.getElem?_eq_getElem hi, e])
    refine Int.le_antisymm (Int.le_of_not_gt fun hlt => hn ⟨i, hi, by omega⟩) h0
  have : v.sum = 0 := by
    clear hn hp hv
    induction v with
    | nil => rfl
    | cons a r ih =>
      rw [List.sum_cons, z a List.mem_cons_self, ih fun c hc => z c (List.mem_cons_of_mem _ hc)]; rfl
  omega
theorem dealOk_of {f s n : Int} {v g : List Int} {t : List Nat} {r : Int} (D : MD.DealOk f s v n g t r) : DealOk g t r n := by
  refine ⟨fun x hx => ?_, by have := D.all; omega, D.rise, fun j hj => by rw [D.len]; exact D.inn j hj, D.free⟩
  obtain ⟨i, hi, e⟩ := List.mem_iff_getElem.mp hx
  have := D.pos i (by rw [← D.len]; exact hi)
  rw [MR.at_get (by rw [List.getElem?_eq_getElem hi, e])] at this
  exact this
end LC
end

section
set_option Elab.async false
set_option linter.all false
set_option maxRecDepth 100000
set_option maxHeartbeats 4000000
namespace LC
open PySem L2
def spRoom (K : PySem.W.Frag) : Sp := fun vs H Q _ => ∃ (a : Addr) (ns : List Int) (m b : Int), vs = [.ref a, .int m, .int b] ∧ SqL K H a (zs ns) ∧ ns.length ≤ 63 ∧ Q (.int m) H
theorem Dv.big {f : Int} (h : Dv f) : Big f := ⟨by have := h.1; omega, by have := h.2; omega⟩
theorem VOk.at {v : List Int} (h : VOk v) (i : Nat) (hi : i < v.length) : 0 ≤ MD.at_ v i ∧ MD.at_ v i ≤ 10 ^ 80 := by
  have : MD.at_ v i ∈ v := by unfold MD.at_; simp [List.getD, hi]
  exact ⟨h.nonneg _ this, h.big _ this⟩
theorem _root_.And.big {c : Int} (h : 0 ≤ c ∧ c ≤ 10 ^ 80) : Big c := ⟨by omega, by omega⟩
theorem small_big {x : Int} (h0 : 0 ≤ x) (h1 : x ≤ 1000) : Big x := ⟨by omega, by omega⟩
theorem small_big' {x : Int} (h0 : 0 ≤ x) (h1 : x ≤ 1000) : Big (x - 1) := ⟨by omega, by omega⟩
theorem prod_le {s x : Int} (hs : Dv s) (h0 : -1 ≤ x) (h1 : x ≤ 1000) : -(10 ^ 21) ≤ s * x ∧ s * x ≤ 10 ^ 24 := by
  obtain ⟨a, b⟩ := hs
  constructor
  · have : s * (-1) ≤ s * x := Int.mul_le_mul_of_nonneg_left h0 (by omega)
    omega
  · have h2 : s * x ≤ s * 1000 := Int.mul_le_mul_of_nonneg_left h1 (by omega)
    omega
theorem divs {f s x : Int} (hf : Dv f) (hs : Dv s) (h0 : 0 ≤ x) (h1 : x ≤ 1000) : Big (s * x) ∧ Big (f + s * x) := by
  have := prod_le hs (show -1 ≤ x by omega) h1
  obtain ⟨a, b⟩ := hf
  exact ⟨⟨by omega, by omega⟩, ⟨by omega, by omega⟩⟩
theorem divs' {f s x : Int} (hf : Dv f) (hs : Dv s) (h0 : 0 ≤ x) (h1 : x ≤ 1000) : Big (s * (x - 1)) ∧ Big (f + s * (x - 1)) := by
  have := prod_le hs (show -1 ≤ x - 1 by omega) (by omega)
  obtain ⟨a, b⟩ := hf
  exact ⟨⟨by omega, by omega⟩, ⟨by omega, by omega⟩⟩
def spWorthy (K : PySem.W.Frag) : Sp := fun vs H Q _ => ∃ (a q pg pt : Addr) (v g : List Int) (t : List Nat) (fr f s : Int), vs = [.ref a, .ref q, .int f, .int s] ∧ SqL K H a (zs v) ∧ IsDeal H q pg pt g t fr ∧ VOk v ∧ g.length = v.length ∧
  (∀ i, i < v.length → 0 ≤ MD.at_ g i ∧ MD.at_ g i ≤ 1000) ∧ Dv f ∧ Dv s ∧ (∀ j k, j < v.length → k < v.length → 0 < MD.at_ g j → MD.at_ v k * (f + s * (MD.at_ g j - 1)) < MD.at_ v j * (f + s * MD.at_ g k)) ∧ Q (.bl true) H
theorem le_sum {g : List Int} (h : ∀ x ∈ g, 0 ≤ x) {i : Nat} (hi : i < g.length) : 0 ≤ MD.at_ g i ∧ MD.at_ g i ≤ g.sum := by
  have : MD.at_ g i ∈ g := by unfold MD.at_; simp [List.getD, hi]
  exact ⟨h _ this, MR.mem_le_sum h _ this⟩
theorem deal_bounds {f s n : Int} {v g : List Int} {t : List Nat} {r : Int} (D : MD.DealOk f s v n g t r) (hn : n ≤ 1000) : ∀ i, i < v.length → 0 ≤ MD.at_ g i ∧ MD.at_ g i ≤ 1000 := fun i hi => by
  have d := dealOk_of D
  have b := le_sum d.nonneg (i := i) (by rw [D.len]; exact hi)
  have := D.all
  have r0 : 0 ≤ r := by rcases D.free with ⟨z, _⟩ | ⟨z, _⟩ <;> omega
  omega
end LC
namespace LC
open PySem L2
theorem some_of (x : Int) : ∃ c : Int, 1 + x % 100 = c ∧ 1 ≤ c ∧ c ≤ 100 := ⟨_, rfl, by have := Int.emod_nonneg x (by decide : (100 : Int) ≠ 0); omega, by have := Int.emod_lt_of_pos x (by decide : (0 : Int) < 100); omega⟩
theorem pick6 (x : Int) (h0 : 0 ≤ x) (h6 : x < 6) {c : Int} (h1 : 1 ≤ c) (h2 : c ≤ 100) : ∃ f : Int, atI [V.int 1, V.int 2, V.int 3, V.int 4, V.int c, V.int (100000000000000000000 + c)] x = some (.int f) ∧ Dv f := by
  have : x = 0 ∨ x = 1 ∨ x = 2 ∨ x = 3 ∨ x = 4 ∨ x = 5 := by omega
  rcases this with rfl | rfl | rfl | rfl | rfl | rfl
  · exact ⟨1, rfl, by decide, by decide⟩
  · exact ⟨2, rfl, by decide, by decide⟩
  · exact ⟨3, rfl, by decide, by decide⟩
  · exact ⟨4, rfl, by decide, by decide⟩
  · exact ⟨c, rfl, by omega, by omega⟩
  · exact ⟨100000000000000000000 + c, rfl, by omega, by omega⟩
theorem pick5 (x : Int) (h0 : 0 ≤ x) (h5 : x < 5) {c : Int} (h1 : 1 ≤ c) (h2 : c ≤ 100) : ∃ f : Int, atI [V.int 1, V.int 2, V.int 3, V.int c, V.int (100000000000000000000 + c)] x = some (.int f) ∧ Dv f := by
  have : x = 0 ∨ x = 1 ∨ x = 2 ∨ x = 3 ∨ x = 4 := by omega
  rcases this with rfl | rfl | rfl | rfl | rfl
  · exact ⟨1, rfl, by decide, by decide⟩
  · exact ⟨2, rfl, by decide, by decide⟩
  · exact ⟨3, rfl, by decide, by decide⟩
  · exact ⟨c, rfl, by omega, by omega⟩
  · exact ⟨100000000000000000000 + c, rfl, by omega, by omega⟩
def spWorths (K : PySem.W.Frag) : Sp := fun vs H Q _ => ∃ (a pg : Addr) (v g : List Int) (j k : Nat) (f s : Int), vs = [.ref a, .ref pg, .int (j : Int), .int (k : Int), .int f, .int s] ∧ SqL K H a (zs v) ∧ SqL K H pg (zs g) ∧ VOk v ∧ g.length = v.length ∧ j < v.length ∧ k < v.length ∧
  (∀ i, i < v.length → 0 ≤ MD.at_ g i ∧ MD.at_ g i ≤ 1000) ∧ Dv f ∧ Dv s ∧ ∀ T, H T = none → Q (.ref T) (upd H T (.tup [.int (MD.at_ v j * (f + s * MD.at_ g k)), .int (MD.at_ v k * (f + s * (MD.at_ g j - 1)))]))
def spLaw (K : PySem.W.Frag) (Z : Tabs) : Sp := fun vs H Q _ => ∃ (a : Addr) (ns : List Int), vs = [.ref a] ∧ SqL K H a (zs ns) ∧ ns.length ≤ 63 ∧ TabsOk Z H ∧ ∀ H', Q (.bl true) H'
end LC
namespace LC
open PySem L2
def spFair (K : PySem.W.Frag) : Sp := fun vs H Q _ => ∃ (a q pg pt : Addr) (v g : List Int) (t : List Nat) (fr : Int), vs = [.ref a, .ref q] ∧ SqL K H a (zs v) ∧ IsDeal H q pg pt g t fr ∧ v.length < 64 ∧ g.length = v.length ∧ MD.Fair v g t ∧ Q (.bl true) H
theorem rem_len {v : List Int} {n T : Int} {s : List Int} : (MR.givenBy v n T s).length = v.length := by unfold MR.givenBy; rw [List.length_map]
theorem dealOk_rem {v D : List Int} {n : Int} (h0 : ∀ c ∈ v, 0 ≤ c) (hT : 0 < v.sum) (hn : 0 ≤ n) (hD : MR.Desc D (MR.parts v n v.sum)) :
    DealOk (MR.givenBy v n v.sum (MR.served v n v.sum D).1) (MR.tiedOf v n v.sum (MR.served v n v.sum D).2.1) (MR.served v n v.sum D).2.2 n := by
  have ok := MR.served_ok v n v.sum D rfl hT hD
  refine ⟨fun x hx => ?_, ?_, ?_, fun j hj => ?_, ?_⟩
  · unfold MR.givenBy at hx
    obtain ⟨c, hc, rfl⟩ := List.mem_map.mp hx
    have h1 := (MR.whole_bound hT hn (h0 c hc) (MR.mem_le_sum h0 c hc)).1
    rcases MR.bonus_or (MR.served v n v.sum D).1 (c * n % v.sum) with ⟨e, _⟩ | ⟨e, _⟩ <;> rw [e] <;> omega
  · rw [MR.given_sum]
    have := ok.tot
    unfold MR.free0 at this
    omega
  · cases e : (MR.served v n v.sum D).2.1 with
    | none => exact List.Pairwise.nil
    | some m => exact MR.places_rise m _
  · have hl : (MR.givenBy v n v.sum (MR.served v n v.sum D).1).length = (MR.parts v n v.sum).length := by unfold MR.givenBy MR.parts; rw [List.length_map, List.length_map]
    rw [hl]
    cases e : (MR.served v n v.sum D).2.1 with
    | none => rw [e] at hj; cases hj
    | some m => rw [e] at hj; exact MR.places_lt hj
  · cases e : (MR.served v n v.sum D).2.1 with
    | none => exact .inl ⟨ok.non e, rfl⟩
    | some m =>
      obtain ⟨h1, h2, _⟩ := ok.tie m e
      refine .inr ⟨h1, ?_⟩
      show _ < ((MR.places m (MR.parts v n v.sum)).length : Int)
      rw [MR.places_len]
      exact h2
end LC
end

section
set_option Elab.async false
set_option linter.all false
set_option maxRecDepth 100000
set_option maxHeartbeats 4000000
namespace LC
open PySem L2
/-- one of the two ways' deals -/
def Dealt (x f s : Int) (v : List Int) (n : Int) (g : List Int) (t : List Nat) (fr : Int) : Prop :=
  (x = 0 ∧ ∃ D, MR.Desc D (MR.parts v n v.sum) ∧ g = MR.givenBy v n v.sum (MR.served v n v.sum D).1 ∧ t = MR.tiedOf v n v.sum (MR.served v n v.sum D).2.1 ∧ fr = (MR.served v n v.sum D).2.2) ∨ (x = 1 ∧ MD.Deal f s v (v.map fun _ => 0) n g t fr)
def spDealt (K : PySem.W.Frag) (Z : Tabs) : Sp := fun vs H Q _ => ∃ (x : Int) (a : Addr) (v : List Int) (n f s : Int), vs = [.int x, .ref a, .int n, .int f, .int s] ∧ SqL K H a (zs v) ∧ VOk v ∧ 0 ≤ n ∧ n ≤ 1000 ∧ Dv f ∧ Dv s ∧ (x = 0 ∨ x = 1) ∧ TabsOk Z H ∧
  (0 < v.sum → ∀ q pg pt g t fr H', Sm Z H H' → IsDeal H' q pg pt g t fr → Dealt x f s v n g t fr → Q (.ref q) H') ∧ (v.sum ≤ 0 → ∀ T H', Sm Z H H' → H' T = some (.tup [.str "refused"]) → Q (.ref T) H')
theorem VOk.rev {v : List Int} (h : VOk v) : VOk v.reverse := ⟨by rw [List.length_reverse]; exact h.few, by rw [MR.sum_rev]; exact h.log, fun c hc => h.nonneg c (List.mem_reverse.mp hc), fun c hc => h.big c (List.mem_reverse.mp hc)⟩
/-- the other order's deal is the same one turned round -/
theorem dealt_rev {x f s n : Int} {v g g2 : List Int} {t t2 : List Nat} {fr fr2 : Int} (hv : VOk v) (d : Dealt x f s v n g t fr) (d2 : Dealt x f s v.reverse n g2 t2 fr2) : g2 = g.reverse ∧ t2 = MD.turned v.length t ∧ fr2 = fr := by
  rcases d with ⟨e, D, hD, rfl, rfl, rfl⟩ | ⟨e, d⟩
  · rcases d2 with ⟨_, D2, hD2, rfl, rfl, rfl⟩ | ⟨e2, _⟩
    · rw [MR.sum_rev] at hD2 ⊢
      rw [MR.parts_rev, MR.desc_rev] at hD2
      rw [hD2.unique hD, MR.served_rev, MR.given_rev, MR.tied_rev]
      exact ⟨rfl, rfl, rfl⟩
    · omega
  · rcases d2 with ⟨e2, _⟩ | ⟨_, d2⟩
    · omega
    · have r := MD.deal_rev d (List.length_map _)
      rw [← List.map_reverse] at r
      obtain ⟨a, b, c⟩ := MD.deal_unique r d2
      exact ⟨a.symm, b.symm, c.symm⟩
theorem dealt_ok {x f s n : Int} {v g : List Int} {t : List Nat} {fr : Int} (hv : VOk v) (hp : 0 < v.sum) (hn : 0 ≤ n) (hf : Dv f) (hs : Dv s) (d : Dealt x f s v n g t fr) : DealOk g t fr n ∧ g.length = v.length ∧ (x = 1 → MD.DealOk f s v n g t fr) := by
  rcases d with ⟨e, D, hD, rfl, rfl, rfl⟩ | ⟨e, d⟩
  · exact ⟨dealOk_rem hv.nonneg hp hn hD, rem_len, fun z => by omega⟩
  · have D := MD.deal_ok (fine_of hf hs hv hp) d MD.fit_zeros
    rw [MD.sum_zeros, Int.zero_add] at D
    exact ⟨dealOk_of D, D.len, fun _ => D⟩
theorem dealOk_turn {g : List Int} {t : List Nat} {fr n : Int} (h : DealOk g t fr n) : DealOk g.reverse (MD.turned g.length t) fr n := by
  refine ⟨fun x hx => h.nonneg x (List.mem_reverse.mp hx), by rw [MR.sum_rev]; exact h.tot, ?_, fun j hj => ?_, ?_⟩
  · unfold MD.turned
    rw [List.pairwise_map, List.pairwise_reverse]
    refine h.rise.imp_of_mem fun {a b} ha hb hab => ?_
    have := h.lt a ha
    have := h.lt b hb
    omega
  · unfold MD.turned at hj
    obtain ⟨k, hk, rfl⟩ := List.mem_map.mp hj
    have := h.lt k (List.mem_reverse.mp hk)
    rw [List.length_reverse]
    omega
  · rcases h.tie with ⟨a, b⟩ | ⟨a, b⟩
    · exact .inl ⟨a, by rw [b]; rfl⟩
    · exact .inr ⟨a, by rw [MD.turned_len]; exact b⟩
theorem rdvs_nats {K : PySem.W.Frag} {H : Hp} : ∀ t : List Nat, RdVs K H (nats t) ((t.map Int.ofNat).map PyData.int)
  | [] => .nil
  | n :: r => .cons (.int (n : Int)) (rdvs_nats r)
theorem rd_deal {K : PySem.W.Frag} {H : Hp} {q pg pt : Addr} {g : List Int} {t : List Nat} {fr : Int} (h1 : H q = some (.tup [.ref pg, .ref pt, .int fr])) (h2 : H pg = some (.lst (zs g))) (h3 : H pt = some (.lst (nats t))) :
    RdV K H (.ref q) (dealD g (t.map Int.ofNat) fr) :=
  .tup (SqT.of h1) (.cons (.lst (SqL.of h2) (rdvs_ints g)) (.cons (.lst (SqL.of h3) (rdvs_nats t)) (.cons (.int fr) .nil)))
theorem rd_one {K : PySem.W.Frag} {H : Hp} {q : Addr} {x : Str} (h : H q = some (.tup [.str x])) : RdV K H (.ref q) (oneD x) := .tup (SqT.of h) (.cons (.str x) .nil)
def onInt (f : Int → Int) : V → V
  | .int c => .int (f c)
  | y => y
theorem map_onInt (f : Int → Int) (v : List Int) : (zs v).map (onInt f) = zs (v.map f) := by
  unfold zs
  rw [List.map_map, List.map_map]
  rfl
theorem turned_nats {n : Nat} {t : List Nat} (h : ∀ j ∈ t, j < n) : (nats t).reverse.map (onInt fun c => (n : Int) - 1 - c) = nats (MD.turned n t) := by
  unfold nats MD.turned
  rw [← List.map_reverse, List.map_map, List.map_map]
  refine List.map_congr_left fun j hj => ?_
  have := h j (List.mem_reverse.mp hj)
  show V.int ((n : Int) - 1 - (j : Int)) = V.int (((n - 1 - j : Nat) : Int))
  congr 1
  omega
theorem rise_len : ∀ (t : List Nat) (m n : Nat), t.Pairwise (· < ·) → (∀ j ∈ t, m ≤ j ∧ j < n) → t.length ≤ n - m
  | [], _, _, _, _ => Nat.zero_le _
  | a :: r, m, n, hp, h => by
    obtain ⟨h1, h2⟩ := List.pairwise_cons.mp hp
    have ha := h a List.mem_cons_self
    have ih := rise_len r (a + 1) n h2 fun j hj => ⟨h1 j hj, (h j (List.mem_cons_of_mem _ hj)).2⟩
    rw [List.length_cons]
    omega
end LC
namespace L2
open PySem
/-- [te for x in reversed(xs)] of a list that stays, te without a trace -/
theorem comp_mapV {K : PySem.W.Frag} {a p : Addr} {xs : List V} {te : TE} {σc : St} {H1 : Hp} {Q : Hp → Prop} {j : Nat} (f : V → V) (hp : H1 p = none) (hS : SqL K H1 a xs) (hz : xs.length ≤ sizeLine)
    (he : ∀ (i : Nat) (x : V) (ys : List V) (R : VK), xs.reverse[i]? = some x → R (f x) (upd H1 p (.lst ys)) → te (σc.set j (some x)) (upd H1 p (.lst ys)) R)
    (hQ : Q (upd H1 p (.lst (xs.reverse.map f)))) : CompW (Itv K a xs) (gName j) tYes te p σc H1 Q := by
  have hl : xs.reverse.length = xs.length := List.length_reverse
  refine ⟨fun i m σ' ys H => m = xs.length - i ∧ i ≤ xs.length ∧ (∀ o, σ'.set j o = σc.set j o) ∧ ys = (xs.reverse.take i).map f ∧ H = upd H1 p (.lst ys), ⟨_, rfl, Nat.zero_le _, fun _ => rfl, by simp, rfl⟩, ?_⟩
  rintro i m σ' ys H ⟨rfl, hi, hσ, rfl, rfl⟩
  have q : SqL K (upd H1 p (.lst ((xs.reverse.take i).map f))) a xs := (same_upd hp).seq hS
  by_cases hlt : i < xs.length
  · refine .inr ⟨⟨q, hlt⟩, fun σ2 ys' H' => (∀ o, σ2.set j o = σc.set j o) ∧ ys' = (xs.reverse.take (i + 1)).map f ∧ H' = upd H1 p (.lst ys'), fun σ2 ys' H' ⟨a1, a2, a3⟩ => ⟨xs.length - (i + 1), by omega, rfl, hlt, a1, a2, a3⟩, fun x H' y => ?_⟩
    obtain ⟨e, hx⟩ := y
    subst e
    dsimp only [gName, tYes]
    rw [if_pos rfl, hσ]
    refine he i x _ _ hx ⟨(xs.reverse.take i).map f, upd_same, ?_, fun o => set_set, ?_, ?_⟩
    · rw [List.length_map, List.length_take]; omega
    · rw [List.take_add_one, hx]; simp
    · rw [upd_upd]
  · have e : i = xs.length := by omega
    subst e
    refine .inl ⟨Nat.le_refl _, ?_⟩
    rw [← hl, List.take_length]
    exact hQ
end L2
end

section
set_option Elab.async false
set_option linter.all false
set_option maxRecDepth 100000
set_option maxHeartbeats 4000000
namespace L2
open PySem PySem.Spec PyProof.Rows
theorem for_rev {K : PySem.W.Frag} {a : Addr} {xs : List V} {g : TG} {tb : TS} {D : Ends} {σ : St} {H : Hp} (Pv : Nat → St → Hp → Prop) (h0 : Pv 0 σ H) (hl : ∀ i σ H, i ≤ xs.length → Pv i σ H → SqL K H a xs)
    (hs : ∀ i x σ H, xs.reverse[i]? = some x → Pv i σ H → g x σ H fun σ2 H2 => tb { D with nx := Pv (i + 1), ct := Pv (i + 1), bk := D.nx } σ2 H2) (hd : ∀ σ H, Pv xs.length σ H → D.nx σ H) :
    ∃ W : Nat → Nat → St → Hp → Prop, (∃ m, W 0 m σ H) ∧ ∀ i m σ H, W i m σ H →
      ((Itv K a xs).stop i H ∧ D.nx σ H) ∨ ((Itv K a xs).go i H ∧ ∃ N : St → Hp → Prop, (∀ σ' H', N σ' H' → ∃ m', m' < m ∧ W (i + 1) m' σ' H') ∧ ∀ x H', (Itv K a xs).yld i H x H' → g x σ H' fun σ2 H2 => tb { D with nx := N, ct := N, bk := D.nx } σ2 H2) := by
  refine ⟨fun i m σ H => m = xs.length - i ∧ i ≤ xs.length ∧ Pv i σ H, ⟨xs.length, by simp, Nat.zero_le _, h0⟩, ?_⟩
  rintro i m σ H ⟨rfl, hi, p⟩
  have q := hl i σ H hi p
  by_cases hlt : i < xs.length
  · refine .inr ⟨⟨q, hlt⟩, Pv (i + 1), fun σ' H' p' => ⟨xs.length - (i + 1), by omega, rfl, hlt, p'⟩, fun x H' y => ?_⟩
    obtain ⟨e, y⟩ := y
    subst e
    exact hs i x σ _ y p
  · have e : i = xs.length := by omega
    subst e
    exact .inl ⟨Nat.le_refl _, hd σ H p⟩
end L2
namespace LC
open PySem L2
def spAll (K : PySem.W.Frag) (C : Addr) : Sp := fun vs H Q E => ∃ (a : Addr) (v : List Int), vs = [.ref a] ∧ SqL K H a (zs v) ∧ (0 < v.sum → Q (.int v.sum) H) ∧ (v.sum ≤ 0 → E (.ref C) none H)
def spWhole (K : PySem.W.Frag) (C : Addr) : Sp := fun vs H Q E => ∃ (a : Addr) (v : List Int) (n : Int), vs = [.ref a, .int n] ∧ SqL K H a (zs v) ∧ VOk v ∧ Small n ∧
  (0 < v.sum → ∀ p, H p = none → Q (.ref p) (upd H p (.lst (zs (MR.wholes v n v.sum))))) ∧ (v.sum ≤ 0 → E (.ref C) none H)
def spLeft (K : PySem.W.Frag) (C : Addr) : Sp := fun vs H Q E => ∃ (a : Addr) (v : List Int) (n : Int), vs = [.ref a, .int n] ∧ SqL K H a (zs v) ∧ VOk v ∧ Small n ∧
  (0 < v.sum → ∀ p, H p = none → Q (.ref p) (upd H p (.lst (zs (MR.parts v n v.sum))))) ∧ (v.sum ≤ 0 → E (.ref C) none H)
def spPlaces (K : PySem.W.Frag) : Sp := fun vs H Q _ => ∃ (a : Addr) (ps : List Int) (m : Int), vs = [.int m, .ref a] ∧ SqL K H a (zs ps) ∧ ps.length < 64 ∧ ∀ p H', H p = none → Same H H' → H' p = some (.lst (nats (MR.places m ps))) → Q (.ref p) H'
theorem enum_places (m : Int) : ∀ (ps : List Int) (i : Nat), enumTail (fun _ x => decide (x = V.int m)) (fun j _ => V.int j) (zs ps) i = nats (MR.placesFrom m ps i)
  | [], _ => rfl
  | p :: r, i => by
    have ih := enum_places m r (i + 1)
    show (if decide (V.int p = V.int m) = true then _ else _) = _
    unfold MR.placesFrom
    by_cases h : p = m
    · have e : decide (V.int p = V.int m) = true := by simp [h]
      rw [if_pos e, if_pos h, ih]; rfl
    · have e : decide (V.int p = V.int m) = false := by simp [h]
      rw [if_neg (by rw [e]; simp), if_neg h, ih]
end LC
end

section
set_option Elab.async false
set_option linter.all false
set_option maxRecDepth 100000
set_option maxHeartbeats 4000000
namespace LC
open PySem L2
/-! promises of the landed defs -/
def spOne (K : PySem.W.Frag) : Sp := fun vs H Q _ => ∃ (a b : Addr) (g : List Int) (t : List Nat), vs = [.ref a, .ref b] ∧ SqL K H a (zs g) ∧ SqL K H b (nats t) ∧ g.length < 64 ∧
  ∀ p H', H p = none → Same H H' → H' p = some (.lst (zs (MD.oneEach g t))) → Q (.ref p) H'
/-- the rounds: G what holds of the seats and of what is left, best whose turn it is, spF the promise of the def that tells it -/
def spRounds (fl : Addr) (fdl : FuncData) (spF : Sp) (best : List Int → List Nat) (G : List Int → Int → Prop) : Sp := fun vs H Q _ => ∃ (a : Addr) (g0 : List Int) (n : Int), vs = [.ref a, .int n, .ref fl] ∧ H a = some (.lst (zs g0)) ∧ LamAt H fl fdl ∧ G g0 n ∧
  (∀ g r, G g r → 0 ≤ r ∧ g.length < 64 ∧ (0 < r → best g ≠ [] ∧ (best g).length < 64 ∧ (((best g).length : Int) ≤ r → G (MD.oneEach g (best g)) (r - (best g).length)))) ∧
  (∀ g r pg H' (Q' : VK), G g r → 0 < r → Same H H' → H' pg = some (.lst (zs g)) → (∀ pl H'', Same H' H'' → H'' pl = some (.lst (nats (best g))) → Q' (.ref pl) H'') → spF [.ref pg] H' Q' E0) ∧
  ∀ q pg pt g t fr H', Same H H' → MD.Rnd best g0 n g t fr → IsDeal H' q pg pt g t fr → Q (.ref q) H'
def spRefuse (K : PySem.W.Frag) (C : Addr) : Sp := fun vs H Q E => ∃ (a : Addr) (v : List Int), vs = [.ref a] ∧ SqL K H a (zs v) ∧ (∀ c ∈ v, 0 ≤ c) ∧ (0 < v.sum → Q .non H) ∧ (v.sum ≤ 0 → E (.ref C) none H)
def spGreat (K : PySem.W.Frag) : Sp := fun vs H Q _ => ∃ (a d : Addr) (v g : List Int) (f s : Int), vs = [.ref a, .ref d] ∧ SqL K H a (zs v) ∧ SqL K H d (zs (g.map fun c => f + s * c)) ∧ VOk v ∧ 0 < v.sum ∧ Dv f ∧ Dv s ∧ g.length = v.length ∧ (∀ i, i < v.length → 0 ≤ MD.at_ g i ∧ MD.at_ g i ≤ 1000) ∧
  ∀ p H', Same H H' → H' p = some (.lst (nats (MD.tops f s v g))) → Q (.ref p) H'
def spDivs (K : PySem.W.Frag) : Sp := fun vs H Q _ => ∃ (a : Addr) (g : List Int) (f s : Int), vs = [.ref a, .int f, .int s] ∧ SqL K H a (zs g) ∧ g.length < 64 ∧ Dv f ∧ Dv s ∧ (∀ i, i < g.length → 0 ≤ MD.at_ g i ∧ MD.at_ g i ≤ 1000) ∧
  ∀ p, H p = none → Q (.ref p) (upd H p (.lst (zs (g.map fun c => f + s * c))))
/-- the lambda of by_divisors -/
def spTurnD (K : PySem.W.Frag) (fl : Addr) (fdl : FuncData) (a : Addr) (v : List Int) (f s : Int) : Sp := fun vs H Q _ => LamAt H fl fdl ∧ ∃ (pg : Addr) (g : List Int), vs = [.ref pg] ∧ SqL K H a (zs v) ∧ H pg = some (.lst (zs g)) ∧ g.length = v.length ∧ (∀ i, i < v.length → 0 ≤ MD.at_ g i ∧ MD.at_ g i ≤ 1000) ∧
  ∀ p H', Same H H' → H' p = some (.lst (nats (MD.tops f s v g))) → Q (.ref p) H'
def spMost (K : PySem.W.Frag) : Sp := fun vs H Q _ => ∃ (pp pw pg : Addr) (ps W g : List Int), vs = [.ref pp, .ref pw, .ref pg] ∧ SqL K H pp (zs ps) ∧ SqL K H pw (zs W) ∧ SqL K H pg (zs g) ∧ ps.length = g.length ∧ W.length = g.length ∧ g.length < 64 ∧ MR.turn ps W g ≠ [] ∧
  ∀ p H', Same H H' → H' p = some (.lst (nats (MR.turn ps W g))) → Q (.ref p) H'
/-- the lambda of by_remainders -/
def spTurnR (K : PySem.W.Frag) (fl : Addr) (fdl : FuncData) (pp pw : Addr) (ps W : List Int) : Sp := fun vs H Q _ => LamAt H fl fdl ∧ ∃ (pg : Addr) (g : List Int), vs = [.ref pg] ∧ SqL K H pp (zs ps) ∧ SqL K H pw (zs W) ∧ H pg = some (.lst (zs g)) ∧ ps.length = g.length ∧ W.length = g.length ∧ g.length < 64 ∧ MR.turn ps W g ≠ [] ∧
  ∀ p H', Same H H' → H' p = some (.lst (nats (MR.turn ps W g))) → Q (.ref p) H'
theorem max_sum {v : List Int} {M : Int} (h : MaxD v 0 M) (h0 : ∀ c ∈ v, 0 ≤ c) : M ≤ 0 ↔ v.sum ≤ 0 := by
  rcases h with ⟨rfl, rfl⟩ | ⟨h1, h2⟩
  · simp
  · constructor
    · intro hm
      have z := MR.sum_bound v 0 fun c hc => ⟨h0 c hc, Int.le_trans (h2 c hc) hm⟩
      rw [Int.mul_zero] at z
      exact z.2
    · intro hs
      have := MR.mem_le_sum h0 M h1
      omega
/-- a measure: what is left -/
def leftAt (i : Nat) (σ : St) : Nat := match (σ[i]? : Option (Option V)) with
  | some (some (V.int r)) => r.toNat
  | _ => 0
def oneV (t : List Nat) (i : Nat) : V → V
  | .int c => .int (if i ∈ t then c + 1 else c)
  | x => x
/-- at a place -/
def onNat (f : Nat → Int) : V → V
  | .int c => .int (f c.toNat)
  | x => x
def isV (p : Int → Prop) [DecidablePred p] : V → Bool
  | .int c => decide (p c)
  | _ => false
theorem one_each_zs (g : List Int) (t : List Nat) : enumTail (fun _ _ => true) (oneV t) (zs g) 0 = zs (MD.oneEach g t) := by
  rw [enum_all]
  unfold MD.oneEach zs
  rw [List.length_map, List.map_map]
  refine List.map_congr_left fun j hj => ?_
  have hj := List.mem_range.mp hj
  have e : (g.map V.int).getD j .non = V.int (MD.at_ g j) := by
    rw [List.getD, List.getElem?_map, MR.get_at hj]; rfl
  rw [e, Nat.zero_add]
  show V.int (if j ∈ t then MD.at_ g j + 1 else MD.at_ g j) = V.int (MD.at_ g j + if j ∈ t then 1 else 0)
  congr 1
  split <;> omega
theorem enum_filter (c : Nat → V → Bool) : ∀ (xs : List V) (k : Nat), enumTail c (fun j _ => V.int (j : Int)) xs k = nats ((List.range' k xs.length).filter fun j => c j (xs.getD (j - k) .non))
  | [], _ => rfl
  | x :: r, k => by
    have e : ((List.range' k (x :: r).length).filter fun j => c j ((x :: r).getD (j - k) .non)) = if c k x = true then k :: ((List.range' (k + 1) r.length).filter fun j => c j (r.getD (j - (k + 1)) .non)) else ((List.range' (k + 1) r.length).filter fun j => c j (r.getD (j - (k + 1)) .non)) := by
      rw [List.length_cons, List.range'_succ, List.filter_cons, Nat.sub_self]
      have e2 : (List.range' (k + 1) r.length).filter (fun j => c j ((x :: r).getD (j - k) .non)) = (List.range' (k + 1) r.length).filter fun j => c j (r.getD (j - (k + 1)) .non) := by
        refine List.filter_congr fun j hj => ?_
        obtain ⟨h1, h2⟩ := List.mem_range'_1.mp hj
        rw [show j - k = (j - (k + 1)) + 1 by omega]
        rfl
      rw [e2]
      rfl
    rw [e, enumTail, enum_filter c r (k + 1)]
    split <;> rfl
theorem enum_filter0 (c : Nat → V → Bool) (xs : List V) : enumTail c (fun j _ => V.int (j : Int)) xs 0 = nats ((List.range xs.length).filter fun j => c j (xs.getD j .non)) := by
  rw [enum_filter, List.range_eq_range']
  rfl
theorem zs_getD {g : List Int} {j : Nat} (h : j < g.length) : (zs g).getD j .non = V.int (MD.at_ g j) := by
  unfold zs
  rw [List.getD, List.getElem?_map, MR.get_at h]; rfl
theorem map_at {g : List Int} {f : Int → Int} {j : Nat} (h : j < g.length) : MD.at_ (g.map f) j = f (MD.at_ g j) := MR.at_get (by rw [List.getElem?_map, MR.get_at h]; rfl)
end LC
end

section
set_option Elab.async false
set_option linter.all false
set_option maxRecDepth 100000
set_option maxHeartbeats 2000000
namespace LC
open PySem PySem.Spec PyProof.Rows L2
def numV : Value → Int
  | .int i _ => i
  | _ => 0
/-- t in the order of the lot -/
def SortOut (lot t out : List Nat) : Prop := out.Perm t ∧ out.Pairwise fun a b => lot.idxOf a ≤ lot.idxOf b
theorem idxOf_int (p : Nat) : ∀ lot : List Nat, (lot.map fun (i : Nat) => (i : Int)).idxOf (p : Int) = lot.idxOf p
  | [] => rfl
  | a :: r => by
    rw [List.map_cons, List.idxOf_cons, List.idxOf_cons, idxOf_int p r]
    by_cases e : a = p
    · subst e; simp
    · have e1 : (a == p) = false := by simpa using e
      have e2 : ((a : Int) == (p : Int)) = false := by simp; omega
      rw [e1, e2]
theorem nats_zs (t : List Nat) : nats t = (t.map fun (i : Nat) => (i : Int)).map V.int := by
  unfold nats
  rw [List.map_map]
  rfl
/-- what sorted hands back -/
theorem sort_out {lot t : List Nat} {its out : List Value} (rv : Vals (nats t) its) (h : KskOut false (t.map fun j => (lot.idxOf j : Int)) its out) : ∃ o : List Nat, SortOut lot t o ∧ Vals (nats o) out := by
  obtain ⟨ps, perm, e, srt⟩ := h
  -- each pair: a place, its value, its key
  have gen : ∀ (t : List Nat) (its : List Value), Vals (nats t) its → ∃ ts : List (Nat × Value), ts.map Prod.fst = t ∧ (t.map fun j => (lot.idxOf j : Int)).zip its = ts.map (fun p => ((lot.idxOf p.1 : Int), p.2)) ∧ ∀ p ∈ ts, RelV (.int (p.1 : Int)) p.2 := by
    intro t
    induction t with
    | nil =>
      intro its r
      exact ⟨[], rfl, by cases its <;> rfl, fun p hp => by cases hp⟩
    | cons a r ih =>
      intro its rr
      cases rr with
      | cons r1 r2 =>
        obtain ⟨ts, h1, h2, h3⟩ := ih _ r2
        exact ⟨(a, _) :: ts, by rw [List.map_cons, h1], by rw [List.map_cons, List.zip_cons_cons, h2]; rfl, fun p hp => by
          rcases List.mem_cons.mp hp with rfl | hp
          · exact r1
          · exact h3 p hp⟩
  obtain ⟨ts, h1, h2, h3⟩ := gen t its rv
  rw [h2] at perm
  -- pull the permutation back
  have back : ∀ (ps : List (Int × Value)), (∀ x ∈ ps, x ∈ ts.map (fun p => ((lot.idxOf p.1 : Int), p.2))) → ∃ us : List (Nat × Value), us.map (fun p => ((lot.idxOf p.1 : Int), p.2)) = ps ∧ ∀ p ∈ us, p ∈ ts := by
    intro ps
    induction ps with
    | nil => intro _; exact ⟨[], rfl, fun p hp => by cases hp⟩
    | cons x r ih =>
      intro hx
      obtain ⟨us, e1, e2⟩ := ih fun y hy => hx y (List.mem_cons_of_mem _ hy)
      obtain ⟨y, hy, e3⟩ := List.mem_map.mp (hx x List.mem_cons_self)
      exact ⟨y :: us, by rw [List.map_cons, e1, e3], fun p hp => by
        rcases List.mem_cons.mp hp with rfl | hp
        · exact hy
        · exact e2 p hp⟩
  obtain ⟨us, e1, e2⟩ := back ps fun x hx => perm.mem_iff.mp hx
  have num : ∀ p ∈ ts, numV p.2 = (p.1 : Int) := fun p hp => by
    obtain ⟨tk, e⟩ := h3 p hp
    rw [e]; rfl
  refine ⟨us.map Prod.fst, ⟨?_, ?_⟩, ?_⟩
  · -- the places are a permutation: they are read off the values
    have p1 : (ps.map fun x => (numV x.2).toNat).Perm ((ts.map (fun p => ((lot.idxOf p.1 : Int), p.2))).map fun x => (numV x.2).toNat) := perm.map _
    rw [← e1, List.map_map, List.map_map] at p1
    have f1 : us.map ((fun x : Int × Value => (numV x.2).toNat) ∘ fun p : Nat × Value => ((lot.idxOf p.1 : Int), p.2)) = us.map Prod.fst := List.map_congr_left fun p hp => by
      show (numV p.2).toNat = p.1
      rw [num p (e2 p hp)]; rfl
    have f2 : ts.map ((fun x : Int × Value => (numV x.2).toNat) ∘ fun p : Nat × Value => ((lot.idxOf p.1 : Int), p.2)) = ts.map Prod.fst := List.map_congr_left fun p hp => by
      show (numV p.2).toNat = p.1
      rw [num p hp]; rfl
    rw [f1, f2, h1] at p1
    exact p1
  · rw [← e1] at srt
    rw [List.pairwise_map] at srt ⊢
    refine srt.imp fun {a b} z => ?_
    have z' : (lot.idxOf a.1 : Int) ≤ (lot.idxOf b.1 : Int) := by simpa using z
    omega
  · rw [e, ← e1, List.map_map]
    unfold nats
    rw [List.map_map]
    have all : ∀ l : List (Nat × Value), (∀ p ∈ l, p ∈ ts) → Vals (l.map ((fun (i : Nat) => V.int (i : Int)) ∘ Prod.fst)) (l.map (Prod.snd ∘ fun p : Nat × Value => ((lot.idxOf p.1 : Int), p.2))) := by
      intro l
      induction l with
      | nil => intro _; exact .nil
      | cons a r ih => intro hl; exact .cons (h3 a (hl a List.mem_cons_self)) (ih fun p hp => hl p (List.mem_cons_of_mem _ hp))
    exact all us e2
section
variable {X : Cx}
def tSortKey (K : PySem.W.Frag) (i : Nat) (q : Str) (params : Arguments) (body : Expr) (scope : Scope) (clos : List (Str × Addr)) (ta tk : TA) : TE := fun σ H Q => ta σ H fun vs H1 => tk σ H1 fun zs H2 => ∃ (p l f c : Addr) (t lot : List Nat) (pm ct : Value),
  vs = [.ref p] ∧ zs = [.ref f] ∧ SqL K H2 p (nats t) ∧ σ[i]? = some (some (.ref l)) ∧ SqL K H2 l (nats lot) ∧ LamAt H2 f (lamFd q params body scope clos pm c ct) ∧ (∀ j ∈ t, j ∈ lot) ∧ t.length < 64 ∧ lot.length < 1000 ∧
  ∀ d out, H2 d = none → SortOut lot t out → Q (.ref d) (upd H2 d (.lst (nats out)))
theorem pe_sortKey {e le : Expr} {ta tk : TA} {p pos kpos p1 p2 apos cpos : Pos} {i k : Nat} {q : Str} {params : Arguments} {body : Expr} {scope : Scope} {clos : List (Str × Addr)} (hr : Room k X.A) (hg : Gl X "sorted") (hm : X.mg "sorted" = none) (ha : PA X [e] ta) (hk : PK X [⟨some "key", le, kpos⟩] tk)
    (hbody : body = .Call (.Attribute (.Name "lot" p1) "index" apos) [.Name "place" p2] [] cpos) (hN : X.N[i]? = some "lot") (hlk : X.env.scope.names.lookup ("lot" : Str) = some .cell) (hclo : clos = clo X.env.cells scope.names [])
    (h1 : scope.kind = .function) (h2 : scope.isCoroutine = false) (h3 : scope.isGenerator = false) (h4 : scope.names.lookup ("place" : Str) = some .local) (h5 : scope.names.lookup ("lot" : Str) = some .free) (h6 : ∀ z ∈ scope.names, z.2 ≠ .cell)
    (hb : ∀ (pm ct u : Value) (c : Addr), bindArgs (lamFd q params body scope clos pm c ct) ⟨[u], []⟩ = pure [(("place" : Str), u)]) (hline : (apos.endLine == cpos.line) = true)
    (hs : starEach [e] X.env = [(false, eval e X.env)] := by rfl) : PE X (.Call (.Name "sorted" p) [e] [⟨some "key", le, kpos⟩] pos) (tSortKey X.K i q params body scope clos ta tk) := by
  intro pins s σ H Q I h
  refine wpAny_Call_Name_kw (ld_blt I hg hm boot_sorted ?_)
  refine callWith_kw (thn (ha pos pins s σ H _ I h) fun us s1 ⟨vs, H1, I1, r, q1⟩ => ?_) (by rw [hs]; rfl) (by rw [hs]; rfl)
  refine thn (hk pos pins s1 σ H1 _ I1 q1) fun ws s2 ⟨zs, H2, I2, rz, q2⟩ => ?_
  obtain ⟨p, l, f, c, t, lot, pm, ct, rfl, rfl, hS, hσ, hL, la, sub, few, lfew, hQ⟩ := q2
  obtain ⟨u, rfl, ru⟩ := Vals.one r
  obtain ⟨uz, rfl, rd⟩ := Vals.one rz
  obtain rfl : u = Value.ref p := ru
  obtain rfl : uz = Value.ref f := rd
  subst hbody
  show wpAny _ _ (call (.builtin "sorted") [.ref p] [(Str.ofString "key", .ref f)]) _ _ s2
  obtain ⟨its, rv, pl, _⟩ := I2.list hS
  obtain ⟨itl, rl, pll, _⟩ := I2.list hL
  have il : IntsAre itl (lot.map fun (i : Nat) => (i : Int)) := intsAre_of (by rw [← nats_zs]; exact rl)
  obtain ⟨m, hn, hloc⟩ := I2.loc
  obtain ⟨u2, ru2, look⟩ := hloc i "lot" (.ref l) hN hσ (.inr (.inl hlk))
  obtain rfl : u2 = Value.ref l := ru2
  have look' : ∃ cl, X.env.cells.lookup ("lot" : Str) = some cl ∧ s2.heap.IsCell cl (some (.ref l)) := by
    rcases look with ⟨z, _⟩ | ⟨_, cl, z1, z2⟩
    · have z' : X.env.scope.names.lookup ("lot" : Str) = some .local := z
      rw [hlk] at z'; cases z'
    · exact ⟨cl, z1, z2⟩
  obtain ⟨cl, hcl, hcell⟩ := look'
  have hclos : clos.lookup ("lot" : Str) = some cl := by
    rw [hclo]
    have := clo_in (cells := X.env.cells) (acc := []) (x := "lot") (.inl (PySem.mem_of_lookup h5))
    rw [hcl] at this
    exact this
  have tl : (nats t).length = t.length := by unfold nats; rw [List.length_map]
  have hlen : its.length = t.length := by rw [← rv.length, tl]
  have fo := la.fn I2.hok
  have co := la.code I2.hok
  have neL : ∀ {b : Addr} {o : Obj}, s2.heap.get? b = some o → (∀ es n, o.data ≠ .dict es n) → b ≠ X.env.locals := fun {b o} e d z => by
    obtain ⟨o', es, ep, e', d', _⟩ := hn
    rw [z, e'] at e
    cases e
    exact d es ep d'
  refine ksk_sorted (h₀ := Att.noObjs s2.heap) (L := X.env.locals) (m := m) (news := allNews (Att.noObjs s2.heap) s2.heap X.env.locals) (b := false) (vs := its) (kz := t.map fun j => (lot.idxOf j : Int)) (f := .ref f) (Att.fr_all hn) news_all pl.isList (by rw [List.length_map, hlen]) (by omega)
    (ksk_s1 _ _) (fun _ => ksk_l1 _ _) (fun x => ksk_t1 f x) ?_ ?_
  · intro j v k hv hk h tk own F N
    have kp : ∀ b o, b ≠ X.env.locals → s2.heap.get? b = some o → h.get? b = some o := fun b o hb e => (N (b, o) (List.mem_append_left _ (mem_allNews hb (Att.noObjs_get _ _) e))).1
    have hj : j < t.length := by
      rcases Nat.lt_or_ge j t.length with z | z
      · exact z
      · rw [List.getElem?_eq_none (by omega)] at hv; cases hv
    have hx : (nats t)[j]? = some (.int (t[j] : Int)) := by unfold nats; rw [List.getElem?_map, List.getElem?_eq_getElem hj]; rfl
    obtain ⟨u3, e3, r3⟩ := rv.get hx
    rw [hv] at e3
    cases e3
    obtain ⟨tok, rfl⟩ := r3
    have hkk : k = (lot.idxOf t[j] : Int) := by
      rw [List.getElem?_map, List.getElem?_eq_getElem hj] at hk
      exact (Option.some.inj hk).symm
    subst hkk
    obtain ⟨oc, ho, hd⟩ := id hcell
    obtain ⟨ol, nl, g1, g2, g3, g4⟩ := id pll
    obtain ⟨cc, occ, vsc, tc, d1, d2, d3, d4⟩ := co
    have lim : h.NoLimit := I2.ok.mod.nolimit.keeps fun b o e => kp b o (Nat.ne_of_lt (Nat.lt_of_lt_of_le (Heap.lt_size e) (Nat.le_trans I2.ok.bsz I2.ok.above))) (I2.bk b o e)
    have hin : ((t[j] : Nat) : Int) ∈ lot.map fun (i : Nat) => (i : Int) := List.mem_map.mpr ⟨t[j], sub _ (List.getElem_mem hj), rfl⟩
    have dep : X.A.in1.in1.depth < recursionLimit := by
      have := hr.dp
      show X.A.depth < recursionLimit
      omega
    refine lam_index (s := { s2 with heap := h, toks := tk }) (cl := cl) (l := l) dep (kp _ _ (neL fo fun _ _ z => nomatch z) fo) ⟨cc, occ, vsc, tc, d1, kp _ _ (neL d2 fun _ _ z => by rw [d3] at z; cases z) d2, d3, d4⟩ lim h1 h2 h3 h4 h5 h6 (fun u => hb pm ct u c) hclos
      ⟨oc, kp _ _ (neL ho fun _ _ z => by rw [hd] at z; cases z) ho, hd⟩ hline ⟨ol, nl, kp _ _ (neL g1 fun _ _ z => by rw [g4] at z; cases z) g1, g2, g3, g4⟩ il hin (by rw [List.length_map]; exact lfew) fun h' tk' t' kp2 => ?_
    rw [idxOf_int]
    exact ⟨h', tk', t', rfl, rfl, F.kept kp2, N.grown kp2⟩
  · intro D h' tk out c2 F' N' hlt hout
    have kp : ∀ b o, b ≠ X.env.locals → s2.heap.get? b = some o → h'.get? b = some o := fun b o hb e => (N' (b, o) (List.mem_cons_of_mem _ (mem_allNews hb (Att.noObjs_get _ _) e))).1
    obtain ⟨nD1, nD2, _⟩ := N' (D, seqObj "list" out c2) List.mem_cons_self
    have nD : s2.heap.get? D = none := by
      cases e : s2.heap.get? D with
      | none => rfl
      | some o => exact absurd (hlt (D, o) (mem_allNews nD2 (Att.noObjs_get _ _) e)) (Nat.lt_irrefl _)
    have hD : H2 D = none := by
      cases e : H2 D with
      | none => rfl
      | some v =>
        obtain ⟨o, z⟩ := ObjOk.here (I2.hok D v e)
        rw [nD] at z; cases z
    obtain ⟨oo, so, vo⟩ := sort_out rv hout
    have ol : (nats oo).length ≤ sizeLine := by
      unfold nats
      rw [List.length_map, so.1.length_eq]
      exact Nat.le_trans (Nat.le_of_lt few) (by decide)
    have ns : ∀ m', s2.heap.Ns X.env.locals m' → h'.Ns X.env.locals m' := fun m' hm' => by
      have e1 := hm'.eq_nsMap
      have e2 := hn.eq_nsMap
      rw [e1, ← e2]
      exact F'.ns
    have ob : ObjOk X.prog X.w (upd H2 D (.lst (nats oo))) h' D (.lst (nats oo)) := ⟨ol, out.toList, c2, vo, nD1⟩
    have hL2 : ∀ b v, H2 b = some v → b ≠ X.env.locals := fun b v e z => by rw [z, I2.free] at e; cases e
    refine ⟨.ref D, upd H2 D (.lst (nats oo)), I2.step (t' := tk) (g' := s2.gens) (d' := s2.drawn) (ch := []) (fun _ z => nomatch z) (fun b o hb _ _ e _ => kp b o hb e) (fun b o hb _ _ e _ => ⟨o.slots, kp b o hb e⟩) (fun b o _ e n => ?_) (fun b o _ e => ?_)
      (fun b xs e => by rw [upd_ne (ne_of_none e hD)]; exact e) (fun b o xs e => by rw [upd_ne (ne_of_none e hD)]; exact e) (fun b ps e => ⟨#[], by rw [upd_ne (ne_of_none e hD), e]; simp⟩) ns (fun b v e => ?_) I2.bare, rfl, hQ D oo hD so⟩
    · rw [upd_ne fun z => by rw [z, nD] at e; cases e]
      exact n
    · by_cases hb : b = X.env.locals
      · subst hb
        obtain ⟨o', _, _, e', _⟩ := ns m hn
        exact ⟨o', e'⟩
      · exact ⟨o, kp b o hb e⟩
    · by_cases hb : b = D
      · subst hb
        rw [upd_same] at e
        cases e
        exact ob
      · rw [upd_ne hb] at e
        refine (I2.hok b v e).stay (fun c o hc z => kp c o ?_ z) (fun c z => by rw [upd_ne (ne_of_none z hD)]; exact z) fun c xs z => by rw [upd_ne (ne_of_none z hD)]; exact z
        rcases hc with rfl | hc
        · exact hL2 _ _ e
        · exact hL2 _ _ hc
end
end LC
end

section
set_option Elab.async false
set_option linter.all false
set_option maxRecDepth 100000
set_option maxHeartbeats 2000000
namespace HX
open PySem PySem.W PySem.Spec PyProof.Rows
/-- a handled exception without a context -/
def HotAt (h : Heap) (e : Addr) : Prop := ∃ o vs, h.get? e = some o ∧ o.data = .fields vs ∧ vs[2]? = some .none
theorem HotAt.keeps {h h' : Heap} {e : Addr} (x : HotAt h e) (k : ∀ o, h.get? e = some o → h'.get? e = some o) : HotAt h' e := let ⟨o, vs, a, b, c⟩ := x; ⟨o, vs, k o a, b, c⟩
theorem entry_unchain : entryFor table "proto.unchain" = some Builtin.«proto.unchain» := entryFor_of_tree (by kernel_rfl)
theorem plain_unchain : plainId "proto.unchain" = true := by decide +kernel
section
variable {prog : Program} {w : World} {A : Around} {E : Value → Shared → Prop} {s : Shared}
theorem raiseNew_hot {α : Type} {a e : Addr} {oa : Obj} {ws : Array Value} {Q : α → Shared → Prop} (hh : A.handled = some (.ref e)) (hot : HotAt s.heap e) (ha : s.heap.get? a = some oa) (hd : oa.data = .fields ws) (hz : 2 < ws.size) (hne : a ≠ e)
    (h : E (.ref a) { s with heap := s.heap.update a (Obj.mapFields (·.setIfInBounds 2 (.ref e))) }) : wpAny (model prog w) A (raiseNew (.ref a) : Sem α) Q E s := by
  obtain ⟨o, vs, he, hv, h2⟩ := hot
  unfold raiseNew
  refine wpAny_bind (wpAny_handled ?_)
  rw [hh]
  dsimp only
  have hb : (Value.ref e != Value.ref a) = true := by simp [Ne.symm hne]
  rw [if_pos hb]
  refine wpAny_bind ?_
  refine wpAny_holding (wpAny_runValue (codeAny_builtin entry_unchain ?_))
  rw [Around.under_plainId plain_unchain _]
  show wpAny _ A.in1 (field (.ref e) 2 >>= _) _ _ s
  refine wpAny_bind (wpAny_field he hv h2 ?_)
  rw [if_pos (by decide)]
  refine wpAny_pure ?_
  show wpAny _ A (setField (.ref a) 2 (.ref e) >>= fun _ => throw (.ref a)) _ _ s
  refine wpAny_bind (wpAny_setField ha hd hz ?_)
  exact wpAny_throw h
/-- StopIteration is raised and met while an exception is handled -/
theorem stopped {e it : Addr} {h0 h1 : Heap} {Q : Option Value → Shared → Prop} {g : Array GenState} {d : Drawn} {tk : Nat} {os : OsState} (hh : A.handled = some (.ref e)) (hot : HotAt h1 e) (hk : Heap.ExtBut it h0 h1) (t0 : Value) (ms : Array Value)
    (hQ : ∀ h', Heap.ExtBut it h0 h' → Q none ⟨h', g, d, tk, os⟩) :
    wpAny (model prog w) A.in1 (raiseNew (.ref (h1.push { cls := .type "tuple", data := .seq #[] }).objs.size))
      (fun fin s' => ∃ v, fin = Fin.done (Flow.ret v) ∧ wpAny (model prog w) A (pure (some v)) Q E s')
      (fun x s' => wpAny (model prog w) A (do if ← isInstance x (.type "StopIteration") then pure none else throw x) Q E s')
      ⟨(h1.push { cls := .type "tuple", data := .seq #[] }).push { cls := .type "StopIteration", data := .fields (#[t0, .none, .none, .none, .bool false, .none] ++ ms) }, g, d, tk, os⟩ := by
  obtain ⟨o, vs, he, hv, h2⟩ := id hot
  have kp : ∀ b u, h1.get? b = some u → ((h1.push { cls := .type "tuple", data := .seq #[] }).push { cls := .type "StopIteration", data := .fields (#[t0, .none, .none, .none, .bool false, .none] ++ ms) }).get? b = some u := fun b u q => Heap.get?_push_of_some _ (Heap.get?_push_of_some _ q)
  have ha := Heap.get?_push_size (h1.push { cls := .type "tuple", data := .seq #[] }) (o := { cls := .type "StopIteration", data := .fields (#[t0, .none, .none, .none, .bool false, .none] ++ ms) }) rfl
  have lt : ∀ b u, h1.get? b = some u → b ≠ (h1.push { cls := .type "tuple", data := .seq #[] }).objs.size := fun b u q => by
    refine Nat.ne_of_lt ?_
    rw [Heap.size_push]
    exact Nat.lt_succ_of_lt (Heap.lt_size q)
  refine raiseNew_hot (A := A.in1) (oa := { cls := .type "StopIteration", data := .fields (#[t0, .none, .none, .none, .bool false, .none] ++ ms) }) hh (hot.keeps fun u q => kp _ u q) ha rfl (by rw [Array.size_append]; simp; omega) (Ne.symm (lt _ _ he)) ?_
  refine wpAny_bind (wpAny_isInstance (T := "StopIteration") (b := true) ⟨_, Heap.get?_update_self _ ha (Obj.isFreed_of_fields (Obj.data_mapFields rfl _)), Obj.cls_mapFields _ _⟩ isSubtype_stop ?_)
  exact wpAny_pure (hQ _ fun b u hb q => (Heap.get?_update_other _ _ (Ne.symm (lt _ _ (hk b u hb q)))).trans (kp _ _ (hk b u hb q)))
/-- the walk over a list ends while an exception is handled -/
theorem list_end {it l e : Addr} {i : Nat} {items : Array Value} {Q : Option Value → Shared → Prop} (hh : A.handled = some (.ref e)) (hot : HotAt s.heap e) (hie : it ≠ e) (hit : s.heap.IsListIter it l i) (hl : s.heap.IsList l items) (hx : items[i]? = none)
    (hQ : ∀ h', Heap.ExtBut it s.heap h' → Q none { s with heap := h' }) : wpAny (model prog w) A (pyNext (.ref it)) Q E s := by
  obtain ⟨o, ho, hc, hd⟩ := id hit
  obtain ⟨ol, hol, _, nl, hdl⟩ := id hl
  obtain ⟨oe, vs, he, hv, h2⟩ := id hot
  unfold pyNext
  refine wpAny_bind (wpAny_attempt (wpAny_callSpecial?_slot (name := Str.ofString "__next__") hit.typeIs slot_listiter_next (wpAny_call_entry slot_listiter_next hit.typeIs entry_listiter_next ?_ (args_listiter_next _))))
  show wpAny _ A.in1 (field (.ref it) 0 >>= _) _ _ s
  refine wpAny_bind (wpAny_field ho hd (x := .ref l) rfl ?_)
  show wpAny _ A.in1 (if (Value.ref l == Value.none) = true then _ else _) _ _ s
  rw [if_neg (by simp)]
  show wpAny _ A.in1 (field (.ref it) 1 >>= _) _ _ s
  refine wpAny_bind (wpAny_field ho hd (x := .int i 0) rfl (wpAny_bind (wpAny_seqItems hol hdl ?_)))
  simp only [Int.toNat_natCast, hx]
  refine wpAny_bind (wpAny_rule (wpAny_bind (wpAny_setField ho hd (by simp) ?_)))
  show wpAny _ A.in1 (newExc (.type "StopIteration") [] >>= _) _ _ _
  refine wpAny_bind ?_
  simp only [newExc, newTuple]
  refine wpAny_bind (wpAny_newObj_type ?_ (by size_fits))
  refine wpAny_bind (m := firstArgMember _ _) (wpAny_of_eq (a := Value.none) (by first | rfl | (simp only [firstArgMember]; rfl)) (wpAny_newObj_type ?_ (by size_fits)))
  have ext := (Heap.SameBut.update s.heap it (Obj.mapFields fun x => x.setIfInBounds 0 Value.none)).extBut
  exact stopped (h0 := s.heap) (it := it) hh (hot.keeps fun u q => ext e u (Ne.symm hie) q) ext _ _ hQ
variable {env : Env} {nm q : Str} {C N e : Addr} {bs bm bmB : List Value} {hdct : Bool} {sn : List Str} {sub : List Value} {ab : Bool} {col : Option Bool} {dd : Option Addr} {k0 k1 k2 k3 k5 : Option Value} {B newId initId : String}
/-- a made exception of an own class is raised while another one is handled -/
theorem raiseStmt_hot {x : Sem Value} {Q : Flow → Shared → Prop} (hbase : bm.contains (.type "BaseException") = true) (hh : A.handled = some (.ref e))
    (h : wpAny (model prog w) A x (fun v s₁ => ∃ a t, v = .ref a ∧ s₁.heap.get? C = some (excClassObj nm q C N bs bm hdct sn sub ab col dd k0 k1 k2 k3 k5 newId) ∧ HotAt s₁.heap e ∧ a ≠ e ∧
      s₁.heap.get? a = some { cls := .ref C, data := .fields #[.ref t, .none, .none, .none, .bool false, .none] } ∧ E (.ref a) { s₁ with heap := s₁.heap.update a (Obj.mapFields (·.setIfInBounds 2 (.ref e))) }) E s) :
    wpAny (model prog w) A (raiseStmt env (some x) none) Q E s := by
  have hc : (Value.ref C :: bm).contains (.type "BaseException") = true := by
    rw [List.contains_cons, hbase, Bool.or_true]
  unfold raiseStmt
  refine wpAny_bind (wpAny_mono h (fun v s₁ hv => ?_) fun _ _ z => z)
  obtain ⟨a, t, rfl, hC, hot, hne, ha, hE⟩ := hv
  obtain ⟨hp, g, d, tk, os⟩ := s₁
  repeat (first
    | with_reducible refine wpAny_loadPart_at ha ?_
    | with_reducible refine wpAny_loadPart_at hC ?_
    | (with_reducible refine wpAny_isSubtype_exc hC ?_; rw [hc])
    | wp_step)
  exact raiseNew_hot (s := ⟨hp, g, d, tk, os⟩) hh hot ha rfl (by show 2 < 6; decide) hne hE
theorem raise_hot (FB : ExcBaseFacts B newId initId bmB) {mN : Str → Option Value} {x : Str} {np cpos pos : Pos} {args : List Expr} {Q : Flow → Shared → Prop} (hbase : bm.contains (.type "BaseException") = true) (hh : A.handled = some (.ref e))
    (hplain : (backTo cpos (starEach args env)).any (·.1) = false) (hni : mN "__init__" = none)
    (h : wpAny (model prog w) A (eval (.Name x np) env) (fun f s₁ => f = .ref C ∧ wpAny (model prog w) A (evalArgs (.ref C) true (backTo cpos (starEach args env)) [])
      (fun a s₂ => a.kw = [] ∧ a.pos.length ≤ sizeLine ∧ s₂.heap.get? C = some (excClassObj nm q C N bs bm hdct sn sub ab col dd k0 k1 k2 k3 k5 newId) ∧ s₂.heap.Ns N mN ∧ OwnTail s₂.heap bmB bm ∧ HotAt s₂.heap e ∧
        ∀ h' y, Heap.MadeExcOf s₂.heap h' y (.ref C) a.pos → E (.ref y) { s₂ with heap := h'.update y (Obj.mapFields (·.setIfInBounds 2 (.ref e))) }) E s₁) E s) :
    wpAny (model prog w) A (exec (.Raise (some (.Call (.Name x np) args [] cpos)) none pos) env) Q E s := by
  rw [arm_exec_Raise]
  refine wpAny_bind (wpAny_standAt ?_)
  have key : wpAny (model prog w) A (eval (.Call (.Name x np) args [] cpos) env) (fun v s₁ => ∃ a t, v = .ref a ∧ s₁.heap.get? C = some (excClassObj nm q C N bs bm hdct sn sub ab col dd k0 k1 k2 k3 k5 newId) ∧ HotAt s₁.heap e ∧ a ≠ e ∧
      s₁.heap.get? a = some { cls := .ref C, data := .fields #[.ref t, .none, .none, .none, .bool false, .none] } ∧ E (.ref a) { s₁ with heap := s₁.heap.update a (Obj.mapFields (·.setIfInBounds 2 (.ref e))) }) E s := by
    refine wpAny_Call_ofName (wpAny_mono h (fun f s₁ h₁ => ?_) fun _ _ z => z)
    obtain ⟨rfl, h₁⟩ := h₁
    unfold callWith
    refine wpAny_bind (wpAny_holding (wpAny_mono h₁ (fun a s₂ h₂ => wpAny_bind (wpAny_standAt ?_)) fun _ _ z => z))
    obtain ⟨apos, akw⟩ := a
    obtain ⟨hkw, hlen, hC, hn, T, hot, h₂⟩ := h₂
    cases (show akw = [] from hkw)
    obtain ⟨hp, g, d, tk, os⟩ := s₂
    simp only [hplain]
    refine wpAny_bind (wpAny_keeperOf_exc hC ?_)
    refine wpAny_bind (wpAny_call_exc_subT (hrest := hlen) FB T hC hn hni fun h' y hm => wpAny_bind (wpAny_holding (wpAny_point (wpAny_pure ?_))))
    obtain ⟨t, ht, _, _⟩ := hm.there
    obtain ⟨oe, vs, he, _, _⟩ := id hot
    exact ⟨y, t, rfl, hm.keeps _ _ hC, hot.keeps (hm.keeps e), (fun z => by have := hm.new; rw [z, he] at this; cases this), ht, h₂ h' y hm⟩
  first
    | exact raiseStmt_hot hbase hh (wpAny_bind (wpAny_mono key (fun v s₃ h₃ => wpAny_bind (wpAny_standAt (wpAny_pure h₃))) fun _ _ z => z))
    | (simp only [evalOpt, Option.map]; exact raiseStmt_hot hbase hh (wpAny_bind (wpAny_mono key (fun v s₃ h₃ => wpAny_bind (wpAny_standAt (wpAny_pure h₃))) fun _ _ z => z)))
end
end HX
end

section
set_option Elab.async false
set_option linter.all false
set_option maxRecDepth 100000
set_option maxHeartbeats 2000000
namespace HX
open PySem PySem.W PySem.Spec PyProof.Rows
/-- an exception's record with its head entry, without a context; fl: where it is in flight -/
structure Rec (h B : Heap) (e : Addr) (cls a0 cx fl : Value) (oe : Obj) (vs : Array Value) (T : Addr) (oT : Obj) (ts : Array Value) : Prop where
  at_ : h.get? e = some oe
  cls : oe.cls = cls
  dat : oe.data = .fields vs
  arg : vs[0]? = some a0
  ctx : vs[2]? = some cx
  tb : vs[1]? = some (.ref T)
  new : B.get? T = none
  ne : T ≠ e
  tat : h.get? T = some oT
  tdat : oT.data = .fields ts
  tfl : ts[3]? = some fl
def Tr (h B : Heap) (e : Addr) (cls a0 cx fl : Value) : Prop := ∃ oe vs T oT ts, Rec h B e cls a0 cx fl oe vs T oT ts
theorem Tr.hot {h B : Heap} {e : Addr} {cls a0 fl : Value} (x : Tr h B e cls a0 .none fl) : HotAt h e := let ⟨oe, vs, _, _, _, r⟩ := x; ⟨oe, vs, r.at_, r.dat, r.ctx⟩
/-- an exception in flight -/
structure Fly (B : Heap) (l : List Env) (e : Addr) (cls a0 cx fl : Value) (h : Heap) : Prop where
  st : B.StaysIn h
  en : B.get? e = none
  fr : h.FunFrames B l
  tr : Tr h B e cls a0 cx fl
theorem Fly.W {B h : Heap} {l : List Env} {e : Addr} {cls a0 cx : Value} (x : Fly B l e cls a0 cx .none h) : Heap.FlyingW B l e cls a0 h := by
  obtain ⟨oe, vs, T, oT, ts, r⟩ := x.tr
  exact ⟨x.st, x.en, x.fr, oe, vs, T, oT, ts, r.at_, ⟨r.cls, r.arg⟩, r.dat, r.tb, r.new, r.ne, r.tat, r.tdat, r.tfl⟩
section
variable {M : Model} {A : Around} {E : Value → Shared → Prop} {s : Shared} {B : Heap} {env : Env} {outer : List Env} {L e : Addr} {cls a0 cx : Value} {Q : Unit → Shared → Prop}
/-- a record alone changes -/
theorem upd_keeps {h : Heap} {a : Addr} {o : Obj} {vs : Array Value} (f : Array Value → Array Value) (ho : h.get? a = some o) (hd : o.data = .fields vs) : h.UpToSlots (h.update a (Obj.mapFields f)) := fun b u q n => by
  refine ⟨u.slots, (Heap.get?_update_other _ _ fun z => ?_).trans q⟩
  subst z
  rw [ho] at q
  cases q
  exact n vs hd
theorem frames_up {h h' : Heap} {l : List Env} (x : h.FunFrames B l) (k : h.UpToSlots h') : h'.FunFrames B l := x.of_keeps fun b o q n => let ⟨sl, z⟩ := k b o q n; ⟨_, z, rfl⟩
/-- a new head entry is laid -/
theorem entry {oe : Obj} {vs : Array Value} {head : Value} {hn : Bool} (hfr : A.frames = some (env :: outer)) (hl : s.heap.FunFrames B (env :: outer)) (hf : env.frame = some L) (he : s.heap.get? e = some oe) (hd : oe.data = .fields vs) (hz : 2 < vs.size)
    (h0 : vs[0]? = some a0) (h2 : vs[2]? = some cx) (st : B.StaysIn s.heap) (en : B.get? e = none)
    (h : ∀ h', Fly B (env :: outer) e oe.cls a0 cx (rawInt L) h' → s.heap.UpToSlots h' → Q () { s with heap := h' }) :
    wpAny M A (do let a ← frameOf env; let pl ← entryPlaceOf L hn; let b ← EntryCells.newEntry head a .none (rawInt L) .none pl; setField (.ref e) 1 b) Q E s := by
  have nf : e ∉ (env :: outer).filterMap (·.frame) := fun z => by
    obtain ⟨_, o, ho, n⟩ := hl.mem z
    rw [he] at ho
    cases ho
    exact n vs hd
  refine wpAny_bind (wpAny_frameOf_fun hfr hl hf fun h1 so => wpAny_bind (wpAny_entryPlaceOf fun pl hpl => ?_))
  unfold EntryCells.newEntry newFields
  refine wpAny_bind (wpAny_newObj_type ?_ (hpl.sizeOk5 _ _ _ _ _))
  have e1 : h1.get? e = some oe := (so.2.1 e nf).trans he
  have st1 : B.StaysIn h1 := fun b o q => (so.2.1 b fun z => by rw [(hl.mem z).1] at q; cases q).trans (st b o q)
  generalize hw : ([head, Value.ref L, .none, rawInt L, .none] ++ (if pl.isEmpty then List.replicate 6 Value.none else pl)).toArray = ws
  have hw3 : ws[3]? = some (rawInt L) := by rw [← hw]; simp
  have kp : ∀ b o, h1.get? b = some o → (h1.push { cls := .type "traceback", dict := none, data := .fields ws }).get? b = some o := fun b o q => Heap.get?_push_of_some _ q
  have lt : h1.objs.size ≠ e := Nat.ne_of_gt (Heap.lt_size e1)
  refine wpAny_setField (kp _ _ e1) hd (by omega) (h _ ⟨fun b o q => ?_, en, ?_, ?_⟩ ?_)
  · exact (Heap.get?_update_other _ _ (fun z => by rw [← z, en] at q; cases q)).trans (kp _ _ (st1 b o q))
  · refine frames_up (h := s.heap) hl fun b o q n => ?_
    obtain ⟨sl, z⟩ := so.2.2 b o q
    obtain ⟨sl', z'⟩ := upd_keeps (fun x => x.setIfInBounds 1 (Value.ref h1.objs.size)) (kp _ _ e1) hd b _ (kp _ _ z) n
    exact ⟨sl', z'⟩
  · have d3 := Obj.data_mapFields hd (·.setIfInBounds 1 (Value.ref h1.objs.size))
    refine ⟨_, _, h1.objs.size, _, ws, Heap.get?_update_self _ (kp _ _ e1) (Obj.isFreed_of_fields d3), Obj.cls_mapFields _ _, d3, ?_, ?_, ?_, st1.fresh, lt, (Heap.get?_update_other _ _ (Ne.symm lt)).trans (Heap.get?_push_size _ rfl), rfl, hw3⟩
    · rw [Array.getElem?_setIfInBounds_ne (by decide)]; exact h0
    · rw [Array.getElem?_setIfInBounds_ne (by decide)]; exact h2
    · have z1 : 1 < vs.size := by omega
      simp [z1]
  · intro b o q n
    obtain ⟨sl, z⟩ := so.2.2 b o q
    obtain ⟨sl', z'⟩ := upd_keeps (fun x => x.setIfInBounds 1 (Value.ref h1.objs.size)) (kp _ _ e1) hd b _ (kp _ _ z) n
    exact ⟨sl', z'⟩
/-- the flight is noted as over -/
theorem land {l : List Env} {fl : Value} (x : Fly B l e cls a0 cx fl s.heap) (h : ∀ h', Fly B l e cls a0 cx .none h' → s.heap.UpToSlots h' → Q () { s with heap := h' }) : wpAny M A (setFlight (.ref e) none) Q E s := by
  obtain ⟨oe, vs, T, oT, ts, r⟩ := x.tr
  have z3 : 3 < ts.size := (Array.getElem?_eq_some_iff.mp r.tfl).1
  unfold setFlight
  refine wpAny_bind (wpAny_field r.at_ r.dat r.tb ?_)
  rw [if_pos (by simp)]
  have up := upd_keeps (fun y => y.setIfInBounds 3 ((none : Option Addr).elim Value.none fun f => rawInt f)) r.tat r.tdat
  refine wpAny_setField r.tat r.tdat z3 (h _ ⟨fun b o q => ?_, x.en, frames_up x.fr up, ?_⟩ up)
  · exact (Heap.get?_update_other _ _ (fun z => by rw [← z, r.new] at q; cases q)).trans (x.st b o q)
  · exact ⟨oe, vs, T, _, _, (Heap.get?_update_other _ _ r.ne).trans r.at_, r.cls, r.dat, r.arg, r.ctx, r.tb, r.new, r.ne, Heap.get?_update_self _ r.tat (Obj.isFreed_of_fields (Obj.data_mapFields r.tdat _)), Obj.data_mapFields r.tdat _, by simp [z3]⟩
/-- the frame is noted in an exception that comes from a callee -/
theorem looks (hfr : A.frames = some (env :: outer)) (hf : env.frame = some L) (x : Fly B (env :: outer) e cls a0 cx .none s.heap) (h : ∀ h', Fly B (env :: outer) e cls a0 cx (rawInt L) h' → s.heap.UpToSlots h' → Q () { s with heap := h' }) :
    wpAny M A (noteFrame (.ref e) env) Q E s := by
  obtain ⟨oe, vs, T, oT, ts, r⟩ := x.tr
  have z3 : 3 < ts.size := (Array.getElem?_eq_some_iff.mp r.tfl).1
  have z2 : 2 < vs.size := (Array.getElem?_eq_some_iff.mp r.ctx).1
  obtain rfl := r.cls
  unfold noteFrame
  simp only [hf]
  refine wpAny_bind (wpAny_field r.at_ r.dat r.tb ?_)
  rw [if_pos (by simp)]
  refine wpAny_bind (wpAny_field r.tat r.tdat r.tfl ?_)
  rw [if_neg (by simp [rawInt])]
  have up := upd_keeps (fun y => y.setIfInBounds 3 Value.none) r.tat r.tdat
  refine wpAny_bind (wpAny_setField r.tat r.tdat z3 ?_)
  refine entry (s := { s with heap := s.heap.update T (Obj.mapFields (·.setIfInBounds 3 Value.none)) }) hfr (frames_up x.fr up) hf ((Heap.get?_update_other _ _ r.ne).trans r.at_) r.dat z2 r.arg r.ctx
    (fun b o q => (Heap.get?_update_other _ _ (fun z => by rw [← z, r.new] at q; cases q)).trans (x.st b o q)) x.en fun h' y u => h h' y (up.trans u)
/-- .. in one that is raised here -/
theorem looks0 {oe : Obj} {vs : Array Value} (hfr : A.frames = some (env :: outer)) (hf : env.frame = some L) (hl : s.heap.FunFrames B (env :: outer)) (he : s.heap.get? e = some oe) (hd : oe.data = .fields vs) (h0 : vs[0]? = some a0) (h1 : vs[1]? = some .none) (h2 : vs[2]? = some cx)
    (st : B.StaysIn s.heap) (en : B.get? e = none) (h : ∀ h', Fly B (env :: outer) e oe.cls a0 cx (rawInt L) h' → s.heap.UpToSlots h' → Q () { s with heap := h' }) : wpAny M A (noteFrame (.ref e) env) Q E s := by
  unfold noteFrame
  simp only [hf]
  refine wpAny_bind (wpAny_field he hd h1 ?_)
  rw [if_neg (by decide)]
  exact entry hfr hl hf he hd (Array.getElem?_eq_some_iff.mp h2).1 h0 h2 st en h
theorem Fly.up {fl : Value} {h : Heap} (x : Fly B (env :: outer) e cls a0 cx fl h) : Fly B outer e cls a0 cx fl h := ⟨x.st, x.en, x.fr.2.2, x.tr⟩
theorem leaves (hfr : A.frames = some (env :: outer)) (hf : env.frame = some L) (x : Fly B (env :: outer) e cls a0 cx .none s.heap) (h : ∀ h', Fly B outer e cls a0 cx .none h' → s.heap.UpToSlots h' → Q () { s with heap := h' }) :
    wpAny M A (leaving env (.ref e)) Q E s := by
  unfold leaving
  refine wpAny_bind (looks hfr hf x fun h1 y u => ?_)
  exact land (s := { s with heap := h1 }) y fun h2 z u2 => h h2 z.up (u.trans u2)
theorem leaves0 {h0 : Heap} {args : List Value} (hfr : A.frames = some (env :: outer)) (hf : env.frame = some L) (hk : B.StaysIn h0) (hl : h0.FunFrames B (env :: outer)) (m : Heap.MadeExcOf h0 s.heap e cls args)
    (h : ∀ h' t, Fly B outer e cls (.ref t) .none .none h' → s.heap.UpToSlots h' → Q () { s with heap := h' }) : wpAny M A (leaving env (.ref e)) Q E s := by
  obtain ⟨t, he, _, _⟩ := m.there
  have en : B.get? e = none := by
    cases q : B.get? e with
    | none => rfl
    | some o => have := hk e o q; rw [m.new] at this; cases this
  unfold leaving
  refine wpAny_bind (looks0 (a0 := .ref t) hfr hf (hl.of_keeps fun b o q _ => ⟨o, m.keeps b o q, rfl⟩) he rfl rfl rfl rfl (fun b o q => m.keeps b o (hk b o q)) en fun h1 y u => ?_)
  exact land (s := { s with heap := h1 }) y fun h2 z u2 => h h2 t z.up (u.trans u2)
/-- .. that is raised here while another one is handled -/
theorem leaves1 {h0 h1 : Heap} {args : List Value} {c : Addr} (hfr : A.frames = some (env :: outer)) (hf : env.frame = some L) (hk : B.StaysIn h0) (hl : h0.FunFrames B (env :: outer)) (m : Heap.MadeExcOf h0 h1 e cls args)
    (hs : s.heap = h1.update e (Obj.mapFields (·.setIfInBounds 2 (.ref c))))
    (h : ∀ h' t, Fly B outer e cls (.ref t) (.ref c) .none h' → s.heap.UpToSlots h' → Q () { s with heap := h' }) : wpAny M A (leaving env (.ref e)) Q E s := by
  obtain ⟨t, he, _, _⟩ := m.there
  have en : B.get? e = none := by
    cases q : B.get? e with
    | none => rfl
    | some o => have := hk e o q; rw [m.new] at this; cases this
  have d := Obj.data_mapFields (o := { cls := cls, data := .fields #[.ref t, .none, .none, .none, .bool false, .none] }) rfl (·.setIfInBounds 2 (Value.ref c))
  have he2 : s.heap.get? e = some (Obj.mapFields (·.setIfInBounds 2 (Value.ref c)) { cls := cls, data := .fields #[.ref t, .none, .none, .none, .bool false, .none] }) := by
    rw [hs]
    exact Heap.get?_update_self _ he (Obj.isFreed_of_fields d)
  have kp : ∀ b o, h0.get? b = some o → s.heap.get? b = some o := fun b o q => by
    rw [hs]
    exact (Heap.get?_update_other _ _ fun z => by rw [← z, m.new] at q; cases q).trans (m.keeps b o q)
  have hc : (Obj.mapFields (·.setIfInBounds 2 (Value.ref c)) { cls := cls, data := .fields #[.ref t, .none, .none, .none, .bool false, .none] }).cls = cls := Obj.cls_mapFields _ _
  unfold leaving
  refine wpAny_bind (looks0 (a0 := .ref t) (cx := .ref c) hfr hf (hl.of_keeps fun b o q _ => ⟨o, kp b o q, rfl⟩) he2 d rfl rfl rfl (fun b o q => kp b o (hk b o q)) en fun h1 y u => ?_)
  rw [hc] at y
  exact land (s := { s with heap := h1 }) y fun h2 z u2 => h h2 t z.up (u.trans u2)
end
end HX
end

section
set_option Elab.async false
set_option linter.all false
set_option maxRecDepth 100000
set_option maxHeartbeats 2000000
namespace L2
open PySem PySem.Spec PyProof.Rows
/-! exceptions whose context is known; what runs while one is handled -/
/-- how an exception with the context cx lies behind a call -/
def CXc (P : Program) (w : World) (cx : Value) : CXT := fun outer H s E e s' => ∃ (a : Addr) (C a0 : Value) (B : Heap) (H' : Hp),
  e = .ref a ∧ s'.os = s.os ∧ AllBare s'.gens ∧ Un (frs outer) [] H H' s.heap s'.heap ∧ HOk P w H' B ∧
  (∀ b o, s.heap.get? b = some o → H b = none → b ∉ frs outer → B.get? b = some o) ∧ (∀ b o, s.heap.get? b = some o → b ∉ frs outer → ∃ o', B.get? b = some o') ∧
  HX.Fly B outer a C a0 cx .none s'.heap ∧ E C none H'
section
variable {X : Cx} {pins : List (Addr × Obj)} {σ : St} {H H1 : Hp} {s s' : Shared} {h' B : Heap} {a : Addr} {C a0 cx : Value} {E : XK}
theorem Inv.cxc (I : Inv X pins σ H s) (hex : X.ex = []) (un : Un (frs X.stack) [] H H1 s.heap s'.heap) (kB : ∀ b o, s.heap.get? b = some o → H b = none → b ∉ frs X.stack → B.get? b = some o)
    (tB : ∀ b o, s.heap.get? b = some o → b ∉ frs X.stack → ∃ o', B.get? b = some o') (os : s'.os = s.os) (bare : AllBare s'.gens) (hok : HOk X.prog X.w H1 B) (up : s'.heap.UpToSlots h') (fl : HX.Fly B X.outer a C a0 cx .none h') (hE : E C none H1) :
    CXc X.prog X.w cx X.outer X.H₀ X.s₀ E (.ref a) { s' with heap := h' } := by
  have nx : ∀ b : Addr, b ∉ X.ex := fun b => by rw [hex]; simp
  have old : ∀ b o, X.s₀.heap.get? b = some o → b ≠ X.env.locals := fun b o e => Nat.ne_of_lt (Nat.lt_of_lt_of_le (Heap.lt_size e) I.ok.above)
  have nst : ∀ b o, X.s₀.heap.get? b = some o → b ∉ frs X.outer → b ∉ frs X.stack := fun b o e hb z => (List.mem_cons.mp (I.stkSub b z)).elim (old b o e) hb
  have out : ∀ b, b ∈ frs X.outer → b ∈ frs X.stack := fun b hb => by
    rcases I.ok.stk with z | ⟨z, hf⟩
    · rw [z]; exact hb
    · rw [z]; unfold frs; rw [List.filterMap_cons, hf]; exact List.mem_cons_of_mem _ hb
  have un2 := I.flown un kB tB fl.st up
  refine ⟨a, C, a0, B, H1, rfl, os.trans I.os, bare, ⟨fun b o e n hb _ => ?_, fun b o e n hb _ => ?_, fun b o e n _ => ?_, fun b o e _ => ?_, fun b xs e => un.tups b xs (I.base.tups b xs e), fun b o u e => un.frzs b o u (I.base.frzs b o u e), fun b ps e => ?_⟩, hok, fun b o e n hb => ?_, fun b o e hb => ?_, fl, hE⟩
  · exact un2.keep b o (I.base.keep b o e n hb (nx b)) (I.base.free b o e n (nx b)) (nst b o e hb) (by simp)
  · obtain ⟨sl, e1⟩ := I.base.slot b o e n hb (nx b)
    obtain ⟨sl', e2⟩ := un2.slot b _ e1 (I.base.free b o e n (nx b)) (out b hb) (by simp)
    exact ⟨sl', e2⟩
  · obtain ⟨o', e1⟩ := I.base.there b o e (nx b)
    exact un.free b o' e1 (I.base.free b o e n (nx b)) (by simp)
  · obtain ⟨o', e1⟩ := I.base.there b o e (nx b)
    exact un2.there b o' e1 (by simp)
  · obtain ⟨m1, e1⟩ := I.base.tbls b ps e
    obtain ⟨m2, e2⟩ := un.tbls b _ e1
    exact ⟨m1 ++ m2, by rw [e2, Array.append_assoc]⟩
  · exact kB b o (I.base.keep b o e n hb (nx b)) (I.base.free b o e n (nx b)) (nst b o e hb)
  · obtain ⟨o', e1⟩ := I.base.there b o e (nx b)
    exact tB b o' e1 (nst b o e hb)
end
/-- a def's context, where an exception may be handled -/
abbrev Cx.hot (X : Cx) : Cx := { X with calm := false }
section
variable {P : Program} {w : World} {K : PySem.W.Frag} {mg : Str → Option Value} {base : Heap} {N : List Str} {qual : Str} {scope : Scope} {f C : Addr} {cd cx : Value} {A : Around} {outer : List Env} {s₀ : Shared} {H₀ : Hp} {E : XK}
theorem pass_onC : Passes (CXc P w cx) (cxOf (CXc P w cx) P w K mg base N qual scope f cd A outer s₀ H₀ E) E := by
  intro pins σ H s e s' I h
  obtain ⟨a, C, a0, B, H1, rfl, os, bare, un, hok, kB, tB, fl, hE⟩ := h
  exact HX.leaves I.ok.frames rfl fl fun h' x1 x2 => I.cxc rfl un kB tB os bare hok x2 x1 hE
theorem pass_onH : Passes (CXc P w cx) (cxOf (CXc P w cx) P w K mg base N qual scope f cd A outer s₀ H₀ E).hot E := by
  intro pins σ H s e s' I h
  obtain ⟨a, C, a0, B, H1, rfl, os, bare, un, hok, kB, tB, fl, hE⟩ := h
  exact HX.leaves I.ok.frames rfl fl fun h' x1 x2 => I.cxc rfl un kB tB os bare hok x2 x1 hE
theorem hidden_ok {X : Cx} {pins : List (Addr × Obj)} {σ : St} {H : Hp} {s : Shared} (I : Inv X pins σ H s) : HOk X.prog X.w H (PySem.W.hideAll s.heap (frs X.stack)) := fun b u e => by
  refine (I.hok b u e).stay (fun c v hc q => PySem.W.hideAll_get _ q fun hm => ?_) (fun _ q => q) fun _ _ q => q
  have z := I.stkFree c hm
  rcases hc with rfl | hc
  · rw [e] at z; cases z
  · rw [hc] at z; cases z
theorem hidden_fr {X : Cx} {pins : List (Addr × Obj)} {σ : St} {H : Hp} {s : Shared} (I : Inv X pins σ H s) : s.heap.FunFrames (PySem.W.hideAll s.heap (frs X.stack)) X.stack :=
  PySem.W.funFrames_hide I.stack fun env he b hb => List.mem_filterMap.mpr ⟨env, he, hb⟩
theorem raise_outC : Raises (cxOf (CXc P w .none) P w K mg base N qual scope f cd A outer s₀ H₀ E) C E := by
  intro pins σ H s h' a vs I m hE
  refine HX.leaves0 (B := PySem.W.hideAll s.heap (frs (cxOf (CXc P w .none) P w K mg base N qual scope f cd A outer s₀ H₀ E).stack)) I.ok.frames rfl (fun b o q => PySem.W.of_hideAll _ q) (hidden_fr I) m fun h2 t fl up => ?_
  exact I.cxc (s' := { s with heap := h' }) rfl (Un.kept m.keeps) (fun b o e _ hb => PySem.W.hideAll_get _ e hb) (fun b o e hb => ⟨o, PySem.W.hideAll_get _ e hb⟩) rfl I.bare (hidden_ok I) up fl hE
/-- what a raise hands over while e is handled -/
def RaisesH (X : Cx) (e C : Addr) (E : XK) : Prop := ∀ (pins : List (Addr × Obj)) (σ : St) (H : Hp) (s : Shared) (h' : Heap) (a : Addr) (vs : List Value), Inv X pins σ H s → Heap.MadeExcOf s.heap h' a (.ref C) vs → E (.ref C) none H →
  X.xe (.ref a) { s with heap := h'.update a (Obj.mapFields (·.setIfInBounds 2 (.ref e))) }
theorem raise_outH {e : Addr} : RaisesH (cxOf (CXc P w (.ref e)) P w K mg base N qual scope f cd A outer s₀ H₀ E).hot e C E := by
  intro pins σ H s h' a vs I m hE
  refine HX.leaves1 (c := e) (h1 := h') (B := PySem.W.hideAll s.heap (frs (cxOf (CXc P w (.ref e)) P w K mg base N qual scope f cd A outer s₀ H₀ E).hot.stack)) I.ok.frames rfl (fun b o q => PySem.W.of_hideAll _ q) (hidden_fr (X := (cxOf (CXc P w (.ref e)) P w K mg base N qual scope f cd A outer s₀ H₀ E).hot) I) m rfl fun h2 t fl up => ?_
  have kp : ∀ b o, s.heap.get? b = some o → (h'.update a (Obj.mapFields (·.setIfInBounds 2 (.ref e)))).get? b = some o := fun b o q => (Heap.get?_update_other _ _ fun z => by rw [← z, m.new] at q; cases q).trans (m.keeps b o q)
  exact I.cxc (s' := { s with heap := h'.update a (Obj.mapFields (·.setIfInBounds 2 (.ref e))) }) rfl (Un.kept kp) (fun b o e _ hb => PySem.W.hideAll_get _ e hb) (fun b o e hb => ⟨o, PySem.W.hideAll_get _ e hb⟩) rfl I.bare (hidden_ok I) up fl hE
end
section
variable {P : Program} {w : World} {K : PySem.W.Frag} {mg : Str → Option Value} {base : Heap}
/-- a def that may raise, its exceptions without a context -/
theorem Fun.okC {x qual : Str} {st : Stmt} {f : Addr} {fd : FuncData} {N ps : List Str} {k : Nat} {sp : Sp} (F : Fun K x qual st f fd) (S : FnScope N ps (defScope st)) (len : ∀ vs H Q E, sp vs H Q E → vs.length = ps.length)
    (hbody : ∀ (cdv : Value) (A : Around) (outer : List Env) (s : Shared) (H : Hp) (vs : List V) (Q : VK) (E : XK), fd.code = cdv → Room k (A.deeper (envOfC qual (defScope st) s.heap.objs.size f cdv)) → sp vs H Q E →
      ∃ t, PSs (cxOf (CXc P w .none) P w K mg base N qual (defScope st) f cdv A outer s H E) (defBody st) t ∧ t { nx := fun _ H' => Q .non H', rt := Q } (start N vs) H) : FnOk P w K mg base (CXc P w .none) (k + 1) f fd ps sp := by
  obtain ⟨oc, od, kV, doc, pm, an, cdv, ct, osl, rfl, lk, hcd⟩ := F.ex
  exact fn_of lk hcd S len fun A outer s H vs Q E hr hsp => hbody cdv A outer s H vs Q E rfl hr hsp
end

/-! ### while e is handled -/
/-- the exception that is handled: of the class at C, without a context -/
def HotO (e C : Addr) : HO := .ext fun h => EX.At h e C ∧ HX.HotAt h e
theorem hotO_ok {P : Program} {w : World} {H : Hp} {h : Heap} {e C : Addr} (x : EX.At h e C) (y : HX.HotAt h e) : ObjOk P w H h e (HotO e C) := by
  obtain ⟨o, e1, c⟩ := id x
  refine ⟨⟨x, y⟩, ⟨o, e1⟩, fun h1 h2 ⟨⟨o1, f1, f2⟩, z⟩ k => ⟨⟨o1, k _ f1, f2⟩, z.keeps k⟩⟩
structure RoomH (k : Nat) (A : Around) (e : Addr) : Prop where
  hd : A.handled = some (.ref e)
  rm : Room k { A with handled := none }
theorem RoomH.mono {j k : Nat} {A : Around} {e : Addr} (r : RoomH k A e) (h : j ≤ k) : RoomH j A e := ⟨r.hd, r.rm.mono h⟩
theorem RoomH.deeper {k : Nat} {A : Around} {e : Addr} (r : RoomH (k + 1) A e) (env : Env) : RoomH k (A.deeper env) e := ⟨r.hd, r.rm.deeper env⟩
/-- a room under an except suite -/
theorem Room.hot {k : Nat} {A : Around} (r : Room k A) (e : Addr) : RoomH k (A.mark (some (.ref e))) e := ⟨rfl, by
  have := r.hd
  obtain ⟨a, b, c⟩ := r
  exact ⟨rfl, b, c⟩⟩
structure FnOkH (P : Program) (w : World) (K : PySem.W.Frag) (mg : Str → Option Value) (base : Heap) (CX : CXT) (e C : Addr) (k : Nat) (f : Addr) (fd : FuncData) (ps : List Str) (sp : Sp) : Prop where
  len : ∀ vs H Q E, sp vs H Q E → vs.length = ps.length
  run : ∀ (A : Around) (outer : List Env) (s : Shared) (H : Hp) (args : Args) (us : List Value) (vs : List V) (Q : VK) (E : XK), RoomH k A e → H e = some (HotO e C) → Env0 P w K mg base A outer s H → BindsTo s fd args (ps.zip us) → Vals vs us → sp vs H Q E →
    codeAny (model P w) A (.call (.ref f) args) (CR CX outer P w H s Q E) s
theorem Inv.cool {X : Cx} {A : Around} {pins : List (Addr × Obj)} {σ : St} {H : Hp} {s : Shared} (I : Inv { X with A := { A with handled := none } } pins σ H s) : Inv ({ X with A := A } : Cx).hot pins σ H s :=
  ⟨⟨I.ok.mod, I.ok.kind, I.ok.glob, I.ok.blt, I.ok.above, I.ok.inj, I.ok.has, I.ok.cab, (fun z => nomatch z), I.ok.frames, I.ok.stk, I.ok.exf, I.ok.bs, I.ok.bsz, I.ok.noex, I.ok.exfs, I.ok.funs, I.ok.frf⟩,
    I.os, I.bare, I.base, I.loc, I.cell, I.free, I.freeC, I.pin, I.hok, I.len⟩
theorem Fun.okH {P : Program} {w : World} {K : PySem.W.Frag} {mg : Str → Option Value} {base : Heap} {CX : CXT} {e C : Addr} {x qual : Str} {st : Stmt} {f : Addr} {fd : FuncData} {N ps : List Str} {k : Nat} {sp : Sp} (F : Fun K x qual st f fd) (S : FnScope N ps (defScope st))
    (len : ∀ vs H Q E, sp vs H Q E → vs.length = ps.length)
    (hbody : ∀ (cdv : Value) (A : Around) (outer : List Env) (s : Shared) (H : Hp) (vs : List V) (Q : VK) (E : XK), RoomH k (A.deeper (envOfC qual (defScope st) s.heap.objs.size f cdv)) e → H e = some (HotO e C) → sp vs H Q E →
      ∃ t, PSs (cxOf CX P w K mg base N qual (defScope st) f cdv A outer s H E).hot (defBody st) t ∧ t { nx := fun _ H' => Q .non H', rt := Q } (start N vs) H) : FnOkH P w K mg base CX e C (k + 1) f fd ps sp := by
  obtain ⟨oc, od, kV, doc, pm, an, cdv, ct, osl, rfl, lk, hcd⟩ := F.ex
  refine ⟨len, fun A outer s H args us vs Q E hr he e0 hb r hsp => ?_⟩
  have hl := len _ _ _ _ hsp
  have KX : K.In s.heap := e0.mod.kin.keeps fun b o e => (e0.bs b o e).1
  have lim : s.heap.NoLimit := e0.mod.nolimit.keeps fun b o e => (e0.bs b o e).1
  have hkind : ∀ y ∈ ps.zip us, (defScope st).names.lookup y.1 = some .local ∨ ((defScope st).names.lookup y.1 = some .cell ∧ ((cellsFrom (s.heap.objs.size + 1) (defScope st).names []).lookup y.1).isSome = true) := fun ⟨n, v⟩ hy => by
    rcases S.par n (List.of_mem_zip hy).1 with q | q
    · exact .inl q
    · exact .inr ⟨q, PySem.W.cellsFrom_some _ _ _ (.inl q)⟩
  refine codeAny_call_function hr.rm.depth (KX _ _ lk) rfl S.co S.gen rfl (PySem.W.codeRec_of KX hcd) (hb _ _ _ _ ?_)
  refine wpAny_newFunctionEnv_cells S.kind hkind fun env he' s1 x => ?_
  subst he'
  refine ⟨lim.keeps x.toInCall.keep, codeAny_func ?_⟩
  obtain ⟨t, ht, hq⟩ := hbody cdv A outer s H vs Q E (hr.deeper _) he hsp
  have e1 : Env0 P w K mg base { A with handled := none } outer s H := ⟨e0.frames, e0.mod, e0.bs, e0.bsz, e0.funs, e0.frf, e0.hok, e0.bare⟩
  have I0 : Inv (cxOf CX P w K mg base N qual (defScope st) f cdv { A with handled := none } outer s H E) [] (start N vs) H s1 := inv_start S rfl e1 hl r x
  have I : Inv (cxOf CX P w K mg base N qual (defScope st) f cdv A outer s H E).hot [] (start N vs) H s1 := ⟨⟨I0.ok.mod, I0.ok.kind, I0.ok.glob, I0.ok.blt, I0.ok.above, I0.ok.inj, I0.ok.has, I0.ok.cab, (fun z => nomatch z), I0.ok.frames, I0.ok.stk, I0.ok.exf, I0.ok.bs, I0.ok.bsz, I0.ok.noex, I0.ok.exfs, I0.ok.funs, I0.ok.frf⟩,
    I0.os, I0.bare, I0.base, I0.loc, I0.cell, I0.free, I0.freeC, I0.pin, I0.hok, I0.len⟩
  refine wpAny_mono (ht [] s1 (start N vs) H _ I hq) (fun fl s' hs => ?_) fun e s' hs => hs
  have fin : ∀ {σ' : St} {H' : Hp} {v : V} {u : Value}, Inv (cxOf CX P w K mg base N qual (defScope st) f cdv A outer s H E).hot [] σ' H' s' → RelV v u → Q v H' → CE outer P w H s Q u s' :=
    fun {σ' H' v u} J rv q => ⟨v, H', J.os, J.bare, J.base, J.hok, rv, q⟩
  cases fl with
  | ret u =>
    obtain ⟨v, σ', H', J, rv, q⟩ := hs
    exact fin J rv q
  | next =>
    obtain ⟨σ', H', J, q⟩ := hs
    exact fin (v := V.non) (u := Value.none) J rfl q
  | brk =>
    obtain ⟨_, _, _, q⟩ := hs
    exact False.elim q
  | cont =>
    obtain ⟨_, _, _, q⟩ := hs
    exact False.elim q
section
variable {X : Cx} {CX : CXT} {k : Nat} {f e0 C0 : Addr} {fd : FuncData} {ps : List Str} {E : XK} {x : Str} {p pos : Pos} {e : Expr} {es : List Expr} {t : TA} {sp : Sp}
def tCallH (e0 C0 : Addr) (sp : Sp) (E : XK) (t : TA) : TE := fun σ H Q => t σ H fun vs H1 => H1 e0 = some (HotO e0 C0) ∧ sp vs H1 Q E
/-- f(..) while e0 is handled -/
theorem pe_callH (F : FnOkH X.prog X.w X.K X.mg X.base CX e0 C0 k f fd ps sp) (hr : RoomH k X.A e0) (hg : Gl X x) (hm : X.mg x = some (.ref f)) (hk : PySem.W.keepIn X.K (.ref f) = true) (hb : Binds X.K fd ps []) (hx : Passes CX X E)
    (ha : PA X (e :: es) t) (hdb : (x == ("__debug__" : Str)) = false := by decide) (he : starEach (e :: es) X.env = (false, eval e X.env) :: starEach es X.env := by rfl) (hpl : (backTo pos (starEach es X.env)).any (·.1) = false := by rfl) :
    PE X (.Call (.Name x p) (e :: es) [] pos) (tCallH e0 C0 sp E t) := by
  intro pins s σ H Q I h
  refine wpAny_Call_Name_kw (ld_glob I hg hm ?_ hdb)
  refine PySem.W.callWith_K (h₀ := X.base) I.ok.mod.kin hk (thn (ha pos pins s σ H _ I h) fun us s1 ⟨vs, H1, I1, r, hot, q⟩ => ⟨I1.kIn, ?_⟩) he hpl
  have hl : us.length = ps.length := by rw [← r.length]; exact F.len _ _ _ _ q
  have hb1 := hb s1 us I1.kIn (by rw [List.append_nil]; exact hl)
  rw [List.append_nil] at hb1
  refine wpAny_call (codeAny_mono (F.run X.A X.stack s1 H1 ⟨us, []⟩ us vs Q E hr hot I1.env0 hb1 r q) fun rr s' hq => ?_)
  cases rr with
  | error e => exact hx pins σ H1 s1 e s' I1 hq
  | ok fl =>
    cases fl with
    | ret u => exact I1.after hq
    | next => exact False.elim hq
    | brk => exact False.elim hq
    | cont => exact False.elim hq
end
section
variable {X : Cx} {x : Str} {C e0 C0 : Addr} {bm : List Value} {B newId initId : String} {np cpos pos : Pos} {e : Expr} {es : List Expr} {t : TA} {E : XK}
def tRaiseH (e0 C0 C : Addr) (E : XK) (t : TA) : TS := fun _ σ H => t σ H fun vs H1 => vs.length ≤ sizeLine ∧ H1 e0 = some (HotO e0 C0) ∧ E (.ref C) none H1
theorem ps_raiseH (hg : Gl X x) (hm : X.mg x = some (.ref C)) (q : PySem.W.excIn X.K C bm newId = true) (FB : ExcBaseFacts B newId initId bm) (hh : X.A.handled = some (.ref e0)) (hx : RaisesH X e0 C E) (ha : PA X (e :: es) t) (hd : (x == ("__debug__" : Str)) = false := by decide)
    (he : starEach (e :: es) X.env = (false, eval e X.env) :: starEach es X.env := by rfl) (hpl : (backTo cpos (starEach es X.env)).any (·.1) = false := by rfl) :
    PS X (.Raise (some (.Call (.Name x np) (e :: es) [] cpos)) none pos) (tRaiseH e0 C0 C E t) := by
  intro pins s σ H D I h
  obtain ⟨tl, N, nm, qn, bs, hdct, sn, sub, ab, col, dd, k0, k1, k2, k3, k5, mN, hC, hN, hni, T⟩ := exc_obj I.mod.kin q
  refine HX.raise_hot (C := C) (nm := nm) (q := qn) (N := N) (bs := bs) (bm := tl) (hdct := hdct) (sn := sn) (sub := sub) (ab := ab) (col := col) (dd := dd) (k0 := k0) (k1 := k1) (k2 := k2) (k3 := k3) (k5 := k5) FB (mN := mN) (T.hasType FB.hasBase) hh
    (by rw [he]; show (false || (backTo cpos (starEach es X.env)).any (·.1)) = false; rw [hpl]; rfl) hni (ld_glob I hg hm ⟨rfl, ?_⟩ hd)
  have h1 := ha cpos pins s σ H _ I h
  rw [he] at h1 ⊢
  refine Calls.evalArgs_plain (thn h1 fun us s2 ⟨vs, H2, I2, r, z, hot, q2⟩ => ⟨rfl, ?_, I2.bk _ _ hC, hN.keeps I2.bk, T.keeps I2.bk, ?_, fun h' a m => hx pins σ H2 s2 h' a us I2 m q2⟩)
  · show us.length ≤ sizeLine
    rw [← r.length]; exact z
  · obtain ⟨⟨_, y⟩, _⟩ := (show ObjOk X.prog X.w H2 s2.heap e0 (HotO e0 C0) from I2.hok e0 _ hot)
    exact y
end
section
variable {X : Cx} {tg : Expr}
/-- a walk over a list that something ends ahead of its end -/
def tForH (K : PySem.W.Frag) (tl : TE) (g : TG) (tb : TS) : TS := fun D σ H => tl σ H fun x H1 => ∃ a, x = .ref a ∧ (∃ xs, SqL K H1 a xs) ∧ ∃ W : Nat → Nat → St → Hp → Prop, (∃ m, W 0 m σ H1) ∧
  ∀ i m σ H, W i m σ H → ∃ xs x, SqL K H a xs ∧ xs[i]? = some x ∧ ∃ N : St → Hp → Prop, (∀ σ' H', N σ' H' → ∃ m', m' < m ∧ W (i + 1) m' σ' H') ∧ g x σ H fun σ2 H2 => tb { D with nx := N, ct := N, bk := D.nx } σ2 H2
theorem ps_forH {l : Expr} {tl : TE} {body : List Stmt} {g : TG} {tb : TS} {pos : Pos} (hp : PassesOwn (model X.prog X.w) X.A X.env X.xe) (hl : PE X l tl) (hg : PG X tg g) (hb : PSs X body tb)
    (hs : ∀ x, foldedSetIterable l X.env x = pure x := by intro _; rfl) : PS X (.For tg l body [] pos) (tForH X.K tl g tb) := by
  intro pins s σ H D I h
  refine wpAny_For (thn (hl pins s σ H _ I h) fun v s1 ⟨x, H1, I1, r1, a, e, ⟨xs, hq⟩, W, ⟨m0, w0⟩, turn⟩ => ?_) hs
  subst e
  cases r1
  obtain ⟨its, rv, p, hz⟩ := I1.list hq
  refine wpAny_pyIter_list p.isList ?_
  have f2 : FpOk X pins H1 s1.heap.objs.size := I1.fpOk (Nat.le_refl _) (I1.hok.fresh (Nat.le_refl _))
  have I2 : Inv X pins σ H1 { s1 with heap := s1.heap.push { cls := .type "list_iterator", data := .fields #[.ref a, .int 0 0] } } := I1.kept (t' := s1.toks) fun b o e => Heap.get?_push_of_some _ e
  have st2 : ({ s1 with heap := s1.heap.push { cls := .type "list_iterator", data := .fields #[.ref a, .int 0 0] } } : Shared).heap.IsListIter s1.heap.objs.size a 0 := ⟨_, Heap.get?_push_size _ rfl, rfl, rfl⟩
  have T := turn_list (P := X.prog) (w := X.w) (K := X.K) (tg := tg) a s1.heap.objs.size
  generalize s1.heap.objs.size = it at f2 T st2 ⊢
  have stat : ∀ {H' : Hp}, H' it = none → ∀ b ∈ [it], FpOk X pins H' b := fun hn b hb => by
    have e : b = it := by simpa using hb
    rw [e]
    exact ⟨hn, f2.2⟩
  refine codeAny_forLoop_any (fun n s' => ∃ i σ' H', Inv X pins σ' H' s' ∧ s'.heap.IsListIter it a i ∧ H' it = none ∧ W i n σ' H') ?_ m0 ⟨0, σ, H1, I2, st2, f2.1, w0⟩
  rintro n s3 ⟨i, σ3, H3, I3, st3, fr3, w3⟩
  obtain ⟨ys, x, hq3, hx, N, hN, step⟩ := turn i n σ3 H3 w3
  obtain ⟨its3, rv3, p3, _⟩ := I3.list hq3
  obtain ⟨u, hu, ru⟩ := rv3.get hx
  obtain ⟨_, f1, f2', f3, f4, f5⟩ := stat fr3 it (by simp)
  refine wpAny_passesOwn hp (wpAny_pyNext_list_item st3 p3.isList (x := u) (by simpa using hu) fun h' st' sb => ?_)
  have I4 : Inv X pins σ3 H3 { s3 with heap := h' } := I3.turned (t' := s3.toks) (fun b o hb e => (sb.2 b hb).trans e) fr3 f1 f3 f4 f5
  obtain ⟨oi, e4, c4, d4⟩ := id st'
  refine wpAny_passesOwn hp (go_of (s := { s3 with heap := h' }) e4 c4 d4 (by decide) ?_)
  have I5 := I4.pinned (stat fr3) (T.obj _ _ st')
  refine wpAny_passesOwn hp (thn (hg _ _ σ3 H3 x u _ I5 ru step) fun _ s6 ⟨σ6, H6, I6, q6⟩ => ?_)
  refine wpAny_passesOwn hp (thn (hb _ s6 σ6 H6 _ I6 q6) fun f s7 q7 => ?_)
  have again : ∀ {σ7 : St} {H7 : Hp}, Inv X (pins ++ pinsAt [it] h') σ7 H7 s7 → N σ7 H7 → ∃ m, m < n ∧ ∃ i σ' H', Inv X pins σ' H' s7 ∧ s7.heap.IsListIter it a i ∧ H' it = none ∧ W i m σ' H' := fun {σ7 H7} I7 n7 => by
    obtain ⟨m', hm, w7⟩ := hN σ7 H7 n7
    have pn := I7.pin (it, oi) (List.mem_append_right _ (List.mem_append_right _ (mem_pinsAt (by simp) e4)))
    exact ⟨m', hm, i + 1, σ7, H7, I7.unpinned, st'.at fun o e => by rw [e4] at e; cases e; exact pn.1, pn.2.1, w7⟩
  cases f with
  | next => obtain ⟨σ7, H7, I7, n7⟩ := q7; exact again I7 n7
  | cont => obtain ⟨σ7, H7, I7, n7⟩ := q7; exact again I7 n7
  | brk => obtain ⟨σ7, H7, I7, q7⟩ := q7; exact ⟨σ7, H7, I7.unpinned, q7⟩
  | ret v => obtain ⟨x7, σ7, H7, I7, r7, q7⟩ := q7; exact ⟨x7, σ7, H7, I7.unpinned, r7, q7⟩
end
end L2
end

section
set_option Elab.async false
set_option linter.all false
set_option maxRecDepth 100000
set_option maxHeartbeats 2000000
namespace L2
open PySem PySem.Spec PyProof.Rows
/-! try and except where the exception's context is known -/
def XPc (X : Cx) (cx : Value) (pins : List (Addr × Obj)) (σ : St) (E : XK) : Value → Shared → Prop := fun e s' => ∃ H s, Inv X pins σ H s ∧ CXc X.prog X.w cx X.stack H s E e s'
def PEc (X : Cx) (cx : Value) (e : Expr) (t : St → Hp → VK → XK → Prop) : Prop :=
  ∀ (pins : List (Addr × Obj)) (s : Shared) (σ : St) (H : Hp) (Q : VK) (E : XK), Inv X pins σ H s → t σ H Q E → wpAny (model X.prog X.w) X.A (eval e X.env) (EP X pins σ Q) (XPc X cx pins σ E) s
def PSc (X : Cx) (cx : Value) (st : Stmt) (t : TX) : Prop :=
  ∀ (pins : List (Addr × Obj)) (s : Shared) (σ : St) (H : Hp) (D : Ends) (E : XK), Inv X pins σ H s → t D E σ H → wpAny (model X.prog X.w) X.A (exec st X.env) (SP X pins D) (XPc X cx pins σ E) s
section
variable {X : Cx} {cx : Value} {k : Nat} {f e0 C0 : Addr} {fd : FuncData} {ps : List Str} {sp : Sp} {x : Str} {p pos : Pos} {e : Expr} {es : List Expr} {t : TA}
theorem pec_call (F : FnOk X.prog X.w X.K X.mg X.base (CXc X.prog X.w cx) k f fd ps sp) (hr : Room k X.A) (hg : Gl X x) (hm : X.mg x = some (.ref f)) (hk : PySem.W.keepIn X.K (.ref f) = true) (hb : Binds X.K fd ps [])
    (ha : PA X.nox (e :: es) t) (hdb : (x == ("__debug__" : Str)) = false := by decide) (he : starEach (e :: es) X.env = (false, eval e X.env) :: starEach es X.env := by rfl) (hpl : (backTo pos (starEach es X.env)).any (·.1) = false := by rfl) :
    PEc X cx (.Call (.Name x p) (e :: es) [] pos) (tCallX sp t) := by
  intro pins s σ H Q E I h
  refine wpAny_Call_Name_kw (ld_glob I hg hm ?_ hdb)
  refine PySem.W.callWith_K (h₀ := X.base) I.ok.mod.kin hk (wpAny_mono (ha pos pins s σ H _ (I.wish _) h) (fun us s1 ⟨vs, H1, I0, r, q⟩ => ?_) fun _ _ z => False.elim z) he hpl
  have I1 : Inv X pins σ H1 s1 := I0.unwish
  refine ⟨I1.kIn, ?_⟩
  have hl : us.length = ps.length := by rw [← r.length]; exact F.len _ _ _ _ q
  have hb1 := hb s1 us I1.kIn (by rw [List.append_nil]; exact hl)
  rw [List.append_nil] at hb1
  refine wpAny_call (codeAny_mono (F.run X.A X.stack s1 H1 ⟨us, []⟩ us vs Q E hr I1.env0 hb1 r q) fun res s' hq => ?_)
  cases res with
  | error e => exact ⟨H1, s1, I1, hq⟩
  | ok fl =>
    cases fl with
    | ret u => exact I1.after hq
    | next => exact False.elim hq
    | brk => exact False.elim hq
    | cont => exact False.elim hq
def tCallXH (e0 C0 : Addr) (sp : Sp) (t : TA) : St → Hp → VK → XK → Prop := fun σ H Q E => t σ H fun vs H1 => H1 e0 = some (HotO e0 C0) ∧ sp vs H1 Q E
theorem pec_callH (F : FnOkH X.prog X.w X.K X.mg X.base (CXc X.prog X.w cx) e0 C0 k f fd ps sp) (hr : RoomH k X.A e0) (hg : Gl X x) (hm : X.mg x = some (.ref f)) (hk : PySem.W.keepIn X.K (.ref f) = true) (hb : Binds X.K fd ps [])
    (ha : PA X.nox (e :: es) t) (hdb : (x == ("__debug__" : Str)) = false := by decide) (he : starEach (e :: es) X.env = (false, eval e X.env) :: starEach es X.env := by rfl) (hpl : (backTo pos (starEach es X.env)).any (·.1) = false := by rfl) :
    PEc X cx (.Call (.Name x p) (e :: es) [] pos) (tCallXH e0 C0 sp t) := by
  intro pins s σ H Q E I h
  refine wpAny_Call_Name_kw (ld_glob I hg hm ?_ hdb)
  refine PySem.W.callWith_K (h₀ := X.base) I.ok.mod.kin hk (wpAny_mono (ha pos pins s σ H _ (I.wish _) h) (fun us s1 ⟨vs, H1, I0, r, hot, q⟩ => ?_) fun _ _ z => False.elim z) he hpl
  have I1 : Inv X pins σ H1 s1 := I0.unwish
  refine ⟨I1.kIn, ?_⟩
  have hl : us.length = ps.length := by rw [← r.length]; exact F.len _ _ _ _ q
  have hb1 := hb s1 us I1.kIn (by rw [List.append_nil]; exact hl)
  rw [List.append_nil] at hb1
  refine wpAny_call (codeAny_mono (F.run X.A X.stack s1 H1 ⟨us, []⟩ us vs Q E hr hot I1.env0 hb1 r q) fun res s' hq => ?_)
  cases res with
  | error e => exact ⟨H1, s1, I1, hq⟩
  | ok fl =>
    cases fl with
    | ret u => exact I1.after hq
    | next => exact False.elim hq
    | brk => exact False.elim hq
    | cont => exact False.elim hq
theorem psc_set {i : Nat} {te : St → Hp → VK → XK → Prop} {pos' : Pos} (hN : X.N.Nodup) (hi : X.N[i]? = some x) (hx : Loc X.env.scope x) (he : PEc X cx e te) (hs : swapsWith e (some (.Name x pos')) pos.line X.env = pure false := by rfl)
    (hf : X.fn x = true ∨ X.env.scope.names.lookup x = some .local := by first | exact .inl rfl | exact .inr rfl | assumption) : PSc X cx (.Assign [.Name x pos'] e pos) (tSetX i te) := by
  intro pins s σ H D E I h
  refine wpAny_Assign_Name (thn (he pins s σ H _ E I h) fun v s1 ⟨y, H1, I1, r1, q1⟩ => ?_) hs
  exact store_ok I1 hN hi hx r1 (fun s2 I2 => ⟨_, H1, I2, q1⟩) hf
theorem psc_expr {te : St → Hp → VK → XK → Prop} (he : PEc X cx e te) (hs : swapsWith e none pos.line X.env = pure false := by rfl) : PSc X cx (.Expr e pos) (tDropX te) := by
  intro pins s σ H D E I h
  exact wpAny_Expr_any (thn (he pins s σ H _ E I h) fun v s1 ⟨x, H1, I1, r1, q1⟩ => ⟨σ, H1, I1, q1⟩) I.quiet hs
end
section
variable {X : Cx} {pins : List (Addr × Obj)} {σ : St} {H H1 : Hp} {s s' : Shared} {h' B : Heap} {a : Addr}
/-- behind the flight, the exception tracked as O -/
theorem Inv.landedO (I : Inv X pins σ H s) {O : HO} (un : Un (frs X.stack) [] H H1 s.heap s'.heap) (kB : ∀ b o, s.heap.get? b = some o → H b = none → b ∉ frs X.stack → B.get? b = some o)
    (tB : ∀ b o, s.heap.get? b = some o → b ∉ frs X.stack → ∃ o', B.get? b = some o') (os : s'.os = s.os) (bare : AllBare s'.gens) (hok : HOk X.prog X.w H1 B) (hn : s.heap.get? a = none) (hn1 : H1 a = none)
    (st : B.StaysIn h') (up : s'.heap.UpToSlots h') (ho : ∀ H, ObjOk X.prog X.w H h' a O) : Inv X pins σ (upd H1 a O) { s' with heap := h' } := by
  have u := I.flown un kB tB st up
  refine I.call' (s' := { s' with heap := h' }) (ch := []) os ⟨u.keep, u.slot, fun b o e n hx => ?_, u.there, fun b xs e => ?_, fun b o xs e => ?_, fun b ps e => ?_⟩ (fun b v e => ?_) bare fun b z => absurd z (by simp)
  · rw [upd_ne (fun z => by rw [z, hn] at e; cases e)]
    exact u.free b o e n hx
  · have := u.tups b xs e
    rw [upd_ne (ne_of_none this hn1)]
    exact this
  · have := u.frzs b o xs e
    rw [upd_ne (ne_of_none this hn1)]
    exact this
  · obtain ⟨m, e1⟩ := u.tbls b ps e
    exact ⟨m, by rw [upd_ne (ne_of_none e1 hn1)]; exact e1⟩
  · by_cases hb : b = a
    · subst hb
      rw [upd_same] at e
      cases e
      exact ho _
    · rw [upd_ne hb] at e
      exact (hok b v e).stay (fun c o _ q => st c o q) (fun c q => by rw [upd_ne (ne_of_none q hn1)]; exact q) fun c xs q => by rw [upd_ne (ne_of_none q hn1)]; exact q
end
section
variable {X : Cx} {cx : Value} {st b₀ : Stmt} {suite : List Stmt} {x n : Str} {S : Addr} {np hpos pos : Pos} {tb : TX} {th : Addr → TS} {i : Nat}
theorem Fly.at {B h : Heap} {l : List Env} {e C : Addr} {a0 fl : Value} (f : HX.Fly B l e (.ref C) a0 cx fl h) : EX.At h e C := by
  obtain ⟨oe, vs, T, oT, ts, r⟩ := f.tr
  exact ⟨oe, r.at_, r.cls⟩
/-- the try's body, then the flight up to the clause -/
theorem try_coreC {hs : ExceptHandler} {E : XK} {pins : List (Addr × Obj)} {s : Shared} {σ : St} {H : Hp} {D : Ends} (hb : PSc X cx st tb) (hst : X.stack = X.env :: X.outer) (hfr : X.env.frame = some X.env.locals) (I : Inv X pins σ H s) (h : tb D E σ H)
    (k : ∀ (a : Addr) (c : Value) (H1 : Hp) (B : Heap) (a0 : Value) (s2 : Shared), E c none H1 → H1 a = none → HX.Fly B X.stack a c a0 cx .none s2.heap →
      (∀ (h' : Heap) (O : HO), HX.Fly B X.stack a c a0 cx .none h' → s2.heap.UpToSlots h' → (∀ H, ObjOk X.prog X.w H h' a O) → Inv X pins σ (upd H1 a O) { s2 with heap := h' }) →
      wpAny (model X.prog X.w) X.A (handleBy (.ref a) X.env [hs]) (SP X pins D) X.xe s2) :
    wpAny (model X.prog X.w) X.A (exec (.Try [st] [hs] [] [] pos) X.env) (SP X pins D) X.xe s := by
  have one : wpAny (model X.prog X.w) X.A (execs [st] X.env) (SP X pins D) (XPc X cx pins σ E) s := by
    refine wpAny_execs_cons (thn (hb pins s σ H D E I h) fun f s1 q => ?_)
    cases f with
    | next => exact wpAny_execs_nil q
    | ret v => exact q
    | brk => exact q
    | cont => exact q
  refine wpAny_Try_except (wpAny_mono one (fun f s1 q => ?_) fun e s1 q => ?_)
  · cases f with
    | next => exact wpAny_execs_nil q
    | ret v => exact q
    | brk => exact q
    | cont => exact q
  · obtain ⟨H0, s0, I0, a, c, a0, B, H1, rfl, os, bare, un, hok, kB, tB, fl, hE⟩ := q
    obtain ⟨hn, hn1⟩ := I0.excNew un tB hok fl.W
    refine HX.looks (by rw [I.ok.frames, hst]) hfr (by rw [← hst]; exact fl) fun h4 fl4 up4 => ?_
    refine HX.land (s := { s1 with heap := h4 }) fl4 fun h5 fl5 up5 => ?_
    rw [← hst] at fl5
    refine k a c H1 B a0 { s1 with heap := h5 } hE hn1 fl5 fun h' O fl' up' ho => ?_
    exact I0.landedO (s' := s1) un kB tB os bare hok hn hn1 fl'.st ((up4.trans up5).trans up') ho
def tTryC (K : PySem.W.Frag) (S : Addr) (tb : TX) (th : Addr → TS) : TS := fun D σ H => tb D (fun c _ H1 => ∃ C, c = .ref C ∧ PySem.W.mroIn K C (.ref S) = some true ∧ ∀ a, H1 a = none → th a D σ (upd H1 a (HotO a C))) σ H
theorem ps_tryC (hb : PSc X .none st tb) (c : Catch X x S) (hh : ∀ a, PSs (X.hand a) (b₀ :: suite) (th a)) (hst : X.stack = X.env :: X.outer := by rfl) (hfr : X.env.frame = some X.env.locals := by rfl) (hd : (x == ("__debug__" : Str)) = false := by decide) :
    PS X (.Try [st] [.ExceptHandler (some (.Name x np)) none (b₀ :: suite) hpos] [] [] pos) (tTryC X.K S tb th) := by
  intro pins s σ H D I h
  refine try_coreC hb hst hfr I h fun a cv H1 B a0 s2 hE hn1 fl land => ?_
  obtain ⟨C, rfl, hm, q⟩ := hE
  have I2 := land s2.heap (HotO a C) fl (fun b o e _ => ⟨o.slots, e⟩) fun H => hotO_ok (Fly.at fl) fl.tr.hot
  refine wpAny_handleBy_cons (codeAny_handlers_test (ld_glob (I2.hand a) c.gl c.mg ?_ hd)) (by intro z; cases z)
  obtain ⟨ob, h1, h2⟩ := Fly.at fl
  obtain ⟨hp, g, d, tk, os⟩ := s2
  refine EX.matches_own (K := X.K) I2.kIn ⟨ob, h1, h2⟩ c.ec c.ty hm (codeAny_handlers_suite ?_)
  refine HX.land fl fun h6 fl6 up6 => ?_
  have I6 := land h6 (HotO a C) fl6 up6 fun H => hotO_ok (Fly.at fl6) fl6.tr.hot
  exact wpAny_mono (hh a pins _ σ _ D (I6.hand a) (q a hn1)) (fun f s4 q4 => SP.unhand I.ok q4) fun _ _ z => False.elim z
theorem ps_tryAsC (hb : PSc X cx st tb) (c : Catch X x S) (hN : X.N.Nodup) (hi : X.N[i]? = some n) (hl : X.env.scope.names.lookup n = some .local) (hh : ∀ a, PSs (X.hand a) (b₀ :: suite) (th a)) (hst : X.stack = X.env :: X.outer := by rfl) (hfr : X.env.frame = some X.env.locals := by rfl)
    (hd : (x == ("__debug__" : Str)) = false := by decide) : PS X (.Try [st] [.ExceptHandler (some (.Name x np)) (some n) (b₀ :: suite) hpos] [] [] pos) (tTryAs X.K S i tb th) := by
  intro pins s σ H D I h
  refine try_coreC hb hst hfr I h fun a cv H1 B a0 s2 hE hn1 fl land => ?_
  obtain ⟨C, rfl, hm, q⟩ := hE
  have I2 := land s2.heap (ExcO a C) fl (fun b o e _ => ⟨o.slots, e⟩) fun H => excO_ok (Fly.at fl)
  refine wpAny_handleBy_cons (codeAny_handlers_test (ld_glob (I2.hand a) c.gl c.mg ?_ hd)) (by intro z; cases z)
  obtain ⟨ob, h1, h2⟩ := Fly.at fl
  obtain ⟨hp, g, d, tk, os⟩ := s2
  refine EX.matches_own (K := X.K) I2.kIn ⟨ob, h1, h2⟩ c.ec c.ty hm (codeAny_handlers_suite_as ?_)
  refine HX.land fl fun h6 fl6 up6 => ?_
  have I6 := land h6 (ExcO a C) fl6 up6 fun H => excO_ok (Fly.at fl6)
  refine store_ok (X := X.hand a) (I6.hand a) hN hi (.inl hl) (v := .ref a) rfl (fun s3 I3 => ?_) (.inr hl)
  refine wpAny_mono (hh a pins s3 _ _ _ I3 (q a hn1)) (fun f s4 q4 => ?_) fun _ _ z => False.elim z
  have q5 := SP.unhand I.ok q4
  cases f with
  | next => obtain ⟨σ', H', I5, z⟩ := q5; exact name_goes (a := a) I5 hN hi hl fun s' J => ⟨_, H', J, z⟩
  | brk => obtain ⟨σ', H', I5, z⟩ := q5; exact name_goes (a := a) I5 hN hi hl fun s' J => ⟨_, H', J, z⟩
  | cont => obtain ⟨σ', H', I5, z⟩ := q5; exact name_goes (a := a) I5 hN hi hl fun s' J => ⟨_, H', J, z⟩
  | ret u => obtain ⟨v, σ', H', I5, r, z⟩ := q5; exact name_goes (a := a) I5 hN hi hl fun s' J => ⟨v, _, H', J, r, z⟩
end
end L2
end

section
set_option Elab.async false
set_option linter.all false
set_option maxRecDepth 100000
set_option maxHeartbeats 4000000
namespace K6
open PySem L2 LC
def top (i : Nat) : Stmt := PySem.Challenge.pw_seatdeal_k06_ties_by_lot.main.body.getD i (.Pass ⟨0, 0, 0, 0⟩)
abbrev sOne : Stmt := top 1
abbrev sMust : Stmt := top 7
abbrev sMiss : Stmt := top 8
abbrev sSet : Stmt := top 9
abbrev sIsW : Stmt := top 11
abbrev sAt : Stmt := top 12
abbrev sLot : Stmt := top 13
abbrev sBase : Stmt := top 14
abbrev sLaw : Stmt := top 15
/-- the refusals of the text -/
structure Refs (K : PySem.W.Frag) (mg : Str → Option Value) (C S L : Addr) : Prop where
  nC : mg "NoLot" = some (.ref C)
  nS : mg "SeatError" = some (.ref S)
  nL : mg "NoVotes" = some (.ref L)
  nV : mg "ValueError" = none
  ex : PySem.W.excIn K C bmV "ValueError.__new__" = true
  eC : EX.ECls K C
  eS : EX.ECls K S
  tC : PySem.W.typeIn K (.ref C) = some (.type "type")
  tS : PySem.W.typeIn K (.ref S) = some (.type "type")
  mC : PySem.W.mroIn K C (.ref C) = some true
  mS : PySem.W.mroIn K C (.ref S) = some true
  kC : PySem.W.kitOne K (.ref C) (.ref C) = some true
  kL : PySem.W.kitOne K (.ref C) (.ref L) = some false
  kV : PySem.W.kitOne K (.ref C) (.type "ValueError") = some true
def spMust : Sp := fun vs H Q _ => ∃ (q pg pt : Addr) (g : List Int) (t : List Nat) (fr : Int), vs = [.ref q] ∧ IsDeal H q pg pt g t fr ∧ Q (.bl (decide (0 < t.length))) H
def spMiss (K : PySem.W.Frag) (C : Addr) : Sp := fun vs H Q E => ∃ (pt l : Addr) (t lot : List Nat), vs = [.ref pt, .ref l] ∧ SqL K H pt (nats t) ∧ SqL K H l (nats lot) ∧ ((∀ j ∈ t, j ∈ lot) → Q .non H) ∧ ((∃ j ∈ t, j ∉ lot) → E (.ref C) none H)
def spMissH (K : PySem.W.Frag) (C : Addr) : Sp := fun vs H _ E => ∃ (pt l : Addr) (t lot : List Nat), vs = [.ref pt, .ref l] ∧ SqL K H pt (nats t) ∧ SqL K H l (nats lot) ∧ (∃ j ∈ t, j ∉ lot) ∧ E (.ref C) none H
def spSet (K : PySem.W.Frag) (Z : Tabs) (C : Addr) : Sp := fun vs H Q E => ∃ (q pg pt l : Addr) (g : List Int) (t lot : List Nat) (fr : Nat), vs = [.ref q, .ref l] ∧ IsDeal H q pg pt g t fr ∧ SqL K H l (nats lot) ∧ g.length < 64 ∧ t.length < 64 ∧ lot.length < 64 ∧ TabsOk Z H ∧
  ((∀ j ∈ t, j ∈ lot) → ∀ p out H', Sm Z H H' → SortOut lot t out → H' p = some (.lst (zs (MD.oneEach g (out.take fr)))) → Q (.ref p) H') ∧ ((∃ j ∈ t, j ∉ lot) → E (.ref C) none H)
def spSetH (K : PySem.W.Frag) (C : Addr) : Sp := fun vs H _ E => ∃ (q pg pt l : Addr) (g : List Int) (t lot : List Nat) (fr : Int), vs = [.ref q, .ref l] ∧ IsDeal H q pg pt g t fr ∧ SqL K H l (nats lot) ∧ (∃ j ∈ t, j ∉ lot) ∧ E (.ref C) none H
def spBaseH (K : PySem.W.Frag) : Sp := fun vs H Q _ => ∃ (q pg pt l : Addr) (g : List Int) (t lot : List Nat) (fr : Int), vs = [.ref q, .ref l] ∧ IsDeal H q pg pt g t fr ∧ SqL K H l (nats lot) ∧ (∃ j ∈ t, j ∉ lot) ∧ ∀ H', Same H H' → Q (.bl true) H'
theorem notin_nats (t : List Nat) (i : Nat) : (!inV (.int (i : Int)) (nats t)) = !decide (i ∈ t) := by rw [inV_nats]
theorem cut_take (xs : List V) (k : Nat) : cutV xs none (some (k : Int)) = xs.take k := by
  unfold cutV
  rw [HT.sIx_none, HT.sIx_nat, List.drop_zero, Nat.sub_zero]
  rcases Nat.le_total k xs.length with h | h
  · rw [Nat.min_eq_left h]
  · rw [Nat.min_eq_right h, List.take_length, List.take_of_length_le h]
theorem nats_take (t : List Nat) (k : Nat) : (nats t).take k = nats (t.take k) := by unfold nats; rw [List.map_take]
/-- the lambda of the statement at i: sorted's key -/
def keyLam (s : Stmt) (i : Nat) : Expr := match (defBody s)[i]? with
  | some (.Assign _ (.Call _ _ (kw :: _) _) _) => kw.value
  | _ => .Constant .none 0 ⟨0, 0, 0, 0⟩
section
variable {P : Program} {w : World} {K : PySem.W.Frag} {mg : Str → Option Value} {base : Heap} {C S L : Addr} {Z : Tabs}
theorem scIsW : FnScope ["_law_found"] ["_law_found"] (defScope sIsW) := ⟨rfl, rfl, rfl, by decide +kernel, rfl, by decide +kernel, by decide +kernel⟩
theorem ok_isW {f : Addr} {fd : FuncData} (F : Def K mg "_law_whole" sIsW f fd ["_law_found"]) (T : Own mg) : FnOk P w K mg base CX0 1 f fd ["_law_found"] spIsW := by
  refine F.fn.ok scIsW (fun vs H Q E h => ?_) (fun cdv A outer s H vs Q E hr h => ?_)
  · obtain ⟨i, rfl, _⟩ := h
    rfl
  · obtain ⟨i, rfl, k⟩ := h
    refine ⟨_, pss_one (ps_ret (pe_and (pe_callB call_isinst (by rfl) T.isinstance PyProof.Rows.boot_isinstance (pa_cons (pv 0) (pa_cons (pe_bltn (v := .ty "int") (by rfl) T.int PySem.Pv.boot_int rfl) pa_nil)))
      (pe_one (pe_not (pe_callB call_isinst (by rfl) T.isinstance PyProof.Rows.boot_isinstance (pa_cons (pv 0) (pa_cons (pe_bltn (v := .ty "bool") (by rfl) T.bool PySem.Pv.boot_bool rfl) pa_nil))))))), ?_⟩
    refine ⟨_, rfl, .int i, "int", .type "int", true, rfl, .int i, kit_same _ _, true, rfl, iteT ?_⟩
    exact ⟨_, rfl, .int i, "bool", .type "int", false, rfl, .int i, kit_int_bool _, false, rfl, k⟩
theorem scAt : FnScope ["_law_script", "_law_k"] ["_law_script", "_law_k"] (defScope sAt) := ⟨rfl, rfl, rfl, by decide +kernel, rfl, by decide +kernel, by decide +kernel⟩
theorem ok_at {f : Addr} {fd : FuncData} (F : Def K mg "_law_at" sAt f fd ["_law_script", "_law_k"]) (T : Own mg) : FnOk P w K mg base CX0 1 f fd ["_law_script", "_law_k"] (spAt K) := by
  refine F.fn.ok scAt (fun vs H Q E h => ?_) (fun cdv A outer s H vs Q E hr h => ?_)
  · obtain ⟨a, ns, k, rfl, _⟩ := h
    rfl
  · obtain ⟨a, ns, i, rfl, hS, k⟩ := h
    refine ⟨_, pss_cons (ps_if (pt_cmpR op_lt (pv 1) (pe_callB call_len_seq (by rfl) T.len PySem.boot_len (pa_cons (pv 0) pa_nil)) (nomark _)) (pss_one (ps_ret (pe_ix ix_list (pv 0) (pv 1) (fun _ _ => rfl)))) pss_nil)
      (pss_one (ps_ret pe_int)), ?_⟩
    refine ⟨_, rfl, _, rfl, a, _, rfl, .inl hS, _, _, rfl, rfl, _, rfl, ?_⟩
    rw [show (zs ns).length = ns.length from List.length_map _]
    refine if2 (fun hlt => ?_) fun hge => ?_
    · have hi : i < ns.length := by omega
      have e : (zs ns)[i]? = some (V.int (cell ns i)) := by simp [zs, cell, hi]
      exact ⟨_, rfl, _, rfl, a, zs ns, i, _, rfl, rfl, hS, atI_nat e, k⟩
    · have e : cell ns i = 0 := by
        unfold cell
        rw [List.getElem?_eq_none (by omega)]; rfl
      rw [e] at k
      exact k
theorem scOn : FnScope ["given", "lists"] ["given", "lists"] (defScope sOne) := ⟨rfl, rfl, rfl, by decide +kernel, rfl, by decide +kernel, by decide +kernel⟩
theorem ndOn : (["place", "count", "lists"] : List Str).Nodup := by decide +kernel
theorem ok_one {f : Addr} {fd : FuncData} (F : Def K mg "one_each" sOne f fd ["given", "lists"]) (T : Own mg) : FnOk P w K mg base CX0 1 f fd ["given", "lists"] (spOne K) := by
  refine F.fn.ok scOn (fun vs H Q E h => ?_) (fun cdv A outer s H vs Q E hr h => ?_)
  · obtain ⟨a, b, g, t, rfl, _⟩ := h
    rfl
  · obtain ⟨a, b, g, t, rfl, hS, hT, few, k⟩ := h
    refine ⟨_, (pss_one (ps_ret (pe_comp (g := gTup K 2 (gCons (gName 0) (gCons (gName 1) gNil))) (N := ["place", "count", "lists"]) (ix := [none, none, some 1]) (compScope (sc := defScope sOne) (XN := ["given", "lists"]) rfl rfl (by decide +kernel)) rfl (pi_enum (by rfl) T.enumerate (pa_cons (pv 0) pa_nil))
        (fun _ _ _ _ => (pg_tup (n := 2) rfl (pgs_cons (pg_name (i := 0) ndOn rfl (Or.inl rfl) (Or.inr rfl)) (pgs_cons (pg_name (i := 1) ndOn rfl (Or.inl rfl) (Or.inr rfl)) pgs_nil))))
        (fun _ _ _ _ => pts_nil)
        (fun _ _ _ _ => pe_ifExp (pt_cmpR (show OpR _ (compareOp .In) (rIn K false) from op_in_seq) (pv 0) (pv 2) rfl) (pe_op op_add (pv 1) pe_int) (pv 1))))), ?_⟩
    refine ⟨_, rfl, a, zs g, rfl, hS, fun p hp => ?_⟩
    have hz : (zs g).length < sizeLine := by rw [List.length_map]; exact Nat.lt_of_lt_of_le few (by decide)
    refine comp_enum (fun _ _ => true) (oneV t) (by decide) hp hS hz (fun i x H' R hx hs hR => hR) (fun i x H' R hx hs hR => ?_) fun H' hs hH => ?_
    · obtain ⟨c, hc, rfl⟩ := zs_get hx
      refine ⟨_, rfl, _, rfl, b, nats t, rfl, .inl (hs.seq hT), rfl, flat_nats t, _, rfl, ?_⟩
      rw [if_neg Bool.false_ne_true, inV_nats]
      by_cases hi : i ∈ t
      · rw [decide_eq_true hi]
        have hR : R (.int (if i ∈ t then c + 1 else c)) H' := hR
        rw [if_pos hi] at hR
        refine iteT ?_
        exact ⟨_, rfl, _, _, rfl, rfl, hR⟩
      · rw [decide_eq_false hi]
        have hR : R (.int (if i ∈ t then c + 1 else c)) H' := hR
        rw [if_neg hi] at hR
        refine iteF ?_
        exact ⟨_, rfl, hR⟩
    · rw [one_each_zs] at hH
      exact k p H' hp hs hH
theorem scMu : FnScope ["deal"] ["deal"] (defScope sMust) := ⟨rfl, rfl, rfl, by decide +kernel, rfl, by decide +kernel, by decide +kernel⟩
theorem ok_must {f : Addr} {fd : FuncData} (F : Def K mg "must_draw" sMust f fd ["deal"]) (T : Own mg) : FnOk P w K mg base CX0 1 f fd ["deal"] spMust := by
  refine F.fn.ok scMu (fun vs H Q E h => ?_) (fun cdv A outer s H vs Q E hr h => ?_)
  · obtain ⟨q, pg, pt, g, t, fr, rfl, _⟩ := h
    rfl
  · obtain ⟨q, pg, pt, g, t, fr, rfl, ⟨hq, hg, ht⟩, k⟩ := h
    refine ⟨_, (pss_one (ps_ret (pe_cmpR op_gt (pe_callB call_len_seq (by rfl) T.len PySem.boot_len (pa_cons (pe_ix ix_tup (pv 0) pe_int (fun _ _ => rfl)) pa_nil)) pe_int (nomark _)))), ?_⟩
    have tl : (nats t).length = t.length := by unfold nats; rw [List.length_map]
    refine ⟨_, rfl, q, _, 1, _, rfl, rfl, SqT.of hq, rfl, pt, _, rfl, .inl (SqL.of ht), _, _, rfl, rfl, ?_⟩
    rw [tl]
    show Q (.bl (decide ((0 : Int) < (t.length : Int)))) H
    have e : decide ((0 : Int) < (t.length : Int)) = decide (0 < t.length) := decide_eq_decide.mpr ⟨fun h => by omega, fun h => by omega⟩
    rw [e]
    exact k
theorem scMi : FnScope ["tied", "lot", "place"] ["tied", "lot"] (defScope sMiss) := ⟨rfl, rfl, rfl, by decide +kernel, rfl, by decide +kernel, by decide +kernel⟩
theorem ok_miss {f : Addr} {fd : FuncData} (F : Def K mg "refuse_if_one_is_missing" sMiss f fd ["tied", "lot"]) (R : Refs K mg C S L) : FnOk P w K mg base (CXc P w .none) 1 f fd ["tied", "lot"] (spMiss K C) := by
  refine F.fn.okC scMi (fun vs H Q E h => ?_) (fun cdv A outer s H vs Q E _ hr h => ?_)
  · obtain ⟨pt, l, t, lot, rfl, _⟩ := h
    rfl
  · obtain ⟨pt, l, t, lot, rfl, hT, hL, k1, k2⟩ := h
    have hE : PassesOwn (model P w) (A.deeper (PyProof.Rows.envOfC "refuse_if_one_is_missing" (defScope sMiss) s.heap.objs.size f cdv)) (PyProof.Rows.envOfC "refuse_if_one_is_missing" (defScope sMiss) s.heap.objs.size f cdv) (cxOf (CXc P w .none) P w K mg base ["tied", "lot", "place"] "refuse_if_one_is_missing" (defScope sMiss) f cdv A outer s H E).xe := by passes_own
    refine ⟨_, (pss_one (ps_for hE rfl (pi_list (pv 0)) (pg_name (i := 2) scMi.nd rfl (Or.inl rfl)) (pss_one (ps_if (pt_cmpR op_notIn_seq (pv 2) (pv 1) rfl) (pss_one (ps_raise rfl R.nC R.ex PySem.F.excBase_ValueError rfl raise_outC (pa_cons pe_str pa_nil))) pss_nil)))), ?_⟩
    refine ⟨_, rfl, pt, rfl, ⟨_, hT⟩, for_list (K := K) (a := pt) (xs := nats t) (fun i σ H' => ∃ x2 : Option V, σ = [some (.ref pt), some (.ref l), x2] ∧ H' = H ∧ ∀ m, m < i → ∀ j, t[m]? = some j → j ∈ lot) ⟨none, rfl, rfl, fun m hm => absurd hm (Nat.not_lt_zero _)⟩ (fun i σ H' _ ⟨_, _, e, _⟩ => by rw [e]; exact hT) ?_ ?_⟩
    · rintro i x σ H' hx ⟨x2, rfl, rfl, ih⟩
      obtain ⟨j, hj, rfl⟩ := nats_get hx
      refine ⟨_, rfl, _, rfl, l, _, rfl, .inl hL, rfl, flat_nats lot, _, rfl, ?_⟩
      rw [if_pos rfl, notin_nats]
      by_cases hin : j ∈ lot
      · rw [decide_eq_true hin]
        refine iteF ⟨_, rfl, rfl, fun m hm j' hj' => ?_⟩
        by_cases e : m = i
        · subst e; rw [hj] at hj'; cases hj'; exact hin
        · exact ih m (by omega) j' hj'
      · rw [decide_eq_false hin]
        exact iteT ⟨by show 1 ≤ sizeLine; decide, k2 ⟨j, List.mem_of_getElem? hj, hin⟩⟩
    · rintro σ H' ⟨x2, rfl, rfl, ih⟩
      refine k1 fun j hj => ?_
      obtain ⟨m, hm, e⟩ := List.mem_iff_getElem.mp hj
      exact ih m (by unfold nats; rw [List.length_map]; exact hm) j (by rw [List.getElem?_eq_getElem hm, e])
theorem ok_missH {e0 C0 : Addr} {f : Addr} {fd : FuncData} (F : Def K mg "refuse_if_one_is_missing" sMiss f fd ["tied", "lot"]) (R : Refs K mg C S L) : FnOkH P w K mg base (CXc P w (.ref e0)) e0 C0 1 f fd ["tied", "lot"] (spMissH K C) := by
  refine F.fn.okH scMi (fun vs H Q E h => ?_) (fun cdv A outer s H vs Q E hr hot h => ?_)
  · obtain ⟨pt, l, t, lot, rfl, _⟩ := h
    rfl
  · obtain ⟨pt, l, t, lot, rfl, hT, hL, hm, k⟩ := h
    have hE : PassesOwn (model P w) (A.deeper (PyProof.Rows.envOfC "refuse_if_one_is_missing" (defScope sMiss) s.heap.objs.size f cdv)) (PyProof.Rows.envOfC "refuse_if_one_is_missing" (defScope sMiss) s.heap.objs.size f cdv) (cxOf (CXc P w (.ref e0)) P w K mg base ["tied", "lot", "place"] "refuse_if_one_is_missing" (defScope sMiss) f cdv A outer s H E).hot.xe := by passes_own
    refine ⟨_, (pss_one (ps_forH hE (pv 0) (pg_name (i := 2) scMi.nd rfl (Or.inl rfl)) (pss_one (ps_if (pt_cmpR op_notIn_seq (pv 2) (pv 1) rfl) (pss_one (ps_raiseH (e0 := e0) (C0 := C0) rfl R.nC R.ex PySem.F.excBase_ValueError hr.hd raise_outH (pa_cons pe_str pa_nil))) pss_nil)))), ?_⟩
    refine ⟨_, rfl, pt, rfl, ⟨_, hT⟩, fun i m σ H' => m = t.length - i ∧ i ≤ t.length ∧ ∃ x2 : Option V, σ = [some (.ref pt), some (.ref l), x2] ∧ H' = H ∧ ∀ m, m < i → ∀ j, t[m]? = some j → j ∈ lot, ⟨_, rfl, Nat.zero_le _, none, rfl, rfl, fun m hm => absurd hm (Nat.not_lt_zero _)⟩, ?_⟩
    rintro i m σ H' ⟨rfl, hi, x2, rfl, rfl, ih⟩
    have hlt : i < t.length := by
      refine Nat.lt_of_not_le fun hge => ?_
      obtain ⟨j, hj, hn⟩ := hm
      obtain ⟨m, hm', e⟩ := List.mem_iff_getElem.mp hj
      exact hn (ih m (by omega) j (by rw [List.getElem?_eq_getElem hm', e]))
    have hj : t[i]? = some t[i] := List.getElem?_eq_getElem hlt
    refine ⟨nats t, .int (t[i] : Int), hT, by unfold nats; rw [List.getElem?_map, hj]; rfl, fun σ' H'' => ∃ x2 : Option V, σ' = [some (.ref pt), some (.ref l), x2] ∧ H'' = H' ∧ ∀ m, m < i + 1 → ∀ j, t[m]? = some j → j ∈ lot, fun σ' H'' ⟨x2, e1, e2, e3⟩ => ⟨t.length - (i + 1), by omega, rfl, hlt, x2, e1, e2, e3⟩, ?_⟩
    refine ⟨_, rfl, _, rfl, l, _, rfl, .inl hL, rfl, flat_nats lot, _, rfl, ?_⟩
    rw [if_pos rfl, notin_nats]
    by_cases hin : t[i] ∈ lot
    · rw [decide_eq_true hin]
      refine iteF ⟨_, rfl, rfl, fun m hm j' hj' => ?_⟩
      by_cases e : m = i
      · subst e; rw [hj] at hj'; cases hj'; exact hin
      · exact ih m (by omega) j' hj'
    · rw [decide_eq_false hin]
      exact iteT ⟨by show 1 ≤ sizeLine; decide, hot, k⟩
abbrev nSe : List Str := ["deal", "lot", "given", "tied", "free", "drawn"]
theorem scSe : FnScope nSe ["deal", "lot"] (defScope sSet) := ⟨rfl, rfl, rfl, by decide +kernel, rfl, by decide +kernel, by decide +kernel⟩
abbrev qS : Str := ("settled" ++ ".<locals>." : Str) ++ "<lambda>"
theorem ckS : ckLam (defScope sSet) nSe (lamScope (keyLam sSet 4)) "place" ["lot"] [1] = true := by decide +kernel
theorem ok_set {Z : Tabs} {f fM fO cS tS : Addr} {fd fdM fdO : FuncData} (F : Def K mg "settled" sSet f fd ["deal", "lot"]) (FM : Def K mg "refuse_if_one_is_missing" sMiss fM fdM ["tied", "lot"]) (FO : Def K mg "one_each" sOne fO fdO ["given", "lists"]) (T : Own mg) (R : Refs K mg C S L)
    (hB : Bm mg base) (hC : PySem.W.CodeHd base cS tS) (hcode : fd.code = .ref cS) (hz : (tS, qS) ∈ Z) (hZ : ∀ z ∈ Z, z.1 = tS → z.2 = qS) : FnOk P w K mg base (CXc P w .none) 2 f fd ["deal", "lot"] (spSet K Z C) := by
  have GM : FnOk P w K mg base (CXc P w .none) 1 fM fdM ["tied", "lot"] (spMiss K C) := ok_miss FM R
  have GO : FnOk P w K mg base CX0 1 fO fdO ["given", "lists"] (spOne K) := ok_one FO T
  refine F.fn.okC scSe (fun vs H Q E h => ?_) (fun cdv A outer s H vs Q E hcd hr h => ?_)
  · obtain ⟨q, pg, pt, l, g, t, lot, fr, rfl, _⟩ := h
    rfl
  · obtain ⟨q, pg, pt, l, g, t, lot, fr, rfl, ⟨hq, hg, ht⟩, hL, gf, tf, lf, hTb, k1, k2⟩ := h
    have hcode' : (cxOf (CXc P w .none) P w K mg base nSe "settled" (defScope sSet) f cdv A outer s H E).env.code = .ref cS := hcd.symm.trans hcode
    refine ⟨_, (pss_cons (ps_set (i := 2) scSe.nd rfl (Or.inl rfl) (pe_ix ix_tup (pv 0) pe_int (fun _ _ => rfl)))
      (pss_cons (ps_set (i := 3) scSe.nd rfl (Or.inl rfl) (pe_ix ix_tup (pv 0) pe_int (fun _ _ => rfl)))
      (pss_cons (ps_set (i := 4) scSe.nd rfl (Or.inl rfl) (pe_ix ix_tup (pv 0) pe_int (fun _ _ => rfl)))
      (pss_cons (ps_expr (pe_call GM hr rfl FM.name FM.fn.kp FM.bind .nil pass_onC (pa_cons (pv 3) (pa_cons (pv 1) pa_nil))))
      (pss_cons (ps_set (i := 5) scSe.nd rfl (Or.inl rfl) (pe_sortKey (i := 1) (q := qS) (params := lamArgs (keyLam sSet 4)) (body := lamBody (keyLam sSet 4)) (scope := lamScope (keyLam sSet 4)) hr (by rfl) T.sorted (pa_cons (pv 3) pa_nil)
        (pk_cons (pe_lam (Z := Z) hB hC hcode' (clo_of rfl rfl (fun y hy => cell_has hy) ckS) rfl hz hZ) pk_nil) rfl rfl rfl rfl rfl rfl rfl rfl rfl (by decide +kernel) (fun _ _ _ _ => rfl) rfl))
      (pss_one (ps_ret (pe_call GO hr rfl FO.name FO.fn.kp FO.bind .nil pass0 (pa_cons (pv 2) (pa_cons (pe_slice sl_list (pv 5) po_none (po_some (pv 4))) pa_nil)))))))))), ?_⟩
    refine ⟨_, rfl, q, _, 0, _, rfl, rfl, SqT.of hq, rfl, ?_⟩
    refine ⟨_, rfl, q, _, 1, _, rfl, rfl, SqT.of hq, rfl, ?_⟩
    refine ⟨_, rfl, q, _, 2, _, rfl, rfl, SqT.of hq, rfl, ?_⟩
    refine ⟨_, rfl, _, rfl, pt, l, t, lot, rfl, SqL.of ht, hL, fun hall => ?_, k2⟩
    refine ⟨_, rfl, hTb, fun fl pm c ct H2 s2 hfl la => ?_⟩
    refine ⟨pt, l, fl, c, t, lot, pm, ct, rfl, rfl, SqL.of (s2 _ _ ht), rfl, s2.seq hL, la, hall, tf, by omega, fun d out hd so => ?_⟩
    have s3 := same_upd (o := .lst (nats out)) hd
    refine ⟨_, rfl, _, rfl, _, rfl, (fr : Int), rfl, d, nats out, rfl, SqL.of upd_same, fun d2 hd2 => ?_⟩
    rw [cut_take, nats_take]
    have s4 := same_upd (o := .lst (nats (out.take fr))) hd2
    refine ⟨pg, d2, g, out.take fr, rfl, SqL.of (s4 _ _ (s3 _ _ (s2 _ _ hg))), SqL.of upd_same, gf, fun p H5 hp s5 h5 => ?_⟩
    exact k1 hall p out H5 (((s2.trans s3.sm).trans s4.sm).trans s5.sm) so h5
theorem ok_setH {e0 C0 : Addr} {f fM : Addr} {fd fdM : FuncData} (F : Def K mg "settled" sSet f fd ["deal", "lot"]) (FM : Def K mg "refuse_if_one_is_missing" sMiss fM fdM ["tied", "lot"]) (R : Refs K mg C S L) : FnOkH P w K mg base (CXc P w (.ref e0)) e0 C0 2 f fd ["deal", "lot"] (spSetH K C) := by
  have GM : FnOkH P w K mg base (CXc P w (.ref e0)) e0 C0 1 fM fdM ["tied", "lot"] (spMissH K C) := ok_missH FM R
  refine F.fn.okH scSe (fun vs H Q E h => ?_) (fun cdv A outer s H vs Q E hr hot h => ?_)
  · obtain ⟨q, pg, pt, l, g, t, lot, fr, rfl, _⟩ := h
    rfl
  · obtain ⟨q, pg, pt, l, g, t, lot, fr, rfl, ⟨hq, hg, ht⟩, hL, hm, k⟩ := h
    refine ⟨_, (pss_cons (ps_set (i := 2) scSe.nd rfl (Or.inl rfl) (pe_ix ix_tup (pv 0) pe_int (fun _ _ => rfl))) (pss_cons (ps_set (i := 3) scSe.nd rfl (Or.inl rfl) (pe_ix ix_tup (pv 0) pe_int (fun _ _ => rfl))) (pss_cons (ps_set (i := 4) scSe.nd rfl (Or.inl rfl) (pe_ix ix_tup (pv 0) pe_int (fun _ _ => rfl))) (pss_cons (ps_expr (pe_callH GM hr rfl FM.name FM.fn.kp FM.bind pass_onH (pa_cons (pv 3) (pa_cons (pv 1) pa_nil)))) pss_never)))), ?_⟩
    refine ⟨_, rfl, q, _, 0, _, rfl, rfl, SqT.of hq, rfl, ?_⟩
    refine ⟨_, rfl, q, _, 1, _, rfl, rfl, SqT.of hq, rfl, ?_⟩
    refine ⟨_, rfl, q, _, 2, _, rfl, rfl, SqT.of hq, rfl, ?_⟩
    exact ⟨_, rfl, _, rfl, hot, pt, l, t, lot, rfl, SqL.of ht, hL, hm, k⟩
abbrev nU : List Str := ["_law_deal", "_law_lot", "e", "_law_kinds"]
theorem scU : FnScope nU ["_law_deal", "_law_lot"] (defScope sBase) := ⟨rfl, rfl, rfl, by decide +kernel, rfl, by decide +kernel, by decide +kernel⟩
theorem ok_base {e0 C0 : Addr} {f fS fM : Addr} {fd fdS fdM : FuncData} (F : Def K mg "_law_under_base" sBase f fd ["_law_deal", "_law_lot"]) (FS : Def K mg "settled" sSet fS fdS ["deal", "lot"]) (FM : Def K mg "refuse_if_one_is_missing" sMiss fM fdM ["tied", "lot"]) (T : Own mg) (R : Refs K mg C S L) :
    FnOkH P w K mg base CX0 e0 C0 3 f fd ["_law_deal", "_law_lot"] (spBaseH K) := by
  have GS : FnOkH P w K mg base (CXc P w (.ref e0)) e0 C0 2 fS fdS ["deal", "lot"] (spSetH K C) := ok_setH FS FM R
  refine F.fn.okH scU (fun vs H Q E h => ?_) (fun cdv A outer s H vs Q E hr hot h => ?_)
  · obtain ⟨q, pg, pt, l, g, t, lot, fr, rfl, _⟩ := h
    rfl
  · obtain ⟨q, pg, pt, l, g, t, lot, fr, rfl, hd, hL, hm, k⟩ := h
    refine ⟨_, pss_cons (ps_tryAsC (i := 2) (psc_expr (pec_callH GS hr rfl FS.name FS.fn.kp FS.bind (pa_cons (pv 0) (pa_cons (pv 1) pa_nil)))) ⟨rfl, R.nS, R.eS, R.tS⟩ scU.nd rfl rfl
        (fun _ => pss_cons (ps_set (i := 3) scU.nd rfl (Or.inl rfl) (pe_lst (pa_cons (pe_callB call_isinstE (by rfl) T.isinstance PyProof.Rows.boot_isinstance (pa_cons (pv 2) (pa_cons (pe_glob (v := .ref L) (by rfl) R.nL rfl) pa_nil)))
            (pa_cons (pe_callB call_isinstE (by rfl) T.isinstance PyProof.Rows.boot_isinstance (pa_cons (pv 2) (pa_cons (pe_glob (v := .ref C) (by rfl) R.nC rfl) pa_nil))) pa_nil))))
          (pss_one (ps_ret (pe_and (pe_callB call_isinstT (by rfl) T.isinstance PyProof.Rows.boot_isinstance (pa_cons (pv 2) (pa_cons (pe_bltn (v := .ty "ValueError") (by rfl) R.nV PyProof.Rows.Boot.«ValueError» rfl) pa_nil)))
            (pe_one (pe_cmpR op_eq (pe_bm PySem.F.plainAttrs_list PySem.F.slot_list_count PySem.F.type_list_count mt_countB (pv 3) (pa_cons pe_bl pa_nil)) pe_int (nomark _))))))))
      (pss_one (ps_ret pe_bl)), ?_⟩
    refine ⟨_, rfl, _, rfl, hot, q, pg, pt, l, g, t, lot, fr, rfl, hd, hL, hm, C, rfl, R.mS, fun e he => ?_⟩
    refine ⟨_, rfl, e, C, L, false, rfl, upd_same, R.eC, R.kL, ?_⟩
    refine ⟨_, rfl, e, C, C, true, rfl, upd_same, R.eC, R.kC, ?_⟩
    refine ⟨by show 2 ≤ sizeLine; decide, fun p hp => ?_⟩
    have nel : e ≠ p := fun z => by rw [← z, upd_same] at hp; cases hp
    refine ⟨_, rfl, e, C, "ValueError", true, rfl, by rw [upd_ne nel]; exact upd_same, R.eC, R.kV, true, rfl, iteT ?_⟩
    refine ⟨_, rfl, .inl ⟨rfl, _, SqL.of upd_same⟩, p, [false, true], true, rfl, rfl, upd_same, rfl, ?_⟩
    exact k _ ((same_upd he).trans (same_upd hp))
end
end K6
end

section
/-! lots: the tied in the order of the lot -/
namespace ML
theorem nodup_perm : ∀ (l m : List Nat), l.Nodup → m.Nodup → (∀ x, x ∈ l ↔ x ∈ m) → l.Perm m
  | [], m, _, _, h => by
    cases m with
    | nil => exact .nil
    | cons a r => exact absurd ((h a).mpr List.mem_cons_self) (by simp)
  | a :: r, m, hl, hm, h => by
    obtain ⟨h1, h2⟩ := List.nodup_cons.mp hl
    have ha : a ∈ m := (h a).mp List.mem_cons_self
    refine .trans (.cons a (nodup_perm r (m.erase a) h2 (hm.erase a) fun x => ?_)) (List.perm_cons_erase ha).symm
    rw [hm.mem_erase_iff]
    constructor
    · intro hx
      exact ⟨fun e => h1 (e ▸ hx), (h x).mp (List.mem_cons_of_mem _ hx)⟩
    · rintro ⟨e, hx⟩
      rcases List.mem_cons.mp ((h x).mpr hx) with z | z
      · exact absurd z e
      · exact z
theorem idx_at : ∀ (l : List Nat), l.Nodup → ∀ (i : Nat) (h : i < l.length), l.idxOf l[i] = i
  | [], _, _, h => absurd h (Nat.not_lt_zero _)
  | a :: r, hl, 0, _ => by simp
  | a :: r, hl, i + 1, h => by
    obtain ⟨h1, h2⟩ := List.nodup_cons.mp hl
    have hi : i < r.length := by simpa using h
    have ne : a ≠ r[i] := fun e => h1 (e ▸ List.getElem_mem hi)
    have e : (a == r[i]) = false := by simpa using ne
    rw [List.getElem_cons_succ, List.idxOf_cons, e]
    simp [idx_at r h2 i hi]
theorem rises {l : List Nat} (h : l.Nodup) : l.Pairwise fun a b => l.idxOf a < l.idxOf b := by
  rw [List.pairwise_iff_getElem]
  intro i j hi hj hij
  rw [idx_at l h i hi, idx_at l h j hj]
  exact hij
theorem same_order (key : Nat → Nat) : ∀ (l m : List Nat), l.Perm m → l.Pairwise (fun a b => key a ≤ key b) → m.Pairwise (fun a b => key a ≤ key b) → (∀ a ∈ l, ∀ b ∈ l, key a = key b → a = b) → l = m
  | [], m, p, _, _, _ => by
    have := p.length_eq
    cases m with
    | nil => rfl
    | cons a r => simp at this
  | a :: r, m, p, hl, hm, inj => by
    cases m with
    | nil => have := p.length_eq; simp at this
    | cons b s =>
      obtain ⟨l1, l2⟩ := List.pairwise_cons.mp hl
      obtain ⟨m1, m2⟩ := List.pairwise_cons.mp hm
      have e : a = b := by
        by_cases hab : a = b
        · exact hab
        · have ha : a ∈ s := (List.mem_cons.mp (p.mem_iff.mp List.mem_cons_self)).elim (fun z => absurd z hab) id
          have hb : b ∈ r := (List.mem_cons.mp (p.mem_iff.mpr List.mem_cons_self)).elim (fun z => absurd z.symm hab) id
          have k1 := l1 b hb
          have k2 := m1 a ha
          exact inj a List.mem_cons_self b (List.mem_cons_of_mem _ hb) (by omega)
      subst e
      rw [same_order key r s p.cons_inv l2 m2 fun x hx y hy => inj x (List.mem_cons_of_mem _ hx) y (List.mem_cons_of_mem _ hy)]
theorem sort_eq {lot t out : List Nat} (hl : lot.Nodup) (ht : t.Nodup) (sub : ∀ j ∈ t, j ∈ lot) (p : out.Perm t) (srt : out.Pairwise fun a b => lot.idxOf a ≤ lot.idxOf b) : out = lot.filter fun j => decide (j ∈ t) := by
  have mem : ∀ x, x ∈ lot.filter (fun j => decide (j ∈ t)) ↔ x ∈ t := fun x => by
    rw [List.mem_filter, decide_eq_true_iff]
    exact ⟨fun h => h.2, fun h => ⟨sub x h, h⟩⟩
  have p2 : (lot.filter fun j => decide (j ∈ t)).Perm t := nodup_perm _ _ (hl.filter _) ht mem
  refine same_order (fun j => lot.idxOf j) _ _ (p.trans p2.symm) srt (((rises hl).filter _).imp fun h => Nat.le_of_lt h) fun a ha b hb e => ?_
  have ha' := sub a (p.mem_iff.mp ha)
  have hb' := sub b (p.mem_iff.mp hb)
  obtain ⟨i, hi, e1⟩ := List.mem_iff_getElem.mp ha'
  obtain ⟨j, hj, e2⟩ := List.mem_iff_getElem.mp hb'
  have e' : lot.idxOf a = lot.idxOf b := e
  rw [← e1, ← e2, idx_at lot hl i hi, idx_at lot hl j hj] at e'
  subst e'
  rw [← e1, ← e2]
/-- one more is put in -/
theorem put_in {lot : List Nat} {n k : Nat} (h : lot.Perm (List.range k)) : (lot.take n ++ k :: lot.drop n).Perm (List.range (k + 1)) := by
  rw [List.range_succ]
  refine .trans List.perm_middle ?_
  rw [List.take_append_drop]
  exact (List.Perm.cons k h).trans (List.perm_append_singleton k _).symm
/-- one is taken out -/
theorem take_out {lot gone r : List Nat} {i j : Nat} (h : (lot ++ gone).Perm r) (hi : lot[i]? = some j) : (lot.eraseIdx i ++ (gone ++ [j])).Perm r := by
  obtain ⟨hlt, e⟩ := List.getElem?_eq_some_iff.mp hi
  have p : lot.Perm (j :: lot.eraseIdx i) := by
    rw [List.eraseIdx_eq_take_drop_succ]
    have q : lot = lot.take i ++ j :: lot.drop (i + 1) := by rw [← e, ← List.drop_eq_getElem_cons hlt, List.take_append_drop]
    exact (List.Perm.of_eq q).trans List.perm_middle
  refine .trans ?_ h
  refine .trans ?_ (p.append_right gone).symm
  rw [← List.append_assoc]
  exact List.perm_append_singleton j _
theorem parts {lot gone : List Nat} {n : Nat} (h : (lot ++ gone).Perm (List.range n)) : lot.Nodup ∧ (∀ j, j < n → j ∈ lot ∨ j ∈ gone) ∧ (∀ j ∈ lot, j < n) ∧ (∀ j ∈ gone, j ∉ lot) ∧ lot.length ≤ n ∧ gone.length ≤ n := by
  have nd : (lot ++ gone).Nodup := h.nodup_iff.mpr List.nodup_range
  obtain ⟨n1, n2, n3⟩ := List.nodup_append.mp nd
  have len := h.length_eq
  rw [List.length_append, List.length_range] at len
  refine ⟨n1, fun j hj => List.mem_append.mp (h.mem_iff.mpr (List.mem_range.mpr hj)), fun j hj => List.mem_range.mp (h.mem_iff.mp (List.mem_append_left _ hj)), fun j hj hl => n3 j hl j hj rfl, by omega, by omega⟩
end ML
end

section
set_option Elab.async false
set_option linter.all false
set_option maxRecDepth 100000
set_option maxHeartbeats 4000000
namespace K6
open PySem L2 LC
def spLot (K : PySem.W.Frag) : Sp := fun vs H Q _ => ∃ (a : Addr) (cs : List Int), vs = [.ref a] ∧ SqL K H a (zs cs) ∧ cs.length < 64 ∧ ∀ p H' lot, Same H H' → H p = none → H' p = some (.lst (nats lot)) → lot.Perm (List.range cs.length) → Q (.ref p) H'
theorem nats_len (t : List Nat) : (nats t).length = t.length := by unfold nats; rw [List.length_map]
theorem nats_put (lot : List Nat) (n k : Nat) : (nats lot).take n ++ V.int (k : Int) :: (nats lot).drop n = nats (lot.take n ++ k :: lot.drop n) := by
  unfold nats
  rw [List.map_append, List.map_cons, List.map_take, List.map_drop]
theorem same_at {H H' : Hp} {p : Addr} {o : HO} (s : Same H H') (h : H p = none) : Same H (upd H' p o) := fun b u e => by rw [upd_ne (ne_of_none e h)]; exact s b u e
theorem nat_of {x : Int} {n : Nat} (h0 : 0 ≤ x) (h1 : x < n + 1) : ∃ m : Nat, x = (m : Int) ∧ m ≤ n := ⟨x.toNat, by omega, by omega⟩
section
variable {P : Program} {w : World} {K : PySem.W.Frag} {mg : Str → Option Value} {base : Heap} {C S L : Addr} {Z : Tabs}
theorem scLt : FnScope ["_law_cells", "_law_lot", "_law_k"] ["_law_cells"] (defScope sLot) := ⟨rfl, rfl, rfl, by decide +kernel, rfl, by decide +kernel, by decide +kernel⟩
theorem ok_lot {f : Addr} {fd : FuncData} (F : Def K mg "_law_lot_drawn" sLot f fd ["_law_cells"]) (T : Own mg) : FnOk P w K mg base CX0 1 f fd ["_law_cells"] (spLot K) := by
  refine F.fn.ok scLt (fun vs H Q E h => ?_) (fun cdv A outer s H vs Q E hr h => ?_)
  · obtain ⟨a, cs, rfl, _⟩ := h
    rfl
  · obtain ⟨a, cs, rfl, hS, few, k⟩ := h
    refine ⟨_, (pss_cons (ps_set (i := 1) scLt.nd rfl (Or.inl rfl) (pe_lst pa_nil))
      (pss_cons (ps_for PassesOwn.never rfl (pi_range1 (by rfl) T.range (pa_cons (pe_callB call_len_seq (by rfl) T.len PySem.boot_len (pa_cons (pv 0) pa_nil)) pa_nil)) (pg_name (i := 2) scLt.nd rfl (Or.inl rfl))
      (pss_one (ps_expr (pe_bm PySem.F.plainAttrs_list PySem.F.slot_list_insert PySem.F.type_list_insert mt_insert (pv 1) (pa_cons (pe_op op_mod (pe_op op_mod (pe_op op_mul (pe_ix ix_list (pv 0) (pv 2) (fun _ _ => rfl)) pe_int) pe_int) (pe_op op_add (pe_callB call_len_seq (by rfl) T.len PySem.boot_len (pa_cons (pv 1) pa_nil)) pe_int)) (pa_cons (pv 2) pa_nil))))))
      (pss_one (ps_ret (pv 1))))), ?_⟩
    have vl : (zs cs).length = cs.length := List.length_map _
    refine ⟨Nat.zero_le _, fun p hp => ?_⟩
    have s0 := same_upd (o := .lst []) hp
    refine ⟨_, rfl, a, _, rfl, .inl (s0.seq hS), _, rfl, by rw [vl]; omega, by rw [vl]; omega, ?_⟩
    rw [vl, Int.toNat_natCast]
    refine for_range (lo := 0) (n := cs.length) (fun i σ H' => ∃ (x2 : Option V) (lot : List Nat), σ = [some (.ref a), some (.ref p), x2] ∧ Same H H' ∧ H' p = some (.lst (nats lot)) ∧ lot.Perm (List.range i)) ⟨none, [], rfl, s0, upd_same, .nil⟩ ?_ ?_
    · rintro i σ H' hi ⟨x2, lot, rfl, sm, hl, pm⟩
      rw [Int.zero_add]
      have ll : lot.length = i := by rw [pm.length_eq, List.length_range]
      obtain ⟨n, en, hn⟩ := nat_of (x := MD.at_ cs i * 48271 % 1009 % ((lot.length : Int) + 1)) (n := lot.length) (Int.emod_nonneg _ (by omega)) (Int.emod_lt_of_pos _ (by omega))
      refine ⟨_, rfl, .inl ⟨rfl, _, SqL.of hl⟩, _, rfl, _, rfl, a, _, (i : Int), _, rfl, rfl, sm.seq hS, atI_nat (zs_at hi), _, _, rfl, rfl, .inr ⟨by decide, by decide⟩, _, _, rfl, rfl, (show (0 : Int) < 1009 by decide), _, rfl, p, _, rfl, .inl (SqL.of hl), _, _, rfl, rfl, _, _, rfl, rfl, ?_, _, rfl, p, nats lot, n, .int (i : Int), rfl, ?_, hl, by rw [nats_len]; exact hn, by rw [nats_len]; omega, ?_⟩
      · show (0 : Int) < ((nats lot).length : Int) + 1
        omega
      · show [V.int (MD.at_ cs i * 48271 % 1009 % (((nats lot).length : Int) + 1)), V.int (i : Int)] = _
        rw [nats_len, en]
      · rw [nats_put]
        exact ⟨_, _, rfl, same_at sm hp, upd_same, ML.put_in pm⟩
    · rintro σ H' ⟨x2, lot, rfl, sm, hl, pm⟩
      exact ⟨_, rfl, k p H' lot sm hp hl pm⟩
end
end K6
end

section
set_option Elab.async false
set_option linter.all false
set_option maxRecDepth 100000
set_option maxHeartbeats 4000000
namespace K6
open PySem L2 LC
section
variable {P : Program} {w : World} {K : PySem.W.Frag} {mg : Str → Option Value} {base : Heap} {C S L : Addr} {Z : Tabs}
abbrev nL : List Str := ["_law_script", "_law_cells", "_law_given", "_law_tied", "_law_free", "_law_lot", "_law_gone", "_law_left", "_law_handed", "_law_drawn", "_law_draw", "_law_found", "_law_refused", "_law_first", "_law_k", "_law_spot"]
theorem ndC : (["_law_cell"] : List Str).Nodup := by decide +kernel
theorem ndK : (["_law_k", "_law_cells"] : List Str).Nodup := by decide +kernel
theorem ndT : (["_law_k", "_law_tied"] : List Str).Nodup := by decide +kernel
theorem nats_erase (l : List Nat) (m : Nat) : (nats l).eraseIdx m = nats (l.eraseIdx m) := by
  unfold nats
  rw [List.eraseIdx_eq_take_drop_succ, List.eraseIdx_eq_take_drop_succ, List.map_append, List.map_take, List.map_drop]
theorem gname_step {i : Nat} {v : V} {σ : St} {H : Hp} {Q : St → Hp → Prop} (h : Q (σ.set i (some v)) H) : gName i v σ H Q := h
theorem set_c {i : Nat} {v : V} {u : TS} {D : Ends} {σ : St} {H : Hp} (h : u D (σ.set i (some v)) H) : tSeq (tAsg (tC v) (gName i)) u D σ H := h
theorem scL : FnScope nL ["_law_script"] (defScope sLaw) := ⟨rfl, rfl, rfl, by decide +kernel, rfl, by decide +kernel, by decide +kernel⟩
theorem ok_law {f0 fAt fI fLt fMu fS fM fO fU cS tS : Addr} {fd fdAt fdI fdLt fdMu fdS fdM fdO fdU : FuncData} (F : Def K mg "law" sLaw f0 fd ["_law_script"]) (FAt : Def K mg "_law_at" sAt fAt fdAt ["_law_script", "_law_k"]) (FI : Def K mg "_law_whole" sIsW fI fdI ["_law_found"])
    (FLt : Def K mg "_law_lot_drawn" sLot fLt fdLt ["_law_cells"]) (FMu : Def K mg "must_draw" sMust fMu fdMu ["deal"]) (FS : Def K mg "settled" sSet fS fdS ["deal", "lot"]) (FM : Def K mg "refuse_if_one_is_missing" sMiss fM fdM ["tied", "lot"])
    (FO : Def K mg "one_each" sOne fO fdO ["given", "lists"]) (FU : Def K mg "_law_under_base" sBase fU fdU ["_law_deal", "_law_lot"]) (T : Own mg) (R : Refs K mg C S L)
    (hB : Bm mg base) (hC : PySem.W.CodeHd base cS tS) (hcode : fdS.code = .ref cS) (hz : (tS, qS) ∈ Z) (hZ : ∀ z ∈ Z, z.1 = tS → z.2 = qS) : FnOk P w K mg base CX0 5 f0 fd ["_law_script"] (spLaw K Z) := by
  have GAt : FnOk P w K mg base CX0 1 fAt fdAt ["_law_script", "_law_k"] (spAt K) := ok_at FAt T
  have GI : FnOk P w K mg base CX0 1 fI fdI ["_law_found"] spIsW := ok_isW FI T
  have GLt : FnOk P w K mg base CX0 1 fLt fdLt ["_law_cells"] (spLot K) := ok_lot FLt T
  have GMu : FnOk P w K mg base CX0 1 fMu fdMu ["deal"] spMust := ok_must FMu T
  have GS : FnOk P w K mg base (CXc P w .none) 2 fS fdS ["deal", "lot"] (spSet K Z C) := ok_set FS FM FO T R hB hC hcode hz hZ
  have GU : ∀ a : Addr, FnOkH P w K mg base CX0 a C 3 fU fdU ["_law_deal", "_law_lot"] (spBaseH K) := fun a => ok_base FU FS FM T R
  refine F.fn.ok scL (fun vs H Q E h => ?_) (fun cdv A outer s H vs Q E hr h => ?_)
  · obtain ⟨a, ns, rfl, _⟩ := h
    rfl
  · obtain ⟨a, ns, rfl, hS, hl, hTb, k⟩ := h
    have hr1 : Room 1 _ := hr.mono (by decide)
    have hr2 : Room 2 _ := hr.mono (by decide)
    have hr3 : Room 3 _ := hr.mono (by decide)
    refine ⟨_, (pss_cons (ps_set (i := 1) scL.nd rfl (Or.inr rfl) (pe_slice sl_list (pv 0) (po_some pe_int) (po_some pe_int)))
      (pss_cons (ps_setComp (i := 2) (N := ["_law_cell"]) (ix := [none]) (compScope (sc := defScope sLaw) (XN := nL) rfl rfl (by decide +kernel)) rfl scL.nd rfl rfl (pi_list (pv 1)) (fun _ _ _ _ => pg_name (i := 0) ndC rfl (Or.inl rfl) (Or.inr rfl)) (fun _ _ _ _ => pts_nil)
        (fun _ _ _ _ => (pe_op op_mod (pe_op op_mod (pe_op op_mul (pv 0) pe_int) pe_int) pe_int)) rfl)
      (pss_cons (ps_if (pt_cmpR (op_neL hr.units) (pv 2) (pe_lst pa_nil) (nomark _)) (pss_one (ps_asg (pe_ix ix_list (pe_lst (pa_cons (pe_ix ix_list (pv 2) pe_int (fun _ _ => rfl)) (pa_cons pe_int pa_nil))) (pe_op op_mod (pe_op op_mod (pe_op op_mul (pe_call GAt hr1 rfl FAt.name FAt.fn.kp FAt.bind .nil pass0 (pa_cons (pv 0) (pa_cons pe_int pa_nil))) pe_int) pe_int) pe_int) (fun _ _ => rfl)) (pg_sub (pv 2) pe_int set_list))) pss_nil)
      (pss_cons (ps_set (i := 3) scL.nd rfl (Or.inr rfl) (pe_comp (N := ["_law_k", "_law_cells"]) (ix := [none, some 1]) (compScope (sc := defScope sLaw) (XN := nL) rfl rfl (by decide +kernel)) rfl (pi_range1 (by rfl) T.range (pa_cons (pe_callB call_len_seq (by rfl) T.len PySem.boot_len (pa_cons (pv 1) pa_nil)) pa_nil))
        (fun _ _ _ _ => pg_name (i := 0) ndK rfl (Or.inl rfl) (Or.inr rfl))
        (fun _ _ _ _ => pts_one (pt_cmpR op_eq (pe_op op_mod (pe_op op_mod (pe_op op_mul (pe_ix (show IxR _ (rIxL K) from ix_list) (pv 1) (pv 0) (fun _ _ => rfl)) pe_int) pe_int) pe_int) pe_int (nomark _)))
        (fun _ _ _ _ => (pv 0))))
      (pss_cons (ps_set (i := 4) scL.nd rfl (Or.inl rfl) pe_int)
      (pss_cons (ps_if (pt_cmpR op_gt (pe_callB call_len_seq (by rfl) T.len PySem.boot_len (pa_cons (pv 3) pa_nil)) pe_int (nomark _)) (pss_one (ps_set (i := 4) scL.nd rfl (Or.inl rfl) (pe_op op_add pe_int (pe_op op_mod (pe_op op_mod (pe_op op_mul (pe_call GAt hr1 rfl FAt.name FAt.fn.kp FAt.bind .nil pass0 (pa_cons (pv 0) (pa_cons pe_int pa_nil))) pe_int) pe_int) (pe_op op_sub (pe_callB call_len_seq (by rfl) T.len PySem.boot_len (pa_cons (pv 3) pa_nil)) pe_int))))) (pss_one (ps_set (i := 3) scL.nd rfl (Or.inr rfl) (pe_lst pa_nil))))
      (pss_cons (ps_set (i := 5) scL.nd rfl (Or.inl rfl) (pe_call GLt hr1 rfl FLt.name FLt.fn.kp FLt.bind .nil pass0 (pa_cons (pv 1) pa_nil)))
      (pss_cons (ps_set (i := 6) scL.nd rfl (Or.inl rfl) (pe_lst pa_nil))
      (pss_cons (ps_for PassesOwn.never rfl (pi_range1 (by rfl) T.range (pa_cons (pe_op op_sub (pe_op op_mod (pe_op op_mod (pe_op op_mul (pe_call GAt hr1 rfl FAt.name FAt.fn.kp FAt.bind .nil pass0 (pa_cons (pv 0) (pa_cons pe_int pa_nil))) pe_int) pe_int) pe_int) pe_int) pa_nil)) (pg_name (i := 14) scL.nd rfl (Or.inl rfl))
      (pss_one (ps_if (pt_cmpR (op_neL hr.units) (pv 5) (pe_lst pa_nil) (nomark _)) (pss_cons (ps_set (i := 15) scL.nd rfl (Or.inl rfl) (pe_op op_mod (pe_op op_mod (pe_op op_mul (pe_op op_add (pe_call GAt hr1 rfl FAt.name FAt.fn.kp FAt.bind .nil pass0 (pa_cons (pv 0) (pa_cons pe_int pa_nil))) (pe_op op_mul pe_int (pv 14))) pe_int) pe_int) (pe_callB call_len_seq (by rfl) T.len PySem.boot_len (pa_cons (pv 5) pa_nil))))
      (pss_one (ps_expr (pe_bm PySem.F.plainAttrs_list PySem.F.slot_list_append PySem.F.type_list_append mt_append (pv 6) (pa_cons (pe_bm PySem.F.plainAttrs_list PySem.F.slot_list_pop PySem.F.type_list_pop mt_popAt (pv 5) (pa_cons (pv 15) pa_nil)) pa_nil))))) pss_nil)))
      (pss_cons (ps_set (i := 7) scL.nd rfl (Or.inl rfl) (pe_cmpR op_gt (pe_callB call_len_seq (by rfl) T.len PySem.boot_len (pa_cons (pe_comp (N := ["_law_k", "_law_tied"]) (ix := [none, some 3]) (compScope (sc := defScope sLaw) (XN := nL) rfl rfl (by decide +kernel)) rfl (pi_list (pv 6))
        (fun _ _ _ _ => pg_name (i := 0) ndT rfl (Or.inl rfl) (Or.inr rfl))
        (fun _ _ _ _ => pts_one (pt_cmpR (show OpR _ (compareOp .In) (rIn K false) from op_in_seq) (pv 0) (pv 1) rfl))
        (fun _ _ _ _ => (pv 0))) pa_nil)) pe_int (nomark _)))
      (pss_cons (ps_set (i := 8) scL.nd rfl (Or.inl rfl) (pe_tup (pa_cons (pe_callTy call_list_of (by rfl) T.list PySem.Pv.boot_list (pa_cons (pv 2) pa_nil)) (pa_cons (pe_callTy call_list_of (by rfl) T.list PySem.Pv.boot_list (pa_cons (pv 3) pa_nil)) (pa_cons (pv 4) pa_nil)))))
      (pss_cons (ps_set (i := 9) scL.nd rfl (Or.inl rfl) (pe_callTy call_list_of (by rfl) T.list PySem.Pv.boot_list (pa_cons (pv 5) pa_nil)))
      (pss_cons (ps_set (i := 10) scL.nd rfl (Or.inl rfl) (pe_call GMu hr1 rfl FMu.name FMu.fn.kp FMu.bind .nil pass0 (pa_cons (pv 8) pa_nil)))
      (pss_cons (ps_set (i := 11) scL.nd rfl (Or.inl rfl) pe_non)
      (pss_cons (ps_set (i := 12) scL.nd rfl (Or.inl rfl) pe_bl)
      (pss_cons (ps_tryC (psc_set (i := 11) scL.nd rfl (Or.inl rfl) (pec_call GS hr2 rfl FS.name FS.fn.kp FS.bind (pa_cons (pv 8) (pa_cons (pv 9) pa_nil)))) ⟨rfl, R.nC, R.eC, R.tC⟩
        (fun a => pss_one (ps_set (i := 12) scL.nd rfl (Or.inl rfl) (pe_callH (GU a) (hr3.hot a) rfl FU.name FU.fn.kp FU.bind pass0 (pa_cons (pv 8) (pa_cons (pv 9) pa_nil))))))
      (pss_cons (ps_if (PW.pt (pw_or (pt_cmpR (op_neD hr.units) (pv 8) (pe_tup (pa_cons (pv 2) (pa_cons (pv 3) (pa_cons (pv 4) pa_nil)))) (nomark _)) (pw_or1 (pt_cmpR (op_neL hr.units) (pv 9) (pv 5) (nomark _))))) (pss_one (ps_ret pe_bl)) pss_nil)
      (pss_cons (ps_if (PW.pt (pw_or (pt_not (pt_val (pe_callB call_isinst (by rfl) T.isinstance PyProof.Rows.boot_isinstance (pa_cons (pv 10) (pa_cons (pe_bltn (v := .ty "bool") (by rfl) T.bool PySem.Pv.boot_bool rfl) pa_nil))))) (pw_or1 (pt_cmpR op_ne (pv 10) (pe_cmpR op_gt (pv 4) pe_int (nomark _)) (nomark _))))) (pss_one (ps_ret pe_bl)) pss_nil)
      (pss_cons (ps_if (PW.pt (pw_or (pt_val (pv 12)) (pw_or1 (pt_val (pv 7))))) (pss_one (ps_ret (pe_and (pv 12) (pe_one (pv 7))))) pss_nil)
      (pss_cons (ps_set (i := 13) scL.nd rfl (Or.inl rfl) (pe_slice sl_list (pe_comp (N := ["_law_k", "_law_tied"]) (ix := [none, some 3]) (compScope (sc := defScope sLaw) (XN := nL) rfl rfl (by decide +kernel)) rfl (pi_list (pv 5))
        (fun _ _ _ _ => pg_name (i := 0) ndT rfl (Or.inl rfl) (Or.inr rfl))
        (fun _ _ _ _ => pts_one (pt_cmpR (show OpR _ (compareOp .In) (rIn K false) from op_in_seq) (pv 0) (pv 1) rfl))
        (fun _ _ _ _ => (pv 0))) po_none (po_some (pv 4))))
      (pss_cons (ps_if (PW.pt (pw_or (pt_not (pt_val (pe_callB call_isinst (by rfl) T.isinstance PyProof.Rows.boot_isinstance (pa_cons (pv 11) (pa_cons (pe_bltn (v := .ty "list") (by rfl) T.list PySem.Pv.boot_list rfl) pa_nil))))) (pw_or1 (pt_cmpR op_ne (pe_callB call_len_seq (by rfl) T.len PySem.boot_len (pa_cons (pv 11) pa_nil)) (pe_callB call_len_seq (by rfl) T.len PySem.boot_len (pa_cons (pv 2) pa_nil)) (nomark _))))) (pss_one (ps_ret pe_bl)) pss_nil)
      (pss_cons (ps_for PassesOwn.never rfl (pi_range1 (by rfl) T.range (pa_cons (pe_callB call_len_seq (by rfl) T.len PySem.boot_len (pa_cons (pv 2) pa_nil)) pa_nil)) (pg_name (i := 14) scL.nd rfl (Or.inl rfl))
      (pss_one (ps_if (PW.pt (pw_or (pt_not (pt_val (pe_call GI hr1 rfl FI.name FI.fn.kp FI.bind .nil pass0 (pa_cons (pe_ix ix_list (pv 11) (pv 14) (fun _ _ => rfl)) pa_nil)))) (pw_or1 (pt_cmpR op_ne (pe_ix ix_list (pv 11) (pv 14) (fun _ _ => rfl)) (pe_op op_add (pe_ix ix_list (pv 2) (pv 14) (fun _ _ => rfl)) (pe_callTy call_int1 (by rfl) T.int PySem.Pv.boot_int (pa_cons (pe_cmpR op_in_seq (pv 14) (pv 13) rfl) pa_nil))) (nomark _))))) (pss_one (ps_ret pe_bl)) pss_nil)))
      (pss_one (ps_ret pe_bl)))))))))))))))))))))))), ?_⟩
    obtain ⟨cs, ecs, lcs, _⟩ := cut_zs ns (some 2) (some 100)
    have few : cs.length < 62 := by
      have : HT.sIx ns.length 0 (some 2) = min 2 ns.length := HT.sIx_nat ns.length 0 2
      rw [this] at lcs
      omega
    clear lcs
    have vl : (zs cs).length = cs.length := List.length_map _
    -- cells
    refine ⟨_, rfl, _, rfl, _, rfl, a, zs ns, rfl, hS, fun p0 hp0 => ?_⟩
    rw [ecs]
    have s0 := same_upd (o := .lst (zs cs)) hp0
    have hS0 := s0.seq hS
    have hT0 := hTb.same s0
    have hc0 : (upd H p0 (.lst (zs cs))) p0 = some (.lst (zs cs)) := upd_same
    generalize upd H p0 (.lst (zs cs)) = H0 at hS0 hT0 hc0 ⊢
    -- given
    refine ⟨_, rfl, p0, rfl, ⟨_, SqL.of hc0⟩, fun p1 hp1 => ?_⟩
    refine comp_map (xs := zs cs) (onInt fun c => c * 48271 % 1013 % 9) hp1 (SqL.of hc0) (by rw [vl]; exact Nat.le_trans (Nat.le_of_lt few) (by decide)) (fun i y ys R hy hR => ?_) ?_
    · obtain ⟨c, hc, rfl⟩ := zs_get hy
      exact ⟨_, rfl, _, _, rfl, rfl, .inr ⟨by decide, by decide⟩, _, _, rfl, rfl, (show (0 : Int) < 1013 by decide), _, _, rfl, rfl, (show (0 : Int) < 9 by decide), hR⟩
    rw [map_onInt]
    have s1 : Same H0 (upd H0 p1 (.lst (zs (cs.map fun c => c * 48271 % 1013 % 9)))) := same_upd hp1
    have hg1 : (upd H0 p1 (.lst (zs (cs.map fun c => c * 48271 % 1013 % 9)))) p1 = some (.lst (zs (cs.map fun c => c * 48271 % 1013 % 9))) := upd_same
    generalize upd H0 p1 (.lst (zs (cs.map fun c => c * 48271 % 1013 % 9))) = H1 at s1 hg1 ⊢
    have gl0 : (cs.map fun c => c * 48271 % 1013 % 9).length = cs.length := List.length_map _
    generalize (cs.map fun c => c * 48271 % 1013 % 9) = g0 at hg1 gl0 ⊢
    dsimp only [L2.start, gName, List.set]
    refine cut_rest (fun σ H' => ∃ g : List Int, σ = [some (.ref a), some (.ref p0), some (.ref p1), none, none, none, none, none, none, none, none, none, none, none, none, none] ∧ Same H0 H' ∧ H' p1 = some (.lst (zs g)) ∧ g.length = cs.length) ?_ ?_
    rotate_left
    · intro rest
      refine ⟨_, rfl, Nat.zero_le _, fun pe hpe => ⟨p1, pe, g0, [], rfl, rfl, SqL.of (same_upd hpe _ _ hg1), SqL.of upd_same, _, rfl, ?_⟩⟩
      have s2 := same_upd (o := .lst []) hpe
      by_cases hne : g0 = []
      · rw [decide_eq_true hne]
        exact iteF (rest _ _ ⟨g0, rfl, s1.trans s2, s2 _ _ hg1, gl0⟩)
      · rw [decide_eq_false hne]
        refine iteT ?_
        obtain ⟨c, r, rfl⟩ : ∃ c r, g0 = c :: r := by
          cases g0 with
          | nil => exact absurd rfl hne
          | cons c r => exact ⟨c, r, rfl⟩
        refine ⟨_, rfl, p1, _, 0, _, rfl, rfl, SqL.of (s2 _ _ hg1), atI_nat (j := 0) (show (zs (c :: r))[0]? = some (V.int c) from rfl), by show 2 ≤ sizeLine; decide, fun pk hpk => ?_⟩
        have s3 := same_upd (o := .lst [.int c, .int 1000]) hpk
        obtain ⟨y, hy⟩ : ∃ y : Int, atI [V.int c, V.int 1000] (cell ns 0 * 48271 % 1039 % 2) = some (.int y) := by
          have h0 := Int.emod_nonneg (cell ns 0 * 48271 % 1039) (by decide : (2 : Int) ≠ 0)
          have h1 := Int.emod_lt_of_pos (cell ns 0 * 48271 % 1039) (by decide : (0 : Int) < 2)
          have : cell ns 0 * 48271 % 1039 % 2 = 0 ∨ cell ns 0 * 48271 % 1039 % 2 = 1 := by omega
          rcases this with e | e
          · exact ⟨c, by rw [e]; rfl⟩
          · exact ⟨1000, by rw [e]; rfl⟩
        refine ⟨_, rfl, a, ns, 0, rfl, s3.seq (s2.seq (s1.seq hS0)), _, _, rfl, rfl, .inr ⟨by decide, by decide⟩, _, _, rfl, rfl, (show (0 : Int) < 1039 by decide), _, _, rfl, rfl, (show (0 : Int) < 2 by decide), pk, _, _, _, rfl, rfl, SqL.of upd_same, hy, ?_⟩
        refine ⟨_, rfl, p1, zs (c :: r), 0, 0, rfl, rfl, s3 _ _ (s2 _ _ hg1), by unfold ixN; rw [if_pos (by decide), if_pos (by simp)]; rfl, ?_⟩
        refine rest _ _ ⟨y :: r, rfl, same_at ((s1.trans s2).trans s3) hp1, upd_same, ?_⟩
        rw [List.length_cons] at gl0 ⊢
        exact gl0
    clear hg1 gl0 s1
    rintro _ H1 ⟨g, rfl, s1, hg1, gl⟩
    have hS1 := s1.seq hS0
    have hT1 := hT0.same s1
    have hc1 := s1 _ _ hc0
    clear s1
    -- tied
    refine ⟨_, rfl, p0, _, rfl, .inl (SqL.of hc1), _, rfl, by rw [vl]; omega, by rw [vl]; omega, ?_⟩
    rw [vl, Int.toNat_natCast]
    intro pt0 hpt0
    refine comp_rangeF (fun i => decide (V.int (MD.at_ cs i * 48271 % 1033 % 3) = V.int 0)) (fun i => V.int (i : Int)) hpt0 (Nat.le_trans (Nat.le_of_lt few) (by decide)) (fun i H' R hi sm hR => ?_) (fun i H' R hi sm hR => ⟨_, rfl, hR⟩) fun H2 s2 h2 => ?_
    · exact ⟨_, rfl, _, rfl, p0, _, (i : Int), _, rfl, rfl, SqL.of (sm _ _ hc1), atI_nat (zs_at hi), _, _, rfl, rfl, .inr ⟨by decide, by decide⟩, _, _, rfl, rfl, (show (0 : Int) < 1033 by decide), _, _, rfl, rfl, (show (0 : Int) < 3 by decide), rfl, _, rfl, hR⟩
    generalize ht0 : (List.range cs.length).filter (fun i => decide (V.int (MD.at_ cs i * 48271 % 1033 % 3) = V.int 0)) = t0 at h2
    have h2' : H2 pt0 = some (.lst (nats t0)) := h2
    clear h2
    have tr0 : t0.Pairwise (· < ·) := by rw [← ht0]; exact (List.pairwise_lt_range).filter _
    have tl0 : ∀ j ∈ t0, j < cs.length := fun j hj => by
      rw [← ht0] at hj
      exact List.mem_range.mp (List.mem_filter.mp hj).1
    clear ht0
    have hS2 := s2.seq hS1
    have hT2 := hT1.same s2
    have hc2 := s2 _ _ hc1
    have hg2 := s2 _ _ hg1
    clear s2 hT1 hS1 hc1 hg1
    -- free
    dsimp only [gName, List.set]
    refine cut_rest (fun σ H' => σ = [some (.ref a), some (.ref p0), some (.ref p1), some (.ref pt0), some (.int 0), none, none, none, none, none, none, none, none, none, none, none] ∧ H' = H2) ?_ (fun rest => rest _ _ ⟨rfl, rfl⟩)
    rintro _ H2 ⟨rfl, rfl⟩
    refine cut_rest (fun σ H' => ∃ (pt : Addr) (t : List Nat) (fr : Nat), σ = [some (.ref a), some (.ref p0), some (.ref p1), some (.ref pt), some (.int (fr : Int)), none, none, none, none, none, none, none, none, none, none, none] ∧ Same H2 H' ∧ H' pt = some (.lst (nats t)) ∧ t.Pairwise (· < ·) ∧ (∀ j ∈ t, j < cs.length) ∧ ((fr = 0 ∧ t = []) ∨ (0 < fr ∧ fr < t.length))) ?_ ?_
    rotate_left
    · intro rest
      refine ⟨_, rfl, pt0, _, rfl, .inl (SqL.of h2'), _, _, rfl, rfl, _, rfl, ?_⟩
      rw [nats_len]
      refine if2 (fun hgt => ?_) fun hle => ?_
      · refine ⟨_, rfl, a, ns, 0, rfl, hS2, _, _, rfl, rfl, .inr ⟨by decide, by decide⟩, _, _, rfl, rfl, (show (0 : Int) < 1019 by decide), _, rfl, pt0, _, rfl, .inl (SqL.of h2'), _, _, rfl, rfl, _, _, rfl, rfl, ?_, _, _, rfl, rfl, ?_⟩
        · show (0 : Int) < ((nats t0).length : Int) - 1
          rw [nats_len]; omega
        · rw [nats_len]
          have b0 := Int.emod_nonneg (cell ns 0 * 48271 % 1019) (show ((t0.length : Int) - 1) ≠ 0 by omega)
          have b1 := Int.emod_lt_of_pos (cell ns 0 * 48271 % 1019) (show (0 : Int) < (t0.length : Int) - 1 by omega)
          refine rest _ _ ⟨pt0, t0, (1 + cell ns 0 * 48271 % 1019 % ((t0.length : Int) - 1)).toNat, ?_, Same.refl _, h2', tr0, tl0, .inr ⟨by omega, by omega⟩⟩
          rw [show (((1 + cell ns 0 * 48271 % 1019 % ((t0.length : Int) - 1)).toNat : Nat) : Int) = 1 + cell ns 0 * 48271 % 1019 % ((t0.length : Int) - 1) by omega]
          rfl
      · refine ⟨Nat.zero_le _, fun pz hpz => ?_⟩
        exact rest _ _ ⟨pz, [], 0, rfl, same_upd hpz, upd_same, .nil, fun j hj => (by cases hj), .inl ⟨rfl, rfl⟩⟩
    clear h2' tr0 tl0
    rintro _ H3 ⟨pt, t, fr, rfl, s3, ht3, tr, tlt, tie⟩
    have hS3 := s3.seq hS2
    have hT3 := hT2.same s3
    have hc3 := s3 _ _ hc2
    have hg3 := s3 _ _ hg2
    clear s3 hS2 hT2 hc2 hg2
    have tlen : t.length ≤ 62 := by
      have : t.length ≤ 62 - 0 := rise_len t 0 62 tr fun j hj => ⟨Nat.zero_le _, by have := tlt j hj; omega⟩
      omega
    -- lot, gone
    refine ⟨_, rfl, p0, cs, rfl, SqL.of hc3, by omega, fun pl H4 lot0 s4 npl hl4 pm0 => ?_⟩
    refine ⟨Nat.zero_le _, fun pn hpn => ?_⟩
    have nln : pl ≠ pn := ne_of_none hl4 hpn
    have s5 := same_upd (o := .lst []) hpn
    have npn : H3 pn = none := s4.free hpn
    -- the loop
    refine ⟨_, rfl, a, ns, 1, rfl, s5.seq (s4.seq hS3), _, _, rfl, rfl, .inr ⟨by decide, by decide⟩, _, _, rfl, rfl, (show (0 : Int) < 1021 by decide), _, _, rfl, rfl, (show (0 : Int) < 8 by decide), _, _, rfl, rfl, _, rfl, ?_, ?_, ?_⟩
    · have := Int.emod_nonneg (cell ns 1 * 48271 % 1021) (by decide : (8 : Int) ≠ 0)
      show -(2 ^ 62) ≤ cell ns 1 * 48271 % 1021 % 8 - 4
      omega
    · have := Int.emod_lt_of_pos (cell ns 1 * 48271 % 1021) (by decide : (0 : Int) < 8)
      show cell ns 1 * 48271 % 1021 % 8 - 4 < 2 ^ 62
      omega
    have few4 : (cell ns 1 * 48271 % 1021 % 8 - 4).toNat < 4 := by
      have := Int.emod_lt_of_pos (cell ns 1 * 48271 % 1021) (by decide : (0 : Int) < 8)
      omega
    generalize (cell ns 1 * 48271 % 1021 % 8 - 4).toNat = N at few4 ⊢
    refine for_range (lo := 0) (n := N) (fun i σ H' => ∃ (x14 x15 : Option V) (lot gone : List Nat), σ = [some (.ref a), some (.ref p0), some (.ref p1), some (.ref pt), some (.int (fr : Int)), some (.ref pl), some (.ref pn), none, none, none, none, none, none, none, x14, x15] ∧ Same H3 H' ∧ H' pl = some (.lst (nats lot)) ∧ H' pn = some (.lst (nats gone)) ∧ (lot ++ gone).Perm (List.range cs.length))
      ⟨none, none, lot0, [], rfl, s4.trans s5, s5 _ _ hl4, upd_same, by rw [List.append_nil]; exact pm0⟩ ?_ ?_
    · rintro i σ H' hi ⟨x14, x15, lot, gone, rfl, sm, hl, hn, pm⟩
      rw [Int.zero_add]
      obtain ⟨_, _, _, _, ll, gn⟩ := ML.parts pm
      refine ⟨_, rfl, Nat.zero_le _, fun pe hpe => ⟨pl, pe, lot.map fun (i : Nat) => (i : Int), [], rfl, rfl, SqL.of (by rw [← nats_zs]; exact same_upd hpe _ _ hl), SqL.of upd_same, _, rfl, ?_⟩⟩
      have s6 := same_upd (o := .lst []) hpe
      by_cases hne : lot = []
      · rw [decide_eq_true (by rw [hne]; rfl)]
        exact iteF ⟨_, _, lot, gone, rfl, sm.trans s6, s6 _ _ hl, s6 _ _ hn, pm⟩
      · rw [decide_eq_false (fun z => hne (List.map_eq_nil_iff.mp z))]
        refine iteT ?_
        have hpos : 0 < lot.length := List.length_pos_iff.mpr hne
        have hl6 := s6 _ _ hl
        have hn6 := s6 _ _ hn
        have sm6 := sm.trans s6
        clear hl hn sm
        generalize upd H' pe (.lst []) = H6 at hl6 hn6 sm6 ⊢
        refine ⟨_, rfl, a, ns, 1, rfl, sm6.seq hS3, _, rfl, _, _, rfl, rfl, .inl ⟨by decide, by decide⟩, _, _, rfl, rfl, _, _, rfl, rfl, .inr ⟨by decide, by decide⟩, _, _, rfl, rfl, (show (0 : Int) < 1031 by decide), _, rfl, pl, _, rfl, .inl (SqL.of hl6), _, _, rfl, rfl, ?_, ?_⟩
        · show (0 : Int) < ((nats lot).length : Int)
          rw [nats_len]; omega
        rw [nats_len]
        dsimp only [gName, List.set]
        have b0 := Int.emod_nonneg ((cell ns 1 + 5 * (i : Int)) * 48271 % 1031) (show (lot.length : Int) ≠ 0 by omega)
        have b1 := Int.emod_lt_of_pos ((cell ns 1 + 5 * (i : Int)) * 48271 % 1031) (show (0 : Int) < (lot.length : Int) by omega)
        generalize (cell ns 1 + 5 * (i : Int)) * 48271 % 1031 % (lot.length : Int) = x at b0 b1 ⊢
        obtain ⟨m, rfl, hm⟩ : ∃ m : Nat, x = (m : Int) ∧ m < lot.length := ⟨x.toNat, by omega, by omega⟩
        have hj : lot[m]? = some lot[m] := List.getElem?_eq_getElem hm
        have hnj : (nats lot)[m]? = some (.int (lot[m] : Int)) := by unfold nats; rw [List.getElem?_map, hj]; rfl
        refine ⟨_, rfl, .inl ⟨rfl, _, SqL.of hn6⟩, _, rfl, .inl ⟨rfl, _, SqL.of hl6⟩, _, rfl, pl, nats lot, (m : Int), m, .int (lot[m] : Int), rfl, rfl, hl6, by omega, by omega, ?_, hnj, ?_⟩
        · exact (ixN_seq (n := (nats lot).length) (i := (m : Int)) (j := m) (by
            unfold ixN
            rw [if_pos (by omega), if_pos (by rw [nats_len]; omega), Int.toNat_natCast])).1
        have ne : (nats lot).eraseIdx m = nats (lot.eraseIdx m) := nats_erase lot m
        rw [ne]
        refine ⟨pn, nats gone, _, rfl, rfl, by rw [upd_ne (Ne.symm nln)]; exact hn6, ?_, ?_⟩
        · rw [nats_len]
          exact Nat.lt_of_le_of_lt gn (Nat.lt_of_lt_of_le few (by decide))
        · refine ⟨_, _, lot.eraseIdx m, gone ++ [lot[m]], rfl, same_at (same_at sm6 npl) npn, by rw [upd_ne nln]; exact upd_same, ?_, ML.take_out pm hj⟩
          rw [upd_same]
          unfold nats
          rw [List.map_append]
          rfl
    clear hl4 pm0 s4 s5
    rintro σ H5 ⟨x14, x15, lot, gone, rfl, s5, hl5, hn5, pm⟩
    obtain ⟨lnd, lcov, llt, gnl, ll, gn⟩ := ML.parts pm
    have hT5 := hT3.same s5
    have hg5 := s5 _ _ hg3
    have ht5 := s5 _ _ ht3
    clear hT3 hg3 ht3 hc3 hS3 s5
    -- left
    refine ⟨_, rfl, pn, rfl, ⟨_, SqL.of hn5⟩, fun p6 hp6 => ?_⟩
    refine comp_filt (xs := nats gone) (fun x => inV x (nats t)) (fun x => x) hp6 (SqL.of hn5) (by rw [nats_len]; exact Nat.le_trans gn (Nat.le_trans (Nat.le_of_lt few) (by decide))) (fun i x H' R hx sm hR => ?_) (fun i x H' R hx sm hR => ⟨_, rfl, hR⟩) fun H6 s6 h6 => ?_
    · obtain ⟨j, hj, rfl⟩ := nats_get hx
      exact ⟨_, rfl, _, rfl, pt, nats t, rfl, .inl (SqL.of (sm _ _ ht5)), rfl, flat_nats t, _, rfl, hR⟩
    refine ⟨p6, _, rfl, .inl (SqL.of h6), _, _, rfl, rfl, ?_⟩
    have lefte : decide ((0 : Int) < ((((nats gone).filter fun x => inV x (nats t)).map fun x => x).length : Int)) = decide (∃ j ∈ t, j ∉ lot) := by
      refine decide_eq_decide.mpr ⟨fun h => ?_, fun ⟨j, hj, hn⟩ => ?_⟩
      · have h' : 0 < (((nats gone).filter fun x => inV x (nats t)).map fun x => x).length := by omega
        obtain ⟨x, hx⟩ := List.exists_mem_of_length_pos h'
        rw [List.map_id'] at hx
        obtain ⟨h1, h2⟩ := List.mem_filter.mp hx
        unfold nats at h1
        obtain ⟨j, hj, rfl⟩ := List.mem_map.mp h1
        rw [inV_nats] at h2
        exact ⟨j, of_decide_eq_true h2, gnl j hj⟩
      · have hjg : j ∈ gone := (lcov j (tlt j hj)).elim (fun z => absurd z hn) id
        have : V.int (j : Int) ∈ ((nats gone).filter fun x => inV x (nats t)).map fun x => x := by
          rw [List.map_id']
          exact List.mem_filter.mpr ⟨by unfold nats; exact List.mem_map.mpr ⟨j, hjg, rfl⟩, by rw [inV_nats]; exact decide_eq_true hj⟩
        have := List.length_pos_of_mem this
        omega
    show (fun x H1 => gName 7 x _ H1 _) (V.bl (decide ((0 : Int) < ((((nats gone).filter fun x => inV x (nats t)).map fun x => x).length : Int)))) H6
    rw [lefte]
    clear lefte h6
    generalize hlb : decide (∃ j ∈ t, j ∉ lot) = lb
    have hl6 := s6 _ _ hl5
    have hg6 := s6 _ _ hg5
    have ht6 := s6 _ _ ht5
    have hT6 := hT5.same s6
    clear hl5 hg5 ht5 hT5 s6 hn5
    -- handed, drawn
    refine ⟨_, rfl, p1, _, rfl, .inl (SqL.of hg6), fun pg2 hpg2 => ?_⟩
    have s7 := same_upd (o := .lst (zs g)) hpg2
    refine ⟨_, rfl, pt, _, rfl, .inl (SqL.of (s7 _ _ ht6)), fun pt2 hpt2 => ?_⟩
    have s8 := same_upd (o := .lst (nats t)) hpt2
    refine ⟨_, rfl, by show 3 ≤ sizeLine; decide, fun q hq => ?_⟩
    have s9 := same_upd (o := .tup [.ref pg2, .ref pt2, .int (fr : Int)]) hq
    refine ⟨_, rfl, pl, _, rfl, .inl (SqL.of (s9 _ _ (s8 _ _ (s7 _ _ hl6)))), fun pd hpd => ?_⟩
    have s10 := same_upd (o := .lst (nats lot)) hpd
    have hd10 : (upd (upd (upd (upd H6 pg2 (.lst (zs g))) pt2 (.lst (nats t))) q (.tup [.ref pg2, .ref pt2, .int (fr : Int)])) pd (.lst (nats lot))) pd = some (.lst (nats lot)) := upd_same
    have dq : IsDeal (upd (upd (upd (upd H6 pg2 (.lst (zs g))) pt2 (.lst (nats t))) q (.tup [.ref pg2, .ref pt2, .int (fr : Int)])) pd (.lst (nats lot))) q pg2 pt2 g t (fr : Int) := ⟨s10 _ _ upd_same, s10 _ _ (s9 _ _ (s8 _ _ upd_same)), s10 _ _ (s9 _ _ upd_same)⟩
    have s6' := ((s7.trans s8).trans s9).trans s10
    clear s7 s8 s9 s10
    generalize upd (upd (upd (upd H6 pg2 (.lst (zs g))) pt2 (.lst (nats t))) q (.tup [.ref pg2, .ref pt2, .int (fr : Int)])) pd (.lst (nats lot)) = H7 at hd10 dq s6' ⊢
    have hl7 := s6' _ _ hl6
    have hg7 := s6' _ _ hg6
    have ht7 := s6' _ _ ht6
    have hT7 := hT6.same s6'
    clear hl6 hg6 ht6 hT6 s6' hpg2 hpt2 hq hpd hp6
    -- draw
    refine ⟨_, rfl, q, pg2, pt2, g, t, (fr : Int), rfl, dq, ?_⟩
    generalize hdb : decide (0 < t.length) = db
    -- settled
    refine gname_step ?_
    dsimp only [List.set]
    refine set_c ?_
    refine set_c ?_
    dsimp only [List.set]
    --M3
    refine cut_rest (fun σ H' => Sm Z H7 H' ∧ ((∃ (p : Addr) (out : List Nat), σ = [some (.ref a), some (.ref p0), some (.ref p1), some (.ref pt), some (.int (fr : Int)), some (.ref pl), some (.ref pn), some (.bl lb), some (.ref q), some (.ref pd), some (.bl db), some (.ref p), some (.bl false), none, x14, x15] ∧ (∀ j ∈ t, j ∈ lot) ∧ SortOut lot t out ∧ H' p = some (.lst (zs (MD.oneEach g (out.take fr))))) ∨
        (σ = [some (.ref a), some (.ref p0), some (.ref p1), some (.ref pt), some (.int (fr : Int)), some (.ref pl), some (.ref pn), some (.bl lb), some (.ref q), some (.ref pd), some (.bl db), some .non, some (.bl true), none, x14, x15] ∧ ∃ j ∈ t, j ∉ lot))) ?_ ?_
    rotate_left
    · intro rest
      refine ⟨_, rfl, _, rfl, q, pg2, pt2, pd, g, t, lot, fr, rfl, dq, SqL.of hd10, by omega, by omega, by omega, hT7, fun hall p out H8 s8 so h8 => ?_, fun hmiss => ⟨C, rfl, R.mC, fun e he => ?_⟩⟩
      · exact rest _ _ ⟨s8, .inl ⟨p, out, rfl, hall, so, h8⟩⟩
      · have s8 := same_upd (o := HotO e C) he
        exact ⟨_, rfl, _, rfl, upd_same, q, pg2, pt2, pd, g, t, lot, (fr : Int), rfl, dq.same s8, SqL.of (s8 _ _ hd10), hmiss, fun H9 s9 => rest _ _ ⟨(s8.trans s9).sm, .inr ⟨rfl, hmiss⟩⟩⟩
    rintro σ H8 ⟨s8, fin⟩
    have hl8 := s8 _ _ hl7
    have hg8 := s8 _ _ hg7
    have ht8 := s8 _ _ ht7
    have hd8 := s8 _ _ hd10
    have dq8 := dq.sm s8
    have lz : nats lot = (lot.map fun (i : Nat) => (i : Int)).map V.int := nats_zs lot
    have tfr : db = decide ((0 : Int) < (fr : Int)) := by
      rw [← hdb]
      refine decide_eq_decide.mpr ?_
      rcases tie with ⟨e1, e2⟩ | ⟨e1, e2⟩
      · rw [e1, e2]; simp
      · constructor <;> intro <;> omega
    clear s8 hl7 hg7 ht7 hd10 dq hT7
    rcases fin with ⟨p, out, rfl, hall, so, hp8⟩ | ⟨rfl, hmiss⟩
    rotate_left
    · -- refused
      refine ⟨_, rfl, _, rfl, _, rfl, _, rfl, by show 3 ≤ sizeLine; decide, fun TT hTT => ?_⟩
      have s9 := same_upd (o := .tup [.ref p1, .ref pt, .int (fr : Int)]) hTT
      refine ⟨dealD g (t.map Int.ofNat) fr, dealD g (t.map Int.ofNat) fr, rd_deal (s9 _ _ dq8.1) (s9 _ _ dq8.2.1) (s9 _ _ dq8.2.2), rd_deal upd_same (s9 _ _ hg8) (s9 _ _ ht8), dealD_shaped _ _ _, dealD_shaped _ _ _, _, rfl, ?_⟩
      rw [dealD_eqv]
      refine iteF ?_
      refine ⟨_, rfl, _, rfl, pd, pl, _, _, rfl, rfl, SqL.of (by rw [← lz]; exact s9 _ _ hd8), SqL.of (by rw [← lz]; exact s9 _ _ hl8), _, rfl, iteNS rfl ?_⟩
      refine ⟨_, rfl, .bl db, "bool", .type "bool", true, rfl, .bl _, kit_same _ _, true, rfl, iteF ?_⟩
      refine ⟨_, rfl, _, rfl, _, _, rfl, rfl, rfl, _, rfl, iteNS (by rw [tfr]) ?_⟩
      refine ⟨_, rfl, true, rfl, iteT (iteT ?_)⟩
      refine ⟨_, rfl, true, rfl, iteT ⟨_, rfl, ?_⟩⟩
      rw [← hlb, decide_eq_true hmiss]
      exact k _
    · -- settled
      have oute : out = lot.filter fun j => decide (j ∈ t) := ML.sort_eq lnd (tr.imp fun h => Nat.ne_of_lt h) hall so.1 so.2
      have nol : ¬ ∃ j ∈ t, j ∉ lot := fun ⟨j, hj, hn⟩ => hn (hall j hj)
      refine ⟨_, rfl, _, rfl, _, rfl, _, rfl, by show 3 ≤ sizeLine; decide, fun TT hTT => ?_⟩
      have s9 := same_upd (o := .tup [.ref p1, .ref pt, .int (fr : Int)]) hTT
      refine ⟨dealD g (t.map Int.ofNat) fr, dealD g (t.map Int.ofNat) fr, rd_deal (s9 _ _ dq8.1) (s9 _ _ dq8.2.1) (s9 _ _ dq8.2.2), rd_deal upd_same (s9 _ _ hg8) (s9 _ _ ht8), dealD_shaped _ _ _, dealD_shaped _ _ _, _, rfl, ?_⟩
      rw [dealD_eqv]
      refine iteF ?_
      refine ⟨_, rfl, _, rfl, pd, pl, _, _, rfl, rfl, SqL.of (by rw [← lz]; exact s9 _ _ hd8), SqL.of (by rw [← lz]; exact s9 _ _ hl8), _, rfl, iteNS rfl ?_⟩
      refine ⟨_, rfl, .bl db, "bool", .type "bool", true, rfl, .bl _, kit_same _ _, true, rfl, iteF ?_⟩
      refine ⟨_, rfl, _, rfl, _, _, rfl, rfl, rfl, _, rfl, iteNS (by rw [tfr]) ?_⟩
      refine ⟨_, rfl, false, rfl, iteF ⟨_, rfl, lb, rfl, ?_⟩⟩
      rw [← hlb, decide_eq_false nol]
      refine iteF ?_
      have hl9 := s9 _ _ hl8
      have hg9 := s9 _ _ hg8
      have ht9 := s9 _ _ ht8
      have hp9 := s9 _ _ hp8
      clear hl8 hg8 ht8 hp8 hd8 dq8 s9
      generalize upd H8 TT (.tup [.ref p1, .ref pt, .int (fr : Int)]) = H9 at hl9 hg9 ht9 hp9 ⊢
      -- first
      refine ⟨_, rfl, pl, rfl, ⟨_, SqL.of hl9⟩, fun p6 hp6 => ?_⟩
      refine comp_filt (xs := nats lot) (fun x => inV x (nats t)) (fun x => x) hp6 (SqL.of hl9) (by rw [nats_len]; exact Nat.le_trans ll (Nat.le_trans (Nat.le_of_lt few) (by decide))) (fun i x H' R hx sm hR => ?_) (fun i x H' R hx sm hR => ⟨_, rfl, hR⟩) fun H10 s10 h10 => ?_
      · obtain ⟨j, hj, rfl⟩ := nats_get hx
        exact ⟨_, rfl, _, rfl, pt, nats t, rfl, .inl (SqL.of (sm _ _ ht9)), rfl, flat_nats t, _, rfl, hR⟩
      have fe : ((nats lot).filter fun x => inV x (nats t)).map (fun x => x) = nats out := by
        rw [oute, List.map_id']
        unfold nats
        rw [List.filter_map]
        congr 1
        exact List.filter_congr fun j _ => inV_nats t j
      rw [fe] at h10
      refine ⟨_, rfl, (fr : Int), rfl, p6, _, rfl, SqL.of h10, fun p7 hp7 => ?_⟩
      rw [cut_take, nats_take]
      have s11 := same_upd (o := .lst (nats (out.take fr))) hp7
      have hf11 : (upd H10 p7 (.lst (nats (out.take fr)))) p7 = some (.lst (nats (out.take fr))) := upd_same
      have hg11 := s11 _ _ (s10 _ _ hg9)
      have hp11 := s11 _ _ (s10 _ _ hp9)
      clear s10 s11 h10
      generalize upd H10 p7 (.lst (nats (out.take fr))) = H11 at hf11 hg11 hp11 ⊢
      have ol : (MD.oneEach g (out.take fr)).length = g.length := MD.one_len
      have zl : (zs g).length = g.length := List.length_map _
      have zl2 : (zs (MD.oneEach g (out.take fr))).length = g.length := by rw [List.length_map, ol]
      refine ⟨_, rfl, .ref p, "list", .type "list", true, rfl, .lst hp11, kit_same _ _, true, rfl, iteF ?_⟩
      refine ⟨_, rfl, p, _, rfl, .inl (SqL.of hp11), _, rfl, p1, _, rfl, .inl (SqL.of hg11), rfl, _, rfl, iteNS (by rw [zl, zl2]) ?_⟩
      refine ⟨_, rfl, p1, _, rfl, .inl (SqL.of hg11), _, rfl, by rw [zl]; omega, by rw [zl]; omega, ?_⟩
      rw [zl, Int.toNat_natCast]
      refine for_range (lo := 0) (n := g.length) (fun i σ H' => ∃ (y14 : Option V), σ = [some (.ref a), some (.ref p0), some (.ref p1), some (.ref pt), some (.int (fr : Int)), some (.ref pl), some (.ref pn), some (.bl false), some (.ref q), some (.ref pd), some (.bl db), some (.ref p), some (.bl false), some (.ref p7), y14, x15] ∧ H' = H11) ⟨x14, rfl, rfl⟩ ?_ ?_
      · rintro i σ H' hi ⟨y14, rfl, rfl⟩
        rw [Int.zero_add]
        have e1 : (zs (MD.oneEach g (out.take fr)))[i]? = some (V.int (MD.at_ g i + if i ∈ out.take fr then 1 else 0)) := by
          rw [zs_at (by rw [ol]; exact hi), MD.one_at hi]
        refine ⟨_, rfl, _, rfl, p, _, (i : Int), _, rfl, rfl, SqL.of hp11, atI_nat e1, _, rfl, true, rfl, iteF ?_⟩
        refine ⟨_, rfl, _, rfl, p, _, (i : Int), _, rfl, rfl, SqL.of hp11, atI_nat e1, _, rfl, _, rfl, p1, _, (i : Int), _, rfl, rfl, SqL.of hg11, atI_nat (zs_at hi), _, rfl, _, rfl, p7, _, rfl, .inl (SqL.of hf11), rfl, flat_nats _, .inr ⟨_, rfl, _, _, rfl, rfl, rfl, _, rfl, ?_⟩⟩
        refine iteNS ?_ ⟨_, rfl, rfl⟩
        show V.int _ = V.int (MD.at_ g i + if inV (.int (i : Int)) (nats (out.take fr)) = true then 1 else 0)
        rw [inV_nats]
        congr 2
        by_cases h : i ∈ out.take fr
        · rw [if_pos h, if_pos (decide_eq_true h)]
        · rw [if_neg h, if_neg (fun z => h (of_decide_eq_true z))]
      · rintro σ H' ⟨y14, rfl, rfl⟩
        exact k _
end
end K6
end

section
set_option Elab.async false
set_option linter.all false
set_option maxRecDepth 100000
set_option maxHeartbeats 4000000
namespace K6
open PySem L2 LC
theorem def_mk {K : PySem.W.Frag} {h : Heap} {mg : Str → Option Value} {x : Str} {st : Stmt} {f : Addr} {ps : List Str} {oc : Value} {od an : Option Addr} {osl : Array (Option Value)} {kV doc pm cdv ct : Value} (X : K.In h) (G : h.Ns mainGlobals mg)
    (a : PySem.W.nsIn K mainGlobals x = some (some (.ref f))) (l : K.lookup f = some ⟨oc, od, .func (PySem.W.fnOf x x (defArgs st) (defBody st) (defScope st) .none kV doc pm an cdv ct), osl⟩) (c : PySem.W.codeIn K cdv x = true) (k : PySem.W.keepIn K (.ref f) = true)
    (hb : ∀ (kV doc pm : Value) (an : Option Addr) (cdv ct : Value) (us : List Value), us.length = ps.length → bindArgs (PySem.W.fnOf x x (defArgs st) (defBody st) (defScope st) .none kV doc pm an cdv ct) ⟨us, []⟩ = pure (ps.zip us)) :
    Def K mg x st f (PySem.W.fnOf x x (defArgs st) (defBody st) (defScope st) .none kV doc pm an cdv ct) ps := ⟨fun_mk l c k, (fun_mk l c k).binds hb, PySem.W.mg_of X G a⟩
theorem all_mk {l : PySem.W.OpenLaw} {w : World} {K : PySem.W.Frag} {h : Heap} {mg mb : Str → Option Value} {q : Program} {loose : List Str} {mean : ExcName → Option Value} {fa f1 f2 f3 f4 f5 f6 f7 f8 f9 C S L c_s t_s : Addr} (X : K.In h) (Tp : PyProof.Rows.Top q loose mean mg mb h) (hfa : mg "law" = some (.ref fa))
    {od1 an1 od2 an2 od3 an3 od4 an4 od5 an5 od6 an6 od7 an7 od8 an8 od9 an9 : Option Addr} {sl1 sl2 sl3 sl4 sl5 sl6 sl7 sl8 sl9 : Array (Option Value)} {oc1 kV1 dc1 pm1 ct1 cd1 oc2 kV2 dc2 pm2 ct2 cd2 oc3 kV3 dc3 pm3 ct3 cd3 oc4 kV4 dc4 pm4 ct4 oc5 kV5 dc5 pm5 ct5 cd5 oc6 kV6 dc6 pm6 ct6 cd6 oc7 kV7 dc7 pm7 ct7 cd7 oc8 kV8 dc8 pm8 ct8 cd8 oc9 kV9 dc9 pm9 ct9 cd9 : Value}
    (a1 : PySem.W.nsIn K mainGlobals "one_each" = some (some (.ref f1))) (l1 : K.lookup f1 = some ⟨oc1, od1, .func (PySem.W.fnOf "one_each" "one_each" (defArgs sOne) (defBody sOne) (defScope sOne) .none kV1 dc1 pm1 an1 cd1 ct1), sl1⟩) (c1 : PySem.W.codeIn K cd1 "one_each" = true) (k1 : PySem.W.keepIn K (.ref f1) = true)
    (a2 : PySem.W.nsIn K mainGlobals "must_draw" = some (some (.ref f2))) (l2 : K.lookup f2 = some ⟨oc2, od2, .func (PySem.W.fnOf "must_draw" "must_draw" (defArgs sMust) (defBody sMust) (defScope sMust) .none kV2 dc2 pm2 an2 cd2 ct2), sl2⟩) (c2 : PySem.W.codeIn K cd2 "must_draw" = true) (k2 : PySem.W.keepIn K (.ref f2) = true)
    (a3 : PySem.W.nsIn K mainGlobals "refuse_if_one_is_missing" = some (some (.ref f3))) (l3 : K.lookup f3 = some ⟨oc3, od3, .func (PySem.W.fnOf "refuse_if_one_is_missing" "refuse_if_one_is_missing" (defArgs sMiss) (defBody sMiss) (defScope sMiss) .none kV3 dc3 pm3 an3 cd3 ct3), sl3⟩) (c3 : PySem.W.codeIn K cd3 "refuse_if_one_is_missing" = true) (k3 : PySem.W.keepIn K (.ref f3) = true)
    (a4 : PySem.W.nsIn K mainGlobals "settled" = some (some (.ref f4))) (l4 : K.lookup f4 = some ⟨oc4, od4, .func (PySem.W.fnOf "settled" "settled" (defArgs sSet) (defBody sSet) (defScope sSet) .none kV4 dc4 pm4 an4 (.ref c_s) ct4), sl4⟩) (c4 : PySem.W.codeIn K (.ref c_s) "settled" = true) (k4 : PySem.W.keepIn K (.ref f4) = true)
    (a5 : PySem.W.nsIn K mainGlobals "_law_whole" = some (some (.ref f5))) (l5 : K.lookup f5 = some ⟨oc5, od5, .func (PySem.W.fnOf "_law_whole" "_law_whole" (defArgs sIsW) (defBody sIsW) (defScope sIsW) .none kV5 dc5 pm5 an5 cd5 ct5), sl5⟩) (c5 : PySem.W.codeIn K cd5 "_law_whole" = true) (k5 : PySem.W.keepIn K (.ref f5) = true)
    (a6 : PySem.W.nsIn K mainGlobals "_law_at" = some (some (.ref f6))) (l6 : K.lookup f6 = some ⟨oc6, od6, .func (PySem.W.fnOf "_law_at" "_law_at" (defArgs sAt) (defBody sAt) (defScope sAt) .none kV6 dc6 pm6 an6 cd6 ct6), sl6⟩) (c6 : PySem.W.codeIn K cd6 "_law_at" = true) (k6 : PySem.W.keepIn K (.ref f6) = true)
    (a7 : PySem.W.nsIn K mainGlobals "_law_lot_drawn" = some (some (.ref f7))) (l7 : K.lookup f7 = some ⟨oc7, od7, .func (PySem.W.fnOf "_law_lot_drawn" "_law_lot_drawn" (defArgs sLot) (defBody sLot) (defScope sLot) .none kV7 dc7 pm7 an7 cd7 ct7), sl7⟩) (c7 : PySem.W.codeIn K cd7 "_law_lot_drawn" = true) (k7 : PySem.W.keepIn K (.ref f7) = true)
    (a8 : PySem.W.nsIn K mainGlobals "_law_under_base" = some (some (.ref f8))) (l8 : K.lookup f8 = some ⟨oc8, od8, .func (PySem.W.fnOf "_law_under_base" "_law_under_base" (defArgs sBase) (defBody sBase) (defScope sBase) .none kV8 dc8 pm8 an8 cd8 ct8), sl8⟩) (c8 : PySem.W.codeIn K cd8 "_law_under_base" = true) (k8 : PySem.W.keepIn K (.ref f8) = true)
    (a9 : PySem.W.nsIn K mainGlobals "law" = some (some (.ref f9))) (l9 : K.lookup f9 = some ⟨oc9, od9, .func (PySem.W.fnOf "law" "law" (defArgs sLaw) (defBody sLaw) (defScope sLaw) .none kV9 dc9 pm9 an9 cd9 ct9), sl9⟩) (c9 : PySem.W.codeIn K cd9 "law" = true) (k9 : PySem.W.keepIn K (.ref f9) = true)
    (z1 : PySem.W.nsIn K mainGlobals "sum" = some none)
    (z2 : PySem.W.nsIn K mainGlobals "len" = some none)
    (z3 : PySem.W.nsIn K mainGlobals "isinstance" = some none)
    (z4 : PySem.W.nsIn K mainGlobals "int" = some none)
    (z5 : PySem.W.nsIn K mainGlobals "bool" = some none)
    (z6 : PySem.W.nsIn K mainGlobals "tuple" = some none)
    (z7 : PySem.W.nsIn K mainGlobals "list" = some none)
    (z8 : PySem.W.nsIn K mainGlobals "range" = some none)
    (z9 : PySem.W.nsIn K mainGlobals "reversed" = some none)
    (z10 : PySem.W.nsIn K mainGlobals "sorted" = some none)
    (z11 : PySem.W.nsIn K mainGlobals "set" = some none)
    (z12 : PySem.W.nsIn K mainGlobals "enumerate" = some none)
    (z13 : PySem.W.nsIn K mainGlobals "max" = some none)
    (z14 : PySem.W.nsIn K mainGlobals "ValueError" = some none)
    (nqC : PySem.W.nsIn K mainGlobals "NoLot" = some (some (.ref C)))
    (nqS : PySem.W.nsIn K mainGlobals "SeatError" = some (some (.ref S)))
    (nqL : PySem.W.nsIn K mainGlobals "NoVotes" = some (some (.ref L)))
    (ex : PySem.W.excIn K C bmV "ValueError.__new__" = true)
    (ec1 : PySem.W.findIn K (.ref C) "__getattribute__" = some (some (.builtin "BaseException.__getattribute__")))
    (ec2 : PySem.W.findIn K (.ref C) "__getattr__" = some none)
    (ec3 : PySem.W.findIn K (.ref C) "__class__" = some (some (.builtin "object.__class__")))
    (ec4 : PySem.W.mroIn K C (.type "object") = some true)
    (ec5 : PySem.W.mroIn K C (.type "BaseException") = some true)
    (es1 : PySem.W.findIn K (.ref S) "__getattribute__" = some (some (.builtin "BaseException.__getattribute__")))
    (es2 : PySem.W.findIn K (.ref S) "__getattr__" = some none)
    (es3 : PySem.W.findIn K (.ref S) "__class__" = some (some (.builtin "object.__class__")))
    (es4 : PySem.W.mroIn K S (.type "object") = some true)
    (es5 : PySem.W.mroIn K S (.type "BaseException") = some true)
    (tC : PySem.W.typeIn K (.ref C) = some (.type "type"))
    (tS : PySem.W.typeIn K (.ref S) = some (.type "type"))
    (mC : PySem.W.mroIn K C (.ref C) = some true)
    (mS : PySem.W.mroIn K C (.ref S) = some true)
    (kC : PySem.W.kitOne K (.ref C) (.ref C) = some true)
    (kL : PySem.W.kitOne K (.ref C) (.ref L) = some false)
    (kV : PySem.W.kitOne K (.ref C) (.type "ValueError") = some true)
    {d_s : DefRec} (r_s : (PyProof.Rows.recsOf q).find? (fun e => e.name == (Str.ofString "settled")) = some d_s) (b_s : PySem.W.tabIn K (Str.ofString "settled") = some (c_s, t_s))
    : ∃ (tabs : List (Addr × Addr)) (fd : FuncData), PySem.W.TabsAt tabs h ∧ (∀ (s : Shared) (v : Value), BindsTo s fd ⟨[v], []⟩ [("_law_script", v)]) ∧
      (∀ (H : Hp) (a : Addr) (ns : List Int), ns.length ≤ 63 → (∀ z ∈ tabs, H z.2 = some (.tbl #[])) → SqL K H a (ns.map V.int) → spLaw K ((fun tabs => tabs.zipWith (fun z q => (z.2, q)) [qS]) tabs) [.ref a] H (fun v _ => v = .bl true) fun _ _ _ => False) ∧
      ∀ base : Heap, K.In base → base.Ns mainGlobals mg → Bm mg base → (∀ z ∈ tabs, PySem.W.CodeHd base z.1 z.2) → FnOk l.prog w K mg base CX0 5 fa fd ["_law_script"] (spLaw K ((fun tabs => tabs.zipWith (fun z q => (z.2, q)) [qS]) tabs)) := by
  have G := Tp.g
  have e := hfa.symm.trans (PySem.W.mg_of X G a9)
  cases e
  have T : Own mg := ⟨PySem.W.mg_none_of X G z1, PySem.W.mg_none_of X G z2, PySem.W.mg_none_of X G z3, PySem.W.mg_none_of X G z4, PySem.W.mg_none_of X G z5, PySem.W.mg_none_of X G z6, PySem.W.mg_none_of X G z7, PySem.W.mg_none_of X G z8, PySem.W.mg_none_of X G z9, PySem.W.mg_none_of X G z10, PySem.W.mg_none_of X G z11, PySem.W.mg_none_of X G z12, PySem.W.mg_none_of X G z13⟩
  have F1 := def_mk (st := sOne) (ps := ["given", "lists"]) X G a1 l1 c1 k1 (fun _ _ _ _ _ _ us hl => match us, hl with | [_, _], _ => rfl)
  have F2 := def_mk (st := sMust) (ps := ["deal"]) X G a2 l2 c2 k2 (fun _ _ _ _ _ _ us hl => match us, hl with | [_], _ => rfl)
  have F3 := def_mk (st := sMiss) (ps := ["tied", "lot"]) X G a3 l3 c3 k3 (fun _ _ _ _ _ _ us hl => match us, hl with | [_, _], _ => rfl)
  have F4 := def_mk (st := sSet) (ps := ["deal", "lot"]) X G a4 l4 c4 k4 (fun _ _ _ _ _ _ us hl => match us, hl with | [_, _], _ => rfl)
  have F5 := def_mk (st := sIsW) (ps := ["_law_found"]) X G a5 l5 c5 k5 (fun _ _ _ _ _ _ us hl => match us, hl with | [_], _ => rfl)
  have F6 := def_mk (st := sAt) (ps := ["_law_script", "_law_k"]) X G a6 l6 c6 k6 (fun _ _ _ _ _ _ us hl => match us, hl with | [_, _], _ => rfl)
  have F7 := def_mk (st := sLot) (ps := ["_law_cells"]) X G a7 l7 c7 k7 (fun _ _ _ _ _ _ us hl => match us, hl with | [_], _ => rfl)
  have F8 := def_mk (st := sBase) (ps := ["_law_deal", "_law_lot"]) X G a8 l8 c8 k8 (fun _ _ _ _ _ _ us hl => match us, hl with | [_, _], _ => rfl)
  have F9 := def_mk (st := sLaw) (ps := ["_law_script"]) X G a9 l9 c9 k9 (fun _ _ _ _ _ _ us hl => match us, hl with | [_], _ => rfl)
  have R : Refs K mg C S L := ⟨PySem.W.mg_of X G nqC, PySem.W.mg_of X G nqS, PySem.W.mg_of X G nqL, PySem.W.mg_none_of X G z14, ex, ⟨ec1, ec2, ec3, ec4, ec5⟩, ⟨es1, es2, es3, es4, es5⟩, tC, tS, mC, mS, kC, kL, kV⟩
  have tb_s := PySem.W.tab_of Tp X r_s b_s
  refine' ⟨[(c_s, t_s)], PySem.W.fnOf "law" "law" (defArgs sLaw) (defBody sLaw) (defScope sLaw) .none kV9 dc9 pm9 an9 cd9 ct9, ?t1, ?bi, fun H a ns hl hH hS => ⟨a, ns, rfl, hS, hl, ?t2, fun _ => rfl⟩, fun base _ _ hB hC => ?t3⟩
  case t1 =>
    intro z hz
    rcases List.mem_cons.mp hz with rfl | hz
    · exact tb_s
    · cases hz
  case t2 =>
    intro z hz
    rcases List.mem_cons.mp hz with rfl | hz
    · exact tab_new (hH (c_s, t_s) List.mem_cons_self)
    · cases hz
  case t3 => exact ok_law F9 F6 F5 F7 F2 F4 F3 F1 F8 T R hB (hC (c_s, t_s) List.mem_cons_self) rfl (List.mem_cons_self) (fun z hz _ => by rcases List.mem_cons.mp hz with rfl | hz; rfl; cases hz)
  case bi => exact fun s v => .of_eq rfl
theorem walk {l : PySem.W.OpenLaw} {q : Program} {loose : List Str} {XP : (Str → Option Value) → Heap → Prop} {YP : World → Heap → Prop} {d : DefRec} {K : Params → PySem.W.Frag} (hn : l.most = some 63) (hdf : d.params.defaults = [])
    (hY : ∀ (w : World) (h : Heap), YP w h → (K w.params).In h) (hKT : ∀ w : World, PySem.W.noTabs (K w.params) = true)
    (F : ∀ (w : World) (mg mb : Str → Option Value) (mean : ExcName → Option Value) (fa : Addr) (h : Heap), (K w.params).In h → PyProof.Rows.Top q (PySem.W.looseW q loose) mean mg mb h → mg d.name = some (.ref fa) →
      ∃ (tabs : List (Addr × Addr)) (fd : FuncData), PySem.W.TabsAt tabs h ∧ (∀ (s : Shared) (u : Value), BindsTo s fd ⟨[u], []⟩ [("_law_script", u)]) ∧
        (∀ (H : Hp) (a : Addr) (ns : List Int), ns.length ≤ 63 → (∀ z ∈ tabs, H z.2 = some (.tbl #[])) → SqL (K w.params) H a (ns.map V.int) → spLaw (K w.params) ((fun tabs => tabs.zipWith (fun z q => (z.2, q)) [qS]) tabs) [.ref a] H (fun v _ => v = .bl true) fun _ _ _ => False) ∧
        ∀ base : Heap, (K w.params).In base → base.Ns mainGlobals mg → Bm mg base → (∀ z ∈ tabs, PySem.W.CodeHd base z.1 z.2) → FnOk l.prog w (K w.params) mg base CX0 5 fa fd ["_law_script"] (spLaw (K w.params) ((fun tabs => tabs.zipWith (fun z q => (z.2, q)) [qS]) tabs))) :
    PySem.W.WalkO q loose XP YP l.row.toRowW d [] (fun f vs => PySem.call f vs) :=
  L2.walk_ofT (n := 63) (k := 5) (x := "_law_script") (CX := fun _ => CX0) (sp := fun w tabs => spLaw (K w.params) ((fun tabs => tabs.zipWith (fun z q => (z.2, q)) [qS]) tabs)) hn (by decide) hdf ⟨rfl, by decide, by decide⟩ hY hKT F fun _ _ _ _ _ z => z
end K6
open PySem PySem.W PyProof.Rows
set_option maxRecDepth 100000 in
set_option maxHeartbeats 0 in
theorem PySem.Challenge.cw_seatdeal_k06_ties_by_lot_holds : PySem.Challenge.rw_seatdeal_k06_ties_by_lot.Holds := by
  w_on; o_law; k_head; (case hw => w_witness2)
  k_fill
  refine K6.walk (l := PySem.Challenge.rw_seatdeal_k06_ties_by_lot) rfl rfl (fun w h Y => PySem.W.km_in_of Y) (fun w => by kernel_rfl) ?F
  case F =>
    intro w mg mb mean fa h KX Tp hmg
    refine' K6.all_mk KX Tp hmg ?a1 ?l1 ?c1 ?k1 ?a2 ?l2 ?c2 ?k2 ?a3 ?l3 ?c3 ?k3 ?a4 ?l4 ?c4 ?k4 ?a5 ?l5 ?c5 ?k5 ?a6 ?l6 ?c6 ?k6 ?a7 ?l7 ?c7 ?k7 ?a8 ?l8 ?c8 ?k8 ?a9 ?l9 ?c9 ?k9 ?z1 ?z2 ?z3 ?z4 ?z5 ?z6 ?z7 ?z8 ?z9 ?z10 ?z11 ?z12 ?z13 ?z14 ?nqC ?nqS ?nqL ?ex ?ec1 ?ec2 ?ec3 ?ec4 ?ec5 ?es1 ?es2 ?es3 ?es4 ?es5 ?tC ?tS ?mC ?mS ?kC ?kL ?kV ?r_s ?b_s
    (case a1 => k_is)
    (case l1 => k_is)
    (case c1 => k_is)
    (case k1 => k_is)
    (case a2 => k_is)
    (case l2 => k_is)
    (case c2 => k_is)
    (case k2 => k_is)
    (case a3 => k_is)
    (case l3 => k_is)
    (case c3 => k_is)
    (case k3 => k_is)
    (case a4 => k_is)
    (case l4 => k_is)
    (case c4 => k_is)
    (case k4 => k_is)
    (case a5 => k_is)
    (case l5 => k_is)
    (case c5 => k_is)
    (case k5 => k_is)
    (case a6 => k_is)
    (case l6 => k_is)
    (case c6 => k_is)
    (case k6 => k_is)
    (case a7 => k_is)
    (case l7 => k_is)
    (case c7 => k_is)
    (case k7 => k_is)
    (case a8 => k_is)
    (case l8 => k_is)
    (case c8 => k_is)
    (case k8 => k_is)
    (case a9 => k_is)
    (case l9 => k_is)
    (case c9 => k_is)
    (case k9 => k_is)
    (case z1 => k_is)
    (case z2 => k_is)
    (case z3 => k_is)
    (case z4 => k_is)
    (case z5 => k_is)
    (case z6 => k_is)
    (case z7 => k_is)
    (case z8 => k_is)
    (case z9 => k_is)
    (case z10 => k_is)
    (case z11 => k_is)
    (case z12 => k_is)
    (case z13 => k_is)
    (case z14 => k_is)
    (case nqC => k_is)
    (case nqS => k_is)
    (case nqL => k_is)
    (case ex => k_exc)
    (case ec1 => k_is)
    (case ec2 => k_is)
    (case ec3 => k_is)
    (case ec4 => k_is)
    (case ec5 => k_is)
    (case es1 => k_is)
    (case es2 => k_is)
    (case es3 => k_is)
    (case es4 => k_is)
    (case es5 => k_is)
    (case tC => k_is)
    (case tS => k_is)
    (case mC => k_is)
    (case mS => k_is)
    (case kC => kit_is)
    (case kL => kit_is)
    (case kV => kit_is)
    (case r_s => exact rfl)
    (case b_s => refine (?_ : PySem.W.tabIn _ _ = some (76, 72)); kernel_rfl)
#print axioms PySem.Challenge.cw_seatdeal_k06_ties_by_lot_holds
end
