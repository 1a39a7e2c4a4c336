import PyProof.Rows.All
import Wide.All
import OpenK.AllK
import Wide.FinOn
import Lean
import PyProof.EqAt
import PyProof.EqKinds
import PyProof.TupleCall
import PyProof.ZipIter
import PyProof.WalksMore
import PyProof.NeKinds
import PyProof.SumWalkG
import PyProof.Rows.FoldScan
import PyProof.WalkInts
import PySem.Challenge.RW_dripgate_k06_whole_levels_step_by_step
section
set_option Elab.async false
set_option linter.all false
set_option maxRecDepth 100000
namespace L2
open PySem PySem.Spec PyProof.Rows

/-- a key: an int or a str -/
abbrev Key := Sum Int Str
def keyIs : Key → Value → Bool
  | .inl k, v => Value.isInt k v
  | .inr x, v => Value.isStrOf x v
def keyH (w : World) : Key → Int
  | .inl k => hashInt k
  | .inr x => hashStr w x
theorem keyIs_shape : ∀ {k : Key} {v : Value}, keyIs k v = true → (∃ i t, k = Sum.inl i ∧ v = Value.int i t) ∨ (∃ x t, k = Sum.inr x ∧ v = Value.str x t)
  | .inl i, v, h => by
    obtain ⟨t, e⟩ := Value.isInt_shape (k := i) (v := v) h
    exact .inl ⟨i, t, rfl, e⟩
  | .inr x, v, h => by
    obtain ⟨t, e⟩ := Value.isStrOf_shape (x := x) (v := v) h
    exact .inr ⟨x, t, rfl, e⟩
theorem keyIs_int (i : Int) (t : Tok) : keyIs (.inl i) (.int i t) = true := by simp [keyIs, Value.isInt]
theorem keyIs_str (x : Str) (t : Tok) : keyIs (.inr x) (.str x t) = true := by simp [keyIs, Value.isStrOf]
theorem key_ll (a b : Int) : decide ((Sum.inl a : Key) = Sum.inl b) = (a == b) := by
  by_cases e : a = b
  · subst e; simp
  · have h : ¬ (Sum.inl a : Key) = Sum.inl b := fun q => e (Sum.inl.inj q)
    rw [decide_eq_false h]
    exact (beq_eq_false_iff_ne.mpr e).symm
theorem key_rr (a b : Str) : decide ((Sum.inr a : Key) = Sum.inr b) = decide (a = b) := by
  by_cases e : a = b
  · subst e; simp
  · have h : ¬ (Sum.inr a : Key) = Sum.inr b := fun q => e (Sum.inr.inj q)
    rw [decide_eq_false h, decide_eq_false e]
theorem key_lr (a : Int) (b : Str) : decide ((Sum.inl a : Key) = Sum.inr b) = false := decide_eq_false (fun q => nomatch q)
theorem key_rl (a : Str) (b : Int) : decide ((Sum.inr a : Key) = Sum.inl b) = false := decide_eq_false (fun q => nomatch q)

def mixKind (prog : Program) (w : World) : PySem.KeyKind prog w Key where
  is := keyIs
  hash := keyH w
  inj := fun v a b ha hb => by
    rcases keyIs_shape ha with ⟨i, t, rfl, rfl⟩ | ⟨x, t, rfl, rfl⟩
    · rcases keyIs_shape hb with ⟨j, u, rfl, e⟩ | ⟨y, u, rfl, e⟩
      · injection e with e1 _; rw [e1]
      · exact nomatch e
    · rcases keyIs_shape hb with ⟨j, u, rfl, e⟩ | ⟨y, u, rfl, e⟩
      · exact nomatch e
      · injection e with e1 _; rw [e1]
  byValue := fun k v h => by
    rcases keyIs_shape h with ⟨i, t, rfl, rfl⟩ | ⟨x, t, rfl, rfl⟩ <;> rfl
  pyHash := fun hv h => by
    rcases keyIs_shape hv with ⟨i, t, rfl, rfl⟩ | ⟨x, t, rfl, rfl⟩
    · exact wpAny_pyHash_int h
    · exact wpAny_pyHash_str h
  eqBool := fun hu hv h => by
    rcases keyIs_shape hu with ⟨i, t, rfl, rfl⟩ | ⟨x, t, rfl, rfl⟩
    · rcases keyIs_shape hv with ⟨j, u, rfl, rfl⟩ | ⟨y, u, rfl, rfl⟩
      · rw [key_ll] at h; exact wpAny_eqBool_int h
      · rw [key_lr] at h; exact SeqAt.EqAt.int_str i t y u _ _ _ _ h
    · rcases keyIs_shape hv with ⟨j, u, rfl, rfl⟩ | ⟨y, u, rfl, rfl⟩
      · rw [key_rl] at h; exact SeqAt.EqAt.str_int x t j u _ _ _ _ h
      · rw [key_rr] at h; exact wpAny_eqBool_str h
  «strs» := fun k x t v h => by
    rcases keyIs_shape h with ⟨i, u, rfl, e⟩ | ⟨y, u, rfl, e⟩
    · exact nomatch e
    · injection e with e1 _
      subst e1
      cases v <;> rfl

theorem mixKind_is (prog : Program) (w : World) (k : Key) (v : Value) : (mixKind prog w).is k v = keyIs k v := rfl
theorem mixKind_int (prog : Program) (w : World) (i : Int) (t : Tok) : (mixKind prog w).is (.inl i) (.int i t) = true := keyIs_int i t
theorem mixKind_str (prog : Program) (w : World) (x : Str) (t : Tok) : (mixKind prog w).is (.inr x) (.str x t) = true := keyIs_str x t
end L2

namespace L2
open PySem PySem.Spec PyProof.Rows

/-- a value, without the heap -/
inductive V where
  | non | bl (b : Bool) | int (i : Int) | str (x : Str) | byt (b : Array UInt8) | flt (b : UInt64) | ref (a : Addr) | ty (n : String)
  deriving DecidableEq

def RelV : V → Value → Prop
  | .non, u => u = Value.none
  | .bl b, u => u = Value.bool b
  | .int i, u => ∃ t, u = Value.int i t
  | .str x, u => ∃ t, u = Value.str x t
  | .byt b, u => ∃ t, u = Value.bytes b t
  | .flt b, u => ∃ t, u = Value.float b t
  | .ref a, u => u = Value.ref a
  | .ty n, u => u = Value.type n

abbrev Vals : List V → List Value → Prop := Paired RelV
theorem Vals.length {xs : List V} {us : List Value} (r : Vals xs us) : xs.length = us.length := Paired.length r
theorem Vals.get : ∀ {xs : List V} {us : List Value} {i : Nat} {x : V}, Vals xs us → xs[i]? = some x → ∃ u, us[i]? = some u ∧ RelV x u
  | _, _, _, _, .nil, e => by simp at e
  | _, _, 0, _, .cons r _, e => by simp at e; subst e; exact ⟨_, rfl, r⟩
  | _, _, i + 1, x, .cons _ t, e => by
    obtain ⟨u, h1, h2⟩ := Vals.get (i := i) (x := x) t (by simpa using e)
    exact ⟨u, by simpa using h1, h2⟩
theorem Vals.set {x : V} {u : Value} (r : RelV x u) : ∀ {xs : List V} {us : List Value} (i : Nat), Vals xs us → Vals (xs.set i x) (us.set i u)
  | _, _, _, .nil => .nil
  | _, _, 0, .cons _ t => .cons r t
  | _, _, i + 1, .cons q t => .cons q (Vals.set r i t)
theorem Vals.append : ∀ {xs ys : List V} {us ws : List Value}, Vals xs us → Vals ys ws → Vals (xs ++ ys) (us ++ ws)
  | _, _, _, _, .nil, s => s
  | _, _, _, _, .cons r t, s => .cons r (Vals.append t s)
theorem Vals.take : ∀ {xs : List V} {us : List Value} (n : Nat), Vals xs us → Vals (xs.take n) (us.take n)
  | _, _, 0, _ => .nil
  | _, _, _ + 1, .nil => .nil
  | _, _, n + 1, .cons r t => .cons r (Vals.take n t)
theorem Vals.drop : ∀ {xs : List V} {us : List Value} (n : Nat), Vals xs us → Vals (xs.drop n) (us.drop n)
  | _, _, 0, r => r
  | _, _, _ + 1, .nil => .nil
  | _, _, n + 1, .cons _ t => Vals.drop n t
theorem Vals.none_of : ∀ {xs : List V} {us : List Value} {i : Nat}, Vals xs us → xs[i]? = none → us[i]? = none := fun {xs us i} r e => by
  have h1 := r.length
  have h2 : xs.length ≤ i := List.getElem?_eq_none_iff.mp e
  exact List.getElem?_eq_none_iff.mpr (by omega)

def RelO : Option V → Option Value → Prop
  | some v, some u => RelV v u
  | none, none => True
  | _, _ => False
def KV {κ : Type} : List (κ × V) → List (κ × Value) → Prop := Paired fun (p : κ × V) (q : κ × Value) => p.1 = q.1 ∧ RelV p.2 q.2

/-- a key of a dict (00_mix): an int or a text -/
def kV : Key → V
  | .inl i => .int i
  | .inr x => .str x

/-- what stands at a tracked address -/
inductive HO where
  /-- a list -/
  | lst (xs : List V)
  /-- a tuple (never changes) -/
  | tup (xs : List V)
  /-- a dict whose keys are ints and texts; one whose keys are tuples of ints and texts (the empty one is both) -/
  | dK (kvs : List (Key × V)) | dT (kvs : List (List Key × V))
  /-- a set of ints: its members, its size -/
  | set (S : Int → Bool) (n : Nat)
  /-- an instance of the class at C, its dict at dx, its attributes -/
  | ins (C dx : Addr) (fs : List (Str × V))
  /-- the dict of the instance at x -/
  | own (x : Addr)
  /-- the dict of an exception -/
  | xd (fs : List (Str × V))
  /-- a bound method, f of x -/
  | met (f x : Addr)
  /-- a range object lo, lo + 1, .. below hi -/
  | rng (lo hi : Int)
  /-- a thing that is known to the object (the script; a dict while a loop walks it): read, never written while it is so -/
  | frz (o : Obj) (u : HO)
  /-- a code object's table -/
  | tbl (ps : Array Value)
  /-- any other thing, by what is true of its one object (a def of one's own: SetO a S n := HO.ext fun h => ..) -/
  | ext (φ : Heap → Prop)

abbrev Hp := Addr → Option HO
def upd (H : Hp) (a : Addr) (o : HO) : Hp := fun b => if b = a then some o else H b
theorem upd_same {H : Hp} {a : Addr} {o : HO} : upd H a o a = some o := by unfold upd; rw [if_pos rfl]
theorem upd_ne {H : Hp} {a b : Addr} {o : HO} (h : b ≠ a) : upd H a o b = H b := by unfold upd; rw [if_neg h]
theorem upd_upd {H : Hp} {a : Addr} {o u : HO} : upd (upd H a o) a u = upd H a u := by
  funext b; unfold upd; split <;> rfl
/-- two objects of different content stand apart -/
theorem ne_of {H : Hp} {a b : Addr} {o u : HO} (h : H a = some o) (h' : H b = some u) (d : o ≠ u) : a ≠ b := by
  intro e; subst e; rw [h] at h'; exact d (Option.some.inj h')
theorem ne_of_none {H : Hp} {a b : Addr} {o : HO} (h : H a = some o) (h' : H b = none) : a ≠ b := by
  intro e; subst e; rw [h] at h'; cases h'

section
variable (P : Program) (w : World)
def ObjOk (H : Hp) (h : Heap) (a : Addr) : HO → Prop
  | .lst xs => xs.length ≤ sizeLine ∧ ∃ (its : List Value) (n : Nat), Vals xs its ∧ h.get? a = some { cls := .type "list", data := .seq its.toArray n }
  | .tup xs => xs.length ≤ sizeLine ∧ ∃ its : List Value, Vals xs its ∧ IsTup h a its.toArray
  | .dK kvs => kvs.length ≤ sizeLine ∧ (a == sysModules) = false ∧ ∃ vs, KV kvs vs ∧ h.DictOf (mixKind P w) a vs
  | .dT kvs => kvs.length ≤ sizeLine ∧ (a == sysModules) = false ∧ ∃ xs : List (List Key × Addr × Value),
      Paired (fun (p : List Key × V) (q : List Key × Addr × Value) => p.1 = q.1 ∧ H q.2.1 = some (.tup (p.1.map kV)) ∧ RelV p.2 q.2.2) kvs xs ∧
      ∃ o es ep, h.get? a = some o ∧ o.ExactDict ∧ o.data = .dict es ep ∧ es.toList = xs.map (entryOfKey (tupleKind (mixKind P w))) ∧ (xs.map (·.1)).Nodup
  | .set S n => h.SetOf (intKind P w) a S n
  | .ins C dx fs => H dx = some (.own a) ∧ fs.length ≤ 1000 ∧ dx ≠ a ∧ h.get? a = some (PySem.W.instObj C dx) ∧
      ∃ mA, h.Ns1 dx mA ∧ (∀ f, RelO (fs.lookup f) (mA f)) ∧ PySem.Within mA (fs.map (·.1))
  | .own _ => ∃ o, h.get? a = some o
  | .xd fs => ∃ mA, h.Ns1 a mA ∧ ∀ f, RelO (fs.lookup f) (mA f)
  | .rng lo hi => ∃ t u v, h.get? a = some { cls := .type "range", data := .fields #[.int lo t, .int hi u, .int 1 v] }
  | .frz o u => h.get? a = some o ∧ ObjOk H h a u
  | .tbl ps => h.get? a = some { cls := .none, data := .fields ps }
  | .met f x => h.get? a = some (PySem.W.methodObj (.ref f) (.ref x))
  | .ext φ => φ h ∧ (∃ o, h.get? a = some o) ∧ ∀ h1 h2 : Heap, φ h1 → (∀ o, h1.get? a = some o → h2.get? a = some o) → φ h2
/-- the abstract heap is held -/
def HOk (H : Hp) (h : Heap) : Prop := ∀ a o, H a = some o → ObjOk P w H h a o
end

section
variable {P : Program} {w : World} {H H' : Hp} {h h' : Heap} {a : Addr} {o : HO}
theorem ObjOk.lt (x : ObjOk P w H h a o) : a < h.objs.size := by
  cases o with
  | lst xs => obtain ⟨_, _, _, _, e⟩ := x; exact Heap.lt_size e
  | tup xs => obtain ⟨_, _, _, p⟩ := x; exact p.lt
  | dK kvs => obtain ⟨_, _, _, _, o, _, _, e, _⟩ := x; exact Heap.lt_size e
  | dT kvs => obtain ⟨_, _, _, _, o, _, _, e, _⟩ := x; exact Heap.lt_size e
  | set S n => obtain ⟨o, _, _, _, e, _⟩ := x; exact Heap.lt_size e
  | ins C dx fs => obtain ⟨_, _, _, e, _⟩ := x; exact Heap.lt_size e
  | own y => obtain ⟨_, e⟩ := x; exact Heap.lt_size e
  | xd fs => obtain ⟨_, ⟨_, _, _, e, _⟩, _⟩ := x; exact Heap.lt_size e
  | rng lo hi => obtain ⟨_, _, _, e⟩ := x; exact Heap.lt_size e
  | frz ob u => obtain ⟨e, _⟩ := x; exact Heap.lt_size e
  | tbl ps => exact Heap.lt_size (show h.get? a = some _ from x)
  | met f y => exact Heap.lt_size (show h.get? a = some _ from x)
  | ext φ => obtain ⟨_, ⟨_, e⟩, _⟩ := x; exact Heap.lt_size e
theorem Paired.mapP {α β : Type} {F G : α → β → Prop} : ∀ {l₁ : List α} {l₂ : List β}, Paired F l₁ l₂ → (∀ a b, F a b → G a b) → Paired G l₁ l₂
  | _, _, .nil, _ => .nil
  | _, _, .cons r t, f => .cons (f _ _ r) (Paired.mapP t f)
theorem Paired.imp' {α β : Type} {F G : α → β → Prop} (f : ∀ a b, F a b → G a b) {l₁ : List α} {l₂ : List β} (r : Paired F l₁ l₂) : Paired G l₁ l₂ := Paired.mapP r f
/-- what an object's description leans on: its own object, its own dict, the tuples -/
theorem ObjOk.stay (x : ObjOk P w H h a o) (k : ∀ b u, (b = a ∨ H b = some (.own a)) → h.get? b = some u → h'.get? b = some u)
    (ho : ∀ b, H b = some (.own a) → H' b = some (.own a)) (ht : ∀ b xs, H b = some (.tup xs) → H' b = some (.tup xs)) : ObjOk P w H' h' a o := by
  induction o with
  | lst xs => obtain ⟨z, its, n, r, e⟩ := x; exact ⟨z, its, n, r, k _ _ (.inl rfl) e⟩
  | tup xs => obtain ⟨z, its, r, ob, e, c⟩ := x; exact ⟨z, its, r, ob, k _ _ (.inl rfl) e, c⟩
  | dK kvs => obtain ⟨z, y, vs, r, ob, es, ep, e, c⟩ := x; exact ⟨z, y, vs, r, ob, es, ep, k _ _ (.inl rfl) e, c⟩
  | dT kvs =>
    obtain ⟨z, y, xs, r, ob, es, ep, e, c⟩ := x
    exact ⟨z, y, xs, Paired.mapP r fun p q z => ⟨z.1, ht _ _ z.2.1, z.2.2⟩, ob, es, ep, k _ _ (.inl rfl) e, c⟩
  | set S n => obtain ⟨ob, es, ep, t, e, c⟩ := x; exact ⟨ob, es, ep, t, k _ _ (.inl rfl) e, c⟩
  | ins C dx fs =>
    obtain ⟨d, z, ne, e, mA, ⟨od, es, ep, e2, c⟩, r⟩ := x
    exact ⟨ho _ d, z, ne, k _ _ (.inl rfl) e, mA, ⟨od, es, ep, k _ _ (.inr d) e2, c⟩, r⟩
  | own y => obtain ⟨ob, e⟩ := x; exact ⟨ob, k _ _ (.inl rfl) e⟩
  | xd fs => obtain ⟨mA, ⟨od, es, ep, e, c⟩, r⟩ := x; exact ⟨mA, ⟨od, es, ep, k _ _ (.inl rfl) e, c⟩, r⟩
  | rng lo hi => obtain ⟨t, u, v, e⟩ := x; exact ⟨t, u, v, k _ _ (.inl rfl) e⟩
  | frz ob u ih => obtain ⟨e, q⟩ := x; exact ⟨k _ _ (.inl rfl) e, ih q⟩
  | tbl ps =>
    have e : h.get? a = some { cls := .none, data := .fields ps } := x
    show h'.get? a = some { cls := .none, data := .fields ps }
    exact k a _ (.inl rfl) e
  | met f y =>
    have e : h.get? a = some (PySem.W.methodObj (.ref f) (.ref y)) := x
    show h'.get? a = some (PySem.W.methodObj (.ref f) (.ref y))
    exact k a _ (.inl rfl) e
  | ext φ => obtain ⟨p, ⟨o, e⟩, st⟩ := x; exact ⟨st _ _ p fun o q => k _ _ (.inl rfl) q, ⟨o, k _ _ (.inl rfl) e⟩, st⟩
theorem HOk.lt (x : HOk P w H h) (e : H a = some o) : a < h.objs.size := (x a o e).lt
theorem HOk.fresh (x : HOk P w H h) (e : h.objs.size ≤ a) : H a = none := by
  cases q : H a with
  | none => rfl
  | some u => exact absurd (Nat.lt_of_lt_of_le (x.lt q) e) (Nat.lt_irrefl _)
/-- every object of the heap is kept -/
theorem HOk.kept (x : HOk P w H h) (k : ∀ b u, h.get? b = some u → h'.get? b = some u) : HOk P w H h' := fun a o e =>
  (x a o e).stay (fun b u _ q => k b u q) (fun _ q => q) fun _ _ q => q
/-- a new object is laid and tracked -/
theorem HOk.laid (x : HOk P w H h) (k : ∀ b u, h.get? b = some u → h'.get? b = some u) (hp : h.objs.size ≤ a) (new : ObjOk P w (upd H a o) h' a o) : HOk P w (upd H a o) h' := fun b u e => by
  have hn := x.fresh hp
  by_cases hb : b = a
  · subst hb; rw [upd_same] at e; cases e; exact new
  · rw [upd_ne hb] at e
    exact (x b u e).stay (fun c v _ q => k c v q) (fun c q => by rw [upd_ne (ne_of_none q hn)]; exact q) fun c xs q => by rw [upd_ne (ne_of_none q hn)]; exact q
end

/-- what may be read as u: it is u, or a known u -/
def Rd (H : Hp) (a : Addr) (u : HO) : Prop := H a = some u ∨ ∃ o, H a = some (.frz o u)
theorem Rd.of {H : Hp} {a : Addr} {u : HO} (h : H a = some u) : Rd H a u := .inl h
theorem Rd.ok {P : Program} {w : World} {H : Hp} {h : Heap} {a : Addr} {u : HO} (r : Rd H a u) (x : HOk P w H h) : ObjOk P w H h a u := by
  rcases r with r | ⟨o, r⟩
  · exact x a u r
  · obtain ⟨_, q⟩ := x a _ r
    exact q
/-- what may be written -/
def Mut : Option HO → Prop
  | some (.lst _) => True
  | some (.dK _) => True
  | some (.dT _) => True
  | some (.set _ _) => True
  | some (.ins _ _ _) => True
  | some (.ext _) => True
  | _ => False
section
variable {P : Program} {w : World} {H : Hp} {h h' : Heap} {x e : Addr} {o' : HO}
/-- the object at e is changed: x itself, or the dict of the instance x -/
theorem HOk.write (ok : HOk P w H h) (mu : Mut (H x)) (he : e = x ∨ H e = some (.own x)) (k : ∀ b u, b ≠ e → h.get? b = some u → h'.get? b = some u) (heo : ∃ u, h'.get? e = some u)
    (new : ObjOk P w (upd H x o') h' x o') : HOk P w (upd H x o') h' := fun b u q => by
  have nown : ∀ c y, H c = some (.own y) → c ≠ x := fun c y r z => by subst z; rw [r] at mu; exact mu
  have ntup : ∀ c xs, H c = some (.tup xs) → c ≠ x := fun c xs r z => by subst z; rw [r] at mu; exact mu
  by_cases hb : b = x
  · subst hb; rw [upd_same] at q; cases q; exact new
  · rw [upd_ne hb] at q
    by_cases hbe : b = e
    · have q' : H b = some (.own x) := by
        rcases he with z | z
        · exact absurd (hbe.trans z) hb
        · rw [hbe]; exact z
      rw [q] at q'; cases q'
      obtain ⟨v, hv⟩ := heo
      exact ⟨v, by rw [hbe]; exact hv⟩
    · refine (ok b u q).stay (fun c v hc r => k c v ?_ r) (fun c r => by rw [upd_ne (nown c b r)]; exact r) fun c xs r => by rw [upd_ne (ntup c xs r)]; exact r
      rcases hc with rfl | hc
      · exact hbe
      · rintro rfl
        rcases he with z | z
        · exact nown c b hc z
        · rw [hc] at z; cases z; exact hb rfl
end

/-! ### kept unless tracked; of the frames at fs (the callers') the slots may change (an exception that passes writes there); of the records at ex (iterators) nothing is said -/
structure Un (fs ex : List Addr) (H H' : Hp) (h h' : Heap) : Prop where
  keep : ∀ b o, h.get? b = some o → H b = none → b ∉ fs → b ∉ ex → h'.get? b = some o
  slot : ∀ b o, h.get? b = some o → H b = none → b ∈ fs → b ∉ ex → ∃ sl, h'.get? b = some { o with slots := sl }
  free : ∀ b o, h.get? b = some o → H b = none → b ∉ ex → H' b = none
  there : ∀ b o, h.get? b = some o → b ∉ ex → ∃ o', h'.get? b = some o'
  tups : ∀ b xs, H b = some (.tup xs) → H' b = some (.tup xs)
  frzs : ∀ b o u, H b = some (.frz o u) → H' b = some (.frz o u)
  tbls : ∀ b ps, H b = some (.tbl ps) → ∃ more, H' b = some (.tbl (ps ++ more))
section
variable {fs fs' ex ex' : List Addr} {H H1 H2 : Hp} {h h1 h2 h' : Heap} {a x e : Addr} {o : HO}
theorem Un.any (u : Un fs ex H H1 h h1) {b : Addr} {ob : Obj} (q : h.get? b = some ob) (n : H b = none) (hx : b ∉ ex) : ∃ sl, h1.get? b = some { ob with slots := sl } := by
  by_cases hb : b ∈ fs
  · exact u.slot b ob q n hb hx
  · exact ⟨ob.slots, u.keep b ob q n hb hx⟩
theorem Un.trans (a : Un fs ex H H1 h h1) (b : Un fs ex H1 H2 h1 h2) : Un fs ex H H2 h h2 where
  keep := fun c ob q n hc hx => b.keep c ob (a.keep c ob q n hc hx) (a.free c ob q n hx) hc hx
  slot := fun c ob q n hc hx => by
    obtain ⟨sl, e1⟩ := a.slot c ob q n hc hx
    obtain ⟨sl', e2⟩ := b.slot c _ e1 (a.free c ob q n hx) hc hx
    exact ⟨sl', e2⟩
  free := fun c ob q n hx => by
    obtain ⟨o', e1⟩ := a.there c ob q hx
    exact b.free c o' e1 (a.free c ob q n hx) hx
  there := fun c ob q hx => by
    obtain ⟨o', e1⟩ := a.there c ob q hx
    exact b.there c o' e1 hx
  tups := fun c xs q => b.tups c xs (a.tups c xs q)
  frzs := fun c ob xs q => b.frzs c ob xs (a.frzs c ob xs q)
  tbls := fun c ps q => by
    obtain ⟨m1, e1⟩ := a.tbls c ps q
    obtain ⟨m2, e2⟩ := b.tbls c _ e1
    exact ⟨m1 ++ m2, by rw [e2, Array.append_assoc]⟩
theorem Un.kept (k : ∀ b u, h.get? b = some u → h'.get? b = some u) : Un fs ex H H h h' :=
  ⟨fun b ob q _ _ _ => k b ob q, fun b ob q _ _ _ => ⟨ob.slots, k b ob q⟩, fun _ _ _ n _ => n, fun b ob q _ => ⟨ob, k b ob q⟩, fun _ _ q => q, fun _ _ _ q => q, fun _ ps q => ⟨#[], by rw [q]; simp⟩⟩
theorem Un.refl : Un fs ex H H h h := Un.kept fun _ _ q => q
theorem Un.laid (k : ∀ b u, h.get? b = some u → h'.get? b = some u) (hp : h.objs.size ≤ a) (hn : H a = none) : Un fs ex H (upd H a o) h h' where
  keep := fun b u q _ _ _ => k b u q
  slot := fun b u q _ _ _ => ⟨u.slots, k b u q⟩
  free := fun b u q n _ => by rw [upd_ne (Nat.ne_of_lt (Nat.lt_of_lt_of_le (Heap.lt_size q) hp))]; exact n
  there := fun b u q _ => ⟨u, k b u q⟩
  tups := fun b xs q => by rw [upd_ne (ne_of_none q hn)]; exact q
  frzs := fun b u xs q => by rw [upd_ne (ne_of_none q hn)]; exact q
  tbls := fun b ps q => ⟨#[], by rw [upd_ne (ne_of_none q hn), q]; simp⟩
theorem Un.write (mu : Mut (H x)) (he : e = x ∨ H e = some (.own x)) (k : ∀ b u, b ≠ e → h.get? b = some u → h'.get? b = some u) (heo : ∃ u, h'.get? e = some u) : Un fs ex H (upd H x o) h h' := by
  have hx : ∀ b, H b = none → b ≠ x := fun b n z => by subst z; rw [n] at mu; exact mu
  have hb : ∀ b, H b = none → b ≠ e := fun b n z => by
    subst z
    rcases he with r | r
    · exact hx b n r
    · rw [n] at r; cases r
  have hm : ∀ b u, H b = some u → ¬ Mut (some u) → b ≠ x := fun b u q nm z => by subst z; rw [q] at mu; exact nm mu
  refine ⟨fun b u q n _ _ => k b u (hb b n) q, fun b u q n _ _ => ⟨u.slots, k b u (hb b n) q⟩, fun b u q n _ => by rw [upd_ne (hx b n)]; exact n, fun b u q _ => ?_,
    fun b xs q => by rw [upd_ne (hm b _ q fun z => z)]; exact q, fun b u xs q => by rw [upd_ne (hm b _ q fun z => z)]; exact q, fun b ps q => ⟨#[], by rw [upd_ne (hm b _ q fun z => z), q]; simp⟩⟩
  by_cases hbe : b = e
  · subst hbe; exact heo
  · exact ⟨u, k b u hbe q⟩
theorem Un.mono (u : Un fs ex H H1 h h1) (hs : ∀ b ∈ fs, b ∈ fs') (hx : ∀ b ∈ ex, b ∈ ex') : Un fs' ex' H H1 h h1 :=
  ⟨fun b ob q n hb he => u.keep b ob q n (fun z => hb (hs b z)) fun z => he (hx b z), fun _ _ q n _ he => u.any q n fun z => he (hx _ z), fun b ob q n he => u.free b ob q n fun z => he (hx b z), fun b ob q he => u.there b ob q fun z => he (hx b z), u.tups, u.frzs, u.tbls⟩
end

/-! ### the heap without what is tracked -/
def trk (h : Heap) (H : Hp) : List Addr := (List.range h.objs.size).filter fun a => (H a).isSome
def hidT (h : Heap) (H : Hp) : Heap := PySem.W.hideAll h (trk h H)
theorem hidT_size (h : Heap) (H : Hp) : (hidT h H).objs.size = h.objs.size := PySem.W.hideAll_size _ _
theorem hidT_get {h : Heap} {H : Hp} {b : Addr} {o : Obj} (e : h.get? b = some o) (n : H b = none) : (hidT h H).get? b = some o :=
  PySem.W.hideAll_get _ e fun hm => by
    have q : (H b).isSome = true := (List.mem_filter.mp hm).2
    rw [n] at q; simp at q
theorem of_hidT {h : Heap} {H : Hp} {b : Addr} {o : Obj} (e : (hidT h H).get? b = some o) : h.get? b = some o ∧ H b = none := by
  have e' : h.get? b = some o := PySem.W.of_hideAll (trk h H) e
  refine ⟨e', ?_⟩
  cases q : H b with
  | none => rfl
  | some x =>
    have hm : b ∈ trk h H := List.mem_filter.mpr ⟨List.mem_range.mpr (Heap.lt_size e'), by simp [q]⟩
    have z : (hidT h H).get? b = none := PySem.W.hideAll_none (trk h H) hm
    rw [z] at e; cases e

/-! ### OpenK's ledger, filled with every new object but one -/
def allNews (g h : Heap) (L : Addr) : List (Addr × Obj) := (List.range h.objs.size).filterMap fun a => if a = L ∨ (g.get? a).isSome = true then none else (h.get? a).map fun o => (a, o)
theorem mem_allNews {g h : Heap} {L a : Addr} {o : Obj} (h1 : a ≠ L) (h2 : g.get? a = none) (h3 : h.get? a = some o) : (a, o) ∈ allNews g h L :=
  List.mem_filterMap.mpr ⟨a, List.mem_range.mpr (Heap.lt_size h3), by simp [h1, h2, h3]⟩
theorem of_mem_allNews {g h : Heap} {L : Addr} {p : Addr × Obj} (hp : p ∈ allNews g h L) : p.1 ≠ L ∧ g.get? p.1 = none ∧ h.get? p.1 = some p.2 := by
  obtain ⟨b, _, e⟩ := List.mem_filterMap.mp hp
  split at e
  · cases e
  · rename_i hn
    cases q : h.get? b with
    | none => rw [q] at e; simp at e
    | some u =>
      rw [q] at e
      simp only [Option.map_some, Option.some.injEq] at e
      subst e
      refine ⟨fun z => hn (.inl z), ?_, q⟩
      show g.get? b = none
      cases r : g.get? b with
      | none => rfl
      | some v => exact (hn (.inr (by simp [r]))).elim
def rest (g h : Heap) (L d : Addr) : List (Addr × Obj) := (allNews g h L).filter fun p => decide (p.1 ≠ d)
theorem rest_ne {g h : Heap} {L d : Addr} : ∀ p ∈ rest g h L d, p.1 ≠ d := fun p hp => of_decide_eq_true (List.mem_filter.mp hp).2
theorem mem_rest {g h : Heap} {L d a : Addr} {o : Obj} (h1 : a ≠ L) (h2 : g.get? a = none) (h3 : h.get? a = some o) (h4 : a ≠ d) : (a, o) ∈ rest g h L d :=
  List.mem_filter.mpr ⟨mem_allNews h1 h2 h3, decide_eq_true h4⟩
theorem news_all {g h : Heap} {L : Addr} : News g L h (allNews g h L) := fun p hp => let ⟨a, b, c⟩ := of_mem_allNews hp; ⟨c, a, b⟩
theorem news_at {g h : Heap} {L d : Addr} {o : Obj} (h1 : d ≠ L) (h2 : g.get? d = none) (h3 : h.get? d = some o) : News g L h ((d, o) :: rest g h L d) := fun p hp => by
  rcases List.mem_cons.mp hp with rfl | hp
  · exact ⟨h3, h1, h2⟩
  · exact news_all p (List.mem_filter.mp hp).1
/-- behind a rule that changed d alone: all else but the frame is kept -/
theorem kept_of_news {g h h' : Heap} {L d : Addr} {m : Str → Option Value} (k : ∀ b o, g.get? b = some o → h.get? b = some o) (F : Fr g L h' m) (N : News g L h' (rest g h L d)) :
    ∀ b o, b ≠ L → b ≠ d → h.get? b = some o → h'.get? b = some o := fun b o h1 h2 e => by
  cases q : g.get? b with
  | some u =>
    have := k b u q
    rw [e] at this; cases this
    exact F.keep b _ q
  | none => exact (N (b, o) (mem_rest h1 q e h2)).1
end L2

namespace L2
open PySem PySem.Spec PyProof.Rows

/-- the module's facts, over the base: the heap at the law's entry without what is tracked there -/
structure Mod (K : PySem.W.Frag) (mg : Str → Option Value) (base : Heap) : Prop where
  kin : K.In base
  glob : base.Ns mainGlobals mg
  blt : ∃ mb, base.Ns builtinsNs mb ∧ ∀ x : Str, x ≠ "__name__" → mb x = bootBuiltins x
  nolimit : base.NoLimit

/-- the context: a def's body (or a comprehension's block) running. base: fixed through the whole law; s₀, H₀: the entry; outer: the frames whose slots others may change (a def's callers); stack: all frames that run;
   ex: iterators that were made ahead of the entry and are walked here (a comprehension's); fn: the names whose cells were made at the entry (a def: all; a comprehension's block: its own); calm: not within an except suite; pn: pins that every state bears; xe: what is wanted of an exception that leaves the code -/
structure Cx where
  prog : Program
  w : World
  K : PySem.W.Frag
  mg : Str → Option Value
  base : Heap
  A : Around
  N : List Str
  s₀ : Shared
  H₀ : Hp
  env : Env
  outer : List Env
  stack : List Env
  ex : List Addr
  fn : Str → Bool
  calm : Bool
  pn : List (Addr × Obj)
  xe : Value → Shared → Prop
/-- the callers' frames -/
def frs (l : List Env) : List Addr := l.filterMap (·.frame)
abbrev Cx.fs (X : Cx) : List Addr := frs X.outer

def Vis (sc : Scope) (x : Str) : Prop := sc.names.lookup x = some .local ∨ sc.names.lookup x = some .cell ∨ sc.names.lookup x = some .free
def Loc (sc : Scope) (x : Str) : Prop := sc.names.lookup x = some .local ∨ sc.names.lookup x = some .cell
def Look (env : Env) (h : Heap) (m : Str → Option Value) (x : Str) (u : Value) : Prop :=
  (env.kindOf x = some .local ∧ m x = some u) ∨ ((env.kindOf x = some .cell ∨ env.kindOf x = some .free) ∧ ∃ c, env.cells.lookup x = some c ∧ h.IsCell c (some u))

structure Cx.Ok (X : Cx) : Prop where
  mod : Mod X.K X.mg X.base
  kind : X.env.scope.kind = .function
  glob : X.env.globals = mainGlobals
  blt : X.env.builtins = builtinsNs
  above : X.s₀.heap.objs.size ≤ X.env.locals
  inj : ∀ x y c, X.env.cells.lookup x = some c → X.env.cells.lookup y = some c → x = y
  has : ∀ x, (X.env.kindOf x = some .cell ∨ X.env.kindOf x = some .free) → ∃ c, X.env.cells.lookup x = some c
  cab : ∀ x c, X.fn x = true → X.env.cells.lookup x = some c → X.s₀.heap.objs.size ≤ c
  hd : X.calm = true → X.A.handled = none
  frames : X.A.frames = some X.stack
  stk : X.stack = X.outer ∨ (X.stack = X.env :: X.outer ∧ X.env.frame = some X.env.locals)
  exf : ∀ b ∈ X.ex, b ≠ X.env.locals ∧ ∀ x c, X.env.cells.lookup x = some c → c ≠ b
  bs : ∀ b o, X.base.get? b = some o → X.s₀.heap.get? b = some o ∧ X.H₀ b = none
  bsz : X.base.objs.size ≤ X.s₀.heap.objs.size
  noex : ∀ b o, X.base.get? b = some o → b ∉ X.ex
  exfs : ∀ b ∈ X.ex, b ∉ X.fs
  funs : X.s₀.heap.FunFrames X.base X.outer
  frf : ∀ b ∈ X.fs, X.H₀ b = none

structure Inv (X : Cx) (pins : List (Addr × Obj)) (σ : List (Option V)) (H : Hp) (s : Shared) : Prop where
  ok : X.Ok
  os : s.os = X.s₀.os
  bare : AllBare s.gens
  base : Un X.fs X.ex X.H₀ H X.s₀.heap s.heap
  loc : ∃ m, s.heap.Ns X.env.locals m ∧ ∀ (i : Nat) (x : Str) (v : V), X.N[i]? = some x → σ[i]? = some (some v) → Vis X.env.scope x → ∃ u, RelV v u ∧ Look X.env s.heap m x u
  cell : ∀ x c, X.env.cells.lookup x = some c → ∃ v, s.heap.IsCell c v
  free : H X.env.locals = none
  freeC : ∀ x c, X.env.cells.lookup x = some c → H c = none
  pin : ∀ p ∈ X.pn ++ pins, s.heap.get? p.1 = some p.2 ∧ H p.1 = none ∧ p.1 ≠ X.env.locals ∧ p.1 ∉ X.fs ∧ ∀ v, p.2.data ≠ .cell v
  hok : HOk X.prog X.w H s.heap
  len : σ.length = X.N.length

section
variable {X : Cx} {pins : List (Addr × Obj)} {σ : List (Option V)} {H H' : Hp} {s : Shared} {h' : Heap}

theorem Cx.Ok.nofr (ok : X.Ok) {b : Addr} {o : Obj} (e : X.base.get? b = some o) : b ∉ X.fs := fun hb => by
  have := (ok.funs.mem hb).1
  rw [e] at this; cases this
theorem Inv.bs (I : Inv X pins σ H s) : ∀ b o, X.base.get? b = some o → s.heap.get? b = some o ∧ H b = none := fun b o e =>
  ⟨I.base.keep b o (I.ok.bs b o e).1 (I.ok.bs b o e).2 (I.ok.nofr e) (I.ok.noex b o e), I.base.free b o (I.ok.bs b o e).1 (I.ok.bs b o e).2 (I.ok.noex b o e)⟩
theorem Inv.bk (I : Inv X pins σ H s) : ∀ b o, X.base.get? b = some o → s.heap.get? b = some o := fun b o e => (I.bs b o e).1
theorem Inv.mod (I : Inv X pins σ H s) : Mod X.K X.mg X.base := I.ok.mod
theorem Inv.kIn (I : Inv X pins σ H s) : X.K.In s.heap := I.ok.mod.kin.keeps I.bk
theorem Inv.nolimit (I : Inv X pins σ H s) : s.heap.NoLimit := I.ok.mod.nolimit.keeps I.bk
/-- the frame over the base: for OpenK's rules (K.In X.base is I.mod.kin) -/
theorem Inv.fr (I : Inv X pins σ H s) : ∃ m, Fr X.base X.env.locals s.heap m :=
  let ⟨m, hn, _⟩ := I.loc
  ⟨m, hn, I.bk, Nat.le_trans I.ok.bsz I.ok.above⟩
theorem Inv.lt (I : Inv X pins σ H s) : X.env.locals < s.heap.objs.size := let ⟨_, hn, _⟩ := I.loc; hn.lt
theorem Inv.sz (I : Inv X pins σ H s) : X.s₀.heap.objs.size ≤ s.heap.objs.size := Nat.le_trans I.ok.above (Nat.le_of_lt I.lt)
theorem Inv.nofs (I : Inv X pins σ H s) {a : Addr} (h : s.heap.objs.size ≤ a) : a ∉ X.fs := fun hb => by
  obtain ⟨_, o, ho, _⟩ := I.ok.funs.mem hb
  exact absurd (Nat.lt_of_lt_of_le (Heap.lt_size ho) (Nat.le_trans I.sz h)) (Nat.lt_irrefl _)
theorem Inv.cne (I : Inv X pins σ H s) : ∀ x c, X.env.cells.lookup x = some c → c ≠ X.env.locals := fun x c e z => by
  obtain ⟨v, o, ho, hd⟩ := I.cell x c e
  obtain ⟨m, ⟨o', es, ep, ho', hd', _⟩, _⟩ := I.loc
  rw [z, ho'] at ho; cases ho; rw [hd'] at hd; cases hd
theorem Inv.funs (I : Inv X pins σ H s) : s.heap.FunFrames X.base X.outer := by
  have all : ∀ (l : List Env), (∀ b ∈ frs l, b ∈ X.fs) → X.s₀.heap.FunFrames X.base l → s.heap.FunFrames X.base l := by
    intro l
    induction l with
    | nil => intro _ _; trivial
    | cons env r ih =>
      intro hs hl
      obtain ⟨hk, ⟨L, o, hf, hn, ho, hd⟩, hr⟩ := hl
      have hL : L ∈ X.fs := hs L (by unfold frs; rw [List.filterMap_cons, hf]; exact List.mem_cons_self)
      obtain ⟨sl, e⟩ := I.base.slot L o ho (I.ok.frf L hL) hL fun z => I.ok.exfs L z hL
      exact ⟨hk, ⟨L, _, hf, hn, e, hd⟩, ih (fun b hb => hs b (by unfold frs; rw [List.filterMap_cons, hf]; exact List.mem_cons_of_mem _ hb)) hr⟩
  exact all X.outer (fun _ hb => hb) I.ok.funs

/-- the frames that run, for a call -/
theorem Inv.stack (I : Inv X pins σ H s) : s.heap.FunFrames X.base X.stack := by
  rcases I.ok.stk with e | ⟨e, hf⟩
  · rw [e]; exact I.funs
  · rw [e]
    obtain ⟨m, hn, _⟩ := I.loc
    refine .cons (by rw [I.ok.kind]; decide) hf hn ?_ I.funs
    exact Heap.get?_none_of_le (Nat.le_trans I.ok.bsz I.ok.above)
theorem Inv.stkSub (I : Inv X pins σ H s) : ∀ b ∈ frs X.stack, b ∈ X.env.locals :: X.fs := fun b hb => by
  rcases I.ok.stk with e | ⟨e, hf⟩
  · rw [e] at hb; exact List.mem_cons_of_mem _ hb
  · rw [e] at hb
    unfold frs at hb
    rw [List.filterMap_cons, hf] at hb
    exact hb
theorem Inv.stkFree (I : Inv X pins σ H s) : ∀ b ∈ frs X.stack, H b = none := fun b hb => by
  rcases List.mem_cons.mp (I.stkSub b hb) with e | hb
  · rw [e]; exact I.free
  · obtain ⟨_, o, ho, _⟩ := I.ok.funs.mem hb
    exact I.base.free b o ho (I.ok.frf b hb) fun z => I.ok.exfs b z hb

/-- THE STEP: the untracked objects but the frame and the records at ch are kept (the callers' frames up to slots), the frame's map is kept, the new abstract heap is held -/
theorem Inv.step {g' : Array GenState} {t' : Nat} {d' : Drawn} {ch : List Addr} (I : Inv X pins σ H s)
    (hch : ∀ b ∈ ch, (b ∈ X.ex ∨ X.s₀.heap.objs.size ≤ b) ∧ b ≠ X.env.locals ∧ (∀ x c, X.env.cells.lookup x = some c → c ≠ b) ∧ ∀ p ∈ X.pn ++ pins, p.1 ≠ b)
    (keep : ∀ b o, b ≠ X.env.locals → b ∉ X.fs → b ∉ ch → s.heap.get? b = some o → H b = none → h'.get? b = some o)
    (slot : ∀ b o, b ≠ X.env.locals → b ∈ X.fs → b ∉ ch → s.heap.get? b = some o → H b = none → ∃ sl, h'.get? b = some { o with slots := sl }) (free : ∀ b o, b ∉ ch → s.heap.get? b = some o → H b = none → H' b = none)
    (there : ∀ b o, b ∉ ch → s.heap.get? b = some o → ∃ o', h'.get? b = some o')
    (tups : ∀ b xs, H b = some (.tup xs) → H' b = some (.tup xs)) (frzs : ∀ b o u, H b = some (.frz o u) → H' b = some (.frz o u)) (tbls : ∀ b ps, H b = some (.tbl ps) → ∃ more, H' b = some (.tbl (ps ++ more)))
    (ns : ∀ m, s.heap.Ns X.env.locals m → h'.Ns X.env.locals m) (hok : HOk X.prog X.w H' h') (hg : AllBare g') :
    Inv X pins σ H' { s with heap := h', gens := g', drawn := d', toks := t' } := by
  have neL : ∀ b o, X.s₀.heap.get? b = some o → b ≠ X.env.locals := fun b o e => Nat.ne_of_lt (Nat.lt_of_lt_of_le (Heap.lt_size e) I.ok.above)
  have neC : ∀ b o, X.s₀.heap.get? b = some o → b ∉ X.ex → b ∉ ch := fun b o e hx hb => by
    rcases (hch b hb).1 with z | z
    · exact hx z
    · exact absurd (Nat.lt_of_lt_of_le (Heap.lt_size e) z) (Nat.lt_irrefl _)
  have cellK : ∀ x c, X.env.cells.lookup x = some c → ∀ v, s.heap.IsCell c v → h'.IsCell c v := fun x c e v ⟨o, ho, hd⟩ => by
    have nch : c ∉ ch := fun z => (hch c z).2.2.1 x c e rfl
    by_cases hc : c ∈ X.fs
    · obtain ⟨sl, q⟩ := slot c o (I.cne x c e) hc nch ho (I.freeC x c e)
      exact ⟨_, q, hd⟩
    · exact ⟨o, keep c o (I.cne x c e) hc nch ho (I.freeC x c e), hd⟩
  refine ⟨I.ok, I.os, hg, ⟨fun b o e n hb hx => ?_, fun b o e n hb hx => ?_, fun b o e n hx => ?_, fun b o e hx => ?_, fun b xs e => tups b xs (I.base.tups b xs e), fun b o xs e => frzs b o xs (I.base.frzs b o xs e), fun b ps e => ?_⟩, ?_, fun x c e => ?_, ?_, fun x c e => ?_, fun p hp => ?_, hok, I.len⟩
  · exact keep b o (neL b o e) hb (neC b o e hx) (I.base.keep b o e n hb hx) (I.base.free b o e n hx)
  · obtain ⟨sl, e1⟩ := I.base.slot b o e n hb hx
    obtain ⟨sl', e2⟩ := slot b _ (neL b o e) hb (neC b o e hx) e1 (I.base.free b o e n hx)
    exact ⟨sl', e2⟩
  · obtain ⟨o', e1⟩ := I.base.there b o e hx
    exact free b o' (neC b o e hx) e1 (I.base.free b o e n hx)
  · obtain ⟨o', e1⟩ := I.base.there b o e hx
    exact there b o' (neC b o e hx) e1
  · obtain ⟨m1, e1⟩ := I.base.tbls b ps e
    obtain ⟨m2, e2⟩ := tbls b _ e1
    exact ⟨m1 ++ m2, by rw [e2, Array.append_assoc]⟩
  · obtain ⟨m, hn, hl⟩ := I.loc
    refine ⟨m, ns m hn, fun i x v e1 e2 e3 => ?_⟩
    obtain ⟨u, r, l⟩ := hl i x v e1 e2 e3
    refine ⟨u, r, ?_⟩
    rcases l with l | ⟨k, c, e, z⟩
    · exact .inl l
    · exact .inr ⟨k, c, e, cellK x c e _ z⟩
  · obtain ⟨v, z⟩ := I.cell x c e
    exact ⟨v, cellK x c e v z⟩
  · obtain ⟨m, ⟨o, _, _, ho, _⟩, _⟩ := I.loc
    exact free _ o (fun z => (hch _ z).2.1 rfl) ho I.free
  · obtain ⟨v, o, ho, hd⟩ := I.cell x c e
    exact free c o (fun z => (hch c z).2.2.1 x c e rfl) ho (I.freeC x c e)
  · obtain ⟨e, n, ne, nf, d⟩ := I.pin p hp
    have nch : p.1 ∉ ch := fun z => (hch p.1 z).2.2.2 p hp rfl
    exact ⟨keep p.1 p.2 ne nf nch e n, free p.1 p.2 nch e n, ne, nf, d⟩
/-- .. where the frame's own object is kept too -/
theorem Inv.un {t' : Nat} (I : Inv X pins σ H s) (u : Un X.fs [] H H' s.heap h') (hok : HOk X.prog X.w H' h') : Inv X pins σ H' { s with heap := h', toks := t' } := by
  obtain ⟨m, ⟨o, es, ep, ho, r⟩, _⟩ := id I.loc
  obtain ⟨sl, hL⟩ := u.any ho I.free (by simp)
  exact I.step (g' := s.gens) (d' := s.drawn) (ch := []) (fun _ z => nomatch z) (fun b o _ hb _ e n => u.keep b o e n hb (by simp)) (fun b o _ hb _ e n => u.slot b o e n hb (by simp)) (fun b o _ e n => u.free b o e n (by simp)) (fun b o _ e => u.there b o e (by simp)) u.tups u.frzs u.tbls (fun m' hm => by
    obtain ⟨o', es', ep', ho', r'⟩ := hm
    rw [ho] at ho'; cases ho'
    exact ⟨_, es', ep', hL, r'⟩) hok I.bare
/-- behind a call (or a comprehension's block): the slots of this frame may have changed too, the records at ch may have turned -/
theorem Inv.call {g' : Array GenState} {t' : Nat} {d' : Drawn} {ch : List Addr} (I : Inv X pins σ H s) (u : Un (frs X.stack) ch H H' s.heap h') (hok : HOk X.prog X.w H' h') (hg : AllBare g')
    (hch : ∀ b ∈ ch, (b ∈ X.ex ∨ X.s₀.heap.objs.size ≤ b) ∧ b ≠ X.env.locals ∧ (∀ x c, X.env.cells.lookup x = some c → c ≠ b) ∧ ∀ p ∈ X.pn ++ pins, p.1 ≠ b) :
    Inv X pins σ H' { s with heap := h', gens := g', drawn := d', toks := t' } := by
  obtain ⟨m, ⟨o, es, ep, ho, r⟩, _⟩ := id I.loc
  obtain ⟨sl, hL⟩ := u.any ho I.free fun z => (hch _ z).2.1 rfl
  exact I.step (ch := ch) hch (fun b o hL hb hc e n => u.keep b o e n (fun z => (List.mem_cons.mp (I.stkSub b z)).elim hL hb) hc) (fun b o _ _ hc e n => u.any e n hc) (fun b o hc e n => u.free b o e n hc) (fun b o hc e => u.there b o e hc) u.tups u.frzs u.tbls (fun m' hm => by
    obtain ⟨o', es', ep', ho', r'⟩ := hm
    rw [ho] at ho'; cases ho'
    exact ⟨_, es', ep', hL, r'⟩) hok hg
/-- an untracked record of ours (an iterator) has turned -/
theorem Inv.turned {t' : Nat} {it : Addr} (I : Inv X pins σ H s) (k : ∀ b o, b ≠ it → s.heap.get? b = some o → h'.get? b = some o) (hn : H it = none) (hL : it ≠ X.env.locals)
    (h1 : it ∈ X.ex ∨ X.s₀.heap.objs.size ≤ it) (h2 : ∀ x c, X.env.cells.lookup x = some c → c ≠ it) (h3 : ∀ p ∈ X.pn ++ pins, p.1 ≠ it) : Inv X pins σ H { s with heap := h', toks := t' } := by
  have nit : ∀ b u, H b = some u → b ≠ it := fun b u e z => by rw [z, hn] at e; cases e
  refine I.step (g' := s.gens) (d' := s.drawn) (ch := [it]) (fun b hb => ?_) (fun b o _ _ hc e _ => k b o (fun z => hc (by simp [z])) e) (fun b o _ _ hc e _ => ⟨o.slots, k b o (fun z => hc (by simp [z])) e⟩) (fun _ _ _ _ n => n)
    (fun b o hc e => ⟨o, k b o (fun z => hc (by simp [z])) e⟩) (fun _ _ e => e) (fun _ _ _ e => e) (fun b ps e => ⟨#[], by rw [e]; simp⟩) (fun m hm => ?_) (fun b u e => ?_) I.bare
  · have e : b = it := by simpa using hb
    subst e
    exact ⟨h1, hL, h2, h3⟩
  · obtain ⟨o, es, ep, ho, r⟩ := hm
    exact ⟨o, es, ep, k _ o (Ne.symm hL) ho, r⟩
  · refine (I.hok b u e).stay (fun c v hc q => k c v ?_ q) (fun _ q => q) fun _ _ q => q
    rcases hc with z | z
    · rw [z]; exact nit b u e
    · exact nit c _ z
theorem Inv.tok (I : Inv X pins σ H s) (t : Nat) : Inv X pins σ H { s with toks := t } := I.un (h' := s.heap) (t' := t) Un.refl I.hok
/-- all objects kept -/
theorem Inv.kept {t' : Nat} (I : Inv X pins σ H s) (k : ∀ b u, s.heap.get? b = some u → h'.get? b = some u) : Inv X pins σ H { s with heap := h', toks := t' } := I.un (Un.kept k) (I.hok.kept k)
/-- a new object laid and tracked -/
theorem Inv.laid {a : Addr} {o : HO} {t' : Nat} (I : Inv X pins σ H s) (k : ∀ b u, s.heap.get? b = some u → h'.get? b = some u) (hp : s.heap.objs.size ≤ a) (new : ObjOk X.prog X.w (upd H a o) h' a o) :
    Inv X pins σ (upd H a o) { s with heap := h', toks := t' } := I.un (Un.laid k hp (I.hok.fresh hp)) (I.hok.laid k hp new)
/-- an object written -/
theorem Inv.write {x e : Addr} {o : HO} {t' : Nat} (I : Inv X pins σ H s) (mu : Mut (H x)) (he : e = x ∨ H e = some (.own x)) (k : ∀ b u, b ≠ e → s.heap.get? b = some u → h'.get? b = some u) (heo : ∃ u, h'.get? e = some u)
    (new : ObjOk X.prog X.w (upd H x o) h' x o) : Inv X pins σ (upd H x o) { s with heap := h', toks := t' } := I.un (Un.write mu he k heo) (I.hok.write mu he k heo new)
/-- forgetting slots, pins -/
theorem Inv.weak {σ' : List (Option V)} (I : Inv X pins σ H s) (hl : σ'.length = σ.length) (w : ∀ (i : Nat) v, σ'[i]? = some (some v) → σ[i]? = some (some v)) : Inv X pins σ' H s :=
  ⟨I.ok, I.os, I.bare, I.base, let ⟨m, hn, hl'⟩ := I.loc; ⟨m, hn, fun i x v e1 e2 e3 => hl' i x v e1 (w i v e2) e3⟩, I.cell, I.free, I.freeC, I.pin, I.hok, hl.trans I.len⟩
theorem Inv.pins_of {pins' : List (Addr × Obj)} (I : Inv X pins σ H s) (h : ∀ p ∈ pins', s.heap.get? p.1 = some p.2 ∧ H p.1 = none ∧ p.1 ≠ X.env.locals ∧ p.1 ∉ X.fs ∧ ∀ v, p.2.data ≠ .cell v) : Inv X pins' σ H s :=
  ⟨I.ok, I.os, I.bare, I.base, I.loc, I.cell, I.free, I.freeC, fun p hp => (List.mem_append.mp hp).elim (fun z => I.pin p (List.mem_append_left _ z)) (h p), I.hok, I.len⟩

theorem nodup_ix {N : List Str} (hN : N.Nodup) {i j : Nat} {x : Str} (a : N[i]? = some x) (b : N[j]? = some x) : i = j := by
  obtain ⟨h1, e1⟩ := List.getElem?_eq_some_iff.mp a
  obtain ⟨h2, e2⟩ := List.getElem?_eq_some_iff.mp b
  exact (List.getElem_inj hN).mp (e1.trans e2.symm)

/-- a name is stored; what changed -/
theorem store_ok2 {M : Model} {A : Around} {E : Value → Shared → Prop} {i : Nat} {x : Str} {v : V} {u : Value} {Q : Unit → Shared → Prop} (I : Inv X pins σ H s) (hN : X.N.Nodup) (hi : X.N[i]? = some x) (hx : Loc X.env.scope x) (r : RelV v u)
    (h : ∀ s', Inv X pins (σ.set i (some v)) H s' → (∃ a, Heap.SameBut a s.heap s'.heap ∧ (a = X.env.locals ∨ X.env.cells.lookup x = some a)) → Q () s') (hf : X.fn x = true ∨ X.env.scope.names.lookup x = some .local := by first | exact .inl rfl | exact .inr rfl | assumption) : wpAny M A (storeName X.env x u) Q E s := by
  obtain ⟨m, hn, hl⟩ := id I.loc
  have hcls : (X.env.scope.kind == .class || (X.env.scope.kind == .module && X.env.locals != X.env.globals)) = false := by rw [I.ok.kind]; rfl
  have hiσ : i < σ.length := by rw [I.len]; exact (List.getElem?_eq_some_iff.mp hi).1
  have cne := I.cne
  have tracked : ∀ {a : Addr} {h' : Heap}, (∃ o, s.heap.get? a = some o ∧ H a = none) → Heap.SameBut a s.heap h' → HOk X.prog X.w H h' := fun {a h'} ha hs b ob e => by
    obtain ⟨_, _, hfree⟩ := ha
    refine (I.hok b ob e).stay (fun c w' hc q => (hs.2 c ?_).trans q) (fun _ q => q) fun _ _ q => q
    rintro rfl
    rcases hc with rfl | hc
    · rw [hfree] at e; cases e
    · rw [hfree] at hc; cases hc
  rcases hx with hk | hk
  · refine wpAny_storeName_local hk hn (fun h' hn' hs => ?_) hcls
    obtain ⟨oL, _, _, hoL, _⟩ := id hn
    refine h _ ⟨I.ok, I.os, I.bare, ⟨fun b o e n hb hx => ?_, fun b o e n hb hx => ?_, I.base.free, fun b o e hx => ?_, I.base.tups, I.base.frzs, I.base.tbls⟩, ⟨_, hn', fun j y v' e1 e2 e3 => ?_⟩, fun y c e => ?_, I.free, I.freeC, fun p hp => ?_, tracked ⟨oL, hoL, I.free⟩ hs, by simpa using I.len⟩ ⟨_, hs, .inl rfl⟩
    · exact (hs.2 b (Nat.ne_of_lt (Nat.lt_of_lt_of_le (Heap.lt_size e) I.ok.above))).trans (I.base.keep b o e n hb hx)
    · obtain ⟨sl, e1⟩ := I.base.slot b o e n hb hx
      exact ⟨sl, (hs.2 b (Nat.ne_of_lt (Nat.lt_of_lt_of_le (Heap.lt_size e) I.ok.above))).trans e1⟩
    · obtain ⟨o', e1⟩ := I.base.there b o e hx
      exact ⟨o', (hs.2 b (Nat.ne_of_lt (Nat.lt_of_lt_of_le (Heap.lt_size e) I.ok.above))).trans e1⟩
    · by_cases hj : j = i
      · subst hj
        rw [hi] at e1; cases e1
        rw [List.getElem?_set_self hiσ] at e2
        cases e2
        exact ⟨u, r, .inl ⟨hk, by simp⟩⟩
      · rw [List.getElem?_set_ne (Ne.symm hj)] at e2
        obtain ⟨u', r', q⟩ := hl j y v' e1 e2 e3
        refine ⟨u', r', ?_⟩
        rcases q with ⟨k, e⟩ | ⟨k, c, e, z⟩
        · refine .inl ⟨k, ?_⟩
          have : y ≠ x := fun e => hj (nodup_ix hN e1 (e ▸ hi))
          simp [this, e]
        · exact .inr ⟨k, c, e, z.sameBut hs (cne y c e)⟩
    · obtain ⟨w', z⟩ := I.cell y c e
      exact ⟨w', z.sameBut hs (cne y c e)⟩
    · obtain ⟨e, n, ne, nf, d⟩ := I.pin p hp
      exact ⟨(hs.2 p.1 ne).trans e, n, ne, nf, d⟩
  · have hfn : X.fn x = true := by
      rcases hf with z | z
      · exact z
      · rw [z] at hk; cases hk
    obtain ⟨c, hc⟩ := I.ok.has x (.inl hk)
    obtain ⟨w', z⟩ := I.cell x c hc
    refine wpAny_storeName_cell I.ok.kind hk hc z (fun h' hc' hs => ?_)
    obtain ⟨oc, hoc, hocd⟩ := id z
    refine h { s with heap := h' } ⟨I.ok, I.os, I.bare, ⟨fun b o e n hb hx => ?_, fun b o e n hb hx => ?_, I.base.free, fun b o e hx => ?_, I.base.tups, I.base.frzs, I.base.tbls⟩, ⟨m, hn.sameBut hs (Ne.symm (cne x c hc)), fun j y v' e1 e2 e3 => ?_⟩, fun y c' e => ?_, I.free, I.freeC, fun p hp => ?_, tracked ⟨oc, hoc, I.freeC x c hc⟩ hs, by simpa using I.len⟩ ⟨c, hs, .inr hc⟩
    · exact (hs.2 b (Nat.ne_of_lt (Nat.lt_of_lt_of_le (Heap.lt_size e) (I.ok.cab x c hfn hc)))).trans (I.base.keep b o e n hb hx)
    · obtain ⟨sl, e1⟩ := I.base.slot b o e n hb hx
      exact ⟨sl, (hs.2 b (Nat.ne_of_lt (Nat.lt_of_lt_of_le (Heap.lt_size e) (I.ok.cab x c hfn hc)))).trans e1⟩
    · obtain ⟨o', e1⟩ := I.base.there b o e hx
      exact ⟨o', (hs.2 b (Nat.ne_of_lt (Nat.lt_of_lt_of_le (Heap.lt_size e) (I.ok.cab x c hfn hc)))).trans e1⟩
    · by_cases hj : j = i
      · subst hj
        rw [hi] at e1; cases e1
        rw [List.getElem?_set_self hiσ] at e2
        cases e2
        exact ⟨u, r, .inr ⟨.inl hk, c, hc, hc'⟩⟩
      · rw [List.getElem?_set_ne (Ne.symm hj)] at e2
        obtain ⟨u', r', q⟩ := hl j y v' e1 e2 e3
        refine ⟨u', r', ?_⟩
        rcases q with q | ⟨k, c', e, z'⟩
        · exact .inl q
        · refine .inr ⟨k, c', e, z'.sameBut hs ?_⟩
          rintro rfl
          exact hj (nodup_ix hN e1 (I.ok.inj _ _ _ e hc ▸ hi))
    · by_cases hcc : c' = c
      · subst hcc; exact ⟨_, hc'⟩
      · obtain ⟨w2, z2⟩ := I.cell y c' e
        exact ⟨w2, z2.sameBut hs hcc⟩
    · obtain ⟨e, n, ne, nf, d⟩ := I.pin p hp
      refine ⟨(hs.2 p.1 ?_).trans e, n, ne, nf, d⟩
      intro q
      rw [q, hoc] at e
      have q' : oc = p.2 := Option.some.inj e
      exact d w' (by rw [← q']; exact hocd)
theorem store_ok {M : Model} {A : Around} {E : Value → Shared → Prop} {i : Nat} {x : Str} {v : V} {u : Value} {Q : Unit → Shared → Prop} (I : Inv X pins σ H s) (hN : X.N.Nodup) (hi : X.N[i]? = some x) (hx : Loc X.env.scope x) (r : RelV v u)
    (h : ∀ s', Inv X pins (σ.set i (some v)) H s' → Q () s') (hf : X.fn x = true ∨ X.env.scope.names.lookup x = some .local := by first | exact .inl rfl | exact .inr rfl | assumption) : wpAny M A (storeName X.env x u) Q E s :=
  store_ok2 I hN hi hx r (fun s' I' _ => h s' I') hf
/-- behind a call or a block, the state as it is -/
theorem Inv.call' {s' : Shared} {ch : List Addr} (I : Inv X pins σ H s) (ho : s'.os = s.os) (u : Un (frs X.stack) ch H H' s.heap s'.heap) (hok : HOk X.prog X.w H' s'.heap) (hg : AllBare s'.gens)
    (hch : ∀ b ∈ ch, (b ∈ X.ex ∨ X.s₀.heap.objs.size ≤ b) ∧ b ≠ X.env.locals ∧ (∀ x c, X.env.cells.lookup x = some c → c ≠ b) ∧ ∀ p ∈ X.pn ++ pins, p.1 ≠ b) : Inv X pins σ H' s' := by
  obtain ⟨h', g', d', t', o'⟩ := s'
  have e : o' = s.os := ho
  subst e
  exact I.call (g' := g') (t' := t') (d' := d') u hok hg hch
end

/-! ### the judgements -/
/-- an exception: its class, its own dict's address (where it has one), the abstract heap behind it -/
abbrev XK := Value → Option Addr → Hp → Prop
abbrev St := List (Option V)
abbrev VK := V → Hp → Prop
/-- an expression's reading; a test's; an argument list's -/
abbrev TE := St → Hp → VK → Prop
abbrev TT := St → Hp → (Bool → Hp → Prop) → Prop
abbrev TA := St → Hp → (List V → Hp → Prop) → Prop
/-- what is wanted behind a statement -/
structure Ends where
  nx : St → Hp → Prop
  rt : VK
  bk : St → Hp → Prop := fun _ _ => False
  ct : St → Hp → Prop := fun _ _ => False
abbrev TS := Ends → St → Hp → Prop

def EP (X : Cx) (pins : List (Addr × Obj)) (σ : St) (Q : VK) (u : Value) (s' : Shared) : Prop := ∃ v H', Inv X pins σ H' s' ∧ RelV v u ∧ Q v H'
def TP (X : Cx) (pins : List (Addr × Obj)) (σ : St) (Q : Bool → Hp → Prop) (b : Bool) (s' : Shared) : Prop := ∃ H', Inv X pins σ H' s' ∧ Q b H'
def AP (X : Cx) (pins : List (Addr × Obj)) (σ : St) (Q : List V → Hp → Prop) (us : List Value) (s' : Shared) : Prop := ∃ vs H', Inv X pins σ H' s' ∧ Vals vs us ∧ Q vs H'
def SP (X : Cx) (pins : List (Addr × Obj)) (D : Ends) (f : Flow) (s' : Shared) : Prop :=
  match f with
  | .next => ∃ σ' H', Inv X pins σ' H' s' ∧ D.nx σ' H'
  | .brk => ∃ σ' H', Inv X pins σ' H' s' ∧ D.bk σ' H'
  | .cont => ∃ σ' H', Inv X pins σ' H' s' ∧ D.ct σ' H'
  | .ret u => ∃ v σ' H', Inv X pins σ' H' s' ∧ RelV v u ∧ D.rt v H'

def PE (X : Cx) (e : Expr) (t : TE) : Prop :=
  ∀ (pins : List (Addr × Obj)) (s : Shared) (σ : St) (H : Hp) (Q : VK), Inv X pins σ H s → t σ H Q → wpAny (model X.prog X.w) X.A (eval e X.env) (EP X pins σ Q) X.xe s
def PT (X : Cx) (e : Expr) (t : TT) : Prop :=
  ∀ (pins : List (Addr × Obj)) (s : Shared) (σ : St) (H : Hp) (Q : Bool → Hp → Prop), Inv X pins σ H s → t σ H Q → wpAny (model X.prog X.w) X.A (isTrue e X.env (eval e X.env)) (TP X pins σ Q) X.xe s
/-- a test whatever its 'whole' is (and, or) -/
def PW (X : Cx) (e : Expr) (t : TT) : Prop :=
  ∀ (whole : Sem Value) (pins : List (Addr × Obj)) (s : Shared) (σ : St) (H : Hp) (Q : Bool → Hp → Prop), Inv X pins σ H s → t σ H Q → wpAny (model X.prog X.w) X.A (isTrue e X.env whole) (TP X pins σ Q) X.xe s
theorem PW.pt {X : Cx} {e : Expr} {t : TT} (h : PW X e t) : PT X e t := h _
/-- an argument list (no star), from the left -/
def PA (X : Cx) (es : List Expr) (t : TA) : Prop :=
  ∀ (pos : Pos) (pins : List (Addr × Obj)) (s : Shared) (σ : St) (H : Hp) (Q : List V → Hp → Prop), Inv X pins σ H s → t σ H Q → wpAny (model X.prog X.w) X.A (spliced (backTo pos (starEach es X.env))) (AP X pins σ Q) X.xe s
def PS (X : Cx) (st : Stmt) (t : TS) : Prop :=
  ∀ (pins : List (Addr × Obj)) (s : Shared) (σ : St) (H : Hp) (D : Ends), Inv X pins σ H s → t D σ H → wpAny (model X.prog X.w) X.A (exec st X.env) (SP X pins D) X.xe s
def PSs (X : Cx) (st : List Stmt) (t : TS) : Prop :=
  ∀ (pins : List (Addr × Obj)) (s : Shared) (σ : St) (H : Hp) (D : Ends), Inv X pins σ H s → t D σ H → wpAny (model X.prog X.w) X.A (execs st X.env) (SP X pins D) X.xe s
/-- weaken the end -/
theorem thn {α : Type} {t : Sem α} {Q Q' : α → Shared → Prop} {M : Model} {A : Around} {E : Value → Shared → Prop} {s : Shared} (h : wpAny M A t Q E s) (hQ : ∀ a s, Q a s → Q' a s) : wpAny M A t Q' E s := wpAny_mono h hQ fun _ _ x => x
end L2

namespace L2
open PySem PySem.Spec PyProof.Rows
section
variable {X : Cx}

/-- two expressions in a row -/
theorem bin {a b : Expr} {ta tb : TE} (ha : PE X a ta) (hb : PE X b tb) {pins : List (Addr × Obj)} {s : Shared} {σ : St} {H : Hp} {R : V → V → Hp → Prop} (I : Inv X pins σ H s) (h : ta σ H fun x H1 => tb σ H1 fun y H2 => R x y H2)
    {α : Type} {Q : α → Shared → Prop} {f : Value → Value → Sem α}
    (hf : ∀ v u s2 x y H2, Inv X pins σ H2 s2 → RelV x v → RelV y u → R x y H2 → wpAny (model X.prog X.w) X.A (f v u) Q X.xe s2) :
    wpAny (model X.prog X.w) X.A (eval a X.env) (fun v s₁ => wpAny (model X.prog X.w) X.A (eval b X.env) (fun u s₂ => wpAny (model X.prog X.w) X.A (f v u) Q X.xe s₂) X.xe s₁) X.xe s := by
  refine thn (ha pins s σ H _ I h) fun v s1 ⟨x, H1, I1, r1, q1⟩ => ?_
  refine thn (hb pins s1 σ H1 _ I1 q1) fun u s2 ⟨y, H2, I2, r2, q2⟩ => ?_
  exact hf v u s2 x y H2 I2 r1 r2 q2

/-! ### names and constants -/
def tVar (i : Nat) : TE := fun σ H Q => ∃ v, σ[i]? = some (some v) ∧ Q v H
def tC (v : V) : TE := fun _ H Q => Q v H
theorem pe_var {i : Nat} {x : Str} {pos : Pos} (hN : X.N[i]? = some x) (hv : Vis X.env.scope x) (hd : (x == ("__debug__" : Str)) = false := by decide) (hcd : (x == ("__classdict__" : Str)) = false := by decide) : PE X (.Name x pos) (tVar i) := by
  intro pins s σ H Q I h
  obtain ⟨v, e, h⟩ := h
  obtain ⟨m, hn, hl⟩ := I.loc
  obtain ⟨u, r, l⟩ := hl i x v hN e hv
  have fin : EP X pins σ Q u s := ⟨v, H, I, r, h⟩
  rcases l with ⟨hk, hm⟩ | ⟨hk, c, hc, hcell⟩
  · exact wpAny_Name (wpAny_loadName_local I.ok.kind hk hn hm fin) hd
  · rcases hk with hk | hk
    · exact wpAny_Name (wpAny_loadName_cell I.ok.kind hk hc hcell fin) hd
    · exact wpAny_Name (wpAny_loadName_free I.ok.kind hk hc hcell fin hcd) hd
theorem pe_int {i j pos} : PE X (.Constant (.int i) j pos) (tC (.int i)) := fun _ _ _ H _ I h => wpAny_Constant_int ⟨.int i, H, I.tok _, ⟨_, rfl⟩, h⟩
theorem pe_bl {b j pos} : PE X (.Constant (.bool b) j pos) (tC (.bl b)) := fun _ _ _ H _ I h => Constant_bool ⟨.bl b, H, I, rfl, h⟩
theorem pe_non {j pos} : PE X (.Constant .none j pos) (tC .non) := fun _ _ _ H _ I h => Constant_none ⟨.non, H, I, rfl, h⟩
theorem pe_str {x j pos} : PE X (.Constant (.str x) j pos) (tC (.str x)) := fun _ _ _ H _ I h => Calls.Constant_str ⟨.str x, H, I.tok _, ⟨_, rfl⟩, h⟩

/-- a global name of the def -/
def Gl (X : Cx) (x : Str) : Prop := X.env.kindOf x = some .globalImplicit
theorem ld_glob {E : Value → Shared → Prop} {pins : List (Addr × Obj)} {s : Shared} {σ : St} {H : Hp} {x : Str} {u : Value} {pos : Pos} {Q : Value → Shared → Prop} (I : Inv X pins σ H s) (hg : Gl X x) (hm : X.mg x = some u) (h : Q u s)
    (hd : (x == ("__debug__" : Str)) = false := by decide) : wpAny (model X.prog X.w) X.A (eval (.Name x pos) X.env) Q E s :=
  Calls.Name_function_global I.ok.kind hg (Calls.loadGlobal_global (by rw [I.ok.glob]; exact I.mod.glob.keeps I.bk) hm h) hd
theorem ld_blt {E : Value → Shared → Prop} {pins : List (Addr × Obj)} {s : Shared} {σ : St} {H : Hp} {x : Str} {u : Value} {pos : Pos} {Q : Value → Shared → Prop} (I : Inv X pins σ H s) (hg : Gl X x) (hm : X.mg x = none) (hv : bootBuiltins x = some u) (h : Q u s)
    (hn : x ≠ "__name__" := by decide) (hd : (x == ("__debug__" : Str)) = false := by decide) : wpAny (model X.prog X.w) X.A (eval (.Name x pos) X.env) Q E s := by
  obtain ⟨mb, h1, h2⟩ := I.mod.blt
  exact Calls.Name_function_global I.ok.kind hg (Calls.loadGlobal_builtin (by rw [I.ok.glob]; exact I.mod.glob.keeps I.bk) hm (by rw [I.ok.blt]; exact h1.keeps I.bk) ((h2 x hn).trans hv) h) hd
/-- a module's constant, a class, a function, as a value -/
theorem pe_glob {x : Str} {v : V} {u : Value} {pos : Pos} (hg : Gl X x) (hm : X.mg x = some u) (r : RelV v u) (hd : (x == ("__debug__" : Str)) = false := by decide) : PE X (.Name x pos) (tC v) :=
  fun _ _ _ H _ I h => ld_glob I hg hm ⟨v, H, I, r, h⟩ hd
theorem pe_bltn {x : Str} {v : V} {u : Value} {pos : Pos} (hg : Gl X x) (hm : X.mg x = none) (hv : bootBuiltins x = some u) (r : RelV v u) (hn : x ≠ "__name__" := by decide) (hd : (x == ("__debug__" : Str)) = false := by decide) : PE X (.Name x pos) (tC v) :=
  fun _ _ _ H _ I h => ld_blt I hg hm hv ⟨v, H, I, r, h⟩ hn hd

/-! ### arithmetic -/
/-- two ints -/
def t2I (ta tb : TE) (k : Int → Int → Hp → Prop) : St → Hp → Prop := fun σ H => ta σ H fun x H1 => tb σ H1 fun y H2 => ∃ i j, x = .int i ∧ y = .int j ∧ k i j H2
def tAdd (ta tb : TE) : TE := fun σ H Q => t2I ta tb (fun i j H2 => Q (.int (i + j)) H2) σ H
def tSub (ta tb : TE) : TE := fun σ H Q => t2I ta tb (fun i j H2 => Q (.int (i - j)) H2) σ H
/-- the left factor below 2^64 -/
def tMul (ta tb : TE) : TE := fun σ H Q => t2I ta tb (fun i j H2 => (-(2 ^ 64) < i ∧ i < 2 ^ 64) ∧ Q (.int (i * j)) H2) σ H
variable {a b : Expr} {ta tb : TE} {pos : Pos}
theorem pe_add (ha : PE X a ta) (hb : PE X b tb) : PE X (.BinOp a .Add b pos) (tAdd ta tb) := by
  intro pins s σ H Q I h
  refine wpAny_BinOp (bin ha hb I h fun v u s2 x y H2 I2 rx ry q => ?_)
  obtain ⟨i, j, rfl, rfl, q⟩ := q
  obtain ⟨t, rfl⟩ := rx
  obtain ⟨t', rfl⟩ := ry
  exact add_int ⟨.int _, H2, I2.tok _, ⟨_, rfl⟩, q⟩
theorem pe_sub (ha : PE X a ta) (hb : PE X b tb) : PE X (.BinOp a .Sub b pos) (tSub ta tb) := by
  intro pins s σ H Q I h
  refine wpAny_BinOp (bin ha hb I h fun v u s2 x y H2 I2 rx ry q => ?_)
  obtain ⟨i, j, rfl, rfl, q⟩ := q
  obtain ⟨t, rfl⟩ := rx
  obtain ⟨t', rfl⟩ := ry
  exact sub_int ⟨.int _, H2, I2.tok _, ⟨_, rfl⟩, q⟩
theorem pe_mul (ha : PE X a ta) (hb : PE X b tb) : PE X (.BinOp a .Mult b pos) (tMul ta tb) := by
  intro pins s σ H Q I h
  refine wpAny_BinOp (bin ha hb I h fun v u s2 x y H2 I2 rx ry q => ?_)
  obtain ⟨i, j, rfl, rfl, ⟨q1, q2⟩, q⟩ := q
  obtain ⟨t, rfl⟩ := rx
  obtain ⟨t', rfl⟩ := ry
  exact mul_int ⟨.int _, H2, I2.tok _, ⟨_, rfl⟩, q⟩ (.of_left (intBits_le_64 q1 q2))

/-! ### comparisons -/
def PC (X : Cx) (op : CmpOp) (a b : Expr) (t : TE) : Prop :=
  ∀ (pins : List (Addr × Obj)) (s : Shared) (σ : St) (H : Hp) (Q : VK), Inv X pins σ H s → t σ H Q →
    wpAny (model X.prog X.w) X.A (eval a X.env) (fun v s₁ => wpAny (model X.prog X.w) X.A (eval b X.env) (fun u s₂ => wpAny (model X.prog X.w) X.A (compareOp op v u) (EP X pins σ Q) X.xe s₂) X.xe s₁) X.xe s
theorem nobehind (b : Expr) {op : CmpOp} (h : op ≠ .In) (h2 : op ≠ .NotIn) : behindInMarks op b = false := by
  have e1 : (op == CmpOp.In) = false := by cases op <;> first | rfl | exact absurd rfl h
  have e2 : (op == CmpOp.NotIn) = false := by cases op <;> first | rfl | exact absurd rfl h2
  cases b <;> simp [behindInMarks, e1, e2]
def tCmp (p : Int → Int → Bool) (ta tb : TE) : TE := fun σ H Q => t2I ta tb (fun i j H2 => Q (.bl (p i j)) H2) σ H
abbrev tLt : TE → TE → TE := tCmp fun i j => decide (i < j)
abbrev tLe : TE → TE → TE := tCmp fun i j => decide (i ≤ j)
abbrev tGt : TE → TE → TE := tCmp fun i j => decide (j < i)
abbrev tGe : TE → TE → TE := tCmp fun i j => decide (j ≤ i)
abbrev tEqI : TE → TE → TE := tCmp fun i j => decide (i = j)
abbrev tNeI : TE → TE → TE := tCmp fun i j => !decide (i = j)
/-- a comparison of two ints, by its rule -/
theorem pc_int {op : CmpOp} {p : Int → Int → Bool} (ha : PE X a ta) (hb : PE X b tb)
    (rule : ∀ (i j : Int) (t u : Tok) (Q : Value → Shared → Prop) (s : Shared), Q (.bool (p i j)) s → wpAny (model X.prog X.w) X.A (compareOp op (.int i t) (.int j u)) Q X.xe s) : PC X op a b (tCmp p ta tb) := by
  intro pins s σ H Q I h
  refine bin ha hb I h fun v u s2 x y H2 I2 rx ry q => ?_
  obtain ⟨i, j, rfl, rfl, q⟩ := q
  obtain ⟨t, rfl⟩ := rx
  obtain ⟨t', rfl⟩ := ry
  exact rule i j t t' _ s2 ⟨.bl _, H2, I2, rfl, q⟩
theorem pc_lt (ha : PE X a ta) (hb : PE X b tb) : PC X .Lt a b (tLt ta tb) := pc_int ha hb fun _ _ _ _ _ _ h => lt_int h
theorem pc_le (ha : PE X a ta) (hb : PE X b tb) : PC X .LtE a b (tLe ta tb) := pc_int ha hb fun _ _ _ _ _ _ h => le_int h
theorem pc_gt (ha : PE X a ta) (hb : PE X b tb) : PC X .Gt a b (tGt ta tb) := pc_int ha hb fun _ _ _ _ _ _ h => gt_int h
theorem pc_ge (ha : PE X a ta) (hb : PE X b tb) : PC X .GtE a b (tGe ta tb) := pc_int ha hb fun _ _ _ _ _ _ h => ge_int h
theorem pc_eqI (ha : PE X a ta) (hb : PE X b tb) : PC X .Eq a b (tEqI ta tb) := pc_int ha hb fun _ _ _ _ _ _ h => eq_int (by rw [Bool.beq_eq_decide_eq]; exact h)
theorem pc_neI (ha : PE X a ta) (hb : PE X b tb) : PC X .NotEq a b (tNeI ta tb) := pc_int ha hb fun _ _ _ _ _ _ h => ne_int (by rw [bne, Bool.beq_eq_decide_eq]; exact h)
/-- is None -/
def tIsN (ta : TE) : TE := fun σ H Q => ta σ H fun x H1 => Q (.bl (decide (x = .non))) H1
def tNotN (ta : TE) : TE := fun σ H Q => ta σ H fun x H1 => Q (.bl (!decide (x = .non))) H1
theorem RelV.none_iff {x : V} {v : Value} (r : RelV x v) : (v == Value.none) = decide (x = .non) := by
  cases x with
  | non => cases r; rfl
  | bl _ => cases r; rfl
  | int _ => obtain ⟨t, rfl⟩ := r; rfl
  | str _ => obtain ⟨t, rfl⟩ := r; rfl
  | byt _ => obtain ⟨t, rfl⟩ := r; rfl
  | flt _ => obtain ⟨t, rfl⟩ := r; rfl
  | ref _ => cases r; rfl
  | ty _ => cases r; rfl
theorem pc_isN {j pos'} (ha : PE X a ta) : PC X .Is a (.Constant .none j pos') (tIsN ta) := by
  intro pins s σ H Q I h
  refine thn (ha pins s σ H _ I h) fun v s1 ⟨x, H1, I1, r1, q1⟩ => ?_
  exact Constant_none (is_none_gen ⟨.bl _, H1, I1, by rw [r1.none_iff]; rfl, q1⟩)
theorem pc_notN {j pos'} (ha : PE X a ta) : PC X .IsNot a (.Constant .none j pos') (tNotN ta) := by
  intro pins s σ H Q I h
  refine thn (ha pins s σ H _ I h) fun v s1 ⟨x, H1, I1, r1, q1⟩ => ?_
  exact Constant_none (isnot_none_gen ⟨.bl _, H1, I1, by rw [r1.none_iff]; rfl, q1⟩)
/-- a comparison as a value, as a test -/
def tB (t : TE) : TT := fun σ H Q => t σ H fun x H1 => ∃ c, x = .bl c ∧ Q c H1
theorem pe_cmp {op : CmpOp} {t : TE} (h : PC X op a b t) (h1 : behindInMarks op b = false := by first | exact nobehind _ (by decide) (by decide) | rfl) : PE X (.Compare a [op] [b] pos) t := fun pins s σ H Q I hw => wpAny_Compare1 (h pins s σ H Q I hw) h1
theorem pt_cmp {op : CmpOp} {t : TE} (h : PC X op a b t) (h1 : behindInMarks op b = false := by first | exact nobehind _ (by decide) (by decide) | rfl) : PT X (.Compare a [op] [b] pos) (tB t) := by
  intro pins s σ H Q I hw
  refine wpAny_isTrue_Compare1 (thn (h pins s σ H _ I hw) fun v s1 h1 => thn h1 fun u s2 h2 => thn h2 fun c s3 ⟨x, H1, I1, r1, q1⟩ => ?_) h1
  obtain ⟨d, rfl, q⟩ := q1
  cases r1
  exact wpAny_truthy_bool ⟨H1, I1, q⟩
/-- an expression whose value is a bool, as a test -/
theorem pt_val {e : Expr} {t : TE} (h : PE X e t) (he : ∀ whole, isTrue e X.env whole = (do let v ← whole; standAt e.pos; holding [v] (truthy v)) := by intro _; rfl) : PT X e (tB t) := by
  intro pins s σ H Q I hw
  refine isTrue_plain (thn (h pins s σ H _ I hw) fun v s1 ⟨x, H1, I1, r1, q1⟩ => ?_) (he _)
  obtain ⟨d, rfl, q⟩ := q1
  cases r1
  exact wpAny_truthy_bool ⟨H1, I1, q⟩

/-! ### and, or, not -/
variable {tA tB' : TT} {rest : List Expr}
def tAnd (t u : TT) : TT := fun σ H Q => t σ H fun c H1 => if c = true then u σ H1 Q else Q false H1
def tOr (t u : TT) : TT := fun σ H Q => t σ H fun c H1 => if c = true then Q true H1 else u σ H1 Q
def tNot (t : TT) : TT := fun σ H Q => t σ H fun c H1 => Q (!c) H1
theorem pw_and1 (ha : PT X a tA) : PW X (.BoolOp .And [a] pos) tA := by
  intro wh pins s σ H Q I h
  refine isTrue_and (thn (ha pins s σ H Q I h) fun c s1 e => ?_)
  cases c with
  | true => exact isTrue_and_nil e
  | false => exact e
theorem pw_or1 (ha : PT X a tA) : PW X (.BoolOp .Or [a] pos) tA := by
  intro wh pins s σ H Q I h
  refine isTrue_or (thn (ha pins s σ H Q I h) fun c s1 e => ?_)
  cases c with
  | false => exact isTrue_or_nil e
  | true => exact e
theorem pw_and (ha : PT X a tA) (hb : PW X (.BoolOp .And (b :: rest) pos) tB') : PW X (.BoolOp .And (a :: b :: rest) pos) (tAnd tA tB') := by
  intro wh pins s σ H Q I h
  refine isTrue_and (thn (ha pins s σ H _ I h) fun c s1 ⟨H1, I1, q1⟩ => ?_)
  cases c with
  | true => exact hb wh pins s1 σ H1 Q I1 q1
  | false => exact ⟨H1, I1, q1⟩
theorem pw_or (ha : PT X a tA) (hb : PW X (.BoolOp .Or (b :: rest) pos) tB') : PW X (.BoolOp .Or (a :: b :: rest) pos) (tOr tA tB') := by
  intro wh pins s σ H Q I h
  refine isTrue_or (thn (ha pins s σ H _ I h) fun c s1 ⟨H1, I1, q1⟩ => ?_)
  cases c with
  | true => exact ⟨H1, I1, q1⟩
  | false => exact hb wh pins s1 σ H1 Q I1 q1
theorem pt_not (ha : PT X a tA) : PT X (.UnaryOp .Not a pos) (tNot tA) := by
  intro pins s σ H Q I h
  exact isTrue_not (ha pins s σ H (fun c H1 => Q (!c) H1) I h)
/-- .. as values (bools) -/
def tAndV (ta tb : TE) : TE := fun σ H Q => ta σ H fun x H1 => ∃ c, x = .bl c ∧ if c = true then tb σ H1 Q else Q (.bl false) H1
def tOrV (ta tb : TE) : TE := fun σ H Q => ta σ H fun x H1 => ∃ c, x = .bl c ∧ if c = true then Q (.bl true) H1 else tb σ H1 Q
def tNotV (ta : TE) : TE := fun σ H Q => ta σ H fun x H1 => ∃ c, x = .bl c ∧ Q (.bl (!c)) H1
theorem pe_one {op} {t : TE} (h : PE X a t) : PE X (.BoolOp op [a] pos) t := fun pins s σ H Q I hw => BoolOp_one (h pins s σ H Q I hw)
theorem pe_and (ha : PE X a ta) (hb : PE X (.BoolOp .And (b :: rest) pos) tb) : PE X (.BoolOp .And (a :: b :: rest) pos) (tAndV ta tb) := by
  intro pins s σ H Q I h
  refine BoolOp_and (thn (ha pins s σ H _ I h) fun v s1 ⟨x, H1, I1, r1, q1⟩ => ?_)
  obtain ⟨c, rfl, q1⟩ := q1
  cases r1
  refine wpAny_truthy_bool ?_
  cases c with
  | true => exact hb pins s1 σ H1 Q I1 q1
  | false => exact ⟨.bl false, H1, I1, rfl, q1⟩
theorem pe_or (ha : PE X a ta) (hb : PE X (.BoolOp .Or (b :: rest) pos) tb) : PE X (.BoolOp .Or (a :: b :: rest) pos) (tOrV ta tb) := by
  intro pins s σ H Q I h
  refine BoolOp_or (thn (ha pins s σ H _ I h) fun v s1 ⟨x, H1, I1, r1, q1⟩ => ?_)
  obtain ⟨c, rfl, q1⟩ := q1
  cases r1
  refine wpAny_truthy_bool ?_
  cases c with
  | false => exact hb pins s1 σ H1 Q I1 q1
  | true => exact ⟨.bl true, H1, I1, rfl, q1⟩
theorem pe_not (ha : PE X a ta) : PE X (.UnaryOp .Not a pos) (tNotV ta) := by
  intro pins s σ H Q I h
  refine UnaryOp_ (thn (ha pins s σ H _ I h) fun v s1 ⟨x, H1, I1, r1, q1⟩ => ?_)
  obtain ⟨c, rfl, q1⟩ := q1
  cases r1
  exact not_of (wpAny_truthy_bool ⟨.bl (!c), H1, I1, rfl, q1⟩)
/-- a if t else b -/
def tIf (t : TT) (ta tb : TE) : TE := fun σ H Q => t σ H fun c H1 => if c = true then ta σ H1 Q else tb σ H1 Q
theorem pe_ifExp {c : Expr} (hc : PT X c tA) (ha : PE X a ta) (hb : PE X b tb) : PE X (.IfExp c a b pos) (tIf tA ta tb) := by
  intro pins s σ H Q I h
  refine wpAny_IfExp (thn (hc pins s σ H _ I h) fun d s1 ⟨H1, I1, q1⟩ => ?_)
  cases d with
  | true => exact ha pins s1 σ H1 Q I1 q1
  | false => exact hb pins s1 σ H1 Q I1 q1
end
end L2

namespace L2
open PySem PySem.Spec PyProof.Rows

/-! ### a list, a tuple that is read: tracked, frozen, or an object of the module -/
def SqL (K : PySem.W.Frag) (H : Hp) (a : Addr) (xs : List V) : Prop :=
  Rd H a (.lst xs) ∨
    ∃ (o : Obj) (its : Array Value) (n : Nat), K.lookup a = some o ∧ o.cls = .type "list" ∧ o.dict = none ∧ o.data = .seq its n ∧ its.size ≤ sizeLine ∧ Vals xs its.toList
def SqT (K : PySem.W.Frag) (H : Hp) (a : Addr) (xs : List V) : Prop :=
  Rd H a (.tup xs) ∨
    ∃ (o : Obj) (its : Array Value) (n : Nat), K.lookup a = some o ∧ o.cls = .type "tuple" ∧ o.data = .seq its n ∧ its.size ≤ sizeLine ∧ Vals xs its.toList
def absV : Value → Option V
  | .none => some .non
  | .bool b => some (.bl b)
  | .int i _ => some (.int i)
  | .str x _ => some (.str x)
  | .bytes b _ => some (.byt b)
  | .float b _ => some (.flt b)
  | .ref a => some (.ref a)
  | .type n => some (.ty n)
  | _ => none
theorem RelV.abs {x : V} {u : Value} (r : RelV x u) : absV u = some x := by
  cases x with
  | non => cases r; rfl
  | bl _ => cases r; rfl
  | int _ => obtain ⟨t, rfl⟩ := r; rfl
  | str _ => obtain ⟨t, rfl⟩ := r; rfl
  | byt _ => obtain ⟨t, rfl⟩ := r; rfl
  | flt _ => obtain ⟨t, rfl⟩ := r; rfl
  | ref _ => cases r; rfl
  | ty _ => cases r; rfl
theorem RelV.inj {x y : V} {u : Value} (r : RelV x u) (q : RelV y u) : x = y := Option.some.inj (r.abs.symm.trans q.abs)
theorem Vals.inj : ∀ {xs ys : List V} {us : List Value}, Vals xs us → Vals ys us → xs = ys
  | _, _, _, .nil, .nil => rfl
  | _, _, _, .cons r t, .cons r' t' => by rw [r.inj r', Vals.inj t t']
section
variable {X : Cx} {pins : List (Addr × Obj)} {σ : St} {H : Hp} {s : Shared} {a : Addr} {xs ys : List V}
theorem SqL.of {K : PySem.W.Frag} (h : H a = some (.lst xs)) : SqL K H a xs := .inl (.inl h)
theorem SqT.of {K : PySem.W.Frag} (h : H a = some (.tup xs)) : SqT K H a xs := .inl (.inl h)
theorem Inv.list (I : Inv X pins σ H s) (h : SqL X.K H a xs) : ∃ its : List Value, Vals xs its ∧ PlainL s.heap a its.toArray ∧ xs.length ≤ sizeLine := by
  rcases h with h | ⟨o, its, n, hk, hc, hd, hs, hz, r⟩
  · obtain ⟨z, its, n, r, e⟩ := h.ok I.hok
    exact ⟨its, r, ⟨_, n, e, rfl, rfl, rfl⟩, z⟩
  · refine ⟨its.toList, r, ⟨o, n, I.kIn a o hk, hc, hd, by simpa using hs⟩, ?_⟩
    have e := r.length
    simp only [Array.length_toList] at e
    omega
theorem Inv.tuple (I : Inv X pins σ H s) (h : SqT X.K H a xs) : ∃ its : List Value, Vals xs its ∧ IsTup s.heap a its.toArray ∧ xs.length ≤ sizeLine := by
  rcases h with h | ⟨o, its, n, hk, hc, hs, hz, r⟩
  · obtain ⟨z, its, r, p⟩ := h.ok I.hok
    exact ⟨its, r, p, z⟩
  · refine ⟨its.toList, r, ⟨o, I.kIn a o hk, hc, n, by simpa using hs⟩, ?_⟩
    have e := r.length
    simp only [Array.length_toList] at e
    omega
theorem Inv.list_inj (I : Inv X pins σ H s) (h : SqL X.K H a xs) (h' : SqL X.K H a ys) : xs = ys := by
  obtain ⟨its, r, ⟨o, n, e, _, _, d⟩, _⟩ := I.list h
  obtain ⟨its', r', ⟨o', n', e', _, _, d'⟩, _⟩ := I.list h'
  rw [e] at e'; cases e'
  rw [d] at d'
  injection d' with d1 _
  have : its = its' := by simpa using congrArg Array.toList d1
  subst this
  exact r.inj r'
theorem Inv.tuple_inj (I : Inv X pins σ H s) (h : SqT X.K H a xs) (h' : SqT X.K H a ys) : xs = ys := by
  obtain ⟨its, r, ⟨o, e, _, n, d⟩, _⟩ := I.tuple h
  obtain ⟨its', r', ⟨o', e', _, n', d'⟩, _⟩ := I.tuple h'
  rw [e] at e'; cases e'
  rw [d] at d'
  injection d' with d1 _
  have : its = its' := by simpa using congrArg Array.toList d1
  subst this
  exact r.inj r'
end

/-! ### another wish about exceptions -/
abbrev Cx.wish (X : Cx) (E : Value → Shared → Prop) : Cx := { X with xe := E }
/-- no exception leaves -/
abbrev Cx.nox (X : Cx) : Cx := X.wish fun _ _ => False
theorem Cx.Ok.wish {X : Cx} (ok : X.Ok) (E : Value → Shared → Prop) : (X.wish E).Ok :=
  ⟨ok.mod, ok.kind, ok.glob, ok.blt, ok.above, ok.inj, ok.has, ok.cab, ok.hd, ok.frames, ok.stk, ok.exf, ok.bs, ok.bsz, ok.noex, ok.exfs, ok.funs, ok.frf⟩
theorem Cx.Ok.unwish {X : Cx} {E : Value → Shared → Prop} (ok : (X.wish E).Ok) : X.Ok :=
  ⟨ok.mod, ok.kind, ok.glob, ok.blt, ok.above, ok.inj, ok.has, ok.cab, ok.hd, ok.frames, ok.stk, ok.exf, ok.bs, ok.bsz, ok.noex, ok.exfs, ok.funs, ok.frf⟩
section
variable {X : Cx} {pins : List (Addr × Obj)} {σ : St} {H : Hp} {s : Shared} {E : Value → Shared → Prop}
theorem Inv.wish (I : Inv X pins σ H s) (E : Value → Shared → Prop) : Inv (X.wish E) pins σ H s := ⟨I.ok.wish E, I.os, I.bare, I.base, I.loc, I.cell, I.free, I.freeC, I.pin, I.hok, I.len⟩
theorem Inv.unwish (I : Inv (X.wish E) pins σ H s) : Inv X pins σ H s := ⟨I.ok.unwish, I.os, I.bare, I.base, I.loc, I.cell, I.free, I.freeC, I.pin, I.hok, I.len⟩
theorem SP.unwish {D : Ends} {f : Flow} {s' : Shared} (h : SP (X.wish E) pins D f s') : SP X pins D f s' := by
  cases f with
  | next => obtain ⟨σ', H', I, q⟩ := h; exact ⟨σ', H', I.unwish, q⟩
  | brk => obtain ⟨σ', H', I, q⟩ := h; exact ⟨σ', H', I.unwish, q⟩
  | cont => obtain ⟨σ', H', I, q⟩ := h; exact ⟨σ', H', I.unwish, q⟩
  | ret u => obtain ⟨v, σ', H', I, r, q⟩ := h; exact ⟨v, σ', H', I.unwish, r, q⟩
theorem PE.nox {e : Expr} {t : TE} (h : PE X.nox e t) : PE X e t := fun pins s σ H Q I hw =>
  wpAny_mono (h pins s σ H Q (I.wish _) hw) (fun _ _ ⟨v, H', I', r, q⟩ => ⟨v, H', I'.unwish, r, q⟩) fun _ _ z => False.elim z
theorem PT.nox {e : Expr} {t : TT} (h : PT X.nox e t) : PT X e t := fun pins s σ H Q I hw =>
  wpAny_mono (h pins s σ H Q (I.wish _) hw) (fun _ _ ⟨H', I', q⟩ => ⟨H', I'.unwish, q⟩) fun _ _ z => False.elim z
theorem PSs.nox {st : List Stmt} {t : TS} (h : PSs X.nox st t) : PSs X st t := fun pins s σ H D I hw =>
  wpAny_mono (h pins s σ H D (I.wish _) hw) (fun _ _ q => q.unwish) fun _ _ z => False.elim z
end

/-! ### blocks and small statements -/
section
variable {X : Cx} {st : Stmt} {rest : List Stmt} {t u : TS} {e : Expr} {te : TE} {pos : Pos}
def tNext : TS := fun D σ H => D.nx σ H
def tSeq (t u : TS) : TS := fun D σ H => t { D with nx := u D } σ H
theorem pss_nil : PSs X [] tNext := fun _ _ σ H _ I h => wpAny_execs_nil ⟨σ, H, I, h⟩
theorem pss_cons (h1 : PS X st t) (h2 : PSs X rest u) : PSs X (st :: rest) (tSeq t u) := by
  intro pins s σ H D I h
  refine wpAny_execs_cons (thn (h1 pins s σ H { D with nx := u D } I h) fun f s1 q => ?_)
  cases f with
  | next =>
    obtain ⟨σ', H', I', q⟩ := q
    exact h2 pins s1 σ' H' D I' q
  | ret v => exact q
  | brk => exact q
  | cont => exact q
theorem pss_one (h1 : PS X st t) : PSs X [st] t := by
  intro pins s σ H D I h
  refine wpAny_execs_cons (thn (h1 pins s σ H D I h) fun f s1 q => ?_)
  cases f with
  | next => exact wpAny_execs_nil q
  | ret v => exact q
  | brk => exact q
  | cont => exact q
def tBreak : TS := fun D σ H => D.bk σ H
def tCont : TS := fun D σ H => D.ct σ H
theorem ps_pass : PS X (.Pass pos) tNext := fun _ _ σ H _ I h => wpAny_Pass ⟨σ, H, I, h⟩
theorem ps_break : PS X (.Break pos) tBreak := fun _ _ σ H _ I h => wpAny_Break ⟨σ, H, I, h⟩
theorem ps_continue : PS X (.Continue pos) tCont := fun _ _ σ H _ I h => wpAny_Continue ⟨σ, H, I, h⟩
/-- in a def's body nothing is shown -/
theorem Inv.quiet {pins : List (Addr × Obj)} {σ : St} {H : Hp} {s : Shared} (I : Inv X pins σ H s) : interactive X.env = false := by simp [interactive, I.ok.kind]
/-- a docstring -/
theorem ps_doc {x j pos pos'} : PS X (.Expr (.Constant (.str x) j pos) pos') tNext := fun _ s σ H _ I h => wpAny_Expr (Calls.Constant_str (show SP X _ _ .next { s with toks := s.toks + 1 } from ⟨σ, H, I.tok _, h⟩)) I.quiet
/-- an expression whose value is dropped -/
def tDrop (te : TE) : TS := fun D σ H => te σ H fun _ H1 => D.nx σ H1
theorem ps_expr (he : PE X e te) (hs : swapsWith e none pos.line X.env = pure false := by rfl) : PS X (.Expr e pos) (tDrop te) := by
  intro pins s σ H D I h
  exact wpAny_Expr_any (thn (he pins s σ H _ I h) fun v s1 ⟨x, H1, I1, r1, q1⟩ => ⟨σ, H1, I1, q1⟩) I.quiet hs
def tRet (te : TE) : TS := fun D σ H => te σ H D.rt
theorem ps_ret (he : PE X e te) : PS X (.Return (some e) pos) (tRet te) := by
  intro pins s σ H D I h
  exact wpAny_Return_some (thn (he pins s σ H _ I h) fun v s1 ⟨x, H1, I1, r1, q1⟩ => ⟨x, σ, H1, I1, r1, q1⟩)
def tRetN : TS := fun D _ H => D.rt .non H
theorem ps_retN : PS X (.Return none pos) tRetN := fun _ _ σ H _ I h => wpAny_Return_none ⟨.non, σ, H, I, rfl, h⟩
def tIfS (c : TT) (t u : TS) : TS := fun D σ H => c σ H fun b H1 => if b = true then t D σ H1 else u D σ H1
theorem ps_if {c : Expr} {a b : List Stmt} {tc : TT} (hc : PT X c tc) (ha : PSs X a t) (hb : PSs X b u) : PS X (.If c a b pos) (tIfS tc t u) := by
  intro pins s σ H D I h
  refine wpAny_If (thn (hc pins s σ H _ I h) fun d s1 ⟨H1, I1, q1⟩ => ?_)
  cases d with
  | true => exact ha pins s1 σ H1 D I1 q1
  | false => exact hb pins s1 σ H1 D I1 q1
/-- code that the proof never comes to -/
def tNever : TS := fun _ _ _ => False
theorem ps_never : PS X st tNever := fun _ _ _ _ _ _ h => h.elim
theorem pss_never {sts : List Stmt} : PSs X sts tNever := fun _ _ _ _ _ _ h => h.elim
end

/-! ### targets -/
abbrev TG := V → St → Hp → (St → Hp → Prop) → Prop
abbrev TGs := List V → St → Hp → (St → Hp → Prop) → Prop
def PG (X : Cx) (target : Expr) (t : TG) : Prop :=
  ∀ (pins : List (Addr × Obj)) (s : Shared) (σ : St) (H : Hp) (v : V) (u : Value) (Q : St → Hp → Prop), Inv X pins σ H s → RelV v u → t v σ H Q →
    wpAny (model X.prog X.w) X.A (assign target X.env u) (fun _ s' => ∃ σ' H', Inv X pins σ' H' s' ∧ Q σ' H') X.xe s
/-- several targets, one after another -/
def PGs (X : Cx) (ts : List Expr) (t : TGs) : Prop :=
  ∀ (pins : List (Addr × Obj)) (s : Shared) (σ : St) (H : Hp) (vs : List V) (us : List Value) (Q : St → Hp → Prop), Inv X pins σ H s → Vals vs us → t vs σ H Q →
    wpAny (model X.prog X.w) X.A (assignInOrder ((assignEach ts X.env).map (·.2)) us) (fun _ s' => ∃ σ' H', Inv X pins σ' H' s' ∧ Q σ' H') X.xe s
/-- o[i] = v, by values -/
abbrev TSet := V → V → V → Hp → (Hp → Prop) → Prop
def PSet (X : Cx) (t : TSet) : Prop :=
  ∀ (pins : List (Addr × Obj)) (s : Shared) (σ : St) (H : Hp) (o i v : V) (ov iv u : Value) (Q : Hp → Prop), Inv X pins σ H s → RelV o ov → RelV i iv → RelV v u → t o i v H Q →
    wpAny (model X.prog X.w) X.A (setItem ov iv u) (fun _ s' => ∃ H', Inv X pins σ H' s' ∧ Q H') X.xe s
/-- a op= b, by values -/
abbrev TIp := V → V → Hp → VK → Prop
def PIp (X : Cx) (op : Operator) (t : TIp) : Prop :=
  ∀ (pins : List (Addr × Obj)) (s : Shared) (σ : St) (H : Hp) (x y : V) (v u : Value) (Q : VK), Inv X pins σ H s → RelV x v → RelV y u → t x y H Q →
    wpAny (model X.prog X.w) X.A (inplaceOp op v u) (EP X pins σ Q) X.xe s
section
variable {X : Cx} {pos : Pos}
def gName (i : Nat) : TG := fun v σ H Q => Q (σ.set i (some v)) H
theorem pg_name {i : Nat} {x : Str} (hN : X.N.Nodup) (hi : X.N[i]? = some x) (hx : Loc X.env.scope x) (hf : X.fn x = true ∨ X.env.scope.names.lookup x = some .local := by first | exact .inl rfl | exact .inr rfl | assumption) : PG X (.Name x pos) (gName i) := by
  intro pins s σ H v u Q I r h
  exact wpAny_assign_Name (store_ok I hN hi hx r (fun s' I' => ⟨_, H, I', h⟩) hf)
def gNil : TGs := fun vs σ H Q => vs = [] ∧ Q σ H
def gCons (t : TG) (u : TGs) : TGs := fun vs σ H Q => ∃ v r, vs = v :: r ∧ t v σ H fun σ' H' => u r σ' H' Q
theorem pgs_nil : PGs X [] gNil := by
  intro pins s σ H vs us Q I r h
  obtain ⟨e, h⟩ := h
  subst e
  cases r
  exact assignInOrder_nil ⟨σ, H, I, h⟩
theorem pgs_cons {e : Expr} {es : List Expr} {t : TG} {u : TGs} (h1 : PG X e t) (h2 : PGs X es u)
    (hs : (assignEach (e :: es) X.env).map (·.2) = assign e X.env :: (assignEach es X.env).map (·.2) := by rfl) : PGs X (e :: es) (gCons t u) := by
  intro pins s σ H vs us Q I r h
  obtain ⟨v, vr, e1, h⟩ := h
  subst e1
  cases r with
  | cons r rr =>
    rw [hs]
    refine assignInOrder_cons (thn (h1 pins s σ H _ _ _ I r h) fun _ s1 ⟨σ1, H1, I1, q1⟩ => ?_)
    exact h2 pins s1 σ1 H1 _ _ Q I1 rr q1
/-- (a, b, ..) = a tuple of that length -/
def gTup (K : PySem.W.Frag) (n : Nat) (t : TGs) : TG := fun v σ H Q => ∃ a xs, v = .ref a ∧ SqT K H a xs ∧ xs.length = n ∧ t xs σ H Q
theorem pg_tup {es : List Expr} {k : Nat} {t : TGs} {n : Nat} (hc : X.calm = true) (h : PGs X es t)
    (hn : (assignEach es X.env).length = n := by rfl) (hst : (assignEach es X.env).findIdx? (·.1) = none := by rfl) : PG X (.Tuple es k pos) (gTup X.K n t) := by
  intro pins s σ H v u Q I r hw
  obtain ⟨a, xs, e1, hq, hl, hw⟩ := hw
  subst e1
  cases r
  obtain ⟨its, rv, ht, hz⟩ := I.tuple hq
  refine assign_Tuple_tuple (I.ok.hd hc) ht (by simp [hn, ← hl, rv.length]) hst fun h' hx => ?_
  have I1 : Inv X pins σ H { s with heap := h' } := I.kept (t' := s.toks) fun b o e => hx b o (Nat.ne_of_lt (Heap.lt_size e)) e
  exact h pins _ σ H xs _ Q I1 (by simpa using rv) hw
/-- o[i] = .. -/
def gSub (to ti : TE) (t : TSet) : TG := fun v σ H Q => to σ H fun o H1 => ti σ H1 fun i H2 => t o i v H2 fun H3 => Q σ H3
theorem pg_sub {o i : Expr} {to ti : TE} {t : TSet} (ho : PE X o to) (hi : PE X i ti) (hs : PSet X t)
    (ha : ∀ v, assign (.Subscript o i pos) X.env v = (do
      let ov ← holding [v] (eval o X.env)
      let iv ← holding [v, ov] (eval i X.env)
      standAt pos
      holding [v, ov, iv] (setItem ov iv v)
      release [v, ov, iv] []) := by intro _; rfl) : PG X (.Subscript o i pos) (gSub to ti t) := by
  intro pins s σ H v u Q I r h
  rw [ha]
  refine wpAny_bind (wpAny_holding (thn (ho pins s σ H _ I h) fun ov s1 ⟨x, H1, I1, r1, q1⟩ => ?_))
  refine wpAny_bind (wpAny_holding (thn (hi pins s1 σ H1 _ I1 q1) fun iv s2 ⟨y, H2, I2, r2, q2⟩ => ?_))
  refine wpAny_bind (wpAny_standAt (wpAny_bind (wpAny_holding (thn (hs pins s2 σ H2 x y v ov iv u _ I2 r1 r2 r q2) fun _ s3 ⟨H3, I3, q3⟩ => ?_))))
  exact wpAny_release ⟨σ, H3, I3, q3⟩
/-- target = value -/
def tAsg (te : TE) (g : TG) : TS := fun D σ H => te σ H fun x H1 => g x σ H1 D.nx
theorem ps_asg {tg e : Expr} {te : TE} {g : TG} (he : PE X e te) (hg : PG X tg g) (hs : swapsWithSole [tg] e pos.line X.env = pure false := by rfl) (hw : swappedStores [tg] e X.env = pure none := by rfl)
    (h1 : (assignEach [tg] X.env).map (·.2) = [assign tg X.env] := by rfl) : PS X (.Assign [tg] e pos) (tAsg te g) := by
  intro pins s σ H D I h
  refine wpAny_Assign_stores (thn (he pins s σ H _ I h) fun v s1 ⟨x, H1, I1, r1, q1⟩ => ?_) hs hw
  rw [h1]
  exact thn (hg pins s1 σ H1 x v _ I1 r1 q1) fun _ s2 q => q
/-- name = value -/
theorem ps_set {i : Nat} {x : Str} {e : Expr} {te : TE} {pos' : Pos} (hN : X.N.Nodup) (hi : X.N[i]? = some x) (hx : Loc X.env.scope x) (he : PE X e te) (hs : swapsWith e (some (.Name x pos')) pos.line X.env = pure false := by rfl) (hf : X.fn x = true ∨ X.env.scope.names.lookup x = some .local := by first | exact .inl rfl | exact .inr rfl | assumption) :
    PS X (.Assign [.Name x pos'] e pos) (tAsg te (gName i)) := by
  intro pins s σ H D I h
  refine wpAny_Assign_Name (thn (he pins s σ H _ I h) fun v s1 ⟨y, H1, I1, r1, q1⟩ => ?_) hs
  exact store_ok I1 hN hi hx r1 (fun s2 I2 => ⟨_, H1, I2, q1⟩) hf
/-- a, b = x, y with plain local names: stored from the right; the pair itself is not tracked (the opening rows as in PyProof/Rows/TupAssign.lean:23) -/
def tPar (i j : Nat) (ta : TA) : TS := fun D σ H => ta σ H fun vs H1 => ∃ v w, vs = [v, w] ∧ D.nx ((σ.set i (some v)).set j (some w)) H1
theorem ps_par {i j : Nat} {x y : Str} {a b : Expr} {ta : TA} {px py pt : Pos} {kt k2 pt2} (hc : X.calm = true) (hN : X.N.Nodup) (hi : X.N[i]? = some x) (hj : X.N[j]? = some y) (hij : i ≠ j)
    (hx : X.env.scope.names.lookup x = some .local) (hy : X.env.scope.names.lookup y = some .local) (ha : PA X [a, b] ta)
    (hw : swappedStores [.Tuple [.Name x px, .Name y py] kt pt] (.Tuple [a, b] k2 pt2) X.env = pure (some [x, y]))
    (hs : swapsWithSole [.Tuple [.Name x px, .Name y py] kt pt] (.Tuple [a, b] k2 pt2) pos.line X.env = pure false := by rfl) :
    PS X (.Assign [.Tuple [.Name x px, .Name y py] kt pt] (.Tuple [a, b] k2 pt2) pos) (tPar i j ta) := by
  intro pins s σ H D I h
  rw [exec_Assign_arm]
  refine wpAny_bind (wpAny_standAt ?_)
  rw [hs]
  refine wpAny_bind (wpAny_pure ?_)
  rw [if_neg (by decide)]
  refine wpAny_bind (Tuple_ (thn (ha _ pins s σ H _ I h) fun us s1 ⟨vs, H1, I1, r1, q1⟩ => ?_))
  obtain ⟨v, w, e1, q1⟩ := q1
  subst e1
  obtain ⟨u1, u2, rfl, rv, rw'⟩ : ∃ u1 u2, us = [u1, u2] ∧ RelV v u1 ∧ RelV w u2 := by
    cases r1 with
    | cons p q =>
      cases q with
      | cons p' q' =>
        cases q'
        exact ⟨_, _, rfl, p, p'⟩
  refine wpAny_newObj_type ?_ (by show 2 ≤ sizeLine; decide)
  have I2 : Inv X pins σ H1 { s1 with heap := s1.heap.push { cls := .type "tuple", data := .seq [u1, u2].toArray } } := I1.kept (t' := s1.toks) fun b o e => Heap.get?_push_of_some _ e
  rw [hw]
  refine wpAny_bind (wpAny_pure ?_)
  show wpAny (model X.prog X.w) X.A (do rule "assign.swapped-stores"; let items ← unpackItems (.ref s1.heap.objs.size) 2 none; assignInOrder [fun v => bindName X.env y v, fun v => bindName X.env x v] items.reverse; pure Flow.next) _ _ _
  refine wpAny_bind (wpAny_rule (wpAny_bind (unpackItems_tuple (items := #[u1, u2]) (I.ok.hd hc) (IsTup.new s1.heap _) fun h' hx' => ?_)))
  have I3 := I2.kept (h' := h') (t' := s1.toks) fun b o e => hx' b o (Nat.ne_of_lt (Heap.lt_size e)) e
  show wpAny _ _ (assignInOrder [fun v => bindName X.env y v, fun v => bindName X.env x v] [u2, u1] >>= fun _ => pure Flow.next) _ _ _
  refine wpAny_bind (assignInOrder_cons (wpAny_bindName (store_ok I3 hN hj (.inl hy) rw' (fun s2 I4 => ?_) (.inr hy))))
  refine assignInOrder_cons (wpAny_bindName (store_ok I4 hN hi (.inl hx) rv (fun s3 I5 => assignInOrder_nil (wpAny_pure ?_)) (.inr hx)))
  rw [List.set_comm _ _ (Ne.symm hij)] at I5
  exact ⟨_, H1, I5, q1⟩
/-- name op= e -/
def tAug (i : Nat) (te : TE) (ti : TIp) : TS := fun D σ H => ∃ x, σ[i]? = some (some x) ∧ te σ H fun y H1 => ti x y H1 fun z H2 => D.nx (σ.set i (some z)) H2
theorem ps_aug {i : Nat} {x : Str} {e : Expr} {te : TE} {op : Operator} {ti : TIp} {pos' : Pos} (hN : X.N.Nodup) (hi : X.N[i]? = some x) (hx : Loc X.env.scope x) (he : PE X e te) (ho : PIp X op ti) (hf : X.fn x = true ∨ X.env.scope.names.lookup x = some .local := by first | exact .inl rfl | exact .inr rfl | assumption) :
    PS X (.AugAssign (.Name x pos') op e pos) (tAug i te ti) := by
  intro pins s σ H D I h
  obtain ⟨v, e1, h⟩ := h
  obtain ⟨m, hn, hl⟩ := I.loc
  have vis : Vis X.env.scope x := by rcases hx with k | k; exact .inl k; exact .inr (.inl k)
  obtain ⟨u, r, l⟩ := hl i x v hi e1 vis
  refine wpAny_AugAssign_Name ?_
  have go : wpAny (model X.prog X.w) X.A (eval e X.env) (fun w s₂ => wpAny (model X.prog X.w) X.A (inplaceOp op u w) (fun r s₃ => wpAny (model X.prog X.w) X.A (storeName X.env x r) (fun _ => SP X pins D .next) X.xe s₃) X.xe s₂) X.xe s := by
    refine thn (he pins s σ H _ I h) fun w s1 ⟨y, H1, I1, r1, q1⟩ => ?_
    refine thn (ho pins s1 σ H1 v y u w _ I1 r r1 q1) fun z s2 ⟨zv, H2, I2, r2, q2⟩ => ?_
    exact store_ok I2 hN hi hx r2 (fun s3 I3 => ⟨_, H2, I3, q2⟩) hf
  rcases l with ⟨hk, hm⟩ | ⟨hk, c, hc, hcell⟩
  · exact wpAny_loadName_local I.ok.kind hk hn hm go
  · rcases hk with hk | hk
    · exact wpAny_loadName_cell I.ok.kind hk hc hcell go
    · rcases hx with k | k
      · have : X.env.scope.names.lookup x = some .free := hk
        rw [k] at this; cases this
      · have : X.env.scope.names.lookup x = some .free := hk
        rw [k] at this; cases this
/-- o[i] op= e -/
def tAugS (to ti te : TE) (tget : V → V → Hp → VK → Prop) (tip : TIp) (tset : TSet) : TS := fun D σ H => to σ H fun o H1 => ti σ H1 fun i H2 => tget o i H2 fun x H3 => te σ H3 fun y H4 => tip x y H4 fun z H5 => tset o i z H5 fun H6 => D.nx σ H6
/-- o[i], by values -/
def PGet (X : Cx) (t : V → V → Hp → VK → Prop) : Prop :=
  ∀ (pins : List (Addr × Obj)) (s : Shared) (σ : St) (H : Hp) (o i : V) (ov iv : Value) (Q : VK), Inv X pins σ H s → RelV o ov → RelV i iv → t o i H Q →
    wpAny (model X.prog X.w) X.A (getItem ov iv) (EP X pins σ Q) X.xe s
theorem ps_augS {o i e : Expr} {to ti te : TE} {tget : V → V → Hp → VK → Prop} {tip : TIp} {tset : TSet} {op : Operator} {tpos : Pos} (ho : PE X o to) (hi : PE X i ti) (hg : PGet X tget) (he : PE X e te) (hp : PIp X op tip) (hs : PSet X tset)
    (ha : ∀ ov iv new, augStore i ov iv new = (do holding [new, ov, iv] (setItem ov iv new); release [new, ov, iv] []; pure .next) := by intros; rfl) : PS X (.AugAssign (.Subscript o i tpos) op e pos) (tAugS to ti te tget tip tset) := by
  intro pins s σ H D I h
  refine wpAny_AugAssign_SubscriptAny (thn (ho pins s σ H _ I h) fun ov s1 ⟨x1, H1, I1, r1, q1⟩ => ?_) ha
  refine thn (hi pins s1 σ H1 _ I1 q1) fun iv s2 ⟨x2, H2, I2, r2, q2⟩ => ?_
  refine thn (hg pins s2 σ H2 x1 x2 ov iv _ I2 r1 r2 q2) fun old s3 ⟨x3, H3, I3, r3, q3⟩ => ?_
  refine thn (he pins s3 σ H3 _ I3 q3) fun v s4 ⟨x4, H4, I4, r4, q4⟩ => ?_
  refine thn (hp pins s4 σ H4 x3 x4 old v _ I4 r3 r4 q4) fun new s5 ⟨x5, H5, I5, r5, q5⟩ => ?_
  exact thn (hs pins s5 σ H5 x1 x2 x5 ov iv new _ I5 r1 r2 r5 q5) fun _ s6 ⟨H6, I6, q6⟩ => ⟨σ, H6, I6, q6⟩
/-- ints -/
def ipI (f : Int → Int → Int) : TIp := fun x y H Q => ∃ i j, x = .int i ∧ y = .int j ∧ Q (.int (f i j)) H
theorem ip_add : PIp X .Add (ipI fun i j => i + j) := by
  intro pins s σ H x y v u Q I r1 r2 h
  obtain ⟨i, j, e1, e2, q⟩ := h
  subst e1; subst e2
  obtain ⟨t, rfl⟩ := r1
  obtain ⟨t', rfl⟩ := r2
  exact iadd_int ⟨.int _, H, I.tok _, ⟨_, rfl⟩, q⟩
theorem ip_sub : PIp X .Sub (ipI fun i j => i - j) := by
  intro pins s σ H x y v u Q I r1 r2 h
  obtain ⟨i, j, e1, e2, q⟩ := h
  subst e1; subst e2
  obtain ⟨t, rfl⟩ := r1
  obtain ⟨t', rfl⟩ := r2
  exact isub_int ⟨.int _, H, I.tok _, ⟨_, rfl⟩, q⟩
end

/-! ### while -/
section
variable {X : Cx} {pos : Pos}
/-- the invariant W with its measure -/
def tWhile (c : TT) (tb : TS) : TS := fun D σ H => ∃ W : Nat → St → Hp → Prop, (∃ m, W m σ H) ∧ ∀ m σ H, W m σ H →
  c σ H fun b H1 => if b = true then ∃ N : St → Hp → Prop, (∀ σ' H', N σ' H' → ∃ m', m' < m ∧ W m' σ' H') ∧ tb { D with nx := N, ct := N, bk := D.nx } σ H1 else D.nx σ H1
theorem ps_while {c : Expr} {body : List Stmt} {tc : TT} {tb : TS} (hp : PassesOwn (model X.prog X.w) X.A X.env X.xe) (hc : PT X c tc) (hb : PSs X body tb) : PS X (.While c body [] pos) (tWhile tc tb) := by
  intro pins s σ H D I h
  obtain ⟨W, ⟨m0, w0⟩, turn⟩ := h
  refine wpAny_While (codeAny_whileLoop (fun n s' => ∃ σ' H', Inv X pins σ' H' s' ∧ W n σ' H') ?_ m0 ⟨σ, H, I, w0⟩)
  rintro n s1 ⟨σ1, H1, I1, w1⟩
  refine wpAny_passesOwn hp (thn (hc pins s1 σ1 H1 _ I1 (turn n σ1 H1 w1)) fun b s2 ⟨H2, I2, q2⟩ => ?_)
  cases b with
  | true =>
    obtain ⟨N, hN, q2⟩ := q2
    rw [if_pos rfl]
    refine wpAny_passesOwn hp (thn (hb pins s2 σ1 H2 _ I2 q2) fun f s3 q3 => ?_)
    cases f with
    | next =>
      obtain ⟨σ3, H3, I3, n3⟩ := q3
      obtain ⟨m', hm, w3⟩ := hN σ3 H3 n3
      exact ⟨m', hm, σ3, H3, I3, w3⟩
    | cont =>
      obtain ⟨σ3, H3, I3, n3⟩ := q3
      obtain ⟨m', hm, w3⟩ := hN σ3 H3 n3
      exact ⟨m', hm, σ3, H3, I3, w3⟩
    | brk => exact q3
    | ret v => exact q3
  | false =>
    rw [if_neg Bool.false_ne_true]
    exact wpAny_execs_nil ⟨σ1, H2, I2, q2⟩
end

/-! ### what a loop or a comprehension walks -/
/-- at turn i: it yields x (the heap may grow), or it stops -/
structure It where
  go : Nat → Hp → Prop
  yld : Nat → Hp → V → Hp → Prop
  stop : Nat → Hp → Prop
/-- the iterator's own objects may turn: they are not the frame's, not pinned, younger than the entry (or a comprehension's own) -/
def FpOk (X : Cx) (pins : List (Addr × Obj)) (H : Hp) (b : Addr) : Prop :=
  H b = none ∧ b ≠ X.env.locals ∧ b ∉ X.fs ∧ (b ∈ X.ex ∨ X.s₀.heap.objs.size ≤ b) ∧ (∀ x c, X.env.cells.lookup x = some c → c ≠ b) ∧ ∀ p ∈ X.pn ++ pins, p.1 ≠ b
theorem Inv.fpOk {X : Cx} {pins : List (Addr × Obj)} {σ : St} {H H' : Hp} {s : Shared} {b : Addr} (I : Inv X pins σ H s) (hb : s.heap.objs.size ≤ b) (hn : H' b = none) : FpOk X pins H' b := by
  refine ⟨hn, Nat.ne_of_gt (Nat.lt_of_lt_of_le I.lt hb), I.nofs hb, .inr (Nat.le_trans I.sz hb), fun x c e z => ?_, fun p hp z => ?_⟩
  · obtain ⟨v, q⟩ := I.cell x c e
    exact absurd (Nat.lt_of_lt_of_le q.lt (by rw [z]; exact hb)) (Nat.lt_irrefl _)
  · exact absurd (Nat.lt_of_lt_of_le (Heap.lt_size (I.pin p hp).1) (by rw [z]; exact hb)) (Nat.lt_irrefl _)
structure Turn (P : Program) (w : World) (K : PySem.W.Frag) (tg : Expr) (J : It) (fp : List Addr) (it : Addr) (tn : Nat → Heap → Prop) : Prop where
  mem : it ∈ fp
  obj : ∀ i h, tn i h → ∀ b ∈ fp, ∃ o, h.get? b = some o ∧ ∀ v, o.data ≠ .cell v
  keep : ∀ i h h', tn i h → (∀ b ∈ fp, ∀ o, h.get? b = some o → h'.get? b = some o) → tn i h'
  item : ∀ (X : Cx), X.prog = P → X.w = w → X.K = K → X.calm = true → ∀ (i : Nat) (pins : List (Addr × Obj)) (s : Shared) (σ : St) (H : Hp) (E : Value → Shared → Prop), Inv X pins σ H s → (∀ b ∈ fp, FpOk X pins H b) → tn i s.heap → J.go i H →
    wpAny (model P w) X.A (pyNext (.ref it)) (fun r s1 => ∃ u, r = some u ∧
      wpAny (model P w) X.A (letOwnedTupleGo tg (.ref it) u) (fun _ s2 => ∃ x H', Inv X pins σ H' s2 ∧ RelV x u ∧ J.yld i H x H' ∧ tn (i + 1) s2.heap ∧ ∀ b ∈ fp, H' b = none) E s1) E s
  done : ∀ (X : Cx), X.prog = P → X.w = w → X.K = K → X.calm = true → ∀ (i : Nat) (pins : List (Addr × Obj)) (s : Shared) (σ : St) (H : Hp) (E : Value → Shared → Prop), Inv X pins σ H s → (∀ b ∈ fp, FpOk X pins H b) → tn i s.heap → J.stop i H →
    wpAny (model P w) X.A (pyNext (.ref it)) (fun r s1 => r = none ∧ Inv X pins σ H s1) E s
  self : ∀ (A : Around) (i : Nat) (s : Shared) (Q : Value → Shared → Prop) (E : Value → Shared → Prop), tn i s.heap → Q (.ref it) s → wpAny (model P w) A (pyIter (.ref it)) Q E s
abbrev TI := St → Hp → (It → Hp → Prop) → Prop
/-- an iterator has come -/
def PIE (X : Cx) (pins : List (Addr × Obj)) (σ : St) (tg : Expr) (R : It → Hp → Prop) (itv : Value) (s2 : Shared) : Prop :=
  ∃ (it : Addr) (fp : List Addr) (tn : Nat → Heap → Prop) (J : It) (H' : Hp), itv = .ref it ∧ Inv X pins σ H' s2 ∧ Turn X.prog X.w X.K tg J fp it tn ∧ tn 0 s2.heap ∧ (∀ b ∈ fp, FpOk X pins H' b) ∧ R J H'
def PI (X : Cx) (tg iter : Expr) (wi : TI) : Prop :=
  ∀ (pins : List (Addr × Obj)) (s : Shared) (σ : St) (H : Hp) (R : It → Hp → Prop), Inv X pins σ H s → wi σ H R →
    wpAny (model X.prog X.w) X.A (eval iter X.env) (fun v s1 => wpAny (model X.prog X.w) X.A (pyIter v) (PIE X pins σ tg R) X.xe s1) X.xe s

/-- the step ahead of the store is nothing for an iterator that keeps no tuple -/
theorem go_of {M : Model} {A : Around} {E : Value → Shared → Prop} {s : Shared} {tg : Expr} {it : Addr} {u : Value} {o : Obj} {n : String} {vs : Array Value} {Q : Unit → Shared → Prop} (ho : s.heap.get? it = some o) (hc : o.cls = .type n) (hd : o.data = .fields vs)
    (hn : ["enumerate", "zip", "dict_itemiterator", "dict_reverseitemiterator", "odict_iterator", "itertools.zip_longest", "itertools.pairwise"].contains n = false) (hQ : Q () s) : wpAny M A (letOwnedTupleGo tg (.ref it) u) Q E s := by
  unfold letOwnedTupleGo
  cases tg <;> first
    | exact wpAny_pure hQ
    | (cases u <;> first
        | exact wpAny_pure hQ
        | (refine wpAny_bind (wpAny_load ho ?_)
           rw [hc, hd]
           show wpAny M A (if (["enumerate", "zip", "dict_itemiterator", "dict_reverseitemiterator", "odict_iterator", "itertools.zip_longest", "itertools.pairwise"].contains n && vs[0]? == some (rawInt _)) = true then _ else _) Q E s
           rw [if_neg (by intro h; rw [hn, Bool.false_and] at h; cases h)]
           exact wpAny_pure hQ))

/-- the list at a, as it stands at each turn (a loop may append to it) -/
def Itl (K : PySem.W.Frag) (a : Addr) : It :=
  ⟨fun i H => ∃ xs x, SqL K H a xs ∧ xs[i]? = some x, fun i H x H' => H' = H ∧ ∀ xs, SqL K H a xs → xs[i]? = some x, fun i H => ∃ xs, SqL K H a xs ∧ xs.length ≤ i⟩
def Itt (K : PySem.W.Frag) (a : Addr) : It :=
  ⟨fun i H => ∃ xs x, SqT K H a xs ∧ xs[i]? = some x, fun i H x H' => H' = H ∧ ∀ xs, SqT K H a xs → xs[i]? = some x, fun i H => ∃ xs, SqT K H a xs ∧ xs.length ≤ i⟩
/-- lo, lo + 1, .. (n of them) -/
def Itr (lo : Int) (n : Nat) : It := ⟨fun i _ => i < n, fun i H x H' => H' = H ∧ x = .int (lo + i), fun i _ => n ≤ i⟩
theorem turn_list {P : Program} {w : World} {K : PySem.W.Frag} {tg : Expr} (a it : Addr) : Turn P w K tg (Itl K a) [it] it (fun i h => h.IsListIter it a i) where
  mem := by simp
  obj := fun i h st b hb => by
    have e : b = it := by simpa using hb
    subst e
    obtain ⟨o, e, c, d⟩ := st
    exact ⟨o, e, fun v z => by rw [d] at z; cases z⟩
  keep := fun i h h' st k => st.at fun o e => k it (by simp) o e
  item := by
    intro X hP hw hK hc i pins s σ H E I hf st hg
    subst hP hw hK
    obtain ⟨xs, x, hq, hx⟩ := hg
    obtain ⟨its, rv, p, hz⟩ := I.list hq
    obtain ⟨u, hu, ru⟩ := rv.get hx
    obtain ⟨f0, f1, f2, f3, f4, f5⟩ := hf it (by simp)
    refine wpAny_pyNext_list_item st p.isList (x := u) (by simpa using hu) fun h' st' sb => ?_
    have I1 : Inv X pins σ H { s with heap := h' } := I.turned (t' := s.toks) (fun b o hb e => (sb.2 b hb).trans e) f0 f1 f3 f4 f5
    obtain ⟨o, e, c, d⟩ := id st'
    exact ⟨u, rfl, go_of (s := { s with heap := h' }) e c d (by decide) ⟨x, H, I1, ru, ⟨rfl, fun ys hy => by rw [I.list_inj hy hq]; exact hx⟩, st', fun b hb => (hf b hb).1⟩⟩
  done := by
    intro X hP hw hK hc i pins s σ H E I hf st hg
    subst hP hw hK
    obtain ⟨xs, hq, hx⟩ := hg
    obtain ⟨its, rv, p, hz⟩ := I.list hq
    obtain ⟨f0, f1, f2, f3, f4, f5⟩ := hf it (by simp)
    have hl := rv.length
    exact wpAny_pyNext_list_end (I.ok.hd hc) st p.isList (by simp; omega) fun h' eb => ⟨rfl, I.turned (t' := s.toks) (fun b o hb e => eb b o hb e) f0 f1 f3 f4 f5⟩
  self := fun _ _ _ _ _ st h => wpAny_pyIter_listiter st h
theorem turn_tuple {P : Program} {w : World} {K : PySem.W.Frag} {tg : Expr} (a it : Addr) : Turn P w K tg (Itt K a) [it] it (fun i h => h.IsTupleIter it a i) where
  mem := by simp
  obj := fun i h st b hb => by
    have e : b = it := by simpa using hb
    subst e
    obtain ⟨o, e, c, d⟩ := st
    exact ⟨o, e, fun v z => by rw [d] at z; cases z⟩
  keep := fun i h h' st k => st.at fun o e => k it (by simp) o e
  item := by
    intro X hP hw hK hc i pins s σ H E I hf st hg
    subst hP hw hK
    obtain ⟨xs, x, hq, hx⟩ := hg
    obtain ⟨its, rv, p, hz⟩ := I.tuple hq
    obtain ⟨u, hu, ru⟩ := rv.get hx
    obtain ⟨f0, f1, f2, f3, f4, f5⟩ := hf it (by simp)
    refine wpAny_pyNext_tuple_item st (show s.heap.IsTuple a its.toArray from p) (x := u) (by simpa using hu) fun h' st' sb => ?_
    have I1 : Inv X pins σ H { s with heap := h' } := I.turned (t' := s.toks) (fun b o hb e => (sb.2 b hb).trans e) f0 f1 f3 f4 f5
    obtain ⟨o, e, c, d⟩ := id st'
    exact ⟨u, rfl, go_of (s := { s with heap := h' }) e c d (by decide) ⟨x, H, I1, ru, ⟨rfl, fun ys hy => by rw [I.tuple_inj hy hq]; exact hx⟩, st', fun b hb => (hf b hb).1⟩⟩
  done := by
    intro X hP hw hK hc i pins s σ H E I hf st hg
    subst hP hw hK
    obtain ⟨xs, hq, hx⟩ := hg
    obtain ⟨its, rv, p, hz⟩ := I.tuple hq
    obtain ⟨f0, f1, f2, f3, f4, f5⟩ := hf it (by simp)
    have hl := rv.length
    exact wpAny_pyNext_tuple_end (I.ok.hd hc) st (show s.heap.IsTuple a its.toArray from p) (by simp; omega) fun h' eb => ⟨rfl, I.turned (t' := s.toks) (fun b o hb e => eb b o hb e) f0 f1 f3 f4 f5⟩
  self := fun _ _ _ _ _ st h => wpAny_pyIter_tupleiter st h
theorem turn_range {P : Program} {w : World} {K : PySem.W.Frag} {tg : Expr} (it : Addr) (lo : Int) (n : Nat) : Turn P w K tg (Itr lo n) [it] it (fun i h => IsRangeIter h it (lo + (i : Nat) * 1) ((n : Int) - (i : Nat)) 1) where
  mem := by simp
  obj := fun i h st b hb => by
    have e : b = it := by simpa using hb
    subst e
    exact ⟨_, st, fun v z => by
      have z' : Data.fields _ = Data.cell v := z
      cases z'⟩
  keep := fun i h h' st k => k it (by simp) _ st
  item := by
    intro X hP hw hK hc i pins s σ H E I hf st hg
    subst hP hw hK
    obtain ⟨f0, f1, f2, f3, f4, f5⟩ := hf it (by simp)
    have W := Walks.range (prog := X.prog) (w := X.w) (I.ok.hd hc) it lo 1 n
    refine W.item i s _ _ hg st fun v h' tk hv st' kk => ?_
    obtain ⟨t, rfl⟩ := hv
    have I1 : Inv X pins σ H { s with heap := h', toks := tk } := I.turned (fun b o hb e => kk b o (by simpa using hb) e) f0 f1 f3 f4 f5
    refine ⟨_, rfl, go_of (s := { s with heap := h', toks := tk }) (n := "range_iterator") st' rfl rfl (by decide) ⟨.int (lo + i), H, I1, ⟨t, ?_⟩, ⟨rfl, rfl⟩, st', fun b hb => (hf b hb).1⟩⟩
    rw [Int.mul_one]
  done := by
    intro X hP hw hK hc i pins s σ H E I hf st hg
    subst hP hw hK
    obtain ⟨f0, f1, f2, f3, f4, f5⟩ := hf it (by simp)
    exact wpAny_pyNext_range_end (I.ok.hd hc) st (by have : n ≤ i := hg; omega) fun h' eb => ⟨rfl, I.turned (t' := s.toks) (fun b o hb e => eb b o hb e) f0 f1 f3 f4 f5⟩
  self := fun _ _ _ _ _ st h => wpAny_pyIter_rangeiter st h
end L2

namespace L2
open PySem PySem.Spec PyProof.Rows
section
variable {X : Cx} {tg : Expr}
def iList (K : PySem.W.Frag) (tl : TE) : TI := fun σ H R => tl σ H fun x H1 => ∃ a, x = .ref a ∧ (∃ xs, SqL K H1 a xs) ∧ R (Itl K a) H1
def iTup (K : PySem.W.Frag) (tl : TE) : TI := fun σ H R => tl σ H fun x H1 => ∃ a, x = .ref a ∧ (∃ xs, SqT K H1 a xs) ∧ R (Itt K a) H1
theorem pi_list {l : Expr} {tl : TE} (hl : PE X l tl) : PI X tg l (iList X.K tl) := by
  intro pins s σ H R I h
  refine thn (hl pins s σ H _ I h) fun v s1 ⟨x, H1, I1, r1, q1⟩ => ?_
  obtain ⟨a, e, ⟨xs, hq⟩, q⟩ := q1
  subst e
  cases r1
  obtain ⟨its, rv, p, hz⟩ := I1.list hq
  refine wpAny_pyIter_list p.isList ?_
  refine ⟨s1.heap.objs.size, [s1.heap.objs.size], _, _, H1, rfl, I1.kept (t' := s1.toks) fun b o e => Heap.get?_push_of_some _ e, turn_list a _, ⟨_, Heap.get?_push_size _ rfl, rfl, rfl⟩, fun b hb => ?_, q⟩
  have e : b = s1.heap.objs.size := by simpa using hb
  subst e
  exact I1.fpOk (Nat.le_refl _) (I1.hok.fresh (Nat.le_refl _))
theorem pi_tup {l : Expr} {tl : TE} (hl : PE X l tl) : PI X tg l (iTup X.K tl) := by
  intro pins s σ H R I h
  refine thn (hl pins s σ H _ I h) fun v s1 ⟨x, H1, I1, r1, q1⟩ => ?_
  obtain ⟨a, e, ⟨xs, hq⟩, q⟩ := q1
  subst e
  cases r1
  obtain ⟨its, rv, p, hz⟩ := I1.tuple hq
  refine wpAny_pyIter_tuple (show s1.heap.IsTuple a its.toArray from p) ?_
  refine ⟨s1.heap.objs.size, [s1.heap.objs.size], _, _, H1, rfl, I1.kept (t' := s1.toks) fun b o e => Heap.get?_push_of_some _ e, turn_tuple a _, ⟨_, Heap.get?_push_size _ rfl, rfl, rfl⟩, fun b hb => ?_, q⟩
  have e : b = s1.heap.objs.size := by simpa using hb
  subst e
  exact I1.fpOk (Nat.le_refl _) (I1.hok.fresh (Nat.le_refl _))
/-- a range object just made, walked -/
theorem range_it {pins : List (Addr × Obj)} {σ : St} {H : Hp} {s : Shared} {R : It → Hp → Prop} {E : Value → Shared → Prop} {lo hi : Int} {t u v : Tok} {tk : Nat} (I : Inv X pins σ H s) (h1 : -(2 ^ 62) ≤ lo) (h2 : lo < 2 ^ 62) (h3 : -(2 ^ 62) ≤ hi) (h4 : hi < 2 ^ 62)
    (q : R (Itr lo (hi - lo).toNat) H) : wpAny (model X.prog X.w) X.A (pyIter (.ref s.heap.objs.size)) (PIE X pins σ tg R) E { s with heap := s.heap.push { cls := .type "range", data := .fields #[.int lo t, .int hi u, .int 1 v] }, toks := tk } := by
  refine wpAny_pyIter_range (IsRange.new ..) (small_one h1 h2 h3 h4) ?_
  have I1 : Inv X pins σ H { s with heap := s.heap.push { cls := .type "range", data := .fields #[.int lo t, .int hi u, .int 1 v] }, toks := tk } := I.kept fun b o e => Heap.get?_push_of_some _ e
  refine ⟨(s.heap.push { cls := .type "range", data := .fields #[.int lo t, .int hi u, .int 1 v] }).objs.size, [(s.heap.push { cls := .type "range", data := .fields #[.int lo t, .int hi u, .int 1 v] }).objs.size], _, _, H, rfl,
    I1.kept (t' := tk) fun b o e => Heap.get?_push_of_some _ e, turn_range _ lo (hi - lo).toNat, ?_, fun b hb => ?_, q⟩
  · have e1 : lo + ((0 : Nat) : Int) * 1 = lo := by simp
    have e2 : (((hi - lo).toNat : Nat) : Int) - ((0 : Nat) : Int) = Builtin.Range.rangeSize lo hi 1 := by rw [rangeSize_one]; split <;> omega
    show IsRangeIter _ _ (lo + ((0 : Nat) : Int) * 1) ((((hi - lo).toNat : Nat) : Int) - ((0 : Nat) : Int)) 1
    rw [e1, e2]
    exact Heap.get?_push_size _ rfl
  · have e : b = (s.heap.push { cls := .type "range", data := .fields #[.int lo t, .int hi u, .int 1 v] }).objs.size := by simpa using hb
    subst e
    exact I1.fpOk (Nat.le_refl _) (I1.hok.fresh (Nat.le_refl _))
def iRng1 (ta : TA) : TI := fun σ H R => ta σ H fun vs H1 => ∃ j : Int, vs = [.int j] ∧ -(2 ^ 62) ≤ j ∧ j < 2 ^ 62 ∧ R (Itr 0 j.toNat) H1
def iRng2 (ta : TA) : TI := fun σ H R => ta σ H fun vs H1 => ∃ i j : Int, vs = [.int i, .int j] ∧ (-(2 ^ 62) ≤ i ∧ i < 2 ^ 62 ∧ -(2 ^ 62) ≤ j ∧ j < 2 ^ 62) ∧ R (Itr i (j - i).toNat) H1
theorem pi_range1 {a : Expr} {ta : TA} {p pos : Pos} (hg : Gl X "range") (hm : X.mg "range" = none) (ha : PA X [a] ta) (hs : starEach [a] X.env = [(false, eval a X.env)] := by rfl) : PI X tg (.Call (.Name "range" p) [a] [] pos) (iRng1 ta) := by
  intro pins s σ H R I h
  refine Call_ (ld_blt I hg hm boot_range (PyProof.Rows.callWith_type1 (thn (ha pos pins s σ H _ I h) fun us s1 ⟨vs, H1, I1, r1, q1⟩ => ?_) hs rfl))
  obtain ⟨j, e, q1, q2, q⟩ := q1
  subst e
  cases r1 with
  | cons r rr =>
    cases rr
    obtain ⟨t, rfl⟩ := r
    exact call_range_1 (range_it I1 (by omega) (by omega) q1 q2 (by simpa using q))
theorem pi_range2 {a b : Expr} {ta : TA} {p pos : Pos} (hg : Gl X "range") (hm : X.mg "range" = none) (ha : PA X [a, b] ta) (hs : starEach [a, b] X.env = [(false, eval a X.env), (false, eval b X.env)] := by rfl) (hs2 : starEach [b] X.env = [(false, eval b X.env)] := by rfl) :
    PI X tg (.Call (.Name "range" p) [a, b] [] pos) (iRng2 ta) := by
  intro pins s σ H R I h
  refine Call_ (ld_blt I hg hm boot_range (PyProof.Rows.callWith_type1 (thn (ha pos pins s σ H _ I h) fun us s1 ⟨vs, H1, I1, r1, q1⟩ => ?_) (by rw [hs, hs2]) (by rw [hs2]; rfl)))
  obtain ⟨i, j, e, ⟨q1, q2, q3, q4⟩, q⟩ := q1
  subst e
  cases r1 with
  | cons r rr =>
    cases rr with
    | cons r' rr =>
      cases rr
      obtain ⟨t, rfl⟩ := r
      obtain ⟨t', rfl⟩ := r'
      exact call_range_2 (range_it I1 q1 q2 q3 q4 q)

/-! ### for -/
/-- W: the invariant by the turn and a measure; N: what the body is to reach -/
def tFor (wi : TI) (g : TG) (tb : TS) : TS := fun D σ H => wi σ H fun J H1 => ∃ W : Nat → Nat → St → Hp → Prop, (∃ m, W 0 m σ H1) ∧ ∀ i m σ H, W i m σ H →
  (J.stop i H ∧ D.nx σ H) ∨ (J.go i H ∧ ∃ N : St → Hp → Prop, (∀ σ' H', N σ' H' → ∃ m', m' < m ∧ W (i + 1) m' σ' H') ∧ ∀ x H', J.yld i H x H' → g x σ H' fun σ2 H2 => tb { D with nx := N, ct := N, bk := D.nx } σ2 H2)
/-- the records at fp as they stand -/
def pinsAt (fp : List Addr) (h : Heap) : List (Addr × Obj) := fp.filterMap fun b => (h.get? b).map fun o => (b, o)
theorem mem_pinsAt {fp : List Addr} {h : Heap} {b : Addr} {o : Obj} (hb : b ∈ fp) (e : h.get? b = some o) : (b, o) ∈ pinsAt fp h := List.mem_filterMap.mpr ⟨b, hb, by rw [e]; rfl⟩
theorem of_pinsAt {fp : List Addr} {h : Heap} {p : Addr × Obj} (hp : p ∈ pinsAt fp h) : p.1 ∈ fp ∧ h.get? p.1 = some p.2 := by
  obtain ⟨b, hb, e⟩ := List.mem_filterMap.mp hp
  cases q : h.get? b with
  | none => rw [q] at e; cases e
  | some o =>
    rw [q] at e
    have e' : (b, o) = p := Option.some.inj e
    subst e'
    exact ⟨hb, q⟩
theorem Inv.pinned {pins : List (Addr × Obj)} {σ : St} {H : Hp} {s : Shared} {fp : List Addr} (I : Inv X pins σ H s) (hf : ∀ b ∈ fp, FpOk X pins H b) (ho : ∀ b ∈ fp, ∃ o, s.heap.get? b = some o ∧ ∀ v, o.data ≠ .cell v) : Inv X (pins ++ pinsAt fp s.heap) σ H s :=
  I.pins_of fun p hp => (List.mem_append.mp hp).elim (fun z => I.pin p (List.mem_append_right _ z)) fun z => by
    obtain ⟨hb, e⟩ := of_pinsAt z
    obtain ⟨f0, f1, f2, _⟩ := hf p.1 hb
    obtain ⟨o, e', d⟩ := ho p.1 hb
    rw [e] at e'; cases e'
    exact ⟨e, f0, f1, f2, d⟩
theorem Inv.unpinned {pins pl : List (Addr × Obj)} {σ : St} {H : Hp} {s : Shared} (I : Inv X (pins ++ pl) σ H s) : Inv X pins σ H s := I.pins_of fun p hp => I.pin p (List.mem_append_right _ (List.mem_append_left _ hp))
theorem ps_for {iter : Expr} {body : List Stmt} {wi : TI} {g : TG} {tb : TS} {pos : Pos} (hp : PassesOwn (model X.prog X.w) X.A X.env X.xe) (hc : X.calm = true) (hi : PI X tg iter wi) (hg : PG X tg g) (hb : PSs X body tb)
    (hs : ∀ x, foldedSetIterable iter X.env x = pure x := by intro _; rfl) : PS X (.For tg iter body [] pos) (tFor wi g tb) := by
  intro pins s σ H D I h
  refine wpAny_For (thn (hi pins s σ H _ I h) fun v s1 h1 => thn h1 fun itv s2 h2 => ?_) hs
  obtain ⟨it, fp, tn, J, H2, e, I2, T, st2, f2, W, ⟨m0, w0⟩, turn⟩ := h2
  subst e
  -- what stays true of the iterator's objects through the loop
  have stat : ∀ {H' : Hp}, (∀ b ∈ fp, H' b = none) → ∀ b ∈ fp, FpOk X pins H' b := fun hn b hb => ⟨hn b hb, (f2 b hb).2⟩
  refine codeAny_forLoop_any (fun n s' => ∃ i σ' H', Inv X pins σ' H' s' ∧ tn i s'.heap ∧ (∀ b ∈ fp, H' b = none) ∧ W i n σ' H') ?_ m0 ⟨0, σ, H2, I2, st2, fun b hb => (f2 b hb).1, w0⟩
  rintro n s3 ⟨i, σ3, H3, I3, st3, fr3, w3⟩
  rcases turn i n σ3 H3 w3 with ⟨stop, qn⟩ | ⟨go, N, hN, step⟩
  · refine wpAny_passesOwn hp (thn (T.done X rfl rfl rfl hc i pins s3 σ3 H3 X.xe I3 (stat fr3) st3 stop) fun r s4 ⟨hr, I4⟩ => ?_)
    subst hr
    exact wpAny_execs_nil ⟨σ3, H3, I4, qn⟩
  · refine wpAny_passesOwn hp (thn (T.item X rfl rfl rfl hc i pins s3 σ3 H3 X.xe I3 (stat fr3) st3 go) fun r s4 ⟨u, hr, h4⟩ => ?_)
    subst hr
    refine wpAny_passesOwn hp (thn h4 fun _ s5 ⟨x, H5, I5, r5, y5, st5, fr5⟩ => ?_)
    have I5' := I5.pinned (stat fr5) (T.obj _ _ st5)
    refine wpAny_passesOwn hp (thn (hg _ s5 σ3 H5 x u _ I5' r5 (step x H5 y5)) fun _ s6 ⟨σ6, H6, I6, q6⟩ => ?_)
    refine wpAny_passesOwn hp (thn (hb _ s6 σ6 H6 _ I6 q6) fun f s7 q7 => ?_)
    have again : ∀ {σ7 : St} {H7 : Hp}, Inv X (pins ++ pinsAt fp s5.heap) σ7 H7 s7 → N σ7 H7 → ∃ m, m < n ∧ ∃ i σ' H', Inv X pins σ' H' s7 ∧ tn i s7.heap ∧ (∀ b ∈ fp, H' b = none) ∧ W i m σ' H' := fun {σ7 H7} I7 n7 => by
      obtain ⟨m', hm, w7⟩ := hN σ7 H7 n7
      refine ⟨m', hm, i + 1, σ7, H7, I7.unpinned, T.keep _ _ _ st5 fun b hb o e => (I7.pin (b, o) (List.mem_append_right _ (List.mem_append_right _ (mem_pinsAt hb e)))).1, fun b hb => ?_, w7⟩
      obtain ⟨o, e, d⟩ := T.obj _ _ st5 b hb
      exact (I7.pin (b, o) (List.mem_append_right _ (List.mem_append_right _ (mem_pinsAt hb e)))).2.1
    cases f with
    | next => obtain ⟨σ7, H7, I7, n7⟩ := q7; exact again I7 n7
    | cont => obtain ⟨σ7, H7, I7, n7⟩ := q7; exact again I7 n7
    | brk => obtain ⟨σ7, H7, I7, q7⟩ := q7; exact ⟨σ7, H7, I7.unpinned, q7⟩
    | ret v => obtain ⟨x7, σ7, H7, I7, r7, q7⟩ := q7; exact ⟨x7, σ7, H7, I7.unpinned, r7, q7⟩
end

/-! ### the forms one uses -/
/-- over a list that the body leaves as it is -/
theorem for_list {K : PySem.W.Frag} {a : Addr} {xs : List V} {g : TG} {tb : TS} {D : Ends} {σ : St} {H : Hp} (Pv : Nat → St → Hp → Prop) (h0 : Pv 0 σ H) (hl : ∀ i σ H, i ≤ xs.length → Pv i σ H → SqL K H a xs)
    (hs : ∀ i x σ H, xs[i]? = some x → Pv i σ H → g x σ H fun σ2 H2 => tb { D with nx := Pv (i + 1), ct := Pv (i + 1), bk := D.nx } σ2 H2) (hd : ∀ σ H, Pv xs.length σ H → D.nx σ H) :
    ∃ W : Nat → Nat → St → Hp → Prop, (∃ m, W 0 m σ H) ∧ ∀ i m σ H, W i m σ H →
      ((Itl K a).stop i H ∧ D.nx σ H) ∨ ((Itl K a).go i H ∧ ∃ N : St → Hp → Prop, (∀ σ' H', N σ' H' → ∃ m', m' < m ∧ W (i + 1) m' σ' H') ∧ ∀ x H', (Itl K a).yld i H x H' → g x σ H' fun σ2 H2 => tb { D with nx := N, ct := N, bk := D.nx } σ2 H2) := by
  refine ⟨fun i m σ H => m = xs.length - i ∧ i ≤ xs.length ∧ Pv i σ H, ⟨xs.length, by simp, Nat.zero_le _, h0⟩, ?_⟩
  rintro i m σ H ⟨rfl, hi, p⟩
  have q := hl i σ H hi p
  by_cases hlt : i < xs.length
  · refine .inr ⟨⟨xs, xs[i], q, by simp [hlt]⟩, Pv (i + 1), fun σ' H' p' => ⟨xs.length - (i + 1), by omega, rfl, hlt, p'⟩, fun x H' y => ?_⟩
    obtain ⟨e, y⟩ := y
    subst e
    exact hs i x σ _ (y xs q) p
  · have e : i = xs.length := by omega
    subst e
    exact .inl ⟨⟨xs, q, Nat.le_refl _⟩, hd σ H p⟩
theorem for_tup {K : PySem.W.Frag} {a : Addr} {xs : List V} {g : TG} {tb : TS} {D : Ends} {σ : St} {H : Hp} (Pv : Nat → St → Hp → Prop) (h0 : Pv 0 σ H) (hl : ∀ i σ H, i ≤ xs.length → Pv i σ H → SqT K H a xs)
    (hs : ∀ i x σ H, xs[i]? = some x → Pv i σ H → g x σ H fun σ2 H2 => tb { D with nx := Pv (i + 1), ct := Pv (i + 1), bk := D.nx } σ2 H2) (hd : ∀ σ H, Pv xs.length σ H → D.nx σ H) :
    ∃ W : Nat → Nat → St → Hp → Prop, (∃ m, W 0 m σ H) ∧ ∀ i m σ H, W i m σ H →
      ((Itt K a).stop i H ∧ D.nx σ H) ∨ ((Itt K a).go i H ∧ ∃ N : St → Hp → Prop, (∀ σ' H', N σ' H' → ∃ m', m' < m ∧ W (i + 1) m' σ' H') ∧ ∀ x H', (Itt K a).yld i H x H' → g x σ H' fun σ2 H2 => tb { D with nx := N, ct := N, bk := D.nx } σ2 H2) := by
  refine ⟨fun i m σ H => m = xs.length - i ∧ i ≤ xs.length ∧ Pv i σ H, ⟨xs.length, by simp, Nat.zero_le _, h0⟩, ?_⟩
  rintro i m σ H ⟨rfl, hi, p⟩
  have q := hl i σ H hi p
  by_cases hlt : i < xs.length
  · refine .inr ⟨⟨xs, xs[i], q, by simp [hlt]⟩, Pv (i + 1), fun σ' H' p' => ⟨xs.length - (i + 1), by omega, rfl, hlt, p'⟩, fun x H' y => ?_⟩
    obtain ⟨e, y⟩ := y
    subst e
    exact hs i x σ _ (y xs q) p
  · have e : i = xs.length := by omega
    subst e
    exact .inl ⟨⟨xs, q, Nat.le_refl _⟩, hd σ H p⟩
theorem for_range {lo : Int} {n : Nat} {g : TG} {tb : TS} {D : Ends} {σ : St} {H : Hp} (Pv : Nat → St → Hp → Prop) (h0 : Pv 0 σ H)
    (hs : ∀ i σ H, i < n → Pv i σ H → g (.int (lo + i)) σ H fun σ2 H2 => tb { D with nx := Pv (i + 1), ct := Pv (i + 1), bk := D.nx } σ2 H2) (hd : ∀ σ H, Pv n σ H → D.nx σ H) :
    ∃ W : Nat → Nat → St → Hp → Prop, (∃ m, W 0 m σ H) ∧ ∀ i m σ H, W i m σ H →
      ((Itr lo n).stop i H ∧ D.nx σ H) ∨ ((Itr lo n).go i H ∧ ∃ N : St → Hp → Prop, (∀ σ' H', N σ' H' → ∃ m', m' < m ∧ W (i + 1) m' σ' H') ∧ ∀ x H', (Itr lo n).yld i H x H' → g x σ H' fun σ2 H2 => tb { D with nx := N, ct := N, bk := D.nx } σ2 H2) := by
  refine ⟨fun i m σ H => m = n - i ∧ i ≤ n ∧ Pv i σ H, ⟨n, by simp, Nat.zero_le _, h0⟩, ?_⟩
  rintro i m σ H ⟨rfl, hi, p⟩
  by_cases hlt : i < n
  · refine .inr ⟨hlt, Pv (i + 1), fun σ' H' p' => ⟨n - (i + 1), by omega, rfl, hlt, p'⟩, fun x H' y => ?_⟩
    obtain ⟨e, y⟩ := y
    subst e y
    exact hs i σ _ hlt p
  · have e : i = n := by omega
    subst e
    exact .inl ⟨Nat.le_refl _, hd σ H p⟩
/-- while, by a word and a measure of the state -/
theorem while_by {c : TT} {tb : TS} {D : Ends} {σ : St} {H : Hp} (Pv : St → Hp → Prop) (μ : St → Hp → Nat) (h0 : Pv σ H)
    (hs : ∀ σ H, Pv σ H → c σ H fun b H1 => if b = true then tb { D with nx := fun σ' H' => Pv σ' H' ∧ μ σ' H' < μ σ H, ct := fun σ' H' => Pv σ' H' ∧ μ σ' H' < μ σ H, bk := D.nx } σ H1 else D.nx σ H1)
    (mono : ∀ σ H Q Q', (∀ b H1, Q b H1 → Q' b H1) → c σ H Q → c σ H Q') : tWhile c tb D σ H := by
  refine ⟨fun m σ H => m = μ σ H ∧ Pv σ H, ⟨_, rfl, h0⟩, ?_⟩
  rintro m σ H ⟨rfl, p⟩
  refine mono σ H _ _ (fun b H1 q => ?_) (hs σ H p)
  cases b with
  | true => exact ⟨_, fun σ' H' ⟨p', l⟩ => ⟨_, l, rfl, p'⟩, q⟩
  | false => exact q
end L2

namespace L2
open PySem PySem.Spec PyProof.Rows

abbrev R2 := V → V → Hp → VK → Prop
/-- a two-place operation on values: f is binaryOp op, inplaceOp op or compareOp op -/
def OpR (X : Cx) (f : Value → Value → Sem Value) (r : R2) : Prop :=
  ∀ (pins : List (Addr × Obj)) (s : Shared) (σ : St) (H : Hp) (x y : V) (v u : Value) (Q : VK), Inv X pins σ H s → RelV x v → RelV y u → r x y H Q →
    wpAny (model X.prog X.w) X.A (f v u) (EP X pins σ Q) X.xe s
/-- a one-place operation -/
def UnR (X : Cx) (f : Value → Sem Value) (r : V → Hp → VK → Prop) : Prop :=
  ∀ (pins : List (Addr × Obj)) (s : Shared) (σ : St) (H : Hp) (x : V) (v : Value) (Q : VK), Inv X pins σ H s → RelV x v → r x H Q →
    wpAny (model X.prog X.w) X.A (f v) (EP X pins σ Q) X.xe s
/-- a call of a value that is known (a builtin, a type) with values -/
def CallR (X : Cx) (f : Value) (r : List V → Hp → VK → Prop) : Prop :=
  ∀ (pins : List (Addr × Obj)) (s : Shared) (σ : St) (H : Hp) (xs : List V) (us : List Value) (Q : VK), Inv X pins σ H s → Vals xs us → r xs H Q →
    wpAny (model X.prog X.w) X.A (call f us) (EP X pins σ Q) X.xe s
/-- a value's truth -/
def TruR (X : Cx) (r : V → Hp → (Bool → Hp → Prop) → Prop) : Prop :=
  ∀ (pins : List (Addr × Obj)) (s : Shared) (σ : St) (H : Hp) (x : V) (v : Value) (Q : Bool → Hp → Prop), Inv X pins σ H s → RelV x v → r x H Q →
    wpAny (model X.prog X.w) X.A (truthy v) (TP X pins σ Q) X.xe s

def tOp (r : R2) (ta tb : TE) : TE := fun σ H Q => ta σ H fun x H1 => tb σ H1 fun y H2 => r x y H2 Q
def tUn (r : V → Hp → VK → Prop) (ta : TE) : TE := fun σ H Q => ta σ H fun x H1 => r x H1 Q
/-- ints in, under C, and a value out -/
def rI (C : Int → Int → Prop) (g : Int → Int → V) : R2 := fun x y H Q => ∃ i j, x = .int i ∧ y = .int j ∧ C i j ∧ Q (g i j) H
def rI0 (g : Int → Int → V) : R2 := fun x y H Q => ∃ i j, x = .int i ∧ y = .int j ∧ Q (g i j) H
def rU (g : Int → V) : V → Hp → VK → Prop := fun x H Q => ∃ i, x = .int i ∧ Q (g i) H

section
variable {X : Cx} {a b c : Expr} {ta tb tc : TE} {pos : Pos}

theorem binT (ha : PE X a ta) (hb : PE X b tb) {pins : List (Addr × Obj)} {s : Shared} {σ : St} {H : Hp} {R : V → V → Hp → Prop} (I : Inv X pins σ H s)
    (h : ta σ H fun x H1 => tb σ H1 fun y H2 => R x y H2) {Q : Value → Shared → Prop} {f : Value → Value → Sem Value}
    (hf : ∀ v u s2 x y H2, Inv X pins σ H2 s2 → RelV x v → RelV y u → R x y H2 → wpAny (model X.prog X.w) X.A (f v u) Q X.xe s2) :
    wpAny (model X.prog X.w) X.A (eval a X.env) (fun v s₁ => wpAny (model X.prog X.w) X.A (eval b X.env) (fun u s₂ => wpAny (model X.prog X.w) X.A (f v u) Q X.xe s₂) X.xe s₁) X.xe s := by
  refine thn (ha pins s σ H _ I h) fun v s1 ⟨x, H1, I1, r1, q1⟩ => ?_
  refine thn (hb pins s1 σ H1 _ I1 q1) fun u s2 ⟨y, H2, I2, r2, q2⟩ => ?_
  exact hf v u s2 x y H2 I2 r1 r2 q2

theorem pe_op {op : Operator} {r : R2} (ho : OpR X (binaryOp op) r) (ha : PE X a ta) (hb : PE X b tb) : PE X (.BinOp a op b pos) (tOp r ta tb) := by
  intro pins s σ H Q I h
  exact wpAny_BinOp (binT ha hb I h fun v u s2 x y H2 I2 rx ry q => ho pins s2 σ H2 x y v u Q I2 rx ry q)
theorem pe_un {op : UnaryOp} {r : V → Hp → VK → Prop} (ho : UnR X (unaryOp op) r) (ha : PE X a ta) : PE X (.UnaryOp op a pos) (tUn r ta) := by
  intro pins s σ H Q I h
  exact UnaryOp_ (thn (ha pins s σ H _ I h) fun v s1 ⟨x, H1, I1, r1, q1⟩ => ho pins s1 σ H1 x v Q I1 r1 q1)
/-- a op= e at a name: the name's slot i -/
theorem augR {op : Operator} {r : R2} (ho : OpR X (inplaceOp op) r) {pins : List (Addr × Obj)} {s : Shared} {σ : St} {H : Hp} {x y : V} {v u : Value} {Q : VK} (I : Inv X pins σ H s)
    (rx : RelV x v) (ry : RelV y u) (q : r x y H Q) : wpAny (model X.prog X.w) X.A (inplaceOp op v u) (EP X pins σ Q) X.xe s := ho pins s σ H x y v u Q I rx ry q

/-! ### ints -/
theorem opI {f : Value → Value → Sem Value} {C : Int → Int → Prop} {g : Int → Int → Int}
    (rule : ∀ (i j : Int) (t u : Tok) (s : Shared) (Q : Value → Shared → Prop) (E : Value → Shared → Prop), C i j → Q (.int (g i j) s.toks) { s with toks := s.toks + 1 } → wpAny (model X.prog X.w) X.A (f (.int i t) (.int j u)) Q E s) :
    OpR X f (rI C fun i j => .int (g i j)) := by
  intro pins s σ H x y v u Q I rx ry h
  obtain ⟨i, j, rfl, rfl, hc, q⟩ := h
  obtain ⟨t, rfl⟩ := rx
  obtain ⟨t', rfl⟩ := ry
  exact rule i j t t' s _ _ hc ⟨.int (g i j), H, I.tok _, ⟨_, rfl⟩, q⟩
theorem opI0 {f : Value → Value → Sem Value} {g : Int → Int → Int}
    (rule : ∀ (i j : Int) (t u : Tok) (s : Shared) (Q : Value → Shared → Prop) (E : Value → Shared → Prop), Q (.int (g i j) s.toks) { s with toks := s.toks + 1 } → wpAny (model X.prog X.w) X.A (f (.int i t) (.int j u)) Q E s) :
    OpR X f (rI0 fun i j => .int (g i j)) := by
  intro pins s σ H x y v u Q I rx ry h
  obtain ⟨i, j, rfl, rfl, q⟩ := h
  obtain ⟨t, rfl⟩ := rx
  obtain ⟨t', rfl⟩ := ry
  exact rule i j t t' s _ _ ⟨.int (g i j), H, I.tok _, ⟨_, rfl⟩, q⟩
theorem opB0 {f : Value → Value → Sem Value} {g : Int → Int → Bool}
    (rule : ∀ (i j : Int) (t u : Tok) (s : Shared) (Q : Value → Shared → Prop) (E : Value → Shared → Prop), Q (.bool (g i j)) s → wpAny (model X.prog X.w) X.A (f (.int i t) (.int j u)) Q E s) :
    OpR X f (rI0 fun i j => .bl (g i j)) := by
  intro pins s σ H x y v u Q I rx ry h
  obtain ⟨i, j, rfl, rfl, q⟩ := h
  obtain ⟨t, rfl⟩ := rx
  obtain ⟨t', rfl⟩ := ry
  exact rule i j t t' s _ _ ⟨.bl (g i j), H, I, rfl, q⟩

def CDiv (i j : Int) : Prop := 0 < j ∧ j < 1073741824
def CDivN (i j : Int) : Prop := j ≠ 0 ∧ j.natAbs < 1073741824
def CPow (i j : Int) : Prop := 0 ≤ j ∧ j ≤ 1000000 ∧ i.natAbs < 2 ^ 64
def CMul (i j : Int) : Prop := (-(2 ^ 64) < i ∧ i < 2 ^ 64) ∨ (-(2 ^ 64) < j ∧ j < 2 ^ 64)
theorem CMul.ok {i j : Int} (h : CMul i j) : IntMulOk i j := by
  rcases h with ⟨h1, h2⟩ | ⟨h1, h2⟩
  · exact .of_left (intBits_le_64 h1 h2)
  · exact .of_right (intBits_le_64 h1 h2)
theorem two_pow_nn (k : Nat) : (0 : Int) ≤ 2 ^ k := by
  rw [two_pow_cast]
  exact Int.natCast_nonneg _

theorem op_add : OpR X (binaryOp .Add) (rI0 fun i j => .int (i + j)) := opI0 fun _ _ _ _ _ _ _ q => add_int q
theorem op_sub : OpR X (binaryOp .Sub) (rI0 fun i j => .int (i - j)) := opI0 fun _ _ _ _ _ _ _ q => sub_int q
theorem op_mul : OpR X (binaryOp .Mult) (rI CMul fun i j => .int (i * j)) := opI fun _ _ _ _ _ _ _ hc q => mul_int q hc.ok
/-- // by a positive divisor -/
theorem op_fdiv : OpR X (binaryOp .FloorDiv) (rI CDiv fun i j => .int (i / j)) := opI fun i j _ _ _ _ _ hc q => by
  have h1 : (0 : Int) < j := hc.1
  have h2 : j < 1073741824 := hc.2
  exact floordiv_int (by omega) (by rw [Int.fdiv_eq_ediv_of_nonneg i (by omega)]; exact q) (.inl (PyProof.noPylong_small (by omega)))
theorem op_fdivN : OpR X (binaryOp .FloorDiv) (rI CDivN fun i j => .int (i.fdiv j)) := opI fun _ _ _ _ _ _ _ hc q => floordiv_int hc.1 q (.inl (PyProof.noPylong_small hc.2))
/-- % by a positive divisor of any size -/
theorem op_mod : OpR X (binaryOp .Mod) (rI (fun _ j => 0 < j) fun i j => .int (i % j)) := opI fun i j _ _ _ _ _ hc q => by
  have h1 : (0 : Int) < j := hc
  exact mod_int' (by omega) (by rw [Int.fmod_eq_emod_of_nonneg i (by omega)]; exact q)
theorem op_modN : OpR X (binaryOp .Mod) (rI (fun _ j => j ≠ 0) fun i j => .int (i.fmod j)) := opI fun _ _ _ _ _ _ _ hc q => mod_int' hc q
theorem op_pow : OpR X (binaryOp .Pow) (rI CPow fun i j => .int (i ^ j.toNat)) := opI fun _ _ _ _ _ _ _ hc q => pow_int_small hc.1 hc.2.1 hc.2.2 q
theorem op_shl : OpR X (binaryOp .LShift) (rI CPow fun i j => .int (i * 2 ^ j.toNat)) := opI fun _ _ _ _ _ _ _ hc q => lshift_int_small hc.1 hc.2.1 hc.2.2 q
theorem op_shr : OpR X (binaryOp .RShift) (rI (fun _ j => 0 ≤ j) fun i j => .int (i / 2 ^ j.toNat)) := opI fun i j _ _ _ _ _ hc q =>
  rshift_int hc (by rw [Int.fdiv_eq_ediv_of_nonneg i (two_pow_nn _)]; exact q)
theorem op_and : OpR X (binaryOp .BitAnd) (rI0 fun i j => .int (Builtin.bitAnd i j)) := opI0 fun _ _ _ _ _ _ _ q => and_int q
theorem op_or : OpR X (binaryOp .BitOr) (rI0 fun i j => .int (Builtin.bitOr i j)) := opI0 fun _ _ _ _ _ _ _ q => or_int q
theorem op_xor : OpR X (binaryOp .BitXor) (rI0 fun i j => .int (Builtin.bitXor i j)) := opI0 fun _ _ _ _ _ _ _ q => xor_int q

theorem iop_add : OpR X (inplaceOp .Add) (rI0 fun i j => .int (i + j)) := opI0 fun _ _ _ _ _ _ _ q => iadd_int q
theorem iop_sub : OpR X (inplaceOp .Sub) (rI0 fun i j => .int (i - j)) := opI0 fun _ _ _ _ _ _ _ q => isub_int q
theorem iop_mul : OpR X (inplaceOp .Mult) (rI CMul fun i j => .int (i * j)) := opI fun _ _ _ _ _ _ _ hc q => imul_int q hc.ok
theorem iop_fdiv : OpR X (inplaceOp .FloorDiv) (rI CDiv fun i j => .int (i / j)) := opI fun i j _ _ _ _ _ hc q => by
  have h1 : (0 : Int) < j := hc.1
  have h2 : j < 1073741824 := hc.2
  exact ifloordiv_int (by omega) (by rw [Int.fdiv_eq_ediv_of_nonneg i (by omega)]; exact q) (.inl (PyProof.noPylong_small (by omega)))
theorem iop_mod : OpR X (inplaceOp .Mod) (rI (fun _ j => 0 < j) fun i j => .int (i % j)) := opI fun i j _ _ _ _ _ hc q => by
  have h1 : (0 : Int) < j := hc
  exact imod_int (by omega) (by rw [Int.fmod_eq_emod_of_nonneg i (by omega)]; exact q)
theorem iop_shl : OpR X (inplaceOp .LShift) (rI CPow fun i j => .int (i * 2 ^ j.toNat)) := opI fun _ _ _ _ _ _ _ hc q => ilshift_int_small hc.1 hc.2.1 hc.2.2 q
theorem iop_shr : OpR X (inplaceOp .RShift) (rI (fun _ j => 0 ≤ j) fun i j => .int (i / 2 ^ j.toNat)) := opI fun i j _ _ _ _ _ hc q =>
  irshift_int hc (by rw [Int.fdiv_eq_ediv_of_nonneg i (two_pow_nn _)]; exact q)
theorem iop_and : OpR X (inplaceOp .BitAnd) (rI0 fun i j => .int (Builtin.bitAnd i j)) := opI0 fun _ _ _ _ _ _ _ q => iand_int q
theorem iop_or : OpR X (inplaceOp .BitOr) (rI0 fun i j => .int (Builtin.bitOr i j)) := opI0 fun _ _ _ _ _ _ _ q => ior_int q
theorem iop_xor : OpR X (inplaceOp .BitXor) (rI0 fun i j => .int (Builtin.bitXor i j)) := opI0 fun _ _ _ _ _ _ _ q => ixor_int q

theorem unI {f : Value → Sem Value} {g : Int → Int}
    (rule : ∀ (i : Int) (t : Tok) (s : Shared) (Q : Value → Shared → Prop) (E : Value → Shared → Prop), Q (.int (g i) s.toks) { s with toks := s.toks + 1 } → wpAny (model X.prog X.w) X.A (f (.int i t)) Q E s) :
    UnR X f (rU fun i => .int (g i)) := by
  intro pins s σ H x v Q I rx h
  obtain ⟨i, rfl, q⟩ := h
  obtain ⟨t, rfl⟩ := rx
  exact rule i t s _ _ ⟨.int (g i), H, I.tok _, ⟨_, rfl⟩, q⟩
theorem un_neg : UnR X (unaryOp .USub) (rU fun i => .int (-i)) := unI fun _ _ _ _ _ q => neg_int q
theorem un_inv : UnR X (unaryOp .Invert) (rU fun i => .int (Builtin.bitNot i)) := unI fun _ _ _ _ _ q => invert_int q

/-! ### bools among ints: n += (a < b) -/
theorem op_add_ib : OpR X (binaryOp .Add) (fun x y H Q => ∃ i k, x = .int i ∧ y = .bl k ∧ Q (.int (i + b2i k)) H) := by
  intro pins s σ H x y v u Q I rx ry h
  obtain ⟨i, k, rfl, rfl, q⟩ := h
  obtain ⟨t, rfl⟩ := rx
  cases ry
  exact add_int_bool ⟨.int (i + b2i k), H, I.tok _, ⟨_, rfl⟩, q⟩
end

/-! ### comparisons -/
/-- the scalars that == tells apart as data does -/
def scal : V → V → Bool
  | .non, .non => true | .non, .int _ => true | .int _, .non => true | .non, .bl _ => true | .bl _, .non => true | .non, .str _ => true | .str _, .non => true
  | .int _, .int _ => true | .bl _, .bl _ => true | .str _, .str _ => true | .byt _, .byt _ => true
  | .int _, .str _ => true | .str _, .int _ => true | .bl _, .str _ => true | .str _, .bl _ => true
  | _, _ => false
def rEq : R2 := fun x y H Q => scal x y = true ∧ Q (.bl (decide (x = y))) H
def rNe : R2 := fun x y H Q => scal x y = true ∧ Q (.bl (!decide (x = y))) H

theorem dec_int {i j : Int} : decide (V.int i = V.int j) = (i == j) := by
  rw [Bool.eq_iff_iff]
  simp
theorem dec_bl {i j : Bool} : decide (V.bl i = V.bl j) = (i == j) := by
  rw [Bool.eq_iff_iff]
  simp
theorem dec_str {i j : Str} : decide (V.str i = V.str j) = (i == j) := by
  rw [Bool.eq_iff_iff]
  simp
theorem dec_byt {i j : Array UInt8} : decide (V.byt i = V.byt j) = (i.toList == j.toList) := by
  rw [Bool.eq_iff_iff]
  cases i
  cases j
  simp

section
variable {X : Cx} {a b c : Expr} {ta tb tc : TE} {pos : Pos}
theorem fin_bl {pins : List (Addr × Obj)} {σ : St} {H : Hp} {s : Shared} {Q : VK} {k k' : Bool} (I : Inv X pins σ H s) (q : Q (.bl k) H) (e : k = k') : EP X pins σ Q (.bool k') s := by
  subst e
  exact ⟨.bl k, H, I, rfl, q⟩
theorem op_eq : OpR X (compareOp .Eq) rEq := by
  intro pins s σ H x y v u Q I rx ry h
  obtain ⟨hs, q⟩ := h
  cases x with
  | non =>
    cases rx
    cases y with
    | non => cases ry; exact PySem.EqNone.eq_none_none (fin_bl I q (by simp))
    | bl j => cases ry; exact PySem.EqNone.eq_none_bool (fin_bl I q (by simp))
    | int j => obtain ⟨t', rfl⟩ := ry; exact PySem.EqNone.eq_none_int (fin_bl I q (by simp))
    | str j => obtain ⟨t', rfl⟩ := ry; exact PySem.EqNone.eq_none_str (fin_bl I q (by simp))
    | _ => exact absurd (show false = true from hs) Bool.false_ne_true
  | bl i =>
    cases rx
    cases y with
    | non => cases ry; exact PySem.EqNone.eq_bool_none (fin_bl I q (by simp))
    | bl j => cases ry; exact eq_bool (fin_bl I q dec_bl)
    | str j => obtain ⟨t', rfl⟩ := ry; exact PySem.EqMixed.eq_bool_str (fin_bl I q (by simp))
    | _ => exact absurd (show false = true from hs) Bool.false_ne_true
  | int i =>
    obtain ⟨t, rfl⟩ := rx
    cases y with
    | non => cases ry; exact PySem.EqNone.eq_int_none (fin_bl I q (by simp))
    | int j => obtain ⟨t', rfl⟩ := ry; exact eq_int (fin_bl I q dec_int)
    | str j => obtain ⟨t', rfl⟩ := ry; exact PySem.EqMixed.eq_int_str (fin_bl I q (by simp))
    | _ => exact absurd (show false = true from hs) Bool.false_ne_true
  | str i =>
    obtain ⟨t, rfl⟩ := rx
    cases y with
    | non => cases ry; exact PySem.EqNone.eq_str_none (fin_bl I q (by simp))
    | bl j => cases ry; exact PySem.EqMixed.eq_str_bool (fin_bl I q (by simp))
    | int j => obtain ⟨t', rfl⟩ := ry; exact PySem.EqMixed.eq_str_int (fin_bl I q (by simp))
    | str j => obtain ⟨t', rfl⟩ := ry; exact eq_str (fin_bl I q dec_str)
    | _ => exact absurd (show false = true from hs) Bool.false_ne_true
  | byt i =>
    obtain ⟨t, rfl⟩ := rx
    cases y with
    | byt j => obtain ⟨t', rfl⟩ := ry; exact PySem.W.eq_bytes (fin_bl I q dec_byt)
    | _ => exact absurd (show false = true from hs) Bool.false_ne_true
  | _ => cases y <;> exact absurd (show false = true from hs) Bool.false_ne_true
theorem op_ne : OpR X (compareOp .NotEq) rNe := by
  intro pins s σ H x y v u Q I rx ry h
  obtain ⟨hs, q⟩ := h
  cases x with
  | non =>
    cases rx
    cases y with
    | non => cases ry; exact PySem.EqNone.ne_none_none (fin_bl I q (by simp))
    | bl j => cases ry; exact PySem.EqNone.ne_none_bool (fin_bl I q (by simp))
    | int j => obtain ⟨t', rfl⟩ := ry; exact PySem.EqNone.ne_none_int (fin_bl I q (by simp))
    | str j => obtain ⟨t', rfl⟩ := ry; exact PySem.EqNone.ne_none_str (fin_bl I q (by simp))
    | _ => exact absurd (show false = true from hs) Bool.false_ne_true
  | bl i =>
    cases rx
    cases y with
    | non => cases ry; exact PySem.EqNone.ne_bool_none (fin_bl I q (by simp))
    | bl j => cases ry; exact ne_bool (fin_bl I q (congrArg not dec_bl))
    | str j => obtain ⟨t', rfl⟩ := ry; exact PySem.EqMixed.ne_bool_str (fin_bl I q (by simp))
    | _ => exact absurd (show false = true from hs) Bool.false_ne_true
  | int i =>
    obtain ⟨t, rfl⟩ := rx
    cases y with
    | non => cases ry; exact PySem.EqNone.ne_int_none (fin_bl I q (by simp))
    | int j => obtain ⟨t', rfl⟩ := ry; exact ne_int (fin_bl I q (congrArg not dec_int))
    | str j => obtain ⟨t', rfl⟩ := ry; exact PySem.EqMixed.ne_int_str (fin_bl I q (by simp))
    | _ => exact absurd (show false = true from hs) Bool.false_ne_true
  | str i =>
    obtain ⟨t, rfl⟩ := rx
    cases y with
    | non => cases ry; exact PySem.EqNone.ne_str_none (fin_bl I q (by simp))
    | bl j => cases ry; exact PySem.EqMixed.ne_str_bool (fin_bl I q (by simp))
    | int j => obtain ⟨t', rfl⟩ := ry; exact PySem.EqMixed.ne_str_int (fin_bl I q (by simp))
    | str j => obtain ⟨t', rfl⟩ := ry; exact ne_str (fin_bl I q (congrArg not dec_str))
    | _ => exact absurd (show false = true from hs) Bool.false_ne_true
  | byt i =>
    obtain ⟨t, rfl⟩ := rx
    cases y with
    | byt j => obtain ⟨t', rfl⟩ := ry; exact PySem.W.ne_bytes (fin_bl I q (congrArg not dec_byt))
    | _ => exact absurd (show false = true from hs) Bool.false_ne_true
  | _ => cases y <;> exact absurd (show false = true from hs) Bool.false_ne_true

theorem op_lt : OpR X (compareOp .Lt) (rI0 fun i j => .bl (decide (i < j))) := opB0 fun _ _ _ _ _ _ _ q => lt_int q
theorem op_le : OpR X (compareOp .LtE) (rI0 fun i j => .bl (decide (i ≤ j))) := opB0 fun _ _ _ _ _ _ _ q => le_int q
theorem op_gt : OpR X (compareOp .Gt) (rI0 fun i j => .bl (decide (j < i))) := opB0 fun _ _ _ _ _ _ _ q => gt_int q
theorem op_ge : OpR X (compareOp .GtE) (rI0 fun i j => .bl (decide (j ≤ i))) := opB0 fun _ _ _ _ _ _ _ q => ge_int q
theorem op_lt_str : OpR X (compareOp .Lt) (fun x y H Q => ∃ i j, x = .str i ∧ y = .str j ∧ Q (.bl (decide (i.cps.toList < j.cps.toList))) H) := by
  intro pins s σ H x y v u Q I rx ry h
  obtain ⟨i, j, rfl, rfl, q⟩ := h
  obtain ⟨t, rfl⟩ := rx
  obtain ⟨t', rfl⟩ := ry
  exact lt_str (fin_bl I q rfl)
/-- the one string within the other -/
theorem op_in_str : OpR X (compareOp .In) (fun x y H Q => ∃ i j, x = .str i ∧ y = .str j ∧ Q (.bl (!(Builtin.Str.occurrences j i 0 j.length 1).isEmpty)) H) := by
  intro pins s σ H x y v u Q I rx ry h
  obtain ⟨i, j, rfl, rfl, q⟩ := h
  obtain ⟨t, rfl⟩ := rx
  obtain ⟨t', rfl⟩ := ry
  exact in_str (fin_bl I q rfl)

/-- is None, is not None: the right side a value none -/
theorem op_isN : OpR X (compareOp .Is) (fun x y H Q => y = .non ∧ Q (.bl (decide (x = .non))) H) := by
  intro pins s σ H x y v u Q I rx ry h
  obtain ⟨rfl, q⟩ := h
  cases ry
  refine is_none_gen (fin_bl I q ?_)
  cases x <;> first
    | (cases rx; rfl)
    | (obtain ⟨t, rfl⟩ := rx; rfl)
theorem op_notN : OpR X (compareOp .IsNot) (fun x y H Q => y = .non ∧ Q (.bl (!decide (x = .non))) H) := by
  intro pins s σ H x y v u Q I rx ry h
  obtain ⟨rfl, q⟩ := h
  cases ry
  refine isnot_none_gen (fin_bl I q ?_)
  cases x <;> first
    | (cases rx; rfl)
    | (obtain ⟨t, rfl⟩ := rx; rfl)

theorem op_notin_str : OpR X (compareOp .NotIn) (fun x y H Q => ∃ i j, x = .str i ∧ y = .str j ∧ Q (.bl (!(!(Builtin.Str.occurrences j i 0 j.length 1).isEmpty))) H) := by
  intro pins s σ H x y v u Q I rx ry h
  obtain ⟨i, j, rfl, rfl, q⟩ := h
  obtain ⟨t, rfl⟩ := rx
  obtain ⟨t', rfl⟩ := ry
  exact notIn_str (fin_bl I q rfl)
/-- is, is not of two objects that are tracked lists or instances -/
def isObj : HO → Bool
  | .lst _ => true
  | .ins _ _ _ => true
  | _ => false
theorem obj_there {pins : List (Addr × Obj)} {s : Shared} {σ : St} {H : Hp} {a : Addr} {o : HO} (I : Inv X pins σ H s) (h : H a = some o) (p : isObj o = true) : ∃ ob, s.heap.get? a = some ob ∧ ob.cls ≠ .type "tuple" := by
  cases o with
  | lst xs =>
    obtain ⟨_, its, n, _, e⟩ : xs.length ≤ sizeLine ∧ ∃ (its : List Value) (n : Nat), Vals xs its ∧ s.heap.get? a = some { cls := .type "list", data := .seq its.toArray n } := I.hok a _ h
    exact ⟨_, e, (by show Value.type "list" ≠ .type "tuple"; decide +kernel)⟩
  | ins C dx fs =>
    have x := I.hok a _ h
    obtain ⟨_, _, _, e, _⟩ := x
    exact ⟨_, e, (by show Value.ref C ≠ .type "tuple"; exact fun z => by cases z)⟩
  | _ => exact absurd (show false = true from p) Bool.false_ne_true
theorem op_is_ref : OpR X (compareOp .Is) (fun x y H Q => ∃ a b oa ob, x = .ref a ∧ y = .ref b ∧ H a = some oa ∧ isObj oa = true ∧ H b = some ob ∧ isObj ob = true ∧ Q (.bl (decide (a = b))) H) := by
  intro pins s σ H x y v u Q I rx ry h
  obtain ⟨a, b, oa, ob, rfl, rfl, ha, pa, hb, pb, q⟩ := h
  cases rx
  cases ry
  obtain ⟨o1, e1, n1⟩ := obj_there I ha pa
  obtain ⟨o2, e2, _⟩ := obj_there I hb pb
  by_cases z : a = b
  · subst z
    exact wpAny_is_ref_self (fin_bl I q (by simp))
  · exact wpAny_is_ref_other z e1 e2 n1 (fin_bl I q (by simp [z]))
theorem op_isnot_ref : OpR X (compareOp .IsNot) (fun x y H Q => ∃ a b oa ob, x = .ref a ∧ y = .ref b ∧ H a = some oa ∧ isObj oa = true ∧ H b = some ob ∧ isObj ob = true ∧ Q (.bl (!decide (a = b))) H) := by
  intro pins s σ H x y v u Q I rx ry h
  obtain ⟨a, b, oa, ob, rfl, rfl, ha, pa, hb, pb, q⟩ := h
  cases rx
  cases ry
  obtain ⟨o1, e1, n1⟩ := obj_there I ha pa
  obtain ⟨o2, e2, _⟩ := obj_there I hb pb
  by_cases z : a = b
  · subst z
    exact wpAny_isNot_ref_self (fin_bl I q (by simp))
  · exact wpAny_isNot_ref_other z e1 e2 n1 (fin_bl I q (by simp [z]))

/-- two rules for one operation: by cases -/
theorem OpR.or {f : Value → Value → Sem Value} {r r' : R2} (h : OpR X f r) (h' : OpR X f r') : OpR X f (fun x y H Q => r x y H Q ∨ r' x y H Q) := by
  intro pins s σ H x y v u Q I rx ry q
  rcases q with q | q
  · exact h pins s σ H x y v u Q I rx ry q
  · exact h' pins s σ H x y v u Q I rx ry q

theorem nomark (b : Expr) {op : CmpOp} (h : op ≠ .In := by decide) (h2 : op ≠ .NotIn := by decide) : behindInMarks op b = false := by
  have e1 : (op == CmpOp.In) = false := by cases op <;> first | rfl | exact absurd rfl h
  have e2 : (op == CmpOp.NotIn) = false := by cases op <;> first | rfl | exact absurd rfl h2
  cases b <;> simp [behindInMarks, e1, e2]
/-- a comparison as a value; hm: nomark b, or (for in, not in) by with_unfolding_all rfl -/
theorem pe_cmpR {op : CmpOp} {r : R2} (ho : OpR X (compareOp op) r) (ha : PE X a ta) (hb : PE X b tb) (hm : behindInMarks op b = false) : PE X (.Compare a [op] [b] pos) (tOp r ta tb) := by
  intro pins s σ H Q I h
  exact wpAny_Compare1 (binT ha hb I h fun v u s2 x y H2 I2 rx ry q => ho pins s2 σ H2 x y v u Q I2 rx ry q) hm
/-- a reading of a value as a test -/
def tTest (t : TE) : TT := fun σ H Q => t σ H fun x H' => ∃ k, x = .bl k ∧ Q k H'
theorem pt_cmpR {op : CmpOp} {r : R2} (ho : OpR X (compareOp op) r) (ha : PE X a ta) (hb : PE X b tb) (hm : behindInMarks op b = false) : PT X (.Compare a [op] [b] pos) (tTest (tOp r ta tb)) := by
  intro pins s σ H Q I h
  refine wpAny_isTrue_Compare1 (thn (ha pins s σ H _ I h) fun v s1 ⟨x, H1, I1, r1, q1⟩ => thn (hb pins s1 σ H1 _ I1 q1) fun u s2 ⟨y, H2, I2, r2, q2⟩ =>
    thn (ho pins s2 σ H2 x y v u _ I2 r1 r2 q2) fun c s3 ⟨z, H3, I3, r3, k, e, q3⟩ => ?_) hm
  subst e
  cases r3
  exact wpAny_truthy_bool ⟨H3, I3, q3⟩
/-- a op1 b op2 c -/
def tChain (r r' : R2) (ta tb tc : TE) : TE := fun σ H Q => ta σ H fun x H1 => tb σ H1 fun y H2 => r x y H2 fun z H3 => ∃ k, z = .bl k ∧
  (if k = true then tc σ H3 fun w' H4 => r' y w' H4 Q else Q (.bl false) H3)
theorem pe_chain {op op' : CmpOp} {r r' : R2} (ho : OpR X (compareOp op) r) (ho' : OpR X (compareOp op') r') (ha : PE X a ta) (hb : PE X b tb) (hc : PE X c tc)
    (hm : lastMarks [op, op'] [b, c] = false := by with_unfolding_all rfl) : PE X (.Compare a [op, op'] [b, c] pos) (tChain r r' ta tb tc) := by
  intro pins s σ H Q I h
  refine Compare_chain (thn (ha pins s σ H _ I h) fun v s1 ⟨x, H1, I1, r1, q1⟩ => chain_link (thn (hb pins s1 σ H1 _ I1 q1) fun u s2 ⟨y, H2, I2, r2, q2⟩ =>
    thn (ho pins s2 σ H2 x y v u _ I2 r1 r2 q2) fun d s3 ⟨z, H3, I3, r3, k, e, q3⟩ => ?_)) hm
  subst e
  cases r3
  refine wpAny_truthy_bool ?_
  cases k with
  | false => exact ite_ff ⟨.bl false, H3, I3, rfl, q3⟩
  | true => exact ite_tt (chain_last (thn (hc pins s3 σ H3 _ I3 q3) fun w' s4 ⟨z', H4, I4, r4, q4⟩ => ho' pins s4 σ H4 y z' u w' Q I4 r2 r4 q4))
theorem pt_chain {op op' : CmpOp} {r r' : R2} (ho : OpR X (compareOp op) r) (ho' : OpR X (compareOp op') r') (ha : PE X a ta) (hb : PE X b tb) (hc : PE X c tc)
    (hm : lastMarks [op, op'] [b, c] = false := by with_unfolding_all rfl) : PT X (.Compare a [op, op'] [b, c] pos) (tTest (tChain r r' ta tb tc)) := by
  intro pins s σ H Q I h
  refine isTrue_chain (thn (ha pins s σ H _ I h) fun v s1 ⟨x, H1, I1, r1, q1⟩ => test_link (thn (hb pins s1 σ H1 _ I1 q1) fun u s2 ⟨y, H2, I2, r2, q2⟩ =>
    thn (ho pins s2 σ H2 x y v u _ I2 r1 r2 q2) fun d s3 ⟨z, H3, I3, r3, k, e, q3⟩ => ?_)) hm
  subst e
  cases r3
  refine wpAny_truthy_bool ?_
  cases k with
  | false =>
    obtain ⟨k', e', q'⟩ := q3
    cases e'
    exact ite_ff ⟨H3, I3, q'⟩
  | true =>
    refine ite_tt (test_last (thn (hc pins s3 σ H3 _ I3 q3) fun w' s4 ⟨z', H4, I4, r4, q4⟩ => thn (ho' pins s4 σ H4 y z' u w' _ I4 r2 r4 q4) fun d' s5 ⟨z2, H5, I5, r5, k2, e2, q5⟩ => ?_))
    subst e2
    cases r5
    exact wpAny_truthy_bool ⟨H5, I5, q5⟩

/-! ### truth -/
/-- a value's truth by the abstract heap -/
def TruV (K : PySem.W.Frag) (x : V) (H : Hp) (k : Bool) : Prop :=
  match x with
  | .non => k = false
  | .bl b => k = b
  | .int i => k = (i != 0)
  | .str y => y.length ≤ sizeLine ∧ k = ((y.length : Int) != 0)
  | .byt y => y.size ≤ sizeLine ∧ k = ((y.size : Int) != 0)
  | .ref p => (∃ xs, SqL K H p xs ∧ k = !xs.isEmpty) ∨ (∃ xs, SqT K H p xs ∧ k = !xs.isEmpty) ∨ ∃ kvs, H p = some (.dK kvs) ∧ k = !kvs.isEmpty
  | _ => False
theorem isEmpty_kv {κ : Type} {kvs : List (κ × V)} {vs : List (κ × Value)} (r : KV kvs vs) : (!vs.isEmpty) = !kvs.isEmpty := by
  cases r <;> rfl
theorem isEmpty_of {xs : List V} {its : List Value} (r : Vals xs its) : (!its.toArray.isEmpty) = !xs.isEmpty := by
  cases r <;> simp
theorem line63 : (sizeLine : Nat) < 2 ^ 63 := by rw [sizeLine_eq]; decide
theorem tru_ok : TruR X (fun x H Q => ∃ k, TruV X.K x H k ∧ Q k H) := by
  intro pins s σ H x v Q I rx h
  obtain ⟨k, e, q⟩ := h
  have hl := line63
  have hs : sizeLine = 16777216 := sizeLine_eq
  cases x with
  | non =>
    cases rx
    have e' : k = false := e
    subst e'
    exact truthy_none ⟨H, I, q⟩
  | bl b =>
    cases rx
    have e' : k = b := e
    subst e'
    exact wpAny_truthy_bool ⟨H, I, q⟩
  | int i =>
    obtain ⟨t, rfl⟩ := rx
    have e' : k = (i != 0) := e
    subst e'
    exact PySem.P.truthy_int ⟨H, I, q⟩
  | str y =>
    obtain ⟨t, rfl⟩ := rx
    obtain ⟨hy, e'⟩ : y.length ≤ sizeLine ∧ k = ((y.length : Int) != 0) := e
    subst e'
    exact PySem.P.truthy_str (by omega) ⟨H, I.tok _, q⟩
  | byt y =>
    obtain ⟨t, rfl⟩ := rx
    obtain ⟨hy, e'⟩ : y.size ≤ sizeLine ∧ k = ((y.size : Int) != 0) := e
    subst e'
    exact PySem.W.truthy_bytes (by omega) ⟨H, I.tok _, q⟩
  | ref p =>
    cases rx
    have e' : (∃ xs, SqL X.K H p xs ∧ k = !xs.isEmpty) ∨ (∃ xs, SqT X.K H p xs ∧ k = !xs.isEmpty) ∨ ∃ kvs, H p = some (.dK kvs) ∧ k = !kvs.isEmpty := e
    rcases e' with ⟨xs, hx, e'⟩ | ⟨xs, hx, e'⟩ | ⟨kvs, hx, e'⟩
    · subst e'
      obtain ⟨its, r, pl, hz⟩ := I.list hx
      have hlen := r.length
      exact wpAny_truthy_list pl.isList (by simp only [List.size_toArray]; omega) ⟨H, I.tok _, by rw [isEmpty_of r]; exact q⟩
    · subst e'
      obtain ⟨its, r, pl, hz⟩ := I.tuple hx
      have hlen := r.length
      exact truthy_tuple pl (by simp only [List.size_toArray]; omega) ⟨H, I.tok _, by rw [isEmpty_of r]; exact q⟩
    · subst e'
      obtain ⟨hz, hS, vs, r, m⟩ : kvs.length ≤ sizeLine ∧ (p == sysModules) = false ∧ ∃ vs, KV kvs vs ∧ s.heap.DictOf (mixKind X.prog X.w) p vs := I.hok p _ hx
      have hlen : kvs.length = vs.length := Paired.length r
      exact wpAny_truthy_dict hS m (by omega) ⟨H, I.tok _, by rw [isEmpty_kv r]; exact q⟩
  | _ => exact (show False from e).elim
/-- any expression whose test is its value's truth (a name, a call, a subscript, a field ..: he by fun _ => rfl) -/
theorem pt_truth (ha : PE X a ta) (he : ∀ whole, isTrue a X.env whole = (do let v ← whole; standAt a.pos; holding [v] (truthy v))) :
    PT X a (fun σ H Q => ta σ H fun x H' => ∃ k, TruV X.K x H' k ∧ Q k H') := by
  intro pins s σ H Q I h
  exact isTrue_plain (thn (ha pins s σ H _ I h) fun v s1 ⟨x, H1, I1, r1, q1⟩ => tru_ok pins s1 σ H1 x v Q I1 r1 q1) (he _)

/-! ### strs and bytes -/
theorem pe_byt {x : List UInt8} {k : Nat} : PE X (.Constant (.bytes x) k pos) (fun _ H Q => Q (.byt x.toArray) H) := fun _ _ _ H _ I h => PySem.W.Constant_bytes ⟨.byt x.toArray, H, I.tok _, ⟨_, rfl⟩, h⟩
theorem op_add_str : OpR X (binaryOp .Add) (fun x y H Q => ∃ i j, x = .str i ∧ y = .str j ∧ i.length + j.length ≤ sizeLine ∧ Q (.str (i ++ j)) H) := by
  intro pins s σ H x y v u Q I rx ry h
  obtain ⟨i, j, rfl, rfl, hz, q⟩ := h
  obtain ⟨t, rfl⟩ := rx
  obtain ⟨t', rfl⟩ := ry
  exact add_str (fun t' tk => ⟨.str (i ++ j), H, I.tok _, ⟨_, rfl⟩, q⟩) hz
theorem iop_add_str : OpR X (inplaceOp .Add) (fun x y H Q => ∃ i j, x = .str i ∧ y = .str j ∧ i.length + j.length ≤ sizeLine ∧ Q (.str (i ++ j)) H) := by
  intro pins s σ H x y v u Q I rx ry h
  obtain ⟨i, j, rfl, rfl, hz, q⟩ := h
  obtain ⟨t, rfl⟩ := rx
  obtain ⟨t', rfl⟩ := ry
  exact iadd_str (fun t' tk => ⟨.str (i ++ j), H, I.tok _, ⟨_, rfl⟩, q⟩) hz
theorem op_add_byt : OpR X (binaryOp .Add) (fun x y H Q => ∃ i j, x = .byt i ∧ y = .byt j ∧ i.size + j.size ≤ 16777216 ∧ Q (.byt (i ++ j)) H) := by
  intro pins s σ H x y v u Q I rx ry h
  obtain ⟨i, j, rfl, rfl, hz, q⟩ := h
  obtain ⟨t, rfl⟩ := rx
  obtain ⟨t', rfl⟩ := ry
  exact PySem.W.KBy.add_bytes hz (fun t' tk => ⟨.byt (i ++ j), H, I.tok _, ⟨_, rfl⟩, q⟩)

def PlainIxT (b : Expr) : Prop := ∀ o i, subscripted b false o i = operate [o, i] (getItem o i)
/-- s[i], 0 ≤ i < len -/
theorem pe_item_str (ha : PE X a ta) (hb : PE X b tb) (hs : PlainIxT b) :
    PE X (.Subscript a b pos) (tOp (fun x y H Q => ∃ z i c, x = .str z ∧ y = .int i ∧ 0 ≤ i ∧ i < 2 ^ 63 ∧ i < z.length ∧ z.cps[i.toNat]? = some c ∧ Q (.str ⟨#[c]⟩) H) ta tb) := by
  intro pins s σ H Q I h
  refine Subscript_ (binT ha hb I h fun v u s2 x y H2 I2 rx ry q => ?_)
  obtain ⟨z, i, c, rfl, rfl, h0, h63, h1, hc, q⟩ := q
  obtain ⟨t, rfl⟩ := rx
  obtain ⟨t', rfl⟩ := ry
  have e : seqIndex? i z.length = some i.toNat := PySem.StrLaws.seqIndex_nonneg h0 h1
  exact tail_any (typeIs_str s2 z t) slot_str_getitem.lookup (getItem_str (c := c) (by
    have e1 : decide (i < -(2 ^ 63 : Int)) = false := decide_eq_false (by omega)
    have e2 : decide (i ≥ 2 ^ 63) = false := decide_eq_false (by omega)
    rw [e1, e2] <;> rfl) (by rw [e]; exact hc) ⟨.str ⟨#[c]⟩, H2, I2.tok _, ⟨_, rfl⟩, q⟩) (hs _ _)
/-- b[i], 0 ≤ i < len -/
theorem pe_item_byt (ha : PE X a ta) (hb : PE X b tb) (hs : PlainIxT b) :
    PE X (.Subscript a b pos) (tOp (fun x y H Q => ∃ (z : List UInt8) (i : Int), x = .byt z.toArray ∧ y = .int i ∧ z.length ≤ sizeLine ∧ 0 ≤ i ∧ i < z.length ∧ Q (.int ((z.getD i.toNat 0).toNat : Nat)) H) ta tb) := by
  intro pins s σ H Q I h
  refine Subscript_ (binT ha hb I h fun v u s2 x y H2 I2 rx ry q => ?_)
  obtain ⟨z, i, rfl, rfl, hz, h0, h1, q⟩ := q
  obtain ⟨t, rfl⟩ := rx
  obtain ⟨t', rfl⟩ := ry
  have hl : sizeLine = 16777216 := sizeLine_eq
  exact tail_any (PySem.W.typeIs_bytes s2 z.toArray t) PySem.W.FB.slot_bytes_getitem.lookup (PySem.W.getItem_bytes (by omega) h0 h1 ⟨.int ((z.getD i.toNat 0).toNat : Nat), H2, I2.tok _, ⟨_, rfl⟩, q⟩) (hs _ _)

/-! ### scalar builtins, by CallR -/
theorem vals1 {x : V} {us : List Value} (r : Vals [x] us) : ∃ u, us = [u] ∧ RelV x u := by
  cases r with
  | cons r1 r2 => cases r2; exact ⟨_, rfl, r1⟩
theorem vals2 {x y : V} {us : List Value} (r : Vals [x, y] us) : ∃ u w', us = [u, w'] ∧ RelV x u ∧ RelV y w' := by
  cases r with
  | cons r1 r2 =>
    cases r2 with
    | cons r3 r4 => cases r4; exact ⟨_, _, rfl, r1, r3⟩
theorem call_abs : CallR X (.builtin "abs") (fun xs H Q => ∃ i, xs = [.int i] ∧ Q (.int (if i < 0 then -i else i)) H) := by
  intro pins s σ H xs us Q I r h
  obtain ⟨i, rfl, q⟩ := h
  obtain ⟨u, rfl, t, rfl⟩ := vals1 r
  exact call_abs_int fun u tk => ⟨.int (if i < 0 then -i else i), H, I.tok _, ⟨_, rfl⟩, q⟩
theorem call_max2 (hc : X.calm = true) : CallR X (.builtin "max") (fun xs H Q => ∃ i j, xs = [.int i, .int j] ∧ Q (.int (if j > i then j else i)) H) := by
  intro pins s σ H xs us Q I r h
  obtain ⟨i, j, rfl, q⟩ := h
  obtain ⟨u, w', rfl, ⟨t, rfl⟩, ⟨t', rfl⟩⟩ := vals2 r
  refine max_two_ints (I.ok.hd hc) fun h' tk k => ⟨_, H, I.kept k, ?_, q⟩
  by_cases hj : j > i
  · rw [if_pos hj, if_pos hj]; exact ⟨_, rfl⟩
  · rw [if_neg hj, if_neg hj]; exact ⟨_, rfl⟩
theorem call_min2 (hc : X.calm = true) : CallR X (.builtin "min") (fun xs H Q => ∃ i j, xs = [.int i, .int j] ∧ Q (.int (if j < i then j else i)) H) := by
  intro pins s σ H xs us Q I r h
  obtain ⟨i, j, rfl, q⟩ := h
  obtain ⟨u, w', rfl, ⟨t, rfl⟩, ⟨t', rfl⟩⟩ := vals2 r
  refine min_two_ints (I.ok.hd hc) fun h' tk k => ⟨_, H, I.kept k, ?_, q⟩
  by_cases hj : j < i
  · rw [if_pos hj, if_pos hj]; exact ⟨_, rfl⟩
  · rw [if_neg hj, if_neg hj]; exact ⟨_, rfl⟩
theorem call_int1 : CallR X (.type "int") (fun xs H Q => (∃ i, xs = [.int i] ∧ Q (.int i) H) ∨ ∃ k, xs = [.bl k] ∧ Q (.int (if k then 1 else 0)) H) := by
  intro pins s σ H xs us Q I r h
  rcases h with ⟨i, rfl, q⟩ | ⟨k, rfl, q⟩
  · obtain ⟨u, rfl, t, rfl⟩ := vals1 r
    exact call_int_int ⟨.int i, H, I, ⟨_, rfl⟩, q⟩
  · obtain ⟨u, rfl, r1⟩ := vals1 r
    cases r1
    exact call_int_bool ⟨.int (if k then 1 else 0), H, I.tok _, ⟨_, rfl⟩, q⟩
theorem call_bool1 : CallR X (.type "bool") (fun xs H Q => (∃ i, xs = [.int i] ∧ Q (.bl (i != 0)) H) ∨ ∃ k, xs = [.bl k] ∧ Q (.bl k) H) := by
  intro pins s σ H xs us Q I r h
  rcases h with ⟨i, rfl, q⟩ | ⟨k, rfl, q⟩
  · obtain ⟨u, rfl, t, rfl⟩ := vals1 r
    exact call_bool_int ⟨.bl (i != 0), H, I, rfl, q⟩
  · obtain ⟨u, rfl, r1⟩ := vals1 r
    cases r1
    exact call_bool_bool ⟨.bl k, H, I, rfl, q⟩
theorem call_str_int : CallR X (.type "str") (fun xs H Q => ∃ i, xs = [.int i] ∧ i.natAbs.log2 < 1920 ∧ Q (.str (toString i)) H) := by
  intro pins s σ H xs us Q I r h
  obtain ⟨i, rfl, hz, q⟩ := h
  obtain ⟨u, rfl, t, rfl⟩ := vals1 r
  exact PySem.P.str_of_int hz ⟨.str _, H, I.tok _, ⟨_, rfl⟩, q⟩
theorem call_ord : CallR X (.builtin "ord") (fun xs H Q => ∃ x, xs = [.str x] ∧ x.length = 1 ∧ Q (.int (x.cps.getD 0 0 : Nat)) H) := by
  intro pins s σ H xs us Q I r h
  obtain ⟨x, rfl, hz, q⟩ := h
  obtain ⟨u, rfl, t, rfl⟩ := vals1 r
  exact ord_of_one hz ⟨.int _, H, I.tok _, ⟨_, rfl⟩, q⟩
theorem call_chr : CallR X (.builtin "chr") (fun xs H Q => ∃ i, xs = [.int i] ∧ 0 ≤ i ∧ i ≤ 1114111 ∧ Q (.str ⟨#[i.toNat]⟩) H) := by
  intro pins s σ H xs us Q I r h
  obtain ⟨i, rfl, h0, h1, q⟩ := h
  obtain ⟨u, rfl, t, rfl⟩ := vals1 r
  exact chr_of_range h0 h1 ⟨.str _, H, I.tok _, ⟨_, rfl⟩, q⟩
/-- len of a str, a bytes, a list, a tuple -/
def LenV (K : PySem.W.Frag) (x : V) (H : Hp) (n : Nat) : Prop :=
  match x with
  | .str y => y.length ≤ sizeLine ∧ n = y.length
  | .byt y => y.size ≤ sizeLine ∧ n = y.size
  | .ref p => (∃ xs, SqL K H p xs ∧ n = xs.length) ∨ ∃ xs, SqT K H p xs ∧ n = xs.length
  | _ => False
theorem call_len : CallR X (.builtin "len") (fun xs H Q => ∃ x n, xs = [x] ∧ LenV X.K x H n ∧ Q (.int n) H) := by
  intro pins s σ H xs us Q I r h
  obtain ⟨x, n, rfl, e, q⟩ := h
  obtain ⟨u, rfl, rx⟩ := vals1 r
  have hl := line63
  have hs : sizeLine = 16777216 := sizeLine_eq
  cases x with
  | str y =>
    obtain ⟨t, rfl⟩ := rx
    obtain ⟨hy, e'⟩ : y.length ≤ sizeLine ∧ n = y.length := e
    subst e'
    exact len_str (by omega) ⟨.int _, H, I.tok _, ⟨_, rfl⟩, q⟩
  | byt y =>
    obtain ⟨t, rfl⟩ := rx
    obtain ⟨hy, e'⟩ : y.size ≤ sizeLine ∧ n = y.size := e
    subst e'
    exact PySem.W.len_bytes (by omega) ⟨.int _, H, I.tok _, ⟨_, rfl⟩, q⟩
  | ref p =>
    cases rx
    have e' : (∃ xs, SqL X.K H p xs ∧ n = xs.length) ∨ ∃ xs, SqT X.K H p xs ∧ n = xs.length := e
    rcases e' with ⟨xs, hx, e'⟩ | ⟨xs, hx, e'⟩
    · subst e'
      obtain ⟨its, r', pl, hz⟩ := I.list hx
      have hlen := r'.length
      exact Calls.call_len_list pl.isList (by simp only [List.size_toArray]; omega) ⟨.int xs.length, H, I.tok _, ⟨_, by simp only [List.size_toArray]; rw [hlen]⟩, q⟩
    · subst e'
      obtain ⟨its, r', pl, hz⟩ := I.tuple hx
      have hlen := r'.length
      exact len_tuple pl (by simp only [List.size_toArray]; omega) ⟨.int xs.length, H, I.tok _, ⟨_, by simp only [List.size_toArray]; rw [hlen]⟩, q⟩
  | _ => exact (show False from e).elim
/-- divmod: a new tuple -/
theorem call_divmod : CallR X (.builtin "divmod") (fun xs H Q => ∃ i j, xs = [.int i, .int j] ∧ CDiv i j ∧ ∀ p, H p = none → Q (.ref p) (upd H p (.tup [.int (i / j), .int (i % j)]))) := by
  intro pins s σ H xs us Q I r h
  obtain ⟨i, j, rfl, ⟨h1, h2⟩, q⟩ := h
  obtain ⟨u, w', rfl, ⟨t, rfl⟩, ⟨t', rfl⟩⟩ := vals2 r
  refine divmod_int (by omega) ?_ (.inl (PyProof.noPylong_small (by omega)))
  rw [Int.fdiv_eq_ediv_of_nonneg i (by omega), Int.fmod_eq_emod_of_nonneg i (by omega)]
  have hn : H s.heap.objs.size = none := I.hok.fresh (Nat.le_refl _)
  refine ⟨.ref s.heap.objs.size, _, ?_, rfl, q _ hn⟩
  refine I.laid (fun b o e => Heap.get?_push_of_some _ e) (Nat.le_refl _) ⟨by simp only [List.length_cons, List.length_nil]; rw [sizeLine_eq]; decide, [.int (i / j) s.toks, .int (i % j) (s.toks + 1)], .cons ⟨_, rfl⟩ (.cons ⟨_, rfl⟩ .nil), ?_⟩
  exact ⟨_, Heap.get?_push_size s.heap rfl, rfl, 0, rfl⟩
end
end L2

namespace L2
open PySem PySem.Spec PyProof.Rows

/-! ### an instance, its attributes a map -/
structure ObjM (h : Heap) (x dx C : Addr) (mA : Str → Option Value) : Prop where
  obj : h.get? x = some (PySem.W.instObj C dx)
  ns : h.Ns1 dx mA
  ne : dx ≠ x

theorem lookIn_ns {h : Heap} {dx : Addr} {mA : Str → Option Value} (n : h.Ns1 dx mA) : ∃ od, h.get? dx = some od ∧ ∀ name, PySem.W.lookIn name od = some (mA name) := by
  obtain ⟨o, es, ep, ho, hd, hk, _, hm⟩ := n
  refine ⟨o, ho, fun name => ?_⟩
  have e := hm name
  unfold nsFind findBy at e
  rw [← Array.find?_toList] at e
  unfold PySem.W.lookIn
  rw [hd]
  dsimp only
  split
  · rename_i y q
    rw [q] at e
    exact congrArg some e
  · rename_i q
    rw [q] at e
    have a : es.toList.any (·.refKey) = false := by
      rw [List.any_eq_false]
      intro y hy
      obtain ⟨z, t, hkey⟩ := hk y (Array.mem_toList_iff.mp hy)
      simp [DictEntry.refKey, hkey]
    have a' : ¬ es.toList.any (·.refKey) = true := by rw [a]; exact Bool.false_ne_true
    rw [if_neg a']
    exact congrArg some e

theorem ObjM.look {h : Heap} {x dx C : Addr} {mA : Str → Option Value} (I : ObjM h x dx C mA) : ∃ od, PySem.W.InstAt h x (PySem.W.instObj C dx) C (some od) ∧ ∀ name, PySem.W.lookIn name od = some (mA name) :=
  let ⟨od, ho, hl⟩ := lookIn_ns I.ns
  ⟨od, ⟨I.obj, rfl, rfl, ho⟩, hl⟩

section
variable {prog : Program} {w : World} {A : Around} {E : Value → Shared → Prop} {s : Shared} {K : PySem.W.Frag} {x dx C f : Addr} {mA : Str → Option Value} {name : Str} {v : Value}

theorem get_map {expr : Bool} {Q : Value → Shared → Prop} (X : K.In s.heap) (I : ObjM s.heap x dx C mA) (hg : PySem.W.plainGet K C name = true) (hh : PySem.W.hasDictIn K C = true)
    (ha : PySem.W.findIn K (.ref C) name = some none) (hv : mA name = some v) (hv' : PySem.W.handedIn v = true) (h : Q v { s with toks := s.toks + 1 }) :
    wpAny (model prog w) A (getAttr (.ref x) name expr) Q E s := by
  obtain ⟨od, J, hl⟩ := I.look
  exact PySem.W.get_value X J (PySem.W.plainGet_of hg).1 (PySem.W.findObj_own hh ha rfl (by rw [hl, hv])) hv' h

theorem get_const {expr : Bool} {a : Value} {Q : Value → Shared → Prop} (X : K.In s.heap) (I : ObjM s.heap x dx C mA) (hg : PySem.W.plainGet K C name = true) (hh : PySem.W.hasDictIn K C = true)
    (ha : PySem.W.findIn K (.ref C) name = some (some a)) (hn : PySem.W.specialIn K a "__get__" = some none) (hc : PySem.W.copiedNames.contains name = false) (hv : mA name = none) (hv' : PySem.W.handedIn a = true)
    (h : Q a { s with toks := s.toks + 1 }) : wpAny (model prog w) A (getAttr (.ref x) name expr) Q E s := by
  obtain ⟨od, J, hl⟩ := I.look
  exact PySem.W.get_value X J (PySem.W.plainGet_of hg).1 (PySem.W.findObj_cls hh ha hn hv' hc (by rw [hl, hv])) hv' h

theorem get_meth {pl : Sem Bool} {Q : Value × List Value → Shared → Prop} (X : K.In s.heap) (I : ObjM s.heap x dx C mA) (hg : PySem.W.plainGet K C name = true)
    (hf : PySem.W.findIn K (.ref C) name = some (some (.ref f))) (ht : PySem.W.isFn K (.ref f) = true) (hv : mA name = none) (h : Q (.ref f, [.ref x]) s) :
    wpAny (model prog w) A (getMethod (.ref x) name pl) Q E s := by
  obtain ⟨od, J, hl⟩ := I.look
  exact PySem.W.method_fn X J (PySem.W.plainGet_of hg).1 (PySem.W.plainGet_of hg).2 hf (beq_iff_eq.mp ht) (by show (PySem.W.lookIn name od).map (·.isSome) = some false; rw [hl, hv]; rfl) h

theorem set_map {ns : List Str} {Q : Unit → Shared → Prop} (X : K.In s.heap) (I : ObjM s.heap x dx C mA)
    (hs : PySem.W.findIn K (.ref C) "__setattr__" = some (some (.builtin "object.__setattr__"))) (hp : PySem.W.plainOver K C = true) (ht : PySem.W.takerIn K C name = some none) (hh : PySem.W.hasDictIn K C = true)
    (hw : PySem.Within mA ns) (hsz : ns.length ≤ sizeLine)
    (h : ∀ h', ObjM h' x dx C (fun y => if y = name then some v else mA y) → Heap.SameBut dx s.heap h' → Q () { s with heap := h', toks := s.toks + 2 }) :
    wpAny (model prog w) A (setAttr (.ref x) name v) Q E s := by
  obtain ⟨od, J, hl⟩ := I.look
  refine PySem.W.set_plain X J hs (PySem.W.osa_open (s := { s with toks := s.toks + 1 }) (r := none) X J hp ht fun b => ?_)
  obtain ⟨cd, hc, hd'⟩ := PySem.W.any_some hh
  have hx : s.heap.get? x = some ⟨.ref C, some dx, .plain, #[]⟩ := I.obj
  refine wpAny_bind (wpAny_pure (wpAny_bind (wpAny_bind (wpAny_loadPart hx (wpAny_bind (PySem.W.Looks.here (s := { s with toks := s.toks + 1 }) (PySem.W.looks_clsIn X hc) ?_))))))
  rw [hd']
  refine wpAny_pure (a := some dx) (wpAny_bind (wpAny_pure (wpAny_bind ?_)))
  refine wpAny_nsSet1 (s := { s with toks := s.toks + 1 }) I.ns fun h' hn2 hs2 => ?_
  obtain ⟨oD, esD, epD, hoD, hdD, hcD⟩ := hn2.count (PySem.Within.cons name v hw)
  refine wpAny_bind (wpAny_lookBehind hoD (by rw [hdD]; exact pastItsLine_dict (Nat.le_trans hcD (by rw [List.length_cons]; omega))) ?_)
  exact wpAny_pure (h _ ⟨(hs2.2 _ (Ne.symm I.ne)).trans I.obj, hn2, I.ne⟩ hs2)

/-- C(..): the dict at the heap's end, the instance behind it; then its __init__ -/
theorem make_map {R : Result → Shared → Prop} {vs : List Value} {kw : List (Str × Value)} (X : K.In s.heap) (hm : PySem.W.makesIn K C = true)
    (hi : PySem.W.findIn K (.ref C) "__init__" = some (some (.ref f))) (hf : PySem.W.typeIn K (.ref f) = some (.type "function"))
    (h : codeAny (model prog w) (A.under (.builtin "type.__call__" ⟨.ref C :: vs, kw⟩)) (.call (.ref f) ⟨.ref (s.heap.objs.size + 1) :: vs, kw⟩) (PySem.W.InitBack (s.heap.objs.size + 1) R)
      { s with heap := (s.heap.push PySem.W.emptyDict).push (PySem.W.instObj C s.heap.objs.size) }) :
    codeAny (model prog w) A (.call (.ref C) ⟨vs, kw⟩) R s := by
  obtain ⟨hh, g, d, t, os⟩ := s
  exact PySem.W.make_core (PySem.W.makes_of X hm) (PySem.W.looks_findIn X hi) (fun self => PySem.W.bind_fn X self hf) (.inl rfl) h
/-- C() where there is no __init__ but object's -/
theorem make_map0 {R : Result → Shared → Prop} (X : K.In s.heap) (hm : PySem.W.makesIn K C = true)
    (hi : PySem.W.findIn K (.ref C) "__init__" = some (some (.builtin "object.__init__")))
    (hb : ∀ self, PySem.W.Looks (model prog w) s.heap (bindSpecial (.builtin "object.__init__") self) (.builtin "object.__init__", [self]))
    (h : codeAny (model prog w) (A.under (.builtin "type.__call__" ⟨[.ref C], []⟩)) (.call (.builtin "object.__init__") ⟨[.ref (s.heap.objs.size + 1)], []⟩) (PySem.W.InitBack (s.heap.objs.size + 1) R)
      { s with heap := (s.heap.push PySem.W.emptyDict).push (PySem.W.instObj C s.heap.objs.size) }) :
    codeAny (model prog w) A (.call (.ref C) ⟨[], []⟩) R s := by
  obtain ⟨hh, g, d, t, os⟩ := s
  exact PySem.W.make_core (PySem.W.makes_of X hm) (PySem.W.looks_findIn X hi) hb (.inr ⟨rfl, rfl⟩) h
end

/-! ### the attributes as a list of pairs -/
def putF (f : Str) (v : V) : List (Str × V) → List (Str × V)
  | [] => [(f, v)]
  | (g, x) :: r => if g = f then (g, v) :: r else (g, x) :: putF f v r
theorem lookup_putF (f g : Str) (v : V) : ∀ fs : List (Str × V), (putF f v fs).lookup g = if g = f then some v else fs.lookup g
  | [] => by
    show List.lookup g [(f, v)] = _
    by_cases h : g = f
    · have hb : (g == f) = true := beq_iff_eq.mpr h
      simp only [List.lookup, hb, if_pos h]
    · have hb : (g == f) = false := beq_eq_false_iff_ne.mpr h
      simp only [List.lookup, hb, if_neg h]
  | (k, x) :: r => by
    have ih := lookup_putF f g v r
    rw [show putF f v ((k, x) :: r) = (if k = f then (k, v) :: r else (k, x) :: putF f v r) from rfl]
    by_cases hk : k = f
    · rw [if_pos hk]
      by_cases h : g = k
      · have hb : (g == k) = true := beq_iff_eq.mpr h
        simp only [List.lookup, hb, if_pos (h.trans hk)]
      · have hb : (g == k) = false := beq_eq_false_iff_ne.mpr h
        simp only [List.lookup, hb, if_neg (fun e : g = f => h (e.trans hk.symm))]
    · rw [if_neg hk]
      by_cases h : g = k
      · have hb : (g == k) = true := beq_iff_eq.mpr h
        simp only [List.lookup, hb, if_neg (fun e : g = f => hk (h.symm.trans e))]
      · have hb : (g == k) = false := beq_eq_false_iff_ne.mpr h
        simp only [List.lookup, hb]
        exact ih
theorem keys_putF (f : Str) (v : V) : ∀ fs : List (Str × V), f ∈ (putF f v fs).map (·.1) ∧ ∀ g, g ∈ fs.map (·.1) → g ∈ (putF f v fs).map (·.1)
  | [] => ⟨by simp [putF], fun g h => by simp at h⟩
  | (k, x) :: r => by
    obtain ⟨i1, i2⟩ := keys_putF f v r
    rw [show putF f v ((k, x) :: r) = (if k = f then (k, v) :: r else (k, x) :: putF f v r) from rfl]
    by_cases hk : k = f
    · rw [if_pos hk]
      subst hk
      exact ⟨by simp, fun g h => by simpa using h⟩
    · rw [if_neg hk]
      refine ⟨?_, fun g h => ?_⟩
      · rw [List.map_cons]
        exact List.mem_cons_of_mem _ i1
      · rw [List.map_cons] at h ⊢
        rcases List.mem_cons.mp h with e | e
        · exact List.mem_cons.mpr (.inl e)
        · exact List.mem_cons_of_mem _ (i2 g e)
theorem length_putF (f : Str) (v : V) : ∀ fs : List (Str × V), (putF f v fs).length ≤ fs.length + 1
  | [] => by simp [putF]
  | (k, x) :: r => by
    have ih := length_putF f v r
    rw [show putF f v ((k, x) :: r) = (if k = f then (k, v) :: r else (k, x) :: putF f v r) from rfl]
    by_cases hk : k = f
    · rw [if_pos hk, List.length_cons, List.length_cons]; omega
    · rw [if_neg hk, List.length_cons, List.length_cons]; omega

theorem RelO.some_of {v : V} {o : Option Value} (r : RelO (some v) o) : ∃ u, o = some u ∧ RelV v u := by
  cases o with
  | none => exact (show False from r).elim
  | some u => exact ⟨u, rfl, r⟩
theorem RelO.none_of {o : Option Value} (r : RelO none o) : o = none := by
  cases o with
  | none => rfl
  | some u => exact (show False from r).elim
theorem handed_of {v : V} {u : Value} (r : RelV v u) : PySem.W.handedIn u = true := by
  cases v with
  | non => cases (show u = Value.none from r); rfl
  | bl b => cases (show u = Value.bool b from r); rfl
  | int i => obtain ⟨t, e⟩ := (show ∃ t, u = Value.int i t from r); cases e; rfl
  | str x => obtain ⟨t, e⟩ := (show ∃ t, u = Value.str x t from r); cases e; rfl
  | byt b => obtain ⟨t, e⟩ := (show ∃ t, u = Value.bytes b t from r); cases e; rfl
  | flt b => obtain ⟨t, e⟩ := (show ∃ t, u = Value.float b t from r); cases e; rfl
  | ref a => cases (show u = Value.ref a from r); rfl
  | ty n => cases (show u = Value.type n from r); rfl

section
variable {P : Program} {w : World} {H H' : Hp} {h h' : Heap} {a C dx : Addr} {fs fs' : List (Str × V)}
theorem ins_get (hok : HOk P w H h) (e : H a = some (.ins C dx fs)) : ∃ mA, ObjM h a dx C mA ∧ (∀ f, RelO (fs.lookup f) (mA f)) ∧ PySem.Within mA (fs.map (·.1)) ∧ fs.length ≤ 1000 ∧ H dx = some (.own a) := by
  obtain ⟨d, z, ne, ob, mA, n, r, q⟩ := (show ObjOk P w H h a (.ins C dx fs) from hok a _ e)
  exact ⟨mA, ⟨ob, n, ne⟩, r, q, z, d⟩
end

/-! ### what of the text a class must have -/
structure Cls (K : PySem.W.Frag) (C : Addr) : Prop where
  pg : PySem.W.plainGet K C Str.empty = true
  hd : PySem.W.hasDictIn K C = true
  po : PySem.W.plainOver K C = true
  sa : PySem.W.findIn K (.ref C) "__setattr__" = some (some (.builtin "object.__setattr__"))
theorem Cls.get {K : PySem.W.Frag} {C : Addr} (c : Cls K C) (f : Str) : PySem.W.plainGet K C f = true := c.pg
/-- no class of it has the name -/
def NoAttr (K : PySem.W.Frag) (C : Addr) (f : Str) : Prop := PySem.W.findIn K (.ref C) f = some none
theorem NoAttr.taker {K : PySem.W.Frag} {C : Addr} {f : Str} (n : NoAttr K C f) : PySem.W.takerIn K C f = some none := by
  unfold PySem.W.takerIn
  rw [show PySem.W.findIn K (.ref C) f = some none from n]
  rfl
/-- a constant of the class -/
structure Con (K : PySem.W.Frag) (C : Addr) (f : Str) (v : V) (u : Value) : Prop where
  at_ : PySem.W.findIn K (.ref C) f = some (some u)
  rel : RelV v u
  get : PySem.W.specialIn K u "__get__" = some none
  cp : PySem.W.copiedNames.contains f = false
/-- a method: a plain def of the class or of one above it -/
structure Meth (K : PySem.W.Frag) (C : Addr) (m : Str) (f : Addr) : Prop where
  at_ : PySem.W.findIn K (.ref C) m = some (some (.ref f))
  fn : PySem.W.isFn K (.ref f) = true
  kp : PySem.W.keepIn K (.ref f) = true

section
variable {X : Cx} {pins : List (Addr × Obj)} {σ : St} {H : Hp} {s : Shared} {a C dx : Addr} {fs : List (Str × V)} {f : Str} {v : V} {A : Around} {E : Value → Shared → Prop}

theorem getattr_ok {b : Bool} {Q : Value → Shared → Prop} (I : Inv X pins σ H s) (e : H a = some (.ins C dx fs)) (c : Cls X.K C) (n : NoAttr X.K C f) (l : fs.lookup f = some v)
    (h : ∀ u s', Inv X pins σ H s' → RelV v u → Q u s') : wpAny (model X.prog X.w) A (getAttr (.ref a) f b) Q E s := by
  obtain ⟨mA, O, r, _, _, _⟩ := ins_get I.hok e
  obtain ⟨u, hu, ru⟩ := RelO.some_of (v := v) (o := mA f) (by rw [← l]; exact r f)
  exact get_map I.kIn O (c.get f) c.hd n hu (handed_of ru) (h u _ (I.tok _) ru)

theorem getcon_ok {b : Bool} {u : Value} {Q : Value → Shared → Prop} (I : Inv X pins σ H s) (e : H a = some (.ins C dx fs)) (c : Cls X.K C) (k : Con X.K C f v u) (l : fs.lookup f = none)
    (h : ∀ s', Inv X pins σ H s' → Q u s') : wpAny (model X.prog X.w) A (getAttr (.ref a) f b) Q E s := by
  obtain ⟨mA, O, r, _, _, _⟩ := ins_get I.hok e
  have hn : mA f = none := RelO.none_of (by rw [← l]; exact r f)
  exact get_const I.kIn O (c.get f) c.hd k.at_ k.get k.cp hn (handed_of k.rel) (h _ (I.tok _))

theorem getmeth_ok {m : Str} {g : Addr} {pl : Sem Bool} {Q : Value × List Value → Shared → Prop} (I : Inv X pins σ H s) (e : H a = some (.ins C dx fs)) (c : Cls X.K C) (k : Meth X.K C m g) (l : fs.lookup m = none)
    (h : Q (.ref g, [.ref a]) s) : wpAny (model X.prog X.w) A (getMethod (.ref a) m pl) Q E s := by
  obtain ⟨mA, O, r, _, _, _⟩ := ins_get I.hok e
  have hn : mA m = none := RelO.none_of (by rw [← l]; exact r m)
  exact get_meth I.kIn O (c.get m) k.at_ k.fn hn h

theorem setattr_ok {y : V} {u : Value} {Q : Unit → Shared → Prop} (I : Inv X pins σ H s) (e : H a = some (.ins C dx fs)) (c : Cls X.K C) (n : NoAttr X.K C f) (hl : fs.length < 1000) (ry : RelV y u)
    (h : ∀ s', Inv X pins σ (upd H a (.ins C dx (putF f y fs))) s' → Q () s') : wpAny (model X.prog X.w) A (setAttr (.ref a) f u) Q E s := by
  obtain ⟨mA, O, r, wi, _, ho⟩ := ins_get I.hok e
  have hz : (fs.map (·.1)).length ≤ sizeLine := by rw [List.length_map, sizeLine_eq]; omega
  refine set_map I.kIn O c.sa c.po n.taker c.hd wi hz fun h' O' sb => h _ ?_
  have hd : ∃ o, h'.get? dx = some o := let ⟨o, _, _, e', _⟩ := O'.ns; ⟨o, e'⟩
  refine I.write (x := a) (e := dx) (by rw [e]; exact True.intro) (.inr ho) (fun b q hb z => (sb.2 b hb).trans z) hd ?_
  refine ⟨by rw [upd_ne O.ne]; exact ho, ?_, O.ne, O'.obj, _, O'.ns, fun g => ?_, fun g hg => ?_⟩
  · have := length_putF f y fs; omega
  · show RelO ((putF f y fs).lookup g) (if g = f then some u else mA g)
    rw [lookup_putF]
    by_cases q : g = f
    · rw [if_pos q, if_pos q]; exact ry
    · rw [if_neg q, if_neg q]; exact r g
  · by_cases q : g = f
    · rw [q]; exact (keys_putF f y fs).1
    · refine (keys_putF f y fs).2 g (wi g fun z => hg ?_)
      show (if g = f then some u else mA g) = none
      rw [if_neg q]; exact z

/-- a new instance, tracked, without attributes -/
theorem Inv.made (I : Inv X pins σ H s) : Inv X pins σ (upd (upd H s.heap.objs.size (.own (s.heap.objs.size + 1))) (s.heap.objs.size + 1) (.ins C s.heap.objs.size []))
    { s with heap := (s.heap.push PySem.W.emptyDict).push (PySem.W.instObj C s.heap.objs.size) } := by
  have e1 : (s.heap.push PySem.W.emptyDict).get? s.heap.objs.size = some PySem.W.emptyDict := Heap.get?_push_size s.heap rfl
  have e2 : ((s.heap.push PySem.W.emptyDict).push (PySem.W.instObj C s.heap.objs.size)).get? (s.heap.objs.size + 1) = some (PySem.W.instObj C s.heap.objs.size) := by
    have := Heap.get?_push_size (s.heap.push PySem.W.emptyDict) (o := PySem.W.instObj C s.heap.objs.size) rfl
    rwa [Heap.size_push] at this
  have e3 : (s.heap.push PySem.W.emptyDict).Ns s.heap.objs.size (fun _ => none) := ⟨PySem.W.emptyDict, #[], _, e1, rfl, (fun e he => absurd he (by simp)), fun _ => rfl⟩
  have I1 := I.laid (a := s.heap.objs.size) (o := .own (s.heap.objs.size + 1)) (h' := s.heap.push PySem.W.emptyDict) (t' := s.toks) (fun b u q => Heap.get?_push_of_some _ q) (Nat.le_refl _) ⟨_, e1⟩
  refine I1.laid (a := s.heap.objs.size + 1) (o := .ins C s.heap.objs.size []) (t' := s.toks) (fun b u q => Heap.get?_push_of_some _ q) (Nat.le_of_eq (Heap.size_push _ _)) ?_
  have ne : s.heap.objs.size ≠ s.heap.objs.size + 1 := Nat.ne_of_lt (Nat.lt_succ_self _)
  refine ⟨by rw [upd_ne ne, upd_same], Nat.zero_le _, ne, e2, fun _ => none, (Heap.Ns1.of_empty e3).at fun o q => Heap.get?_push_of_some _ q, fun _ => True.intro, fun y hy => absurd rfl hy⟩

/-- e.f where nothing but the object is asked: through attributeBase (super) and the last hold -/
theorem attr_of {prog : Program} {w : World} {env : Env} {e : Expr} {f : Str} {pos : Pos} {s : Shared} {Q : Value → Shared → Prop} (hb : attributeBase e f env (eval e env) = eval e env)
    (h : wpAny (model prog w) A (eval e env) (fun o s₁ => wpAny (model prog w) A (getAttr o f true) Q E s₁) E s) : wpAny (model prog w) A (eval (.Attribute e f pos) env) Q E s :=
  Attribute_any_ h (by rw [arm_eval_Attribute, hb])
end

/-! ### readings and rules -/
/-- e.f, an attribute of the instance -/
def tFld (K : PySem.W.Frag) (ta : TE) (f : Str) : TE := fun σ H Q => ta σ H fun x H1 => ∃ a C dx fs v, x = .ref a ∧ H1 a = some (.ins C dx fs) ∧ Cls K C ∧ NoAttr K C f ∧ fs.lookup f = some v ∧ Q v H1
/-- e.f, a constant of the class -/
def tCon (K : PySem.W.Frag) (ta : TE) (f : Str) : TE := fun σ H Q => ta σ H fun x H1 => ∃ a C dx fs v u, x = .ref a ∧ H1 a = some (.ins C dx fs) ∧ Cls K C ∧ Con K C f v u ∧ fs.lookup f = none ∧ Q v H1
/-- e.f = value -/
def sFld (K : PySem.W.Frag) (ta tv : TE) (f : Str) : TS := fun D σ H => tv σ H fun y H1 => ta σ H1 fun x H2 => ∃ a C dx fs, x = .ref a ∧ H2 a = some (.ins C dx fs) ∧ Cls K C ∧ NoAttr K C f ∧ fs.length < 1000 ∧
  D.nx σ (upd H2 a (.ins C dx (putF f y fs)))
/-- an augmented operator on two values -/
def InOp (X : Cx) (op : Operator) (rd : V → V → Hp → VK → Prop) : Prop :=
  ∀ (pins : List (Addr × Obj)) (s : Shared) (σ : St) (H : Hp) (x y : V) (u v : Value) (Q : VK), Inv X pins σ H s → RelV x u → RelV y v → rd x y H Q → wpAny (model X.prog X.w) X.A (inplaceOp op u v) (EP X pins σ Q) X.xe s
/-- e.f op= value -/
def sFldAug (K : PySem.W.Frag) (ta tv : TE) (rd : V → V → Hp → VK → Prop) (f : Str) : TS := fun D σ H => ta σ H fun x H1 => ∃ a C dx fs v, x = .ref a ∧ H1 a = some (.ins C dx fs) ∧ Cls K C ∧ NoAttr K C f ∧ fs.lookup f = some v ∧
  tv σ H1 fun y H2 => rd v y H2 fun z H3 => ∃ dx' fs', H3 a = some (.ins C dx' fs') ∧ fs'.length < 1000 ∧ D.nx σ (upd H3 a (.ins C dx' (putF f z fs')))

section
variable {X : Cx} {o e value : Expr} {f : Str} {pos pos' tpos : Pos} {ta tv : TE}
theorem pe_fld (he : PE X e ta) (hb : attributeBase e f X.env (eval e X.env) = eval e X.env) : PE X (.Attribute e f pos) (tFld X.K ta f) := by
  intro pins s σ H Q I h
  refine attr_of hb (thn (he pins s σ H _ I h) fun u s1 ⟨x, H1, I1, rx, a, C, dx, fs, v, ex, ea, c, n, l, q⟩ => ?_)
  subst ex
  obtain rfl : u = Value.ref a := rx
  exact getattr_ok I1 ea c n l fun u' s2 I2 ru => ⟨v, H1, I2, ru, q⟩
theorem pe_con (he : PE X e ta) (hb : attributeBase e f X.env (eval e X.env) = eval e X.env) : PE X (.Attribute e f pos) (tCon X.K ta f) := by
  intro pins s σ H Q I h
  refine attr_of hb (thn (he pins s σ H _ I h) fun u s1 ⟨x, H1, I1, rx, a, C, dx, fs, v, u0, ex, ea, c, k, l, q⟩ => ?_)
  subst ex
  obtain rfl : u = Value.ref a := rx
  exact getcon_ok I1 ea c k l fun s2 I2 => ⟨v, H1, I2, k.rel, q⟩
theorem ps_fld (ha : PE X o ta) (hv : PE X value tv) (hs : swapsWith value (some (.Attribute o f pos')) pos.line X.env = pure false) : PS X (.Assign [.Attribute o f pos'] value pos) (sFld X.K ta tv f) := by
  intro pins s σ H D I h
  refine plainObj_wpAny_Assign_Attribute (thn (hv pins s σ H _ I h) fun u s1 ⟨y, H1, I1, ry, q⟩ => thn (ha pins s1 σ H1 _ I1 q) fun ov s2 ⟨x, H2, I2, rx, a, C, dx, fs, ex, ea, c, n, l, q2⟩ => ?_) hs
  subst ex
  obtain rfl : ov = Value.ref a := rx
  exact setattr_ok I2 ea c n l ry fun s3 I3 => ⟨σ, _, I3, q2⟩
theorem ps_fldaug {op : Operator} {rd : V → V → Hp → VK → Prop} (ha : PE X o ta) (hv : PE X value tv) (hop : InOp X op rd) : PS X (.AugAssign (.Attribute o f tpos) op value pos) (sFldAug X.K ta tv rd f) := by
  intro pins s σ H D I h
  refine wpAny_AugAssign_AttributeAny (thn (ha pins s σ H _ I h) fun ov s1 ⟨x, H1, I1, rx, a, C, dx, fs, v, ex, ea, c, n, l, q⟩ => ?_)
  subst ex
  obtain rfl : ov = Value.ref a := rx
  refine getattr_ok I1 ea c n l fun u s2 I2 ru => thn (hv pins s2 σ H1 _ I2 q) fun w3 s3 ⟨y, H2, I3, ry, q3⟩ => thn (hop pins s3 σ H2 v y u w3 _ I3 ru ry q3) fun w4 s4 ⟨z, H3, I4, rz, dx', fs', ea', l', q4⟩ => ?_
  exact setattr_ok I4 ea' c n l' rz fun s5 I5 => ⟨σ, _, I5, q4⟩
def rAdd : V → V → Hp → VK → Prop := fun x y H Q => ∃ i j, x = .int i ∧ y = .int j ∧ Q (.int (i + j)) H
def rSub : V → V → Hp → VK → Prop := fun x y H Q => ∃ i j, x = .int i ∧ y = .int j ∧ Q (.int (i - j)) H
theorem in_add : InOp X .Add rAdd := by
  rintro pins s σ H x y u v Q I rx ry ⟨i, j, rfl, rfl, q⟩
  obtain ⟨t, rfl⟩ := (show ∃ t, u = Value.int i t from rx)
  obtain ⟨t', rfl⟩ := (show ∃ t', v = Value.int j t' from ry)
  exact PyProof.Rows.iadd_int ⟨.int (i + j), H, I.tok _, ⟨_, rfl⟩, q⟩
theorem in_sub : InOp X .Sub rSub := by
  rintro pins s σ H x y u v Q I rx ry ⟨i, j, rfl, rfl, q⟩
  obtain ⟨t, rfl⟩ := (show ∃ t, u = Value.int i t from rx)
  obtain ⟨t', rfl⟩ := (show ∃ t', v = Value.int j t' from ry)
  exact PyProof.Rows.isub_int ⟨.int (i - j), H, I.tok _, ⟨_, rfl⟩, q⟩

/-- what is between an instance and its method: the tree of a method call -/
theorem methcall_of {pl : Sem Bool} {m : Str} {apos : Pos} {args : List Expr} {pins : List (Addr × Obj)} {s : Shared} {σ : St} {H : Hp} {Q : Value → Shared → Prop} {te : TE} (he : PE X e te) (I : Inv X pins σ H s)
    (h : te σ H fun x H1 => ∃ a C dx fs g, x = .ref a ∧ H1 a = some (.ins C dx fs) ∧ Cls X.K C ∧ Meth X.K C m g ∧ fs.lookup m = none ∧
      ∀ s1, Inv X pins σ H1 s1 → wpAny (model X.prog X.w) X.A (callWith pos (.ref g) [.ref a] (backTo pos (starEach args X.env)) (backToKw pos (keywordEach [] X.env))) Q X.xe s1)
    (ht : eval (.Call (.Attribute e m apos) args [] pos) X.env = (do
      let ov ← eval e X.env
      standAt apos.atName
      let (f, first) ← holding [ov] (getMethod ov m pl)
      callWith pos f first (backTo pos (starEach args X.env)) (backToKw pos (keywordEach [] X.env)))) :
    wpAny (model X.prog X.w) X.A (eval (.Call (.Attribute e m apos) args [] pos) X.env) Q X.xe s := by
  refine PySem.W.methodCall_KW (pl := pl) (thn (he pins s σ H _ I h) fun u s1 ⟨x, H1, I1, rx, a, C, dx, fs, g, ex, ea, c, k, l, q⟩ => ?_) ht
  subst ex
  obtain rfl : u = Value.ref a := rx
  exact getmeth_ok I1 ea c k l (q s1 I1)
end

/-! ### isinstance -/
section
variable {X : Cx} {pins : List (Addr × Obj)} {σ : St} {H : Hp} {s : Shared} {A : Around} {E : Value → Shared → Prop} {Q : Value → Shared → Prop} {c : Value} {b : Bool}
/-- the type of a value, as the fragment's deciders take it; for an instance its class -/
inductive TyOf (K : PySem.W.Frag) (H : Hp) : V → Value → Prop where
  | non : TyOf K H .non (.type "NoneType")
  | bl (x : Bool) : TyOf K H (.bl x) (.type "bool")
  | int (i : Int) : TyOf K H (.int i) (.type "int")
  | str (x : Str) : TyOf K H (.str x) (.type "str")
  | flt (x : UInt64) : TyOf K H (.flt x) (.type "float")
  | lst {a : Addr} {xs : List V} (e : H a = some (.lst xs)) : TyOf K H (.ref a) (.type "list")
  | frz {a : Addr} {o : Obj} {xs : List V} (e : H a = some (.frz o (.lst xs))) : TyOf K H (.ref a) (.type "list")
  | tup {a : Addr} {xs : List V} (e : H a = some (.tup xs)) : TyOf K H (.ref a) (.type "tuple")
  | dK {a : Addr} {kvs : List (Key × V)} (e : H a = some (.dK kvs)) : TyOf K H (.ref a) (.type "dict")
  | dT {a : Addr} {kvs : List (List Key × V)} (e : H a = some (.dT kvs)) : TyOf K H (.ref a) (.type "dict")
  | ins {a C dx : Addr} {fs : List (Str × V)} (e : H a = some (.ins C dx fs)) (cl : Cls K C) (ha : PySem.W.findIn K (.ref C) "__class__" = some (some (.builtin "object.__class__")))
      (hn : PySem.W.specialIn K (.builtin "object.__class__") "__get__" = some (some (.builtin "getset_descriptor.__get__"))) (htk : PySem.W.takesIn K (.builtin "object.__class__") = some true)
      (hm : PySem.W.mroIn K C (.type "object") = some true) : TyOf K H (.ref a) (.ref C)
/-- isinstance(x, c) for one class c, a built-in or an own one: kitOne's answer -/
theorem isinst_ok {x : V} {u t : Value} (I : Inv X pins σ H s) (rx : RelV x u) (ty : TyOf X.K H x t) (e : PySem.W.kitOne X.K t c = some b) (h : ∀ tk, Q (.bool b) { s with toks := tk }) :
    wpAny (model X.prog X.w) A (call (.builtin "isinstance") [u, c]) Q E s := by
  cases ty with
  | non => cases (show u = Value.none from rx); exact PySem.W.kia_one PySem.W.kitx_none I.kIn True.intro e (fun z => nomatch z) h
  | bl y => cases (show u = Value.bool y from rx); exact PySem.W.kia_one PySem.W.kitx_bool I.kIn True.intro e (fun z => nomatch z) h
  | int i => obtain ⟨t, q⟩ := (show ∃ t, u = Value.int i t from rx); cases q; exact PySem.W.kia_one PySem.W.kitx_int I.kIn True.intro e (fun z => nomatch z) h
  | str y => obtain ⟨t, q⟩ := (show ∃ t, u = Value.str y t from rx); cases q; exact PySem.W.kia_one PySem.W.kitx_str I.kIn True.intro e (fun z => nomatch z) h
  | flt y => obtain ⟨t, q⟩ := (show ∃ t, u = Value.float y t from rx); cases q; exact PySem.W.kia_one PySem.W.kitx_float I.kIn True.intro e (fun z => nomatch z) h
  | @lst a xs ea =>
    cases (show u = Value.ref a from rx)
    obtain ⟨_, _, n, _, h1⟩ := (show ObjOk X.prog X.w H s.heap a (.lst xs) from I.hok a _ ea)
    exact PySem.W.kia_one PySem.W.kitx_list I.kIn ⟨_, h1, rfl⟩ e (fun z => nomatch z) h
  | @frz a ob xs ea =>
    cases (show u = Value.ref a from rx)
    obtain ⟨_, _, _, n, _, h1⟩ := (show ObjOk X.prog X.w H s.heap a (.frz ob (.lst xs)) from I.hok a _ ea)
    exact PySem.W.kia_one PySem.W.kitx_list I.kIn ⟨_, h1, rfl⟩ e (fun z => nomatch z) h
  | @tup a xs ea =>
    cases (show u = Value.ref a from rx)
    obtain ⟨_, _, _, p⟩ := (show ObjOk X.prog X.w H s.heap a (.tup xs) from I.hok a _ ea)
    obtain ⟨o, h1, h2, _⟩ := p
    exact PySem.W.kia_one PySem.W.kitx_tuple I.kIn ⟨o, h1, h2⟩ e (fun z => nomatch z) h
  | @dK a kvs ea =>
    cases (show u = Value.ref a from rx)
    obtain ⟨_, _, vs, _, p⟩ := (show ObjOk X.prog X.w H s.heap a (.dK kvs) from I.hok a _ ea)
    obtain ⟨o, es, ep, h1, h2, _⟩ := p
    exact PySem.W.kia_one PySem.W.kitx_dict I.kIn ⟨o, h1, h2.1⟩ e (fun z => nomatch z) h
  | @dT a kvs ea =>
    cases (show u = Value.ref a from rx)
    obtain ⟨_, _, xs, _, o, es, ep, h1, h2, _⟩ := (show ObjOk X.prog X.w H s.heap a (.dT kvs) from I.hok a _ ea)
    exact PySem.W.kia_one PySem.W.kitx_dict I.kIn ⟨o, h1, h2.1⟩ e (fun z => nomatch z) h
  | @ins a C dx fs ea cl ha hn htk hm =>
    cases (show u = Value.ref a from rx)
    obtain ⟨mA, O, _⟩ := ins_get I.hok ea
    obtain ⟨od, J, _⟩ := O.look
    exact PySem.W.kia_one (PySem.W.kitx_own (cl.get _) cl.hd ha hn htk hm) I.kIn J e (fun z => nomatch z) h
end
end L2

namespace L2
open PySem PySem.Spec PyProof.Rows

/-! ### room -/
structure Room (k : Nat) (A : Around) : Prop where
  hd : A.handled = none
  dp : A.depth + 3 * k + 5 < recursionLimit
  un : A.units + 16 * k + 200 < cLine
theorem Room.mono {j k : Nat} {A : Around} (r : Room k A) (h : j ≤ k) : Room j A := ⟨r.hd, by have := r.dp; omega, by have := r.un; omega⟩
theorem Room.deeper {k : Nat} {A : Around} (r : Room (k + 1) A) (env : Env) : Room k (A.deeper env) :=
  ⟨r.hd, by have := r.dp; show A.depth + 1 + 3 * k + 5 < _; omega, by have := r.un; show A.units + 3 + 16 * k + 200 < _; omega⟩
theorem Room.in1 {k : Nat} {A : Around} (r : Room (k + 1) A) : Room k A.in1 :=
  ⟨r.hd, by have := r.dp; show A.depth + 3 * k + 5 < _; omega, by have := r.un; show A.units + 1 + 16 * k + 200 < _; omega⟩
theorem make_depth {A : Around} {C : Addr} {us : List Value} {kw : List (Str × Value)} : (A.under (.builtin "type.__call__" ⟨.ref C :: us, kw⟩)).depth = A.depth + 1 := by
  first | rfl | simp [Around.under, Code.weight, Code.isCreation, Code.isGuard, Code.isCaller, Code.frames, Code.isFrame, guardIds]
theorem make_units {A : Around} {C : Addr} {us : List Value} {kw : List (Str × Value)} : (A.under (.builtin "type.__call__" ⟨.ref C :: us, kw⟩)).units = A.units + 1 := by
  first | rfl | simp [Around.under, Code.cUnits, Code.frames, Code.isFrame]
theorem Room.make {k : Nat} {A : Around} (r : Room (k + 1) A) (C : Addr) (us : List Value) (kw : List (Str × Value)) : Room k (A.under (.builtin "type.__call__" ⟨.ref C :: us, kw⟩)) :=
  ⟨r.hd, by have := r.dp; rw [make_depth]; omega, by have := r.un; rw [make_units]; omega⟩
theorem Room.depth {k : Nat} {A : Around} (r : Room k A) : A.depth < recursionLimit := by have := r.dp; omega
theorem Room.units {k : Nat} {A : Around} (r : Room k A) : A.units + 64 < cLine := by have := r.un; omega
theorem Room.units0 {k : Nat} {A : Around} (r : Room k A) : A.units < cLine := by have := r.un; omega

/-! ### argument lists and displays -/
def tNil : TA := fun _ H Q => Q [] H
def tCons (ta : TE) (tr : TA) : TA := fun σ H Q => ta σ H fun x H1 => tr σ H1 fun xs H2 => Q (x :: xs) H2
section
variable {X : Cx} {e : Expr} {es : List Expr} {te : TE} {t : TA} {pos : Pos}
theorem pa_nil : PA X [] tNil := fun _ _ _ _ H Q I h => Calls.spliced_nil ⟨[], H, I, .nil, h⟩
theorem pa_cons (ha : PE X e te) (hr : PA X es t) (hs : starEach (e :: es) X.env = (false, eval e X.env) :: starEach es X.env := by rfl) : PA X (e :: es) (tCons te t) := by
  intro pos pins s σ H Q I h
  rw [hs]
  show wpAny _ _ (spliced ((false, eval e X.env) :: backTo pos (starEach es X.env))) _ _ s
  refine Calls.spliced_cons (thn (ha pins s σ H _ I h) fun u s1 ⟨x, H1, I1, r1, q1⟩ => ?_)
  exact thn (hr pos pins s1 σ H1 _ I1 q1) fun us s2 ⟨xs, H2, I2, r2, q2⟩ => ⟨x :: xs, H2, I2, .cons r1 r2, q2⟩

/-- a tuple, a list of written items -/
def tTup (t : TA) : TE := fun σ H Q => t σ H fun xs H1 => xs.length ≤ sizeLine ∧ ∀ p, H1 p = none → Q (.ref p) (upd H1 p (.tup xs))
def tLst (t : TA) : TE := fun σ H Q => t σ H fun xs H1 => xs.length ≤ sizeLine ∧ ∀ p, H1 p = none → Q (.ref p) (upd H1 p (.lst xs))
theorem pe_tup {x1} (h : PA X es t) : PE X (.Tuple es x1 pos) (tTup t) := by
  intro pins s σ H Q I hq
  refine wpAny_Tuple_spliced (thn (h pos pins s σ H _ I hq) fun us s1 ⟨xs, H1, I1, r, z, q⟩ => ⟨by rw [← r.length]; exact z, ?_⟩)
  have hf : H1 s1.heap.objs.size = none := I1.hok.fresh (Nat.le_refl _)
  refine ⟨.ref s1.heap.objs.size, upd H1 s1.heap.objs.size (.tup xs), I1.laid (t' := s1.toks) (fun b u e => Heap.get?_push_of_some _ e) (Nat.le_refl _) ?_, rfl, q _ hf⟩
  exact ⟨z, us, r, ⟨_, Heap.get?_push_size _ rfl, rfl, _, rfl⟩⟩
theorem pe_lst (h : PA X es t) : PE X (.List es pos) (tLst t) := by
  intro pins s σ H Q I hq
  refine wpAny_List_spliced (thn (h pos pins s σ H _ I hq) fun us s1 ⟨xs, H1, I1, r, z, q⟩ => ⟨by rw [← r.length]; exact z, ?_⟩)
  have hf : H1 s1.heap.objs.size = none := I1.hok.fresh (Nat.le_refl _)
  refine ⟨.ref s1.heap.objs.size, upd H1 s1.heap.objs.size (.lst xs), I1.laid (t' := s1.toks) (fun b u e => Heap.get?_push_of_some _ e) (Nat.le_refl _) ?_, rfl, q _ hf⟩
  exact ⟨z, us, 0, r, Heap.get?_push_size _ rfl⟩
end

/-! ### what a def promises -/
/-- a def's promise: the bound arguments in the parameters' order, the heap, the wanted end, the wanted exception -/
abbrev Sp := List V → Hp → VK → XK → Prop
/-- how an exception lies behind a call (file 08 gives it): the callers' frames, abstract heap and state ahead of the call, the wish, the exception, the state -/
abbrev CXT := List Env → Hp → Shared → XK → Value → Shared → Prop

/-- the state at a call -/
structure Env0 (P : Program) (w : World) (K : PySem.W.Frag) (mg : Str → Option Value) (base : Heap) (A : Around) (outer : List Env) (s : Shared) (H : Hp) : Prop where
  frames : A.frames = some outer
  mod : Mod K mg base
  bs : ∀ b o, base.get? b = some o → s.heap.get? b = some o ∧ H b = none
  bsz : base.objs.size ≤ s.heap.objs.size
  funs : s.heap.FunFrames base outer
  frf : ∀ b ∈ frs outer, H b = none
  hok : HOk P w H s.heap
  bare : AllBare s.gens
/-- a call's end -/
def CE (outer : List Env) (P : Program) (w : World) (H : Hp) (s : Shared) (Q : VK) (u : Value) (s' : Shared) : Prop :=
  ∃ v H', s'.os = s.os ∧ AllBare s'.gens ∧ Un (frs outer) [] H H' s.heap s'.heap ∧ HOk P w H' s'.heap ∧ RelV v u ∧ Q v H'
def CR (CX : CXT) (outer : List Env) (P : Program) (w : World) (H : Hp) (s : Shared) (Q : VK) (E : XK) (r : Result) (s' : Shared) : Prop :=
  match r with
  | .ok (.ret u) => CE outer P w H s Q u s'
  | .ok _ => False
  | .error e => CX outer H s E e s'
structure FnOk (P : Program) (w : World) (K : PySem.W.Frag) (mg : Str → Option Value) (base : Heap) (CX : CXT) (k : Nat) (f : Addr) (fd : FuncData) (ps : List Str) (sp : Sp) : Prop where
  len : ∀ vs H Q E, sp vs H Q E → vs.length = ps.length
  run : ∀ (A : Around) (outer : List Env) (s : Shared) (H : Hp) (args : Args) (us : List Value) (vs : List V) (Q : VK) (E : XK), Room k A → Env0 P w K mg base A outer s H → BindsTo s fd args (ps.zip us) → Vals vs us → sp vs H Q E →
    codeAny (model P w) A (.call (.ref f) args) (CR CX outer P w H s Q E) s
theorem FnOk.mono {P : Program} {w : World} {K : PySem.W.Frag} {mg : Str → Option Value} {base : Heap} {CX : CXT} {j k : Nat} {f : Addr} {fd : FuncData} {ps : List Str} {sp : Sp} (F : FnOk P w K mg base CX j f fd ps sp) (h : j ≤ k) :
    FnOk P w K mg base CX k f fd ps sp := ⟨F.len, fun A outer s H args us vs Q E hr => F.run A outer s H args us vs Q E (hr.mono h)⟩
/-- a weaker promise -/
theorem FnOk.imp {P : Program} {w : World} {K : PySem.W.Frag} {mg : Str → Option Value} {base : Heap} {CX : CXT} {k : Nat} {f : Addr} {fd : FuncData} {ps : List Str} {sp sp' : Sp} (F : FnOk P w K mg base CX k f fd ps sp)
    (h : ∀ vs H Q E, sp' vs H Q E → sp vs H Q E) : FnOk P w K mg base CX k f fd ps sp' :=
  ⟨fun vs H Q E q => F.len vs H Q E (h _ _ _ _ q), fun A outer s H args us vs Q E hr he hb hv hs => F.run A outer s H args us vs Q E hr he hb hv (h _ _ _ _ hs)⟩

theorem Env0.make {P : Program} {w : World} {K : PySem.W.Frag} {mg : Str → Option Value} {base : Heap} {A : Around} {outer : List Env} {s : Shared} {H : Hp} (e : Env0 P w K mg base A outer s H) (C : Addr) (us : List Value) (kw : List (Str × Value)) :
    Env0 P w K mg base (A.under (.builtin "type.__call__" ⟨.ref C :: us, kw⟩)) outer s H := ⟨by first | exact e.frames | (simpa [Around.under, Code.envs, Code.isFrame, pushEnvs] using e.frames), e.mod, e.bs, e.bsz, e.funs, e.frf, e.hok, e.bare⟩
theorem Env0.in1 {P : Program} {w : World} {K : PySem.W.Frag} {mg : Str → Option Value} {base : Heap} {A : Around} {outer : List Env} {s : Shared} {H : Hp} (e : Env0 P w K mg base A outer s H) :
    Env0 P w K mg base A.in1 outer s H := ⟨e.frames, e.mod, e.bs, e.bsz, e.funs, e.frf, e.hok, e.bare⟩

section
variable {X : Cx} {pins : List (Addr × Obj)} {σ : St} {H : Hp} {s s' : Shared}
/-- from a body: what a callee wants -/
theorem Inv.env0 (I : Inv X pins σ H s) : Env0 X.prog X.w X.K X.mg X.base X.A X.stack s H :=
  ⟨I.ok.frames, I.ok.mod, I.bs, Nat.le_trans I.ok.bsz I.sz, I.stack, I.stkFree, I.hok, I.bare⟩
/-- behind a call -/
theorem Inv.after {Q : VK} {u : Value} (I : Inv X pins σ H s) (h : CE X.stack X.prog X.w H s Q u s') : EP X pins σ Q u s' := by
  obtain ⟨v, H', os, bare, un, hok, r, q⟩ := h
  obtain ⟨hh, g, d, t, os'⟩ := s'
  obtain rfl : os' = s.os := os
  exact ⟨v, H', I.call (h' := hh) (g' := g) (d' := d) (t' := t) (ch := []) un hok bare (fun b z => absurd z (by simp)), r, q⟩
end

/-! ### calls -/
/-- f(..): the written arguments, then the defaults dvs; E: what is wanted of an exception -/
def tCall (sp : Sp) (dvs : List V) (E : XK) (t : TA) : TE := fun σ H Q => t σ H fun vs H1 => sp (vs ++ dvs) H1 Q E
/-- o.m(..) of an instance of the class at C -/
def tMeth (C : Addr) (m : Str) (sp : Sp) (dvs : List V) (E : XK) (ta : TE) (t : TA) : TE := fun σ H Q => ta σ H fun x H1 => ∃ a dx fs, x = .ref a ∧ H1 a = some (.ins C dx fs) ∧ fs.lookup m = none ∧
  t σ H1 fun vs H2 => sp (x :: (vs ++ dvs)) H2 Q E
/-- C(..): a new instance and its dict, then __init__ -/
def tMake (C : Addr) (sp : Sp) (dvs : List V) (E : XK) (t : TA) : TE := fun σ H Q => t σ H fun vs H1 => ∀ x dx, H1 x = none → H1 dx = none → dx ≠ x →
  sp (.ref x :: (vs ++ dvs)) (upd (upd H1 dx (.own x)) x (.ins C dx [])) (fun v H2 => v = .non ∧ Q (.ref x) H2) E

/-- how the parameters are bound: us the positional arguments, kw the keywords' values by name, ds the defaults that fill up -/
def Binds (K : PySem.W.Frag) (fd : FuncData) (ps : List Str) (ds : List Value) : Prop :=
  ∀ (s : Shared) (us : List Value), K.In s.heap → (us ++ ds).length = ps.length → BindsTo s fd ⟨us, []⟩ (ps.zip (us ++ ds))
/-- every parameter is given -/
theorem Binds.all {K : PySem.W.Frag} {fd : FuncData} {ps : List Str} (h : ∀ us : List Value, us.length = ps.length → bindArgs fd ⟨us, []⟩ = pure (ps.zip us)) : Binds K fd ps [] := fun s us _ hl => by
  rw [List.append_nil] at hl ⊢
  exact .of_eq (h us hl)

/-- an exception of a callee reaches what this body wants of exceptions -/
def Passes (CX : CXT) (X : Cx) (E : XK) : Prop := ∀ (pins : List (Addr × Obj)) (σ : St) (H : Hp) (s : Shared) (e : Value) (s' : Shared), Inv X pins σ H s → CX X.stack H s E e s' → X.xe e s'

section
variable {X : Cx} {CX : CXT} {k : Nat} {f C : Addr} {fd : FuncData} {ps : List Str} {sp : Sp} {dvs : List V} {ds : List Value} {E : XK} {x m : Str} {p pos apos : Pos} {e o : Expr} {es : List Expr} {ta : TE} {t : TA}

/-- the callee runs -/
theorem run_fn {pins : List (Addr × Obj)} {σ : St} {H : Hp} {s : Shared} {Q : VK} {us : List Value} {vs : List V} (F : FnOk X.prog X.w X.K X.mg X.base CX k f fd ps sp) (hr : Room k X.A) (hb : Binds X.K fd ps ds) (hd : Vals dvs ds) (hx : Passes CX X E)
    (I : Inv X pins σ H s) (r : Vals vs us) (h : sp (vs ++ dvs) H Q E) : wpAny (model X.prog X.w) X.A (call (.ref f) us) (EP X pins σ Q) X.xe s := by
  have r2 : Vals (vs ++ dvs) (us ++ ds) := r.append hd
  have hl : (us ++ ds).length = ps.length := by rw [← r2.length]; exact F.len _ _ _ _ h
  refine wpAny_call (codeAny_mono (F.run X.A X.stack s H ⟨us, []⟩ (us ++ ds) (vs ++ dvs) Q E hr I.env0 (hb s us I.kIn hl) r2 h) fun r s' hq => ?_)
  cases r with
  | error e => exact hx pins σ H s e s' I hq
  | ok fl =>
    cases fl with
    | ret u => exact I.after hq
    | next => exact False.elim hq
    | brk => exact False.elim hq
    | cont => exact False.elim hq

theorem pe_call (F : FnOk X.prog X.w X.K X.mg X.base CX k f fd ps sp) (hr : Room k X.A) (hg : Gl X x) (hm : X.mg x = some (.ref f)) (hk : PySem.W.keepIn X.K (.ref f) = true) (hb : Binds X.K fd ps ds) (hd : Vals dvs ds) (hx : Passes CX X E)
    (ha : PA X (e :: es) t) (hdb : (x == ("__debug__" : Str)) = false := by decide) (he : starEach (e :: es) X.env = (false, eval e X.env) :: starEach es X.env := by rfl) (hpl : (backTo pos (starEach es X.env)).any (·.1) = false := by rfl) :
    PE X (.Call (.Name x p) (e :: es) [] pos) (tCall sp dvs E t) := by
  intro pins s σ H Q I h
  refine wpAny_Call_Name_kw (ld_glob I hg hm ?_ hdb)
  refine PySem.W.callWith_K (h₀ := X.base) I.ok.mod.kin hk (thn (ha pos pins s σ H _ I h) fun us s1 ⟨vs, H1, I1, r, q⟩ => ⟨I1.kIn, ?_⟩) he hpl
  exact run_fn F hr hb hd hx I1 r q
theorem pe_call0 (F : FnOk X.prog X.w X.K X.mg X.base CX k f fd ps sp) (hr : Room k X.A) (hg : Gl X x) (hm : X.mg x = some (.ref f)) (hk : PySem.W.keepIn X.K (.ref f) = true) (hb : Binds X.K fd ps ds) (hd : Vals dvs ds) (hx : Passes CX X E)
    (hdb : (x == ("__debug__" : Str)) = false := by decide) : PE X (.Call (.Name x p) [] [] pos) (tCall sp dvs E tNil) := by
  intro pins s σ H Q I h
  refine wpAny_Call_Name_kw (ld_glob I hg hm ?_ hdb)
  exact PySem.W.callWith_K0 I.kIn hk (run_fn (us := []) F hr hb hd hx I .nil h)

/-- o.m(e, ..) -/
theorem pe_meth {pl : Sem Bool} (he : PE X o ta) (c : Cls X.K C) (hm : Meth X.K C m f) (F : FnOk X.prog X.w X.K X.mg X.base CX k f fd ps sp) (hr : Room k X.A) (hb : Binds X.K fd ps ds) (hd : Vals dvs ds) (hx : Passes CX X E) (ha : PA X (e :: es) t)
    (hst : starEach (e :: es) X.env = (false, eval e X.env) :: starEach es X.env := by rfl) (hpl : (backTo pos (starEach es X.env)).any (·.1) = false := by rfl)
    (ht : eval (.Call (.Attribute o m apos) (e :: es) [] pos) X.env = (do
      let ov ← eval o X.env
      standAt apos.atName
      let (f, first) ← holding [ov] (getMethod ov m pl)
      callWith pos f first (backTo pos (starEach (e :: es) X.env)) (backToKw pos (keywordEach [] X.env))) := by rfl) :
    PE X (.Call (.Attribute o m apos) (e :: es) [] pos) (tMeth C m sp dvs E ta t) := by
  intro pins s σ H Q I h
  refine PySem.W.methodCall_KW (pl := pl) (thn (he pins s σ H _ I h) fun u s1 ⟨x, H1, I1, rx, a, dx, fs, ex, ea, l, q⟩ => ?_) ht
  subst ex
  obtain rfl : u = Value.ref a := rx
  refine getmeth_ok I1 ea c hm l ?_
  refine PySem.W.callWith_K (first := [.ref a]) (h₀ := X.base) I.ok.mod.kin hm.kp (thn (ha pos pins s1 σ H1 _ I1 q) fun us s2 ⟨vs, H2, I2, r, q2⟩ => ⟨I2.kIn, ?_⟩) hst hpl
  exact run_fn (us := .ref a :: us) (vs := .ref a :: vs) F hr hb hd hx I2 (.cons rfl r) q2
/-- o.m() -/
theorem pe_meth0 {pl : Sem Bool} (he : PE X o ta) (c : Cls X.K C) (hm : Meth X.K C m f) (F : FnOk X.prog X.w X.K X.mg X.base CX k f fd ps sp) (hr : Room k X.A) (hb : Binds X.K fd ps ds) (hd : Vals dvs ds) (hx : Passes CX X E)
    (ht : eval (.Call (.Attribute o m apos) [] [] pos) X.env = (do
      let ov ← eval o X.env
      standAt apos.atName
      let (f, first) ← holding [ov] (getMethod ov m pl)
      callWith pos f first (backTo pos (starEach [] X.env)) (backToKw pos (keywordEach [] X.env))) := by rfl) :
    PE X (.Call (.Attribute o m apos) [] [] pos) (tMeth C m sp dvs E ta tNil) := by
  intro pins s σ H Q I h
  refine PySem.W.methodCall_KW (pl := pl) (thn (he pins s σ H _ I h) fun u s1 ⟨x, H1, I1, rx, a, dx, fs, ex, ea, l, q⟩ => ?_) ht
  subst ex
  obtain rfl : u = Value.ref a := rx
  refine getmeth_ok I1 ea c hm l ?_
  exact PySem.W.callWith_K0 (first := [.ref a]) I1.kIn hm.kp (run_fn (us := [.ref a]) (vs := [.ref a]) F hr hb hd hx I1 (.cons rfl .nil) q)

/-- what a class must have to be made -/
structure Mk (K : PySem.W.Frag) (C f : Addr) : Prop where
  makes : PySem.W.makesIn K C = true
  init : PySem.W.findIn K (.ref C) "__init__" = some (some (.ref f))
  fn : PySem.W.isFn K (.ref f) = true
  kp : PySem.W.keepIn K (.ref C) = true

theorem run_make {pins : List (Addr × Obj)} {σ : St} {H : Hp} {s : Shared} {Q : VK} {us : List Value} {vs : List V} (M : Mk X.K C f) (F : FnOk X.prog X.w X.K X.mg X.base CX k f fd ps sp) (hr : Room (k + 1) X.A) (hb : Binds X.K fd ps ds) (hd : Vals dvs ds)
    (hx : Passes CX X E) (I : Inv X pins σ H s) (r : Vals vs us)
    (h : ∀ x dx, H x = none → H dx = none → dx ≠ x → sp (.ref x :: (vs ++ dvs)) (upd (upd H dx (.own x)) x (.ins C dx [])) (fun v H2 => v = .non ∧ Q (.ref x) H2) E) :
    wpAny (model X.prog X.w) X.A (call (.ref C) us) (EP X pins σ Q) X.xe s := by
  have hq := h (s.heap.objs.size + 1) s.heap.objs.size (I.hok.fresh (Nat.le_succ _)) (I.hok.fresh (Nat.le_refl _)) (Nat.ne_of_lt (Nat.lt_succ_self _))
  have I2 := Inv.made (C := C) I
  have r2 : Vals (V.ref (s.heap.objs.size + 1) :: (vs ++ dvs)) (Value.ref (s.heap.objs.size + 1) :: (us ++ ds)) := .cons rfl (r.append hd)
  have hl : (Value.ref (s.heap.objs.size + 1) :: us ++ ds).length = ps.length := by
    have e := r2.length
    rw [F.len _ _ _ _ hq] at e
    exact e.symm
  refine wpAny_call (make_map (f := f) I.kIn M.makes M.init (beq_iff_eq.mp M.fn) (codeAny_mono (F.run _ X.stack _ _ ⟨Value.ref (s.heap.objs.size + 1) :: us, []⟩ (Value.ref (s.heap.objs.size + 1) :: (us ++ ds)) _ _ E (hr.make C us [])
    (I2.env0.make C us []) (hb _ (Value.ref (s.heap.objs.size + 1) :: us) I2.kIn hl) r2 hq) fun r s' hq' => ?_))
  cases r with
  | error e => exact hx pins σ _ _ e s' I2 hq'
  | ok fl =>
    cases fl with
    | ret u =>
      obtain ⟨v, H', I3, rv, ev, q3⟩ := I2.after hq'
      subst ev
      exact ⟨rv, ⟨V.ref (s.heap.objs.size + 1), H', I3, rfl, q3⟩⟩
    | next => exact False.elim hq'
    | brk => exact False.elim hq'
    | cont => exact False.elim hq'
theorem pe_make (M : Mk X.K C f) (F : FnOk X.prog X.w X.K X.mg X.base CX k f fd ps sp) (hr : Room (k + 1) X.A) (hg : Gl X x) (hm : X.mg x = some (.ref C)) (hb : Binds X.K fd ps ds) (hd : Vals dvs ds) (hx : Passes CX X E)
    (ha : PA X (e :: es) t) (hdb : (x == ("__debug__" : Str)) = false := by decide) (he : starEach (e :: es) X.env = (false, eval e X.env) :: starEach es X.env := by rfl) (hpl : (backTo pos (starEach es X.env)).any (·.1) = false := by rfl) :
    PE X (.Call (.Name x p) (e :: es) [] pos) (tMake C sp dvs E t) := by
  intro pins s σ H Q I h
  refine wpAny_Call_Name_kw (ld_glob I hg hm ?_ hdb)
  refine PySem.W.callWith_K (h₀ := X.base) I.ok.mod.kin M.kp (thn (ha pos pins s σ H _ I h) fun us s1 ⟨vs, H1, I1, r, q⟩ => ⟨I1.kIn, ?_⟩) he hpl
  exact run_make M F hr hb hd hx I1 r q
theorem pe_make0 (M : Mk X.K C f) (F : FnOk X.prog X.w X.K X.mg X.base CX k f fd ps sp) (hr : Room (k + 1) X.A) (hg : Gl X x) (hm : X.mg x = some (.ref C)) (hb : Binds X.K fd ps ds) (hd : Vals dvs ds) (hx : Passes CX X E)
    (hdb : (x == ("__debug__" : Str)) = false := by decide) : PE X (.Call (.Name x p) [] [] pos) (tMake C sp dvs E tNil) := by
  intro pins s σ H Q I h
  refine wpAny_Call_Name_kw (ld_glob I hg hm ?_ hdb)
  exact PySem.W.callWith_K0 I.kIn M.kp (run_make (us := []) M F hr hb hd hx I .nil h)
end

/-! ### keywords -/
/-- the values of the keywords, from the left -/
def PK (X : Cx) (kws : List Keyword) (t : TA) : Prop :=
  ∀ (pos : Pos) (pins : List (Addr × Obj)) (s : Shared) (σ : St) (H : Hp) (Q : List V → Hp → Prop), Inv X pins σ H s → t σ H Q → wpAny (model X.prog X.w) X.A (evalAll ((backToKw pos (keywordEach kws X.env)).map (·.2))) (AP X pins σ Q) X.xe s
section
variable {X : Cx} {CX : CXT} {k : Nat} {f C : Addr} {fd : FuncData} {ps ks : List Str} {sp : Sp} {E : XK} {x m : Str} {p pos apos kpos : Pos} {e o : Expr} {es : List Expr} {kws : List Keyword} {te ta : TE} {t tk : TA} {nm : Option Str}
theorem pk_nil : PK X [] tNil := fun _ _ _ _ H Q I h => wpAny_evalAll_nil ⟨[], H, I, .nil, h⟩
theorem pk_cons (ha : PE X e te) (hr : PK X kws t) : PK X (⟨nm, e, kpos⟩ :: kws) (tCons te t) := by
  intro pos pins s σ H Q I h
  show wpAny _ _ (evalAll ((do let v ← eval e X.env; standAt pos; pure v) :: (backToKw pos (keywordEach kws X.env)).map (·.2))) _ _ s
  refine wpAny_evalAll_cons (wpAny_bind (thn (ha pins s σ H _ I h) fun u s1 ⟨x, H1, I1, r1, q1⟩ => wpAny_bind (wpAny_standAt (wpAny_pure ?_))))
  exact thn (hr pos pins s1 σ H1 _ I1 q1) fun us s2 ⟨xs, H2, I2, r2, q2⟩ => ⟨x :: xs, H2, I2, .cons r1 r2, q2⟩

/-- how a call with keywords binds: g puts the positional values us and the keywords' values ws (names ks) in the parameters' order, defaults among them -/
structure KBinds (K : PySem.W.Frag) (fd : FuncData) (ps ks : List Str) (g : List Value → List Value → List Value) (gV : List V → List V → List V) : Prop where
  to : ∀ (s : Shared) (us ws : List Value), K.In s.heap → (g us ws).length = ps.length → BindsTo s fd ⟨us, ks.zip ws⟩ (ps.zip (g us ws))
  rel : ∀ {vs : List V} {us : List Value} {zs : List V} {ws : List Value}, Vals vs us → Vals zs ws → Vals (gV vs zs) (g us ws)
def tCallK (sp : Sp) (gV : List V → List V → List V) (E : XK) (t tk : TA) : TE := fun σ H Q => t σ H fun vs H1 => tk σ H1 fun zs H2 => sp (gV vs zs) H2 Q E
variable {g : List Value → List Value → List Value} {gV : List V → List V → List V}
theorem run_fnk {pins : List (Addr × Obj)} {σ : St} {H : Hp} {s : Shared} {Q : VK} {us ws : List Value} {vs zs : List V} (F : FnOk X.prog X.w X.K X.mg X.base CX k f fd ps sp) (hr : Room k X.A) (hb : KBinds X.K fd ps ks g gV) (hx : Passes CX X E)
    (I : Inv X pins σ H s) (r : Vals vs us) (rz : Vals zs ws) (h : sp (gV vs zs) H Q E) : wpAny (model X.prog X.w) X.A (call (.ref f) us (ks.zip ws)) (EP X pins σ Q) X.xe s := by
  have r2 := hb.rel r rz
  have hl : (g us ws).length = ps.length := by rw [← r2.length]; exact F.len _ _ _ _ h
  refine wpAny_call (codeAny_mono (F.run X.A X.stack s H ⟨us, ks.zip ws⟩ (g us ws) (gV vs zs) Q E hr I.env0 (hb.to s us ws I.kIn hl) r2 h) fun r s' hq => ?_)
  cases r with
  | error e => exact hx pins σ H s e s' I hq
  | ok fl =>
    cases fl with
    | ret u => exact I.after hq
    | next => exact False.elim hq
    | brk => exact False.elim hq
    | cont => exact False.elim hq
/-- f(e, .., k = v, ..) -/
theorem pe_callK (F : FnOk X.prog X.w X.K X.mg X.base CX k f fd ps sp) (hr : Room k X.A) (hg : Gl X x) (hm : X.mg x = some (.ref f)) (hk : PySem.W.keepIn X.K (.ref f) = true) (hb : KBinds X.K fd ps ks g gV) (hx : Passes CX X E)
    (ha : PA X (e :: es) t) (hkw : PK X kws tk) (hall : (backToKw pos (keywordEach kws X.env)).all (·.1.isSome) = true := by rfl) (hks : (backToKw pos (keywordEach kws X.env)).filterMap (·.1) = ks := by rfl)
    (hdb : (x == ("__debug__" : Str)) = false := by decide) (he : starEach (e :: es) X.env = (false, eval e X.env) :: starEach es X.env := by rfl)
    (hpl : ((backTo pos (starEach (e :: es) X.env)).any (·.1) || (backToKw pos (keywordEach kws X.env)).any (·.1.isNone)) = false := by rfl) :
    PE X (.Call (.Name x p) (e :: es) kws pos) (tCallK sp gV E t tk) := by
  intro pins s σ H Q I h
  refine wpAny_Call_Name_kw (ld_glob I hg hm ?_ hdb)
  refine PySem.W.callWith_KW (h₀ := X.base) I.ok.mod.kin hk hall (thn (ha pos pins s σ H _ I h) fun us s1 ⟨vs, H1, I1, r, q⟩ => ?_) hpl he
  refine thn (hkw pos pins s1 σ H1 _ I1 q) fun ws s2 ⟨zs, H2, I2, rz, q2⟩ => ⟨I2.kIn, ?_⟩
  rw [hks]
  exact run_fnk F hr hb hx I2 r rz q2
end

/-! ### a def's body keeps its promise -/
/-- names: the parameters first -/
structure FnScope (N P : List Str) (sc : Scope) : Prop where
  kind : sc.kind = .function
  co : sc.isCoroutine = false
  gen : sc.isGenerator = false
  nd : N.Nodup
  pre : N.take P.length = P
  par : ∀ x ∈ P, sc.names.lookup x = some .local ∨ sc.names.lookup x = some .cell
  nofree : ∀ y ∈ sc.names, y.2 ≠ .free

theorem bindL_out {kindOf : Str → Option NameKind} {x : Str} : ∀ {binds : List (Str × Value)} {m : Str → Option Value}, (∀ v, (x, v) ∉ binds) → bindL kindOf binds m x = m x
  | [], _, _ => rfl
  | (n, v) :: r, m, h => by
    unfold bindL
    rw [bindL_out fun w hw => h w (List.mem_cons_of_mem _ hw)]
    split
    · have : x ≠ n := by rintro rfl; exact h v List.mem_cons_self
      simp [this]
    · rfl
theorem bindC_out {kindOf : Str → Option NameKind} {x : Str} : ∀ {binds : List (Str × Value)} {m : Str → Option Value}, (∀ v, (x, v) ∉ binds) → bindC kindOf binds m x = m x
  | [], _, _ => rfl
  | (n, v) :: r, m, h => by
    unfold bindC
    rw [bindC_out fun w hw => h w (List.mem_cons_of_mem _ hw)]
    split
    · rfl
    · have : x ≠ n := by rintro rfl; exact h v List.mem_cons_self
      simp [this]
theorem bindL_get {kindOf : Str → Option NameKind} {x : Str} {v : Value} : ∀ {P : List Str} {vs : List Value} {i : Nat} {m : Str → Option Value}, P.Nodup → P[i]? = some x → vs[i]? = some v → kindOf x = some .local →
    bindL kindOf (P.zip vs) m x = some v
  | [], _, _, _, _, h, _, _ => by simp at h
  | _ :: _, [], _, _, _, _, h, _ => by simp at h
  | p :: P, w :: vs, 0, m, nd, h1, h2, hk => by
    simp at h1 h2; subst h1; subst h2
    show bindL kindOf ((p, w) :: P.zip vs) m p = _
    unfold bindL
    rw [bindL_out fun v hv => (List.nodup_cons.mp nd).1 (List.of_mem_zip hv).1, if_pos hk]
    simp
  | p :: P, w :: vs, i + 1, m, nd, h1, h2, hk => by
    show bindL kindOf ((p, w) :: P.zip vs) m x = _
    unfold bindL
    exact bindL_get (i := i) (List.nodup_cons.mp nd).2 (by simpa using h1) (by simpa using h2) hk
theorem bindC_get {kindOf : Str → Option NameKind} {x : Str} {v : Value} : ∀ {P : List Str} {vs : List Value} {i : Nat} {m : Str → Option Value}, P.Nodup → P[i]? = some x → vs[i]? = some v → kindOf x ≠ some .local →
    bindC kindOf (P.zip vs) m x = some v
  | [], _, _, _, _, h, _, _ => by simp at h
  | _ :: _, [], _, _, _, _, h, _ => by simp at h
  | p :: P, w :: vs, 0, m, nd, h1, h2, hk => by
    simp at h1 h2; subst h1; subst h2
    show bindC kindOf ((p, w) :: P.zip vs) m p = _
    unfold bindC
    rw [bindC_out fun v hv => (List.nodup_cons.mp nd).1 (List.of_mem_zip hv).1, if_neg hk]
    simp
  | p :: P, w :: vs, i + 1, m, nd, h1, h2, hk => by
    show bindC kindOf ((p, w) :: P.zip vs) m x = _
    unfold bindC
    exact bindC_get (i := i) (List.nodup_cons.mp nd).2 (by simpa using h1) (by simpa using h2) hk

/-- the names' values at the entry -/
def start (N : List Str) (vs : List V) : St := vs.map some ++ List.replicate (N.length - vs.length) none

/-- the context of a def's body, at its entry; an exception leaves the frame, then lies as CX says -/
def cxOf (CX : CXT) (P : Program) (w : World) (K : PySem.W.Frag) (mg : Str → Option Value) (base : Heap) (N : List Str) (qual : Str) (scope : Scope) (f : Addr) (cd : Value) (A : Around) (outer : List Env) (s : Shared) (H : Hp) (E : XK) : Cx where
  prog := P
  w := w
  K := K
  mg := mg
  base := base
  A := A.deeper (envOfC qual scope s.heap.objs.size f cd)
  N := N
  s₀ := s
  H₀ := H
  env := envOfC qual scope s.heap.objs.size f cd
  outer := outer
  stack := envOfC qual scope s.heap.objs.size f cd :: outer
  ex := []
  calm := true
  fn := fun _ => true
  pn := []
  xe := fun e s' => wpAny (model P w) (A.deeper (envOfC qual scope s.heap.objs.size f cd)) (leaving (envOfC qual scope s.heap.objs.size f cd) e) (fun _ s'' => CX outer H s E e s'') (fun e' s'' => CX outer H s E e' s'') s'

theorem cell_has {sc : Scope} {n : Nat} {x : Str} (h : sc.names.lookup x = some .cell) : ∃ c, (cellsFrom n sc.names []).lookup x = some c := by
  have q := PySem.W.cellsFrom_some sc.names n [] (.inl h)
  exact Option.isSome_iff_exists.mp q

theorem inv_start {CX : CXT} {P : Program} {w : World} {K : PySem.W.Frag} {mg : Str → Option Value} {base : Heap} {N ps : List Str} {qual : Str} {scope : Scope} {f : Addr} {cd : Value} {A : Around} {outer : List Env} {s s1 : Shared} {H : Hp} {E : XK} {us : List Value} {vs : List V}
    (S : FnScope N ps scope) (hd : A.handled = none) (e0 : Env0 P w K mg base A outer s H) (hl : vs.length = ps.length) (r : Vals vs us)
    (x : InCallC s s.heap.objs.size (bindL (envOfC qual scope s.heap.objs.size f cd).kindOf (ps.zip us) fun _ => none) (cellsFrom (s.heap.objs.size + 1) scope.names []) (bindC (envOfC qual scope s.heap.objs.size f cd).kindOf (ps.zip us) fun _ => none) s1) :
    Inv (cxOf CX P w K mg base N qual scope f cd A outer s H E) [] (start N vs) H s1 := by
  have hpl : ps.length ≤ N.length := by have := congrArg List.length S.pre; rw [List.length_take] at this; omega
  obtain ⟨h1, tk, rfl, hk⟩ := x.done
  have noA : ∀ b : Addr, b ∉ (cxOf CX P w K mg base N qual scope f cd A outer s H E).ex := fun b z => absurd (show b ∈ ([] : List Addr) from z) (by simp)
  refine ⟨⟨e0.mod, S.kind, rfl, rfl, Nat.le_refl _, fun y z c h1 h2 => ?_, fun y hy => ?_, fun y c _ h => ?_, fun _ => hd, Around.frames_deeper e0.frames, .inr ⟨rfl, rfl⟩, fun b z => absurd z (noA b), e0.bs, e0.bsz, fun b _ _ => noA b, fun b z => absurd z (noA b), e0.funs, e0.frf⟩,
    rfl, e0.bare, Un.kept hk, ⟨_, x.toInCall.ns, fun i y v h1 h2 h3 => ?_⟩, fun y c h => ⟨_, x.cell y c h⟩, e0.hok.fresh (Nat.le_refl _), fun y c h => ?_, fun p hp => absurd (show p ∈ ([] : List (Addr × Obj)) from hp) (by simp), e0.hok.kept hk, ?_⟩
  · exact name_of_addr x.apart (PySem.mem_of_lookup h1) (PySem.mem_of_lookup h2)
  · have hy : scope.names.lookup y = some .cell ∨ scope.names.lookup y = some .free := hy
    rcases hy with hy | hy
    · exact cell_has hy
    · exact absurd rfl (S.nofree _ (PySem.mem_of_lookup hy))
  · exact Nat.le_of_lt (x.above y c (PySem.mem_of_lookup h))
  · have hi : i < vs.length := by
      unfold start at h2
      by_cases hi : i < vs.length
      · exact hi
      · rw [List.getElem?_append_right (by simpa using hi)] at h2
        rw [List.getElem?_replicate] at h2
        split at h2 <;> cases h2
    have ha : vs[i]? = some v := by
      unfold start at h2
      rw [List.getElem?_append_left (by simpa using hi), List.getElem?_map] at h2
      cases e : vs[i]? with
      | none => rw [e] at h2; cases h2
      | some a => rw [e] at h2; cases h2; rfl
    obtain ⟨u, hu, rv⟩ := r.get ha
    have hp : ps[i]? = some y := by
      rw [← S.pre, List.getElem?_take_of_lt (by omega)]; exact h1
    have ndP : ps.Nodup := by rw [← S.pre]; exact S.nd.sublist (List.take_sublist _ _)
    refine ⟨u, rv, ?_⟩
    rcases S.par y (List.mem_of_getElem? hp) with k | k
    · exact .inl ⟨k, bindL_get ndP hp hu k⟩
    · obtain ⟨c, e⟩ := cell_has (n := s.heap.objs.size + 1) k
      refine .inr ⟨.inl k, c, e, ?_⟩
      have q := x.cell y c e
      rw [bindC_get ndP hp hu (by show scope.names.lookup y ≠ _; rw [k]; decide)] at q
      exact q
  · exact e0.hok.fresh (Nat.le_of_lt (x.above y c (PySem.mem_of_lookup h)))
  · unfold start
    show _ = N.length
    rw [List.length_append, List.length_map, List.length_replicate]
    omega

/-- THE RULE: a def (or a method) of the text, by its body. The body's reading t is chosen for each entry; it is run at the parameters' values -/
theorem fn_of {CX : CXT} {P : Program} {w : World} {K : PySem.W.Frag} {mg : Str → Option Value} {base : Heap} {k : Nat} {f : Addr} {name qual : Str} {params : Arguments} {body : List Stmt} {scope : Scope} {dV kV doc pm cdv ct oc : Value} {an od : Option Addr}
    {osl : Array (Option Value)} {N ps : List Str} {sp : Sp} (lk : K.lookup f = some ⟨oc, od, .func (PySem.W.fnOf name qual params body scope dV kV doc pm an cdv ct), osl⟩) (hcd : PySem.W.codeIn K cdv qual = true) (S : FnScope N ps scope)
    (len : ∀ vs H Q E, sp vs H Q E → vs.length = ps.length)
    (hbody : ∀ (A : Around) (outer : List Env) (s : Shared) (H : Hp) (vs : List V) (Q : VK) (E : XK), Room k (A.deeper (envOfC qual scope s.heap.objs.size f cdv)) → sp vs H Q E →
      ∃ t, PSs (cxOf CX P w K mg base N qual scope f cdv A outer s H E) body t ∧ t { nx := fun _ H' => Q .non H', rt := Q } (start N vs) H) :
    FnOk P w K mg base CX (k + 1) f (PySem.W.fnOf name qual params body scope dV kV doc pm an cdv ct) ps sp := by
  refine ⟨len, fun A outer s H args us vs Q E hr e0 hb r hsp => ?_⟩
  have hl := len _ _ _ _ hsp
  have KX : K.In s.heap := e0.mod.kin.keeps fun b o e => (e0.bs b o e).1
  have lim : s.heap.NoLimit := e0.mod.nolimit.keeps fun b o e => (e0.bs b o e).1
  have hkind : ∀ y ∈ ps.zip us, scope.names.lookup y.1 = some .local ∨ (scope.names.lookup y.1 = some .cell ∧ ((cellsFrom (s.heap.objs.size + 1) scope.names []).lookup y.1).isSome = true) := fun ⟨n, v⟩ hy => by
    rcases S.par n (List.of_mem_zip hy).1 with q | q
    · exact .inl q
    · exact .inr ⟨q, PySem.W.cellsFrom_some _ _ _ (.inl q)⟩
  refine codeAny_call_function hr.depth (KX _ _ lk) rfl S.co S.gen rfl (PySem.W.codeRec_of KX hcd) (hb _ _ _ _ ?_)
  refine wpAny_newFunctionEnv_cells S.kind hkind fun env he s1 x => ?_
  subst he
  refine ⟨lim.keeps x.toInCall.keep, codeAny_func ?_⟩
  obtain ⟨t, ht, hq⟩ := hbody A outer s H vs Q E (hr.deeper _) hsp
  have I : Inv (cxOf CX P w K mg base N qual scope f cdv A outer s H E) [] (start N vs) H s1 := inv_start S hr.hd e0 hl r x
  refine wpAny_mono (ht [] s1 (start N vs) H _ I hq) (fun fl s' hs => ?_) fun e s' hs => hs
  have fin : ∀ {σ' : St} {H' : Hp} {v : V} {u : Value}, Inv (cxOf CX P w K mg base N qual scope f cdv A outer s H E) [] σ' H' s' → RelV v u → Q v H' → CE outer P w H s Q u s' :=
    fun {σ' H' v u} J rv q => ⟨v, H', J.os, J.bare, J.base, J.hok, rv, q⟩
  cases fl with
  | ret u =>
    obtain ⟨v, σ', H', J, rv, q⟩ := hs
    exact fin J rv q
  | next =>
    obtain ⟨σ', H', J, q⟩ := hs
    exact fin (v := V.non) (u := Value.none) J rfl q
  | brk =>
    obtain ⟨_, _, _, q⟩ := hs
    exact False.elim q
  | cont =>
    obtain ⟨_, _, _, q⟩ := hs
    exact False.elim q
end L2

namespace L2
open PySem PySem.Spec PyProof.Rows
section
variable {X : Cx} {x : Str} {p pos : Pos} {e : Expr} {es : List Expr} {t : TA} {id T : String} {r : List V → Hp → VK → Prop}

def tCB (r : List V → Hp → VK → Prop) (t : TA) : TE := fun σ H Q => t σ H fun vs H1 => r vs H1 Q
/-- f(e, ..), f a built-in function -/
theorem pe_callB (hc : CallR X (.builtin id) r) (hg : Gl X x) (hm : X.mg x = none) (hv : bootBuiltins x = some (.builtin id)) (ha : PA X (e :: es) t) (hn : x ≠ "__name__" := by decide) (hdb : (x == ("__debug__" : Str)) = false := by decide)
    (he : starEach (e :: es) X.env = (false, eval e X.env) :: starEach es X.env := by rfl) (hpl : (backTo pos (starEach es X.env)).any (·.1) = false := by rfl) : PE X (.Call (.Name x p) (e :: es) [] pos) (tCB r t) := by
  intro pins s σ H Q I h
  refine wpAny_Call_Name_kw (ld_blt I hg hm hv ?_ hn hdb)
  exact PyProof.Rows.callWith_builtin1 (thn (ha pos pins s σ H _ I h) fun us s1 ⟨vs, H1, I1, r1, q1⟩ => hc pins s1 σ H1 vs us Q I1 r1 q1) he hpl
/-- T(e, ..), T a built-in type -/
theorem pe_callTy (hc : CallR X (.type T) r) (hg : Gl X x) (hm : X.mg x = none) (hv : bootBuiltins x = some (.type T)) (ha : PA X (e :: es) t) (hn : x ≠ "__name__" := by decide) (hdb : (x == ("__debug__" : Str)) = false := by decide)
    (he : starEach (e :: es) X.env = (false, eval e X.env) :: starEach es X.env := by rfl) (hpl : (backTo pos (starEach es X.env)).any (·.1) = false := by rfl) : PE X (.Call (.Name x p) (e :: es) [] pos) (tCB r t) := by
  intro pins s σ H Q I h
  refine wpAny_Call_Name_kw (ld_blt I hg hm hv ?_ hn hdb)
  exact PyProof.Rows.callWith_type1 (thn (ha pos pins s σ H _ I h) fun us s1 ⟨vs, H1, I1, r1, q1⟩ => hc pins s1 σ H1 vs us Q I1 r1 q1) he hpl
/-- T() -/
theorem pe_callTy0 (hc : CallR X (.type T) r) (hg : Gl X x) (hm : X.mg x = none) (hv : bootBuiltins x = some (.type T)) (hn : x ≠ "__name__" := by decide) (hdb : (x == ("__debug__" : Str)) = false := by decide) :
    PE X (.Call (.Name x p) [] [] pos) (tCB r tNil) := by
  intro pins s σ H Q I h
  refine wpAny_Call_Name_kw (ld_blt I hg hm hv ?_ hn hdb)
  exact PyProof.Rows.callWith_type0 (hc pins s σ H [] [] Q I .nil h)
end
end L2

namespace HT
open PySem PyProof.Rows

/-- t < u of tuples of ints -/
def lexLt : List Int → List Int → Bool
  | [], [] => false
  | [], _ :: _ => true
  | _ :: _, [] => false
  | x :: xs, y :: ys => if x = y then lexLt xs ys else decide (x < y)
theorem lexLt_cons (x y : Int) (xs ys : List Int) : lexLt (x :: xs) (y :: ys) = if x = y then lexLt xs ys else decide (x < y) := rfl
theorem lexLt_nil_nil : lexLt [] [] = false := rfl
theorem lexLt_nil_cons (y : Int) (ys : List Int) : lexLt [] (y :: ys) = true := rfl
theorem lexLt_cons_nil (x : Int) (xs : List Int) : lexLt (x :: xs) [] = false := rfl

theorem eqAt_int (A : Around) (s : Shared) (a : Int) (t : Tok) (c : Int) (u : Tok) : ∃ e, SeqAt.EqAt A s (.int a t) (.int c u) e ∧ (e = true ↔ a = c) :=
  ⟨(a == c), SeqAt.EqAt.int_int a t c u, by simp⟩
theorem rcLt_int (A : Around) (s : Shared) (a : Int) (t : Tok) (c : Int) (u : Tok) (prog : Program) (w : World) (E : Value → Shared → Prop) (Q : Value → Shared → Prop) (h : Q (.bool (decide (a < c))) s) :
    wpAny (model prog w) A (richCompare .Lt (.int a t) (.int c u)) Q E s :=
  (PyProof.Rows.lt_int h : wpAny (model prog w) A (compareOp .Lt (.int a t) (.int c u)) Q E s)

section
open PySem.SeqAt
open PySem.AutoSeq1 (wpAny_loadPart')
open PySem.MeetsSeq PySem.MeetsSeq2 PySem.MeetsSeq3

theorem tuple_lt_ints (l b : Addr) (items items2 : Array Value) (n n2 : Nat) (dd dd2 : Option Addr) (sl sl2 : Array (Option Value)) (ns ms : List Int) (hi : IntsAre items.toList ns) (hj : IntsAre items2.toList ms) :
    Meets (Builtin.«tuple.__lt__» ⟨[.ref l, .ref b], []⟩)
      (fun _ R s => s.heap.get? l = some { cls := .type "tuple", dict := dd, data := .seq items n, slots := sl } ∧ s.heap.get? b = some { cls := .type "tuple", dict := dd2, data := .seq items2 n2, slots := sl2 } ∧
        R (.ok (.ret (.bool (lexLt ns ms)))) s) :=
  .of_wp fun prog w A R s h => by
    obtain ⟨hp, g, d, tk, os⟩ := s; obtain ⟨hl, hb, h⟩ := h
    have f2 := AutoSeq1.sub_tuple_tuple
    have z1 : items.size = ns.length := by rw [← hi.length]; simp
    have z2 : items2.size = ms.length := by rw [← hj.length]; simp
    wp_walk using wpAny_loadPart' hl, wpAny_loadPart' hb, wpAny_forIn_list _ (fun rest b s' => b.1 = none ∧ s' = ⟨hp, g, d, tk, os⟩ ∧ ∃ (vs ws : List Value) (ns' ms' : List Int), rest = vs.zip ws ∧
      IntsAre vs ns' ∧ IntsAre ws ms' ∧ ns'.length + items2.size = ms'.length + items.size ∧ R (.ok (.ret (.bool (lexLt ns' ms')))) ⟨hp, g, d, tk, os⟩) _
    case turn =>
      rintro ⟨y, x⟩ rest b s' ⟨hb', rfl, vs, ws, ns', ms', hz, hvi, hwi, hlen, hR⟩
      cases hvi with
      | nil => rw [List.zip_nil_left] at hz; cases hz
      | cons a t hvi' =>
        cases hwi with
        | nil => rw [List.zip_nil_right] at hz; cases hz
        | cons c u hwi' =>
          rw [List.zip_cons_cons] at hz
          injection hz with hyx hrest
          injection hyx with hy hx
          subst hy hx
          rw [lexLt_cons] at hR
          simp only [List.length_cons] at hlen
          obtain ⟨e, he, hiff⟩ := eqAt_int A.in1 ⟨hp, g, d, tk, os⟩ a t c u
          refine wpAny_bind (he prog w _ _ ?_)
          cases e with
          | true =>
            rw [if_pos (hiff.mp rfl)] at hR
            wp_walk
            exact ⟨rfl, rfl, _, _, _, _, hrest, hvi', hwi', by omega, hR⟩
          | false =>
            rw [if_neg (fun q => absurd (hiff.mpr q) Bool.false_ne_true)] at hR
            have hri := rcLt_int A.in1 ⟨hp, g, d, tk, os⟩ a t c u prog w
            wp_walk using hri
            exact ⟨_, rfl, by simpa using hR⟩
    case fin =>
      rintro ⟨b1, b2⟩ s' ⟨hb', rfl, vs, ws, ns', ms', hz, hvi, hwi, hlen, hR⟩
      simp only at hb'
      subst hb'
      have hv : lexLt ns' ms' = decide (items.size < items2.size) := by
        cases hvi with
        | nil =>
          cases hwi with
          | nil =>
            simp only [List.length_nil] at hlen
            rw [lexLt_nil_nil]
            exact (decide_eq_false (by omega)).symm
          | cons c u hw =>
            simp only [List.length_nil, List.length_cons] at hlen
            rw [lexLt_nil_cons]
            exact (decide_eq_true (by omega)).symm
        | cons a t hv =>
          cases hwi with
          | nil =>
            simp only [List.length_nil, List.length_cons] at hlen
            rw [lexLt_cons_nil]
            exact (decide_eq_false (by omega)).symm
          | cons c u hw =>
            rw [List.zip_cons_cons] at hz
            cases hz
      rw [hv] at hR
      wp_walk
      exact ⟨_, rfl, by simpa [Builtin.Tuple.tupleCompareSizes] using hR⟩
    case h =>
      exact ⟨rfl, rfl, items.toList, items2.toList, ns, ms, rfl, hi, hj, by omega, h⟩
end

section
variable {prog : Program} {w : World} {A : Around} {E : Value → Shared → Prop} {s : Shared}

theorem lt_tupInts {l b : Addr} {items items2 : Array Value} {ns ms : List Int} {Q : Value → Shared → Prop} (hl : IsTup s.heap l items) (hb : IsTup s.heap b items2) (hi : IntsAre items.toList ns) (hj : IntsAre items2.toList ms)
    (hu : A.units < cLine) (h : Q (.bool (lexLt ns ms)) s) : wpAny (model prog w) A (compareOp .Lt (.ref l) (.ref b)) Q E s := by
  obtain ⟨⟨cls, dd, data, sl⟩, ho, hc, n, hd⟩ := id hl
  obtain ⟨⟨cls2, dd2, data2, sl2⟩, ho2, hc2, n2, hd2⟩ := id hb
  simp only at hc hd hc2 hd2
  subst hc hd hc2 hd2
  exact richCompare_meets_room (op := .Lt) ⟨_, ho, rfl⟩ ⟨_, ho2, rfl⟩ PySem.F.slot_tuple_lt PySem.F.entry_tuple_lt (PySem.F.args_tuple_lt_2 _ _) (tuple_lt_ints l b items items2 n n2 dd dd2 sl sl2 ns ms hi hj)
    ⟨ho, ho2, show Value.bool (lexLt ns ms) ≠ Value.notImplemented ∧ Q (.bool (lexLt ns ms)) s from ⟨(fun x => nomatch x), h⟩⟩ hu

/-- t + u, t not empty -/
theorem cat_tup {t b : Addr} {vs ws : List Value} {Q : Value → Shared → Prop} (ht : IsTup s.heap t vs.toArray) (hb : IsTup s.heap b ws.toArray) (hv : vs ≠ [])
    (h1 : ws = [] → Q (.ref t) s) (h2 : ws ≠ [] → Q (.ref s.heap.objs.size) { s with heap := s.heap.push { cls := .type "tuple", data := .seq (vs ++ ws).toArray } })
    (hsz : vs.length + ws.length ≤ sizeLine) : wpAny (model prog w) A (binaryOp .Add (.ref t) (.ref b)) Q E s := by
  obtain ⟨⟨cls, dd, data, sl⟩, ho, hc, n, hd⟩ := id ht
  obtain ⟨⟨cls2, dd2, data2, sl2⟩, ho2, hc2, n2, hd2⟩ := id hb
  simp only at hc hd hc2 hd2
  subst hc hd hc2 hd2
  have e : vs.toArray ++ ws.toArray = (vs ++ ws).toArray := by simp
  by_cases hw : ws = []
  · exact concat_meets ⟨_, ho, rfl⟩ ⟨_, ho2, rfl⟩ noFill_tuple_add seq_tuple_add PySem.F.slot_tuple_add PySem.F.entry_tuple_add (PySem.F.args_tuple_add_2 _ _)
      (tuple_addW1 t b vs.toArray ws.toArray n n2 dd dd2 sl sl2 (by simpa using hv) (by simp [hw])) ⟨ho, ho2, h1 hw⟩
  · refine concat_meets ⟨_, ho, rfl⟩ ⟨_, ho2, rfl⟩ noFill_tuple_add seq_tuple_add PySem.F.slot_tuple_add PySem.F.entry_tuple_add (PySem.F.args_tuple_add_2 _ _)
      (tuple_addW2 t b vs.toArray ws.toArray n n2 dd dd2 sl sl2 (by simpa using hv) (by simpa using hw) (by rw [List.size_toArray, List.size_toArray]; exact hsz)) ⟨ho, ho2, ?_⟩
    rw [e]
    exact h2 hw

/-! ### t[a:b], not the whole -/
/-- a slice's bound as a place among n (d where it is left out) -/
def sIx (n d : Nat) : Option Int → Nat
  | none => d
  | some v => if v < 0 then (v + (n : Int)).toNat else min v.toNat n
theorem sIx_none (n d : Nat) : sIx n d none = d := rfl
theorem sIx_nat (n d k : Nat) : sIx n d (some (k : Int)) = min k n := by
  show (if (k : Int) < 0 then ((k : Int) + (n : Int)).toNat else min (k : Int).toNat n) = min k n
  rw [if_neg (by omega), Int.toNat_natCast]
theorem sIx_le (n d : Nat) (hd : d ≤ n) (o : Option Int) : sIx n d o ≤ n := by
  cases o with
  | none => exact hd
  | some v =>
    show (if v < 0 then (v + (n : Int)).toNat else min v.toNat n) ≤ n
    by_cases hv : v < 0
    · rw [if_pos hv]; omega
    · rw [if_neg hv]; exact Nat.min_le_right _ _
theorem clip_eq (v : Int) (n d : Nat) : (if v < 0 then max (v + (n : Int)) 0 else min v (n : Int)) = ((sIx n d (some v) : Nat) : Int) := by
  show (if v < 0 then max (v + (n : Int)) 0 else min v (n : Int)) = (((if v < 0 then (v + (n : Int)).toNat else min v.toNat n) : Nat) : Int)
  by_cases hv : v < 0
  · simp only [if_pos hv]; omega
  · simp only [if_neg hv]; omega
theorem adjust_gen (lo hi : Option Int) (n : Nat) : Builtin.Slice.sliceAdjust lo hi 1 (n : Int) = (((sIx n 0 lo : Nat) : Int), ((sIx n n hi : Nat) : Int)) := by
  have h1 : ¬ ((1 : Int) < 0) := by omega
  unfold Builtin.Slice.sliceAdjust
  simp only [h1, if_false]
  refine Prod.ext ?_ ?_
  · cases lo with
    | none => rfl
    | some v => exact clip_eq v n 0
  · cases hi with
    | none => rfl
    | some v => exact clip_eq v n n
theorem places_gen (i j : Nat) : Builtin.Slice.slicePlaces (i : Int) (j : Int) 1 = j - i := by
  unfold Builtin.Slice.slicePlaces
  have h1 : (1 : Int) > 0 := by omega
  simp only [h1, if_true, Int.ediv_one]
  split <;> omega
theorem slicePart_ {v : Value} {o : Option Int} {Q : Option Int → Shared → Prop} (p : IsPart v o) (h : Q o s) : wpAny (model prog w) A (Builtin.Slice.slicePartIndex v) Q E s := by
  cases p with
  | none => exact slicePart_none h
  | int i t => exact slicePart_int h
theorem sliceApplied_gen {sl : Addr} {vl vu : Value} {lo hi : Option Int} {n : Nat} {Q : Int × Int × Nat → Shared → Prop} (hs : s.heap.IsSliceOf sl vl vu .none) (pl : IsPart vl lo) (pu : IsPart vu hi)
    (h : Q (((sIx n 0 lo : Nat) : Int), 1, sIx n n hi - sIx n 0 lo) s) : wpAny (model prog w) A (Builtin.Slice.sliceApplied (.ref sl) (pure (n : Int))) Q E s := by
  obtain ⟨os, hos, hcs, hds⟩ := id hs
  unfold Builtin.Slice.sliceApplied Builtin.Slice.sliceFields
  refine wpAny_bind (wpAny_bind (wpAny_field hos hds (x := vl) rfl (wpAny_bind (wpAny_field hos hds (x := vu) rfl (wpAny_bind (wpAny_field hos hds (x := .none) rfl (wpAny_pure ?_)))))))
  refine wpAny_bind (slicePart_none ?_)
  show wpAny _ _ (if ((1 : Int) == 0) = true then _ else _) _ _ s
  rw [if_neg (by decide)]
  refine wpAny_bind (slicePart_ pl (wpAny_bind (slicePart_ pu (wpAny_bind (wpAny_pure ?_)))))
  show wpAny _ _ (match Builtin.Slice.sliceAdjust lo hi 1 (n : Int) with | (lo, hi) => pure (lo, (1 : Int), Builtin.Slice.slicePlaces lo hi 1)) _ _ s
  rw [adjust_gen lo hi n]
  show wpAny _ _ (pure (((sIx n 0 lo : Nat) : Int), (1 : Int), Builtin.Slice.slicePlaces ((sIx n 0 lo : Nat) : Int) ((sIx n n hi : Nat) : Int) 1)) _ _ s
  rw [places_gen]
  exact wpAny_pure h
theorem pick_gen (xs : Array Value) (i k : Nat) : ((List.range k).filterMap fun (m : Nat) => xs[((i : Int) + (m : Int) * 1).toNat]?).toArray = ((xs.toList.drop i).take k).toArray := by
  have e : (fun (m : Nat) => xs[((i : Int) + (m : Int) * 1).toNat]?) = fun m => xs[i + m]? := by
    funext m
    have : ((i : Int) + (m : Int) * 1).toNat = i + m := by omega
    rw [this]
  rw [e]
  have := pick_run xs i k
  rw [List.filterMap_map] at this
  have e2 : ((fun x => xs[x]?) ∘ fun x => i + x) = fun m => xs[i + m]? := rfl
  rw [e2] at this
  rw [this]

theorem getItem_tuple_cut {t sl : Addr} {items : Array Value} {vl vu : Value} {lo hi : Option Int} {Q : Value → Shared → Prop} (ht : IsTup s.heap t items) (hs : s.heap.IsSliceOf sl vl vu .none) (pl : IsPart vl lo) (pu : IsPart vu hi)
    (hw : ¬ (sIx items.size 0 lo = 0 ∧ sIx items.size items.size hi = items.size))
    (h : Q (.ref s.heap.objs.size) { s with heap := s.heap.push { cls := .type "tuple", data := .seq ((items.toList.drop (sIx items.size 0 lo)).take (sIx items.size items.size hi - sIx items.size 0 lo)).toArray } })
    (hsz : items.size ≤ sizeLine) : wpAny (model prog w) A (getItem (.ref t) (.ref sl)) Q E s := by
  have htake : sizeOk (.seq ((items.toList.drop (sIx items.size 0 lo)).take (sIx items.size items.size hi - sIx items.size 0 lo)).toArray) := by
    show ((items.toList.drop (sIx items.size 0 lo)).take (sIx items.size items.size hi - sIx items.size 0 lo)).toArray.size ≤ sizeLine
    rw [List.size_toArray, List.length_take, List.length_drop, Array.length_toList]
    omega
  have hj : sIx items.size items.size hi ≤ items.size := sIx_le _ _ (Nat.le_refl _) hi
  obtain ⟨os, hos, hcs, hds⟩ := id hs
  have hTs : s.TypeIs (.ref sl) "slice" := ⟨os, hos, hcs⟩
  unfold getItem
  try with_reducible refine wpAny_holding ?_
  first | refine wpAny_bind (wpAny_pure ?_) | skip
  refine wpAny_bind (wpAny_sequenceKey ht.typeIs (by decide) ?_)
  refine wpAny_bind (wpAny_callSpecial?_slot (name := Str.ofString "__getitem__") ht.typeIs PyProof.Rows.slot_tuple_getitem
    (wpAny_call_entry PyProof.Rows.slot_tuple_getitem ht.typeIs entry_tuple_getitem ?_ (args_tuple_getitem _ _)))
  show wpAny _ _ (Builtin.Tuple.tupleItemsOf (.ref t) >>= _) _ _ s
  refine wpAny_bind (tupleItemsOf_ ht ?_)
  refine wpAny_bind (wpAny_typeOf hTs ?_)
  rw [if_pos (by decide)]
  refine wpAny_bind (sliceApplied_gen hs pl pu ?_)
  have hno : ¬ ((((sIx items.size 0 lo : Nat) : Int) == 0 && (1 : Int) == 1 && (sIx items.size items.size hi - sIx items.size 0 lo) == items.size) = true) := by
    intro q
    rw [Bool.and_eq_true, Bool.and_eq_true] at q
    have q1 : ((sIx items.size 0 lo : Nat) : Int) = 0 := eq_of_beq q.1.1
    have q2 : sIx items.size items.size hi - sIx items.size 0 lo = items.size := eq_of_beq q.2
    exact hw ⟨by omega, by omega⟩
  show wpAny _ _ (if (((sIx items.size 0 lo : Nat) : Int) == 0 && (1 : Int) == 1 && (sIx items.size items.size hi - sIx items.size 0 lo) == items.size) = true then _ else _) _ _ s
  rw [if_neg hno, pick_gen]
  first
    | exact wpAny_bind (m := Builtin.Tuple.tupleExact _) (wpAny_newObj_type (wpAny_pure ⟨_, rfl, wpAny_pure h⟩) htake)
    | exact wpAny_bind (m := Builtin.Tuple.tupleExact _) (wpAny_newObj_type (wpAny_bind (wpAny_pure (wpAny_pure ⟨_, rfl, wpAny_pure h⟩))) htake)
    | exact wpAny_bind (wpAny_bind (m := Builtin.Tuple.tupleExact _) (wpAny_newObj_type (wpAny_pure (wpAny_pure ⟨_, rfl, wpAny_pure h⟩)) htake))
    | exact wpAny_bind (wpAny_bind (m := Builtin.Tuple.tupleExact _) (wpAny_newObj_type (wpAny_pure ⟨_, rfl, wpAny_pure h⟩) htake))
end
end HT

namespace L2
open PySem PySem.Spec PyProof.Rows

/-! ### the parts of a slice -/
abbrev TO := St → Hp → (Option Int → Hp → Prop) → Prop
/-- a slice's part (left out, or an int) -/
def PO (X : Cx) (e : Option Expr) (t : TO) : Prop :=
  ∀ (pins : List (Addr × Obj)) (s : Shared) (σ : St) (H : Hp) (Q : Option Int → Hp → Prop), Inv X pins σ H s → t σ H Q →
    wpAny (model X.prog X.w) X.A (evalPart e X.env) (fun u s' => ∃ o H', Inv X pins σ H' s' ∧ IsPart u o ∧ Q o H') X.xe s
def tNoPart : TO := fun _ H Q => Q none H
def tPart (t : TE) : TO := fun σ H Q => t σ H fun x H1 => ∃ i, x = .int i ∧ Q (some i) H1

theorem intsAre_of {ns : List Int} : ∀ {us : List Value}, Vals (ns.map V.int) us → IntsAre us ns := by
  induction ns with
  | nil => intro us r; rw [List.map_nil] at r; cases r; exact .nil
  | cons n ns ih =>
    intro us r
    rw [List.map_cons] at r
    cases r with
    | cons r1 r2 =>
      obtain ⟨t, e⟩ := r1
      subst e
      exact .cons n t (ih r2)

section
variable {X : Cx} {e : Expr} {te : TE} {lo hi : Option Expr} {tl th : TO} {pos p2 : Pos}

theorem po_none : PO X none tNoPart := by
  intro pins s σ H Q I h
  rw [evalPart_none]
  exact wpAny_pure ⟨none, H, I, .none, h⟩
theorem po_some (h : PE X e te) : PO X (some e) (tPart te) := by
  intro pins s σ H Q I hw
  rw [evalPart_some]
  refine thn (h pins s σ H _ I hw) fun u s1 ⟨x, H1, I1, r1, q1⟩ => ?_
  obtain ⟨i, rfl, q⟩ := q1
  obtain ⟨t, rfl⟩ := r1
  exact ⟨some i, H1, I1, .int i t, q⟩

/-- what a slice of a value is, by values: the slice object stands at sl -/
def SlR (X : Cx) (r : V → Option Int → Option Int → Hp → VK → Prop) : Prop :=
  ∀ (pins : List (Addr × Obj)) (s : Shared) (σ : St) (H : Hp) (x : V) (v vl vu : Value) (lo hi : Option Int) (sl : Addr) (Q : VK), Inv X pins σ H s → RelV x v → s.heap.IsSliceOf sl vl vu .none → IsPart vl lo → IsPart vu hi → r x lo hi H Q →
    ∃ T id, typeLookup (.type T) "__getitem__" = pure (some (.builtin id)) ∧ s.TypeIs v T ∧ wpAny (model X.prog X.w) X.A (getItem v (.ref sl)) (EP X pins σ Q) X.xe s
theorem SlR.or {r r' : V → Option Int → Option Int → Hp → VK → Prop} (h : SlR X r) (h' : SlR X r') : SlR X (fun x lo hi H Q => r x lo hi H Q ∨ r' x lo hi H Q) := by
  intro pins s σ H x v vl vu lo hi sl Q I rx hs pl pu q
  rcases q with q | q
  · exact h pins s σ H x v vl vu lo hi sl Q I rx hs pl pu q
  · exact h' pins s σ H x v vl vu lo hi sl Q I rx hs pl pu q
def tSl (r : V → Option Int → Option Int → Hp → VK → Prop) (te : TE) (tl th : TO) : TE := fun σ H Q => te σ H fun x H1 => tl σ H1 fun l H2 => th σ H2 fun u H3 => r x l u H3 Q
/-- a[lo:hi], any a -/
theorem pe_slice {r : V → Option Int → Option Int → Hp → VK → Prop} (hr : SlR X r) (he : PE X e te) (hl : PO X lo tl) (hu : PO X hi th) : PE X (.Subscript e (.Slice lo hi none p2) pos) (tSl r te tl th) := by
  intro pins s σ H Q I h
  refine Subscript_ (thn (he pins s σ H _ I h) fun v s1 ⟨x, H1, I1, r1, q1⟩ => ?_)
  refine wpAny_Slice (thn (hl pins s1 σ H1 _ I1 q1) fun vl s2 ⟨l, H2, I2, pl, q2⟩ => thn (hu pins s2 σ H2 _ I2 q2) fun vu s3 ⟨u, H3, I3, pu, q3⟩ => ?_)
  rw [evalPart_none]
  refine wpAny_pure ?_
  have I4 : Inv X pins σ H3 { s3 with heap := s3.heap.push { cls := .type "slice", data := .fields #[vl, vu, .none] } } := I3.kept (t' := s3.toks) fun b ob q => Heap.get?_push_of_some _ q
  obtain ⟨T, id, hT, ht, hg⟩ := hr pins { s3 with heap := s3.heap.push { cls := .type "slice", data := .fields #[vl, vu, .none] } } σ H3 x v vl vu l u s3.heap.objs.size Q I4 r1 (Heap.IsSliceOf.new ..) pl pu q3
  show wpAny (model X.prog X.w) X.A (subscriptTail e (.Slice lo hi none p2) v (.ref s3.heap.objs.size)) (EP X pins σ Q) X.xe { s3 with heap := s3.heap.push { cls := .type "slice", data := .fields #[vl, vu, .none] } }
  exact tail_any (ops := [.ref s3.heap.objs.size, v]) ht hT hg (by with_unfolding_all rfl)

/-- the items of xs[lo:hi] -/
def cutV (xs : List V) (lo hi : Option Int) : List V := (xs.drop (HT.sIx xs.length 0 lo)).take (HT.sIx xs.length xs.length hi - HT.sIx xs.length 0 lo)
theorem cutV_length (xs : List V) (lo hi : Option Int) : (cutV xs lo hi).length ≤ xs.length := by
  unfold cutV
  rw [List.length_take, List.length_drop]
  omega
/-- t[lo:hi], not the whole of it (the whole would be t itself) -/
def rSlT (K : PySem.W.Frag) : V → Option Int → Option Int → Hp → VK → Prop := fun x lo hi H Q => ∃ a xs, x = .ref a ∧ SqT K H a xs ∧
  ¬ (HT.sIx xs.length 0 lo = 0 ∧ HT.sIx xs.length xs.length hi = xs.length) ∧ ∀ p, H p = none → Q (.ref p) (upd H p (.tup (cutV xs lo hi)))
theorem sl_tup : SlR X (rSlT X.K) := by
  intro pins s σ H x v vl vu lo hi sl Q I rx hs pl pu h
  obtain ⟨a, xs, rfl, hx, hw, q⟩ := h
  cases rx
  obtain ⟨its, r, ht, hz⟩ := I.tuple hx
  have hlen : its.toArray.size = xs.length := by rw [List.size_toArray]; exact r.length.symm
  refine ⟨"tuple", _, PyProof.Rows.slot_tuple_getitem.lookup, ht.typeIs, ?_⟩
  refine HT.getItem_tuple_cut ht hs pl pu (by rw [hlen]; exact hw) ?_ (by rw [hlen]; exact hz)
  rw [hlen]
  refine ⟨.ref s.heap.objs.size, _, I.laid (t' := s.toks) (o := .tup (cutV xs lo hi)) (fun b ob q => Heap.get?_push_of_some _ q) (Nat.le_refl _) ?_, rfl, q _ (I.hok.fresh (Nat.le_refl _))⟩
  exact ⟨Nat.le_trans (cutV_length xs lo hi) hz, _, (r.drop (HT.sIx xs.length 0 lo)).take (HT.sIx xs.length xs.length hi - HT.sIx xs.length 0 lo), IsTup.new _ _⟩

/-! ### t < u, t + u -/
def rLtT (K : PySem.W.Frag) : R2 := fun x y H Q => ∃ a b ns ms, x = .ref a ∧ y = .ref b ∧ SqT K H a (ns.map V.int) ∧ SqT K H b (ms.map V.int) ∧ Q (.bl (HT.lexLt ns ms)) H
theorem op_ltT (hu : X.A.units < cLine) : OpR X (compareOp .Lt) (rLtT X.K) := by
  intro pins s σ H x y v u Q I rx ry h
  obtain ⟨a, b, ns, ms, rfl, rfl, ha, hb, q⟩ := h
  cases rx
  cases ry
  obtain ⟨its, r1, p1, _⟩ := I.tuple ha
  obtain ⟨its2, r2, p2, _⟩ := I.tuple hb
  have i1 : IntsAre its.toArray.toList ns := intsAre_of r1
  have i2 : IntsAre its2.toArray.toList ms := intsAre_of r2
  exact HT.lt_tupInts p1 p2 i1 i2 hu ⟨.bl (HT.lexLt ns ms), H, I, rfl, q⟩
/-- t + u, t not empty: u empty gives t itself -/
def rCatT (K : PySem.W.Frag) : R2 := fun x y H Q => ∃ a b xs ys, x = .ref a ∧ y = .ref b ∧ SqT K H a xs ∧ SqT K H b ys ∧ xs ≠ [] ∧ xs.length + ys.length ≤ sizeLine ∧
  (ys = [] → Q (.ref a) H) ∧ (ys ≠ [] → ∀ p, H p = none → Q (.ref p) (upd H p (.tup (xs ++ ys))))
theorem Vals.nil_iff {xs : List V} {us : List Value} (r : Vals xs us) : us = [] ↔ xs = [] := by
  cases r with
  | nil => simp
  | cons _ _ => simp
theorem op_catT : OpR X (binaryOp .Add) (rCatT X.K) := by
  intro pins s σ H x y v u Q I rx ry h
  obtain ⟨a, b, xs, ys, rfl, rfl, ha, hb, hx, hz, q1, q2⟩ := h
  cases rx
  cases ry
  obtain ⟨its, r1, p1, _⟩ := I.tuple ha
  obtain ⟨its2, r2, p2, _⟩ := I.tuple hb
  refine HT.cat_tup p1 p2 (fun z => hx (r1.nil_iff.mp z)) (fun z => ⟨.ref a, H, I, rfl, q1 (r2.nil_iff.mp z)⟩) (fun z => ?_) (by rw [← r1.length, ← r2.length]; exact hz)
  refine ⟨.ref s.heap.objs.size, _, I.laid (t' := s.toks) (o := .tup (xs ++ ys)) (fun b ob q => Heap.get?_push_of_some _ q) (Nat.le_refl _) ?_, rfl, q2 (fun w => z (r2.nil_iff.mpr w)) _ (I.hok.fresh (Nat.le_refl _))⟩
  exact ⟨by rw [List.length_append]; exact hz, _, r1.append r2, IsTup.new _ _⟩
/-- tuple(t) -/
theorem call_tupleT : CallR X (.type "tuple") (fun xs H Q => ∃ a ys, xs = [.ref a] ∧ SqT X.K H a ys ∧ Q (.ref a) H) := by
  intro pins s σ H xs us Q I r h
  obtain ⟨a, ys, rfl, ha, q⟩ := h
  obtain ⟨u, rfl, ru⟩ := vals1 r
  cases ru
  obtain ⟨its, _, p1, _⟩ := I.tuple ha
  exact call_tuple_same (items := its.toArray) p1 ⟨.ref a, H, I, rfl, q⟩
end
end L2

namespace L2
open PySem PySem.Spec PyProof.Rows

/-! ### places -/
/-- the place that an index of any sign means -/
def ixN (n : Nat) (i : Int) : Option Nat := if 0 ≤ i then (if i < n then some i.toNat else none) else if -(n : Int) ≤ i then some (i + n).toNat else none
def atI {α : Type} (xs : List α) (i : Int) : Option α := (ixN xs.length i).bind fun j => xs[j]?
theorem ixN_seq {n : Nat} {i : Int} {j : Nat} (h : ixN n i = some j) : seqIndex? i n = some j ∧ j < n ∧ -(n : Int) ≤ i ∧ i < n := by
  unfold ixN at h
  by_cases h0 : 0 ≤ i
  · rw [if_pos h0] at h
    by_cases h1 : i < n
    · rw [if_pos h1] at h
      have e : i.toNat = j := Option.some.inj h
      exact ⟨by rw [seqIndex_of h0 h1, e], by omega, by omega, h1⟩
    · rw [if_neg h1] at h; cases h
  · rw [if_neg h0] at h
    by_cases h1 : -(n : Int) ≤ i
    · rw [if_pos h1] at h
      have e : (i + n).toNat = j := Option.some.inj h
      exact ⟨by rw [seqIndex_neg (by omega) h1, e], by omega, h1, by omega⟩
    · rw [if_neg h1] at h; cases h
theorem atI_get {α : Type} {xs : List α} {i : Int} {v : α} (h : atI xs i = some v) : ∃ j, seqIndex? i xs.length = some j ∧ xs[j]? = some v ∧ j < xs.length ∧ -(xs.length : Int) ≤ i ∧ i < xs.length := by
  unfold atI at h
  cases e : ixN xs.length i with
  | none => rw [e] at h; cases h
  | some j =>
    rw [e] at h
    obtain ⟨h1, h2, h3, h4⟩ := ixN_seq e
    exact ⟨j, h1, h, h2, h3, h4⟩
theorem atI_nat {α : Type} {xs : List α} {j : Nat} {v : α} (h : xs[j]? = some v) : atI xs (j : Int) = some v := by
  have hj : j < xs.length := (List.getElem?_eq_some_iff.mp h).1
  have e : ixN xs.length (j : Int) = some j := by
    unfold ixN
    rw [if_pos (by omega), if_pos (by omega)]; simp
  unfold atI; rw [e]; exact h
theorem atI_last {α : Type} (xs : List α) (v : α) : atI (xs ++ [v]) (-1) = some v := by
  have hl : (xs ++ [v]).length = xs.length + 1 := by simp
  have e : ixN (xs ++ [v]).length (-1) = some xs.length := by
    unfold ixN
    rw [hl, if_neg (by decide), if_pos (by omega)]
    congr 1
    omega
  unfold atI
  rw [e]
  show (xs ++ [v])[xs.length]? = some v
  simp

/-! ### what may be subscripted -/
/-- what stands as an index of a plain subscript -/
def PlainIx (b : Expr) : Prop := ∀ o i, subscripted b false o i = operate [o, i] (getItem o i)
/-- a subscript by values -/
def IxR (X : Cx) (r : R2) : Prop :=
  ∀ (value slice : Expr) (pins : List (Addr × Obj)) (s : Shared) (σ : St) (H : Hp) (x y : V) (v u : Value) (Q : VK), Inv X pins σ H s → RelV x v → RelV y u → r x y H Q →
    subscripted slice false v u = operate [v, u] (getItem v u) → wpAny (model X.prog X.w) X.A (subscriptTail value slice v u) (EP X pins σ Q) X.xe s
/-- a call of a builtin's method by values: the receiver, the arguments -/
def MtR (X : Cx) (id : String) (r : V → List V → Hp → VK → Prop) : Prop :=
  ∀ (pins : List (Addr × Obj)) (s : Shared) (σ : St) (H : Hp) (x : V) (xs : List V) (v : Value) (us : List Value) (Q : VK), Inv X pins σ H s → RelV x v → Vals xs us → r x xs H Q →
    wpAny (model X.prog X.w) X.A (call (.builtin id) (v :: us)) (EP X pins σ Q) X.xe s
section
variable {X : Cx} {a b : Expr} {ta tb : TE} {pos : Pos}
theorem IxR.or {r r' : R2} (h : IxR X r) (h' : IxR X r') : IxR X (fun x y H Q => r x y H Q ∨ r' x y H Q) := by
  intro value slice pins s σ H x y v u Q I rx ry q hs
  rcases q with q | q
  · exact h value slice pins s σ H x y v u Q I rx ry q hs
  · exact h' value slice pins s σ H x y v u Q I rx ry q hs
theorem MtR.or {id : String} {r r' : V → List V → Hp → VK → Prop} (h : MtR X id r) (h' : MtR X id r') : MtR X id (fun x xs H Q => r x xs H Q ∨ r' x xs H Q) := by
  intro pins s σ H x xs v us Q I rx rs q
  rcases q with q | q
  · exact h pins s σ H x xs v us Q I rx rs q
  · exact h' pins s σ H x xs v us Q I rx rs q
/-- a[b] -/
theorem pe_ix {r : R2} (hr : IxR X r) (ha : PE X a ta) (hb : PE X b tb) (hs : PlainIx b) : PE X (.Subscript a b pos) (tOp r ta tb) := by
  intro pins s σ H Q I h
  exact Subscript_ (binT ha hb I h fun v u s2 x y H2 I2 rx ry q => hr a b pins s2 σ H2 x y v u Q I2 rx ry q (hs _ _))

def rIxL (K : PySem.W.Frag) : R2 := fun x y H Q => ∃ p xs i v, x = .ref p ∧ y = .int i ∧ SqL K H p xs ∧ atI xs i = some v ∧ Q v H
def rIxT (K : PySem.W.Frag) : R2 := fun x y H Q => ∃ p xs i v, x = .ref p ∧ y = .int i ∧ SqT K H p xs ∧ atI xs i = some v ∧ Q v H
def rIxS : R2 := fun x y H Q => ∃ z i c, x = .str z ∧ y = .int i ∧ z.length ≤ sizeLine ∧ atI z.cps.toList i = some c ∧ Q (.str ⟨#[c]⟩) H
theorem ix_list : IxR X (rIxL X.K) := by
  intro value slice pins s σ H x y v u Q I rx ry h hs
  obtain ⟨p, xs, i, z, rfl, rfl, hq, he, q⟩ := h
  cases rx
  obtain ⟨t, rfl⟩ := ry
  obtain ⟨its, r, pl, hz⟩ := I.list hq
  obtain ⟨j, h1, h2, h3, h4, h5⟩ := atI_get he
  obtain ⟨w, ew, rw'⟩ := r.get h2
  have hl := r.length
  have hn := line63
  have fin : EP X pins σ Q w s := ⟨z, H, I, rw', q⟩
  by_cases h0 : 0 ≤ i
  · have hj : i.toNat = j := by
      rw [seqIndex_of h0 h5] at h1
      exact Option.some.inj h1
    exact item_listR pl.isList h0 (by omega) (by rw [hj]; simpa using ew) fin hs
  · have hj : (i + (its.toArray.size : Int)).toNat = j := by
      rw [seqIndex_neg (by omega) h4] at h1
      rw [List.size_toArray, ← hl]
      exact Option.some.inj h1
    exact subscriptTail_builtinR (x := w) pl.isList.typeIs slot_list_getitem.lookup
      (wpAny_getItem_list_neg (Q := fun r s' => r = w ∧ EP X pins σ Q r s') pl.isList (by omega) (by rw [List.size_toArray] <;> omega) (by omega) (by rw [hj]; simpa using ew) ⟨rfl, fin⟩) hs
theorem ix_tup : IxR X (rIxT X.K) := by
  intro value slice pins s σ H x y v u Q I rx ry h hs
  obtain ⟨p, xs, i, z, rfl, rfl, hq, he, q⟩ := h
  cases rx
  obtain ⟨t, rfl⟩ := ry
  obtain ⟨its, r, pl, hz⟩ := I.tuple hq
  obtain ⟨j, h1, h2, h3, h4, h5⟩ := atI_get he
  obtain ⟨w, ew, rw'⟩ := r.get h2
  have hl := r.length
  have hn := line63
  have fin : EP X pins σ Q w s := ⟨z, H, I, rw', q⟩
  exact subscriptTail_builtinR (x := w) pl.typeIs slot_tuple_getitem.lookup
    (getItem_tuple (j := j) (Q := fun r s' => r = w ∧ EP X pins σ Q r s') pl (by omega) (by omega) (by rw [List.size_toArray, ← hl]; exact h1) (by simpa using ew) ⟨rfl, fin⟩) hs
theorem ix_str : IxR X rIxS := by
  intro value slice pins s σ H x y v u Q I rx ry h hs
  obtain ⟨z, i, c, rfl, rfl, hz, he, q⟩ := h
  obtain ⟨t, rfl⟩ := rx
  obtain ⟨t', rfl⟩ := ry
  obtain ⟨j, h1, h2, h3, h4, h5⟩ := atI_get he
  have hl : z.cps.toList.length = z.length := by simp [Str.length]
  rw [hl] at h1 h4 h5
  have hn := line63
  exact tail_any (typeIs_str s z t) slot_str_getitem.lookup (getItem_str (c := c) (by
    have e1 : decide (i < -(2 ^ 63 : Int)) = false := decide_eq_false (by omega)
    have e2 : decide (i ≥ 2 ^ 63) = false := decide_eq_false (by omega)
    rw [e1, e2, Bool.or_false]) (by rw [h1]; simpa using h2) ⟨.str ⟨#[c]⟩, H, I.tok _, ⟨_, rfl⟩, q⟩) hs
/-- list, tuple or str -/
def rIx (K : PySem.W.Frag) : R2 := fun x y H Q => rIxL K x y H Q ∨ rIxT K x y H Q ∨ rIxS x y H Q
theorem ix_seq : IxR X (rIx X.K) := ix_list.or (ix_tup.or ix_str)

/-! ### xs[i] = v, any sign -/
/-- the list's object behind a store -/
theorem mapSeq_set (its : List Value) (n j : Nat) (u : Value) : Obj.mapSeq (·.setIfInBounds j u) { cls := .type "list", data := .seq its.toArray n } = { cls := .type "list", data := .seq (its.set j u).toArray n } := by
  simp [Obj.mapSeq]
theorem Inv.lst {pins : List (Addr × Obj)} {σ : St} {H : Hp} {s : Shared} {p : Addr} {xs : List V} (I : Inv X pins σ H s) (h : H p = some (.lst xs)) :
    ∃ (its : List Value) (n : Nat), Vals xs its ∧ s.heap.get? p = some { cls := .type "list", data := .seq its.toArray n } ∧ xs.length ≤ sizeLine := by
  obtain ⟨z, its, n, r, e⟩ := I.hok p _ h
  exact ⟨its, n, r, e, z⟩
/-- the list at p is written by an update of its object -/
theorem Inv.lstUpd {pins : List (Addr × Obj)} {σ : St} {H : Hp} {s : Shared} {p : Addr} {xs ys : List V} {its its' : List Value} {n n' : Nat} {f : Obj → Obj} (I : Inv X pins σ H s) (h : H p = some (.lst xs))
    (ho : s.heap.get? p = some { cls := .type "list", data := .seq its.toArray n }) (hf : f { cls := .type "list", data := .seq its.toArray n } = { cls := .type "list", data := .seq its'.toArray n' }) (r : Vals ys its') (hz : ys.length ≤ sizeLine) (t : Nat) :
    Inv X pins σ (upd H p (.lst ys)) { s with heap := s.heap.update p f, toks := t } := by
  have e : (s.heap.update p f).get? p = some { cls := .type "list", data := .seq its'.toArray n' } := by
    rw [Heap.get?_update_self f ho (by rw [hf] <;> rfl), hf]
  refine I.write (x := p) (e := p) (by rw [h]; trivial) (.inl rfl) (fun b u hb q => (Heap.get?_update_other _ _ (Ne.symm hb)).trans q) ⟨_, e⟩ ?_
  exact ⟨hz, its', n', r, e⟩
def rSetL : V → V → V → Hp → (Hp → Prop) → Prop := fun o i v H Q => ∃ p xs k j, o = .ref p ∧ i = .int k ∧ H p = some (.lst xs) ∧ ixN xs.length k = some j ∧ Q (upd H p (.lst (xs.set j v)))
theorem set_list : PSet X rSetL := by
  intro pins s σ H o i v ov iv u Q I ro ri rv h
  obtain ⟨p, xs, k, j, rfl, rfl, hp, hj, q⟩ := h
  cases ro
  obtain ⟨t, rfl⟩ := ri
  obtain ⟨its, n, r, ho, hz⟩ := I.lst hp
  obtain ⟨h1, h2, h3, h4⟩ := ixN_seq hj
  have hl := r.length
  have hn := line63
  have I' : Inv X pins σ (upd H p (.lst (xs.set j v))) { s with heap := s.heap.update p (Obj.mapSeq (·.setIfInBounds j u)) } :=
    I.lstUpd hp ho (mapSeq_set its n j u) (r.set rv j) (by rw [List.length_set]; exact hz) s.toks
  by_cases h0 : 0 ≤ k
  · have hk : k.toNat = j := by
      rw [seqIndex_of h0 h4] at h1
      exact Option.some.inj h1
    exact PySem.W.ki_setAt ho h0 (by omega) (by rw [List.size_toArray, ← hl]; exact h4) (by rw [hk]; exact ⟨_, I', q⟩)
  · have hk : (k + (its.toArray.size : Int)).toNat = j := by
      rw [seqIndex_neg (by omega) h3] at h1
      rw [List.size_toArray, ← hl]
      exact Option.some.inj h1
    exact PySem.W.ki_setBack ho (by omega) (by rw [List.size_toArray, ← hl]; exact h3) (by omega) (by rw [hk]; exact ⟨_, I', q⟩)

/-! ### slices -/
theorem slice_bounds (lo hi : Option Int) (n : Nat) : (sliceBounds lo hi none n).1 = ((HT.sIx n 0 lo : Nat) : Int) ∧ (sliceBounds lo hi none n).2.1 = ((HT.sIx n n hi : Nat) : Int) ∧ (sliceBounds lo hi none n).2.2 = 1 := by
  refine ⟨?_, ?_, rfl⟩
  · cases lo with
    | none => simp [sliceBounds, HT.sIx]
    | some i =>
      simp only [sliceBounds, HT.sIx, Option.getD_none, show (1 : Int) > 0 by decide, if_true]
      by_cases h : i < 0
      · simp only [h, if_true] <;> omega
      · simp only [h, if_false] <;> omega
  · cases hi with
    | none => simp [sliceBounds, HT.sIx]
    | some i =>
      simp only [sliceBounds, HT.sIx, Option.getD_none, show (1 : Int) > 0 by decide, if_true]
      by_cases h : i < 0
      · simp only [h, if_true] <;> omega
      · simp only [h, if_false] <;> omega
theorem slicePick_cut (its : List Value) (lo hi : Option Int) : slicePick its.toArray lo hi none = ((its.drop (HT.sIx its.length 0 lo)).take (HT.sIx its.length its.length hi - HT.sIx its.length 0 lo)).toArray := by
  obtain ⟨h1, h2, h3⟩ := slice_bounds lo hi its.toArray.size
  unfold slicePick
  rw [h1, h2, h3]
  simp only [sliceRange_one, pick_run, List.size_toArray] <;> rfl
/-- xs[lo:hi] of a list: a new list -/
def rSlL (K : PySem.W.Frag) : V → Option Int → Option Int → Hp → VK → Prop := fun x lo hi H Q => ∃ a xs, x = .ref a ∧ SqL K H a xs ∧ ∀ p, H p = none → Q (.ref p) (upd H p (.lst (cutV xs lo hi)))
theorem sl_list : SlR X (rSlL X.K) := by
  intro pins s σ H x v vl vu lo hi sl Q I rx hs pl pu h
  obtain ⟨a, xs, rfl, hx, q⟩ := h
  cases rx
  obtain ⟨its, r, ht, hz⟩ := I.list hx
  have hlen := r.length
  refine ⟨"list", _, slot_list_getitem.lookup, ht.isList.typeIs, ?_⟩
  refine wpAny_getItem_list_slice ht.isList hs pl pu .none (by simp) ?_ (by rw [List.size_toArray] <;> omega)
  rw [slicePick_cut, ← hlen]
  refine ⟨.ref s.heap.objs.size, _, I.laid (t' := s.toks) (o := .lst (cutV xs lo hi)) (fun b ob q => Heap.get?_push_of_some _ q) (Nat.le_refl _) ?_, rfl, q _ (I.hok.fresh (Nat.le_refl _))⟩
  exact ⟨Nat.le_trans (cutV_length xs lo hi) hz, _, 0, (r.drop (HT.sIx xs.length 0 lo)).take (HT.sIx xs.length xs.length hi - HT.sIx xs.length 0 lo), Heap.get?_push_size _ rfl⟩

/-! ### in, not in: flat items -/
def flatV : V → Bool
  | .non => true
  | .bl _ => true
  | .int _ => true
  | .str _ => true
  | _ => false
/-- == of flat values -/
def eqV : V → V → Bool
  | .non, .non => true
  | .bl a, .bl b => a == b
  | .bl a, .int b => (if a then 1 else 0) == b
  | .int a, .bl b => a == (if b then 1 else 0)
  | .int a, .int b => a == b
  | .str a, .str b => a == b
  | _, _ => false
theorem eqAt_V {A : Around} {s : Shared} {y x : V} {u v : Value} (ry : RelV y u) (rx : RelV x v) (fy : flatV y = true) (fx : flatV x = true) : SeqAt.EqAt A s u v (eqV y x) := by
  cases y with
  | non =>
    cases ry
    cases x with
    | non => cases rx; exact SeqAt.EqAt.same _
    | bl b => cases rx; exact SeqAt.EqAt.none_bool b
    | int b => obtain ⟨t, rfl⟩ := rx; exact SeqAt.EqAt.none_int b t
    | str b => obtain ⟨t, rfl⟩ := rx; exact SeqAt.EqAt.none_str b t
    | _ => exact absurd (show false = true from fx) Bool.false_ne_true
  | bl a =>
    cases ry
    cases x with
    | non => cases rx; exact SeqAt.EqAt.bool_none a
    | bl b => cases rx; exact SeqAt.EqAt.bool_bool a b
    | int b => obtain ⟨t, rfl⟩ := rx; exact SeqAt.EqAt.bool_int a b t
    | str b => obtain ⟨t, rfl⟩ := rx; exact SeqAt.EqAt.bool_str a b t
    | _ => exact absurd (show false = true from fx) Bool.false_ne_true
  | int a =>
    obtain ⟨t', rfl⟩ := ry
    cases x with
    | non => cases rx; exact SeqAt.EqAt.int_none a t'
    | bl b => cases rx; exact SeqAt.EqAt.int_bool a t' b
    | int b => obtain ⟨t, rfl⟩ := rx; exact SeqAt.EqAt.int_int a t' b t
    | str b => obtain ⟨t, rfl⟩ := rx; exact SeqAt.EqAt.int_str a t' b t
    | _ => exact absurd (show false = true from fx) Bool.false_ne_true
  | str a =>
    obtain ⟨t', rfl⟩ := ry
    cases x with
    | non => cases rx; exact SeqAt.EqAt.str_none a t'
    | bl b => cases rx; exact SeqAt.EqAt.str_bool a t' b
    | int b => obtain ⟨t, rfl⟩ := rx; exact SeqAt.EqAt.str_int a t' b t
    | str b => obtain ⟨t, rfl⟩ := rx; exact SeqAt.EqAt.str_str a t' b t
    | _ => exact absurd (show false = true from fx) Bool.false_ne_true
  | _ => exact absurd (show false = true from fy) Bool.false_ne_true
/-- the items' answers, read off the values (a value's own answer does not lean on its token) -/
def eqU (x : V) (u : Value) : Bool := match u with
  | .none => eqV .non x
  | .bool b => eqV (.bl b) x
  | .int i _ => eqV (.int i) x
  | .str z _ => eqV (.str z) x
  | _ => false
theorem eqU_of {x y : V} {u : Value} (r : RelV y u) (f : flatV y = true) : eqU x u = eqV y x := by
  cases y with
  | non => cases r; rfl
  | bl b => cases r; rfl
  | int i => obtain ⟨t, rfl⟩ := r; rfl
  | str z => obtain ⟨t, rfl⟩ := r; rfl
  | _ => exact absurd (show false = true from f) Bool.false_ne_true
theorem any_eqU {x : V} : ∀ {xs : List V} {us : List Value}, Vals xs us → xs.all flatV = true → us.any (eqU x) = xs.any fun y => eqV y x
  | _, _, .nil, _ => rfl
  | y :: xs, u :: us, .cons r t, f => by
    rw [List.all_cons, Bool.and_eq_true] at f
    rw [List.any_cons, List.any_cons, eqU_of r f.1, any_eqU t f.2]
theorem mem_eqAt {A : Around} {s : Shared} {x : V} {v : Value} (rx : RelV x v) (fx : flatV x = true) : ∀ {xs : List V} {us : List Value}, Vals xs us → xs.all flatV = true → ∀ u ∈ us, SeqAt.EqAt A s u v (eqU x u)
  | _, _, .nil, _ => fun u hu => by cases hu
  | y :: xs, u :: us, .cons r t, f => fun u' hu => by
    rw [List.all_cons, Bool.and_eq_true] at f
    rcases List.mem_cons.mp hu with rfl | hu
    · rw [eqU_of r f.1]; exact eqAt_V r rx f.1 fx
    · exact mem_eqAt rx fx t f.2 u' hu
def inV (x : V) (xs : List V) : Bool := xs.any fun y => eqV y x
/-- x in a list or tuple of flat items -/
def rIn (K : PySem.W.Frag) (neg : Bool) : R2 := fun x y H Q => ∃ p xs, y = .ref p ∧ (SqL K H p xs ∨ SqT K H p xs) ∧ flatV x = true ∧ xs.all flatV = true ∧ Q (.bl (if neg then !inV x xs else inV x xs)) H
theorem op_in_seq : OpR X (compareOp .In) (rIn X.K false) := by
  intro pins s σ H x y v u Q I rx ry h
  obtain ⟨p, xs, rfl, hq, fx, fs, q⟩ := h
  cases ry
  rcases hq with hq | hq
  · obtain ⟨its, r, pl, hz⟩ := I.list hq
    refine SeqAt.in_listAt (eqU x) pl.isList (fun w hw => mem_eqAt rx fx r fs w (by simpa using hw)) ⟨.bl _, H, I, rfl, ?_⟩
    rw [show its.toArray.any (eqU x) = its.any (eqU x) by simp, any_eqU r fs]
    exact q
  · obtain ⟨its, r, pl, hz⟩ := I.tuple hq
    refine SeqAt.in_tupleAt (eqU x) pl (fun w hw => mem_eqAt rx fx r fs w (by simpa using hw)) ⟨.bl _, H, I, rfl, ?_⟩
    rw [show its.toArray.any (eqU x) = its.any (eqU x) by simp, any_eqU r fs]
    exact q
theorem op_notIn_seq : OpR X (compareOp .NotIn) (rIn X.K true) := by
  intro pins s σ H x y v u Q I rx ry h
  obtain ⟨p, xs, rfl, hq, fx, fs, q⟩ := h
  cases ry
  rcases hq with hq | hq
  · obtain ⟨its, r, pl, hz⟩ := I.list hq
    refine SeqAt.notIn_listAt (eqU x) pl.isList (fun w hw => mem_eqAt rx fx r fs w (by simpa using hw)) ⟨.bl _, H, I, rfl, ?_⟩
    rw [show its.toArray.any (eqU x) = its.any (eqU x) by simp, any_eqU r fs]
    exact q
  · obtain ⟨its, r, pl, hz⟩ := I.tuple hq
    refine SeqAt.notIn_tupleAt (eqU x) pl (fun w hw => mem_eqAt rx fx r fs w (by simpa using hw)) ⟨.bl _, H, I, rfl, ?_⟩
    rw [show its.toArray.any (eqU x) = its.any (eqU x) by simp, any_eqU r fs]
    exact q
theorem op_notIn_str : OpR X (compareOp .NotIn) (fun x y H Q => ∃ i j, x = .str i ∧ y = .str j ∧ Q (.bl (!(!(Builtin.Str.occurrences j i 0 j.length 1).isEmpty))) H) := by
  intro pins s σ H x y v u Q I rx ry h
  obtain ⟨i, j, rfl, rfl, q⟩ := h
  obtain ⟨t, rfl⟩ := rx
  obtain ⟨t', rfl⟩ := ry
  exact notIn_str ⟨.bl _, H, I, rfl, q⟩

/-! ### len, list(x), tuple(x) of any list or tuple that is read -/
theorem call_len_seq : CallR X (.builtin "len") (fun xs H Q => ∃ p ys, xs = [.ref p] ∧ (SqL X.K H p ys ∨ SqT X.K H p ys) ∧ Q (.int ys.length) H) := by
  intro pins s σ H xs us Q I r h
  obtain ⟨p, ys, rfl, hq, q⟩ := h
  obtain ⟨u, rfl, rx⟩ := vals1 r
  cases rx
  have hn := line63
  rcases hq with hq | hq
  · obtain ⟨its, r', pl, hz⟩ := I.list hq
    have hlen := r'.length
    exact Calls.call_len_list pl.isList (by simp only [List.size_toArray] <;> omega) ⟨.int ys.length, H, I.tok _, ⟨s.toks + 1, by rw [List.size_toArray, hlen]⟩, q⟩
  · obtain ⟨its, r', pl, hz⟩ := I.tuple hq
    have hlen := r'.length
    exact len_tuple pl (by simp only [List.size_toArray] <;> omega) ⟨.int ys.length, H, I.tok _, ⟨s.toks + 1, by rw [List.size_toArray, hlen]⟩, q⟩
theorem call_len_str : CallR X (.builtin "len") (fun xs H Q => ∃ z, xs = [.str z] ∧ z.length ≤ sizeLine ∧ Q (.int z.length) H) := by
  intro pins s σ H xs us Q I r h
  obtain ⟨z, rfl, hz, q⟩ := h
  obtain ⟨u, rfl, t, rfl⟩ := vals1 r
  have hn := line63
  exact len_str (by omega) ⟨.int z.length, H, I.tok _, ⟨_, rfl⟩, q⟩
theorem CallR.or {f : Value} {r r' : List V → Hp → VK → Prop} (h : CallR X f r) (h' : CallR X f r') : CallR X f (fun xs H Q => r xs H Q ∨ r' xs H Q) := by
  intro pins s σ H xs us Q I rs q
  rcases q with q | q
  · exact h pins s σ H xs us Q I rs q
  · exact h' pins s σ H xs us Q I rs q
theorem call_list_of : CallR X (.type "list") (fun xs H Q => ∃ p ys, xs = [.ref p] ∧ (SqL X.K H p ys ∨ SqT X.K H p ys) ∧ ∀ l, H l = none → Q (.ref l) (upd H l (.lst ys))) := by
  intro pins s σ H xs us Q I r h
  obtain ⟨p, ys, rfl, hq, q⟩ := h
  obtain ⟨u, rfl, rx⟩ := vals1 r
  cases rx
  have fin : ∀ (its : List Value), Vals ys its → ys.length ≤ sizeLine → ∀ (h' : Heap) (c' : Nat), (∀ b o', s.heap.get? b = some o' → h'.get? b = some o') →
      h'.get? s.heap.objs.size = some { cls := .type "list", dict := none, data := .seq its.toArray c', slots := #[] } → EP X pins σ Q (.ref s.heap.objs.size) { s with heap := h' } := fun its r' hz h' c' kp e =>
    ⟨.ref s.heap.objs.size, _, I.laid (t' := s.toks) kp (Nat.le_refl _) (show ObjOk X.prog X.w _ h' _ (.lst ys) from ⟨hz, its, c', r', e⟩), rfl, q _ (I.hok.fresh (Nat.le_refl _))⟩
  rcases hq with hq | hq
  · obtain ⟨its, r', pl, hz⟩ := I.list hq
    have hlen := r'.length
    obtain ⟨o, ho, hc, n, hd⟩ := pl.isList
    exact call_list_seq p (.inl rfl) ho hc hd (fun h' c' kp e => fin its r' hz h' c' kp e) (by simp only [List.size_toArray] <;> omega)
  · obtain ⟨its, r', pl, hz⟩ := I.tuple hq
    have hlen := r'.length
    obtain ⟨o, ho, hc, n, hd⟩ := pl
    exact call_list_seq p (.inr rfl) ho hc hd (fun h' c' kp e => fin its r' hz h' c' kp e) (by simp only [List.size_toArray] <;> omega)
theorem call_tuple_of : CallR X (.type "tuple") (fun xs H Q => ∃ p ys, xs = [.ref p] ∧ ((SqL X.K H p ys ∧ ∀ l, H l = none → Q (.ref l) (upd H l (.tup ys))) ∨ (SqT X.K H p ys ∧ Q (.ref p) H))) := by
  intro pins s σ H xs us Q I r h
  obtain ⟨p, ys, rfl, h⟩ := h
  obtain ⟨u, rfl, rx⟩ := vals1 r
  cases rx
  rcases h with ⟨hq, q⟩ | ⟨hq, q⟩
  · obtain ⟨its, r', pl, hz⟩ := I.list hq
    have hlen := r'.length
    refine call_tuple_list pl.isList (fun h' kp => ?_) (by simp only [List.size_toArray] <;> omega)
    have I1 : Inv X pins σ H { s with heap := h' } := I.kept (t' := s.toks) kp
    have I2 : Inv X pins σ (upd H h'.objs.size (.tup ys)) { s with heap := h'.push { cls := .type "tuple", data := .seq its.toArray } } :=
      I1.laid (t' := s.toks) (fun b o e => Heap.get?_push_of_some _ e) (Nat.le_refl _) (show ObjOk X.prog X.w _ _ _ (.tup ys) from ⟨hz, its, r', IsTup.new _ _⟩)
    exact ⟨.ref h'.objs.size, _, I2, rfl, q _ (I1.hok.fresh (Nat.le_refl _))⟩
  · obtain ⟨its, r', pl, hz⟩ := I.tuple hq
    exact call_tuple_same pl ⟨.ref p, H, I, rfl, q⟩

/-! ### the call of a builtin's method: o.m(..) -/
/-- the value is of that builtin type -/
def tyV (K : PySem.W.Frag) (T : String) (x : V) (H : Hp) : Prop := match x with
  | .str _ => T = "str"
  | .int _ => T = "int"
  | .ref p => (T = "list" ∧ ∃ xs, SqL K H p xs) ∨ (T = "tuple" ∧ ∃ o, K.lookup p = some o ∧ o.cls = .type "tuple" ∧ o.dict = none) ∨
      (T = "dict" ∧ ((∃ kvs, H p = some (.dK kvs)) ∨ ∃ kvs, H p = some (.dT kvs))) ∨ (T = "set" ∧ ∃ S n, H p = some (.set S n))
  | _ => False
theorem tyV_is {pins : List (Addr × Obj)} {σ : St} {H : Hp} {s : Shared} {T : String} {x : V} {v : Value} (I : Inv X pins σ H s) (r : RelV x v) (ty : tyV X.K T x H) :
    s.TypeIs v T ∧ ∀ a, v = .ref a → ∃ ob, s.heap.get? a = some ob ∧ ob.dict = none := by
  cases x with
  | str z =>
    obtain ⟨t, rfl⟩ := r
    cases (show T = "str" from ty)
    exact ⟨typeIs_str s z t, fun _ e => nomatch e⟩
  | int i =>
    obtain ⟨t, rfl⟩ := r
    cases (show T = "int" from ty)
    exact ⟨typeIs_int s i t, fun _ e => nomatch e⟩
  | ref p =>
    cases r
    rcases ty with ⟨rfl, xs, hq⟩ | ⟨rfl, o, hk, hc, hd⟩ | ⟨rfl, hk⟩ | ⟨rfl, S, n, hk⟩
    · obtain ⟨its, _, pl, _⟩ := I.list hq
      refine ⟨pl.isList.typeIs, fun a e => ?_⟩
      cases e
      obtain ⟨o, n, e, c, hd, _⟩ := pl
      exact ⟨o, e, hd⟩
    · refine ⟨⟨o, I.kIn p o hk, hc⟩, fun a e => ?_⟩
      cases e
      exact ⟨o, I.kIn _ o hk, hd⟩
    · have z : ∃ o, s.heap.get? p = some o ∧ o.ExactDict := by
        rcases hk with ⟨kvs, hk⟩ | ⟨kvs, hk⟩
        · obtain ⟨_, _, _, _, o, _, _, e, ex, _⟩ := I.hok p _ hk
          exact ⟨o, e, ex⟩
        · obtain ⟨_, _, _, _, o, _, _, e, ex, _⟩ := I.hok p _ hk
          exact ⟨o, e, ex⟩
      obtain ⟨o, e, ex⟩ := z
      refine ⟨⟨o, e, ex.1⟩, fun a e2 => ?_⟩
      cases e2
      exact ⟨o, e, ex.2.1⟩
    · obtain ⟨o, _, _, _, e, ex, _⟩ := I.hok p _ hk
      refine ⟨⟨o, e, ex.1⟩, fun a e2 => ?_⟩
      cases e2
      exact ⟨o, e, ex.2.1⟩
  | _ => exact False.elim ty
def tBM0 (K : PySem.W.Frag) (T : String) (r : V → List V → Hp → VK → Prop) (to : TE) : TE := fun σ H Q => to σ H fun x H1 => tyV K T x H1 ∧ r x [] H1 Q
def tBM (K : PySem.W.Frag) (T : String) (r : V → List V → Hp → VK → Prop) (to : TE) (t : TA) : TE := fun σ H Q => to σ H fun x H1 => tyV K T x H1 ∧ t σ H1 fun xs H2 => r x xs H2 Q
variable {o e : Expr} {es : List Expr} {to : TE} {t : TA} {name : Str} {apos cpos : Pos} {T id : String} {r : V → List V → Hp → VK → Prop}
theorem pe_bm0 (pa : PlainAttrs T) (slot : Slot T name id) (hty : typeOf (.builtin id) = pure (.type "method_descriptor")) (hm : MtR X id r) (ho : PE X o to)
    (hbase : attributeBase o name X.env (eval o X.env) = eval o X.env := by rfl) (hline : (apos.endLine == cpos.line) = true := by rfl) : PE X (.Call (.Attribute o name apos) [] [] cpos) (tBM0 X.K T r to) := by
  intro pins s σ H Q I h
  refine wpAny_Call_method0_late hbase hline (thn (ho pins s σ H _ I h) fun v s1 ⟨x, H1, I1, r1, ty, q1⟩ => ?_)
  obtain ⟨h1, h2⟩ := tyV_is I1 r1 ty
  exact ⟨T, id, pa, slot, hty, h1, h2, Calls.callWith_builtin rfl (PySem.evalArgs_none (hm pins s1 σ H1 x [] v [] Q I1 r1 .nil q1))⟩
theorem pe_bm (pa : PlainAttrs T) (slot : Slot T name id) (hty : typeOf (.builtin id) = pure (.type "method_descriptor")) (hm : MtR X id r) (ho : PE X o to) (ha : PA X (e :: es) t)
    (hbase : attributeBase o name X.env (eval o X.env) = eval o X.env := by rfl)
    (hfew : ((backTo cpos (starEach (e :: es) X.env)).all (fun x => !x.1) && (backToKw cpos (keywordEach [] X.env)).all (fun x => x.1.isSome)
      && decide ((e :: es).length + ([] : List Keyword).length + (if ([] : List Keyword).isEmpty then 0 else 1) < 30)) = true := by rfl)
    (hline : (apos.endLine == cpos.line) = true := by rfl) (hs : starEach (e :: es) X.env = (false, eval e X.env) :: starEach es X.env := by rfl) (hplain : (backTo cpos (starEach es X.env)).any (·.1) = false := by rfl) :
    PE X (.Call (.Attribute o name apos) (e :: es) [] cpos) (tBM X.K T r to t) := by
  intro pins s σ H Q I h
  refine wpAny_Call_method_late hbase hfew hline rfl (thn (ho pins s σ H _ I h) fun v s1 ⟨x, H1, I1, r1, ty, q1⟩ => ?_)
  obtain ⟨h1, h2⟩ := tyV_is I1 r1 ty
  refine ⟨T, id, pa, slot, hty, h1, h2, ?_⟩
  have hA := ha cpos pins s1 σ H1 _ I1 q1
  rw [hs] at hA ⊢
  refine Calls.callWith_builtin (by show (false || (backTo cpos (starEach es X.env)).any (·.1)) = false; rw [hplain] <;> rfl) (Calls.evalArgs_plain ?_)
  exact thn hA fun us s2 ⟨vs, H2, I2, r2, q2⟩ => hm pins s2 σ H2 x vs v us Q I2 r1 r2 q2
/- xs.append(e), list.index on a module's tuple .. are MtR facts of 06m -/
end
end L2

namespace L2
open PySem PySem.Spec PyProof.Rows

def MtM (X : Cx) (id : String) (r : V → List V → Hp → VK → Prop) : Prop :=
  ∀ (pins : List (Addr × Obj)) (s : Shared) (σ : St) (H : Hp) (x : V) (xs : List V) (v : Value) (us : List Value) (Q : VK), Inv X pins σ H s → RelV x v → Vals xs us → r x xs H Q →
    wpAny (model X.prog X.w) X.A (call (.builtin id) (v :: us)) (EP X pins σ Q) X.xe s

/-! ### lists of values -/
theorem Vals.one : ∀ {x : V} {us : List Value}, Vals [x] us → ∃ u, us = [u] ∧ RelV x u
  | _, _, .cons r .nil => ⟨_, rfl, r⟩
theorem Vals.two : ∀ {x y : V} {us : List Value}, Vals [x, y] us → ∃ u v, us = [u, v] ∧ RelV x u ∧ RelV y v
  | _, _, _, .cons r (.cons q .nil) => ⟨_, _, rfl, r, q⟩
theorem Vals.zero : ∀ {us : List Value}, Vals [] us → us = []
  | _, .nil => rfl
theorem Vals.dropLast {xs : List V} {us : List Value} (h : Vals xs us) : Vals xs.dropLast us.dropLast := by
  induction h with
  | nil => exact .nil
  | cons r t ih =>
    cases t with
    | nil => exact .nil
    | cons q t' => exact .cons r ih
theorem Vals.eraseIdx : ∀ {xs : List V} {us : List Value} (i : Nat), Vals xs us → Vals (xs.eraseIdx i) (us.eraseIdx i)
  | _, _, _, .nil => .nil
  | _, _, 0, .cons _ t => t
  | _, _, i + 1, .cons r t => .cons r (Vals.eraseIdx i t)
theorem Vals.reverse {xs : List V} {us : List Value} (h : Vals xs us) : Vals xs.reverse us.reverse := by
  induction h with
  | nil => exact .nil
  | cons r t ih => rw [List.reverse_cons, List.reverse_cons]; exact Vals.append ih (.cons r .nil)
theorem Vals.rep {xs : List V} {us : List Value} (h : Vals xs us) : ∀ k : Nat, Vals (List.replicate k xs).flatten (List.replicate k us).flatten
  | 0 => .nil
  | k + 1 => by
    rw [List.replicate_succ, List.replicate_succ, List.flatten_cons, List.flatten_cons]
    exact Vals.append h (Vals.rep h k)
theorem erase_last {α : Type} (l : List α) : l.eraseIdx (l.length - 1) = l.dropLast := by
  induction l with
  | nil => rfl
  | cons a r ih =>
    cases r with
    | nil => rfl
    | cons b r =>
      have e : (a :: b :: r).length - 1 = ((b :: r).length - 1) + 1 := by
        have h1 : (a :: b :: r).length = r.length + 2 := rfl
        have h2 : (b :: r).length = r.length + 1 := rfl
        omega
      rw [e, List.eraseIdx_cons_succ, ih]
      all_goals rfl
theorem len_erase {α : Type} : ∀ (l : List α) (i : Nat), (l.eraseIdx i).length ≤ l.length
  | [], _ => Nat.le_refl _
  | _ :: _, 0 => Nat.le_succ _
  | _ :: r, i + 1 => Nat.succ_le_succ (len_erase r i)
theorem foldl_rep (its : List Value) : ∀ (k : Nat) (acc : List Value),
    List.foldl (fun x1 x2 => x1 ++ x2) acc.toArray (List.replicate k its.toArray) = (acc ++ (List.replicate k its).flatten).toArray
  | 0, acc => by simp
  | k + 1, acc => by
    have e : acc.toArray ++ its.toArray = (acc ++ its).toArray := by simp
    have e2 : (acc ++ its) ++ (List.replicate k its).flatten = acc ++ (List.replicate (k + 1) its).flatten := by
      rw [List.replicate_succ, List.flatten_cons, List.append_assoc]
    rw [← e2, ← foldl_rep its k (acc ++ its), ← e, List.replicate_succ, List.foldl_cons]

section
variable {X : Cx} {pins : List (Addr × Obj)} {σ : St} {H : Hp} {s : Shared} {l b : Addr} {xs ys zs : List V}

/-! ### the two steps: a tracked list is rewritten, a new list is laid -/
theorem Inv.lset {its its' : List Value} {n : Nat} {f : Array Value → Array Value} {t' : Nat} (I : Inv X pins σ H s) (hH : H l = some (.lst xs))
    (e : s.heap.get? l = some { cls := .type "list", data := .seq its.toArray n }) (hf : f its.toArray = its'.toArray) (hv : Vals ys its') (hz : ys.length ≤ sizeLine) :
    Inv X pins σ (upd H l (.lst ys)) { s with heap := s.heap.update l (Obj.mapSeq f), toks := t' } := by
  have q := PySem.IsL.update e f
  rw [hf] at q
  refine I.write (x := l) (e := l) (by rw [hH]; exact trivial) (.inl rfl) (fun b' u hb hu => (Heap.get?_update_other s.heap (Obj.mapSeq f) (Ne.symm hb)).trans hu) ⟨_, q⟩ ?_
  exact ⟨hz, its', _, hv, q⟩
theorem Inv.lnew {its : List Value} {t' : Nat} (I : Inv X pins σ H s) (hv : Vals ys its) (hz : ys.length ≤ sizeLine) :
    Inv X pins σ (upd H s.heap.objs.size (.lst ys)) { s with heap := s.heap.push { cls := .type "list", data := .seq its.toArray }, toks := t' } :=
  I.laid (fun _ _ q => Heap.get?_push_of_some _ q) (Nat.le_refl _) ⟨hz, its, 0, hv, Heap.get?_push_size _ rfl⟩
theorem Inv.fresh (I : Inv X pins σ H s) : H s.heap.objs.size = none := I.hok.fresh (Nat.le_refl _)
theorem Inv.lstM (I : Inv X pins σ H s) (hH : H l = some (.lst xs)) : xs.length ≤ sizeLine ∧ ∃ (its : List Value) (n : Nat), Vals xs its ∧ xs.length = its.length ∧ s.heap.get? l = some { cls := .type "list", data := .seq its.toArray n } := by
  obtain ⟨z, its, n, r, e⟩ := I.hok l _ hH
  exact ⟨z, its, n, r, r.length, e⟩

theorem notLongL {n : Nat} (h : n ≤ sizeLine) : Builtin.List.listTooLong n = false := by
  unfold Builtin.List.listTooLong
  exact decide_eq_false (by omega)
end

section
variable {X : Cx}

/-! ### methods -/
def rAppend : V → List V → Hp → VK → Prop := fun x vs H Q => ∃ l xs y, x = .ref l ∧ vs = [y] ∧ H l = some (.lst xs) ∧ xs.length < sizeLine ∧ Q .non (upd H l (.lst (xs ++ [y])))
theorem mt_append : MtM X "list.append" rAppend := by
  intro pins s σ H x vs v us Q I rx rv h
  obtain ⟨l, xs, y, rfl, rfl, hH, hz, q⟩ := h
  cases rx
  obtain ⟨u, rfl, ru⟩ := rv.one
  obtain ⟨z, its, n, r, hl, e⟩ := I.lstM hH
  refine call_meets F.slot_list_append ⟨_, e, rfl⟩ F.entry_list_append (F.args_list_append_2 _ _) (PySem.list_append l its.toArray n u (by rw [List.size_toArray]; omega)) ⟨e, ?_⟩
  refine ⟨.non, _, I.lset (its' := its ++ [u]) hH e (by simp) (r.append (.cons ru .nil)) ?_, rfl, q⟩
  rw [List.length_append, List.length_singleton]
  omega

def rExtend : V → List V → Hp → VK → Prop := fun x vs H Q => ∃ l b xs zs, x = .ref l ∧ vs = [.ref b] ∧ H l = some (.lst xs) ∧ H b = some (.lst zs) ∧ xs.length + zs.length ≤ sizeLine ∧ Q .non (upd H l (.lst (xs ++ zs)))
theorem mt_extend : MtM X "list.extend" rExtend := by
  intro pins s σ H x vs v us Q I rx rv h
  obtain ⟨l, b, xs, zs, rfl, rfl, hH, hB, hz, q⟩ := h
  cases rx
  obtain ⟨u, rfl, ru⟩ := rv.one
  cases ru
  obtain ⟨z, its, n, r, hl, e⟩ := I.lstM hH
  obtain ⟨z2, its2, n2, r2, hl2, e2⟩ := I.lstM hB
  have hsz : its.toArray.size + its2.toArray.size ≤ sizeLine := by rw [List.size_toArray, List.size_toArray]; omega
  have hlong : ¬ (!its.toArray.isEmpty && Builtin.List.listTooLong (its.toArray.size + its2.toArray.size)) = true := by
    rw [notLongL hsz, Bool.and_false]
    exact Bool.false_ne_true
  refine call_meets F.slot_list_extend ⟨_, e, rfl⟩ F.entry_list_extend (F.args_list_extend_2 _ _)
    (AutoSeq1.list_extend_list_list_0 l its.toArray n b its2.toArray n2 hlong (by rw [List.size_toArray]; omega) (by omega)) ⟨e, e2, ?_⟩
  refine ⟨.non, _, I.lset (its' := its ++ its2) hH e (by simp) (r.append r2) ?_, rfl, q⟩
  rw [List.length_append]
  omega

def rPop : V → List V → Hp → VK → Prop := fun x vs H Q => ∃ l xs y, x = .ref l ∧ vs = [] ∧ H l = some (.lst xs) ∧ xs[xs.length - 1]? = some y ∧ Q y (upd H l (.lst xs.dropLast))
theorem mt_pop : MtM X "list.pop" rPop := by
  intro pins s σ H x vs v us Q I rx rv h
  obtain ⟨l, xs, y, rfl, rfl, hH, hy, q⟩ := h
  cases rx
  have hus := rv.zero
  subst hus
  obtain ⟨z, its, n, r, hl, e⟩ := I.lstM hH
  obtain ⟨u, hu, ru⟩ := r.get hy
  have hy' : its.toArray[its.toArray.size - 1]? = some u := by
    show its.toArray[its.length - 1]? = some u
    rw [← Array.getElem?_toList, ← hl]
    exact hu
  refine call_meets F.slot_list_pop ⟨_, e, rfl⟩ F.entry_list_pop (F.args_list_pop_1 _) (MeetsSeq.list_pop_last l its.toArray n u hy' (by rw [List.size_toArray]; omega)) ⟨e, ?_⟩
  refine ⟨y, _, I.lset (its' := its.dropLast) hH e ?_ r.dropLast ?_, ru, q⟩
  · show its.toArray.eraseIdxIfInBounds (its.toArray.size - 1) = its.dropLast.toArray
    rw [List.size_toArray, List.eraseIdxIfInBounds_toArray, erase_last]
  · rw [List.length_dropLast]
    omega

def rPopAt : V → List V → Hp → VK → Prop := fun x vs H Q => ∃ l xs i k y, x = .ref l ∧ vs = [.int i] ∧ H l = some (.lst xs) ∧ -(2 ^ 63) ≤ i ∧ i < 2 ^ 63 ∧ seqIndex? i xs.length = some k ∧ xs[k]? = some y ∧ Q y (upd H l (.lst (xs.eraseIdx k)))
theorem mt_popAt : MtM X "list.pop" rPopAt := by
  intro pins s σ H x vs v us Q I rx rv h
  obtain ⟨l, xs, i, k, y, rfl, rfl, hH, h1, h2, hk, hy, q⟩ := h
  cases rx
  obtain ⟨u, rfl, ru⟩ := rv.one
  obtain ⟨t, rfl⟩ := ru
  obtain ⟨z, its, n, r, hl, e⟩ := I.lstM hH
  obtain ⟨w, hw, rw'⟩ := r.get hy
  refine call_meets F.slot_list_pop ⟨_, e, rfl⟩ F.entry_list_pop (F.args_list_pop_2 _ _)
    (MeetsSeq.list_pop_at l its.toArray n i t k w (fitsIndex_both h1 h2) (by rw [List.size_toArray, ← hl]; exact hk) (by rw [← Array.getElem?_toList]; exact hw) (by rw [List.size_toArray]; omega)) ⟨e, ?_⟩
  refine ⟨y, _, I.lset (its' := its.eraseIdx k) hH e ?_ (r.eraseIdx k) ?_, rw', q⟩
  · show its.toArray.eraseIdxIfInBounds k = (its.eraseIdx k).toArray
    rw [List.eraseIdxIfInBounds_toArray]
  · have := len_erase xs k
    omega

def rReverse : V → List V → Hp → VK → Prop := fun x vs H Q => ∃ l xs, x = .ref l ∧ vs = [] ∧ H l = some (.lst xs) ∧ Q .non (upd H l (.lst xs.reverse))
theorem mt_reverse : MtM X "list.reverse" rReverse := by
  intro pins s σ H x vs v us Q I rx rv h
  obtain ⟨l, xs, rfl, rfl, hH, q⟩ := h
  cases rx
  have hus := rv.zero
  subst hus
  obtain ⟨z, its, n, r, hl, e⟩ := I.lstM hH
  refine call_meets F.slot_list_reverse ⟨_, e, rfl⟩ F.entry_list_reverse (F.args_list_reverse_1 _) (AutoSeq1.list_reverse_list_0 l its.toArray n (by rw [List.size_toArray]; omega)) ⟨e, ?_⟩
  refine ⟨.non, _, I.lset (its' := its.reverse) hH e (by simp) r.reverse ?_, rfl, q⟩
  rw [List.length_reverse]
  omega

def rClear : V → List V → Hp → VK → Prop := fun x vs H Q => ∃ l xs, x = .ref l ∧ vs = [] ∧ H l = some (.lst xs) ∧ Q .non (upd H l (.lst []))
theorem mt_clear : MtM X "list.clear" rClear := by
  intro pins s σ H x vs v us Q I rx rv h
  obtain ⟨l, xs, rfl, rfl, hH, q⟩ := h
  cases rx
  have hus := rv.zero
  subst hus
  obtain ⟨z, its, n, r, hl, e⟩ := I.lstM hH
  refine call_meets F.slot_list_clear ⟨_, e, rfl⟩ F.entry_list_clear (F.args_list_clear_1 _) (AutoSeq1.list_clear_list_0 l its.toArray n (by rw [List.size_toArray]; omega)) ⟨e, ?_⟩
  exact ⟨.non, _, I.lset (its' := []) (ys := []) hH e rfl .nil (Nat.zero_le _), rfl, q⟩

/-! ### list + list, list += list, list * int -/
def rCat : R2 := fun x y H Q => ∃ l b xs zs, x = .ref l ∧ y = .ref b ∧ H l = some (.lst xs) ∧ H b = some (.lst zs) ∧ xs.length + zs.length ≤ sizeLine ∧ ∀ p, H p = none → Q (.ref p) (upd H p (.lst (xs ++ zs)))
theorem op_cat : OpR X (binaryOp .Add) rCat := by
  intro pins s σ H x y v u Q I rx ry h
  obtain ⟨l, b, xs, zs, rfl, rfl, hH, hB, hz, q⟩ := h
  cases rx
  cases ry
  obtain ⟨z, its, n, r, hl, e⟩ := I.lstM hH
  obtain ⟨z2, its2, n2, r2, hl2, e2⟩ := I.lstM hB
  refine PySem.P.add_list e e2 ?_ (by rw [List.size_toArray, List.size_toArray]; omega)
  have ea : its.toArray ++ its2.toArray = (its ++ its2).toArray := by simp
  rw [ea]
  exact ⟨.ref _, _, I.lnew (t' := s.toks) (r.append r2) (by rw [List.length_append]; omega), rfl, q _ I.fresh⟩
/-- a list times an int (a negative one is nothing) -/
def rRep : R2 := fun x y H Q => ∃ l k xs, x = .ref l ∧ y = .int k ∧ H l = some (.lst xs) ∧ -(2 ^ 63) ≤ k ∧ k < 2 ^ 63 ∧ xs.length * k.toNat ≤ sizeLine ∧
  ∀ p, H p = none → Q (.ref p) (upd H p (.lst (List.replicate k.toNat xs).flatten))
theorem len_rep {α : Type} (xs : List α) (k : Nat) : (List.replicate k xs).flatten.length = k * xs.length := by
  induction k with
  | zero => simp
  | succ k ih => rw [List.replicate_succ, List.flatten_cons, List.length_append, ih, Nat.succ_mul, Nat.add_comm]
theorem op_rep : OpR X (binaryOp .Mult) rRep := by
  intro pins s σ H x y v u Q I rx ry h
  obtain ⟨l, k, xs, rfl, rfl, hH, h1, h2, hz, q⟩ := h
  cases rx
  obtain ⟨t, rfl⟩ := ry
  obtain ⟨z, its, n, r, hl, e⟩ := I.lstM hH
  have hlen : its.toArray.size * k.toNat ≤ sizeLine := by rw [List.size_toArray, ← hl]; exact hz
  have hcap : ¬ its.toArray.size * k.toNat > (2 ^ 63 - 1) / 8 := by
    have : (sizeLine : Nat) ≤ (2 ^ 63 - 1) / 8 := by decide
    omega
  have hfit : ¬ (!Builtin.List.listFitsIndex k) = true := by
    rw [fitsIndex_both h1 h2]
    exact Bool.false_ne_true
  have hlong : ¬ Builtin.List.listTooLong (its.toArray.size * k.toNat) = true := by
    rw [notLongL hlen]
    exact Bool.false_ne_true
  have hnew : List.foldl (fun x1 x2 => x1 ++ x2) #[] (List.replicate (if its.toArray.isEmpty = true then 0 else k.toNat) its.toArray) = (List.replicate k.toNat its).flatten.toArray := by
    have f0 : ∀ m : Nat, List.foldl (fun x1 x2 => x1 ++ x2) #[] (List.replicate m its.toArray) = (List.replicate m its).flatten.toArray := fun m => by
      have := foldl_rep its m []
      rw [List.nil_append] at this
      exact this
    rw [f0]
    cases its with
    | nil => simp
    | cons a r' => rw [if_neg (by simp)]
  refine wpAny_binaryOp_repeat_ref (T := "list") (U := "int") (by decide) ⟨_, e, rfl⟩ (fun s' => typeIs_int s' k t) noFill_list_mul F.fills_int_mul F.slot_int_rmul repeat_list F.slot_int_index.lookup
    (call_meets F.slot_int_rmul (typeIs_int s k t) F.entry_int_rmul (F.args_int_rmul_2 _ _) (int___rmul___int_list k t l its.toArray n)
      ⟨e, rfl, ⟨_, e, rfl⟩, call_meets F.slot_list_mul ⟨_, e, rfl⟩ F.entry_list_mul (F.args_list_mul_2 _ _) (AutoListH.list___mul___list_int_3 l its.toArray n k t hfit hcap hlong) ⟨e, ?_⟩⟩)
  rw [hnew]
  exact ⟨.ref _, _, I.lnew (t' := s.toks) (r.rep k.toNat) (by rw [len_rep, Nat.mul_comm]; exact hz), rfl, q _ I.fresh⟩

/-! ### del xs[i] -/
theorem del_list {pins : List (Addr × Obj)} {s : Shared} {σ : St} {H : Hp} {l : Addr} {xs : List V} {i : Int} {t : Tok} {k : Nat} {Q : Unit → Shared → Prop} (I : Inv X pins σ H s) (hH : H l = some (.lst xs))
    (h1 : -(2 ^ 63) ≤ i) (h2 : i < 2 ^ 63) (hk : seqIndex? i xs.length = some k) (h : ∀ s', Inv X pins σ (upd H l (.lst (xs.eraseIdx k))) s' → Q () s') :
    wpAny (model X.prog X.w) X.A (delItem (.ref l) (.int i t)) Q X.xe s := by
  obtain ⟨z, its, n, r, hl, e⟩ := I.lstM hH
  refine PySem.P.delItem_list (k := k) e (fitsIndex_both h1 h2) (by rw [List.size_toArray, ← hl]; exact hk) (h _ ?_) (by rw [List.size_toArray]; omega)
  refine I.lset (its' := its.eraseIdx k) (t' := s.toks) hH e ?_ (r.eraseIdx k) ?_
  · show its.toArray.eraseIdxIfInBounds k = (its.eraseIdx k).toArray
    rw [List.eraseIdxIfInBounds_toArray]
  · have := len_erase xs k
    omega
end

/-! ### xs[a:b] = ys -/
section
variable {prog : Program} {w : World} {A : Around} {E : Value → Shared → Prop} {s : Shared}
theorem splice_eq (its its2 : List Value) (a c : Nat) : its.toArray.extract 0 a ++ its2.toArray ++ its.toArray.extract c its.toArray.size = (its.take a ++ its2 ++ its.drop c).toArray := by
  apply Array.toList_inj.mp
  first
    | (simp
       exact List.take_of_length_le (by simp))
    | simp [List.take_of_length_le]
    | simp
theorem bounds_run {a c n : Nat} (hac : a ≤ c) (hc : c ≤ n) : sliceBounds (some (a : Int)) (some (c : Int)) none n = ((a : Int), (c : Int), 1) := by
  simp only [sliceBounds, Option.getD_none]
  have h1 : ¬ ((a : Int) < 0) := by omega
  have h2 : ¬ ((c : Int) < 0) := by omega
  simp only [h1, h2, if_false, show (1 : Int) > 0 by decide, if_true]
  congr 1
  · omega
  · congr 1; omega
set_option maxRecDepth 100000 in
/-- list.__setitem__ with a slice of step one and another list -/
theorem setItem_slice {l b sl : Addr} {items new : Array Value} {n n2 : Nat} {vl vu : Value} {a c : Nat} {Q : Unit → Shared → Prop}
    (e : s.heap.get? l = some { cls := .type "list", data := .seq items n }) (e2 : s.heap.get? b = some { cls := .type "list", data := .seq new n2 }) (hne : l ≠ b)
    (hs : s.heap.IsSliceOf sl vl vu .none) (pl : IsPart vl (some (a : Int))) (pu : IsPart vu (some (c : Int))) (hac : a ≤ c) (hc : c ≤ items.size)
    (hsz : items.size + new.size ≤ sizeLine) (h : Q () { s with heap := s.heap.update l (Obj.mapSeq fun xs => xs.extract 0 a ++ new ++ xs.extract c xs.size) }) :
    wpAny (model prog w) A (setItem (.ref l) (.ref sl) (.ref b)) Q E s := by
  have hl : s.heap.IsList l items := PySem.IsL.isList e
  have hb : s.heap.IsList b new := PySem.IsL.isList e2
  obtain ⟨os, hos, hcs, hds⟩ := id hs
  have hTs : s.TypeIs (.ref sl) "slice" := ⟨os, hos, hcs⟩
  have hstep : ¬ ((rawPart none == rawInt 0) = true) := Bool.false_ne_true
  have hsame : Builtin.List.listSameRef (.ref l) (.ref b) = false := by
    unfold Builtin.List.listSameRef
    exact beq_eq_false_iff_ne.mpr hne
  have hmax : (max (a : Int) (c : Int)).toNat = c := by omega
  have hz' : ((fun xs : Array Value => xs.extract 0 a ++ new ++ xs.extract c xs.size) items).size ≤ sizeLine + 1 := by
    simp only [Array.size_append, Array.size_extract]
    omega
  unfold setItem
  try with_reducible refine wpAny_holding ?_
  first | refine wpAny_bind (wpAny_pure ?_) | skip
  refine wpAny_bind (wpAny_sequenceKey hl.typeIs (by decide) ?_)
  refine wpAny_bind (wpAny_callSpecial?_slot (name := Str.ofString "__setitem__") hl.typeIs slot_list_setitem
    (wpAny_call_entry slot_list_setitem hl.typeIs entry_list_setitem ?_ (args_list_setitem _ _ _)))
  show wpAny _ _ (Builtin.List.listSubscript? (.ref sl) >>= _) _ _ s
  refine wpAny_bind ?_
  unfold Builtin.List.listSubscript?
  refine wpAny_bind (wpAny_specialOf hTs slice_no_index ?_)
  simp only [Option.isNone_none, if_true]
  refine wpAny_pure ?_
  show wpAny _ _ (typeOf (.ref sl) >>= _) _ _ s
  refine wpAny_bind (wpAny_typeOf hTs ?_)
  first
    | rw [if_neg (by decide)]
    | refine PySem.W.KFB.if_not (by decide) ?_
  rw [listSliceParts_eq]
  refine wpAny_bind (wpAny_bind (wpAny_field hos hds (x := .none) rfl (wpAny_bind (wpAny_listPart .none ?_))))
  rw [if_neg hstep]
  refine wpAny_bind (wpAny_field hos hds (x := vl) rfl (wpAny_bind (wpAny_listPart pl ?_)))
  refine wpAny_bind (wpAny_field hos hds (x := vu) rfl (wpAny_bind (wpAny_listPart pu (wpAny_pure ?_))))
  first
    | simp only [hsame, Bool.false_eq_true, if_false]
    | refine PySem.W.KFB.if_not hsame ?_
    | (dsimp only
       rw [if_neg (by rw [hsame]; exact Bool.false_ne_true)])
  refine wpAny_bind (m := Builtin.List.listAllItems (.ref b) "must assign iterable to extended slice") ?_
  unfold Builtin.List.listAllItems
  refine wpAny_bind (wpAny_typeOf hb.typeIs ?_)
  first
    | refine PySem.W.KFB.if_so (by decide) ?_
    | rw [if_pos (by decide)]
    | simp only [beq_self_eq_true, Bool.true_or, if_true]
  unfold Builtin.List.listItems
  refine wpAny_bind (wpAny_seqItems e2 rfl (wpAny_pure ?_))
  refine wpAny_bind (wpAny_bind (wpAny_seqItems e rfl (wpAny_pure ?_)))
  refine wpAny_bind (wpAny_of_eq ((sliceIndices_raw (some (a : Int)) (some (c : Int)) none items.size (by simp)).trans (congrArg (pure : Int × Int × Int → Sem (Int × Int × Int)) (bounds_run hac hc))) ?_)
  show wpAny _ _ (if ((1 : Int) == 1) = true then _ else _) _ _ s
  rw [if_pos (by decide)]
  refine wpAny_bind (wpAny_rule ?_)
  first
    | simp only [notLongL hsz, Bool.false_eq_true, if_false]
    | refine PySem.W.KFB.if_not (notLongL hsz) ?_
  first | refine wpAny_bind (wpAny_pure ?_) | skip
  show wpAny _ _ (updateSeq l (fun xs => xs.extract 0 ((a : Int)).toNat ++ new ++ xs.extract (max (a : Int) (c : Int)).toNat xs.size) >>= _) _ _ s
  rw [hmax, Int.toNat_natCast]
  refine wpAny_bind (wpAny_updateSeq (hz := Nat.le_trans (Nat.le_add_right _ _) hsz) (_hz' := hz') e rfl ?_)
  refine wpAny_bind (wpAny_letGo ?_)
  first
    | exact wpAny_bind (wpAny_pure (wpAny_pure ⟨.none, rfl, wpAny_pure h⟩))
    | exact wpAny_pure ⟨.none, rfl, wpAny_pure h⟩
end

section
variable {X : Cx}
/-- xs[a:c] = ys of another list, at the value level: sl is the slice object that was just made -/
theorem set_slice {pins : List (Addr × Obj)} {s : Shared} {σ : St} {H : Hp} {l b sl : Addr} {xs ys : List V} {a c : Int} {vl vu : Value} {Q : Unit → Shared → Prop} (I : Inv X pins σ H s)
    (hH : H l = some (.lst xs)) (hB : H b = some (.lst ys)) (hne : l ≠ b) (hs : s.heap.IsSliceOf sl vl vu .none) (ra : RelV (.int a) vl) (rc : RelV (.int c) vu) (h0 : 0 ≤ a) (hac : a ≤ c) (hc : c ≤ xs.length)
    (hz : xs.length + ys.length ≤ sizeLine) (h : ∀ s', Inv X pins σ (upd H l (.lst (xs.take a.toNat ++ ys ++ xs.drop c.toNat))) s' → Q () s') :
    wpAny (model X.prog X.w) X.A (setItem (.ref l) (.ref sl) (.ref b)) Q X.xe s := by
  obtain ⟨ta, rfl⟩ := ra
  obtain ⟨tc, rfl⟩ := rc
  obtain ⟨z, its, n, r, hl, e⟩ := I.lstM hH
  obtain ⟨z2, its2, n2, r2, hl2, e2⟩ := I.lstM hB
  obtain ⟨a', rfl⟩ := Int.eq_ofNat_of_zero_le h0
  obtain ⟨c', rfl⟩ := Int.eq_ofNat_of_zero_le (Int.le_trans h0 hac)
  simp only [Int.toNat_natCast] at h
  refine setItem_slice (a := a') (c := c') e e2 hne hs (.int _ _) (.int _ _) (by omega) (by rw [List.size_toArray]; omega) (by rw [List.size_toArray, List.size_toArray]; omega) (h _ ?_)
  refine I.lset (its' := its.take a' ++ its2 ++ its.drop c') (t' := s.toks) hH e ?_ (Vals.append (Vals.append (r.take _) r2) (r.drop _)) ?_
  · exact splice_eq its its2 a' c'
  · rw [List.length_append, List.length_append, List.length_take, List.length_drop]
    omega
end
end L2

namespace Att
open PySem PySem.W PySem.Calls PyProof.Rows

/-! ### the script -/
theorem ints_of_wellAll {P : Params} {h : Heap} : ∀ (ns : List Int) (vs : List Value), WellAll P h vs (ns.map WData.int) → IntsAre vs ns := by
  intro ns
  induction ns with
  | nil =>
    intro vs w
    rw [List.map_nil] at w
    cases w
    exact .nil
  | cons n ns ih =>
    intro vs w
    rw [List.map_cons] at w
    cases w with
    | cons a b =>
      cases a
      exact .cons _ _ (ih _ b)

theorem script_of {l : OpenLaw} {n : Nat} (hn : l.most = some n) {P : Params} {h : Heap} {args : List WData} {vals : List Value}
    (hpre : l.row.toRowW.claim.pre args = true) (hwl : WellAll P h vals args) :
    ∃ a vs ns, vals = [Value.ref a] ∧ args = [WData.list (ns.map WData.int)] ∧ h.get? a = some { cls := .type "list", data := .seq vs.toArray } ∧ IntsAre vs ns ∧ ns.length ≤ n := by
  have hsh : WShape.hasAll [] args [.list .int] = true := (pre_splitW hpre).1
  have hc : l.pre.holds [] { args := args } = true := (pre_splitW hpre).2
  obtain ⟨d, r, rfl, h1, h2⟩ := hasAllW_cons hsh
  obtain rfl := hasAllW_nil h2
  obtain ⟨xs, rfl, h3⟩ := hasW_list h1
  obtain ⟨ns, rfl⟩ := items_int h3
  have hlen : ns.length ≤ n := by
    unfold OpenLaw.pre at hc
    have h4 : (WTm.not (.lt (.lit (.int (n : Int))) (.len (.arg 0)))).holds [] { args := [.list (ns.map .int)] } = true := by
      have h4 := (holds_andW hc).1
      rw [hn] at h4
      exact h4
    have h5 := condW_of h4 (w_not (w_lt w_lit (w_len_list (w_arg rfl))))
    rw [List.length_map] at h5
    refine Nat.le_of_not_lt fun q => ?_
    have q' : (n : Int) < ((ns.length : Nat) : Int) := by omega
    first
      | (rw [decide_eq_true q'] at h5; exact absurd h5 (by decide))
      | (simp at h5; omega)
  cases hwl with
  | cons w1 w2 =>
    cases w2
    cases w1 with
    | list ho hall => exact ⟨_, _, ns, rfl, rfl, ho, ints_of_wellAll ns _ hall, hlen⟩

theorem post_true (l : OpenLaw) (args : List WData) : l.row.toRowW.claim.post args (.bool true) args = true :=
  postW_of (r := l.row.toRowW) (X := (true == true))
    (show WShape.has [] (.bool true) .bool = true by first | rfl | decide | simp [WShape.has, WShape.arms, WShape.armsAll])
    (show (WTm.eq .res (.lit (.bool true))).value [] { args := args, res := some (.bool true), after := args } = some (.bool (true == true)) from w_eq_bool (w_res rfl) w_lit) rfl

/-! ### the attachment: holds_open's last premise (the goal 'hc' behind k_head) from a wpAny of the law's body -/
theorem attach {l : OpenLaw} {n : Nat} {q : Program} {loose : List Str} {XP : (Str → Option Value) → Heap → Prop} {YP : World → Heap → Prop} {d : DefRec} {x : Str}
    (hn : l.most = some n) (hdf : d.params.defaults = [])
    (hbind : ∀ pm cd doc v : Value, bindArgs (docDef d.name d.params d.body d.scope pm cd doc) ⟨[v], []⟩ = pure [(x, v)])
    (hx : d.scope.names.lookup x = some .local ∨ d.scope.names.lookup x = some .cell)
    (hk : d.scope.kind = .function) (hco : d.scope.isCoroutine = false) (hgen : d.scope.isGenerator = false)
    (body : ∀ (w : World) (s₀ s₁ s : Shared) (mg mb : Str → Option Value) (fa : Addr) (o : Obj) (pm cd doc : Value) (a : Addr) (vs : List Value) (ns : List Int),
      Ground q loose [] XP w s₀ mg mb s₁.heap → YP w s₁.heap →
      s₁.heap.get? fa = some o → o.data = .func (docDef d.name d.params d.body d.scope pm cd doc) → s₁.heap.CodeRec cd d.name → mg d.name = some (.ref fa) →
      s₁.heap.get? a = some { cls := .type "list", data := .seq vs.toArray } → IntsAre vs ns → ns.length ≤ n →
      s.gens = #[] → s.os = s₁.os →
      Fr s₁.heap s₁.heap.objs.size s.heap (bindL (envOfC d.name d.scope s₁.heap.objs.size fa cd).kindOf [(x, .ref a)] fun _ => none) →
      Cl s₁.heap.objs.size (cellsFrom (s₁.heap.objs.size + 1) d.scope.names []) s.heap (bindC (envOfC d.name d.scope s₁.heap.objs.size fa cd).kindOf [(x, .ref a)] fun _ => none) →
      wpAny (model l.prog w) (callerA.deeper (envOfC d.name d.scope s₁.heap.objs.size fa cd)) (execs d.body (envOfC d.name d.scope s₁.heap.objs.size fa cd))
        (fun f s' => f = .ret (.bool true) ∧ OldK s₁.heap s'.heap ∧ s'.os = s₁.os ∧ AllBare s'.gens) (fun _ _ => False) s) :
    WalkO q loose XP YP l.row.toRowW d [] (fun f vs => PySem.call f vs) := by
  intro w s₀ s₁ mg mb G Y fa o pm cd doc dV kV ho hd hcd hD hmg hg args vals as hpre hlay hrd hwl hlo
  obtain rfl : dV = .none := Dflts.none hD hdf
  obtain rfl : kV = .none := Dflts.noKw hD
  obtain ⟨a, vs, ns, rfl, rfl, hobj, hints, hlen⟩ := script_of hn hpre hwl
  refine enter_call ?_
  refine call_cells_ret (o := o) (by rw [depth_caller]; decide) ho (fd_plain hd) G.T.nolimit hcd (hbind pm cd doc (.ref a)) (fun y hy => ?_) (fun h₁ tk F X => ?_) hco hgen hk
  · obtain rfl : y = (x, Value.ref a) := List.mem_singleton.mp hy
    rcases hx with e | e
    · exact .inl e
    · exact .inr ⟨e, cellsFrom_some _ _ _ (.inl e)⟩
  · refine wpAny_mono (body w s₀ s₁ { s₁ with heap := h₁, toks := tk } mg mb fa o pm cd doc a vs ns G Y ho (fd_plain hd) hcd hmg hobj hints hlen hg rfl F X) (fun f s' hq => ?_) (fun _ _ hq => hq)
    obtain ⟨rfl, h2, h3, h4⟩ := hq
    exact ⟨.inl ⟨.bool true, .bool true, [], rfl, fun _ => rfl, .bool true, post_true l _, fun _ => ⟨List.Pairwise.nil, fun _ hm => (nomatch hm)⟩⟩, h2, h3, h4⟩

/-- the same from a codeAny of the CALL (for a layer whose function contracts speak of calls) -/
theorem attach_call {l : OpenLaw} {n : Nat} {q : Program} {loose : List Str} {XP : (Str → Option Value) → Heap → Prop} {YP : World → Heap → Prop} {d : DefRec}
    (hn : l.most = some n) (hdf : d.params.defaults = [])
    (call : ∀ (w : World) (s₀ s₁ : Shared) (mg mb : Str → Option Value) (fa : Addr) (o : Obj) (pm cd doc : Value) (a : Addr) (vs : List Value) (ns : List Int),
      Ground q loose [] XP w s₀ mg mb s₁.heap → YP w s₁.heap →
      s₁.heap.get? fa = some o → o.data = .func (docDef d.name d.params d.body d.scope pm cd doc) → s₁.heap.CodeRec cd d.name → mg d.name = some (.ref fa) →
      s₁.heap.get? a = some { cls := .type "list", data := .seq vs.toArray } → IntsAre vs ns → ns.length ≤ n → s₁.gens = #[] →
      codeAny (model l.prog w) callerA (.call (.ref fa) ⟨[.ref a], []⟩) (fun r s' => r = .ok (.ret (.bool true)) ∧ OldK s₁.heap s'.heap ∧ s'.os = s₁.os ∧ AllBare s'.gens) s₁) :
    WalkO q loose XP YP l.row.toRowW d [] (fun f vs => PySem.call f vs) := by
  intro w s₀ s₁ mg mb G Y fa o pm cd doc dV kV ho hd hcd hD hmg hg args vals as hpre hlay hrd hwl hlo
  obtain rfl : dV = .none := Dflts.none hD hdf
  obtain rfl : kV = .none := Dflts.noKw hD
  obtain ⟨a, vs, ns, rfl, rfl, hobj, hints, hlen⟩ := script_of hn hpre hwl
  refine enter_call (codeAny_mono (call w s₀ s₁ mg mb fa o pm cd doc a vs ns G Y ho (fd_plain hd) hcd hmg hobj hints hlen hg) fun r s' hq => ?_)
  obtain ⟨rfl, h2, h3, h4⟩ := hq
  exact ⟨.inl ⟨.bool true, .bool true, [], rfl, fun _ => rfl, .bool true, post_true l _, fun _ => ⟨List.Pairwise.nil, fun _ hm => (nomatch hm)⟩⟩, h2, h3, h4⟩

/-- the same where the top left finished generators (o_head chose holds_openN): nothing may have changed at all and no generator may be left -/
theorem attachN {l : OpenLaw} {n : Nat} {q : Program} {loose : List Str} {XP : (Str → Option Value) → Heap → Prop} {YP : World → Heap → Prop} {d : DefRec} {x : Str}
    (hn : l.most = some n) (hdf : d.params.defaults = [])
    (hbind : ∀ pm cd doc v : Value, bindArgs (docDef d.name d.params d.body d.scope pm cd doc) ⟨[v], []⟩ = pure [(x, v)])
    (hx : d.scope.names.lookup x = some .local ∨ d.scope.names.lookup x = some .cell)
    (hk : d.scope.kind = .function) (hco : d.scope.isCoroutine = false) (hgen : d.scope.isGenerator = false)
    (body : ∀ (w : World) (s₀ s₁ s : Shared) (mg mb : Str → Option Value) (fa : Addr) (o : Obj) (pm cd doc : Value) (a : Addr) (vs : List Value) (ns : List Int),
      Ground q loose [] XP w s₀ mg mb s₁.heap → YP w s₁.heap →
      s₁.heap.get? fa = some o → o.data = .func (docDef d.name d.params d.body d.scope pm cd doc) → s₁.heap.CodeRec cd d.name → mg d.name = some (.ref fa) →
      s₁.heap.get? a = some { cls := .type "list", data := .seq vs.toArray } → IntsAre vs ns → ns.length ≤ n →
      s.gens = #[] → s.os = s₁.os →
      Fr s₁.heap s₁.heap.objs.size s.heap (bindL (envOfC d.name d.scope s₁.heap.objs.size fa cd).kindOf [(x, .ref a)] fun _ => none) →
      Cl s₁.heap.objs.size (cellsFrom (s₁.heap.objs.size + 1) d.scope.names []) s.heap (bindC (envOfC d.name d.scope s₁.heap.objs.size fa cd).kindOf [(x, .ref a)] fun _ => none) →
      wpAny (model l.prog w) (callerA.deeper (envOfC d.name d.scope s₁.heap.objs.size fa cd)) (execs d.body (envOfC d.name d.scope s₁.heap.objs.size fa cd))
        (fun f s' => f = .ret (.bool true) ∧ (∀ b o, s₁.heap.get? b = some o → s'.heap.get? b = some o) ∧ s'.os = s₁.os ∧ s'.gens = #[]) (fun _ _ => False) s) :
    WalkN q loose XP YP l.row.toRowW d [] (fun f vs => PySem.call f vs) := by
  intro w s₀ s₁ mg mb G Y fa o pm cd doc dV kV ho hd hcd hD hmg hg args vals as hpre hlay hrd hwl hlo
  obtain rfl : dV = .none := Dflts.none hD hdf
  obtain rfl : kV = .none := Dflts.noKw hD
  obtain ⟨a, vs, ns, rfl, rfl, hobj, hints, hlen⟩ := script_of hn hpre hwl
  refine enter_callW ?_
  refine call_cells_ret (o := o) (by rw [depth_caller]; decide) ho (fd_plain hd) G.T.nolimit hcd (hbind pm cd doc (.ref a)) (fun y hy => ?_) (fun h₁ tk F X => ?_) hco hgen hk
  · obtain rfl : y = (x, Value.ref a) := List.mem_singleton.mp hy
    rcases hx with e | e
    · exact .inl e
    · exact .inr ⟨e, cellsFrom_some _ _ _ (.inl e)⟩
  · refine wpAny_mono (body w s₀ s₁ { s₁ with heap := h₁, toks := tk } mg mb fa o pm cd doc a vs ns G Y ho (fd_plain hd) hcd hmg hobj hints hlen hg rfl F X) (fun f s' hq => ?_) (fun _ _ hq => hq)
    obtain ⟨rfl, h2, h3, h4⟩ := hq
    exact ⟨.inl ⟨.bool true, .bool true, [], rfl, fun _ => rfl, .bool true, post_true l _, fun _ => ⟨List.Pairwise.nil, fun _ hm => (nomatch hm)⟩⟩, h2, h3, h4⟩

/-! ### rules over ANY heap (no ledger) from facts about the written part K: the library's own take a ledger (News) for what they write -/
section
variable {prog : Program} {w : World} {A : Around} {E : Value → Shared → Prop} {s : Shared} {K : Frag}

/-- a def of the module, or a method (qual 'C.m'), entered: the frame is the next address; cells behind it -/
theorem call_fn {R : Result → Shared → Prop} {name qual : Str} {params : Arguments} {body : List Stmt} {scope : Scope} {dV kV doc pm cdv ct oc : Value} {an od : Option Addr} {osl : Array (Option Value)} {f : Addr} {args : Args} {binds : List (Str × Value)}
    (X : K.In s.heap) (hlim : s.heap.NoLimit) (ho : K.lookup f = some ⟨oc, od, .func (fnOf name qual params body scope dV kV doc pm an cdv ct), osl⟩) (hcd : codeIn K cdv qual = true) (hroom : A.depth < recursionLimit)
    (hbind : BindsTo s (fnOf name qual params body scope dV kV doc pm an cdv ct) args binds)
    (hkind : (binds.all fun y => scope.names.lookup y.1 == some .local || scope.names.lookup y.1 == some .cell) = true)
    (h : ∀ s₁, InCallC s s.heap.objs.size (bindL (envOfC qual scope s.heap.objs.size f cdv).kindOf binds fun _ => none) (cellsFrom (s.heap.objs.size + 1) scope.names [])
        (bindC (envOfC qual scope s.heap.objs.size f cdv).kindOf binds fun _ => none) s₁ →
      wpAny (model prog w) (A.deeper (envOfC qual scope s.heap.objs.size f cdv)) (execs body (envOfC qual scope s.heap.objs.size f cdv))
        (fun fl s' => R (.ok (.ret (match fl with | .ret v => v | _ => .none))) s')
        (fun e s' => wpAny (model prog w) (A.deeper (envOfC qual scope s.heap.objs.size f cdv)) (leaving (envOfC qual scope s.heap.objs.size f cdv) e) (fun _ s'' => R (.error e) s'') (fun e' s'' => R (.error e') s'') s') s₁)
    (hco : scope.isCoroutine = false) (hgen : scope.isGenerator = false) (hk : scope.kind = .function) : codeAny (model prog w) A (.call (.ref f) args) R s := by
  refine codeAny_call_function hroom (X _ _ ho) rfl hco hgen rfl (codeRec_of X hcd) (hbind _ _ _ _ ?_)
  refine wpAny_newFunctionEnv_cells hk (kindsX hkind _) fun env he s₁ x => ?_
  subst he
  exact ⟨hlim.keeps x.toInCall.keep, codeAny_func (h s₁ x)⟩

/-- C(..): dict at size, instance at size + 1, then __init__ -/
theorem make_obj {R : Result → Shared → Prop} {C fI : Addr} {rest : List Value} {kw : List (Str × Value)}
    (X : K.In s.heap) (hm : makesIn K C = true) (hi : findIn K (.ref C) "__init__" = some (some (.ref fI))) (hf : isFn K (.ref fI) = true)
    (h : codeAny (model prog w) (A.under (.builtin "type.__call__" ⟨.ref C :: rest, kw⟩)) (.call (.ref fI) ⟨.ref (s.heap.objs.size + 1) :: rest, kw⟩) (InitBack (s.heap.objs.size + 1) R)
      { s with heap := (s.heap.push emptyDict).push (instObj C s.heap.objs.size) }) : codeAny (model prog w) A (.call (.ref C) ⟨rest, kw⟩) R s := by
  obtain ⟨hh, g, d, t, os⟩ := s
  exact make_core (makes_of X hm) (looks_findIn X hi) (fun self => bind_fn X self (beq_iff_eq.mp hf)) (.inl rfl) h

/-- x.name where the instance's dict holds the name and the class does not -/
theorem get_field {x C : Addr} {ox : Obj} {es : List DictEntry} {n : Nat} {name : Str} {expr : Bool} {v : Value} {Q : Value → Shared → Prop}
    (X : K.In s.heap) (I : PySem.W.InstAt s.heap x ox C (some (dictOf es n))) (hg : plainGet K C name = true) (hh : hasDictIn K C = true) (ha : findIn K (.ref C) name = some none)
    (hl : getL name es = some (some v)) (hv : handedIn v = true) (h : Q v { s with toks := s.toks + 1 }) : wpAny (model prog w) A (getAttr (.ref x) name expr) Q E s :=
  get_value X I (plainGet_of hg).1 (findObj_own hh ha rfl hl) hv h

/-- x.m(..): the method found in the class -/
theorem get_method {x C f : Addr} {ox : Obj} {es : List DictEntry} {n : Nat} {name : Str} {pl : Sem Bool} {Q : Value × List Value → Shared → Prop}
    (X : K.In s.heap) (I : PySem.W.InstAt s.heap x ox C (some (dictOf es n))) (hg : plainGet K C name = true) (hf : findIn K (.ref C) name = some (some (.ref f))) (ht : isFn K (.ref f) = true)
    (hl : getL name es = some none) (h : Q (.ref f, [.ref x]) s) : wpAny (model prog w) A (getMethod (.ref x) name pl) Q E s :=
  method_fn X I (plainGet_of hg).1 (plainGet_of hg).2 hf (beq_iff_eq.mp ht) (by show (lookIn name (dictOf es n)).map _ = _; rw [lookIn_dict, hl]; rfl) h

/-! the whole heap as the ledger: makes every rule that writes through a ledger a rule over any heap -/
def noObjs (h : Heap) : Heap := { h with objs := #[] }
theorem noObjs_get (h : Heap) (b : Addr) : (noObjs h).get? b = none := by
  cases e : (noObjs h).get? b with
  | none => rfl
  | some o => exact absurd (Heap.lt_size e) (Nat.not_lt_zero _)
def ledger (h : Heap) (L d : Addr) : List (Addr × Obj) := (List.range h.objs.size).filterMap fun a => if a = L ∨ a = d then none else (h.get? a).map fun o => (a, o)
theorem mem_ledger {h : Heap} {L d a : Addr} {o : Obj} : (a, o) ∈ ledger h L d ↔ a ≠ L ∧ a ≠ d ∧ h.get? a = some o := by
  unfold ledger
  rw [List.mem_filterMap]
  constructor
  · rintro ⟨b, _, e⟩
    split at e
    · cases e
    · rename_i hb
      obtain ⟨o', ho, e'⟩ := Option.map_eq_some_iff.mp e
      cases e'
      exact ⟨fun q => hb (.inl q), fun q => hb (.inr q), ho⟩
  · rintro ⟨n1, n2, ho⟩
    refine ⟨a, List.mem_range.mpr (Heap.lt_size ho), ?_⟩
    rw [if_neg (show ¬ (a = L ∨ a = d) from fun q => q.elim n1 n2), ho] <;> rfl
theorem news_ledger {h : Heap} {L d : Addr} {od : Obj} (hne : d ≠ L) (ho : h.get? d = some od) : News (noObjs h) L h ([] ++ (d, od) :: ledger h L d) := by
  rintro ⟨a, o⟩ hp
  rcases List.mem_cons.mp hp with e | hp
  · cases e
    exact ⟨ho, hne, noObjs_get _ _⟩
  · obtain ⟨n1, n2, e⟩ := mem_ledger.mp hp
    exact ⟨e, n1, noObjs_get _ _⟩
theorem fr_all {h : Heap} {L : Addr} {m : Str → Option Value} (n : h.Ns L m) : Fr (noObjs h) L h m :=
  ⟨n, fun b o e => (by rw [noObjs_get] at e; cases e), Nat.zero_le _⟩
/-- Upd of the head entry (for append_K, setItem_K ..) -/
theorem upd_ledger {h : Heap} {L d : Addr} {o o' : Obj} : Upd d o o' ((d, o) :: ledger h L d) ((d, o') :: ledger h L d) :=
  .head fun ⟨_, _⟩ hp => (mem_ledger.mp hp).2.1

/-- x.name = v over any heap: L is any namespace of the heap (the frame's, say): its map stays, its object is not told; all else but the dict stays -/
theorem set_field {x C dx L : Addr} {ox : Obj} {m : Str → Option Value} {es es' : List DictEntry} {n n' : Nat} {name : Str} {v : Value} {Q : Unit → Shared → Prop}
    (X : K.In s.heap) (I : PySem.W.InstAt s.heap x ox C (some (dictOf es n))) (hd : ox.dict = some dx) (hL : s.heap.Ns L m) (hne : dx ≠ L)
    (hs : findIn K (.ref C) "__setattr__" = some (some (.builtin "object.__setattr__"))) (hp : plainOver K C = true) (ht : takerIn K C name = some none) (hh : hasDictIn K C = true) (hl : (getL name es).isSome = true)
    (e : (putL name (PyData.keyHash w.params name) (.str name (s.toks + 1)) v es, putN name es n) = (es', n')) (hz : es'.length ≤ 1000)
    (h : ∀ h' : Heap, h'.Ns L m → h'.get? dx = some (dictOf es' n') → (∀ b o, b ≠ dx → b ≠ L → s.heap.get? b = some o → h'.get? b = some o) → Q () { s with heap := h', toks := s.toks + 2 }) :
    wpAny (model prog w) A (setAttr (.ref x) name v) Q E s := by
  obtain ⟨e1, e2⟩ := Prod.mk.inj e
  have hdx : s.heap.get? dx = some (dictOf es n) := by
    have := I.dict
    rw [hd] at this
    exact this
  refine set_plain X I hs (osa_dict (s := { s with toks := s.toks + 1 }) (h₀ := noObjs s.heap) (L := L) (m := m) (od := dictOf es n) (od' := dictOf es' n') (es := es') (n := n') (pre := []) (post := ledger s.heap L dx)
    (fr_all hL) (news_ledger hne hdx) X I hd hp ht hh hl (fun _ q => nomatch q) (fun ⟨_, _⟩ q => (mem_ledger.mp q).2.1) (by rw [putName_dict, e1, e2]) rfl hz fun h' F' N' => ?_)
  exact h h' F'.ns (N'.get (List.Mem.head _)) fun b o n1 n2 ho => N'.get (List.Mem.tail _ (mem_ledger.mpr ⟨n2, n1, ho⟩))
end
end Att

namespace L2
open PySem PySem.Spec PyProof.Rows

theorem vals_ints : ∀ {vs : List Value} {ns : List Int}, IntsAre vs ns → Vals (ns.map V.int) vs
  | _, _, .nil => .nil
  | _, _, .cons n t h => .cons ⟨t, rfl⟩ (vals_ints h)

/-- nothing is tracked but the script, known to the object (or it is an object of the module) -/
def Only (H : Hp) : Prop := ∀ b, H b = none ∨ ∃ o xs, H b = some (.frz o (.lst xs))

/-- THE HEAD: the law's promise, at the heap behind the top. F, the promise of the law's def, may use that base is part of the heap (so K.In base, base.Ns mainGlobals mg stand in Mod) -/
theorem law_call {P : Program} {w : World} {K : PySem.W.Frag} {mg mb : Str → Option Value} {CX : CXT} {k : Nat} {fa a : Addr} {fd : FuncData} {x : Str} {sp : Sp} {s₁ : Shared} {vs : List Value} {ns : List Int}
    (KX : K.In s₁.heap) (hns : s₁.heap.Ns mainGlobals mg) (hb : s₁.heap.Ns builtinsNs mb) (hbb : ∀ x : Str, x ≠ "__name__" → mb x = bootBuiltins x) (hlim : s₁.heap.NoLimit) (hg : s₁.gens = #[])
    (ha : s₁.heap.get? a = some { cls := .type "list", data := .seq vs.toArray }) (hi : IntsAre vs ns) (hl : ns.length ≤ sizeLine) (hr : Room k callerA)
    (F : ∀ base : Heap, K.In base → base.Ns mainGlobals mg → FnOk P w K mg base CX k fa fd [x] sp) (hbind : ∀ (s : Shared) (u : Value), BindsTo s fd ⟨[u], []⟩ [(x, u)])
    (hsp : ∀ H : Hp, Only H → SqL K H a (ns.map V.int) → sp [.ref a] H (fun v _ => v = .bl true) fun _ _ _ => False)
    (hCX : ∀ H e s', CX [] H s₁ (fun _ _ _ => False) e s' → False) :
    codeAny (model P w) callerA (.call (.ref fa) ⟨[.ref a], []⟩) (fun r s' => r = .ok (.ret (.bool true)) ∧ OldK s₁.heap s'.heap ∧ s'.os = s₁.os ∧ AllBare s'.gens) s₁ := by
  have rv := vals_ints hi
  have lenV := hi.length
  -- from an abstract heap in which nothing but the script may be tracked
  have core : ∀ H : Hp, Only H → SqL K H a (ns.map V.int) → HOk P w H s₁.heap → (∀ b, H b ≠ none → b = a) → (H a ≠ none → K.lookup a = none) →
      codeAny (model P w) callerA (.call (.ref fa) ⟨[.ref a], []⟩) (fun r s' => r = .ok (.ret (.bool true)) ∧ OldK s₁.heap s'.heap ∧ s'.os = s₁.os ∧ AllBare s'.gens) s₁ := by
    intro H hO hS hok hA hK
    have base_of : ∀ {b : Addr} {o : Obj}, s₁.heap.get? b = some o → H b = none → (hidT s₁.heap H).get? b = some o := fun e n => hidT_get e n
    have noA : ∀ {b : Addr} {o : Obj} {es : Array DictEntry} {ep : Nat}, s₁.heap.get? b = some o → o.data = .dict es ep → H b = none := fun {b o es ep} e d => by
      cases q : H b with
      | none => rfl
      | some u =>
        have e' : b = a := hA b (by rw [q]; simp)
        subst e'
        rw [ha] at e; cases e
        have d' : Data.seq vs.toArray _ = Data.dict es ep := d
        cases d'
    have nsK : ∀ {b : Addr} {m : Str → Option Value}, s₁.heap.Ns b m → (hidT s₁.heap H).Ns b m := fun {b m} ⟨o, es, ep, e, d, r⟩ => ⟨o, es, ep, base_of e (noA e d), d, r⟩
    have hKb : K.In (hidT s₁.heap H) := fun b o e => base_of (KX b o e) (by
      cases q : H b with
      | none => rfl
      | some u =>
        have e' : b = a := hA b (by rw [q]; simp)
        subst e'
        rw [hK (by rw [q]; simp)] at e; cases e)
    have hM : Mod K mg (hidT s₁.heap H) := ⟨hKb, nsK hns, ⟨mb, nsK hb, hbb⟩, let ⟨mc, h1, h2⟩ := hlim; ⟨mc, nsK h1, h2⟩⟩
    have e0 : Env0 P w K mg (hidT s₁.heap H) callerA [] s₁ H := ⟨rfl, hM, fun b o e => of_hidT e, Nat.le_of_eq (hidT_size _ _), trivial, fun b hb => absurd (show b ∈ ([] : List Addr) from hb) (by simp), hok, .of_eq hg⟩
    refine codeAny_mono ((F _ hKb (nsK hns)).run callerA [] s₁ H ⟨[.ref a], []⟩ [.ref a] [.ref a] _ _ hr e0 (hbind s₁ (.ref a)) (.cons rfl .nil) (hsp H hO hS)) fun r s' h => ?_
    cases r with
    | error e => exact (hCX H e s' h).elim
    | ok fl =>
      cases fl with
      | next => exact False.elim h
      | brk => exact False.elim h
      | cont => exact False.elim h
      | ret u =>
        obtain ⟨v, H', os, bare, un, hok', r', q⟩ := h
        have q' : v = .bl true := q
        subst q'
        obtain rfl : u = Value.bool true := r'
        refine ⟨rfl, OldK.of_keep fun b o e => ?_, os, bare⟩
        cases q : H b with
        | none => exact un.keep b o e q (by intro z; exact absurd (show b ∈ ([] : List Addr) from z) (by simp)) (by simp)
        | some u =>
          rcases hO b with z | ⟨ob, xs, z⟩
          · rw [q] at z; cases z
          · have z2 := un.frzs b ob _ z
            obtain ⟨e1, _⟩ := hok b _ z
            obtain ⟨e2, _⟩ := hok' b _ z2
            rw [e] at e1; cases e1
            exact e2
  cases hk : K.lookup a with
  | some o =>
    -- the script is one of the module's own objects
    have e := KX a o hk
    rw [ha] at e
    cases e
    refine core (fun _ => none) (fun _ => .inl rfl) (.inr ⟨_, vs.toArray, _, hk, rfl, rfl, rfl, by rw [List.size_toArray, lenV]; exact hl, by simpa using rv⟩) (fun b u z => by have z' : (none : Option HO) = some u := z; cases z') (fun b z => absurd rfl z) fun z => absurd rfl z
  | none =>
    refine core (fun b => if b = a then some (.frz { cls := .type "list", data := .seq vs.toArray } (.lst (ns.map V.int))) else none) (fun b => ?_) (.inl (.inr ⟨{ cls := .type "list", data := .seq vs.toArray }, if_pos rfl⟩)) (fun b u z => ?_) (fun b z => ?_) fun _ => hk
    · by_cases hb : b = a
      · exact .inr ⟨_, _, if_pos hb⟩
      · exact .inl (if_neg hb)
    · by_cases hb : b = a
      · have z' := (if_pos hb).symm.trans z
        cases z'
        subst hb
        exact ⟨ha, by rw [List.length_map]; exact hl, vs, _, rv, ha⟩
      · have z' := (if_neg hb).symm.trans z
        cases z'
    · by_cases hb : b = a
      · exact hb
      · exact absurd (if_neg hb) z
end L2

namespace L2
open PySem PySem.Spec PyProof.Rows

abbrev KOf {K : PySem.W.Frag} {h : Heap} (_ : K.In h) : PySem.W.Frag := K

/-- the goal that k_head leaves (case hc), from the law's promise. F gives the function object fd (K's own) once, then the promise over every base -/
theorem walk_of {l : PySem.W.OpenLaw} {n k : Nat} {q : Program} {loose : List Str} {XP : (Str → Option Value) → Heap → Prop} {YP : World → Heap → Prop} {d : DefRec} {K : Params → PySem.W.Frag} {CX : World → CXT} {sp : World → Sp} {x : Str}
    (hn : l.most = some n) (hn2 : n ≤ sizeLine) (hdf : d.params.defaults = []) (hr : Room k callerA)
    (hY : ∀ (w : World) (h : Heap), YP w h → (K w.params).In h)
    (F : ∀ (w : World) (mg : Str → Option Value) (fa : Addr) (h : Heap), (K w.params).In h → h.Ns mainGlobals mg → mg d.name = some (.ref fa) →
      ∃ fd : FuncData, (∀ (s : Shared) (u : Value), BindsTo s fd ⟨[u], []⟩ [(x, u)]) ∧
        ∀ base : Heap, (K w.params).In base → base.Ns mainGlobals mg → FnOk l.prog w (K w.params) mg base (CX w) k fa fd [x] (sp w))
    (hsp : ∀ (w : World) (H : Hp) (a : Addr) (ns : List Int), ns.length ≤ n → Only H → SqL (K w.params) H a (ns.map V.int) → sp w [.ref a] H (fun v _ => v = .bl true) fun _ _ _ => False)
    (hCX : ∀ (w : World) (H : Hp) (s : Shared) (e : Value) (s' : Shared), CX w [] H s (fun _ _ _ => False) e s' → False) :
    PySem.W.WalkO q loose XP YP l.row.toRowW d [] (fun f vs => PySem.call f vs) := by
  refine Att.attach_call hn hdf fun w s₀ s₁ mg mb fa o pm cd doc a vs ns G Y ho hd hcd hmg hobj hints hlen hg => ?_
  have KX := hY w _ Y
  obtain ⟨fd, hb, hF⟩ := F w mg fa _ KX G.T.g hmg
  exact law_call KX G.T.g G.T.b G.T.builtins G.T.nolimit hg hobj hints (Nat.le_trans hlen hn2) hr hF hb (fun H hO hS => hsp w H a ns hlen hO hS) fun H e s' => hCX w H s₁ e s'
/-- the same where the promise hangs on the written part alone: (sp := My.sp_law), no hole under a binder -/
theorem walk_ofK {l : PySem.W.OpenLaw} {n k : Nat} {q : Program} {loose : List Str} {XP : (Str → Option Value) → Heap → Prop} {YP : World → Heap → Prop} {d : DefRec} {K : Params → PySem.W.Frag} {CX : CXT} {sp : PySem.W.Frag → Sp} {x : Str}
    (hn : l.most = some n) (hn2 : n ≤ sizeLine) (hdf : d.params.defaults = []) (hr : Room k callerA)
    (hY : ∀ (w : World) (h : Heap), YP w h → (K w.params).In h)
    (F : ∀ (w : World) (mg : Str → Option Value) (fa : Addr) (h : Heap), (K w.params).In h → h.Ns mainGlobals mg → mg d.name = some (.ref fa) →
      ∃ fd : FuncData, (∀ (s : Shared) (u : Value), BindsTo s fd ⟨[u], []⟩ [(x, u)]) ∧
        ∀ base : Heap, (K w.params).In base → base.Ns mainGlobals mg → FnOk l.prog w (K w.params) mg base CX k fa fd [x] (sp (K w.params)))
    (hsp : ∀ (K : PySem.W.Frag) (H : Hp) (a : Addr) (ns : List Int), ns.length ≤ n → Only H → SqL K H a (ns.map V.int) → sp K [.ref a] H (fun v _ => v = .bl true) fun _ _ _ => False)
    (hCX : ∀ (H : Hp) (s : Shared) (e : Value) (s' : Shared), CX [] H s (fun _ _ _ => False) e s' → False) :
    PySem.W.WalkO q loose XP YP l.row.toRowW d [] (fun f vs => PySem.call f vs) :=
  walk_of (K := K) (CX := fun _ => CX) (sp := fun w => sp (K w.params)) hn hn2 hdf hr hY F (fun w H a ns h1 h2 h3 => hsp (K w.params) H a ns h1 h2 h3) fun _ H s e s' => hCX H s e s'
end L2

/- THE LAST THEOREM (shape; LID, My.* are yours):
   My.Adr: a structure of the addresses that your layer names (classes, functions); My.Txt K t: a structure (Prop) of the equations over K;
   My.txt_mk : {K} {implicit addresses ..} (e1 : nsIn K mainGlobals "law" = some (some (.ref f))) (e2 : K.lookup f = some ⟨oc, od, .func (fnOf "law" "law" params body scope dV kV doc pm an cdv ct), sl⟩) (e3 : codeIn K cdv "law" = true) .. : ∃ t, My.Txt K t

set_option maxRecDepth 100000 in
set_option maxHeartbeats 0 in
theorem PySem.Challenge.cw_LID_holds : PySem.Challenge.rw_LID.Holds := by
  w_on; o_law; k_head; (case hw => w_witness2)
  k_fill
  refine L2.walk_of (l := PySem.Challenge.rw_LID) (n := 63) (k := 40) (x := "script") (CX := fun w => ..) (sp := fun _ => My.sp_law) rfl (by decide) rfl ⟨rfl, by decide, by decide⟩ (fun w h Y => PySem.W.kIn_of Y) ?F ?S ?C
  case F =>
    intro w mg fa h KX G hmg
    have T : ∃ t, My.Txt (L2.KOf KX) t := by
      dsimp only [L2.KOf]                          -- K must stand as «<heap const> w.params» for k_is
      refine' My.txt_mk ?e1 ?e2 ?e3 ..
      (case e1 => PySem.W.k_is)                    -- in the order: a name -> its address -> its object -> its parts
      (case e2 => PySem.W.k_is)
      ..
    obtain ⟨t, T⟩ := T
    have e0 := hmg.symm.trans (PySem.W.mg_of KX G T.law)
    cases e0                                       -- fa is the law's own address
    exact ⟨_, fun s u => .of_eq rfl, fun base kb nb => My.law_fn T kb nb⟩     -- if «.of_eq rfl» comes too early: refine' ⟨_, ?b, fun base kb nb => My.law_fn T kb nb⟩; exact fun s u => .of_eq rfl
  case S => exact fun w H a ns hl hO hS => ..
  case C => exact ..
(the tactic k_is has no namespace: write k_is) -/

/-! SHORT WORDS over the layer: a def of the text, its body, what a loop and a test want. -/
namespace L2
open PySem PySem.Spec PyProof.Rows

/-! ### the text by places -/
/-- the j-th statement of a class's body -/
def inClass (s : Stmt) (j : Nat) : Stmt := match s with
  | .ClassDef _ _ _ body _ _ _ _ _ _ _ => body.getD j (.Pass ⟨0, 0, 0, 0⟩)
  | _ => .Pass ⟨0, 0, 0, 0⟩
def defArgs (s : Stmt) : Arguments := match s with
  | .FunctionDef _ a _ _ _ _ _ _ _ _ => a
  | _ => { posonlyargs := [], args := [], vararg := none, kwonlyargs := [], kw_defaults := [], kwarg := none, defaults := [] }
def defBody (s : Stmt) : List Stmt := match s with
  | .FunctionDef _ _ b _ _ _ _ _ _ _ => b
  | _ => []
def defScope (s : Stmt) : Scope := match s with
  | .FunctionDef _ _ _ _ _ _ sc _ _ _ => sc
  | _ => { kind := .function, names := [], isGenerator := false, isCoroutine := false }

/-! ### no exception leaves a def -/
abbrev CX0 : CXT := fun _ _ _ _ _ _ => False
abbrev E0 : XK := fun _ _ _ => False
theorem pass0 {X : Cx} : Passes CX0 X E0 := fun _ _ _ _ _ _ _ h => h.elim

/-! ### a def (or method) of the text as it stands behind the top -/
structure Fun (K : PySem.W.Frag) (x qual : Str) (st : Stmt) (f : Addr) (fd : FuncData) : Prop where
  ex : ∃ (oc : Value) (od : Option Addr) (kV doc pm : Value) (an : Option Addr) (cdv ct : Value) (osl : Array (Option Value)),
    fd = PySem.W.fnOf x qual (defArgs st) (defBody st) (defScope st) .none kV doc pm an cdv ct ∧ K.lookup f = some ⟨oc, od, .func fd, osl⟩ ∧ PySem.W.codeIn K cdv qual = true
  kp : PySem.W.keepIn K (.ref f) = true
section
variable {P : Program} {w : World} {K : PySem.W.Frag} {mg : Str → Option Value} {base : Heap}
/-- THE RULE for a def: its body as a term of rules, and the reading of that term -/
theorem Fun.ok {x qual : Str} {st : Stmt} {f : Addr} {fd : FuncData} {N ps : List Str} {k : Nat} {sp : Sp} (F : Fun K x qual st f fd) (S : FnScope N ps (defScope st)) (len : ∀ vs H Q E, sp vs H Q E → vs.length = ps.length)
    (hbody : ∀ (cdv : Value) (A : Around) (outer : List Env) (s : Shared) (H : Hp) (vs : List V) (Q : VK) (E : XK), Room k (A.deeper (envOfC qual (defScope st) s.heap.objs.size f cdv)) → sp vs H Q E →
      ∃ t, PSs (cxOf CX0 P w K mg base N qual (defScope st) f cdv A outer s H E).nox (defBody st) t ∧ t { nx := fun _ H' => Q .non H', rt := Q } (start N vs) H) : FnOk P w K mg base CX0 (k + 1) f fd ps sp := by
  obtain ⟨oc, od, kV, doc, pm, an, cdv, ct, osl, rfl, lk, hcd⟩ := F.ex
  refine fn_of lk hcd S len fun A outer s H vs Q E hr hsp => ?_
  obtain ⟨t, h, q⟩ := hbody cdv A outer s H vs Q E hr hsp
  exact ⟨t, h.nox, q⟩
/-- how its arguments bind (no defaults): h is «fun _ _ _ _ _ _ us hl => match us, hl with | [_, _], _ => rfl», one _ a parameter -/
theorem Fun.binds {x qual : Str} {st : Stmt} {f : Addr} {fd : FuncData} {ps : List Str} (F : Fun K x qual st f fd)
    (h : ∀ (kV doc pm : Value) (an : Option Addr) (cdv ct : Value) (us : List Value), us.length = ps.length → bindArgs (PySem.W.fnOf x qual (defArgs st) (defBody st) (defScope st) .none kV doc pm an cdv ct) ⟨us, []⟩ = pure (ps.zip us)) : Binds K fd ps [] := by
  obtain ⟨oc, od, kV, doc, pm, an, cdv, ct, osl, rfl, lk, hcd⟩ := F.ex
  exact .all (h kV doc pm an cdv ct)
theorem fun_mk {x qual : Str} {st : Stmt} {f : Addr} {oc : Value} {od an : Option Addr} {osl : Array (Option Value)} {kV doc pm cdv ct : Value} (l : K.lookup f = some ⟨oc, od, .func (PySem.W.fnOf x qual (defArgs st) (defBody st) (defScope st) .none kV doc pm an cdv ct), osl⟩)
    (c : PySem.W.codeIn K cdv qual = true) (k : PySem.W.keepIn K (.ref f) = true) : Fun K x qual st f (PySem.W.fnOf x qual (defArgs st) (defBody st) (defScope st) .none kV doc pm an cdv ct) := ⟨⟨oc, od, kV, doc, pm, an, cdv, ct, osl, rfl, l, c⟩, k⟩
end
theorem hu_of {A : Around} {k : Nat} (hr : Room k A) : A.units + 1 < cLine := Nat.lt_of_le_of_lt (Nat.add_le_add_left (by decide : 1 ≤ 64) _) hr.units
theorem small1000 {n : Nat} (h : n ≤ 1000) : n < sizeLine := Nat.lt_of_le_of_lt h (by decide)

/-! ### expressions in short: the name that stands in the i-th slot -/
section
variable {X : Cx}
theorem pv (i : Nat) {x : Str} {pos : Pos} (hN : X.N[i]? = some x := by rfl) (hv : Vis X.env.scope x := by first | exact Or.inl rfl | exact Or.inr (Or.inl rfl) | exact Or.inr (Or.inr rfl)) (hd : (x == ("__debug__" : Str)) = false := by decide)
    (hcd : (x == ("__classdict__" : Str)) = false := by decide) : PE X (.Name x pos) (tVar i) := pe_var hN hv hd hcd
end

/-! ### tests -/
theorem iteF {A B : Prop} (h : B) : if false = true then A else B := by
  rw [if_neg Bool.false_ne_true]
  exact h
theorem iteT {A B : Prop} (h : A) : if true = true then A else B := by
  rw [if_pos rfl]
  exact h
theorem ite2 {c A B : Prop} [Decidable c] (h1 : c → A) (h2 : ¬ c → B) : if c then A else B := by
  by_cases h : c
  · rw [if_pos h]
    exact h1 h
  · rw [if_neg h]
    exact h2 h
theorem iteNS {c A B : Prop} [Decidable c] (hc : c) (h : B) : if (!decide c) = true then A else B := by
  rw [decide_eq_true hc]
  exact iteF h

/-! ### heaps -/
/-- all that was tracked is as it was -/
def Same (H H' : Hp) : Prop := ∀ b o, H b = some o → H' b = some o
theorem Same.refl (H : Hp) : Same H H := fun _ _ h => h
theorem Same.trans {H H1 H2 : Hp} (a : Same H H1) (b : Same H1 H2) : Same H H2 := fun c o h => b c o (a c o h)
theorem Same.free {H H' : Hp} (e : Same H H') {l : Addr} (h : H' l = Option.none) : H l = Option.none := by
  cases q : H l with
  | none => rfl
  | some o =>
    rw [e l o q] at h
    cases h
theorem Same.seq {K : PySem.W.Frag} {H H' : Hp} {a : Addr} {xs : List V} (e : Same H H') (h : SqL K H a xs) : SqL K H' a xs := by
  rcases h with (h | ⟨o, h⟩) | h
  · exact .inl (.inl (e _ _ h))
  · exact .inl (.inr ⟨o, e _ _ h⟩)
  · exact .inr h

end L2

end
section
set_option Elab.async false
set_option linter.all false
set_option maxRecDepth 100000
/-! ## zip of two sequences, each a list or a tuple -/
namespace ZS
open PySem
open Sem (wp)
/-- which of the two kinds -/
inductive SK where | l | t
def ItOf (k : SK) (h : Heap) (it a : Addr) (i : Nat) : Prop := match k with
  | .l => h.IsListIter it a i
  | .t => h.IsTupleIter it a i
def SeqOf (k : SK) (h : Heap) (a : Addr) (xs : Array Value) : Prop := match k with
  | .l => h.IsList a xs
  | .t => h.IsTuple a xs
def itObj (k : SK) (a : Addr) : Obj := match k with
  | .l => { cls := .type "list_iterator", data := .fields #[.ref a, .int 0 0] }
  | .t => { cls := .type "tuple_iterator", data := .fields #[.ref a, .int 0 0] }
section
variable {k : SK} {h h' : Heap} {it a : Addr} {i : Nat} {xs : Array Value}
theorem ItOf.on (x : ItOf k h it a i) (e : ∀ o, h.get? it = some o → h'.get? it = some o) : ItOf k h' it a i := by
  cases k with
  | l => obtain ⟨o, ho, r⟩ := (show h.IsListIter it a i from x); exact ⟨o, e o ho, r⟩
  | t => obtain ⟨o, ho, r⟩ := (show h.IsTupleIter it a i from x); exact ⟨o, e o ho, r⟩
theorem SeqOf.on (x : SeqOf k h a xs) (e : ∀ o, h.get? a = some o → h'.get? a = some o) : SeqOf k h' a xs := by
  cases k with
  | l => obtain ⟨o, ho, r⟩ := (show h.IsList a xs from x); exact ⟨o, e o ho, r⟩
  | t => obtain ⟨o, ho, r⟩ := (show h.IsTuple a xs from x); exact ⟨o, e o ho, r⟩
theorem ItOf.obj (x : ItOf k h it a i) : ∃ o, h.get? it = some o ∧ ∀ v, o.data ≠ .cell v := by
  cases k with
  | l => obtain ⟨o, ho, c, d⟩ := (show h.IsListIter it a i from x); exact ⟨o, ho, fun v z => by rw [d] at z; cases z⟩
  | t => obtain ⟨o, ho, c, d⟩ := (show h.IsTupleIter it a i from x); exact ⟨o, ho, fun v z => by rw [d] at z; cases z⟩
theorem ItOf.new (e : h.get? it = some (itObj k a)) : ItOf k h it a 0 := by
  cases k with
  | l => exact ⟨_, e, rfl, rfl⟩
  | t => exact ⟨_, e, rfl, rfl⟩
end
section
variable {prog : Program} {w : World} {A : Around} {E : Value → Shared → Prop} {s : Shared}

theorem nextT {it t : Addr} {i : Nat} {items : Array Value} {x : Value} {Q : Value → Shared → Prop} (hit : s.heap.IsTupleIter it t i) (ht : s.heap.IsTuple t items) (hx : items[i]? = some x)
    (hQ : ∀ h', h'.IsTupleIter it t (i + 1) → Heap.SameBut it s.heap h' → Q x { s with heap := h' }) : wpAny (model prog w) A (Builtin.SmallTypes.nextOf (.ref it)) Q E s := by
  obtain ⟨o, ho, hc, hd⟩ := id hit
  obtain ⟨ot, hot, _, nt, hdt⟩ := ht
  unfold Builtin.SmallTypes.nextOf
  refine wpAny_bind (wpAny_callSpecial?_slot (name := Str.ofString "__next__") hit.typeIs F.slot_tuple_iterator_next (wpAny_call_entry F.slot_tuple_iterator_next hit.typeIs F.entry_tuple_iterator_next ?_ (F.args_tuple_iterator_next_1 _)))
  show wpAny _ _ (field (.ref it) 0 >>= _) _ _ s
  refine wpAny_bind (wpAny_field ho hd (x := .ref t) rfl ?_)
  show wpAny _ _ (if (Value.ref t == Value.none) = true then _ else _) _ _ s
  rw [if_neg (fun z : (Value.ref t == Value.none) = true => Bool.false_ne_true z)]
  show wpAny _ _ (field (.ref it) 1 >>= _) _ _ s
  refine wpAny_bind (wpAny_field ho hd (x := .int i 0) rfl (wpAny_bind (wpAny_seqItems hot hdt ?_)))
  simp only [Int.toNat_natCast, hx]
  refine wpAny_bind (wpAny_setField ho hd (by simp) (wpAny_pure ⟨x, rfl, wpAny_pure (hQ _ ⟨_, Heap.get?_update_self _ ho (Obj.isFreed_of_fields (Obj.data_mapFields hd _)), ?_, ?_⟩ (Heap.SameBut.update ..))⟩))
  · exact (Obj.cls_mapFields ..).trans hc
  · rw [Obj.data_mapFields hd]
    simp [rawInt]

theorem endT {it t : Addr} {i : Nat} {items : Array Value} {Q : Value → Shared → Prop} (hh : A.handled = none) (hit : s.heap.IsTupleIter it t i) (ht : s.heap.IsTuple t items) (hx : items[i]? = none)
    (hE : ∀ h' e, Heap.ExtBut it s.heap h' → (∃ o, h'.get? e = some o ∧ o.cls = .type "StopIteration") → E (.ref e) { s with heap := h' }) : wpAny (model prog w) A (Builtin.SmallTypes.nextOf (.ref it)) Q E s := by
  obtain ⟨o, ho, hc, hd⟩ := id hit
  obtain ⟨ot, hot, _, nt, hdt⟩ := ht
  unfold Builtin.SmallTypes.nextOf
  refine wpAny_bind (wpAny_callSpecial?_slot (name := Str.ofString "__next__") hit.typeIs F.slot_tuple_iterator_next (wpAny_call_entry F.slot_tuple_iterator_next hit.typeIs F.entry_tuple_iterator_next ?_ (F.args_tuple_iterator_next_1 _)))
  show wpAny _ _ (field (.ref it) 0 >>= _) _ _ s
  refine wpAny_bind (wpAny_field ho hd (x := .ref t) rfl ?_)
  show wpAny _ _ (if (Value.ref t == Value.none) = true then _ else _) _ _ s
  rw [if_neg (fun z : (Value.ref t == Value.none) = true => Bool.false_ne_true z)]
  show wpAny _ _ (field (.ref it) 1 >>= _) _ _ s
  refine wpAny_bind (wpAny_field ho hd (x := .int i 0) rfl (wpAny_bind (wpAny_seqItems hot hdt ?_)))
  simp only [Int.toNat_natCast, hx]
  refine wpAny_bind (wpAny_rule (wpAny_bind (wpAny_setField ho hd (by simp) ?_)))
  show wpAny _ _ (newExc (.type "StopIteration") [] >>= _) _ _ _
  refine wpAny_bind ?_
  simp only [newExc, newTuple]
  refine wpAny_bind (wpAny_newObj_type ?_ (by size_fits))
  refine wpAny_bind (m := firstArgMember _ _) (wpAny_of_eq (a := Value.none) (by first | rfl | (simp only [firstArgMember]; rfl)) (wpAny_newObj_type ?_ (by size_fits)))
  simp only [raiseNew]
  refine wpAny_bind (wpAny_handled ?_)
  first | rw [show A.in1.handled = none from hh] | rw [hh]
  exact wpAny_bind (wpAny_pure (wpAny_throw (hE _ _ (((Heap.SameBut.update ..).extBut.push _).push _) ⟨_, Heap.get?_push_size _ rfl, rfl⟩)))

theorem next_item {k : SK} {it a : Addr} {i : Nat} {xs : Array Value} {x : Value} {Q : Value → Shared → Prop} (hit : ItOf k s.heap it a i) (hl : SeqOf k s.heap a xs) (hx : xs[i]? = some x)
    (hQ : ∀ h', ItOf k h' it a (i + 1) → Heap.SameBut it s.heap h' → Q x { s with heap := h' }) : wpAny (model prog w) A (Builtin.SmallTypes.nextOf (.ref it)) Q E s := by
  cases k with
  | l => exact wpAny_nextOf_list_item hit hl hx hQ
  | t => exact nextT hit hl hx hQ
theorem next_end {k : SK} {it a : Addr} {i : Nat} {xs : Array Value} {Q : Value → Shared → Prop} (hh : A.handled = none) (hit : ItOf k s.heap it a i) (hl : SeqOf k s.heap a xs) (hx : xs[i]? = none)
    (hE : ∀ h' e, Heap.ExtBut it s.heap h' → (∃ o, h'.get? e = some o ∧ o.cls = .type "StopIteration") → E (.ref e) { s with heap := h' }) : wpAny (model prog w) A (Builtin.SmallTypes.nextOf (.ref it)) Q E s := by
  cases k with
  | l => exact wpAny_nextOf_list_end hh hit hl hx hE
  | t => exact endT hh hit hl hx hE
theorem iter_seq {k : SK} {a : Addr} {xs : Array Value} {Q : Value → Shared → Prop} (hl : SeqOf k s.heap a xs) (hQ : Q (.ref s.heap.objs.size) { s with heap := s.heap.push (itObj k a) }) : wpAny (model prog w) A (pyIter (.ref a)) Q E s := by
  cases k with
  | l => exact wpAny_pyIter_list (show s.heap.IsList a xs from hl) hQ
  | t => exact wpAny_pyIter_tuple (show s.heap.IsTuple a xs from hl) hQ

/-- the five records of a zip stand apart, and apart from the two sequences -/
structure Five (z ti to i1 i2 a1 a2 : Addr) : Prop where
  own : z ≠ ti ∧ z ≠ to ∧ z ≠ i1 ∧ z ≠ i2 ∧ ti ≠ to ∧ ti ≠ i1 ∧ ti ≠ i2 ∧ to ≠ i1 ∧ to ≠ i2 ∧ i1 ≠ i2
  seq : a1 ≠ z ∧ a1 ≠ to ∧ a1 ≠ i1 ∧ a1 ≠ i2 ∧ a2 ≠ z ∧ a2 ≠ to ∧ a2 ≠ i1 ∧ a2 ≠ i2

variable {k1 k2 : SK} {z ti to i1 i2 a1 a2 : Addr} {n1 n2 : Nat} {xs ys : Array Value} {x y a b : Value}

theorem zip_draw {Q : Value → Shared → Prop} (D : Five z ti to i1 i2 a1 a2) (hz : IsZip s.heap z ti to .none) (hti : IsPair s.heap ti (.ref i1) (.ref i2)) (hto : IsPair s.heap to a b)
    (h1 : ItOf k1 s.heap i1 a1 n1) (h2 : ItOf k2 s.heap i2 a2 n2) (s1 : SeqOf k1 s.heap a1 xs) (s2 : SeqOf k2 s.heap a2 ys) (hx : xs[n1]? = some x) (hy : ys[n2]? = some y)
    (hQ : ∀ h', IsZip h' z ti to (rawInt s.heap.objs.size) → IsPair h' to x y → ItOf k1 h' i1 a1 (n1 + 1) → ItOf k2 h' i2 a2 (n2 + 1) → IsPair h' s.heap.objs.size x y → h'.objs.size = s.heap.objs.size + 1 →
      (∀ c o, c ≠ z → c ≠ to → c ≠ i1 → c ≠ i2 → s.heap.get? c = some o → h'.get? c = some o) → Q (.ref s.heap.objs.size) { s with heap := h' }) :
    wpAny (model prog w) A (Builtin.«zip.__next__» ⟨[.ref z], []⟩) (fun fin s' => ∃ v, fin = .done (.ret v) ∧ Q v s') E s := by
  obtain ⟨⟨zti, zto, zi1, zi2, tito, tii1, tii2, toi1, toi2, i12⟩, a1z, a1to, a1i1, a1i2, a2z, a2to, a2i1, a2i2⟩ := D
  show wpAny _ _ (field (.ref z) 2 >>= _) _ _ _
  refine wpAny_bind (wpAny_field hz rfl (x := .bool false) rfl ?_)
  show wpAny _ _ (field (.ref z) 3 >>= _) _ _ _
  refine wpAny_bind (wpAny_field hz rfl (x := .ref ti) rfl (wpAny_bind (wpAny_seqItems hti rfl ?_)))
  show wpAny _ _ (Builtin.SmallTypes.ownedTupleIsFree (.ref z) >>= _) _ _ _
  refine wpAny_bind ?_
  unfold Builtin.SmallTypes.ownedTupleIsFree
  refine wpAny_bind (wpAny_field hz rfl (x := .none) rfl (wpAny_pure ?_))
  simp only [if_true]
  refine wpAny_bind (wpAny_rule (wpAny_bind (wpAny_field hz rfl (x := .ref to) rfl (wpAny_bind (wpAny_setField_rec hz (by simp) fun g1 hz1 e1 => ?_)))))
  replace hz1 : IsZip g1 z ti to .ellipsis := hz1
  refine wpAny_bind ?_
  simp only [List.zipIdx_cons, List.zipIdx_nil, List.forIn_cons, List.forIn_nil]
  -- the first
  refine wpAny_bind (wpAny_bind (wpAny_onRaise ?_))
  show wpAny _ _ (Builtin.SmallTypes.nextOf (.ref i1) >>= _) _ _ _
  refine wpAny_bind (next_item (h1.on fun o e => e1.extBut _ o zi1.symm e) (s1.on fun o e => e1.extBut _ o a1z e) hx fun g2 j1 e2 => wpAny_pure ?_)
  have to2 : IsPair g2 to a b := e2.extBut _ _ toi1 (e1.extBut _ _ zto.symm hto)
  refine wpAny_bind (wpAny_seqItems to2 rfl (wpAny_bind (wpAny_updateSeq_pair to2 fun g3 to3 e3 => wpAny_bind (wpAny_letGo (wpAny_pure ?_)))))
  replace to3 : IsPair g3 to x b := to3
  -- the second
  refine wpAny_bind (wpAny_bind (wpAny_onRaise ?_))
  show wpAny _ _ (Builtin.SmallTypes.nextOf (.ref i2) >>= _) _ _ _
  refine wpAny_bind (next_item (h2.on fun o e => e3.extBut _ o toi2.symm (e2.extBut _ o i12.symm (e1.extBut _ o zi2.symm e))) (s2.on fun o e => e3.extBut _ o a2to (e2.extBut _ o a2i1 (e1.extBut _ o a2z e))) hy fun g4 j2 e4 => wpAny_pure ?_)
  have to4 : IsPair g4 to x b := e4.extBut _ _ toi2 to3
  refine wpAny_bind (wpAny_seqItems to4 rfl (wpAny_bind (wpAny_updateSeq_pair to4 fun g5 to5 e5 => wpAny_bind (wpAny_letGo (wpAny_pure (wpAny_pure ?_))))))
  replace to5 : IsPair g5 to x y := to5
  refine wpAny_bind (wpAny_seqItems to5 rfl (wpAny_bind (wpAny_newTuple ?_)))
  have sz : g5.objs.size = s.heap.objs.size := by rw [e5.1, e4.1, e3.1, e2.1, e1.1]
  have z5 : IsZip g5 z ti to .ellipsis := e5.extBut _ _ zto (e4.extBut _ _ zi2 (e3.extBut _ _ zto (e2.extBut _ _ zi1 hz1)))
  have up5 : ∀ c o, c ≠ z → c ≠ to → c ≠ i1 → c ≠ i2 → s.heap.get? c = some o → g5.get? c = some o := fun c o c1 c2 c3 c4 e =>
    e5.extBut _ _ c2 (e4.extBut _ _ c4 (e3.extBut _ _ c2 (e2.extBut _ _ c3 (e1.extBut _ _ c1 e))))
  have p1 : ItOf k1 g5 i1 a1 (n1 + 1) := j1.on fun o e => e5.extBut _ _ toi1.symm (e4.extBut _ _ i12 (e3.extBut _ _ toi1.symm e))
  have p2 : ItOf k2 g5 i2 a2 (n2 + 1) := j2.on fun o e => e5.extBut _ _ toi2.symm e
  have ltz : z < g5.objs.size := Heap.lt_size z5
  show wpAny _ _ (Builtin.SmallTypes.ownedTupleHandOut (.ref z) (.ref g5.objs.size) >>= _) _ _ _
  refine wpAny_bind ?_
  unfold Builtin.SmallTypes.ownedTupleHandOut
  have z6 : IsZip (g5.push { cls := .type "tuple", data := .seq #[x, y] }) z ti to .ellipsis := Heap.get?_push_of_some _ z5
  refine wpAny_bind (wpAny_setField_rec z6 (by simp) fun g7 z7 e7 => ?_)
  replace z7 : IsZip g7 z ti to (rawInt g5.objs.size) := z7
  refine wpAny_setField_rec z7 (by simp) fun g8 z8 e8 => ?_
  replace z8 : IsZip g8 z ti to (rawInt g5.objs.size) := z8
  have up : ∀ c o, c ≠ z → g5.get? c = some o → g8.get? c = some o := fun c o c1 e => e8.extBut _ _ c1 (e7.extBut _ _ c1 (Heap.get?_push_of_some _ e))
  have t8 : IsPair g8 g5.objs.size x y := e8.extBut _ _ (Nat.ne_of_gt ltz) (e7.extBut _ _ (Nat.ne_of_gt ltz) (Heap.get?_push_size _ rfl))
  have sz8 : g8.objs.size = g5.objs.size + 1 := by rw [e8.1, e7.1, Heap.size_push]
  rw [sz] at z8 t8 sz8
  refine wpAny_pure ⟨_, rfl, ?_⟩
  show Q (.ref g5.objs.size) _
  rw [sz]
  exact hQ g8 z8 (up _ _ zto.symm to5) (p1.on fun o e => up _ o zi1.symm e) (p2.on fun o e => up _ o zi2.symm e) t8 sz8 fun c o c1 c2 c3 c4 e => up c o c1 (up5 c o c1 c2 c3 c4 e)

theorem zip_out {Q : Fin → Shared → Prop} (hh : A.handled = none) (D : Five z ti to i1 i2 a1 a2) (hz : IsZip s.heap z ti to .none) (hti : IsPair s.heap ti (.ref i1) (.ref i2)) (hto : IsPair s.heap to a b)
    (h1 : ItOf k1 s.heap i1 a1 n1) (h2 : ItOf k2 s.heap i2 a2 n2) (s1 : SeqOf k1 s.heap a1 xs) (s2 : SeqOf k2 s.heap a2 ys) (hend : xs[n1]? = none ∨ ys[n2]? = none)
    (hE : ∀ h' e, (∀ c o, c ≠ z → c ≠ to → c ≠ i1 → c ≠ i2 → s.heap.get? c = some o → h'.get? c = some o) → (∃ o, h'.get? e = some o ∧ o.cls = .type "StopIteration") → E (.ref e) { s with heap := h' }) :
    wpAny (model prog w) A (Builtin.«zip.__next__» ⟨[.ref z], []⟩) Q E s := by
  obtain ⟨⟨zti, zto, zi1, zi2, tito, tii1, tii2, toi1, toi2, i12⟩, a1z, a1to, a1i1, a1i2, a2z, a2to, a2i1, a2i2⟩ := D
  show wpAny _ _ (field (.ref z) 2 >>= _) _ _ _
  refine wpAny_bind (wpAny_field hz rfl (x := .bool false) rfl ?_)
  show wpAny _ _ (field (.ref z) 3 >>= _) _ _ _
  refine wpAny_bind (wpAny_field hz rfl (x := .ref ti) rfl (wpAny_bind (wpAny_seqItems hti rfl ?_)))
  show wpAny _ _ (Builtin.SmallTypes.ownedTupleIsFree (.ref z) >>= _) _ _ _
  refine wpAny_bind ?_
  unfold Builtin.SmallTypes.ownedTupleIsFree
  refine wpAny_bind (wpAny_field hz rfl (x := .none) rfl (wpAny_pure ?_))
  simp only [if_true]
  refine wpAny_bind (wpAny_rule (wpAny_bind (wpAny_field hz rfl (x := .ref to) rfl (wpAny_bind (wpAny_setField_rec hz (by simp) fun g1 hz1 e1 => ?_)))))
  replace hz1 : IsZip g1 z ti to .ellipsis := hz1
  refine wpAny_bind ?_
  simp only [List.zipIdx_cons, List.zipIdx_nil, List.forIn_cons, List.forIn_nil]
  refine wpAny_bind (wpAny_bind (wpAny_onRaise ?_))
  show wpAny _ _ (Builtin.SmallTypes.nextOf (.ref i1) >>= _) _ _ _
  cases hx : xs[n1]? with
  | none =>
    refine wpAny_bind (next_end hh (h1.on fun o e => e1.extBut _ o zi1.symm e) (s1.on fun o e => e1.extBut _ o a1z e) hx fun g2 e e2 he => ?_)
    obtain ⟨oe, hoe, hce⟩ := he
    have z2 : IsZip g2 z ti to .ellipsis := e2 _ _ zi1 hz1
    have hez : e ≠ z := fun q => by subst q; rw [z2] at hoe; cases hoe; simp at hce
    exact wpAny_setField_rec z2 (by simp) fun g3 _ e3 => hE g3 e (fun c o c1 _ c3 _ q => e3.extBut _ _ c1 (e2 _ _ c3 (e1.extBut _ _ c1 q))) ⟨oe, e3.extBut _ _ hez hoe, hce⟩
  | some x =>
    have hy : ys[n2]? = none := by
      rcases hend with q | q
      · rw [hx] at q; cases q
      · exact q
    refine wpAny_bind (next_item (h1.on fun o e => e1.extBut _ o zi1.symm e) (s1.on fun o e => e1.extBut _ o a1z e) hx fun g2 j1 e2 => wpAny_pure ?_)
    have to2 : IsPair g2 to a b := e2.extBut _ _ toi1 (e1.extBut _ _ zto.symm hto)
    refine wpAny_bind (wpAny_seqItems to2 rfl (wpAny_bind (wpAny_updateSeq_pair to2 fun g3 to3 e3 => wpAny_bind (wpAny_letGo (wpAny_pure ?_)))))
    refine wpAny_bind (wpAny_bind (wpAny_onRaise ?_))
    show wpAny _ _ (Builtin.SmallTypes.nextOf (.ref i2) >>= _) _ _ _
    refine wpAny_bind (next_end hh (h2.on fun o e => e3.extBut _ o toi2.symm (e2.extBut _ o i12.symm (e1.extBut _ o zi2.symm e))) (s2.on fun o e => e3.extBut _ o a2to (e2.extBut _ o a2i1 (e1.extBut _ o a2z e))) hy fun g4 e e4 he => ?_)
    obtain ⟨oe, hoe, hce⟩ := he
    have z4 : IsZip g4 z ti to .ellipsis := e4 _ _ zi2 (e3.extBut _ _ zto (e2.extBut _ _ zi1 hz1))
    have hez : e ≠ z := fun q => by subst q; rw [z4] at hoe; cases hoe; simp at hce
    exact wpAny_setField_rec z4 (by simp) fun g5 _ e5 => hE g5 e (fun c o c1 c2 c3 c4 q => e5.extBut _ _ c1 (e4 _ _ c4 (e3.extBut _ _ c2 (e2.extBut _ _ c3 (e1.extBut _ _ c1 q))))) ⟨oe, e5.extBut _ _ hez hoe, hce⟩

theorem zip_next {Q : Option Value → Shared → Prop} (D : Five z ti to i1 i2 a1 a2) (hz : IsZip s.heap z ti to .none) (hti : IsPair s.heap ti (.ref i1) (.ref i2)) (hto : IsPair s.heap to a b)
    (h1 : ItOf k1 s.heap i1 a1 n1) (h2 : ItOf k2 s.heap i2 a2 n2) (s1 : SeqOf k1 s.heap a1 xs) (s2 : SeqOf k2 s.heap a2 ys) (hx : xs[n1]? = some x) (hy : ys[n2]? = some y)
    (hQ : ∀ h', IsZip h' z ti to (rawInt s.heap.objs.size) → IsPair h' to x y → ItOf k1 h' i1 a1 (n1 + 1) → ItOf k2 h' i2 a2 (n2 + 1) → IsPair h' s.heap.objs.size x y → h'.objs.size = s.heap.objs.size + 1 →
      (∀ c o, c ≠ z → c ≠ to → c ≠ i1 → c ≠ i2 → s.heap.get? c = some o → h'.get? c = some o) → Q (some (.ref s.heap.objs.size)) { s with heap := h' }) :
    wpAny (model prog w) A (pyNext (.ref z)) Q E s := by
  have hT : s.TypeIs (.ref z) "zip" := ⟨_, hz, rfl⟩
  unfold pyNext
  exact wpAny_bind (wpAny_attempt (wpAny_callSpecial?_slot (name := Str.ofString "__next__") hT F.slot_zip_next (wpAny_call_entry F.slot_zip_next hT F.entry_zip_next
    (zip_draw D hz hti hto h1 h2 s1 s2 hx hy fun h' q1 q2 q3 q4 q5 q6 q7 => wpAny_pure (hQ h' q1 q2 q3 q4 q5 q6 q7)) (F.args_zip_next_1 _))))
theorem zip_stop {Q : Option Value → Shared → Prop} (hh : A.handled = none) (D : Five z ti to i1 i2 a1 a2) (hz : IsZip s.heap z ti to .none) (hti : IsPair s.heap ti (.ref i1) (.ref i2)) (hto : IsPair s.heap to a b)
    (h1 : ItOf k1 s.heap i1 a1 n1) (h2 : ItOf k2 s.heap i2 a2 n2) (s1 : SeqOf k1 s.heap a1 xs) (s2 : SeqOf k2 s.heap a2 ys) (hend : xs[n1]? = none ∨ ys[n2]? = none)
    (hQ : ∀ h', (∀ c o, c ≠ z → c ≠ to → c ≠ i1 → c ≠ i2 → s.heap.get? c = some o → h'.get? c = some o) → Q none { s with heap := h' }) : wpAny (model prog w) A (pyNext (.ref z)) Q E s := by
  have hT : s.TypeIs (.ref z) "zip" := ⟨_, hz, rfl⟩
  unfold pyNext
  refine wpAny_bind (wpAny_attempt (wpAny_callSpecial?_slot (name := Str.ofString "__next__") hT F.slot_zip_next (wpAny_call_entry F.slot_zip_next hT F.entry_zip_next
    (zip_out hh D hz hti hto h1 h2 s1 s2 hend fun h' e up he => ?_) (F.args_zip_next_1 _))))
  obtain ⟨o, ho, hc⟩ := he
  exact wpAny_bind (wpAny_isInstance (T := "StopIteration") (b := true) ⟨o, ho, hc⟩ isSubtype_stop (wpAny_pure (hQ _ up)))
end

abbrev gr1 (k1 : SK) (h : Heap) (a1 : Addr) : Heap := h.push (itObj k1 a1)
abbrev gr2 (k1 k2 : SK) (h : Heap) (a1 a2 : Addr) : Heap := (gr1 k1 h a1).push (itObj k2 a2)
abbrev gr3 (k1 k2 : SK) (h : Heap) (a1 a2 : Addr) : Heap := (gr2 k1 k2 h a1 a2).push { cls := .type "tuple", data := .seq #[.ref h.objs.size, .ref (gr1 k1 h a1).objs.size] }
abbrev gr4 (k1 k2 : SK) (h : Heap) (a1 a2 : Addr) : Heap := (gr3 k1 k2 h a1 a2).push { cls := .type "tuple", data := .seq #[.none, .none] }
abbrev gr5 (k1 k2 : SK) (h : Heap) (a1 a2 : Addr) : Heap :=
  (gr4 k1 k2 h a1 a2).push { cls := .type "zip", data := .fields #[.none, .bool false, .bool false, .ref (gr2 k1 k2 h a1 a2).objs.size, .ref (gr3 k1 k2 h a1 a2).objs.size] }

theorem zip_makes (k1 k2 : SK) (a1 a2 : Addr) (xs ys : Array Value) :
    Meets (Builtin.«zip.__new__» ⟨[.type "zip", .ref a1, .ref a2], []⟩) (fun _ R s => SeqOf k1 s.heap a1 xs ∧ SeqOf k2 s.heap a2 ys ∧ R (.ok (.ret (.ref (gr4 k1 k2 s.heap a1 a2).objs.size))) { s with heap := gr5 k1 k2 s.heap a1 a2 }) :=
  .of_wp fun prog w A R s h => by
    obtain ⟨hp, g, d, tk, os⟩ := s; obtain ⟨q1, q2, h⟩ := h
    have hsub := sub_zip
    have Q1 : SeqOf k1 (Shared.heap ⟨hp, g, d, tk, os⟩) a1 xs := q1
    have Q2 : SeqOf k2 (Shared.heap ⟨hp.push (itObj k1 a1), g, d, tk, os⟩) a2 ys := q2.on fun o e => Heap.get?_push_of_some _ e
    wp_walk using iter_seq Q1, iter_seq Q2
    exact ⟨_, rfl, h⟩

section
variable {prog : Program} {w : World} {A : Around} {E : Value → Shared → Prop} {s : Shared}
theorem zip_call {k1 k2 : SK} {a1 a2 : Addr} {xs ys : Array Value} {Q : Value → Shared → Prop} (q1 : SeqOf k1 s.heap a1 xs) (q2 : SeqOf k2 s.heap a2 ys)
    (h : ∀ h', IsZip h' (s.heap.objs.size + 4) (s.heap.objs.size + 2) (s.heap.objs.size + 3) .none → IsPair h' (s.heap.objs.size + 2) (.ref s.heap.objs.size) (.ref (s.heap.objs.size + 1)) →
      IsPair h' (s.heap.objs.size + 3) .none .none → ItOf k1 h' s.heap.objs.size a1 0 → ItOf k2 h' (s.heap.objs.size + 1) a2 0 → (∀ c o, s.heap.get? c = some o → h'.get? c = some o) → Q (.ref (s.heap.objs.size + 4)) { s with heap := h' }) :
    wpAny (model prog w) A (call (.type "zip") [.ref a1, .ref a2]) Q E s := by
  refine callType_new F.called_zip (by decide) (F.typeCall_zip_2 _ _) (F.newCall_zip_2 _ _) (fun obj => F.args_object_init_3 obj _ _) F.entry_zip_new (zip_makes k1 k2 a1 a2 xs ys) ⟨q1, q2, ?_⟩
  have c1 : (gr1 k1 s.heap a1).objs.size = s.heap.objs.size + 1 := Heap.size_push ..
  have c2 : (gr2 k1 k2 s.heap a1 a2).objs.size = s.heap.objs.size + 2 := by rw [Heap.size_push, c1]
  have c3 : (gr3 k1 k2 s.heap a1 a2).objs.size = s.heap.objs.size + 3 := by rw [Heap.size_push, c2]
  have c4 : (gr4 k1 k2 s.heap a1 a2).objs.size = s.heap.objs.size + 4 := by rw [Heap.size_push, c3]
  have g5 : (gr5 k1 k2 s.heap a1 a2).get? (gr4 k1 k2 s.heap a1 a2).objs.size = some _ := Heap.get?_push_size _ rfl
  have g4 : (gr5 k1 k2 s.heap a1 a2).get? (gr3 k1 k2 s.heap a1 a2).objs.size = some _ := Heap.get?_push_of_some _ (Heap.get?_push_size _ rfl)
  have g3 : (gr5 k1 k2 s.heap a1 a2).get? (gr2 k1 k2 s.heap a1 a2).objs.size = some _ := Heap.get?_push_of_some _ (Heap.get?_push_of_some _ (Heap.get?_push_size _ rfl))
  have fr : ∀ (k : SK) (a : Addr), (itObj k a).isFreed = false := fun k a => by cases k <;> rfl
  have g2 : (gr5 k1 k2 s.heap a1 a2).get? (gr1 k1 s.heap a1).objs.size = some _ := Heap.get?_push_of_some _ (Heap.get?_push_of_some _ (Heap.get?_push_of_some _ (Heap.get?_push_size _ (fr k2 a2))))
  have g1 : (gr5 k1 k2 s.heap a1 a2).get? s.heap.objs.size = some _ := Heap.get?_push_of_some _ (Heap.get?_push_of_some _ (Heap.get?_push_of_some _ (Heap.get?_push_of_some _ (Heap.get?_push_size _ (fr k1 a1)))))
  show _ ∧ _
  rw [c2, c3, c4] at g5
  rw [c1, c2] at g3
  rw [c3] at g4
  rw [c1] at g2
  rw [c4]
  exact ⟨⟨_, g5, rfl⟩, h _ g5 g3 g4 (ItOf.new g1) (ItOf.new g2) fun c o e => Heap.get?_push_of_some _ (Heap.get?_push_of_some _ (Heap.get?_push_of_some _ (Heap.get?_push_of_some _ (Heap.get?_push_of_some _ e))))⟩
end
end ZS

end
section
set_option linter.all false
namespace L2
structure Pl where
  hs : List Int
  ss : List Int
  bh : Int
  bs : Int
/-! ### a tick -/
def off (P : Pl) (c : List Int) (i : Nat) : Int := c.getD i 0 + P.ss.getD i 0
def cupT (P : Pl) (c : List Int) (i : Nat) : Int := if off P c i < P.hs.getD i 0 then off P c i else P.hs.getD i 0
def offs (P : Pl) (c : List Int) : List Int := (List.range P.hs.length).map (off P c)
def tkC (P : Pl) (c : List Int) : List Int := (List.range P.hs.length).map (cupT P c)
def mn (i j : Int) : Int := if j < i then j else i
def tkB (P : Pl) (c : List Int) (b : Int) : Int := mn P.bh (b + ((offs P c).sum - (tkC P c).sum) + P.bs)
theorem offs_len (P : Pl) (c : List Int) : (offs P c).length = P.hs.length := by simp [offs]
theorem tkC_len (P : Pl) (c : List Int) : (tkC P c).length = P.hs.length := by simp [tkC]
theorem getD_range {f : Nat → Int} {n i : Nat} (h : i < n) : ((List.range n).map f).getD i 0 = f i := by
  rw [List.getD_eq_getElem?_getD, List.getElem?_map, List.getElem?_range h]
  rfl
theorem tkC_get {P : Pl} {c : List Int} {i : Nat} (h : i < P.hs.length) : (tkC P c).getD i 0 = cupT P c i := getD_range h
/-- what runs over from the first k cups -/
def over (P : Pl) (c : List Int) : Nat → Int
  | 0 => 0
  | k + 1 => over P c k + (off P c k - cupT P c k)
theorem sum_range {f : Nat → Int} : ∀ n, ((List.range (n + 1)).map f).sum = ((List.range n).map f).sum + f n := fun n => by
  rw [List.range_succ, List.map_append, List.sum_append]
  simp
theorem over_sum (P : Pl) (c : List Int) : ∀ n, over P c n = ((List.range n).map (off P c)).sum - ((List.range n).map (cupT P c)).sum
  | 0 => by simp [over]
  | n + 1 => by
    rw [over, over_sum P c n, sum_range, sum_range]
    omega
theorem over_all (P : Pl) (c : List Int) : over P c P.hs.length = (offs P c).sum - (tkC P c).sum := over_sum P c _

/-! ### many ticks -/
def tkN (P : Pl) (c : List Int) (b : Int) : Nat → List Int × Int
  | 0 => (c, b)
  | n + 1 => (tkC P (tkN P c b n).1, tkB P (tkN P c b n).1 (tkN P c b n).2)
theorem tkN_len (P : Pl) {c : List Int} {b : Int} (h : c.length = P.hs.length) : ∀ n, (tkN P c b n).1.length = P.hs.length
  | 0 => h
  | n + 1 => tkC_len P _
theorem sum_getD (c : List Int) : ∀ j, j ≤ c.length → ((List.range j).map fun i => c.getD i 0).sum = (c.take j).sum
  | 0, _ => by simp
  | j + 1, h => by rw [sum_range, sum_getD c j (by omega), PyProof.Rows.take_sum_succ c j (by omega)]
theorem sum_two {f g : Nat → Int} : ∀ n, ((List.range n).map fun i => f i + g i).sum = ((List.range n).map f).sum + ((List.range n).map g).sum
  | 0 => by simp
  | n + 1 => by rw [sum_range, sum_range, sum_range, sum_two n]; omega
theorem offs_sum {P : Pl} {c : List Int} (hc : c.length = P.hs.length) (hs : P.ss.length = P.hs.length) : (offs P c).sum = c.sum + P.ss.sum := by
  unfold offs
  have : ((List.range P.hs.length).map (off P c)).sum = ((List.range P.hs.length).map fun i => c.getD i 0 + P.ss.getD i 0).sum := rfl
  rw [this, sum_two, sum_getD c _ (by omega), sum_getD P.ss _ (by omega), List.take_of_length_le (by omega), List.take_of_length_le (by omega)]
/-- nothing is lost but what a full bowl can't hold -/
theorem tick_sum {P : Pl} {c : List Int} {b : Int} (hc : c.length = P.hs.length) (hs : P.ss.length = P.hs.length) :
    tkB P c b + (tkC P c).sum = b + c.sum + (P.bs + P.ss.sum) ∨ (tkB P c b = P.bh ∧ tkB P c b + (tkC P c).sum ≤ b + c.sum + (P.bs + P.ss.sum)) := by
  have e := offs_sum hc hs
  unfold tkB mn
  split
  · exact .inl (by omega)
  · exact .inr ⟨rfl, by omega⟩
theorem cups_ticks {P : Pl} {c : List Int} {b : Int} (hc : c.length = P.hs.length) {k : Nat} (hk : k < P.hs.length) (hs0 : 0 ≤ P.ss.getD k 0) (hch : c.getD k 0 ≤ P.hs.getD k 0) :
    ∀ t : Nat, (tkN P c b t).1.getD k 0 = mn (P.hs.getD k 0) (c.getD k 0 + (t : Int) * P.ss.getD k 0)
  | 0 => by
    have e : c.getD k 0 + ((0 : Nat) : Int) * P.ss.getD k 0 = c.getD k 0 := by
      show c.getD k 0 + 0 * P.ss.getD k 0 = c.getD k 0
      rw [Int.zero_mul, Int.add_zero]
    rw [e]
    show c.getD k 0 = mn _ _
    unfold mn
    split <;> omega
  | t + 1 => by
    show (tkC P (tkN P c b t).1).getD k 0 = _
    rw [tkC_get hk]
    have ih := cups_ticks (b := b) hc hk hs0 hch t
    unfold cupT off
    rw [ih]
    have e : ((t + 1 : Nat) : Int) * P.ss.getD k 0 = (t : Int) * P.ss.getD k 0 + P.ss.getD k 0 := by
      push_cast
      rw [Int.add_mul, Int.one_mul]
    rw [e]
    generalize (t : Int) * P.ss.getD k 0 = x
    unfold mn
    split <;> split <;> split <;> omega
end L2

end
section
set_option linter.all false
namespace L2
/-! ### bounds, and a tick is monotone -/
structure PGood (P : Pl) : Prop where
  len : P.ss.length = P.hs.length
  hs0 : ∀ i, 0 ≤ P.hs.getD i 0
  ss0 : ∀ i, 0 ≤ P.ss.getD i 0
  bh0 : 0 ≤ P.bh
  bs0 : 0 ≤ P.bs
structure LvOk (P : Pl) (c : List Int) (b : Int) : Prop where
  len : c.length = P.hs.length
  lo : ∀ i, i < P.hs.length → 0 ≤ c.getD i 0
  hi : ∀ i, i < P.hs.length → c.getD i 0 ≤ P.hs.getD i 0
  b0 : 0 ≤ b
  b1 : b ≤ P.bh
theorem getD0 {l : List Int} (h : ∀ x, x ∈ l → 0 ≤ x) (i : Nat) : 0 ≤ l.getD i 0 := by
  rw [List.getD_eq_getElem?_getD]
  cases e : l[i]? with
  | none => exact Int.le_refl 0
  | some x => exact h x (List.mem_of_getElem? e)
theorem cupT_le {P : Pl} {c : List Int} {i : Nat} : cupT P c i ≤ off P c i := by unfold cupT; split <;> omega
theorem cupT_hi {P : Pl} {c : List Int} {i : Nat} : cupT P c i ≤ P.hs.getD i 0 := by unfold cupT; split <;> omega
theorem cupT_up {P : Pl} (hP : PGood P) {c : List Int} {i : Nat} (h : c.getD i 0 ≤ P.hs.getD i 0) : c.getD i 0 ≤ cupT P c i := by
  have := hP.ss0 i
  unfold cupT off
  split <;> omega
theorem over_up {P : Pl} {c : List Int} : ∀ n, 0 ≤ over P c n
  | 0 => Int.le_refl 0
  | n + 1 => by
    have := over_up (P := P) (c := c) n
    have := cupT_le (P := P) (c := c) (i := n)
    rw [over]
    omega
theorem tkB_eq {P : Pl} {c : List Int} {b : Int} : tkB P c b = mn P.bh (b + over P c P.hs.length + P.bs) := by rw [over_all]; rfl
theorem mn_le {i j : Int} : mn i j ≤ i := by unfold mn; split <;> omega
theorem mn_le2 {i j : Int} : mn i j ≤ j := by unfold mn; split <;> omega
theorem mn_ge {i j k : Int} (h : k ≤ i) (h' : k ≤ j) : k ≤ mn i j := by unfold mn; split <;> assumption
theorem tkB_up {P : Pl} (hP : PGood P) {c : List Int} {b : Int} (h : b ≤ P.bh) : b ≤ tkB P c b := by
  rw [tkB_eq]
  have := over_up (P := P) (c := c) P.hs.length
  have := hP.bs0
  exact mn_ge h (by omega)
theorem LvOk.tick {P : Pl} (hP : PGood P) {c : List Int} {b : Int} (h : LvOk P c b) : LvOk P (tkC P c) (tkB P c b) :=
  ⟨tkC_len P c, fun i hi => by rw [tkC_get hi]; exact Int.le_trans (h.lo i hi) (cupT_up hP (h.hi i hi)), fun i hi => by rw [tkC_get hi]; exact cupT_hi,
   Int.le_trans h.b0 (tkB_up hP h.b1), mn_le⟩
theorem LvOk.ticks {P : Pl} (hP : PGood P) {c : List Int} {b : Int} (h : LvOk P c b) : ∀ n, LvOk P (tkN P c b n).1 (tkN P c b n).2
  | 0 => h
  | n + 1 => (LvOk.ticks hP h n).tick hP
theorem LvOk.full {P : Pl} (hP : PGood P) : LvOk P P.hs P.bh := ⟨rfl, fun i _ => hP.hs0 i, fun i _ => Int.le_refl _, hP.bh0, Int.le_refl _⟩
theorem LvOk.call {P : Pl} {c : List Int} {b : Int} (h : LvOk P c b) {w : Nat} (hw : w < P.hs.length) {cost : Int} (h0 : 0 ≤ cost) (h1 : cost ≤ c.getD w 0 + b) :
    LvOk P (c.set w (c.getD w 0 - mn (c.getD w 0) cost)) (b - (cost - mn (c.getD w 0) cost)) := by
  have l0 := h.lo w hw
  have l1 := h.hi w hw
  have lb := h.b0
  have lb1 := h.b1
  have hl := h.len
  have key : ∀ i, i < P.hs.length → (c.set w (c.getD w 0 - mn (c.getD w 0) cost)).getD i 0 = if w = i then c.getD w 0 - mn (c.getD w 0) cost else c.getD i 0 := fun i hi => by
    rw [List.getD_eq_getElem?_getD, List.getElem?_set]
    split
    · rw [if_pos (by omega)]; rfl
    · rw [← List.getD_eq_getElem?_getD]
  have m1 : mn (c.getD w 0) cost ≤ c.getD w 0 := mn_le
  have m2 : mn (c.getD w 0) cost ≤ cost := mn_le2
  have m0 : 0 ≤ mn (c.getD w 0) cost := mn_ge l0 h0
  have m3 : cost - b ≤ mn (c.getD w 0) cost := mn_ge (by omega) (by omega)
  refine ⟨by rw [List.length_set]; exact hl, fun i hi => ?_, fun i hi => ?_, by omega, by omega⟩
  · rw [key i hi]
    split
    · omega
    · exact h.lo i hi
  · rw [key i hi]
    split
    · rename_i e; subst e; omega
    · exact h.hi i hi

/-! ### many ticks at once -/
def overN (P : Pl) (c : List Int) (n : Nat) : Nat → Int
  | 0 => 0
  | k + 1 => overN P c n k + (c.getD k 0 + (n : Int) * P.ss.getD k 0 - mn (P.hs.getD k 0) (c.getD k 0 + (n : Int) * P.ss.getD k 0))
theorem mul_succ (n : Nat) (x : Int) : ((n + 1 : Nat) : Int) * x = (n : Int) * x + x := by
  push_cast
  rw [Int.add_mul, Int.one_mul]
theorem overN_zero {P : Pl} {c : List Int} {b : Int} (h : LvOk P c b) : ∀ k, k ≤ P.hs.length → overN P c 0 k = 0
  | 0, _ => rfl
  | k + 1, hk => by
    rw [overN, overN_zero h k (by omega)]
    have := h.hi k (by omega)
    have e : ((0 : Nat) : Int) * P.ss.getD k 0 = 0 := Int.zero_mul _
    rw [e]
    unfold mn
    split <;> omega
theorem overN_succ {P : Pl} (hP : PGood P) {c : List Int} {b : Int} (h : LvOk P c b) (n : Nat) : ∀ k, k ≤ P.hs.length → overN P c (n + 1) k = overN P c n k + over P (tkN P c b n).1 k
  | 0, _ => rfl
  | k + 1, hk => by
    rw [overN, overN, over, overN_succ hP h n k (by omega)]
    have e : off P (tkN P c b n).1 k = mn (P.hs.getD k 0) (c.getD k 0 + (n : Int) * P.ss.getD k 0) + P.ss.getD k 0 := by
      unfold off
      rw [cups_ticks h.len (by omega) (hP.ss0 k) (h.hi k (by omega)) n]
    have e2 : cupT P (tkN P c b n).1 k = mn (P.hs.getD k 0) (c.getD k 0 + ((n + 1 : Nat) : Int) * P.ss.getD k 0) := by
      rw [← cups_ticks (b := b) h.len (by omega) (hP.ss0 k) (h.hi k (by omega)) (n + 1)]
      exact (tkC_get (by omega)).symm
    rw [e, e2, mul_succ]
    omega
theorem bowl_ticks {P : Pl} (hP : PGood P) {c : List Int} {b : Int} (h : LvOk P c b) : ∀ n : Nat, (tkN P c b n).2 = mn P.bh (b + (n : Int) * P.bs + overN P c n P.hs.length)
  | 0 => by
    rw [overN_zero h _ (Nat.le_refl _)]
    have := h.b1
    have e : ((0 : Nat) : Int) * P.bs = 0 := Int.zero_mul _
    rw [e]
    show b = _
    unfold mn
    split <;> omega
  | n + 1 => by
    show tkB P _ _ = _
    rw [tkB_eq, bowl_ticks hP h n, overN_succ hP h n _ (Nat.le_refl _), mul_succ]
    have := over_up (P := P) (c := (tkN P c b n).1) P.hs.length
    have := hP.bs0
    generalize over P (tkN P c b n).1 P.hs.length = x at *
    generalize (n : Int) * P.bs = y at *
    unfold mn
    split <;> split <;> split <;> omega

/-! ### all drops together -/
def tot (c : List Int) (b : Int) : Int := b + c.sum
theorem tot_tick {P : Pl} (hP : PGood P) {c : List Int} {b : Int} (h : c.length = P.hs.length) : tot (tkC P c) (tkB P c b) ≤ tot c b + (P.bs + P.ss.sum) := by
  rcases tick_sum (b := b) h hP.len with e | ⟨_, e⟩ <;> unfold tot <;> omega
theorem tot_ticks {P : Pl} (hP : PGood P) {c : List Int} {b : Int} (h : c.length = P.hs.length) : ∀ n : Nat, tot (tkN P c b n).1 (tkN P c b n).2 ≤ tot c b + (P.bs + P.ss.sum) * (n : Int)
  | 0 => by show tot c b ≤ tot c b + _ * 0; omega
  | n + 1 => by
    have := tot_ticks hP (b := b) h n
    have := tot_tick hP (c := (tkN P c b n).1) (b := (tkN P c b n).2) (tkN_len P h n)
    show tot (tkC P _) (tkB P _ _) ≤ _
    push_cast
    rw [Int.mul_add, Int.mul_one]
    omega
theorem sum_set (c : List Int) (w : Nat) (x : Int) (h : w < c.length) : (c.set w x).sum = c.sum - c.getD w 0 + x := by
  induction c generalizing w with
  | nil => exact absurd h (Nat.not_lt_zero _)
  | cons a t ih =>
    cases w with
    | zero => simp only [List.set_cons_zero, List.sum_cons, List.getD_cons_zero]; omega
    | succ w =>
      have := ih w (by simpa using h)
      simp only [List.set_cons_succ, List.sum_cons, List.getD_cons_succ]
      omega
theorem tot_call {c : List Int} {b : Int} {w : Nat} (h : w < c.length) (x cost : Int) : tot (c.set w (c.getD w 0 - x)) (b - (cost - x)) = tot c b - cost := by
  unfold tot
  rw [sum_set c w _ h]
  omega
theorem sum_le : ∀ {c d : List Int}, c.length = d.length → (∀ i, i < d.length → c.getD i 0 ≤ d.getD i 0) → c.sum ≤ d.sum
  | [], [], _, _ => Int.le_refl _
  | a :: t, x :: u, hl, h => by
    have h0 := h 0 (by simp)
    have := sum_le (c := t) (d := u) (by simpa using hl) fun i hi => by simpa using h (i + 1) (by simpa using hi)
    simp only [List.getD_cons_zero] at h0
    simp only [List.sum_cons]
    omega
theorem LvOk.tot_le {P : Pl} {c : List Int} {b : Int} (h : LvOk P c b) : tot c b ≤ P.bh + P.hs.sum := by
  have := sum_le h.len h.hi
  have := h.b1
  unfold tot
  omega
theorem sum_nn : ∀ {c : List Int}, (∀ i, i < c.length → 0 ≤ c.getD i 0) → 0 ≤ c.sum
  | [], _ => Int.le_refl _
  | a :: t, h => by
    have h0 := h 0 (by simp)
    have := sum_nn (c := t) fun i hi => by simpa using h (i + 1) (by simpa using hi)
    simp only [List.getD_cons_zero] at h0
    simp only [List.sum_cons]
    omega
theorem LvOk.tot_nn {P : Pl} {c : List Int} {b : Int} (h : LvOk P c b) : 0 ≤ tot c b := by
  have := sum_nn (c := c) fun i hi => h.lo i (by rw [← h.len]; exact hi)
  have := h.b0
  unfold tot
  omega
/-! ### waiting: a tick that changes something brings drops -/
theorem sum_eq : ∀ {c d : List Int}, c.length = d.length → (∀ i, i < d.length → c.getD i 0 ≤ d.getD i 0) → c.sum = d.sum → c = d
  | [], [], _, _, _ => rfl
  | a :: t, x :: u, hl, h, e => by
    have h0 := h 0 (by simp)
    have hl' : t.length = u.length := by simpa using hl
    have hh : ∀ i, i < u.length → t.getD i 0 ≤ u.getD i 0 := fun i hi => by simpa using h (i + 1) (by simpa using hi)
    have := sum_le hl' hh
    simp only [List.getD_cons_zero] at h0
    simp only [List.sum_cons] at e
    have e2 : t.sum = u.sum := by omega
    have e3 : a = x := by omega
    rw [e3, sum_eq hl' hh e2]
theorem LvOk.grow {P : Pl} (hP : PGood P) {c : List Int} {b : Int} (h : LvOk P c b) : (tkC P c = c ∧ tkB P c b = b) ∨ tot c b < tot (tkC P c) (tkB P c b) := by
  have hb := tkB_up hP (c := c) h.b1
  have hc : ∀ i, i < (tkC P c).length → c.getD i 0 ≤ (tkC P c).getD i 0 := fun i hi => by
    rw [tkC_len] at hi
    rw [tkC_get hi]
    exact cupT_up hP (h.hi i hi)
  have hl : c.length = (tkC P c).length := by rw [tkC_len]; exact h.len
  have hs := sum_le hl hc
  by_cases e : tot c b < tot (tkC P c) (tkB P c b)
  · exact .inr e
  · unfold tot at e
    have e1 : c.sum = (tkC P c).sum := by omega
    exact .inl ⟨(sum_eq hl hc e1).symm, by omega⟩
theorem tkN_still {P : Pl} {c : List Int} {b : Int} {n : Nat} (h : tkC P (tkN P c b n).1 = (tkN P c b n).1 ∧ tkB P (tkN P c b n).1 (tkN P c b n).2 = (tkN P c b n).2) : ∀ m, tkN P c b (n + m) = tkN P c b n
  | 0 => rfl
  | m + 1 => by
    show (tkC P (tkN P c b (n + m)).1, tkB P (tkN P c b (n + m)).1 (tkN P c b (n + m)).2) = _
    rw [tkN_still h m, h.1, h.2]
theorem tkN_up {P : Pl} (hP : PGood P) {c : List Int} {b : Int} (h : LvOk P c b) {w : Nat} (hw : w < P.hs.length) (n : Nat) : (tkN P c b n).1.getD w 0 + (tkN P c b n).2 ≤ (tkN P c b (n + 1)).1.getD w 0 + (tkN P c b (n + 1)).2 := by
  have g := h.ticks hP n
  have h1 : (tkN P c b n).1.getD w 0 ≤ (tkC P (tkN P c b n).1).getD w 0 := by rw [tkC_get hw]; exact cupT_up hP (g.hi w hw)
  have h2 := tkB_up hP (c := (tkN P c b n).1) g.b1
  exact Int.add_le_add h1 h2
theorem tkN_mono {P : Pl} (hP : PGood P) {c : List Int} {b : Int} (h : LvOk P c b) {w : Nat} (hw : w < P.hs.length) (n : Nat) : ∀ m, (tkN P c b n).1.getD w 0 + (tkN P c b n).2 ≤ (tkN P c b (n + m)).1.getD w 0 + (tkN P c b (n + m)).2
  | 0 => Int.le_refl _
  | m + 1 => Int.le_trans (tkN_mono hP h hw n m) (tkN_up hP h hw (n + m))
end L2

end
section
set_option linter.all false
namespace L2
theorem getD_set_self {c : List Int} {w : Nat} {x : Int} (h : w < c.length) : (c.set w x).getD w 0 = x := by
  rw [List.getD_eq_getElem?_getD, List.getElem?_set_self h]
  rfl
inductive Dd where
  | tick (n : Nat)
  | call (who cost : Int)
abbrev LvP := List Int × Int
def inP (P : Pl) (w : Int) : Prop := 0 ≤ w ∧ w < P.hs.length
instance (P : Pl) (w : Int) : Decidable (inP P w) := by unfold inP; infer_instance
def enough (s : LvP) (w cost : Int) : Prop := cost ≤ s.1.getD w.toNat 0 + s.2
instance (s : LvP) (w cost : Int) : Decidable (enough s w cost) := by unfold enough; infer_instance
def took (s : LvP) (w : Nat) (cost : Int) : LvP := (s.1.set w (s.1.getD w 0 - mn (s.1.getD w 0) cost), s.2 - (cost - mn (s.1.getD w 0) cost))
def step (P : Pl) (s : LvP) : Dd → LvP
  | .tick n => tkN P s.1 s.2 n
  | .call w k => if inP P w then (if enough s w k then took s w.toNat k else s) else s
def ansOf (P : Pl) (s : LvP) : Dd → Option Bool
  | .tick _ => none
  | .call w k => if inP P w then some (decide (enough s w k)) else none
def DdOk : Dd → Prop
  | .tick _ => True
  | .call _ k => 0 ≤ k
/-- the levels behind the deeds, the first deed done first -/
def runs (P : Pl) (s : LvP) : List Dd → LvP
  | [] => s
  | d :: ds => runs P (step P s d) ds
theorem runs_snoc (P : Pl) (d : Dd) : ∀ (ds : List Dd) (s : LvP), runs P s (ds ++ [d]) = step P (runs P s ds) d
  | [], _ => rfl
  | _ :: ds, _ => runs_snoc P d ds _
/-- the levels before deed k -/
def stt (P : Pl) (s : LvP) (ds : List Dd) (k : Nat) : LvP := runs P s (ds.take k)
theorem stt_zero (P : Pl) (s : LvP) (ds : List Dd) : stt P s ds 0 = s := by unfold stt; rw [List.take_zero]; rfl
theorem stt_succ (P : Pl) (s : LvP) {ds : List Dd} {k : Nat} {d : Dd} (h : ds[k]? = some d) : stt P s ds (k + 1) = step P (stt P s ds k) d := by
  unfold stt
  rw [List.take_succ, h]
  exact runs_snoc P d _ s
theorem LvOk.step {P : Pl} (hP : PGood P) {s : LvP} (h : LvOk P s.1 s.2) {d : Dd} (hd : DdOk d) : LvOk P (step P s d).1 (step P s d).2 := by
  cases d with
  | tick n => exact h.ticks hP n
  | call w k =>
    show LvOk P (ite _ _ _ : LvP).1 (ite _ _ _ : LvP).2
    split
    · rename_i hw
      split
      · rename_i he
        exact h.call (by have := hw.1; have := hw.2; omega) hd he
      · exact h
    · exact h
theorem LvOk.stt {P : Pl} (hP : PGood P) {s : LvP} (h : LvOk P s.1 s.2) {ds : List Dd} (hd : ∀ d, d ∈ ds → DdOk d) : ∀ k, k ≤ ds.length → LvOk P (stt P s ds k).1 (stt P s ds k).2
  | 0, _ => by rw [stt_zero]; exact h
  | k + 1, hk => by
    have e : ds[k]? = some ds[k] := List.getElem?_eq_getElem (by omega)
    rw [stt_succ P s e]
    exact (LvOk.stt hP h hd k (by omega)).step hP (hd _ (List.getElem_mem _))
/-! ### no stretch costs too much -/
/-- what is left of the drops of a stretch, behind one more deed -/
def less (P : Pl) (s : LvP) (x : Int) : Dd → Int
  | .tick n => x + (P.bs + P.ss.sum) * (n : Int)
  | .call w k => if inP P w then (if enough s w k then x - k else x) else x
theorem less_ok {P : Pl} (hP : PGood P) {s : LvP} (h : LvOk P s.1 s.2) {d : Dd} (hd : DdOk d) {x : Int} (hx : tot s.1 s.2 ≤ x) : tot (step P s d).1 (step P s d).2 ≤ less P s x d := by
  cases d with
  | tick n =>
    have := tot_ticks hP (b := s.2) h.len n
    show tot (tkN P s.1 s.2 n).1 (tkN P s.1 s.2 n).2 ≤ x + _
    omega
  | call w k =>
    show tot (ite _ _ _ : LvP).1 (ite _ _ _ : LvP).2 ≤ ite _ _ _
    split
    · rename_i hw
      split
      · have := tot_call (c := s.1) (b := s.2) (w := w.toNat) (by rw [h.len]; have := hw.1; have := hw.2; omega) (mn (s.1.getD w.toNat 0) k) k
        show tot (s.1.set w.toNat (s.1.getD w.toNat 0 - mn (s.1.getD w.toNat 0) k)) (s.2 - (k - mn (s.1.getD w.toNat 0) k)) ≤ _
        omega
      · exact hx
    · exact hx
/-! ### who keeps to the share -/
def left1 (w : Int) (share x : Int) : Dd → Int
  | .tick n => x + share * (n : Int)
  | .call v k => if v = w then x - k else x
/-- what is left for caller w behind the deeds i to k-1 -/
def leftN (w hold share : Int) (ds : List Dd) (i : Nat) : Nat → Int
  | 0 => hold
  | m + 1 => left1 w share (leftN w hold share ds i m) (ds.getD (i + m) (.tick 0))
def Within (w hold share : Int) (ds : List Dd) : Prop := ∀ i m k, i + m < ds.length → ds[i + m]? = some (.call w k) → 0 ≤ leftN w hold share ds i m - k
theorem step_other {P : Pl} {s : LvP} {w : Nat} {v k : Int} (h : v ≠ (w : Int)) : (step P s (.call v k)).1.getD w 0 = s.1.getD w 0 := by
  show (ite _ _ _ : LvP).1.getD w 0 = _
  split
  · rename_i hv
    split
    · show (s.1.set v.toNat _).getD w 0 = _
      rw [List.getD_eq_getElem?_getD, List.getElem?_set_ne (by have := hv.1; omega), ← List.getD_eq_getElem?_getD]
    · rfl
  · rfl
theorem keeps {P : Pl} (hP : PGood P) {s : LvP} (hs : LvOk P s.1 s.2) {ds : List Dd} (hd : ∀ d, d ∈ ds → DdOk d) {w : Nat} (hw : w < P.hs.length) (hf : P.hs.getD w 0 ≤ s.1.getD w 0)
    (hin : Within w (P.hs.getD w 0) (P.ss.getD w 0) ds) : ∀ k, k ≤ ds.length → ∃ i m, i + m = k ∧ leftN w (P.hs.getD w 0) (P.ss.getD w 0) ds i m ≤ (stt P s ds k).1.getD w 0
  | 0, _ => ⟨0, 0, rfl, by rw [stt_zero]; exact hf⟩
  | k + 1, hk => by
    obtain ⟨i, m, e, hl⟩ := keeps hP hs hd hw hf hin k (by omega)
    have hg : ds[k]? = some ds[k] := List.getElem?_eq_getElem (by omega)
    have ok := LvOk.stt hP hs hd k (by omega)
    have hD : ds.getD k (.tick 0) = ds[k] := by rw [List.getD_eq_getElem?_getD, hg]; rfl
    rw [stt_succ P s hg]
    have hm := hd _ (List.getElem_mem (show k < ds.length by omega))
    generalize ds[k] = d at *
    cases d with
    | tick n =>
      have hc := cups_ticks (b := (stt P s ds k).2) ok.len hw (hP.ss0 w) (ok.hi w hw) n
      show ∃ i m, _ ∧ _ ≤ (tkN P (stt P s ds k).1 (stt P s ds k).2 n).1.getD w 0
      rw [hc]
      by_cases hh : (stt P s ds k).1.getD w 0 + (n : Int) * P.ss.getD w 0 < P.hs.getD w 0
      · refine ⟨i, m + 1, by omega, ?_⟩
        unfold mn
        rw [if_pos hh]
        show left1 _ _ _ (ds.getD (i + m) _) ≤ _
        rw [e, hD]
        show _ + P.ss.getD w 0 * (n : Int) ≤ _
        rw [Int.mul_comm]
        omega
      · refine ⟨k + 1, 0, rfl, ?_⟩
        unfold mn
        rw [if_neg hh]
        exact Int.le_refl _
    | call v c =>
      refine ⟨i, m + 1, by omega, ?_⟩
      show left1 _ _ _ (ds.getD (i + m) _) ≤ _
      rw [e, hD]
      show (if v = (w : Int) then _ - c else _) ≤ _
      split
      · rename_i hv
        subst hv
        have h0 := hin i m c (by omega) (by rw [e]; exact hg)
        have b0 := ok.b0
        show _ ≤ (ite _ _ _ : LvP).1.getD w 0
        rw [if_pos (show inP P (w : Int) from ⟨by omega, by omega⟩), if_pos (show enough (stt P s ds k) (w : Int) c by unfold enough; rw [Int.toNat_natCast]; omega)]
        show _ ≤ ((stt P s ds k).1.set ((w : Int).toNat) _).getD w 0
        rw [Int.toNat_natCast, getD_set_self (by rw [ok.len]; exact hw)]
        have := mn_le2 (i := (stt P s ds k).1.getD w 0) (j := c)
        omega
      · rename_i hv
        rw [step_other hv]
        exact hl
theorem never_refused {P : Pl} (hP : PGood P) {s : LvP} (hs : LvOk P s.1 s.2) {ds : List Dd} (hd : ∀ d, d ∈ ds → DdOk d) {w : Nat} (hw : w < P.hs.length) (hf : P.hs.getD w 0 ≤ s.1.getD w 0)
    (hin : Within w (P.hs.getD w 0) (P.ss.getD w 0) ds) {k : Nat} {c : Int} (hk : ds[k]? = some (.call w c)) : ansOf P (stt P s ds k) (.call w c) = some true := by
  have hlt : k < ds.length := by
    rcases Nat.lt_or_ge k ds.length with h | h
    · exact h
    · rw [List.getElem?_eq_none h] at hk; cases hk
  obtain ⟨i, m, e, hl⟩ := keeps hP hs hd hw hf hin k (by omega)
  have ok := LvOk.stt hP hs hd k (by omega)
  have h0 := hin i m c (by omega) (by rw [e]; exact hk)
  have b0 := ok.b0
  show (ite _ _ _) = _
  rw [if_pos (show inP P (w : Int) from ⟨by omega, by omega⟩), decide_eq_true]
  unfold enough
  rw [Int.toNat_natCast]
  omega
end L2

end
section
set_option linter.all false
namespace L2
/-! ### ticks at once, as they are written -/
def offN (P : Pl) (c : List Int) (n : Nat) (i : Nat) : Int := c.getD i 0 + (n : Int) * P.ss.getD i 0
def cupN (P : Pl) (c : List Int) (n : Nat) (i : Nat) : Int := mn (P.hs.getD i 0) (offN P c n i)
def offsN (P : Pl) (c : List Int) (n : Nat) : List Int := (List.range P.hs.length).map (offN P c n)
def cupsN (P : Pl) (c : List Int) (n : Nat) : List Int := (List.range P.hs.length).map (cupN P c n)
def bowlN (P : Pl) (c : List Int) (b : Int) (n : Nat) : Int := mn P.bh (b + ((offsN P c n).sum - (cupsN P c n).sum) + (n : Int) * P.bs)
theorem overN_sum (P : Pl) (c : List Int) (n : Nat) : ∀ k, overN P c n k = ((List.range k).map (offN P c n)).sum - ((List.range k).map (cupN P c n)).sum
  | 0 => by simp [overN]
  | k + 1 => by
    rw [overN, overN_sum P c n k, sum_range, sum_range]
    unfold cupN offN
    omega
theorem list_ext {l m : List Int} (hl : l.length = m.length) (h : ∀ i, i < m.length → l.getD i 0 = m.getD i 0) : l = m := by
  apply List.ext_getElem hl
  intro i h1 h2
  have := h i h2
  simpa [List.getD_eq_getElem?_getD, h1, h2] using this
theorem cupsN_eq {P : Pl} (hP : PGood P) {c : List Int} {b : Int} (h : LvOk P c b) (n : Nat) : cupsN P c n = (tkN P c b n).1 := by
  refine list_ext (by rw [tkN_len P h.len]; simp [cupsN]) fun i hi => ?_
  rw [tkN_len P h.len] at hi
  rw [cups_ticks h.len hi (hP.ss0 i) (h.hi i hi) n]
  exact getD_range hi
theorem bowlN_eq {P : Pl} (hP : PGood P) {c : List Int} {b : Int} (h : LvOk P c b) (n : Nat) : bowlN P c b n = (tkN P c b n).2 := by
  rw [bowl_ticks hP h n]
  have e := overN_sum P c n P.hs.length
  unfold bowlN offsN cupsN
  rw [e]
  congr 1
  omega
theorem offsN_len (P : Pl) (c : List Int) (n : Nat) : (offsN P c n).length = P.hs.length := by simp [offsN]
/-! ### when nothing changes any more -/
theorem tkN_add (P : Pl) (c : List Int) (b : Int) (m : Nat) : ∀ n, tkN P c b (m + n) = tkN P (tkN P c b m).1 (tkN P c b m).2 n
  | 0 => rfl
  | n + 1 => by
    show (tkC P (tkN P c b (m + n)).1, tkB P (tkN P c b (m + n)).1 (tkN P c b (m + n)).2) = _
    rw [tkN_add P c b m n]
    rfl
theorem cups_full {P : Pl} (hP : PGood P) {c : List Int} {b : Int} (h : LvOk P c b) {M : Nat} (hM : ∀ i, i < P.hs.length → P.hs.getD i 0 ≤ M) {n : Nat} (hn : M ≤ n) : (tkN P c b (n + 1)).1 = (tkN P c b n).1 := by
  refine list_ext (by rw [tkN_len P h.len, tkN_len P h.len]) fun i hi => ?_
  rw [tkN_len P h.len] at hi
  rw [cups_ticks h.len hi (hP.ss0 i) (h.hi i hi), cups_ticks h.len hi (hP.ss0 i) (h.hi i hi), mul_succ]
  have h0 := hP.ss0 i
  have hc := h.lo i hi
  have hm := hM i hi
  by_cases hs : P.ss.getD i 0 = 0
  · rw [hs, Int.mul_zero, Int.add_zero]
  · have h1 : (1 : Int) ≤ P.ss.getD i 0 := by omega
    have h2 : (n : Int) * 1 ≤ (n : Int) * P.ss.getD i 0 := Int.mul_le_mul_of_nonneg_left h1 (by omega)
    generalize (n : Int) * P.ss.getD i 0 = x at *
    unfold mn
    split <;> split <;> omega
theorem tkB_step {P : Pl} (hP : PGood P) {c : List Int} {b : Int} (h : LvOk P c b) : tkB P c b = b ∨ (over P c P.hs.length + P.bs ≥ 1 ∧ tkB P c b = mn P.bh (b + (over P c P.hs.length + P.bs))) := by
  rw [tkB_eq]
  have h0 := over_up (P := P) (c := c) P.hs.length
  have h1 := hP.bs0
  have h2 := h.b1
  by_cases e : over P c P.hs.length + P.bs = 0
  · left
    unfold mn
    split <;> omega
  · right
    refine ⟨by omega, ?_⟩
    congr 1
    omega
/-- the cups stand still; the bowl is full after as many ticks as it holds drops, if anything falls -/
theorem bowl_full {P : Pl} (hP : PGood P) {c : List Int} {b : Int} (h : LvOk P c b) (hc : ∀ n, (tkN P c b n).1 = c) {n : Nat} (hn : P.bh ≤ n) : tkB P (tkN P c b n).1 (tkN P c b n).2 = (tkN P c b n).2 := by
  rw [hc n]
  have g := h.ticks hP n
  rw [hc n] at g
  rcases tkB_step hP g with e | ⟨h1, e⟩
  · exact e
  · -- something falls: the bowl is full
    have key : ∀ k : Nat, (k : Int) ≤ P.bh → (k : Int) ≤ (tkN P c b k).2 := by
      intro k
      induction k with
      | zero => intro _; exact h.b0
      | succ k ih =>
        intro hk
        have ih' := ih (by omega)
        show _ ≤ tkB P (tkN P c b k).1 (tkN P c b k).2
        rw [hc k, tkB_eq]
        refine mn_ge hk ?_
        push_cast
        omega
    have full : ∀ k : Nat, P.bh ≤ k → (tkN P c b k).2 = P.bh := by
      intro k hk
      have hm := h.ticks hP k
      have := hm.b1
      have hb0 := hP.bh0
      have k1 := key P.bh.toNat (by omega)
      have up : ∀ m, (tkN P c b P.bh.toNat).2 ≤ (tkN P c b (P.bh.toNat + m)).2 := by
        intro m
        induction m with
        | zero => exact Int.le_refl _
        | succ m ih =>
          refine Int.le_trans ih ?_
          exact tkB_up hP (h.ticks hP (P.bh.toNat + m)).b1
      have := up (k - P.bh.toNat)
      rw [show P.bh.toNat + (k - P.bh.toNat) = k by omega] at this
      omega
    rw [full n hn]
    rw [full n hn] at e
    rw [e]
    unfold mn
    split <;> omega
theorem still_at {P : Pl} (hP : PGood P) {c : List Int} {b : Int} (h : LvOk P c b) {M : Nat} (hM : ∀ i, i < P.hs.length → P.hs.getD i 0 ≤ M) {n : Nat} (hn : (M : Int) + P.bh ≤ n) : tkN P c b (n + 1) = tkN P c b n := by
  have hb0 := hP.bh0
  have hcc : ∀ m, (tkN P c b (M + m)).1 = (tkN P c b M).1 := by
    intro m
    induction m with
    | zero => rfl
    | succ m ih => rw [← ih]; exact cups_full hP h hM (Nat.le_add_right M m)
  have g := h.ticks hP M
  have hc : ∀ m, (tkN P (tkN P c b M).1 (tkN P c b M).2 m).1 = (tkN P c b M).1 := fun m => by rw [← tkN_add]; exact hcc m
  have hk := bowl_full hP g hc (n := n - M) (by omega)
  have e1 : tkN P (tkN P c b M).1 (tkN P c b M).2 (n - M) = tkN P c b n := by rw [← tkN_add]; congr 1; omega
  rw [e1] at hk
  have hcu := cups_full hP h hM (n := n) (by omega)
  show ((tkN P c b (n + 1)).1, tkB P (tkN P c b n).1 (tkN P c b n).2) = _
  rw [hk, hcu]
theorem still_all {P : Pl} {c : List Int} {b : Int} {n : Nat} (h : tkN P c b (n + 1) = tkN P c b n) : ∀ m, tkN P c b (n + m) = tkN P c b n := by
  refine tkN_still ⟨?_, ?_⟩
  · exact congrArg Prod.fst h
  · exact congrArg Prod.snd h
/-! ### the wait -/
def drops (P : Pl) (c : List Int) (b : Int) (w n : Nat) : Int := (tkN P c b n).1.getD w 0 + (tkN P c b n).2
theorem drops_mono {P : Pl} (hP : PGood P) {c : List Int} {b : Int} (h : LvOk P c b) {w : Nat} (hw : w < P.hs.length) {n m : Nat} (hnm : n ≤ m) : drops P c b w n ≤ drops P c b w m := by
  have := tkN_mono hP h hw n (m - n)
  rw [show n + (m - n) = m by omega] at this
  exact this
/-- what wait answers -/
def WaitIs (P : Pl) (c : List Int) (b : Int) (w : Nat) (cost : Int) (r : Option Nat) : Prop := match r with
  | none => ∀ n, drops P c b w n < cost
  | some n => cost ≤ drops P c b w n ∧ ∀ m, m < n → drops P c b w m < cost
end L2
namespace L2
theorem drops_top {P : Pl} (hP : PGood P) {c : List Int} {b : Int} (h : LvOk P c b) {w : Nat} (hw : w < P.hs.length) {S : Nat} (hS : tkN P c b (S + 1) = tkN P c b S) (n : Nat) : drops P c b w n ≤ drops P c b w S := by
  by_cases e : n ≤ S
  · exact drops_mono hP h hw e
  · have := still_all hS (n - S)
    rw [show S + (n - S) = n by omega] at this
    unfold drops
    rw [this]
    exact Int.le_refl _
/-! ### a tick written with a list that changes in place -/
def mixC (P : Pl) (c : List Int) (i : Nat) : List Int := (List.range P.hs.length).map fun j => if j < i then cupT P c j else c.getD j 0
theorem mixC_len (P : Pl) (c : List Int) (i : Nat) : (mixC P c i).length = P.hs.length := by simp [mixC]
theorem mixC_zero {P : Pl} {c : List Int} (h : c.length = P.hs.length) : mixC P c 0 = c := by
  refine list_ext (by rw [mixC_len, h]) fun i hi => ?_
  unfold mixC
  rw [getD_range (by omega), if_neg (by omega)]
theorem mixC_all (P : Pl) (c : List Int) : mixC P c P.hs.length = tkC P c := by
  refine list_ext (by rw [mixC_len, tkC_len]) fun i hi => ?_
  rw [tkC_len] at hi
  unfold mixC
  rw [getD_range hi, if_pos hi, tkC_get hi]
theorem mixC_get {P : Pl} {c : List Int} {i : Nat} (h : i < P.hs.length) : (mixC P c i).getD i 0 = c.getD i 0 := by
  unfold mixC
  rw [getD_range h, if_neg (by omega)]
theorem mixC_set {P : Pl} {c : List Int} {i : Nat} (h : i < P.hs.length) : (mixC P c i).set i (cupT P c i) = mixC P c (i + 1) := by
  refine list_ext (by rw [List.length_set, mixC_len, mixC_len]) fun j hj => ?_
  rw [mixC_len] at hj
  have e : (mixC P c (i + 1)).getD j 0 = if j < i + 1 then cupT P c j else c.getD j 0 := getD_range hj
  rw [e, List.getD_eq_getElem?_getD, List.getElem?_set]
  by_cases ij : i = j
  · subst ij
    rw [if_pos rfl, if_pos (by rw [mixC_len]; exact hj), if_pos (by omega)]
    rfl
  · rw [if_neg ij, ← List.getD_eq_getElem?_getD]
    have e2 : (mixC P c i).getD j 0 = if j < i then cupT P c j else c.getD j 0 := getD_range hj
    rw [e2]
    by_cases hji : j < i
    · rw [if_pos hji, if_pos (by omega)]
    · rw [if_neg hji, if_neg (by omega)]
theorem tkB_alt {P : Pl} {c : List Int} {b : Int} : mn (b + P.bs + over P c P.hs.length) P.bh = tkB P c b := by
  rw [tkB_eq]
  unfold mn
  split <;> split <;> omega
end L2

end
section
set_option Elab.async false
set_option linter.all false
set_option maxRecDepth 100000
/-! ## comprehensions over the layer -/
namespace L2
open PySem PySem.Spec PyProof.Rows

/-! ### the cells that a block closes over -/
theorem clos_walk {env : Env} : ∀ (names : List (Str × NameKind)) (acc : List (Str × Addr)),
    (∀ x ∈ names, x.2 = .free → ∃ c, env.cells.lookup x.1 = some c) → (∀ x c, acc.lookup x = some c → env.cells.lookup x = some c) →
    ∃ cl : List (Str × Addr), (forIn names acc (fun (x : Str × NameKind) (cs : List (Str × Addr)) =>
        if (x.2 == NameKind.free) = true then (do let c ← cellOf env x.1; pure (ForInStep.yield ((x.1, c) :: cs))) else pure (ForInStep.yield cs)) : Sem (List (Str × Addr))) = pure cl ∧
      (∀ x c, cl.lookup x = some c → env.cells.lookup x = some c) ∧ (∀ x, ((∃ c, acc.lookup x = some c) ∨ (x, NameKind.free) ∈ names) → ∃ c, cl.lookup x = some c) := by
  intro names
  induction names with
  | nil =>
    intro acc _ h2
    exact ⟨acc, rfl, h2, fun x hx => hx.elim id fun z => nomatch z⟩
  | cons y r ih =>
    intro acc h1 h2
    obtain ⟨n, k⟩ := y
    by_cases hk : k = .free
    · subst hk
      obtain ⟨c, hc⟩ := h1 (n, .free) List.mem_cons_self rfl
      have hc' : env.cells.lookup n = some c := hc
      obtain ⟨cl, e, p1, p2⟩ := ih ((n, c) :: acc) (fun x hx => h1 x (List.mem_cons_of_mem _ hx)) (fun x d hx => by
        rw [List.lookup_cons] at hx
        cases hxn : x == n with
        | true =>
          rw [hxn] at hx
          cases hx
          have : x = n := by simpa using hxn
          rw [this]
          exact hc'
        | false =>
          rw [hxn] at hx
          exact h2 x d hx)
      refine ⟨cl, ?_, p1, fun x hx => p2 x ?_⟩
      · rw [List.forIn_cons]
        have hcell : cellOf env n = pure c := by unfold cellOf; rw [hc']
        simp only [beq_self_eq_true, if_true, hcell, pure_bind]
        exact e
      · rcases hx with ⟨d, hd⟩ | hx
        · cases hxn : x == n with
          | true => exact .inl ⟨c, by rw [List.lookup_cons, hxn]⟩
          | false => exact .inl ⟨d, by rw [List.lookup_cons, hxn]; exact hd⟩
        · rcases List.mem_cons.mp hx with e' | hx
          · cases e'
            exact .inl ⟨c, by rw [List.lookup_cons]; simp⟩
          · exact .inr hx
    · have hb : (k == NameKind.free) = false := by simpa using hk
      obtain ⟨cl, e, p1, p2⟩ := ih acc (fun x hx => h1 x (List.mem_cons_of_mem _ hx)) h2
      refine ⟨cl, ?_, p1, fun x hx => p2 x ?_⟩
      · rw [List.forIn_cons]
        simp only [hb, Bool.false_eq_true, if_false, pure_bind]
        exact e
      · rcases hx with hx | hx
        · exact .inl hx
        · rcases List.mem_cons.mp hx with e' | hx
          · cases e'
            exact absurd rfl hk
          · exact .inr hx

theorem clos_of {env : Env} {scope : Scope} (h : ∀ x ∈ scope.names, x.2 = .free → ∃ c, env.cells.lookup x.1 = some c) :
    ∃ cl : List (Str × Addr), closureFor scope env = pure cl ∧ (∀ x c, cl.lookup x = some c → env.cells.lookup x = some c) ∧ (∀ x, (x, NameKind.free) ∈ scope.names → ∃ c, cl.lookup x = some c) := by
  obtain ⟨cl, e, p1, p2⟩ := clos_walk scope.names [] h (fun x c z => by simp at z)
  refine ⟨cl, ?_, p1, fun x hx => p2 x (.inr hx)⟩
  unfold closureFor
  simp only [bind_pure]
  exact e

/-! ### the block's context -/
def compSt (fv : List Nat) (k : Nat) (σ : St) : St := fv.map (fun i => (σ[i]?).join) ++ List.replicate k none
def compN (X : Cx) (fv : List Nat) (own : List Str) : List Str := fv.map (fun i => X.N.getD i Str.empty) ++ own
/-- the block of a comprehension: the list that grows and the frame stand behind s2; the iterator's records are fp -/
def compCx (X : Cx) (scope : Scope) (fv : List Nat) (own : List Str) (cl : List (Str × Addr)) (C : Addr) (s2 : Shared) (H2 : Hp) (fp : List Addr) (pins : List (Addr × Obj)) : Cx :=
  { X with N := compN X fv own, s₀ := s2, H₀ := H2, env := compEnvC scope cl C X.env, outer := X.stack, stack := X.stack, ex := fp, fn := fun _ => false, pn := X.pn ++ pins, xe := fun _ _ => False }

/-- what the text must have for a block: its names are local to it, or cells of the def around, or names of the module -/
structure CompSc (X : Cx) (scope : Scope) (fv : List Nat) : Prop where
  kind : scope.kind = .function
  cell : (scope.names.all fun y => y.2 != .cell) = true
  loc : (scope.names.all fun y => y.2 != .local || scope.names.lookup y.1 == some .local) = true
  free : (scope.names.all fun y => y.2 != .free || X.env.kindOf y.1 == some .cell) = true
  fv : (fv.all fun i => scope.names.lookup (X.N.getD i Str.empty) == some .free) = true

/-- what a block wants of the iterator that has come: an invariant by the turn, a measure, the items so far -/
def CompW (g : TG) (te : TE) (σ0 : St) (Q : VK) (J : It) (H1 : Hp) : Prop := ∀ D, H1 D = none →
  ∃ W : Nat → Nat → List V → St → Hp → Prop, (∃ m, W 0 m [] σ0 (upd H1 D (.lst []))) ∧ ∀ i m ys σ' H', W i m ys σ' H' → H' D = some (.lst ys) ∧
    ((J.stop i H' ∧ Q (.ref D) H') ∨ (J.go i H' ∧ ys.length < sizeLine ∧ ∀ x H2, J.yld i H' x H2 → g x σ' H2 fun σ3 H3 => te σ3 H3 fun v H4 =>
      H4 D = some (.lst ys) ∧ ∃ m', m' < m ∧ W (i + 1) m' (ys ++ [v]) σ3 (upd H4 D (.lst (ys ++ [v])))))
def tComp (wi : TI) (g : TG) (te : TE) (fv : List Nat) (k : Nat) : TE := fun σ H Q => wi σ H (CompW g te (compSt fv k σ) Q)

theorem lookup_mem {α : Type} {x : Str} {k : α} : ∀ {l : List (Str × α)}, l.lookup x = some k → (x, k) ∈ l
  | [], h => by simp at h
  | (n, d) :: r, h => by
    rw [List.lookup_cons] at h
    cases hx : x == n with
    | true =>
      rw [hx] at h
      cases h
      have : x = n := by simpa using hx
      subst this
      exact List.mem_cons_self
    | false =>
      rw [hx] at h
      exact List.mem_cons_of_mem _ (lookup_mem h)

/-- a name of the block that is a cell or free there is free in the text -/
theorem relabel_free {scope : Scope} {env : Env} {x : Str} (hc : ∀ y ∈ scope.names, y.2 ≠ .cell) (h : (relabel scope env).names.lookup x = some .cell ∨ (relabel scope env).names.lookup x = some .free) : (x, NameKind.free) ∈ scope.names := by
  have key : ∀ k, (relabel scope env).names.lookup x = some k → k = .cell ∨ k = .free → (x, NameKind.free) ∈ scope.names := by
    intro k h hk
    have hm := lookup_mem h
    unfold relabel at hm
    obtain ⟨⟨n, d⟩, hy, e⟩ := List.mem_map.mp hm
    dsimp only at e
    split at e
    · rename_i hcond
      have hd : d = .free := by
        simp only [Bool.and_eq_true, beq_iff_eq] at hcond
        exact hcond.1.1
      subst hd
      have : n = x := congrArg Prod.fst e
      subst this
      exact hy
    · have e1 : n = x := congrArg Prod.fst e
      have e2 : d = k := congrArg Prod.snd e
      subst e1 e2
      rcases hk with hk | hk
      · exact absurd hk (hc _ hy)
      · subst hk
        exact hy
  rcases h with h | h
  · exact key _ h (.inl rfl)
  · exact key _ h (.inr rfl)

theorem relabel_look {env : Env} (hk : env.scope.kind = .function) : ∀ {names : List (Str × NameKind)} {x : Str}, names.lookup x = some .free → env.kindOf x = some .cell →
    (names.map fun (n, k) => if (k == NameKind.free && env.scope.kind == .function && env.kindOf n == some .cell) then (n, NameKind.cell) else (n, k)).lookup x = some .cell
  | [], _, h, _ => by simp at h
  | (n, k) :: r, x, h, hx => by
    have ih := @relabel_look env hk r x
    rw [List.lookup_cons] at h
    cases hxn : x == n with
    | true =>
      rw [hxn] at h
      cases h
      have e : x = n := by simpa using hxn
      subst e
      simp [hk, hx]
    | false =>
      rw [hxn] at h
      rw [List.map_cons]
      dsimp only
      split
      · rw [List.lookup_cons, hxn]; exact ih h hx
      · rw [List.lookup_cons, hxn]; exact ih h hx

/-- an address that stands apart from all that a context knows -/
structure Apart (X : Cx) (pins : List (Addr × Obj)) (H : Hp) (C : Addr) : Prop where
  no : H C = none
  lo : C ≠ X.env.locals
  ab : X.s₀.heap.objs.size ≤ C
  ce : ∀ x c, X.env.cells.lookup x = some c → c ≠ C
  pi : ∀ p ∈ X.pn ++ pins, p.1 ≠ C
theorem Apart.turn {X : Cx} {pins : List (Addr × Obj)} {σ : St} {H : Hp} {C : Addr} {s : Shared} {h' : Heap} (a : Apart X pins H C) (I : Inv X pins σ H s) (hs : Heap.SameBut C s.heap h') : Inv X pins σ H { s with heap := h' } :=
  I.turned (t' := s.toks) (fun b o hb e => (hs.2 b hb).trans e) a.no a.lo (.inr a.ab) a.ce a.pi
end L2

end
section
set_option Elab.async false
set_option linter.all false
set_option maxRecDepth 100000
set_option maxHeartbeats 1000000
namespace L2
open PySem PySem.Spec PyProof.Rows
theorem nA {a n c : Nat} (h : a < n) (e : c = n + 1) : a ≠ c := by omega
theorem nB {n c d : Nat} (e : c = n + 1) (f : d = n) : c ≠ d := by omega
theorem nC {a n d : Nat} (h : a < n) (e : d = n) : a ≠ d := by omega
theorem nD {n c : Nat} (e : c = n + 1) : n ≤ c := by omega
section
variable {X : Cx} {pins : List (Addr × Obj)} {σ : St} {H2 : Hp} {s2 : Shared} {tg elt iter : Expr} {scope : Scope} {fv : List Nat} {own : List Str} {cl : List (Str × Addr)} {fp : List Addr} {pos : Pos}

theorem comp_ok {C : Addr} (I2 : Inv X pins σ H2 s2) (S : CompSc X scope fv) (hC : s2.heap.objs.size ≤ C) (hlt : ∀ b ∈ fp, b < s2.heap.objs.size) (f2 : ∀ b ∈ fp, FpOk X pins H2 b)
    (hcl1 : ∀ x c, cl.lookup x = some c → X.env.cells.lookup x = some c) (hcl2 : ∀ x, (x, NameKind.free) ∈ scope.names → ∃ c, cl.lookup x = some c) :
    (compCx X scope fv own cl C s2 H2 fp pins).Ok where
  mod := I2.ok.mod
  kind := S.kind
  glob := I2.ok.glob
  blt := I2.ok.blt
  above := hC
  inj := fun x y c h1 h2 => I2.ok.inj x y c (hcl1 x c h1) (hcl1 y c h2)
  has := fun x hx => hcl2 x (relabel_free (fun y hy => by have := List.all_eq_true.mp S.cell y hy; simpa using this) hx)
  cab := fun _ _ hf _ => by cases hf
  hd := I2.ok.hd
  frames := I2.ok.frames
  stk := .inl rfl
  exf := fun b hb => ⟨Nat.ne_of_lt (Nat.lt_of_lt_of_le (hlt b hb) hC), fun x c e => (f2 b hb).2.2.2.2.1 x c (hcl1 x c e)⟩
  bs := I2.bs
  bsz := Nat.le_trans I2.ok.bsz I2.sz
  noex := fun b o e hb => by
    rcases (f2 b hb).2.2.2.1 with z | z
    · exact I2.ok.noex b o e z
    · exact absurd (Nat.lt_of_lt_of_le (Heap.lt_size e) (Nat.le_trans I2.ok.bsz z)) (Nat.lt_irrefl _)
  exfs := fun b hb z => by
    rcases List.mem_cons.mp (I2.stkSub b z) with e | e
    · exact (f2 b hb).2.1 e
    · exact (f2 b hb).2.2.1 e
  funs := I2.stack
  frf := I2.stkFree

theorem comp_inv {C D : Addr} {h1 : Heap} {m1 : Str → Option Value} {tk : Nat} (I2 : Inv X pins σ H2 s2) (S : CompSc X scope fv) (hD : D = s2.heap.objs.size) (hC : C = s2.heap.objs.size + 1) (hlt : ∀ b ∈ fp, b < s2.heap.objs.size)
    (f2 : ∀ b ∈ fp, FpOk X pins H2 b) (hcl1 : ∀ x c, cl.lookup x = some c → X.env.cells.lookup x = some c) (hcl2 : ∀ x, (x, NameKind.free) ∈ scope.names → ∃ c, cl.lookup x = some c)
    (old : ∀ b o, s2.heap.get? b = some o → h1.get? b = some o) (hDo : h1.get? D = some { cls := .type "list", data := .seq #[] 0 }) (ns : h1.Ns C m1) :
    Inv (compCx X scope fv own cl C s2 H2 fp pins) [] (compSt fv own.length σ) (upd H2 D (.lst [])) { s2 with heap := h1, toks := tk } := by
  have hDn : H2 D = none := I2.hok.fresh (Nat.le_of_eq hD.symm)
  have hCn : H2 C = none := I2.hok.fresh (nD hC)
  have cellKeep : ∀ x c, cl.lookup x = some c → ∀ v, s2.heap.IsCell c v → h1.IsCell c v := fun x c e v ⟨o, ho, hd⟩ => ⟨o, old c o ho, hd⟩
  refine ⟨comp_ok I2 S (nD hC) hlt f2 hcl1 hcl2, rfl, I2.bare, Un.laid old (Nat.le_of_eq hD.symm) hDn, ?_, fun x c e => ?_, ?_, fun x c e => ?_, fun p hp => ?_, ?_, ?_⟩
  · refine ⟨m1, ns, fun i x v e1 e2 e3 => ?_⟩
    have e2' : (fv.map (fun i => (σ[i]?).join) ++ List.replicate own.length (none : Option V))[i]? = some (some v) := e2
    have hi : i < fv.length := by
      by_cases hi : i < fv.length
      · exact hi
      · rw [List.getElem?_append_right (by simpa using hi), List.getElem?_replicate] at e2'
        split at e2' <;> cases e2'
    have e1' : (fv.map (fun i => X.N.getD i Str.empty) ++ own)[i]? = some x := e1
    rw [List.getElem?_append_left (by simpa using hi), List.getElem?_map] at e1' e2'
    obtain ⟨j, hj⟩ : ∃ j, fv[i]? = some j := ⟨fv[i], List.getElem?_eq_getElem hi⟩
    rw [hj] at e1' e2'
    simp only [Option.map_some, Option.some.injEq] at e1' e2'
    have hjm : j ∈ fv := List.mem_of_getElem? hj
    have hσ : σ[j]? = some (some v) := by
      cases q : σ[j]? with
      | none => rw [q] at e2'; cases e2'
      | some z => rw [q] at e2'; simp only [Option.join_some] at e2'; rw [e2']
    have hjl : j < X.N.length := by
      rw [← I2.len]
      exact (List.getElem?_eq_some_iff.mp hσ).1
    have hNj : X.N[j]? = some x := by
      rw [List.getElem?_eq_getElem hjl]
      rw [List.getD_eq_getElem?_getD, List.getElem?_eq_getElem hjl] at e1'
      exact congrArg some e1'
    have hfree : scope.names.lookup x = some .free := by
      have := List.all_eq_true.mp S.fv j hjm
      rw [e1'] at this
      simpa using this
    have hcellX : X.env.kindOf x = some .cell := by
      have := List.all_eq_true.mp S.free (x, .free) (lookup_mem hfree)
      simpa using this
    obtain ⟨m0, hn0, hl0⟩ := I2.loc
    obtain ⟨u, ru, lk⟩ := hl0 j x v hNj hσ (.inr (.inl hcellX))
    refine ⟨u, ru, .inr ⟨.inl ?_, ?_⟩⟩
    · exact relabel_look I2.ok.kind hfree hcellX
    · rcases lk with ⟨k, _⟩ | ⟨_, c, ec, z⟩
      · rw [hcellX] at k; cases k
      · obtain ⟨c', ec'⟩ := hcl2 x (lookup_mem hfree)
        have := hcl1 x c' ec'
        rw [ec] at this
        cases this
        exact ⟨c, ec', cellKeep x c ec' _ z⟩
  · obtain ⟨v, z⟩ := I2.cell x c (hcl1 x c e)
    exact ⟨v, cellKeep x c e v z⟩
  · show upd H2 D (.lst []) C = none
    rw [upd_ne (nB hC hD)]
    exact hCn
  · have e' := hcl1 x c e
    obtain ⟨v, o, ho, _⟩ := I2.cell x c e'
    rw [upd_ne (nC (Heap.lt_size ho) hD)]
    exact I2.freeC x c e'
  · have hp' : p ∈ X.pn ++ pins := by simpa [compCx] using hp
    obtain ⟨e, n, ne, nf, d⟩ := I2.pin p hp'
    have hpl := Heap.lt_size e
    refine ⟨old _ _ e, ?_, ?_, ?_, d⟩
    · rw [upd_ne (nC hpl hD)]; exact n
    · exact nA hpl hC
    · intro z
      rcases List.mem_cons.mp (I2.stkSub p.1 z) with q | q
      · exact ne q
      · exact nf q
  · refine I2.hok.laid old (Nat.le_of_eq hD.symm) ⟨by simp, [], 0, .nil, hDo⟩
  · show (compSt fv own.length σ).length = (compN X fv own).length
    unfold compSt compN
    rw [List.length_append, List.length_append, List.length_map, List.length_map, List.length_replicate]

theorem comp_block {J : It} {it : Addr} {tn : Nat → Heap → Prop} {g : TG} {te : TE} {Q : VK} {E : Value → Shared → Prop} {RR : Value → Addr → Result → Shared → Prop} (hc : X.calm = true) (S : CompSc X scope fv)
    (I2 : Inv X pins σ H2 s2) (T : Turn X.prog X.w X.K tg J fp it tn) (st2 : tn 0 s2.heap) (f2 : ∀ b ∈ fp, FpOk X pins H2 b)
    (hcl1 : ∀ x c, cl.lookup x = some c → X.env.cells.lookup x = some c) (hcl2 : ∀ x, (x, NameKind.free) ∈ scope.names → ∃ c, cl.lookup x = some c)
    (hg : ∀ C s H fp pins, PG (compCx X scope fv own cl C s H fp pins) tg g) (he : ∀ C s H fp pins, PE (compCx X scope fv own cl C s H fp pins) elt te)
    (h : CompW g te (compSt fv own.length σ) Q J H2)
    (hRR : ∀ D C s' H' m, Inv X pins σ H' s' → s'.heap.Ns C m → Apart X pins H' C → Q (.ref D) H' → RR (.ref D) C (.ok .next) s') :
    wpAny (model X.prog X.w) X.A (newList []) (fun acc s₃ => wpAny (model X.prog X.w) X.A (newFunctionEnv scope X.env.globals cl [] X.env.qual none .none (some X.env)) (fun cenv s₄ =>
      codeAny (model X.prog X.w) X.A (.compStart (.ListComp elt [⟨tg, iter, [], 0⟩] scope pos) 0 (.ref it) acc { cenv with scope := relabel scope X.env }) (RR acc cenv.locals) s₄) E s₃) E s2 := by
  have hcell : ∀ y ∈ scope.names, y.2 ≠ .cell := fun y hy => by have := List.all_eq_true.mp S.cell y hy; simpa using this
  have hlt : ∀ b ∈ fp, b < s2.heap.objs.size := fun b hb => by obtain ⟨o, e, _⟩ := T.obj _ _ st2 b hb; exact Heap.lt_size e
  refine wpAny_newObj_type (wpAny_newFunctionEnv hcell (by intro y hy; simp at hy) (fun h₁ ns₁ sb₁ => ?_) S.kind)
  dsimp only at ns₁ sb₁ ⊢
  generalize hG : s2.heap.push { cls := .type "list", dict := none, data := .seq ([] : List Value).toArray } = G at ns₁ sb₁ ⊢
  have hC : G.objs.size = s2.heap.objs.size + 1 := by rw [← hG, Heap.size_push]
  have old : ∀ b o, s2.heap.get? b = some o → h₁.get? b = some o := fun b o e =>
    sb₁.extBut b o (nA (Heap.lt_size e) hC) (Heap.get?_push_of_some _ (hG ▸ Heap.get?_push_of_some _ e))
  have hDo : h₁.get? s2.heap.objs.size = some { cls := .type "list", data := .seq #[] 0 } := sb₁.extBut _ _ (nB hC rfl).symm (Heap.get?_push_of_some _ (hG ▸ Heap.get?_push_size _ rfl))
  obtain ⟨W, ⟨m0, w0⟩, turn⟩ := h s2.heap.objs.size (I2.hok.fresh (Nat.le_refl _))
  have I4 : Inv (compCx X scope fv own cl G.objs.size s2 H2 fp pins) [] (compSt fv own.length σ) (upd H2 s2.heap.objs.size (.lst [])) { s2 with heap := h₁, toks := s2.toks + ([] : List (Str × Value)).length } :=
    comp_inv I2 S rfl hC hlt f2 hcl1 hcl2 old hDo ns₁
  have st4 : tn 0 h₁ := T.keep _ _ _ st2 fun b _ o e => old b o e
  have stat : ∀ {H' : Hp}, (∀ b ∈ fp, H' b = none) → ∀ b ∈ fp, FpOk (compCx X scope fv own cl G.objs.size s2 H2 fp pins) [] H' b := fun hn b hb => by
    refine ⟨hn b hb, ?_, ?_, .inl hb, fun x c e => (f2 b hb).2.2.2.2.1 x c (hcl1 x c e), fun p hp => ?_⟩
    · exact nA (hlt b hb) hC
    · exact I4.ok.exfs b hb
    · have hp' : p ∈ X.pn ++ pins := by simpa [compCx] using hp
      exact (f2 b hb).2.2.2.2.2 p hp'
  have loop : ∀ s₃ : Shared, s₃ = { s2 with heap := h₁, toks := s2.toks + ([] : List (Str × Value)).length } →
      codeAny (model X.prog X.w) X.A (.compLoop (.ListComp elt [⟨tg, iter, [], 0⟩] scope pos) 0 (.ref it) (.ref s2.heap.objs.size) (compEnvC scope cl G.objs.size X.env)) (RR (.ref s2.heap.objs.size) G.objs.size) s₃ := by
    rintro s₃ rfl
    refine codeAny_loop rfl (fun n s' => ∃ i ys σ' H', Inv (compCx X scope fv own cl G.objs.size s2 H2 fp pins) [] σ' H' s' ∧ tn i s'.heap ∧ (∀ b ∈ fp, H' b = none) ∧ W i n ys σ' H') (fun n s3 hI => ?_) m0
      ⟨0, [], _, _, I4, st4, fun b hb => by rw [upd_ne (Nat.ne_of_lt (hlt b hb))]; exact (f2 b hb).1, w0⟩
    obtain ⟨i, ys, σ3, H3, I3, st3, fr3, w3⟩ := hI
    show wpAny _ _ ((compTurn (.ListComp elt [⟨tg, iter, [], 0⟩] scope pos) 0 (.ref it) (.ref s2.heap.objs.size) (compEnvC scope cl G.objs.size X.env)).onRaise (fun x => do noteFrame x _; theTreesLotGoes x)) _ _ s3
    refine wpAny_noted ?_
    rw [compTurn_list1]
    refine wpAny_bind (wpAny_standAt ?_)
    obtain ⟨hD, alt⟩ := turn i n ys σ3 H3 w3
    rcases alt with ⟨stop, q⟩ | ⟨go, hlen, step⟩
    · refine wpAny_bind (thn (T.done (compCx X scope fv own cl G.objs.size s2 H2 fp pins) rfl rfl rfl hc i [] s3 σ3 H3 _ I3 (stat fr3) st3 stop) fun r s4 ⟨hr, I5⟩ => ?_)
      subst hr
      have IX : Inv X pins σ H3 s4 := I2.call' (ch := fp) I5.os I5.base I5.hok I5.bare fun b hb => ⟨(f2 b hb).2.2.2.1, (f2 b hb).2.1, (f2 b hb).2.2.2.2⟩
      obtain ⟨m5, ns5, _⟩ := I5.loc
      refine wpAny_pure (hRR _ _ s4 H3 m5 IX ns5 ⟨I5.free, ?_, ?_, ?_, ?_⟩ q)
      · exact (nA I2.lt hC).symm
      · exact Nat.le_trans I2.sz (nD hC)
      · intro x c e
        obtain ⟨v, o, ho, _⟩ := I2.cell x c e
        exact nA (Heap.lt_size ho) hC
      · intro p hp
        obtain ⟨e, _⟩ := I2.pin p hp
        exact nA (Heap.lt_size e) hC
    · refine wpAny_bind (thn (T.item (compCx X scope fv own cl G.objs.size s2 H2 fp pins) rfl rfl rfl hc i [] s3 σ3 H3 _ I3 (stat fr3) st3 go) fun r s4 ⟨u, hr, h4⟩ => ?_)
      subst hr
      refine wpAny_bind (thn h4 fun _ s5 ⟨x, H5, I5, r5, y5, st5, fr5⟩ => ?_)
      have I5' := I5.pinned (stat fr5) (T.obj _ _ st5)
      refine wpAny_bind (wpAny_mono (hg G.objs.size s2 H2 fp pins _ s5 σ3 H5 x u _ I5' r5 (step x H5 y5)) (fun _ s6 h6 => ?_) fun _ _ f => f.elim)
      obtain ⟨σ6, H6, I6, q6⟩ := h6
      refine wpAny_bind (wpAny_bind (wpAny_mono (he G.objs.size s2 H2 fp pins _ s6 σ6 H6 _ I6 q6) (fun y s7 h7 => ?_) fun _ _ f => f.elim))
      obtain ⟨v, H7, I7, rv, hD7, m', hm, w7⟩ := h7
      refine wpAny_bind (wpAny_mono (mt_append (X := compCx X scope fv own cl G.objs.size s2 H2 fp pins) _ s7 σ6 H7 (.ref s2.heap.objs.size) [v] (.ref s2.heap.objs.size) [y] (fun _ H8 => H8 = upd H7 s2.heap.objs.size (.lst (ys ++ [v]))) I7 rfl (.cons rv .nil)
        ⟨_, ys, v, rfl, rfl, hD7, hlen, rfl⟩) (fun _ s8 h8 => ?_) fun _ _ f => f.elim)
      obtain ⟨_, H8, I8, _, e8⟩ := h8
      subst e8
      refine wpAny_pure (wpAny_pure ⟨rfl, m', hm, i + 1, ys ++ [v], σ6, _, I8.unpinned (pins := []), T.keep _ _ _ st5 fun b hb o e => (I8.pin (b, o) (List.mem_append_right _ (List.mem_append_right _ (mem_pinsAt hb e)))).1, fun b hb => ?_, w7⟩)
      obtain ⟨o, e, d⟩ := T.obj _ _ st5 b hb
      exact (I8.pin (b, o) (List.mem_append_right _ (List.mem_append_right _ (mem_pinsAt hb e)))).2.1
  exact codeAny_compStart_list (loop _ rfl) (T.self _ 0 _ _ _ st4 (loop _ rfl))

variable {wi : TI} {g : TG} {te : TE}
theorem CompSc.closes (S : CompSc X scope fv) (ok : X.Ok) : ∃ cl : List (Str × Addr), closureFor scope X.env = pure cl ∧ (∀ x c, cl.lookup x = some c → X.env.cells.lookup x = some c) ∧ (∀ x, (x, NameKind.free) ∈ scope.names → ∃ c, cl.lookup x = some c) :=
  clos_of fun x hx hf => ok.has x.1 (.inl (by have := List.all_eq_true.mp S.free x hx; simpa [hf] using this))
theorem CompSc.locs (S : CompSc X scope fv) : ∀ x ∈ scope.names, x.2 = .local → scope.names.lookup x.1 = some .local := fun x hx hl => by
  have := List.all_eq_true.mp S.loc x hx
  simpa [hl] using this

/-- [elt for tg in iter], a value -/
theorem pe_comp (hc : X.calm = true) (S : CompSc X scope fv) (hi : PI X tg iter wi) (hg : ∀ cl C s H fp pins, PG (compCx X scope fv own cl C s H fp pins) tg g) (he : ∀ cl C s H fp pins, PE (compCx X scope fv own cl C s H fp pins) elt te)
    (hs : ∀ x, foldedSetIterable iter X.env x = pure x := by intro _; rfl) : PE X (.ListComp elt [⟨tg, iter, [], 0⟩] scope pos) (tComp wi g te fv own.length) := by
  intro pins s σ H Q I h
  obtain ⟨cl, hclos, hcl1, hcl2⟩ := S.closes I.ok
  rw [eval_ListComp]
  refine wpAny_comprehension_free (use := none) rfl hs hclos S.kind S.locs (thn (hi pins s σ H _ I h) fun v s1 h1 => thn h1 fun itv s2 h2 => ?_)
  obtain ⟨it, fp, tn, J, H2, e, I2, T, st2, f2, R2⟩ := h2
  subst e
  refine comp_block (RR := fun acc C => compPost (model X.prog X.w) X.A X.xe none (EP X pins σ Q) acc C) hc S I2 T st2 f2 hcl1 hcl2 (hg cl) (he cl) R2 ?_
  intro D C s' H' m I' ns ap q
  exact ⟨m, ns, fun h' sb => ⟨.ref D, H', ap.turn I' sb, rfl, q⟩⟩

/-- name = [elt for tg in iter] -/
theorem ps_setComp {i : Nat} {x : Str} {px spos : Pos} (hN : X.N.Nodup) (hi' : X.N[i]? = some x) (hx : Loc X.env.scope x) (hc : X.calm = true) (S : CompSc X scope fv) (hi : PI X tg iter wi)
    (hg : ∀ cl C s H fp pins, PG (compCx X scope fv own cl C s H fp pins) tg g) (he : ∀ cl C s H fp pins, PE (compCx X scope fv own cl C s H fp pins) elt te)
    (hsw : swapsWith (.ListComp elt [⟨tg, iter, [], 0⟩] scope pos) (some (.Name x px)) spos.line X.env = pure true := by rfl)
    (hf : X.fn x = true ∨ X.env.scope.names.lookup x = some .local := by first | exact .inl rfl | exact .inr rfl | assumption)
    (hs : ∀ x, foldedSetIterable iter X.env x = pure x := by intro _; rfl) : PS X (.Assign [.Name x px] (.ListComp elt [⟨tg, iter, [], 0⟩] scope pos) spos) (tAsg (tComp wi g te fv own.length) (gName i)) := by
  intro pins s σ H D I h
  obtain ⟨cl, hclos, hcl1, hcl2⟩ := S.closes I.ok
  rw [exec_Assign_Name_used _ _ _ _ hsw]
  refine wpAny_bind (wpAny_standAt (wpAny_bind ?_))
  show wpAny _ X.A (do let _ ← comprehension (.ListComp elt [⟨tg, iter, [], 0⟩] scope pos) scope X.env _ (newList []) false (eval iter X.env) (some (assign (.Name x px) X.env))) _ _ s
  refine wpAny_bind (wpAny_mono (wpAny_comprehension_free (use := some (assign (.Name x px) X.env)) (Q := fun _ s' => SP X pins D .next s') rfl hs hclos S.kind S.locs
    (thn (hi pins s σ H _ I h) fun v s1 h1 => thn h1 fun itv s2 h2 => ?_)) (fun _ s' hq => wpAny_pure (wpAny_pure hq)) fun _ _ e => e)
  obtain ⟨it, fp, tn, J, H2, e, I2, T, st2, f2, R2⟩ := h2
  subst e
  refine comp_block (Q := fun x H1 => gName i x σ H1 D.nx) (RR := fun acc C => compPost (model X.prog X.w) X.A X.xe (some (assign (.Name x px) X.env)) (fun _ s' => SP X pins D .next s') acc C) hc S I2 T st2 f2 hcl1 hcl2 (hg cl) (he cl) R2 ?_
  intro l C s' H' m I' ns ap q
  show wpAny _ X.A (assign (.Name x px) X.env (.ref l)) _ _ _
  refine wpAny_assign_Name (store_ok2 (v := .ref l) I' hN hi' hx rfl (fun s'' I'' hs'' => ?_) hf)
  obtain ⟨a, sb, ha⟩ := hs''
  have hCa : C ≠ a := by
    rcases ha with ha | ha
    · rw [ha]; exact ap.lo
    · exact Ne.symm (ap.ce x a ha)
  exact ⟨m, ns.sameBut sb hCa, fun h3 sb3 => ⟨_, H', ap.turn I'' sb3, q⟩⟩
end
end L2

end
section
set_option Elab.async false
set_option linter.all false
set_option maxRecDepth 100000
set_option maxHeartbeats 1000000
namespace L2
open PySem PySem.Spec PyProof.Rows
section
variable {X : Cx} {pins : List (Addr × Obj)} {σ : St} {H : Hp} {s : Shared}

theorem push_back {h : Heap} {o o' : Obj} {b : Addr} (hb : b ≠ h.objs.size) (e : (h.push o).get? b = some o') : h.get? b = some o' := by
  obtain ⟨e1, e2⟩ := Heap.get?_some_iff.mp e
  refine Heap.get?_some_iff.mpr ⟨?_, e2⟩
  cases h
  simpa [Heap.push, Array.getElem?_push, hb] using e1
theorem two_line : 2 ≤ sizeLine := by decide
theorem five_new {n a1 a2 : Nat} (h1 : a1 < n) (h2 : a2 < n) : ZS.Five (n + 4) (n + 2) (n + 3) n (n + 1) a1 a2 := by
  refine ⟨⟨?_, ?_, ?_, ?_, ?_, ?_, ?_, ?_, ?_, ?_⟩, ?_, ?_, ?_, ?_, ?_, ?_, ?_, ?_⟩ <;> (show (_ : Nat) ≠ _; omega)
/-- several untracked records of ours have turned -/
theorem Inv.turnedL {t' : Nat} {h' : Heap} {ch : List Addr} (I : Inv X pins σ H s) (k : ∀ b o, b ∉ ch → s.heap.get? b = some o → h'.get? b = some o) (hf : ∀ b ∈ ch, FpOk X pins H b) : Inv X pins σ H { s with heap := h', toks := t' } := by
  have nit : ∀ b u, H b = some u → b ∉ ch := fun b u e z => by
    have := (hf b z).1
    rw [e] at this
    cases this
  refine I.step (g' := s.gens) (d' := s.drawn) (ch := ch) (fun b hb => ⟨(hf b hb).2.2.2.1, (hf b hb).2.1, (hf b hb).2.2.2.2.1, (hf b hb).2.2.2.2.2⟩) (fun b o _ _ hc e _ => k b o hc e) (fun b o _ _ hc e _ => ⟨o.slots, k b o hc e⟩) (fun _ _ _ _ n => n)
    (fun b o hc e => ⟨o, k b o hc e⟩) (fun _ _ e => e) (fun _ _ _ e => e) (fun b ps e => ⟨#[], by rw [e]; simp⟩) (fun m hm => ?_) (fun b u e => ?_) I.bare
  · obtain ⟨o, es, ep, ho, r⟩ := hm
    exact ⟨o, es, ep, k _ o (fun z => (hf _ z).2.1 rfl) ho, r⟩
  · refine (I.hok b u e).stay (fun c v hc q => k c v ?_ q) (fun _ q => q) fun _ _ q => q
    rcases hc with z | z
    · rw [z]; exact nit b u e
    · exact nit c _ z

/-! ### zip -/
def Sq (k : ZS.SK) (K : PySem.W.Frag) (H : Hp) (a : Addr) (xs : List V) : Prop := match k with
  | .l => SqL K H a xs
  | .t => SqT K H a xs
theorem Inv.sq {k : ZS.SK} {a : Addr} {xs : List V} (I : Inv X pins σ H s) (h : Sq k X.K H a xs) : ∃ its : List Value, Vals xs its ∧ ZS.SeqOf k s.heap a its.toArray ∧ xs.length ≤ sizeLine := by
  cases k with
  | l => obtain ⟨its, r, p, z⟩ := I.list h; exact ⟨its, r, p.isList, z⟩
  | t => obtain ⟨its, r, p, z⟩ := I.tuple h; exact ⟨its, r, p, z⟩
theorem Inv.sq_inj {k : ZS.SK} {a : Addr} {xs ys : List V} (I : Inv X pins σ H s) (h : Sq k X.K H a xs) (h' : Sq k X.K H a ys) : xs = ys := by
  cases k with
  | l => exact I.list_inj h h'
  | t => exact I.tuple_inj h h'
/-- two sequences side by side: each turn a new pair -/
def Itz (K : PySem.W.Frag) (k1 k2 : ZS.SK) (a1 a2 : Addr) : It :=
  ⟨fun i H => ∃ xs ys x y, Sq k1 K H a1 xs ∧ Sq k2 K H a2 ys ∧ xs[i]? = some x ∧ ys[i]? = some y,
   fun i H v H' => ∃ p x y, (∀ xs, Sq k1 K H a1 xs → xs[i]? = some x) ∧ (∀ ys, Sq k2 K H a2 ys → ys[i]? = some y) ∧ v = .ref p ∧ H p = none ∧ H' = upd H p (.tup [x, y]),
   fun i H => ∃ xs ys, Sq k1 K H a1 xs ∧ Sq k2 K H a2 ys ∧ (xs.length ≤ i ∨ ys.length ≤ i)⟩

theorem turn_zip {P : Program} {w : World} {K : PySem.W.Frag} {es : List Expr} {kk : Nat} {tpos : Pos} (k1 k2 : ZS.SK) (a1 a2 z ti to i1 i2 : Addr) (D : ZS.Five z ti to i1 i2 a1 a2) :
    Turn P w K (.Tuple es kk tpos) (Itz K k1 k2 a1 a2) [z, ti, to, i1, i2] z (fun i h => IsZip h z ti to .none ∧ IsPair h ti (.ref i1) (.ref i2) ∧ (∃ a b, IsPair h to a b) ∧ ZS.ItOf k1 h i1 a1 i ∧ ZS.ItOf k2 h i2 a2 i) where
  mem := by simp
  obj := fun i h st b hb => by
    obtain ⟨hz, hti, ⟨a, c, hto⟩, j1, j2⟩ := st
    have nz : ∀ (vs : Array Value) v, (Data.fields vs) ≠ Data.cell v := fun _ _ q => by cases q
    have ns : ∀ (vs : Array Value) n v, (Data.seq vs n) ≠ Data.cell v := fun _ _ _ q => by cases q
    simp only [List.mem_cons, List.not_mem_nil, or_false] at hb
    rcases hb with rfl | rfl | rfl | rfl | rfl
    · exact ⟨_, hz, fun v => nz _ v⟩
    · exact ⟨_, hti, fun v => ns _ _ v⟩
    · exact ⟨_, hto, fun v => ns _ _ v⟩
    · exact j1.obj
    · exact j2.obj
  keep := fun i h h' st k => by
    obtain ⟨hz, hti, ⟨a, c, hto⟩, j1, j2⟩ := st
    exact ⟨k z (by simp) _ hz, k ti (by simp) _ hti, ⟨a, c, k to (by simp) _ hto⟩, j1.on fun o e => k i1 (by simp) o e, j2.on fun o e => k i2 (by simp) o e⟩
  item := by
    intro X hP hw hK hc i pins s σ H E I hf st hg
    subst hP hw hK
    obtain ⟨xs, ys, x, y, q1, q2, hx, hy⟩ := hg
    obtain ⟨us, r1, s1, l1⟩ := I.sq q1
    obtain ⟨vs, r2, s2, l2⟩ := I.sq q2
    obtain ⟨u, hu, ru⟩ := r1.get hx
    obtain ⟨v, hv, rv⟩ := r2.get hy
    obtain ⟨hz, hti, ⟨a, c, hto⟩, j1, j2⟩ := st
    refine ZS.zip_next D hz hti hto j1 j2 s1 s2 (x := u) (y := v) (by simpa using hu) (by simpa using hv) fun h' z' to' j1' j2' t' sz up => ?_
    refine ⟨_, rfl, wpAny_letOwnedTupleGo_zip (s := { s with heap := h' }) z' fun h'' z'' sb => ?_⟩
    obtain ⟨⟨zti, zto, zi1, zi2, tito, tii1, tii2, toi1, toi2, i12⟩, _⟩ := D
    have up2 : ∀ b o, b ≠ z → h'.get? b = some o → h''.get? b = some o := fun b o hb e => (sb.2 b hb).trans e
    have hTn : H s.heap.objs.size = none := I.hok.fresh (Nat.le_refl _)
    have I1 : Inv X pins σ (upd H s.heap.objs.size (.tup [x, y])) { s with heap := s.heap.push { cls := .type "tuple", data := .seq #[u, v] } } :=
      I.laid (t' := s.toks) (fun b o e => Heap.get?_push_of_some _ e) (Nat.le_refl _) ⟨two_line, [u, v], .cons ru (.cons rv .nil), ⟨_, Heap.get?_push_size _ rfl, rfl, 0, rfl⟩⟩
    have fpne : ∀ b ∈ [z, ti, to, i1, i2], b ≠ s.heap.objs.size := fun b hb => by
      have : ∃ o, s.heap.get? b = some o := by
        simp only [List.mem_cons, List.not_mem_nil, or_false] at hb
        rcases hb with rfl | rfl | rfl | rfl | rfl
        · exact ⟨_, hz⟩
        · exact ⟨_, hti⟩
        · exact ⟨_, hto⟩
        · exact let ⟨o, e, _⟩ := j1.obj; ⟨o, e⟩
        · exact let ⟨o, e, _⟩ := j2.obj; ⟨o, e⟩
      obtain ⟨o, e⟩ := this
      exact Nat.ne_of_lt (Heap.lt_size e)
    have hf1 : ∀ b ∈ [z, ti, to, i1, i2], FpOk X pins (upd H s.heap.objs.size (.tup [x, y])) b := fun b hb => ⟨by rw [upd_ne (fpne b hb)]; exact (hf b hb).1, (hf b hb).2⟩
    have I2 : Inv X pins σ (upd H s.heap.objs.size (.tup [x, y])) { s with heap := h'' } := by
      refine Inv.turnedL (s := { s with heap := s.heap.push { cls := .type "tuple", data := .seq #[u, v] } }) (t' := s.toks) (h' := h'') (ch := [z, ti, to, i1, i2]) I1 (fun b o hb e => ?_) hf1
      simp only [List.mem_cons, List.not_mem_nil, or_false, not_or] at hb
      by_cases hbt : b = s.heap.objs.size
      · subst hbt
        rw [Heap.get?_push_size _ rfl] at e
        cases e
        exact up2 _ _ hb.1 t'
      · have e0 : s.heap.get? b = some o := push_back hbt e
        exact up2 b o hb.1 (up b o hb.1 hb.2.2.1 hb.2.2.2.1 hb.2.2.2.2 e0)
    refine ⟨.ref s.heap.objs.size, _, I2, rfl, ⟨_, x, y, fun xs' h => by rw [I.sq_inj h q1]; exact hx, fun ys' h => by rw [I.sq_inj h q2]; exact hy, rfl, hTn, rfl⟩, ⟨z'', up2 _ _ zti.symm (up _ _ zti.symm tito tii1 tii2 hti), ⟨_, _, up2 _ _ zto.symm to'⟩, j1'.on fun o e => up2 _ o zi1.symm e, j2'.on fun o e => up2 _ o zi2.symm e⟩, fun b hb => (hf1 b hb).1⟩
  done := by
    intro X hP hw hK hc i pins s σ H E I hf st hg
    subst hP hw hK
    obtain ⟨xs, ys, q1, q2, hend⟩ := hg
    obtain ⟨us, r1, s1, l1⟩ := I.sq q1
    obtain ⟨vs, r2, s2, l2⟩ := I.sq q2
    obtain ⟨hz, hti, ⟨a, c, hto⟩, j1, j2⟩ := st
    have e1 := r1.length
    have e2 := r2.length
    refine ZS.zip_stop (I.ok.hd hc) D hz hti hto j1 j2 s1 s2 ?_ fun h' up => ⟨rfl, I.turnedL (t' := s.toks) (ch := [z, ti, to, i1, i2]) (fun b o hb e => ?_) hf⟩
    · rcases hend with h | h
      · exact .inl (by simp; omega)
      · exact .inr (by simp; omega)
    · simp only [List.mem_cons, List.not_mem_nil, or_false, not_or] at hb
      exact up b o hb.1 hb.2.2.1 hb.2.2.2.1 hb.2.2.2.2 e
  self := fun _ _ _ _ _ st h => wpAny_pyIter_zip st.1 h

def iZip (K : PySem.W.Frag) (k1 k2 : ZS.SK) (ta : TA) : TI := fun σ H R => ta σ H fun vs H1 => ∃ a1 a2 xs ys, vs = [.ref a1, .ref a2] ∧ Sq k1 K H1 a1 xs ∧ Sq k2 K H1 a2 ys ∧ R (Itz K k1 k2 a1 a2) H1
theorem pi_zip {k1 k2 : ZS.SK} {a b : Expr} {ta : TA} {p pos tpos : Pos} {es : List Expr} {kk : Nat} (hg : Gl X "zip") (hm : X.mg "zip" = none) (ha : PA X [a, b] ta) (hs : starEach [a, b] X.env = [(false, eval a X.env), (false, eval b X.env)] := by rfl)
    (hs2 : starEach [b] X.env = [(false, eval b X.env)] := by rfl) : PI X (.Tuple es kk tpos) (.Call (.Name "zip" p) [a, b] [] pos) (iZip X.K k1 k2 ta) := by
  intro pins s σ H R I h
  refine Call_ (ld_blt I hg hm boot_zip (PyProof.Rows.callWith_type1 (thn (ha pos pins s σ H _ I h) fun us s1 ⟨vs, H1, I1, r1, q1⟩ => ?_) (by rw [hs, hs2]) (by rw [hs2]; rfl)))
  obtain ⟨a1, a2, xs, ys, e, q1, q2, q⟩ := q1
  subst e
  cases r1 with
  | cons r rr =>
    cases rr with
    | cons r' rr =>
      cases rr
      cases r
      cases r'
      obtain ⟨its1, _, sq1, _⟩ := I1.sq q1
      obtain ⟨its2, _, sq2, _⟩ := I1.sq q2
      refine ZS.zip_call sq1 sq2 fun h' hz hti hto j1 j2 up => ?_
      refine wpAny_pyIter_zip (s := { s1 with heap := h' }) hz ?_
      have lt : ∀ {k : ZS.SK} {a : Addr} {xs : Array Value}, ZS.SeqOf k s1.heap a xs → a < s1.heap.objs.size := fun {k a xs} q => by
        cases k with
        | l => obtain ⟨o, e, _⟩ := (show s1.heap.IsList a xs from q); exact Heap.lt_size e
        | t => obtain ⟨o, e, _⟩ := (show s1.heap.IsTuple a xs from q); exact Heap.lt_size e
      refine ⟨_, _, _, _, H1, rfl, I1.kept (t' := s1.toks) up, turn_zip k1 k2 a1 a2 _ _ _ _ _ (five_new (lt sq1) (lt sq2)),
        ⟨hz, hti, ⟨_, _, hto⟩, j1, j2⟩, fun b hb => ?_, q⟩
      have hb' : s1.heap.objs.size ≤ b := by
        simp only [List.mem_cons, List.not_mem_nil, or_false] at hb
        rcases hb with rfl | rfl | rfl | rfl | rfl
        · exact Nat.le_add_right _ _
        · exact Nat.le_add_right _ _
        · exact Nat.le_add_right _ _
        · exact Nat.le_refl _
        · exact Nat.le_add_right _ _
      exact I1.fpOk hb' (I1.hok.fresh hb')
end
end L2

end
section
set_option Elab.async false
set_option linter.all false
set_option maxRecDepth 100000
set_option maxHeartbeats 1000000
namespace L2
open PySem PySem.Spec PyProof.Rows
/-! ### lists of values -/
theorem Vals.back : ∀ {xs : List V} {us : List Value} {i : Nat} {u : Value}, Vals xs us → us[i]? = some u → ∃ x, xs[i]? = some x ∧ RelV x u
  | _, _, _, _, .nil, e => by simp at e
  | _, _, 0, _, .cons r _, e => by simp at e; subst e; exact ⟨_, rfl, r⟩
  | _, _, i + 1, u, .cons _ t, e => by
    obtain ⟨x, h1, h2⟩ := Vals.back (i := i) (u := u) t (by simpa using e)
    exact ⟨x, by simpa using h1, h2⟩
theorem Vals.ints {ns : List Int} {us : List Value} {i : Nat} {u : Value} (r : Vals (ns.map V.int) us) (e : us[i]? = some u) : ∃ t, u = .int (ns.getD i 0) t := by
  obtain ⟨x, h1, h2⟩ := r.back e
  rw [List.getElem?_map] at h1
  cases q : ns[i]? with
  | none => rw [q] at h1; cases h1
  | some n =>
    rw [q] at h1
    cases h1
    obtain ⟨t, rfl⟩ := h2
    exact ⟨t, by rw [List.getD_eq_getElem?_getD, q]; rfl⟩

/-! ### what is tracked stays -/
theorem Same.seqT {K : PySem.W.Frag} {H H' : Hp} {a : Addr} {xs : List V} (e : Same H H') (h : SqT K H a xs) : SqT K H' a xs := by
  rcases h with (h | ⟨o, h⟩) | h
  · exact .inl (.inl (e _ _ h))
  · exact .inl (.inr ⟨o, e _ _ h⟩)
  · exact .inr h
theorem Same.sq {k : ZS.SK} {K : PySem.W.Frag} {H H' : Hp} {a : Addr} {xs : List V} (e : Same H H') (h : Sq k K H a xs) : Sq k K H' a xs := by
  cases k with
  | l => exact e.seq h
  | t => exact e.seqT h
theorem Same.upd {H H' : Hp} {p : Addr} {o : HO} (e : Same H H') (h : H p = none) : Same H (L2.upd H' p o) := fun b u q => by
  rw [upd_ne (ne_of_none q h)]
  exact e b u q
theorem Same.new {H : Hp} {p : Addr} {o : HO} (h : H p = none) : Same H (L2.upd H p o) := (Same.refl H).upd h

/-! ### a walk over n items -/
structure ItN (J : It) (H1 : Hp) (n : Nat) (it : Nat → V → Hp → Prop) : Prop where
  go : ∀ i H, Same H1 H → i < n → J.go i H
  yl : ∀ i H x H', Same H1 H → i < n → J.yld i H x H' → Same H H' ∧ it i x H'
  st : ∀ H, Same H1 H → J.stop n H
theorem itn_range {lo : Int} {n : Nat} {H1 : Hp} : ItN (Itr lo n) H1 n (fun i x _ => x = .int (lo + i)) :=
  ⟨fun _ _ _ h => h, fun i H x H' _ _ h => ⟨by rw [h.1]; exact Same.refl _, h.2⟩, fun _ _ => Nat.le_refl _⟩
theorem itn_list {K : PySem.W.Frag} {a : Addr} {xs : List V} {H1 : Hp} (h : SqL K H1 a xs) : ItN (Itl K a) H1 xs.length (fun i x _ => xs[i]? = some x) :=
  ⟨fun i H e hi => ⟨xs, xs[i], e.seq h, List.getElem?_eq_getElem hi⟩, fun i H x H' e _ q => ⟨by rw [q.1]; exact Same.refl _, q.2 xs (e.seq h)⟩, fun H e => ⟨xs, e.seq h, Nat.le_refl _⟩⟩
theorem itn_tup {K : PySem.W.Frag} {a : Addr} {xs : List V} {H1 : Hp} (h : SqT K H1 a xs) : ItN (Itt K a) H1 xs.length (fun i x _ => xs[i]? = some x) :=
  ⟨fun i H e hi => ⟨xs, xs[i], e.seqT h, List.getElem?_eq_getElem hi⟩, fun i H x H' e _ q => ⟨by rw [q.1]; exact Same.refl _, q.2 xs (e.seqT h)⟩, fun H e => ⟨xs, e.seqT h, Nat.le_refl _⟩⟩
theorem itn_zip {K : PySem.W.Frag} {k1 k2 : ZS.SK} {a1 a2 : Addr} {xs ys : List V} {H1 : Hp} (h1 : Sq k1 K H1 a1 xs) (h2 : Sq k2 K H1 a2 ys) (hl : xs.length = ys.length) :
    ItN (Itz K k1 k2 a1 a2) H1 xs.length (fun i x H' => ∃ p u v, x = .ref p ∧ H' p = some (.tup [u, v]) ∧ xs[i]? = some u ∧ ys[i]? = some v) := by
  refine ⟨fun i H e hi => ⟨xs, ys, xs[i], ys[i], e.sq h1, e.sq h2, List.getElem?_eq_getElem hi, List.getElem?_eq_getElem (by omega)⟩, fun i H x H' e hi q => ?_, fun H e => ⟨xs, ys, e.sq h1, e.sq h2, .inl (Nat.le_refl _)⟩⟩
  obtain ⟨p, u, v, q1, q2, rfl, hp, rfl⟩ := q
  exact ⟨Same.new hp, p, u, v, rfl, upd_same, q1 xs (e.sq h1), q2 ys (e.sq h2)⟩

/-- [elt for tg in iter] over n items: the i-th is f i; P holds of the block's names, nothing that was tracked is changed -/
theorem comp_run {J : It} {H1 : Hp} {n : Nat} {it : Nat → V → Hp → Prop} {g : TG} {te : TE} {σ0 : St} {Q : VK} (hJ : ItN J H1 n it) (hn : n ≤ sizeLine) (P : St → Prop) (f : Nat → V) (h0 : P σ0)
    (body : ∀ i x σ' H' (R : V → St → Hp → Prop), i < n → Same H1 H' → P σ' → it i x H' → (∀ σ3 H4, P σ3 → Same H' H4 → R (f i) σ3 H4) → g x σ' H' fun σ3 H3 => te σ3 H3 fun v H4 => R v σ3 H4)
    (fin : ∀ D H', H1 D = none → Same H1 H' → H' D = some (.lst ((List.range n).map f)) → Q (.ref D) H') :
    CompW g te σ0 Q J H1 := by
  intro D hD
  refine ⟨fun i m ys σ' H' => i ≤ n ∧ m = n - i ∧ ys = (List.range i).map f ∧ P σ' ∧ Same H1 H' ∧ H' D = some (.lst ys), ⟨n, Nat.zero_le _, rfl, rfl, h0, Same.new hD, upd_same⟩, ?_⟩
  rintro i m ys σ' H' ⟨hi, hm, hys, hP, hS, hDy⟩
  refine ⟨hDy, ?_⟩
  by_cases hlt : i < n
  · refine .inr ⟨hJ.go i H' hS hlt, by rw [hys, List.length_map, List.length_range]; omega, fun x H2 hy => ?_⟩
    obtain ⟨s2, hit⟩ := hJ.yl i H' x H2 hS hlt hy
    refine body i x σ' H2 (fun v σ3 H4 => H4 D = some (.lst ys) ∧ ∃ m', m' < m ∧ (i + 1 ≤ n ∧ m' = n - (i + 1) ∧ ys ++ [v] = (List.range (i + 1)).map f ∧ P σ3 ∧ Same H1 (upd H4 D (.lst (ys ++ [v]))) ∧ upd H4 D (.lst (ys ++ [v])) D = some (.lst (ys ++ [v])))) hlt (hS.trans s2) hP hit ?_
    intro σ3 H4 hP3 s4
    refine ⟨s4 D _ (s2 D _ hDy), n - (i + 1), by omega, by omega, rfl, ?_, hP3, ((hS.trans s2).trans s4).upd hD, upd_same⟩
    rw [hys, List.range_succ, List.map_append]
    rfl
  · have e : i = n := by omega
    subst e
    exact .inl ⟨hJ.st H' hS, fin D H' hD hS (by rw [hDy, hys])⟩

/-! ### sum -/
theorem preSum_take (ns : List Int) : ∀ j, j ≤ ns.length → preSum (fun i => ns.getD i 0) j = (ns.take j).sum
  | 0, _ => by simp [preSum]
  | j + 1, h => by
    rw [preSum, preSum_take ns j (by omega), take_sum_succ ns j (by omega)]
section
variable {X : Cx}
theorem call_sum (hc : X.calm = true) : CallR X (.builtin "sum") (fun xs H Q => ∃ (k : ZS.SK) (p : Addr) (ns : List Int), xs = [.ref p] ∧ Sq k X.K H p (ns.map V.int) ∧ Q (.int ns.sum) H) := by
  intro pins s σ H xs us Q I r h
  obtain ⟨k, p, ns, rfl, hq, q⟩ := h
  obtain ⟨u, rfl, ru⟩ := vals1 r
  cases ru
  obtain ⟨its, rv, sq, hz⟩ := I.sq hq
  have hl := rv.length
  rw [List.length_map] at hl
  have hh : X.A.handled = none := I.ok.hd hc
  have plt : p < s.heap.objs.size := by
    cases k with
    | l => obtain ⟨o, e, _⟩ := (show s.heap.IsList p its.toArray from sq); exact Heap.lt_size e
    | t => obtain ⟨o, e, _⟩ := (show s.heap.IsTuple p its.toArray from sq); exact Heap.lt_size e
  have hval : ∀ (i : Nat) (v : Value), its.toArray[i]? = some v → ∃ t, v = Value.int (ns.getD i 0) t := fun i v e => rv.ints (i := i) (u := v) (by rw [← e]; simp)
  have fin : ∀ h' tk t', (∀ b o, b ∉ [s.heap.objs.size] → (s.heap.push (ZS.itObj k p)).get? b = some o → h'.get? b = some o) → EP X pins σ Q (.int (preSum (fun i => ns.getD i 0) its.toArray.size) t') { s with heap := h', toks := tk } := fun h' tk t' hk => by
    refine ⟨.int ns.sum, H, I.kept (t' := tk) fun b o e => hk b o ?_ (Heap.get?_push_of_some _ e), ⟨t', ?_⟩, q⟩
    · intro z
      exact Nat.ne_of_lt (Heap.lt_size e) (by simpa using z)
    · rw [preSum_take ns _ (by simp; omega), List.take_of_length_le (by simp; omega)]
  have hfp : ∀ b ∈ [s.heap.objs.size, p], b < (s.heap.push (ZS.itObj k p)).objs.size := fun b hb => by
    rw [Heap.size_push]
    simp only [List.mem_cons, List.not_mem_nil, or_false] at hb
    rcases hb with rfl | rfl
    · exact Nat.lt_succ_self _
    · exact Nat.lt_succ_of_lt plt
  refine call_sum_walkG (ZS.iter_seq sq ?_)
  cases k with
  | l =>
    exact ⟨s.heap.objs.size, [s.heap.objs.size, p], [s.heap.objs.size], its.toArray.size, _, _, fun i => ns.getD i 0, rfl, Walks.list (A := X.A.in1) hh _ p (Nat.ne_of_lt plt) its.toArray,
      ⟨⟨_, Heap.get?_push_size _ rfl, rfl, rfl⟩, ZS.SeqOf.on (k := .l) sq fun o e => Heap.get?_push_of_some _ e⟩, hfp, hval, fin⟩
  | t =>
    exact ⟨s.heap.objs.size, [s.heap.objs.size, p], [s.heap.objs.size], its.toArray.size, _, _, fun i => ns.getD i 0, rfl, Walks.tuple (A := X.A.in1) hh _ p (Nat.ne_of_lt plt) its.toArray,
      ⟨⟨_, Heap.get?_push_size _ rfl, rfl, rfl⟩, ZS.SeqOf.on (k := .t) sq fun o e => Heap.get?_push_of_some _ e⟩, hfp, hval, fin⟩

/-! ### tuples of ints, pairs of such a tuple and an int: == and != -/
theorem all_eq_ints (ns ms : List Int) : ((List.range (min ns.length ms.length)).all (fun j => ns.getD j 0 == ms.getD j 0) && ns.length == ms.length) = decide (ns = ms) := by
  by_cases e : ns = ms
  · subst e
    simp
  · rw [decide_eq_false e]
    by_cases hl : ns.length = ms.length
    · cases hb : (List.range (min ns.length ms.length)).all (fun j => ns.getD j 0 == ms.getD j 0) with
      | false => rfl
      | true =>
        exfalso
        apply e
        apply List.ext_getElem hl
        intro i h1 h2
        have := List.all_eq_true.mp hb i (List.mem_range.mpr (by omega))
        simpa [List.getD_eq_getElem?_getD, h1, h2] using this
    · have : (ns.length == ms.length) = false := by simpa using hl
      rw [this, Bool.and_false]
theorem getL {α : Type} {l : List α} {j : Nat} (h : j < l.toArray.size) : l[j]? = some l.toArray[j] := by simp
variable {pins : List (Addr × Obj)} {σ : St} {H : Hp} {s : Shared}
theorem Inv.ints_items {A : Around} {us vs : List Value} {ns ms : List Int} (r : Vals (ns.map V.int) us) (q : Vals (ms.map V.int) vs) :
    ∀ j (h1 : j < us.toArray.size) (h2 : j < vs.toArray.size), SeqAt.EqAt A s us.toArray[j] vs.toArray[j] (ns.getD j 0 == ms.getD j 0) := fun j h1 h2 => by
  obtain ⟨t, e⟩ := r.ints (getL h1)
  obtain ⟨t', e'⟩ := q.ints (getL h2)
  rw [e, e']
  exact SeqAt.EqAt.int_int _ _ _ _
theorem Inv.eqInts {A : Around} {a b : Addr} {ns ms : List Int} (I : Inv X pins σ H s) (hu : A.units < cLine) (h : SqT X.K H a (ns.map V.int)) (h' : SqT X.K H b (ms.map V.int)) : SeqAt.EqAt A s (.ref a) (.ref b) (decide (ns = ms)) := by
  by_cases e : a = b
  · subst e
    have q := I.tuple_inj h h'
    have : ns = ms := by
      have := congrArg (List.map fun v => match v with | V.int i => i | _ => 0) q
      simpa [List.map_map, Function.comp_def] using this
    rw [decide_eq_true this]
    exact SeqAt.EqAt.same _
  · obtain ⟨us, r, p, _⟩ := I.tuple h
    obtain ⟨vs, r', p', _⟩ := I.tuple h'
    have l1 := r.length
    have l2 := r'.length
    rw [List.length_map] at l1 l2
    have key := SeqAt.RcAt.tuples (A := A) (show s.heap.IsTuple a us.toArray from p) (show s.heap.IsTuple b vs.toArray from p') hu (e := fun j => ns.getD j 0 == ms.getD j 0) (Inv.ints_items r r')
    rw [List.size_toArray, List.size_toArray, ← l1, ← l2, all_eq_ints] at key
    exact SeqAt.EqAt.of_refs e key
/-- a pair: a tuple of ints, and an int -/
def Lv (K : PySem.W.Frag) (H : Hp) (p : Addr) (c : List Int) (b : Int) : Prop := ∃ a, SqT K H p [.ref a, .int b] ∧ SqT K H a (c.map V.int)
theorem Inv.lv_items {A : Around} {p q : Addr} {c c' : List Int} {b b' : Int} (I : Inv X pins σ H s) (hu : A.units < cLine) (h : Lv X.K H p c b) (h' : Lv X.K H q c' b') :
    ∃ us vs : List Value, us.length = 2 ∧ vs.length = 2 ∧ IsTup s.heap p us.toArray ∧ IsTup s.heap q vs.toArray ∧
      ∀ j (h1 : j < us.toArray.size) (h2 : j < vs.toArray.size), SeqAt.EqAt A s us.toArray[j] vs.toArray[j] (if j = 0 then decide (c = c') else decide (b = b')) := by
  obtain ⟨a, hp, ha⟩ := h
  obtain ⟨a', hq, ha'⟩ := h'
  obtain ⟨us, r, p1, _⟩ := I.tuple hp
  obtain ⟨vs, r', p2, _⟩ := I.tuple hq
  obtain ⟨u0, u1, rfl, ru0, ru1⟩ := vals2 r
  obtain ⟨v0, v1, rfl, rv0, rv1⟩ := vals2 r'
  cases ru0
  cases rv0
  obtain ⟨t, rfl⟩ := ru1
  obtain ⟨t', rfl⟩ := rv1
  refine ⟨_, _, rfl, rfl, p1, p2, fun j h1 h2 => ?_⟩
  match j, h1, h2 with
  | 0, _, _ => exact I.eqInts hu ha ha'
  | 1, _, _ =>
    have : decide (b = b') = (b == b') := by by_cases e : b = b' <;> simp [e]
    simp only [Nat.one_ne_zero, if_false, this]
    exact SeqAt.EqAt.int_int _ _ _ _
theorem two_all {x y : Bool} : ((List.range (min 2 2)).all (fun j => if j = 0 then x else y) && (2 == 2)) = (x && y) := by cases x <;> cases y <;> rfl
theorem dec_and {p q : Prop} [Decidable p] [Decidable q] : (decide p && decide q) = decide (p ∧ q) := by by_cases hp : p <;> by_cases hq : q <;> simp [hp, hq]
def rLvE (K : PySem.W.Frag) : R2 := fun x y H Q => ∃ p q c b c' b', x = .ref p ∧ y = .ref q ∧ Lv K H p c b ∧ Lv K H q c' b' ∧ Q (.bl (decide (c = c' ∧ b = b'))) H
def rLvN (K : PySem.W.Frag) : R2 := fun x y H Q => ∃ p q c b c' b', x = .ref p ∧ y = .ref q ∧ Lv K H p c b ∧ Lv K H q c' b' ∧ Q (.bl (!decide (c = c' ∧ b = b'))) H
theorem op_eqLv (hu : X.A.units + 1 < cLine) : OpR X (compareOp .Eq) (rLvE X.K) := by
  intro pins s σ H x y v u Q I rx ry h
  obtain ⟨p, q, c, b, c', b', rfl, rfl, hp, hq, k⟩ := h
  cases rx
  cases ry
  obtain ⟨us, vs, l1, l2, p1, p2, he⟩ := I.lv_items (A := X.A.in1) hu hp hq
  refine SeqAt.eq_tupleAt (show s.heap.IsTuple p us.toArray from p1) (show s.heap.IsTuple q vs.toArray from p2) (Nat.lt_of_succ_lt hu) he ?_
  rw [List.size_toArray, List.size_toArray, l1, l2, two_all, dec_and]
  exact ⟨.bl _, H, I, rfl, k⟩
theorem op_neLv (hu : X.A.units + 1 < cLine) : OpR X (compareOp .NotEq) (rLvN X.K) := by
  intro pins s σ H x y v u Q I rx ry h
  obtain ⟨p, q, c, b, c', b', rfl, rfl, hp, hq, k⟩ := h
  cases rx
  cases ry
  obtain ⟨us, vs, l1, l2, p1, p2, he⟩ := I.lv_items (A := X.A.in1) hu hp hq
  refine SeqAt.RcNeAt.tuples (show s.heap.IsTuple p us.toArray from p1) (show s.heap.IsTuple q vs.toArray from p2) (Nat.lt_of_succ_lt hu) he X.prog X.w X.xe _ ?_
  rw [List.size_toArray, List.size_toArray, l1, l2, two_all, dec_and]
  exact ⟨.bl _, H, I, rfl, k⟩

/-! ### isinstance against a built-in type, int of a text, a text times an int -/
theorem call_isi : CallR X (.builtin "isinstance") (fun xs H Q => ∃ x T t b, xs = [x, .ty T] ∧ TyOf X.K H x t ∧ PySem.W.kitOne X.K t (.type T) = some b ∧ Q (.bl b) H) := by
  intro pins s σ H xs us Q I r h
  obtain ⟨x, T, t, b, rfl, ty, e, q⟩ := h
  obtain ⟨u, v, rfl, ru, rv⟩ := vals2 r
  cases (show v = Value.type T from rv)
  exact isinst_ok I ru ty e fun tk => ⟨.bl b, H, I.tok tk, rfl, q⟩
theorem call_int_text : CallR X (.type "int") (fun xs H Q => ∃ x n, xs = [.str x] ∧ PySem.intText? x = some n ∧ x.length ≤ 640 ∧ Q (.int n) H) := by
  intro pins s σ H xs us Q I r h
  obtain ⟨x, n, rfl, hn, hl, q⟩ := h
  obtain ⟨u, rfl, ru⟩ := vals1 r
  obtain ⟨t, rfl⟩ := ru
  exact PySem.W.KIN.call_text hn hl ⟨.int n, H, I.tok _, ⟨_, rfl⟩, q⟩
theorem op_mul_str : OpR X (binaryOp .Mult) (fun x y H Q => ∃ z n, x = .str z ∧ y = .int n ∧ MulOk z n ∧ Q (.str (Txt.mul z n)) H) := by
  intro pins s σ H x y v u Q I rx ry h
  obtain ⟨z, n, rfl, rfl, hok, q⟩ := h
  obtain ⟨t, rfl⟩ := rx
  obtain ⟨t', rfl⟩ := ry
  exact SB.mul hok fun t2 k => ⟨.str (Txt.mul z n), H, I.tok k, ⟨t2, rfl⟩, q⟩
end
end L2

end
section
set_option Elab.async false
set_option linter.all false
set_option maxRecDepth 100000
set_option maxHeartbeats 1000000
namespace L2
open PySem PySem.Spec PyProof.Rows
/-! ### places -/
theorem atI_pos {α : Type} {xs : List α} {k : Int} (h0 : 0 ≤ k) (h1 : k < xs.length) : atI xs k = xs[k.toNat]? := by
  unfold atI ixN
  rw [if_pos h0, if_pos h1]
  rfl
theorem atI_ints {ns : List Int} {k : Int} (h0 : 0 ≤ k) (h1 : k < ns.length) : atI (ns.map V.int) k = some (.int (ns.getD k.toNat 0)) := by
  rw [atI_pos h0 (by simpa using h1), List.getElem?_map, List.getElem?_eq_getElem (by omega), List.getD_eq_getElem?_getD, List.getElem?_eq_getElem (by omega)]
  rfl
theorem atI_nats {ns : List Int} {i : Nat} (h : i < ns.length) : atI (ns.map V.int) (i : Int) = some (.int (ns.getD i 0)) := by
  rw [atI_ints (by omega) (by omega)]
  rfl
theorem getD_all {P : Int → Prop} {ns : List Int} (h : ∀ x ∈ ns, P x) {i : Nat} (hi : i < ns.length) : P (ns.getD i 0) := by
  rw [List.getD_eq_getElem?_getD, List.getElem?_eq_getElem hi]
  exact h _ (List.getElem_mem hi)
theorem getD_snoc_lt {ns : List Int} {x : Int} {i : Nat} (h : i < ns.length) : (ns ++ [x]).getD i 0 = ns.getD i 0 := by
  rw [List.getD_eq_getElem?_getD, List.getD_eq_getElem?_getD, List.getElem?_append_left h]
theorem get_ints {ns : List Int} {i : Nat} (h : i < ns.length) : (ns.map V.int)[i]? = some (.int (ns.getD i 0)) := by
  rw [List.getElem?_map, List.getElem?_eq_getElem h, List.getD_eq_getElem?_getD, List.getElem?_eq_getElem h]
  rfl
theorem of_get_ints {ns : List Int} {i : Nat} {v : V} (h : (ns.map V.int)[i]? = some v) : i < ns.length ∧ v = .int (ns.getD i 0) := by
  have hi : i < ns.length := by
    have := (List.getElem?_eq_some_iff.mp h).1
    simpa using this
  rw [get_ints hi] at h
  exact ⟨hi, (Option.some.inj h).symm⟩

/-! ### a statement whose ways meet again -/
theorem meet {t rest : TS} {D : Ends} {σ : St} {H : Hp} (M : St → Hp → Prop) (hr : ∀ σ' H', M σ' H' → rest D σ' H') (h : (∀ σ' H', M σ' H' → rest D σ' H') → tSeq t rest D σ H) : tSeq t rest D σ H := h hr

/-! ### the data -/
/-- levels: a pair of a tuple of ints and an int -/
def LvH (H : Hp) (p : Addr) (c : List Int) (b : Int) : Prop := ∃ a, H p = some (.tup [.ref a, .int b]) ∧ H a = some (.tup (c.map V.int))
theorem LvH.lv {K : PySem.W.Frag} {H : Hp} {p : Addr} {c : List Int} {b : Int} (h : LvH H p c b) : Lv K H p c b := let ⟨a, h1, h2⟩ := h; ⟨a, SqT.of h1, SqT.of h2⟩
theorem LvH.on {H H' : Hp} {p : Addr} {c : List Int} {b : Int} (h : LvH H p c b) (e : Same H H') : LvH H' p c b := let ⟨a, h1, h2⟩ := h; ⟨a, e _ _ h1, e _ _ h2⟩
/-- a plan -/
def PlH (H : Hp) (p : Addr) (P : Pl) : Prop := ∃ a1 a2, H p = some (.tup [.ref a1, .ref a2, .int P.bh, .int P.bs]) ∧ H a1 = some (.tup (P.hs.map V.int)) ∧ H a2 = some (.tup (P.ss.map V.int))
theorem PlH.on {H H' : Hp} {p : Addr} {P : Pl} (h : PlH H p P) (e : Same H H') : PlH H' p P := let ⟨a1, a2, h1, h2, h3⟩ := h; ⟨a1, a2, e _ _ h1, e _ _ h2, e _ _ h3⟩

end L2

end
section
set_option Elab.async false
set_option linter.all false
set_option maxRecDepth 100000
set_option maxHeartbeats 1000000
namespace L2
open PySem PySem.Spec PyProof.Rows
/-! ### built-in names that the text leaves as they are -/
theorem bb_len : bootBuiltins "len" = some (.builtin "len") := by decide +kernel
theorem bb_min : bootBuiltins "min" = some (.builtin "min") := by decide +kernel
theorem bb_max : bootBuiltins "max" = some (.builtin "max") := by decide +kernel
theorem bb_sum : bootBuiltins "sum" = some (.builtin "sum") := by decide +kernel
theorem bb_isi : bootBuiltins "isinstance" = some (.builtin "isinstance") := by decide +kernel
theorem bb_tuple : bootBuiltins "tuple" = some (.type "tuple") := by decide +kernel
theorem bb_int : bootBuiltins "int" = some (.type "int") := by decide +kernel
theorem bb_bool : bootBuiltins "bool" = some (.type "bool") := by decide +kernel
theorem bb_list : bootBuiltins "list" = some (.type "list") := by decide +kernel
theorem kit_tt {K : PySem.W.Frag} : PySem.W.kitOne K (.type "tuple") (.type "tuple") = some true := by unfold PySem.W.kitOne; rw [if_pos (by simp)]
theorem kit_ii {K : PySem.W.Frag} : PySem.W.kitOne K (.type "int") (.type "int") = some true := by unfold PySem.W.kitOne; rw [if_pos (by simp)]
theorem kit_bb {K : PySem.W.Frag} : PySem.W.kitOne K (.type "bool") (.type "bool") = some true := by unfold PySem.W.kitOne; rw [if_pos (by simp)]
theorem sub_ib : (fastBuiltinMro "int").map (·.contains (Value.type "bool")) = some false := by decide +kernel
theorem meta_bool : PySem.W.kitMeta "bool" = true := by decide +kernel
theorem kit_ib {K : PySem.W.Frag} : PySem.W.kitOne K (.type "int") (.type "bool") = some false := by
  unfold PySem.W.kitOne
  rw [if_neg (by decide)]
  show (if PySem.W.kitMeta "bool" = true then PySem.W.subIn K (.type "int") (.type "bool") else none) = some false
  rw [if_pos meta_bool]
  exact sub_ib
structure Bl (mg : Str → Option Value) : Prop where
  len : mg "len" = none
  min : mg "min" = none
  sum : mg "sum" = none
  isi : mg "isinstance" = none
  tuple : mg "tuple" = none
  int : mg "int" = none
  bool : mg "bool" = none
  range : mg "range" = none
  zip : mg "zip" = none
/-! ### promises -/
def spFull : Sp := fun vs H Q _ => ∃ p P, vs = [.ref p] ∧ PlH H p P ∧ ∀ q H', Same H H' → LvH H' q P.hs P.bh → Q (.ref q) H'
def spTick : Sp := fun vs H Q _ => ∃ p l P c b, vs = [.ref p, .ref l] ∧ PlH H p P ∧ LvH H l c b ∧ P.ss.length = P.hs.length ∧ c.length = P.hs.length ∧ P.hs.length ≤ 1000 ∧ ∀ q H', Same H H' → LvH H' q (tkC P c) (tkB P c b) → Q (.ref q) H'
def spWhole : Sp := fun vs H Q _ => ∃ i, vs = [.int i] ∧ Q (.bl true) H
def spAt (K : PySem.W.Frag) : Sp := fun vs H Q _ => ∃ (a : Addr) (ns : List Int) (k : Int), vs = [.ref a, .int k] ∧ SqL K H a (ns.map V.int) ∧ 0 ≤ k ∧ Q (.int (ns.getD k.toNat 0)) H
def spAre : Sp := fun vs H Q _ => ∃ p c b, vs = [.ref p, .int (c.length : Nat)] ∧ LvH H p c b ∧ Q (.bl true) H
structure PlOk (P : Pl) (n : Nat) : Prop where
  hl : P.hs.length = n
  sl : P.ss.length = n
  h0 : ∀ x ∈ P.hs, 0 ≤ x
  s0 : ∀ x ∈ P.ss, 0 ≤ x
  b0 : 0 ≤ P.bh
  f0 : 0 ≤ P.bs
def spPlan (K : PySem.W.Frag) : Sp := fun vs H Q _ => ∃ (a : Addr) (ns : List Int) (n : Nat), vs = [.ref a, .int n] ∧ SqL K H a (ns.map V.int) ∧ 1 ≤ n ∧ n ≤ 12 ∧ ∀ p P H', Same H H' → PlH H' p P → PlOk P n → Q (.ref p) H'
def spLaw (K : PySem.W.Frag) : Sp := fun vs H Q _ => ∃ (a : Addr) (ns : List Int), vs = [.ref a] ∧ SqL K H a (ns.map V.int) ∧ ns.length ≤ 63 ∧ ∀ H', Q (.bl true) H'
end L2

end
section
set_option Elab.async false
set_option linter.all false
set_option maxRecDepth 100000
set_option maxHeartbeats 1000000
namespace L2
open PySem PySem.Spec PyProof.Rows
/-- a list of n ints, none below nought -/
def LiH (H : Hp) (a : Addr) (n : Nat) : Prop := ∃ xs : List Int, H a = some (.lst (xs.map V.int)) ∧ xs.length = n ∧ ∀ x ∈ xs, 0 ≤ x
theorem LiH.on {H H' : Hp} {a : Addr} {n : Nat} (h : LiH H a n) (e : Same H H') : LiH H' a n := let ⟨xs, h1, h2⟩ := h; ⟨xs, e _ _ h1, h2⟩
theorem LiH.mk {H : Hp} {a : Addr} {n : Nat} {g : Nat → Int} (h : H a = some (.lst ((List.range n).map fun i => V.int (g i)))) (h0 : ∀ i, i < n → 0 ≤ g i) : LiH H a n :=
  ⟨(List.range n).map g, by rw [h, List.map_map]; rfl, by simp, fun x hx => by
    obtain ⟨i, hi, rfl⟩ := List.mem_map.mp hx
    exact h0 i (List.mem_range.mp hi)⟩
theorem LiH.snoc {H : Hp} {a : Addr} {xs : List Int} {n : Nat} {y : Int} (hl : xs.length = n) (h0 : ∀ x ∈ xs, 0 ≤ x) (hy : 0 ≤ y) : LiH (upd H a (.lst (xs.map V.int ++ [.int y]))) a (n + 1) :=
  ⟨xs ++ [y], by rw [upd_same, List.map_append]; rfl, by simp [hl], fun x hx => by
    rcases List.mem_append.mp hx with hx | hx
    · exact h0 x hx
    · rw [List.mem_singleton.mp hx]; exact hy⟩
theorem LiH.other {H : Hp} {a b : Addr} {n : Nat} {o : HO} (h : LiH H a n) (hne : a ≠ b) : LiH (upd H b o) a n := let ⟨xs, h1, h2⟩ := h; ⟨xs, by rw [upd_ne hne]; exact h1, h2⟩
theorem four_line : 4 ≤ sizeLine := by decide
theorem seven_line : 7 ≤ sizeLine := by decide
theorem cmL {i j : Int} (h : -1000000 < i ∧ i < 1000000) : CMul i j := .inl ⟨by omega, by omega⟩
theorem cmR {i j : Int} (h : -1000000 < j ∧ j < 1000000) : CMul i j := .inr ⟨by omega, by omega⟩
theorem cDv {i j : Int} (h : 0 < j ∧ j < 1000000) : CDiv i j := ⟨h.1, by omega⟩
theorem mod0 (x : Int) {m : Int} (h : 0 < m) : 0 ≤ x % m := Int.emod_nonneg _ (by omega)
theorem mod1 (x : Int) {m : Int} (h : 0 < m) : x % m < m := Int.emod_lt_of_pos _ h
/-- an item of a written list at a place that lies in it -/
theorem menu {xs : List Int} {j lo hi : Int} (h0 : 0 ≤ j) (h1 : j < xs.length) (hb : ∀ x ∈ xs, lo ≤ x ∧ x ≤ hi) : ∃ t, atI (xs.map V.int) j = some (.int t) ∧ lo ≤ t ∧ t ≤ hi :=
  ⟨_, atI_ints h0 h1, getD_all hb (by omega)⟩
def e30 : Str := (Str.ofString "1") ++ Txt.mul (Str.ofString "0") 30
theorem e30_int : PySem.intText? e30 = some (10 ^ 30) := by decide +kernel
theorem e30_len : e30.length ≤ 640 := by decide +kernel
theorem e30_mul : MulOk (Str.ofString "0") 30 := by
  refine ⟨by decide, fun _ _ => by decide +kernel, fun _ _ => by decide +kernel⟩
theorem e30_cat : (Str.ofString "1").length + (Txt.mul (Str.ofString "0") 30).length ≤ sizeLine := by decide +kernel
end L2

end
section
set_option Elab.async false
set_option linter.all false
set_option maxRecDepth 100000
set_option maxHeartbeats 1000000
namespace L2
open PySem PySem.Spec PyProof.Rows
def spTicks : Sp := fun vs H Q _ => ∃ (p l : Addr) (P : Pl) (c : List Int) (b : Int) (n : Nat), vs = [.ref p, .ref l, .int n] ∧ PlH H p P ∧ LvH H l c b ∧ P.ss.length = P.hs.length ∧ c.length = P.hs.length ∧ P.hs.length ≤ 1000 ∧ n ≤ 100000 ∧
  ∀ q H', Same H H' → LvH H' q (tkN P c b n).1 (tkN P c b n).2 → Q (.ref q) H'
def spSum : Sp := fun vs H Q _ => ∃ p c b, vs = [.ref p] ∧ LvH H p c b ∧ Q (.int (b + c.sum)) H
/-- an item at the last place -/
theorem ixN_last {n : Nat} (h : 1 ≤ n) : ixN n (-1) = some (n - 1) := by
  unfold ixN
  rw [if_neg (by omega), if_pos (by omega)]
  congr 1
  omega
theorem LiH.set {H : Hp} {a : Addr} {xs : List Int} {n j : Nat} {y : Int} (hl : xs.length = n) (h0 : ∀ x ∈ xs, 0 ≤ x) (hy : 0 ≤ y) : LiH (upd H a (.lst ((xs.map V.int).set j (.int y)))) a n :=
  ⟨xs.set j y, by rw [upd_same, ← List.map_set], by simp [hl], fun x hx => by
    rcases List.mem_or_eq_of_mem_set hx with hx | hx
    · exact h0 x hx
    · rw [hx]; exact hy⟩
/-- the ticks that stand ahead of the i-th number -/
def tp (m : Nat) : Nat → Nat
  | 0 => 0
  | 1 => 0
  | 2 => 1
  | 3 => 2
  | 4 => 3
  | 5 => m + 4
  | 6 => m + 5
  | _ => m + 6
theorem turn7 {m : Nat} (hm : m < 30) : ∀ {i : Nat} {x : V}, ([V.int 0, .int 1, .int 2, .int 3, .int ((m : Int) + 4), .int ((m : Int) + 5), .int ((m : Int) + 6)] : List V)[i]? = some x →
    ∃ t : Nat, x = .int t ∧ t ≤ 35 ∧ (t = 0 ∨ t = m + 4 ∨ t = tp m i + 1) ∧ tp m (i + 1) = t
  | 0, x, h => ⟨0, (Option.some.inj h).symm, by omega, .inl rfl, rfl⟩
  | 1, x, h => ⟨1, (Option.some.inj h).symm, by omega, .inr (.inr rfl), rfl⟩
  | 2, x, h => ⟨2, (Option.some.inj h).symm, by omega, .inr (.inr rfl), rfl⟩
  | 3, x, h => ⟨3, (Option.some.inj h).symm, by omega, .inr (.inr rfl), rfl⟩
  | 4, x, h => ⟨m + 4, (Option.some.inj h).symm, by omega, .inr (.inl rfl), rfl⟩
  | 5, x, h => ⟨m + 5, (Option.some.inj h).symm, by omega, .inr (.inr rfl), rfl⟩
  | 6, x, h => ⟨m + 6, (Option.some.inj h).symm, by omega, .inr (.inr rfl), rfl⟩
  | _ + 7, x, h => by simp at h
end L2

end
section
set_option Elab.async false
set_option linter.all false
set_option maxRecDepth 100000
set_option maxHeartbeats 1000000
/-! ## exceptions of the text's own classes: raised in a def, caught by a caller -/
namespace L2
open PySem PySem.Spec PyProof.Rows
/-- the exception at x flies in s'. hm: the heap just ahead of its making; B: what of it (and of the heap ahead of the call, s) is sure to stay -/
structure Fly (P : Program) (w : World) (outer : List Env) (H H' : Hp) (s : Shared) (cls : Value) (x : Addr) (hm B : Heap) (a0 : Value) (s' : Shared) : Prop where
  os : s'.os = s.os
  bare : AllBare s'.gens
  un : Un (frs outer) [] H H' s.heap hm
  ok : HOk P w H' hm
  sl : hm.UpToSlots s'.heap
  fl : Heap.FlyingW B outer x cls a0 s'.heap
  kb : ∀ b o, hm.get? b = some o → b ∉ frs outer → ((∃ o', s.heap.get? b = some o') ∨ H' b ≠ none) → B.get? b = some o
  nx : hm.get? x = none
  ff : ∀ b ∈ frs outer, H' b = none
def CXn (P : Program) (w : World) (cls : Value) : CXT := fun outer H s E e s' => ∃ x H' hm B a0, e = .ref x ∧ Fly P w outer H H' s cls x hm B a0 s' ∧ E cls none H'

theorem Fly.land {P : Program} {w : World} {outer : List Env} {H H' : Hp} {s : Shared} {cls : Value} {x : Addr} {hm B : Heap} {a0 : Value} {s' : Shared} {base h'' : Heap} (f : Fly P w outer H H' s cls x hm B a0 s')
    (hfr : s.heap.FunFrames base outer) (hf0 : ∀ b ∈ frs outer, H b = none) (st : B.StaysIn h'') (sl : hm.UpToSlots h'') : Un (frs outer) [] H H' s.heap h'' ∧ HOk P w H' h'' := by
  have slot : ∀ b o, s.heap.get? b = some o → H b = none → b ∈ frs outer → ∃ sl, h''.get? b = some { o with slots := sl } := fun b o q n hb => by
    obtain ⟨sl1, e1⟩ := f.un.slot b o q n hb (by simp)
    obtain ⟨_, o2, e2, d2⟩ := hfr.mem hb
    rw [q] at e2
    cases e2
    obtain ⟨sl2, e3⟩ := sl b _ e1 d2
    exact ⟨sl2, e3⟩
  refine ⟨⟨fun b o q n hb _ => ?_, fun b o q n hb _ => slot b o q n hb, f.un.free, fun b o q _ => ?_, f.un.tups, f.un.frzs, f.un.tbls⟩, fun a o e => (f.ok a o e).stay (fun b u hb q => ?_) (fun _ q => q) fun _ _ q => q⟩
  · exact st b o (f.kb b o (f.un.keep b o q n hb (by simp)) hb (.inl ⟨o, q⟩))
  · by_cases hb : b ∈ frs outer
    · obtain ⟨sl2, e⟩ := slot b o q (hf0 b hb) hb
      exact ⟨_, e⟩
    · obtain ⟨o', e⟩ := f.un.there b o q (by simp)
      exact ⟨o', st b o' (f.kb b o' e hb (.inl ⟨o, q⟩))⟩
  · have hne : H' b ≠ none := by
      rcases hb with rfl | hb
      · rw [e]; exact fun z => nomatch z
      · rw [hb]; exact fun z => nomatch z
    exact st b u (f.kb b u q (fun z => hne (f.ff b z)) (.inr hne))

/-! ### raise C(e) -/
section
variable {CX : CXT} {P : Program} {w : World} {K : PySem.W.Frag} {mg : Str → Option Value} {base : Heap} {N : List Str} {qual : Str} {scope : Scope} {f : Addr} {cd : Value} {A : Around} {outer : List Env} {s : Shared} {H : Hp} {E : XK} {cls : Value}
/-- an exception just made leaves the def -/
theorem xe_made {pins : List (Addr × Obj)} {σ : St} {H1 : Hp} {s1 : Shared} {h' : Heap} {x : Addr} {vs : List Value}
    (I : Inv (cxOf (CXn P w cls) P w K mg base N qual scope f cd A outer s H E) pins σ H1 s1) (hx : Heap.MadeExcOf s1.heap h' x cls vs) (hE : E cls none H1) :
    (cxOf (CXn P w cls) P w K mg base N qual scope f cd A outer s H E).xe (.ref x) { s1 with heap := h' } := by
  have hin : ∀ env ∈ (envOfC qual scope s.heap.objs.size f cd :: outer), ∀ a, env.frame = some a → a ∈ frs (envOfC qual scope s.heap.objs.size f cd :: outer) := fun env he a ha => List.mem_filterMap.mpr ⟨env, he, ha⟩
  show wpAny (model P w) (A.deeper (envOfC qual scope s.heap.objs.size f cd)) (leaving (envOfC qual scope s.heap.objs.size f cd) (.ref x)) (fun _ s'' => CXn P w cls outer H s E (.ref x) s'') (fun e' s'' => CXn P w cls outer H s E e' s'') { s1 with heap := h' }
  refine wpAny_leaves_madeW (base := PySem.W.hideAll s1.heap (frs (envOfC qual scope s.heap.objs.size f cd :: outer))) (h := s1.heap) I.ok.frames rfl (fun b o q => PySem.W.of_hideAll _ q) (PySem.W.funFrames_hide I.stack hin) hx fun h'' t x1 x2 x3 x4 => ?_
  refine ⟨x, H1, s1.heap, _, _, rfl, ⟨I.os, I.bare, I.base, I.hok, (Heap.UpToSlots.of_keeps hx.keeps).trans x4, x1, fun b o e hb hor => ?_, hx.new, fun b hb => I.stkFree b ?_⟩, hE⟩
  · refine PySem.W.hideAll_get _ e fun hm => ?_
    obtain ⟨env, he, ha⟩ := List.mem_filterMap.mp hm
    rcases List.mem_cons.mp he with rfl | he
    · have hL : b = s.heap.objs.size := (Option.some.inj ha).symm
      rcases hor with ⟨o', e'⟩ | hne
      · exact Nat.ne_of_lt (Heap.lt_size e') hL
      · apply hne
        rw [hL]
        exact I.free
    · exact hb (List.mem_filterMap.mpr ⟨env, he, ha⟩)
  · obtain ⟨env, he, ha⟩ := List.mem_filterMap.mp hb
    exact List.mem_filterMap.mpr ⟨env, List.mem_cons_of_mem _ he, ha⟩
end

theorem exc_obj {K : PySem.W.Frag} {h : Heap} {C : Addr} {bmB : List Value} {newId : String} (X : K.In h) (q : PySem.W.excIn K C bmB newId = true) :
    ∃ bm N nm qn bs hdct sn sub ab col dd k0 k1 k2 k3 k5 mN, h.get? C = some (excClassObj nm qn C N bs bm hdct sn sub ab col dd k0 k1 k2 k3 k5 newId) ∧ h.Ns N mN ∧ mN "__init__" = none ∧ OwnTail h bmB bm := by
  unfold PySem.W.excIn at q
  split at q
  · rename_i dd cd sl ho
    split at q
    · rename_i C' bm k0 k1 k2 k3 n k5 hm hs
      simp only [Bool.and_eq_true, beq_iff_eq, Bool.not_eq_true'] at q
      obtain ⟨⟨⟨⟨⟨rfl, rfl⟩, hdel⟩, ht⟩, hok⟩, hni⟩ := q
      obtain ⟨nm, bs, mro, ns, qn, hd, sn, sub, ab, col, del⟩ := cd
      dsimp only at hm hdel hok hni
      subst hm hdel
      have hsl : sl = #[k0, k1, k2, k3, some (.builtin n), k5] := by
        obtain ⟨l⟩ := sl
        simp only at hs
        rw [hs]
      subst hsl
      exact ⟨bm, ns, nm, qn, bs, hd, sn, sub, ab, col, dd, k0, k1, k2, k3, k5, _, X _ _ ho, .of_isNs (PySem.W.isNs_of_in X hok), PySem.W.nsMap_none_of_in X hok hni, PySem.W.tail_of_in X ht⟩
    · cases q
  · cases q

section
variable {X : Cx}
def tRaise (te : TE) (Wish : Hp → Prop) : TS := fun _ σ H => tCons te tNil σ H fun ws H1 => ws.length ≤ 1 ∧ Wish H1
theorem ps_raise {x : Str} {C : Addr} {bmB : List Value} {newId initId Bn : String} {e : Expr} {te : TE} {Wish : Hp → Prop} {np cpos pos : Pos} (hc : X.calm = true) (hg : Gl X x) (hm : X.mg x = some (.ref C)) (q : PySem.W.excIn X.K C bmB newId = true)
    (FB : ExcBaseFacts Bn newId initId bmB) (he : PE X e te)
    (hx : ∀ pins σ H1 s1 h' a vs, Inv X pins σ H1 s1 → Heap.MadeExcOf s1.heap h' a (.ref C) vs → Wish H1 → X.xe (.ref a) { s1 with heap := h' })
    (hs : starEach [e] X.env = [(false, eval e X.env)] := by rfl) (hd : (x == ("__debug__" : Str)) = false := by decide) :
    PS X (.Raise (some (.Call (.Name x np) [e] [] cpos)) none pos) (tRaise te Wish) := by
  intro pins s σ H D I h
  obtain ⟨bm, Nn, nm, qn, bs, hdct, sn, sub, ab, col, dd, k0, k1, k2, k3, k5, mN, hC, hN, hni, T⟩ := exc_obj I.mod.kin q
  refine wpAny_Raise_call_subT (C := C) (nm := nm) (q := qn) (N := Nn) (bs := bs) (bm := bm) (hdct := hdct) (sn := sn) (sub := sub) (ab := ab) (col := col) (dd := dd) (k0 := k0) (k1 := k1) (k2 := k2) (k3 := k3) (k5 := k5)
    FB (mN := mN) (T.hasType FB.hasBase) (I.ok.hd hc) (by rw [hs]; rfl) hni (ld_glob I hg hm ⟨rfl, ?_⟩ hd)
  have ha : PA X [e] (tCons te tNil) := pa_cons he pa_nil hs
  have key := ha cpos pins s σ H _ I h
  rw [hs] at key ⊢
  refine Calls.evalArgs_plain (wpAny_mono key (fun vs s₂ h₂ => ?_) fun _ _ y => y)
  obtain ⟨ws, H2, I2, r2, hl, q2⟩ := h₂
  have kk : ∀ b o, X.base.get? b = some o → s₂.heap.get? b = some o := I2.bk
  refine ⟨rfl, ?_, kk _ _ hC, hN.keeps kk, T.keeps kk, fun h' a hmade => hx pins σ H2 s₂ h' a vs I2 hmade q2⟩
  have h1 := r2.length
  have h2 : (1 : Nat) ≤ sizeLine := by decide
  show vs.length ≤ sizeLine
  omega

/-! ### try: y = f(..) except G as n: suite -/
/-- the context of a suite behind except -/
def excCx (X : Cx) (x : Addr) : Cx := { X with A := X.A.mark (some (.ref x)), calm := false, xe := fun _ _ => False }
variable {pins : List (Addr × Obj)} {σ : St} {H : Hp} {s : Shared}
theorem Inv.exc (x : Addr) (I : Inv X pins σ H s) : Inv (excCx X x) pins σ H s :=
  ⟨⟨I.ok.mod, I.ok.kind, I.ok.glob, I.ok.blt, I.ok.above, I.ok.inj, I.ok.has, I.ok.cab, (fun h => by cases h), I.ok.frames, I.ok.stk, I.ok.exf, I.ok.bs, I.ok.bsz, I.ok.noex, I.ok.exfs, I.ok.funs, I.ok.frf⟩, I.os, I.bare, I.base, I.loc, I.cell, I.free, I.freeC, I.pin, I.hok, I.len⟩
theorem Inv.unexc {x : Addr} (ok : X.Ok) (I : Inv (excCx X x) pins σ H s) : Inv X pins σ H s := ⟨ok, I.os, I.bare, I.base, I.loc, I.cell, I.free, I.freeC, I.pin, I.hok, I.len⟩
/-- an exception of the class at C, tracked -/
def excO (C x : Addr) : HO := .ext fun h => ∃ o, h.get? x = some o ∧ o.cls = .ref C
theorem excO_ok {P : Program} {w : World} {H : Hp} {h : Heap} {C x : Addr} {o : Obj} (e : h.get? x = some o) (hc : o.cls = .ref C) : ObjOk P w H h x (excO C x) :=
  ⟨⟨o, e, hc⟩, ⟨o, e⟩, fun _ _ ⟨o1, e1, c1⟩ k => ⟨o1, k o1 e1, c1⟩⟩
theorem ObjOk.there {P : Program} {w : World} {H : Hp} {h : Heap} {a : Addr} {o : HO} (x : ObjOk P w H h a o) : ∃ u, h.get? a = some u := by
  cases o with
  | lst xs => obtain ⟨_, _, _, _, e⟩ := x; exact ⟨_, e⟩
  | tup xs => obtain ⟨_, _, _, ob, e, _⟩ := x; exact ⟨_, e⟩
  | dK kvs => obtain ⟨_, _, _, _, ob, _, _, e, _⟩ := x; exact ⟨_, e⟩
  | dT kvs => obtain ⟨_, _, _, _, ob, _, _, e, _⟩ := x; exact ⟨_, e⟩
  | set S n => obtain ⟨ob, _, _, _, e, _⟩ := x; exact ⟨_, e⟩
  | ins C dx fs => obtain ⟨_, _, _, e, _⟩ := x; exact ⟨_, e⟩
  | own y => exact x
  | xd fs => obtain ⟨_, ⟨_, _, _, e, _⟩, _⟩ := x; exact ⟨_, e⟩
  | rng lo hi => obtain ⟨_, _, _, e⟩ := x; exact ⟨_, e⟩
  | frz ob u => obtain ⟨e, _⟩ := x; exact ⟨_, e⟩
  | tbl ps => exact ⟨_, (show h.get? a = some _ from x)⟩
  | met f y => exact ⟨_, (show h.get? a = some _ from x)⟩
  | ext φ => obtain ⟨_, e, _⟩ := x; exact e
/-- a thing that none knew is tracked from here on -/
theorem Inv.adopt {x : Addr} {u : HO} (I : Inv X pins σ H s) (hn : H x = none) (h0 : X.s₀.heap.get? x = none) (hL : x ≠ X.env.locals) (hc : ∀ y c, X.env.cells.lookup y = some c → c ≠ x) (hp : ∀ p ∈ X.pn ++ pins, p.1 ≠ x)
    (new : ObjOk X.prog X.w (upd H x u) s.heap x u) : Inv X pins σ (upd H x u) s := by
  refine ⟨I.ok, I.os, I.bare, ⟨I.base.keep, I.base.slot, fun b o e n hx => ?_, I.base.there, fun b xs e => ?_, fun b o v e => ?_, fun b ps e => ?_⟩, I.loc, I.cell, ?_, fun y c e => ?_, fun p hpp => ?_, fun b o e => ?_, I.len⟩
  · rw [upd_ne (fun z => by rw [z, h0] at e; cases e)]
    exact I.base.free b o e n hx
  · have := I.base.tups b xs e
    rw [upd_ne (ne_of_none this hn)]
    exact this
  · have := I.base.frzs b o v e
    rw [upd_ne (ne_of_none this hn)]
    exact this
  · obtain ⟨more, this⟩ := I.base.tbls b ps e
    exact ⟨more, by rw [upd_ne (ne_of_none this hn)]; exact this⟩
  · rw [upd_ne (Ne.symm hL)]
    exact I.free
  · rw [upd_ne (hc y c e)]
    exact I.freeC y c e
  · obtain ⟨e, n, r⟩ := I.pin p hpp
    exact ⟨e, by rw [upd_ne (hp p hpp)]; exact n, r⟩
  · by_cases hb : b = x
    · subst hb
      rw [upd_same] at e
      cases e
      exact new
    · rw [upd_ne hb] at e
      exact (I.hok b o e).stay (fun _ _ _ q => q) (fun c q => by rw [upd_ne (ne_of_none q hn)]; exact q) fun c xs q => by rw [upd_ne (ne_of_none q hn)]; exact q
/-- behind the suite its name is gone -/
theorem Inv.gone {M : Model} {A : Around} {E : Value → Shared → Prop} {j : Nat} {n : Str} {pos : Pos} {Q : Unit → Shared → Prop} (I : Inv X pins σ H s) (hN : X.N.Nodup) (hj : X.N[j]? = some n) (hn : X.env.scope.names.lookup n = some .local)
    (h : ∀ s', Inv X pins (σ.set j none) H s' → Q () s') : wpAny M A (do bindName X.env n .none; unbindBehindTheSuite X.env n pos) Q E s := by
  obtain ⟨m, hns, hl⟩ := id I.loc
  have hcls : (X.env.scope.kind == .class || (X.env.scope.kind == .module && X.env.locals != X.env.globals)) = false := by rw [I.ok.kind]; rfl
  refine wpAny_nameGoes_keeps hn hns hcls fun h' v hns' sb => h _ ?_
  have fr := I.free
  obtain ⟨oL, _, _, hoL, _⟩ := id hns
  have ne0 : ∀ b o, X.s₀.heap.get? b = some o → b ≠ X.env.locals := fun b o e => Nat.ne_of_lt (Nat.lt_of_lt_of_le (Heap.lt_size e) I.ok.above)
  refine ⟨I.ok, I.os, I.bare, ⟨fun b o e n hb hx => (sb.2 b (ne0 b o e)).trans (I.base.keep b o e n hb hx), fun b o e n hb hx => ?_, I.base.free, fun b o e hx => ?_, I.base.tups, I.base.frzs, I.base.tbls⟩, ⟨_, hns', fun i y v' e1 e2 e3 => ?_⟩, fun y c e => ?_, I.free, I.freeC, fun p hp => ?_, fun b o e => ?_, by simpa using I.len⟩
  · obtain ⟨sl, q⟩ := I.base.slot b o e n hb hx
    exact ⟨sl, (sb.2 b (ne0 b o e)).trans q⟩
  · obtain ⟨o', q⟩ := I.base.there b o e hx
    exact ⟨o', (sb.2 b (ne0 b o e)).trans q⟩
  · by_cases hij : i = j
    · subst hij
      by_cases hlt : i < σ.length
      · rw [List.getElem?_set_self hlt] at e2
        cases e2
      · rw [List.getElem?_eq_none (by simpa using hlt)] at e2
        cases e2
    · rw [List.getElem?_set_ne (Ne.symm hij)] at e2
      obtain ⟨u, r, q⟩ := hl i y v' e1 e2 e3
      refine ⟨u, r, ?_⟩
      rcases q with ⟨k, e⟩ | ⟨k, c, e, z⟩
      · refine .inl ⟨k, ?_⟩
        have hyn : y ≠ n := fun e => hij (nodup_ix hN e1 (e ▸ hj))
        simp [hyn, e]
      · exact .inr ⟨k, c, e, z.sameBut sb (I.cne y c e)⟩
  · obtain ⟨v', z⟩ := I.cell y c e
    exact ⟨v', z.sameBut sb (I.cne y c e)⟩
  · obtain ⟨e, n, ne, nf, d⟩ := I.pin p hp
    exact ⟨(sb.2 p.1 ne).trans e, n, ne, nf, d⟩
  · refine (I.hok b o e).stay (fun c u hc q => (sb.2 c ?_).trans q) (fun _ q => q) fun _ _ q => q
    rintro rfl
    rcases hc with rfl | hc
    · rw [fr] at e; cases e
    · rw [fr] at hc; cases hc

def tTryC (i j : Nat) (C : Addr) (sp : Sp) (ta : TA) (ts : TS) : TS := fun D σ H => ta σ H fun vs H1 => sp vs H1 (fun v H2 => D.nx (σ.set i (some v)) H2)
  (fun _ _ H2 => ∀ x, H2 x = none → ts { nx := fun σ' H3 => D.nx (σ'.set j none) H3, rt := D.rt, bk := fun σ' H3 => D.bk (σ'.set j none) H3, ct := fun σ' H3 => D.ct (σ'.set j none) H3 } (σ.set j (some (.ref x))) (upd H2 x (excO C x)))

theorem ps_tryCall {i j k : Nat} {y fn g n : Str} {f C G : Addr} {fd : FuncData} {ps : List Str} {sp : Sp} {e : Expr} {es : List Expr} {b₀ : Stmt} {suite : List Stmt} {ta : TA} {ts : TS} {py fp cpos apos gp hpos pos : Pos}
    (hc : X.calm = true) (hxe : X.ex = []) (hst : X.stack = X.env :: X.outer) (hfm : X.env.frame = some X.env.locals) (hN : X.N.Nodup) (hi : X.N[i]? = some y) (hy : Loc X.env.scope y) (hj : X.N[j]? = some n) (hn : X.env.scope.names.lookup n = some .local)
    (F : FnOk X.prog X.w X.K X.mg X.base (CXn X.prog X.w (.ref C)) k f fd ps sp) (hr : Room k X.A) (hgf : Gl X fn) (hmf : X.mg fn = some (.ref f)) (hk : PySem.W.keepIn X.K (.ref f) = true) (hb : Binds X.K fd ps []) (ha : PA X.nox (e :: es) ta)
    (hgg : Gl X g) (hmg : X.mg g = some (.ref G)) (hex : PySem.W.exmOne X.K (.ref C) (.ref G) = some true) (hsu : ∀ x, PSs (excCx X x) (b₀ :: suite) ts)
    (hd1 : (fn == ("__debug__" : Str)) = false := by decide) (hd2 : (g == ("__debug__" : Str)) = false := by decide) (he : starEach (e :: es) X.env = (false, eval e X.env) :: starEach es X.env := by rfl) (hpl : (backTo cpos (starEach es X.env)).any (·.1) = false := by rfl)
    (hsw : swapsWith (.Call (.Name fn fp) (e :: es) [] cpos) (some (.Name y py)) apos.line X.env = pure false := by rfl)
    (hfy : X.fn y = true ∨ X.env.scope.names.lookup y = some .local := by first | exact .inl rfl | exact .inr rfl | assumption) :
    PS X (.Try [.Assign [.Name y py] (.Call (.Name fn fp) (e :: es) [] cpos) apos] [.ExceptHandler (some (.Name g gp)) (some n) (b₀ :: suite) hpos] [] [] pos) (tTryC i j C sp ta ts) := by
  intro pins s σ H D I h
  refine wpAny_Try_except (wpAny_execs_cons (wpAny_Assign_Name (wpAny_Call_Name_kw (ld_glob I hgf hmf ?_ hd1)) hsw))
  refine PySem.W.callWith_K (h₀ := X.base) I.ok.mod.kin hk (wpAny_mono (ha cpos pins s σ H _ (I.wish _) h) (fun us s1 ⟨vs, H1, I1w, r, q⟩ => ⟨I1w.unwish.kIn, ?_⟩) fun _ _ z => z.elim) he hpl
  have I1 : Inv X pins σ H1 s1 := I1w.unwish
  have hl : us.length = ps.length := by rw [← r.length]; exact F.len _ _ _ _ q
  have hbb : BindsTo s1 fd ⟨us, []⟩ (ps.zip us) := by
    have := hb s1 us I1.kIn (by rw [List.append_nil]; exact hl)
    rwa [List.append_nil] at this
  refine wpAny_call (codeAny_mono (F.run X.A X.stack s1 H1 ⟨us, []⟩ us vs _ _ hr I1.env0 hbb r q) fun r' s' hq => ?_)
  cases r' with
  | ok fl =>
    cases fl with
    | ret u =>
      obtain ⟨v, H2, I2, rv, q2⟩ := I1.after hq
      exact store_ok I2 hN hi hy rv (fun s2 I3 => wpAny_execs_nil (wpAny_execs_nil ⟨_, H2, I3, q2⟩)) hfy
    | next => exact False.elim hq
    | brk => exact False.elim hq
    | cont => exact False.elim hq
  | error ev =>
    obtain ⟨x, H', hm, B, a0, rfl, fl, hE⟩ := hq
    have f0 := fl.fl
    rw [hst] at f0
    have hfr : X.A.frames = some (X.env :: X.outer) := by rw [I.ok.frames, hst]
    refine wpAny_looks_onW hfr hfm f0 fun h4 held4 sm4 => ?_
    refine wpAny_landsW held4 fun h5 fl5 sm5 => ?_
    have inv : ∀ h6 : Heap, B.StaysIn h6 → hm.UpToSlots h6 → Inv X pins σ H' { s' with heap := h6 } := fun h6 st sl => by
      obtain ⟨un, ok⟩ := fl.land I1.stack I1.stkFree st sl
      exact I1.call' (s' := { s' with heap := h6 }) (ch := []) fl.os un ok fl.bare (fun b hb => by cases hb)
    have I5 := inv h5 fl5.1 (fl.sl.trans (sm4.trans sm5))
    obtain ⟨ob, hob, hobc⟩ := fl5.there
    refine wpAny_handleBy_cons (codeAny_handlers_test (ld_glob (I5.exc x) hgg hmg ?_ hd2)) (by intro q; cases q)
    have LT : PySem.W.Looks (model X.prog X.w) h5 (typeOf (.ref x)) (.ref C) := by
      rw [← hobc]
      exact (PySem.W.Looks.ld hob).andThen .now
    refine PySem.W.exm_one (K := X.K) I5.kIn LT hex _ _ _ _ (fun _ _ q => q) ?_
    refine codeAny_handlers_suite_as (lands_againW fl5 fun h6 fl6 sm6 => ?_)
    have I6 := inv h6 fl6.1 (fl.sl.trans (sm4.trans (sm5.trans sm6)))
    obtain ⟨ob6, hob6, hobc6⟩ := fl6.there
    have hx0 : H' x = none := by
      cases e : H' x with
      | none => rfl
      | some u =>
        obtain ⟨o, q⟩ := (fl.ok x u e).there
        rw [fl.nx] at q
        cases q
    have old : ∀ b o, s1.heap.get? b = some o → b ≠ x := fun b o e z => by
      subst z
      obtain ⟨o', q⟩ := fl.un.there b o e (by simp)
      rw [fl.nx] at q
      cases q
    have h00 : X.s₀.heap.get? x = none := by
      cases e : X.s₀.heap.get? x with
      | none => rfl
      | some o =>
        obtain ⟨o', q⟩ := I1.base.there x o e (by rw [hxe]; simp)
        exact absurd rfl (old x o' q)
    obtain ⟨mL, ⟨oL, _, _, hoL, _⟩, _⟩ := id I1.loc
    have I7 : Inv X pins σ (upd H' x (excO C x)) { s' with heap := h6 } := I6.adopt hx0 h00 (old _ _ hoL).symm (fun y' c e => by
        obtain ⟨_, o, ho, _⟩ := I1.cell y' c e
        exact old c o ho) (fun p hp => old _ _ (I1.pin p hp).1) (excO_ok hob6 hobc6)
    refine store_ok (v := .ref x) I7 hN hj (.inl hn) rfl (fun s7 I8 => ?_) (.inr hn)
    refine wpAny_mono (hsu x pins s7 _ _ _ (I8.exc x) (hE x hx0)) (fun f' s8 q8 => ?_) (fun _ _ z => z.elim)
    cases f' with
    | next =>
      obtain ⟨σ9, H9, I9, q9⟩ := q8
      exact (I9.unexc I8.ok).gone hN hj hn fun s10 I10 => ⟨_, H9, I10, q9⟩
    | brk =>
      obtain ⟨σ9, H9, I9, q9⟩ := q8
      exact (I9.unexc I8.ok).gone hN hj hn fun s10 I10 => ⟨_, H9, I10, q9⟩
    | cont =>
      obtain ⟨σ9, H9, I9, q9⟩ := q8
      exact (I9.unexc I8.ok).gone hN hj hn fun s10 I10 => ⟨_, H9, I10, q9⟩
    | ret u =>
      obtain ⟨v, σ9, H9, I9, rv, q9⟩ := q8
      exact (I9.unexc I8.ok).gone hN hj hn fun s10 I10 => ⟨v, _, H9, I10, rv, q9⟩

/-! ### isinstance of an exception, where it is one -/
theorem exc_ans {K : PySem.W.Frag} {x : Value} {t c : Value} {Hh : Heap → Prop} (ty : ∀ (M : Model) (h : Heap), K.In h → Hh h → PySem.W.Looks M h (typeOf x) t) (hne : (t == c) = false) (e : PySem.W.kitCls K t c = some true) :
    Answers (fun s => K.In s.heap ∧ Hh s.heap) x c true := by
  intro dep tk prog w A R s hs
  obtain ⟨h0, g, d, tt, os⟩ := s
  obtain ⟨⟨X, p⟩, hq⟩ := hs
  have LT := ty (model prog w) h0 X p
  unfold Builtin.«isinstance.nested»
  refine wpAny_bind (LT.at ?_)
  rw [if_neg (by rw [hne]; exact Bool.false_ne_true)]
  obtain ⟨hty, his, hsub⟩ := PySem.W.kit_cls (M := model prog w) X e
  have LI : PySem.W.Looks (model prog w) h0 (isInstance x c) true := LT.andThen hsub
  refine wpAny_bind (hty.at ?_)
  rw [if_pos (by decide)]
  k_delta "plainIsInstance"
  refine wpAny_bind (wpAny_bind (his.at ?_))
  simp only [Bool.not_true, Bool.false_eq_true, if_false]
  refine wpAny_bind (LI.at ?_)
  first
    | exact wpAny_pure (wpAny_pure (hq tt))
    | (simp only [if_true]; first | exact wpAny_pure (wpAny_pure (hq tt)) | exact wpAny_pure (hq tt) | exact wpAny_bind (wpAny_pure (wpAny_pure (hq tt))))
theorem call_isiE : CallR X (.builtin "isinstance") (fun xs H Q => ∃ x C T, xs = [.ref x, .ty T] ∧ H x = some (excO C x) ∧ PySem.W.subIn X.K (.ref C) (.type T) = some true ∧ PySem.W.kitMeta T = true ∧ Q (.bl true) H) := by
  intro pins s σ H xs us Q I r h
  obtain ⟨x, C, T, rfl, hx, hs, hmt, q⟩ := h
  obtain ⟨u, v, rfl, ru, rv⟩ := vals2 r
  cases (show v = Value.type T from rv)
  cases (show u = Value.ref x from ru)
  obtain ⟨⟨o, e1, e2⟩, _⟩ := (show ObjOk X.prog X.w H s.heap x (excO C x) from I.hok x _ hx)
  have e : PySem.W.kitCls X.K (.ref C) (.type T) = some true := by
    show (if PySem.W.kitMeta T = true then PySem.W.subIn X.K (.ref C) (.type T) else none) = some true
    rw [if_pos hmt]
    exact hs
  refine call_isinstance (S := fun _ R s => (X.K.In s.heap ∧ (∃ o, s.heap.get? x = some o ∧ o.cls = .ref C)) ∧ ∀ tk, R (.ok (.ret (.bool true))) { s with toks := tk })
    (fun prog w A R s hs => isinstance_outer (exc_ans (Hh := fun h => ∃ o, h.get? x = some o ∧ o.cls = .ref C) (fun M h _ ⟨o, q1, q2⟩ => by rw [← q2]; exact (PySem.W.Looks.ld q1).andThen .now) (by rfl) e 0 _ prog w A R s hs) (fun z => nomatch z)) ⟨⟨I.kIn, o, e1, e2⟩, fun tk => ⟨.bl true, H, I.tok tk, rfl, q⟩⟩
end
end L2

end
section
set_option Elab.async false
set_option linter.all false
set_option maxRecDepth 100000
set_option maxHeartbeats 1000000
namespace L2
open PySem PySem.Spec PyProof.Rows
section
variable {X : Cx}
/-- t + u of tuples: a tuple with the items of both -/
def rCatG : R2 := fun x y H Q => ∃ a b xs ys, x = .ref a ∧ y = .ref b ∧ H a = some (.tup xs) ∧ H b = some (.tup ys) ∧ xs.length + ys.length ≤ sizeLine ∧ ∀ q H', Same H H' → H' q = some (.tup (xs ++ ys)) → Q (.ref q) H'
theorem op_catG : OpR X (binaryOp .Add) rCatG := by
  intro pins s σ H x y v u Q I rx ry h
  obtain ⟨a, b, xs, ys, rfl, rfl, ha, hb, hz, k⟩ := h
  by_cases hx : xs = []
  · subst hx
    cases rx
    cases ry
    obtain ⟨its, r1, p1, _⟩ := I.tuple (SqT.of (K := X.K) ha)
    obtain ⟨its2, r2, p2, _⟩ := I.tuple (SqT.of (K := X.K) hb)
    obtain ⟨⟨cls, dd, data, sl⟩, ho, hc, n, hd⟩ := id p1
    obtain ⟨⟨cls2, dd2, data2, sl2⟩, ho2, hc2, n2, hd2⟩ := id p2
    simp only at hc hd hc2 hd2
    subst hc hd hc2 hd2
    have e : its = [] := r1.nil_iff.mpr rfl
    exact concat_meets ⟨_, ho, rfl⟩ ⟨_, ho2, rfl⟩ noFill_tuple_add seq_tuple_add PySem.F.slot_tuple_add PySem.F.entry_tuple_add (PySem.F.args_tuple_add_2 _ _)
      (tuple_addW0 a b its.toArray its2.toArray n n2 dd dd2 sl sl2 (by simp [e])) ⟨ho, ho2, ⟨.ref b, H, I, rfl, k b H (Same.refl _) hb⟩⟩
  · refine op_catT pins s σ H _ _ v u Q I rx ry ⟨a, b, xs, ys, rfl, rfl, SqT.of ha, SqT.of hb, hx, hz, fun e => ?_, fun _ p hp => k p _ (Same.new hp) upd_same⟩
    subst e
    exact k a H (Same.refl _) (by rw [List.append_nil]; exact ha)
end
theorem cut_lo {xs : List V} {w : Int} (h0 : 0 ≤ w) (h1 : w < xs.length) : cutV xs none (some w) = xs.take w.toNat ∧ ¬ (HT.sIx xs.length 0 none = 0 ∧ HT.sIx xs.length xs.length (some w) = xs.length) := by
  have e : HT.sIx xs.length xs.length (some w) = w.toNat := by
    show (if w < 0 then (w + (xs.length : Int)).toNat else min w.toNat xs.length) = w.toNat
    rw [if_neg (by omega)]
    omega
  unfold cutV
  rw [HT.sIx_none, e]
  refine ⟨by simp, fun z => ?_⟩
  omega
theorem cut_hi {xs : List V} {w : Int} (h0 : 0 ≤ w) (h1 : w < xs.length) : cutV xs (some (w + 1)) none = xs.drop (w.toNat + 1) ∧ ¬ (HT.sIx xs.length 0 (some (w + 1)) = 0 ∧ HT.sIx xs.length xs.length none = xs.length) := by
  have e : HT.sIx xs.length 0 (some (w + 1)) = w.toNat + 1 := by
    show (if w + 1 < 0 then (w + 1 + (xs.length : Int)).toNat else min (w + 1).toNat xs.length) = w.toNat + 1
    rw [if_neg (by omega)]
    omega
  unfold cutV
  rw [HT.sIx_none, e]
  refine ⟨List.take_of_length_le (by simp), fun z => ?_⟩
  omega
theorem take_set {c : List Int} {w : Nat} {x : Int} (h : w < c.length) : ((c.map V.int).take w ++ [.int x]) ++ (c.map V.int).drop (w + 1) = (c.set w x).map V.int := by
  rw [List.set_eq_take_append_cons_drop, if_pos h, List.map_append, List.map_cons, List.map_take, List.map_drop]
  simp
/-- what a call takes of the cup -/
def fc (c : List Int) (w : Nat) (cost : Int) : Int := mn (c.getD w 0) cost
def spCall (C : Addr) : Sp := fun vs H Q E => ∃ (p l : Addr) (P : Pl) (c : List Int) (b who cost : Int), vs = [.ref p, .ref l, .int who, .int cost] ∧ PlH H p P ∧ LvH H l c b ∧ c.length = P.hs.length ∧ P.hs.length ≤ 1000 ∧
  ((who < 0 ∨ (P.hs.length : Int) ≤ who) → E (.ref C) none H) ∧
  (0 ≤ who → who < P.hs.length → c.getD who.toNat 0 + b < cost → ∀ q H', Same H H' → H' q = some (.tup [.bl false, .ref l]) → Q (.ref q) H') ∧
  (0 ≤ who → who < P.hs.length → cost ≤ c.getD who.toNat 0 + b → ∀ q r H', Same H H' → H' q = some (.tup [.bl true, .ref r]) → LvH H' r (c.set who.toNat (c.getD who.toNat 0 - fc c who.toNat cost)) (b - (cost - fc c who.toNat cost)) → Q (.ref q) H')
theorem ixN_at {n : Nat} {w : Int} (h0 : 0 ≤ w) (h1 : w < n) : ixN n w = some w.toNat := by
  unfold ixN
  rw [if_pos h0, if_pos h1]
end L2
namespace L2
open PySem PySem.Spec PyProof.Rows
theorem one_line : 1 ≤ sizeLine := by decide
/-- a def that may raise, by its body -/
theorem fn_okX {CX : CXT} {P : Program} {w : World} {K : PySem.W.Frag} {mg : Str → Option Value} {base : Heap} {x qual : Str} {st : Stmt} {f : Addr} {fd : FuncData} {N ps : List Str} {k : Nat} {sp : Sp} (F : Fun K x qual st f fd) (S : FnScope N ps (defScope st)) (len : ∀ vs H Q E, sp vs H Q E → vs.length = ps.length)
    (hbody : ∀ (cdv : Value) (A : Around) (outer : List Env) (s : Shared) (H : Hp) (vs : List V) (Q : VK) (E : XK), Room k (A.deeper (envOfC qual (defScope st) s.heap.objs.size f cdv)) → sp vs H Q E →
      ∃ t, PSs (cxOf CX P w K mg base N qual (defScope st) f cdv A outer s H E) (defBody st) t ∧ t { nx := fun _ H' => Q .non H', rt := Q } (start N vs) H) : FnOk P w K mg base CX (k + 1) f fd ps sp := by
  obtain ⟨oc, od, kV, doc, pm, an, cdv, ct, osl, rfl, l, c⟩ := F.ex
  exact fn_of l c S len fun A outer s H vs Q E hr h => hbody cdv A outer s H vs Q E hr h
end L2

end
section
set_option Elab.async false
set_option linter.all false
namespace L2
open PySem
section
variable {X : Cx}
theorem isB {x : V} {b : Bool} {u : Value} (rx : RelV x u) : decide (x = .bl b) = (u == Value.bool b) := by
  cases x with
  | bl c => cases rx; cases b <;> cases c <;> rfl
  | non => cases rx; rfl
  | ref a => cases rx; rfl
  | ty n => cases rx; rfl
  | int i => obtain ⟨t, rfl⟩ := rx; rfl
  | str i => obtain ⟨t, rfl⟩ := rx; rfl
  | byt i => obtain ⟨t, rfl⟩ := rx; rfl
  | flt i => obtain ⟨t, rfl⟩ := rx; rfl
theorem plB {x : V} {b : Bool} {u : Value} (rx : RelV x u) : plainIs u (Value.bool b) = true := by
  cases x with
  | bl c => cases rx; rfl
  | non => cases rx; rfl
  | ref a => cases rx; rfl
  | ty n => cases rx; rfl
  | int i => obtain ⟨t, rfl⟩ := rx; rfl
  | str i => obtain ⟨t, rfl⟩ := rx; rfl
  | byt i => obtain ⟨t, rfl⟩ := rx; rfl
  | flt i => obtain ⟨t, rfl⟩ := rx; rfl
theorem op_isB : OpR X (compareOp .Is) (fun x y H Q => ∃ b, y = .bl b ∧ Q (.bl (decide (x = .bl b))) H) := by
  intro pins s σ H x y v u Q I rx ry h
  obtain ⟨b, rfl, q⟩ := h
  cases ry
  exact wpAny_is_plain (plB rx) (fin_bl I q (isB rx))
theorem op_isnotB : OpR X (compareOp .IsNot) (fun x y H Q => ∃ b, y = .bl b ∧ Q (.bl (!decide (x = .bl b))) H) := by
  intro pins s σ H x y v u Q I rx ry h
  obtain ⟨b, rfl, q⟩ := h
  cases ry
  exact wpAny_isNot_plain (plB rx) (fin_bl I q (by rw [isB rx]))
/-- two lists of the same objects -/
theorem vals_refs : ∀ {rs : List Addr} {us : List Value}, Vals (rs.map V.ref) us → us = rs.map Value.ref
  | [], us, h => by cases h; rfl
  | a :: t, us, h => by
    cases h with
    | cons h1 h2 =>
      cases h1
      rw [vals_refs h2]
      rfl
theorem op_neRefs (hu : X.A.units < cLine) : OpR X (compareOp .NotEq) (fun x y H Q => ∃ (a b : Addr) (rs : List Addr), x = .ref a ∧ y = .ref b ∧ SqL X.K H a (rs.map V.ref) ∧ SqL X.K H b (rs.map V.ref) ∧ Q (.bl false) H) := by
  intro pins s σ H x y v u Q I rx ry h
  obtain ⟨a, b, rs, rfl, rfl, ha, hb, q⟩ := h
  cases rx
  cases ry
  obtain ⟨us, r1, p1, _⟩ := I.list ha
  obtain ⟨vs, r2, p2, _⟩ := I.list hb
  cases vals_refs r1
  cases vals_refs r2
  refine SeqAt.RcNeAt.lists (e := fun _ => true) p1.isList p2.isList rfl hu (fun j _ _ => SeqAt.EqAt.same _) X.prog X.w X.xe _ ?_
  exact ⟨.bl _, H, I, (by simp [RelV]), q⟩
/-- a tuple against itself -/
theorem op_neSelf (hu : X.A.units < cLine) : OpR X (compareOp .NotEq) (fun x y H Q => ∃ a xs, x = .ref a ∧ y = .ref a ∧ SqT X.K H a xs ∧ Q (.bl false) H) := by
  intro pins s σ H x y v u Q I rx ry h
  obtain ⟨a, xs, rfl, rfl, ha, q⟩ := h
  cases rx
  cases ry
  obtain ⟨us, r1, p1, _⟩ := I.tuple ha
  refine SeqAt.RcNeAt.tuples (e := fun _ => true) (show s.heap.IsTuple a us.toArray from p1) (show s.heap.IsTuple a us.toArray from p1) hu (fun j _ _ => SeqAt.EqAt.same _) X.prog X.w X.xe _ ?_
  exact ⟨.bl _, H, I, (by simp [RelV]), q⟩
end
end L2

end
section
set_option Elab.async false
set_option linter.all false
set_option maxRecDepth 100000
set_option maxHeartbeats 1000000
/-! ## try: any suite; except G: a suite, with no name -/
namespace L2
open PySem PySem.Spec PyProof.Rows
section
variable {X : Cx}
/-- the context of the suite behind try: what flies is of the class at C, and W holds of the names and things there -/
def tryCx (X : Cx) (pins : List (Addr × Obj)) (C : Addr) (W : St → Hp → Prop) : Cx :=
  { X with pn := X.pn ++ pins, xe := fun e s' => ∃ x σ' H1 s1 H' hm B a0, e = .ref x ∧ Inv X pins σ' H1 s1 ∧ Fly X.prog X.w X.stack H1 H' s1 (.ref C) x hm B a0 s' ∧ W σ' H' }
variable {pins q : List (Addr × Obj)} {σ : St} {H : Hp} {s : Shared} {C : Addr} {W : St → Hp → Prop}
theorem Inv.tried (I : Inv X pins σ H s) : Inv (tryCx X pins C W) [] σ H s :=
  ⟨⟨I.ok.mod, I.ok.kind, I.ok.glob, I.ok.blt, I.ok.above, I.ok.inj, I.ok.has, I.ok.cab, I.ok.hd, I.ok.frames, I.ok.stk, I.ok.exf, I.ok.bs, I.ok.bsz, I.ok.noex, I.ok.exfs, I.ok.funs, I.ok.frf⟩, I.os, I.bare, I.base, I.loc, I.cell, I.free, I.freeC,
   (fun p hp => I.pin p (by simpa [tryCx] using hp)), I.hok, I.len⟩
theorem Inv.untried (ok : X.Ok) (I : Inv (tryCx X pins C W) q σ H s) : Inv X pins σ H s :=
  ⟨ok, I.os, I.bare, I.base, I.loc, I.cell, I.free, I.freeC, (fun p hp => I.pin p (List.mem_append_left _ hp)), I.hok, I.len⟩
def tTry (C : Addr) (tb : List (Addr × Obj) → (St → Hp → Prop) → TS) (ts : Addr → TS) : TS := fun D σ H => ∀ pins, tb pins (fun σ' H' => ∀ x, ts x D σ' H') D σ H
theorem ps_try {g : Str} {C G : Addr} {b₀ : Stmt} {body suite : List Stmt} {tb : List (Addr × Obj) → (St → Hp → Prop) → TS} {ts : Addr → TS} {gp hpos pos : Pos}
    (hst : X.stack = X.env :: X.outer) (hfm : X.env.frame = some X.env.locals)
    (hgg : Gl X g) (hmg : X.mg g = some (.ref G)) (hex : PySem.W.exmOne X.K (.ref C) (.ref G) = some true)
    (hbd : ∀ pins W, PSs (tryCx X pins C W) body (tb pins W)) (hsu : ∀ x, PSs (excCx X x) (b₀ :: suite) (ts x))
    (hd2 : (g == ("__debug__" : Str)) = false := by decide) :
    PS X (.Try body [.ExceptHandler (some (.Name g gp)) none (b₀ :: suite) hpos] [] [] pos) (tTry C tb ts) := by
  intro pins s σ H D I h
  refine wpAny_Try_except (wpAny_mono (hbd pins _ [] s σ H D I.tried (h pins)) (fun f' s8 q8 => ?_) (fun ev s' q8 => ?_))
  · cases f' with
    | next =>
      obtain ⟨σ9, H9, I9, q9⟩ := q8
      exact wpAny_execs_nil ⟨_, H9, I9.untried I.ok, q9⟩
    | brk =>
      obtain ⟨σ9, H9, I9, q9⟩ := q8
      exact ⟨_, H9, I9.untried I.ok, q9⟩
    | cont =>
      obtain ⟨σ9, H9, I9, q9⟩ := q8
      exact ⟨_, H9, I9.untried I.ok, q9⟩
    | ret u =>
      obtain ⟨v, σ9, H9, I9, rv, q9⟩ := q8
      exact ⟨v, _, H9, I9.untried I.ok, rv, q9⟩
  · obtain ⟨x, σ', H1, s1, H', hm, B, a0, rfl, I1, fl, hE⟩ := q8
    have f0 := fl.fl
    rw [hst] at f0
    have hfr : X.A.frames = some (X.env :: X.outer) := by rw [I.ok.frames, hst]
    refine wpAny_looks_onW hfr hfm f0 fun h4 held4 sm4 => ?_
    refine wpAny_landsW held4 fun h5 fl5 sm5 => ?_
    have inv : ∀ h6 : Heap, B.StaysIn h6 → hm.UpToSlots h6 → Inv X pins σ' H' { s' with heap := h6 } := fun h6 st sl => by
      obtain ⟨un, ok⟩ := fl.land I1.stack I1.stkFree st sl
      exact I1.call' (s' := { s' with heap := h6 }) (ch := []) fl.os un ok fl.bare (fun b hb => by cases hb)
    have I5 := inv h5 fl5.1 (fl.sl.trans (sm4.trans sm5))
    obtain ⟨ob, hob, hobc⟩ := fl5.there
    refine wpAny_handleBy_cons (codeAny_handlers_test (ld_glob (I5.exc x) hgg hmg ?_ hd2)) (by intro q; cases q)
    have LT : PySem.W.Looks (model X.prog X.w) h5 (typeOf (.ref x)) (.ref C) := by
      rw [← hobc]
      exact (PySem.W.Looks.ld hob).andThen .now
    refine PySem.W.exm_one (K := X.K) I5.kIn LT hex _ _ _ _ (fun _ _ q => q) ?_
    refine codeAny_handlers_suite (lands_againW fl5 fun h6 fl6 sm6 => ?_)
    have I6 := inv h6 fl6.1 (fl.sl.trans (sm4.trans (sm5.trans sm6)))
    refine wpAny_mono (hsu x pins _ _ _ _ (I6.exc x) (hE x)) (fun f' s8 q8 => ?_) (fun _ _ z => z.elim)
    cases f' with
    | next =>
      obtain ⟨σ9, H9, I9, q9⟩ := q8
      exact ⟨_, H9, I9.unexc I6.ok, q9⟩
    | brk =>
      obtain ⟨σ9, H9, I9, q9⟩ := q8
      exact ⟨_, H9, I9.unexc I6.ok, q9⟩
    | cont =>
      obtain ⟨σ9, H9, I9, q9⟩ := q8
      exact ⟨_, H9, I9.unexc I6.ok, q9⟩
    | ret u =>
      obtain ⟨v, σ9, H9, I9, rv, q9⟩ := q8
      exact ⟨v, _, H9, I9.unexc I6.ok, rv, q9⟩
end
end L2

end
section
set_option Elab.async false
set_option linter.all false
set_option maxRecDepth 100000
set_option maxHeartbeats 1000000
/-! ## calls that may raise: inside a try, and passed on by a def -/
namespace L2
open PySem PySem.Spec PyProof.Rows
section
variable {P : Program} {w : World} {K : PySem.W.Frag} {mg : Str → Option Value} {base : Heap} {N : List Str} {qual : Str} {scope : Scope} {f : Addr} {cd : Value} {A : Around} {outer : List Env} {s : Shared} {H : Hp} {E : XK} {cls : Value}
/-- what a callee raises leaves the def too -/
theorem passN : Passes (CXn P w cls) (cxOf (CXn P w cls) P w K mg base N qual scope f cd A outer s H E) E := by
  intro pins σ H1 s1 e s' I hq
  obtain ⟨x, H', hm, B, a0, rfl, fl, hE⟩ := hq
  have I2 : Inv (cxOf (CXn P w cls) P w K mg base N qual scope f cd A outer s H E) pins σ H' { s' with heap := hm } := I.call' (s' := { s' with heap := hm }) (ch := []) fl.os fl.un fl.ok fl.bare (fun b hb => by cases hb)
  show wpAny (model P w) (A.deeper (envOfC qual scope s.heap.objs.size f cd)) (leaving (envOfC qual scope s.heap.objs.size f cd) (.ref x)) (fun _ s'' => CXn P w cls outer H s E (.ref x) s'') (fun e' s'' => CXn P w cls outer H s E e' s'') s'
  refine wpAny_leaves_onW I.ok.frames rfl fl.fl fun h'' x1 x2 => ?_
  refine ⟨x, H', hm, B, a0, rfl, ⟨I2.os, fl.bare, I2.base, fl.ok, fl.sl.trans x2, x1, fun b o e hb hor => ?_, fl.nx, fun b hb => fl.ff b ?_⟩, hE⟩
  · refine fl.kb b o e (fun hm' => ?_) ?_
    · obtain ⟨env, he, ha⟩ := List.mem_filterMap.mp hm'
      rcases List.mem_cons.mp he with rfl | he
      · have hL : b = s.heap.objs.size := (Option.some.inj ha).symm
        rcases hor with ⟨o', e'⟩ | hne
        · exact Nat.ne_of_lt (Heap.lt_size e') hL
        · apply hne
          rw [hL]
          exact I2.free
      · exact hb (List.mem_filterMap.mpr ⟨env, he, ha⟩)
    · rcases hor with ⟨o', e'⟩ | hne
      · exact .inl (I.base.there b o' e' (by intro z; cases z))
      · exact .inr hne
  · obtain ⟨env, he, ha⟩ := List.mem_filterMap.mp hb
    exact List.mem_filterMap.mpr ⟨env, List.mem_cons_of_mem _ he, ha⟩
end
section
variable {X : Cx} {pins : List (Addr × Obj)} {C : Addr} {W : St → Hp → Prop} {k : Nat} {f : Addr} {fd : FuncData} {ps : List Str} {sp : Sp} {dvs : List V} {ds : List Value} {x m : Str} {p pos apos : Pos} {e o : Expr} {es : List Expr} {ta : TE} {t : TA} {D : Addr}
theorem Cx.Ok.untried (ok : (tryCx X pins C W).Ok) : X.Ok := ⟨ok.mod, ok.kind, ok.glob, ok.blt, ok.above, ok.inj, ok.has, ok.cab, ok.hd, ok.frames, ok.stk, ok.exf, ok.bs, ok.bsz, ok.noex, ok.exfs, ok.funs, ok.frf⟩
theorem run_fnT {q : List (Addr × Obj)} {σ : St} {H : Hp} {s : Shared} {Q : VK} {us : List Value} {vs : List V} (F : FnOk X.prog X.w X.K X.mg X.base (CXn X.prog X.w (.ref C)) k f fd ps sp) (hr : Room k X.A) (hb : Binds X.K fd ps ds) (hd : Vals dvs ds)
    (I : Inv (tryCx X pins C W) q σ H s) (r : Vals vs us) (h : sp (vs ++ dvs) H Q (fun _ _ H' => W σ H')) : wpAny (model X.prog X.w) X.A (call (.ref f) us) (EP (tryCx X pins C W) q σ Q) (tryCx X pins C W).xe s := by
  have r2 : Vals (vs ++ dvs) (us ++ ds) := r.append hd
  have hl : (us ++ ds).length = ps.length := by rw [← r2.length]; exact F.len _ _ _ _ h
  refine wpAny_call (codeAny_mono (F.run X.A X.stack s H ⟨us, []⟩ (us ++ ds) (vs ++ dvs) Q _ hr I.env0 (hb s us I.kIn hl) r2 h) fun r s' hq => ?_)
  cases r with
  | error e =>
    obtain ⟨x, H', hm, B, a0, rfl, fl, hE⟩ := hq
    exact ⟨x, σ, H, s, H', hm, B, a0, rfl, I.untried I.ok.untried, fl, hE⟩
  | ok fl =>
    cases fl with
    | ret u => exact I.after hq
    | next => exact False.elim hq
    | brk => exact False.elim hq
    | cont => exact False.elim hq
def tCallT (sp : Sp) (dvs : List V) (W : St → Hp → Prop) (t : TA) : TE := fun σ H Q => t σ H fun vs H1 => sp (vs ++ dvs) H1 Q (fun _ _ H' => W σ H')
theorem pe_callT (F : FnOk X.prog X.w X.K X.mg X.base (CXn X.prog X.w (.ref C)) k f fd ps sp) (hr : Room k X.A) (hg : Gl X x) (hm : X.mg x = some (.ref f)) (hk : PySem.W.keepIn X.K (.ref f) = true) (hb : Binds X.K fd ps ds) (hd : Vals dvs ds)
    (ha : PA (tryCx X pins C W) (e :: es) t) (hdb : (x == ("__debug__" : Str)) = false := by decide) (he : starEach (e :: es) X.env = (false, eval e X.env) :: starEach es X.env := by rfl) (hpl : (backTo pos (starEach es X.env)).any (·.1) = false := by rfl) :
    PE (tryCx X pins C W) (.Call (.Name x p) (e :: es) [] pos) (tCallT sp dvs W t) := by
  intro q s σ H Q I h
  refine wpAny_Call_Name_kw (ld_glob I hg hm ?_ hdb)
  refine PySem.W.callWith_K (h₀ := X.base) I.ok.mod.kin hk (thn (ha pos q s σ H _ I h) fun us s1 ⟨vs, H1, I1, r, q⟩ => ⟨I1.kIn, ?_⟩) he hpl
  exact run_fnT F hr hb hd I1 r q
def tMethT (D : Addr) (m : Str) (sp : Sp) (dvs : List V) (W : St → Hp → Prop) (ta : TE) (t : TA) : TE := fun σ H Q => ta σ H fun x H1 => ∃ a dx fs, x = .ref a ∧ H1 a = some (.ins D dx fs) ∧ fs.lookup m = none ∧
  t σ H1 fun vs H2 => sp (x :: (vs ++ dvs)) H2 Q (fun _ _ H' => W σ H')
theorem pe_methT {pl : Sem Bool} (he : PE (tryCx X pins C W) o ta) (c : Cls X.K D) (hm : Meth X.K D m f) (F : FnOk X.prog X.w X.K X.mg X.base (CXn X.prog X.w (.ref C)) k f fd ps sp) (hr : Room k X.A) (hb : Binds X.K fd ps ds) (hd : Vals dvs ds) (ha : PA (tryCx X pins C W) (e :: es) t)
    (hst : starEach (e :: es) X.env = (false, eval e X.env) :: starEach es X.env := by rfl) (hpl : (backTo pos (starEach es X.env)).any (·.1) = false := by rfl)
    (ht : eval (.Call (.Attribute o m apos) (e :: es) [] pos) X.env = (do
      let ov ← eval o X.env
      standAt apos.atName
      let (f, first) ← holding [ov] (getMethod ov m pl)
      callWith pos f first (backTo pos (starEach (e :: es) X.env)) (backToKw pos (keywordEach [] X.env))) := by rfl) :
    PE (tryCx X pins C W) (.Call (.Attribute o m apos) (e :: es) [] pos) (tMethT D m sp dvs W ta t) := by
  intro q s σ H Q I h
  refine PySem.W.methodCall_KW (pl := pl) (thn (he q s σ H _ I h) fun u s1 ⟨x, H1, I1, rx, a, dx, fs, ex, ea, l, q'⟩ => ?_) ht
  subst ex
  obtain rfl : u = Value.ref a := rx
  refine getmeth_ok I1 ea c hm l ?_
  refine PySem.W.callWith_K (first := [.ref a]) (h₀ := X.base) I.ok.mod.kin hm.kp (thn (ha pos q s1 σ H1 _ I1 q') fun us s2 ⟨vs, H2, I2, r, q2⟩ => ⟨I2.kIn, ?_⟩) hst hpl
  exact run_fnT (us := .ref a :: us) (vs := .ref a :: vs) F hr hb hd I2 (.cons rfl r) q2
end
end L2

end
section
set_option Elab.async false
set_option linter.all false
set_option maxRecDepth 100000
set_option maxHeartbeats 1000000
/-! ## isinstance against a tuple of types; a tuple is one of (list, tuple) -/
namespace L2
open PySem PySem.Spec PyProof.Rows
section
variable {prog : Program} {w : World} {A : Around} {E : Value → Shared → Prop}
theorem isi_tupG {P : Shared → Prop} (hP : ∀ s tk, P s → P { s with toks := tk }) {x : Value} {Tx : String} {tp : Addr} {cs : List Value} {vs : List Bool} {tk : Tok} {s : Shared} {Q : Fin → Shared → Prop} {dd : Option Addr} {n : Nat} {sl : Array (Option Value)}
    (hx : s.TypeIs x Tx) (htp : s.heap.get? tp = some ⟨.type "tuple", dd, .seq cs.toArray n, sl⟩) (ha : AnswersAll P x cs vs) (hs : P s)
    (hq : ∀ tk', Q (.done (.ret (.bool (vs.any id)))) { s with toks := tk' }) : wpAny (model prog w) A (Builtin.«isinstance.nested» ⟨[x, .ref tp, .int 0 tk], []⟩) Q E s := by
  obtain ⟨h, g, d, t, os⟩ := s
  have hT2 : (⟨h, g, d, t, os⟩ : Shared).TypeIs (.ref tp) "tuple" := ⟨_, htp, rfl⟩
  have f1 := F.isi_sub_tuple
  repeat (any_goals (first | assumption | wp_step))
  refine wpAny_arrayLoop ?_
  simp only [Option.getD_some, List.toList_toArray]
  refine isinstance_items (dep := 0) hP cs vs _ _ ha hs fun tk' => ?_
  cases hv : vs.any id with
  | true =>
    simp only [if_true]
    repeat (any_goals (first | assumption | wp_step))
    exact hv ▸ hq tk'
  | false =>
    simp only [Bool.false_eq_true, if_false]
    repeat (any_goals (first | assumption | wp_step))
    exact hv ▸ hq tk'
end
section
variable {X : Cx}
theorem call_isiTT : CallR X (.builtin "isinstance") (fun xs H Q => ∃ a t ys, xs = [.ref a, .ref t] ∧ SqT X.K H a ys ∧ SqT X.K H t [.ty "list", .ty "tuple"] ∧ Q (.bl true) H) := by
  intro pins s σ H xs us Q I r h
  obtain ⟨a, t, ys, rfl, ha, ht, q⟩ := h
  obtain ⟨u, v, rfl, ru, rv⟩ := vals2 r
  cases ru
  cases rv
  obtain ⟨us, r1, ⟨o1, e1, c1, n1, d1⟩, _⟩ := I.tuple ha
  obtain ⟨vs, r2, ⟨o2, e2, c2, n2, d2⟩, _⟩ := I.tuple ht
  obtain ⟨w1, w2, rfl, rw1, rw2⟩ := vals2 r2
  cases (show w1 = Value.type "list" from rw1)
  cases (show w2 = Value.type "tuple" from rw2)
  obtain ⟨cls2, dd2, data2, sl2⟩ := o2
  simp only at c2 d2
  subst c2 d2
  have hx : s.TypeIs (.ref a) "tuple" := ⟨o1, e1, c1⟩
  have all : AnswersAll (fun s => s.TypeIs (.ref a) "tuple") (.ref a) [Value.type "list", Value.type "tuple"] [false, true] :=
    .cons (.of_false_tuple rfl (by rfl) F.sub_tuple_list) (.cons (.of_true (by rfl) F.isi_sub_tuple) .nil)
  refine call_isinstance (S := fun _ R s => s.TypeIs (.ref a) "tuple" ∧ s.heap.get? t = some ⟨.type "tuple", dd2, .seq [Value.type "list", Value.type "tuple"].toArray n2, sl2⟩ ∧ ∀ tk, R (.ok (.ret (.bool true))) { s with toks := tk })
    (fun _ _ _ _ _ hs => isinstance_outer (isi_tupG (fun _ tk h => h.toks tk) hs.1 hs.2.1 all hs.1 hs.2.2) (Shared.TypeIs.not_mainsLoader hs.1)) ⟨hx, e2, fun tk => ⟨.bl true, H, I.tok tk, rfl, q⟩⟩
end
end L2

end
section
set_option Elab.async false
set_option linter.all false
set_option maxRecDepth 100000
set_option maxHeartbeats 1000000
namespace L2
open PySem PySem.Spec PyProof.Rows
/-! ### the greatest of a tuple or list of ints -/
theorem best_le (v : Nat → Int) : ∀ k, argBest (fun i j => decide (v i > v j)) k ≤ k ∧ ∀ j, j ≤ k → v j ≤ v (argBest (fun i j => decide (v i > v j)) k)
  | 0 => ⟨Nat.le_refl _, fun j hj => by obtain rfl : j = 0 := by omega
                                        exact Int.le_refl _⟩
  | k + 1 => by
    obtain ⟨h1, h2⟩ := best_le v k
    rw [argBest]
    by_cases e : v (k + 1) > v (argBest (fun i j => decide (v i > v j)) k)
    · rw [if_pos (decide_eq_true e)]
      refine ⟨Nat.le_refl _, fun j hj => ?_⟩
      by_cases ej : j = k + 1
      · rw [ej]; exact Int.le_refl _
      · have := h2 j (by omega)
        omega
    · rw [if_neg (by simpa using e)]
      refine ⟨by omega, fun j hj => ?_⟩
      by_cases ej : j = k + 1
      · rw [ej]; omega
      · exact h2 j (by omega)
section
variable {X : Cx}
theorem call_max1 (hc : X.calm = true) : CallR X (.builtin "max") (fun xs H Q => ∃ (k : ZS.SK) (p : Addr) (ns : List Int), xs = [.ref p] ∧ Sq k X.K H p (ns.map V.int) ∧ ns ≠ [] ∧ ∀ m, (∀ i, i < ns.length → ns.getD i 0 ≤ m) → m ∈ ns → Q (.int m) H) := by
  intro pins s σ H xs us Q I r h
  obtain ⟨k, p, ns, rfl, hq, hne, q⟩ := h
  obtain ⟨u, rfl, ru⟩ := vals1 r
  cases ru
  obtain ⟨its, rv, sq, hz⟩ := I.sq hq
  have hl := rv.length
  rw [List.length_map] at hl
  have hpos : 0 < ns.length := List.length_pos_iff.mpr hne
  have hh : X.A.handled = none := I.ok.hd hc
  have plt : p < s.heap.objs.size := by
    cases k with
    | l => obtain ⟨o, e, _⟩ := (show s.heap.IsList p its.toArray from sq); exact Heap.lt_size e
    | t => obtain ⟨o, e, _⟩ := (show s.heap.IsTuple p its.toArray from sq); exact Heap.lt_size e
  have hval : ∀ (i : Nat) (v : Value), its.toArray[i]? = some v → ∃ t, v = Value.int (ns.getD i 0) t := fun i v e => rv.ints (i := i) (u := v) (by rw [← e]; simp)
  obtain ⟨b1, b2⟩ := best_le (fun i => ns.getD i 0) (its.toArray.size - 1)
  have hsz : its.toArray.size = ns.length := by simp; omega
  have fin : ∀ v h' tk, its.toArray[argBest (fun i j => decide (ns.getD i 0 > ns.getD j 0)) (its.toArray.size - 1)]? = some v → (∀ b o, b ∉ [s.heap.objs.size] → (s.heap.push (ZS.itObj k p)).get? b = some o → h'.get? b = some o) → EP X pins σ Q v { s with heap := h', toks := tk } := fun v h' tk hv hk => by
    obtain ⟨t, rfl⟩ := hval _ _ hv
    refine ⟨.int (ns.getD (argBest (fun i j => decide (ns.getD i 0 > ns.getD j 0)) (its.toArray.size - 1)) 0), H, I.kept (t' := tk) fun b o e => hk b o ?_ (Heap.get?_push_of_some _ e), ⟨t, rfl⟩, q _ (fun i hi => b2 i (by omega)) ?_⟩
    · intro z
      exact Nat.ne_of_lt (Heap.lt_size e) (by simpa using z)
    · have hlt : argBest (fun i j => decide (ns.getD i 0 > ns.getD j 0)) (its.toArray.size - 1) < ns.length := by omega
      rw [List.getD_eq_getElem?_getD, List.getElem?_eq_getElem hlt]
      exact List.getElem_mem hlt
  have hfp : ∀ b ∈ [s.heap.objs.size, p], b < (s.heap.push (ZS.itObj k p)).objs.size := fun b hb => by
    rw [Heap.size_push]
    simp only [List.mem_cons, List.not_mem_nil, or_false] at hb
    rcases hb with rfl | rfl
    · exact Nat.lt_succ_self _
    · exact Nat.lt_succ_of_lt plt
  refine call_max_walk (ZS.iter_seq sq ?_)
  cases k with
  | l =>
    exact ⟨s.heap.objs.size, [s.heap.objs.size, p], [s.heap.objs.size], its.toArray.size, _, _, _, rfl, Walks.list (A := X.A.in1) hh _ p (Nat.ne_of_lt plt) its.toArray,
      ⟨⟨_, Heap.get?_push_size _ rfl, rfl, rfl⟩, ZS.SeqOf.on (k := .l) sq fun o e => Heap.get?_push_of_some _ e⟩, hfp, by omega, CmpOf.ints_gt (fun i => ns.getD i 0) hval, fin⟩
  | t =>
    exact ⟨s.heap.objs.size, [s.heap.objs.size, p], [s.heap.objs.size], its.toArray.size, _, _, _, rfl, Walks.tuple (A := X.A.in1) hh _ p (Nat.ne_of_lt plt) its.toArray,
      ⟨⟨_, Heap.get?_push_size _ rfl, rfl, rfl⟩, ZS.SeqOf.on (k := .t) sq fun o e => Heap.get?_push_of_some _ e⟩, hfp, by omega, CmpOf.ints_gt (fun i => ns.getD i 0) hval, fin⟩
/-- a callee that may raise, where it is known that it doesn't -/
theorem passF {P : Program} {w : World} {cls : Value} : Passes (CXn P w cls) X E0 := by
  intro pins σ H1 s1 e s' I hq
  obtain ⟨x, H', hm, B, a0, rfl, fl, hE⟩ := hq
  exact hE.elim
end
/-- a def of the text, as the others call it -/
structure Dn (K : PySem.W.Frag) (mg : Str → Option Value) (x : Str) (st : Stmt) (ps : List Str) where
  f : Addr
  d : FuncData
  F : Fun K x x st f d
  b : Binds K d ps []
  m : mg x = some (.ref f)
theorem PlOk.good {P : Pl} {n : Nat} (h : PlOk P n) : PGood P :=
  ⟨by rw [h.hl, h.sl], getD0 h.h0, getD0 h.s0, h.b0, h.f0⟩
theorem LvOk.mk' {P : Pl} {n : Nat} (h : PlOk P n) {c : List Int} {b : Int} (hl : c.length = P.hs.length) (h0 : ∀ i, i < P.hs.length → 0 ≤ c.getD i 0 ∧ c.getD i 0 ≤ P.hs.getD i 0) (hb : 0 ≤ b) (hb1 : b ≤ P.bh) : LvOk P c b :=
  ⟨hl, fun i hi => (h0 i hi).1, fun i hi => (h0 i hi).2, hb, hb1⟩
def spTick2 : Sp := fun vs H Q _ => ∃ p l P c b, vs = [.ref p, .ref l] ∧ PlH H p P ∧ LvH H l c b ∧ PGood P ∧ LvOk P c b ∧ P.hs.length ≤ 1000 ∧ ∀ q H', Same H H' → LvH H' q (tkC P c) (tkB P c b) → Q (.ref q) H'
def spTicks2 : Sp := fun vs H Q _ => ∃ (p l : Addr) (P : Pl) (c : List Int) (b : Int) (n : Nat), vs = [.ref p, .ref l, .int n] ∧ PlH H p P ∧ LvH H l c b ∧ PGood P ∧ LvOk P c b ∧ P.hs.length ≤ 1000 ∧ n ≤ 100000 ∧
  ∀ q H', Same H H' → LvH H' q (tkN P c b n).1 (tkN P c b n).2 → Q (.ref q) H'
def spPass (C : Addr) : Sp := fun vs H Q E => ∃ (p l : Addr) (P : Pl) (c : List Int) (b who cost : Int) (n : Nat), vs = [.ref p, .ref l, .int who, .int cost, .int n] ∧ PlH H p P ∧ LvH H l c b ∧ PGood P ∧ LvOk P c b ∧ P.hs.length ≤ 1000 ∧ n ≤ 100000 ∧
  ((who < 0 ∨ (P.hs.length : Int) ≤ who) → ∀ H', Same H H' → E (.ref C) none H') ∧ (0 ≤ who → who < P.hs.length → ∀ H', Same H H' → Q (.bl (decide (cost ≤ drops P c b who.toNat n))) H')
def wV : Option Nat → V
  | none => .non
  | some n => .int n
def spWait (C : Addr) : Sp := fun vs H Q E => ∃ (p l : Addr) (P : Pl) (c : List Int) (b who cost : Int), vs = [.ref p, .ref l, .int who, .int cost] ∧ PlH H p P ∧ LvH H l c b ∧ PGood P ∧ LvOk P c b ∧ 1 ≤ P.hs.length ∧ P.hs.length ≤ 1000 ∧ (∀ x ∈ P.hs, x ≤ 1000) ∧ P.bh ≤ 1000 ∧
  ((who < 0 ∨ (P.hs.length : Int) ≤ who) → ∀ H', Same H H' → E (.ref C) none H') ∧ (0 ≤ who → who < P.hs.length → ∀ r H', Same H H' → WaitIs P c b who.toNat cost r → Q (wV r) H')
end L2
namespace L2
open PySem PySem.Spec PyProof.Rows
/-- a list of n ints from nought to M -/
def LiB (H : Hp) (a : Addr) (n : Nat) (M : Int) : Prop := ∃ xs : List Int, H a = some (.lst (xs.map V.int)) ∧ xs.length = n ∧ (∀ x ∈ xs, 0 ≤ x) ∧ ∀ x ∈ xs, x ≤ M
theorem LiB.on {H H' : Hp} {a : Addr} {n : Nat} {M : Int} (h : LiB H a n M) (e : Same H H') : LiB H' a n M := let ⟨xs, h1, h2⟩ := h; ⟨xs, e _ _ h1, h2⟩
theorem LiB.mk {H : Hp} {a : Addr} {n : Nat} {M : Int} {g : Nat → Int} (h : H a = some (.lst ((List.range n).map fun i => V.int (g i)))) (h0 : ∀ i, i < n → 0 ≤ g i) (h1 : ∀ i, i < n → g i ≤ M) : LiB H a n M :=
  ⟨(List.range n).map g, by rw [h, List.map_map]; rfl, by simp, fun x hx => by
    obtain ⟨i, hi, rfl⟩ := List.mem_map.mp hx
    exact h0 i (List.mem_range.mp hi), fun x hx => by
    obtain ⟨i, hi, rfl⟩ := List.mem_map.mp hx
    exact h1 i (List.mem_range.mp hi)⟩
theorem LiB.snoc {H : Hp} {a : Addr} {xs : List Int} {n : Nat} {y M : Int} (hl : xs.length = n) (h0 : ∀ x ∈ xs, 0 ≤ x) (h1 : ∀ x ∈ xs, x ≤ M) (hy : 0 ≤ y) (hy1 : y ≤ M) : LiB (upd H a (.lst (xs.map V.int ++ [.int y]))) a (n + 1) M :=
  ⟨xs ++ [y], by rw [upd_same, List.map_append]; rfl, by simp [hl], fun x hx => by
    rcases List.mem_append.mp hx with hx | hx
    · exact h0 x hx
    · rw [List.mem_singleton.mp hx]; exact hy, fun x hx => by
    rcases List.mem_append.mp hx with hx | hx
    · exact h1 x hx
    · rw [List.mem_singleton.mp hx]; exact hy1⟩
theorem LiB.other {H : Hp} {a b : Addr} {n : Nat} {M : Int} {o : HO} (h : LiB H a n M) (hne : a ≠ b) : LiB (upd H b o) a n M := let ⟨xs, h1, h2⟩ := h; ⟨xs, by rw [upd_ne hne]; exact h1, h2⟩
theorem modM (x : Int) {m M : Int} (h : 0 < m) (hM : m ≤ M) : x % m ≤ M := by
  have := mod1 x h
  omega
def spPlanB (K : PySem.W.Frag) : Sp := fun vs H Q _ => ∃ (a : Addr) (ns : List Int) (n : Nat), vs = [.ref a, .int n] ∧ SqL K H a (ns.map V.int) ∧ 1 ≤ n ∧ n ≤ 12 ∧ ∀ p P H', Same H H' → PlH H' p P → PlOk P n → (∀ x ∈ P.hs, x ≤ 1000) → P.bh ≤ 1000 → Q (.ref p) H'
def spNobody : Sp := fun vs H Q _ => ∃ (p l : Addr) (P : Pl) (c : List Int) (b who cost : Int), vs = [.ref p, .ref l, .int who, .int cost] ∧ PlH H p P ∧ LvH H l c b ∧ PGood P ∧ LvOk P c b ∧ 1 ≤ P.hs.length ∧ P.hs.length ≤ 1000 ∧ (∀ x ∈ P.hs, x ≤ 1000) ∧ P.bh ≤ 1000 ∧ (who < 0 ∨ (P.hs.length : Int) ≤ who) ∧ ∀ H', Q (.bl true) H'
theorem tseq_asgC {v : V} {i : Nat} {rest : TS} {D : Ends} {σ : St} {H : Hp} (h : rest D (σ.set i (some v)) H) : tSeq (tAsg (tC v) (gName i)) rest D σ H := h
theorem at0 {ns : List Int} {i : Nat} (h : i < ns.length) : atI (ns.map V.int) (0 + (i : Int)) = some (.int (ns.getD i 0)) := by rw [Int.zero_add]; exact atI_nats h
theorem six_line : 6 ≤ sizeLine := by decide
end L2
namespace L2
theorem ixN_at0 {n i : Nat} (h : i < n) : ixN n (0 + (i : Int)) = some i := by
  rw [Int.zero_add, ixN_at (by omega) (by omega), Int.toNat_natCast]
end L2

end
section
set_option Elab.async false
set_option linter.all false
set_option maxRecDepth 100000
set_option maxHeartbeats 1000000
/-! ## gates and deeds on the heap -/
namespace L2
open PySem PySem.Spec PyProof.Rows
theorem kpl : ¬ (("plan" : Str) = "levels") := by decide +kernel
def gf (p l : Addr) : List (Str × V) := putF "levels" (.ref l) (putF "plan" (.ref p) [])
theorem gf_eq (p l : Addr) : gf p l = ([("plan", V.ref p), ("levels", V.ref l)] : List (Str × V)) := by
  show (if ("plan" : Str) = "levels" then [(("plan" : Str), V.ref l)] else (("plan" : Str), V.ref p) :: putF "levels" (V.ref l) []) = ([("plan", V.ref p), ("levels", V.ref l)] : List (Str × V))
  rw [if_neg kpl]
  all_goals rfl
theorem gf_plan (p l : Addr) : (gf p l).lookup ("plan" : Str) = some (.ref p) := by
  unfold gf
  rw [lookup_putF, if_neg kpl, lookup_putF, if_pos rfl]
theorem gf_levels (p l : Addr) : (gf p l).lookup ("levels" : Str) = some (.ref l) := by
  unfold gf
  rw [lookup_putF, if_pos rfl]
theorem gf_no (p l : Addr) {m : Str} (h1 : ¬ m = "levels") (h2 : ¬ m = "plan") : (gf p l).lookup m = none := by
  unfold gf
  rw [lookup_putF, if_neg h1, lookup_putF, if_neg h2]
  all_goals rfl
theorem gf_put (p l l' : Addr) : putF "levels" (.ref l') (gf p l) = gf p l' := by
  rw [gf_eq, gf_eq]
  show (if ("plan" : Str) = "levels" then _ else (("plan" : Str), V.ref p) :: (if ("levels" : Str) = "levels" then [(("levels" : Str), V.ref l')] else _)) = ([("plan", V.ref p), ("levels", V.ref l')] : List (Str × V))
  rw [if_neg kpl, if_pos rfl]
theorem gf_len (p l : Addr) : (gf p l).length < 1000 := by
  rw [gf_eq]
  show 2 < 1000
  decide
/-- a gate with its plan and its levels -/
def GtH (D : Addr) (H : Hp) (g p l : Addr) : Prop := ∃ dx, H g = some (.ins D dx (gf p l))
/-- all but what stands at g is as it was -/
def SameX (g : Addr) (H H' : Hp) : Prop := ∀ b o, H b = some o → b ≠ g → H' b = some o
theorem SameX.refl (g : Addr) (H : Hp) : SameX g H H := fun _ _ h _ => h
theorem SameX.trans {g : Addr} {H H1 H2 : Hp} (a : SameX g H H1) (b : SameX g H1 H2) : SameX g H H2 := fun c o h hn => b c o (a c o h hn) hn
theorem Same.x {H H' : Hp} (e : Same H H') (g : Addr) : SameX g H H' := fun b o h _ => e b o h
theorem SameX.upd {g : Addr} {H H' : Hp} {o : HO} (e : SameX g H H') : SameX g H (L2.upd H' g o) := fun b u h hn => by rw [upd_ne hn]; exact e b u h hn
/-- g was new: nothing that was tracked is changed -/
theorem SameX.same {g : Addr} {H0 H H' : Hp} (e : SameX g H H') (hg : H0 g = none) (e0 : Same H0 H) : Same H0 H' := fun b o h => e b o (e0 b o h) (ne_of_none h hg)
theorem GtH.ne {D : Addr} {H : Hp} {g p l b : Addr} (h : GtH D H g p l) {xs : List V} (hb : H b = some (.tup xs)) : b ≠ g := fun e => by
  obtain ⟨dx, h⟩ := h
  rw [e, h] at hb
  cases hb
theorem GtH.neL {D : Addr} {H : Hp} {g p l b : Addr} (h : GtH D H g p l) {xs : List V} (hb : H b = some (.lst xs)) : b ≠ g := fun e => by
  obtain ⟨dx, h⟩ := h
  rw [e, h] at hb
  cases hb
theorem GtH.on {D : Addr} {H H' : Hp} {g p l : Addr} (h : GtH D H g p l) (e : Same H H') : GtH D H' g p l := let ⟨dx, h1⟩ := h; ⟨dx, e _ _ h1⟩
theorem GtH.onX {D : Addr} {H H' : Hp} {g g' p l : Addr} (h : GtH D H g p l) (e : SameX g' H H') (hn : g ≠ g') : GtH D H' g p l := let ⟨dx, h1⟩ := h; ⟨dx, e _ _ h1 hn⟩
theorem LvH.onX {H H' : Hp} {p g : Addr} {c : List Int} {b : Int} (h : LvH H p c b) (e : SameX g H H') (hg : ∀ b xs, H b = some (.tup xs) → b ≠ g) : LvH H' p c b := let ⟨a, h1, h2⟩ := h; ⟨a, e _ _ h1 (hg _ _ h1), e _ _ h2 (hg _ _ h2)⟩
theorem PlH.onX {H H' : Hp} {p g : Addr} {P : Pl} (h : PlH H p P) (e : SameX g H H') (hg : ∀ b xs, H b = some (.tup xs) → b ≠ g) : PlH H' p P := let ⟨a1, a2, h1, h2, h3⟩ := h; ⟨a1, a2, e _ _ h1 (hg _ _ h1), e _ _ h2 (hg _ _ h2), e _ _ h3 (hg _ _ h3)⟩
/-! ### deeds -/
def ddV : Dd → List V
  | .tick n => [.str "tick", .int (n : Nat)]
  | .call w k => [.str "call", .int w, .int k]
def DdH (H : Hp) (d : Addr) (x : Dd) : Prop := H d = some (.tup (ddV x))
/-- a deed as the laws draw it -/
def DdB : Dd → Prop
  | .tick n => n ≤ 100
  | .call _ k => 0 ≤ k
theorem DdB.ok {x : Dd} (h : DdB x) : DdOk x := by
  cases x with
  | tick n => exact True.intro
  | call w k => exact h
/-- a list of deeds -/
def DsH (H : Hp) (as : List Addr) (ds : List Dd) : Prop := as.length = ds.length ∧ ∀ (i : Nat) (a : Addr), as[i]? = some a → ∃ x, ds[i]? = some x ∧ DdH H a x
theorem DsH.on {H H' : Hp} {as : List Addr} {ds : List Dd} (h : DsH H as ds) (e : Same H H') : DsH H' as ds := ⟨h.1, fun i a q => let ⟨x, h1, h2⟩ := h.2 i a q; ⟨x, h1, e _ _ h2⟩⟩
theorem DsH.nil (H : Hp) : DsH H [] [] := ⟨rfl, fun i a q => by simp at q⟩
theorem DsH.snoc {H : Hp} {as : List Addr} {ds : List Dd} (h : DsH H as ds) {a : Addr} {x : Dd} (ha : DdH H a x) : DsH H (as ++ [a]) (ds ++ [x]) := by
  refine ⟨by rw [List.length_append, List.length_append, h.1]; rfl, fun i b q => ?_⟩
  by_cases hi : i < as.length
  · rw [List.getElem?_append_left hi] at q
    obtain ⟨y, h1, h2⟩ := h.2 i b q
    exact ⟨y, by rw [List.getElem?_append_left (by rw [← h.1]; exact hi)]; exact h1, h2⟩
  · rw [List.getElem?_append_right (by omega)] at q
    by_cases hz : i - as.length = 0
    · rw [hz] at q
      simp at q
      subst q
      exact ⟨x, by rw [List.getElem?_append_right (by rw [← h.1]; omega), ← h.1, hz]; rfl, ha⟩
    · rw [List.getElem?_eq_none (by simp; omega)] at q
      cases q
def aV : Option Bool → V
  | none => .non
  | some b => .bl b
/-- the answer to deed i -/
def ansI (P : Pl) (s : LvP) (ds : List Dd) (i : Nat) : Option Bool := ansOf P (stt P s ds i) (ds.getD i (.tick 0))
theorem getD_dd {ds : List Dd} {i : Nat} {x : Dd} (h : ds[i]? = some x) : ds.getD i (.tick 0) = x := by rw [List.getD_eq_getElem?_getD, h]; rfl
/-! ### promises -/
def spInitG (D : Addr) : Sp := fun vs H Q _ => ∃ (g p dx : Addr) (P : Pl), vs = [.ref g, .ref p] ∧ H g = some (.ins D dx []) ∧ PlH H p P ∧ ∀ l H', GtH D H' g p l → LvH H' l P.hs P.bh → SameX g H H' → Q .non H'
def spTickG (D : Addr) : Sp := fun vs H Q _ => ∃ (g p l : Addr) (P : Pl) (c : List Int) (b : Int) (n : Nat), vs = [.ref g, .int n] ∧ GtH D H g p l ∧ PlH H p P ∧ LvH H l c b ∧ PGood P ∧ LvOk P c b ∧ P.hs.length ≤ 1000 ∧ n ≤ 100000 ∧
  ∀ l' H', GtH D H' g p l' → LvH H' l' (tkN P c b n).1 (tkN P c b n).2 → SameX g H H' → Q .non H'
def spCallG (D C : Addr) : Sp := fun vs H Q E => ∃ (g p l : Addr) (P : Pl) (s : LvP) (who cost : Int), vs = [.ref g, .int who, .int cost] ∧ GtH D H g p l ∧ PlH H p P ∧ LvH H l s.1 s.2 ∧ s.1.length = P.hs.length ∧ P.hs.length ≤ 1000 ∧
  (¬ inP P who → E (.ref C) none H) ∧ (inP P who → ∀ l' H', GtH D H' g p l' → LvH H' l' (step P s (.call who cost)).1 (step P s (.call who cost)).2 → SameX g H H' → Q (.bl (decide (enough s who cost))) H')
def spAns (D : Addr) : Sp := fun vs H Q _ => ∃ (g p l d : Addr) (P : Pl) (s : LvP) (x : Dd), vs = [.ref g, .ref d] ∧ GtH D H g p l ∧ PlH H p P ∧ LvH H l s.1 s.2 ∧ PGood P ∧ LvOk P s.1 s.2 ∧ P.hs.length ≤ 1000 ∧ DdH H d x ∧ DdB x ∧
  ∀ l' H', GtH D H' g p l' → LvH H' l' (step P s x).1 (step P s x).2 → SameX g H H' → Q (aV (ansOf P s x)) H'
def spAnswers (K : PySem.W.Frag) : Sp := fun vs H Q _ => ∃ (p dl : Addr) (P : Pl) (as : List Addr) (ds : List Dd), vs = [.ref p, .ref dl] ∧ PlH H p P ∧ PGood P ∧ P.hs.length ≤ 1000 ∧ H dl = some (.lst (as.map V.ref)) ∧ DsH H as ds ∧ (∀ x ∈ ds, DdB x) ∧ ds.length ≤ 1000 ∧
  ∀ q H', Same H H' → H' q = some (.lst ((List.range ds.length).map fun i => aV (ansI P (P.hs, P.bh) ds i))) → Q (.ref q) H'
end L2
namespace L2
open PySem PySem.Spec PyProof.Rows
theorem step_yes {P : Pl} {s : LvP} {w k : Int} (h : inP P w) (h' : enough s w k) : step P s (.call w k) = took s w.toNat k := by
  show (ite _ _ _) = _
  rw [if_pos h, if_pos h']
theorem step_no {P : Pl} {s : LvP} {w k : Int} (h : inP P w) (h' : ¬ enough s w k) : step P s (.call w k) = s := by
  show (ite _ _ _) = _
  rw [if_pos h, if_neg h']
theorem step_bad {P : Pl} {s : LvP} {w k : Int} (h : ¬ inP P w) : step P s (.call w k) = s := by
  show (ite _ _ _) = _
  rw [if_neg h]
theorem ans_in {P : Pl} {s : LvP} {w k : Int} (h : inP P w) : ansOf P s (.call w k) = some (decide (enough s w k)) := by
  show (ite _ _ _) = _
  rw [if_pos h]
theorem ans_bad {P : Pl} {s : LvP} {w k : Int} (h : ¬ inP P w) : ansOf P s (.call w k) = none := by
  show (ite _ _ _) = _
  rw [if_neg h]
theorem LvH.updL {H : Hp} {q l : Addr} {c : List Int} {b : Int} {xs : List V} {o : HO} (h : LvH H l c b) (hq : H q = some (.lst xs)) : LvH (upd H q o) l c b := by
  obtain ⟨a, h1, h2⟩ := h
  have ne : ∀ {b : Addr} {ys : List V}, H b = some (.tup ys) → b ≠ q := fun hb e => by rw [e, hq] at hb; cases hb
  exact ⟨a, by rw [upd_ne (ne h1)]; exact h1, by rw [upd_ne (ne h2)]; exact h2⟩
theorem GtH.updL {D : Addr} {H : Hp} {q g p l : Addr} {xs : List V} {o : HO} (h : GtH D H g p l) (hq : H q = some (.lst xs)) : GtH D (upd H q o) g p l := by
  obtain ⟨dx, h1⟩ := h
  exact ⟨dx, by rw [upd_ne (fun e => by rw [e, hq] at h1; cases h1)]; exact h1⟩
theorem SameX.upd' {g : Addr} {H : Hp} {o : HO} : SameX g H (L2.upd H g o) := (SameX.refl g H).upd
end L2
namespace L2
open PySem PySem.Spec PyProof.Rows
theorem DsH.updL {H : Hp} {q : Addr} {xs : List V} {o : HO} {as : List Addr} {ds : List Dd} (h : DsH H as ds) (hq : H q = some (.lst xs)) : DsH (upd H q o) as ds :=
  ⟨h.1, fun i a e => let ⟨x, h1, h2⟩ := h.2 i a e; ⟨x, h1, by
    have ne : a ≠ q := fun z => by
      have h2' : H a = some (.tup (ddV x)) := h2
      rw [z, hq] at h2'; cases h2'
    show upd H q o a = _
    rw [upd_ne ne]; exact h2⟩⟩
theorem DsH.get {H : Hp} {as : List Addr} {ds : List Dd} (h : DsH H as ds) {k : Nat} (hk : k < ds.length) : ∃ a x, as[k]? = some a ∧ ds[k]? = some x ∧ DdH H a x := by
  have hk' : k < as.length := by rw [h.1]; exact hk
  obtain ⟨x, h1, h2⟩ := h.2 k as[k] (List.getElem?_eq_getElem hk')
  exact ⟨as[k], x, List.getElem?_eq_getElem hk', h1, h2⟩
theorem atI_refs {as : List Addr} {k : Nat} {a : Addr} {z : Int} (h : as[k]? = some a) (hz : z = (k : Nat)) : atI (as.map V.ref) z = some (.ref a) := by
  subst hz
  have hk : k < as.length := (List.getElem?_eq_some_iff.mp h).1
  rw [atI_pos (by omega) (by simpa using hk), Int.toNat_natCast, List.getElem?_map, h]
  rfl
theorem atI_vs {xs : List V} {k : Nat} {v : V} {z : Int} (h : xs[k]? = some v) (hz : z = (k : Nat)) : atI xs z = some v := by
  subst hz
  have hk : k < xs.length := (List.getElem?_eq_some_iff.mp h).1
  rw [atI_pos (by omega) (by omega), Int.toNat_natCast, h]
theorem get_range {α : Type} {f : Nat → α} {n k : Nat} (h : k < n) : ((List.range n).map f)[k]? = some (f k) := by
  rw [List.getElem?_map, List.getElem?_range h]
  rfl
/-- one deed more at the end of the list -/
theorem deeds_snoc {H H' : Hp} {q r : Addr} {as : List Addr} {ds : List Dd} {x : Dd} (hS : Same H H') (hq0 : H q = none) (hq : H' q = some (.lst (as.map V.ref))) (hD : DsH H' as ds) (hr : H' r = none) :
    Same H (upd (upd H' r (.tup (ddV x))) q (.lst (as.map V.ref ++ [.ref r]))) ∧ upd (upd H' r (.tup (ddV x))) q (.lst (as.map V.ref ++ [.ref r])) q = some (.lst ((as ++ [r]).map V.ref)) ∧ DsH (upd (upd H' r (.tup (ddV x))) q (.lst (as.map V.ref ++ [.ref r]))) (as ++ [r]) (ds ++ [x]) := by
  have e1 : Same H' (upd H' r (.tup (ddV x))) := Same.new hr
  have hq1 := e1 _ _ hq
  refine ⟨(hS.trans e1).upd hq0, by rw [upd_same, List.map_append]; rfl, ?_⟩
  exact DsH.updL (DsH.snoc (hD.on e1) upd_same) hq1
theorem cut_ints (ns : List Int) (lo hi : Option Int) : ∃ ms : List Int, cutV (ns.map V.int) lo hi = ms.map V.int ∧ ms.length ≤ ns.length := by
  refine ⟨(ns.drop (HT.sIx ns.length 0 lo)).take (HT.sIx ns.length ns.length hi - HT.sIx ns.length 0 lo), ?_, ?_⟩
  · unfold cutV
    rw [List.length_map, List.map_take, List.map_drop]
  · rw [List.length_take, List.length_drop]
    omega
def spDrawn (K : PySem.W.Frag) : Sp := fun vs H Q _ => ∃ (a : Addr) (ns : List Int) (n : Nat), vs = [.ref a, .int n] ∧ SqL K H a (ns.map V.int) ∧ ns.length ≤ 100 ∧ 1 ≤ n ∧ n ≤ 1000 ∧
  ∀ q as ds H', Same H H' → H q = none → H' q = some (.lst (as.map V.ref)) → DsH H' as ds → ds.length = ns.length → (∀ x ∈ ds, DdB x) → Q (.ref q) H'
theorem five_line : 5 ≤ sizeLine := by decide
theorem three_line : 3 ≤ sizeLine := by decide
theorem eight_line : 8 ≤ sizeLine := by decide
theorem kit_ll {K : PySem.W.Frag} : PySem.W.kitOne K (.type "list") (.type "list") = some true := by unfold PySem.W.kitOne; rw [if_pos (by simp)]
theorem snocB {ds : List Dd} {x : Dd} (h : ∀ y ∈ ds, DdB y) (hx : DdB x) : ∀ y ∈ ds ++ [x], DdB y := fun y hy => by
  rcases List.mem_append.mp hy with hy | hy
  · exact h y hy
  · rw [List.mem_singleton.mp hy]; exact hx
end L2
namespace L2
open PySem PySem.Spec PyProof.Rows
def spCareful (K : PySem.W.Frag) : Sp := fun vs H Q _ => ∃ (a p : Addr) (ns : List Int) (P : Pl), vs = [.ref a, .ref p] ∧ SqL K H a (ns.map V.int) ∧ ns.length ≤ 100 ∧ PlH H p P ∧ PGood P ∧ 1 ≤ P.hs.length ∧ P.hs.length ≤ 1000 ∧
  ∀ q as ds H', Same H H' → H' q = some (.lst (as.map V.ref)) → DsH H' as ds → ds.length = ns.length → (∀ x ∈ ds, DdB x) → Q (.ref q) H'
def spWithin : Sp := fun vs H Q _ => ∃ (dl : Addr) (as : List Addr) (ds : List Dd) (who hold share : Int), vs = [.ref dl, .int who, .int hold, .int share] ∧ H dl = some (.lst (as.map V.ref)) ∧ DsH H as ds ∧ (∀ x ∈ ds, DdB x) ∧ ds.length ≤ 1000 ∧
  ∀ b H', Same H H' → (b = true → Within who hold share ds) → Q (.bl b) H'
theorem rep_flat (k : Nat) (x : Int) : (List.replicate k [V.int x]).flatten = (List.replicate k x).map V.int := by
  induction k with
  | zero => rfl
  | succ k ih => rw [List.replicate_succ, List.flatten_cons, ih, List.replicate_succ, List.map_cons]; rfl
theorem cut_from {xs : List V} {z : Int} {k : Nat} (hz : z = (k : Nat)) (hk : k ≤ xs.length) : cutV xs (some z) none = xs.drop k := by
  subst hz
  have e : HT.sIx xs.length 0 (some (k : Int)) = k := by
    show (if (k : Int) < 0 then ((k : Int) + (xs.length : Int)).toNat else min (k : Int).toNat xs.length) = k
    rw [if_neg (by omega)]
    omega
  unfold cutV
  rw [HT.sIx_none, e]
  exact List.take_of_length_le (by simp)
theorem V.int_inj' {i j : Int} (h : V.int i = V.int j) : i = j := by injection h
end L2
namespace L2
theorem or_both {c : Prop} [Decidable c] {A B : Prop} (hA : A) (hB : A → B) : if c then A else B := by
  by_cases h : c
  · rw [if_pos h]; exact hA
  · rw [if_neg h]; exact hB hA
theorem iteT' {A B : Prop} (h : if true = true then A else B) : A := by rw [if_pos rfl] at h; exact h
end L2

end
section
set_option Elab.async false
set_option linter.all false
set_option maxRecDepth 100000
set_option maxHeartbeats 1000000
/-! ## what k06 asks -/
namespace L2
open PySem PySem.Spec PyProof.Rows
section
variable {X : Cx}
/-- what is never reached -/
def tNo : TS := fun _ _ _ => False
theorem ps_no {s : Stmt} : PS X s tNo := fun _ _ _ _ _ _ h => h.elim
theorem pss_no {s : List Stmt} : PSs X s tNo := fun _ _ _ _ _ _ h => h.elim
end
theorem bb_str : bootBuiltins "str" = some (.type "str") := by decide +kernel
theorem bb_dict : bootBuiltins "dict" = some (.type "dict") := by decide +kernel
theorem kit_no {K : PySem.W.Frag} {T U : String} (h1 : ((Value.type T) == (Value.type U)) = false) (h2 : PySem.W.kitMeta U = true) (h3 : (fastBuiltinMro T).map (·.contains (Value.type U)) = some false) : PySem.W.kitOne K (.type T) (.type U) = some false := by
  unfold PySem.W.kitOne
  rw [if_neg (by rw [h1]; decide)]
  show (if PySem.W.kitMeta U = true then PySem.W.subIn K (.type T) (.type U) else none) = some false
  rw [if_pos h2]
  exact h3
theorem kit_tb {K : PySem.W.Frag} : PySem.W.kitOne K (.type "tuple") (.type "bool") = some false := kit_no (by decide) (by decide +kernel) (by decide +kernel)
theorem kit_ti {K : PySem.W.Frag} : PySem.W.kitOne K (.type "tuple") (.type "int") = some false := kit_no (by decide) (by decide +kernel) (by decide +kernel)
theorem kit_ts {K : PySem.W.Frag} : PySem.W.kitOne K (.type "tuple") (.type "str") = some false := kit_no (by decide) (by decide +kernel) (by decide +kernel)
theorem kit_td {K : PySem.W.Frag} : PySem.W.kitOne K (.type "tuple") (.type "dict") = some false := kit_no (by decide) (by decide +kernel) (by decide +kernel)
theorem kit_tl {K : PySem.W.Frag} : PySem.W.kitOne K (.type "tuple") (.type "list") = some false := kit_no (by decide) (by decide +kernel) (by decide +kernel)
/-- two values alike, tuples within tuples n deep -/
def SoOk : Nat → Hp → V → V → Prop
  | 0, _, _, _ => False
  | n + 1, H, v, u => (∃ b, v = .bl b ∧ u = .bl b) ∨ (∃ i, v = .int i ∧ u = .int i) ∨
    ∃ a t xs ys, v = .ref a ∧ u = .ref t ∧ H a = some (.tup xs) ∧ H t = some (.tup ys) ∧ xs.length = ys.length ∧ ys.length ≤ 1000 ∧ ∀ (i : Nat) x y, xs[i]? = some x → ys[i]? = some y → SoOk n H x y
theorem SoOk.on : ∀ {n : Nat} {H H' : Hp} {v u : V}, SoOk n H v u → Same H H' → SoOk n H' v u
  | 0, _, _, _, _, h, _ => h.elim
  | n + 1, H, H', v, u, h, e => by
    rcases h with h | h | ⟨a, t, xs, ys, h1, h2, h3, h4, h5, h6, h7⟩
    · exact .inl h
    · exact .inr (.inl h)
    · exact .inr (.inr ⟨a, t, xs, ys, h1, h2, e _ _ h3, e _ _ h4, h5, h6, fun i x y hx hy => (h7 i x y hx hy).on e⟩)
def spSo (n : Nat) : Sp := fun vs H Q _ => ∃ v u, vs = [v, u] ∧ SoOk n H v u ∧ ∀ H', Same H H' → Q (.bl true) H'
theorem SoOk.ints {H : Hp} {a t : Addr} {c : List Int} (h1 : H a = some (.tup (c.map V.int))) (h2 : H t = some (.tup (c.map V.int))) (hl : c.length ≤ 1000) : SoOk 2 H (.ref a) (.ref t) :=
  .inr (.inr ⟨a, t, _, _, rfl, rfl, h1, h2, rfl, by rw [List.length_map]; exact hl, fun i x y hx hy => by
    rw [hx] at hy
    cases hy
    obtain ⟨_, rfl⟩ := of_get_ints hx
    exact .inr (.inl ⟨_, rfl, rfl⟩)⟩)
theorem SoOk.levels {H : Hp} {l m : Addr} {c : List Int} {b : Int} (h1 : LvH H l c b) (h2 : LvH H m c b) (hl : c.length ≤ 1000) : SoOk 3 H (.ref l) (.ref m) := by
  obtain ⟨a, h3, h4⟩ := h1
  obtain ⟨a', h5, h6⟩ := h2
  refine .inr (.inr ⟨l, m, _, _, rfl, rfl, h3, h5, rfl, (by show 2 ≤ 1000; omega), fun i x y hx hy => ?_⟩)
  match i with
  | 0 =>
    simp at hx hy
    subst hx hy
    exact SoOk.ints h4 h6 hl
  | 1 =>
    simp at hx hy
    subst hx hy
    exact .inr (.inl ⟨_, rfl, rfl⟩)
  | i + 2 => simp at hx
/-! ### the levels behind each deed, what was let through -/
def spLevels : Sp := fun vs H Q _ => ∃ (p dl : Addr) (P : Pl) (as : List Addr) (ds : List Dd), vs = [.ref p, .ref dl] ∧ PlH H p P ∧ PGood P ∧ P.hs.length ≤ 1000 ∧ H dl = some (.lst (as.map V.ref)) ∧ DsH H as ds ∧ (∀ x ∈ ds, DdB x) ∧ ds.length ≤ 1000 ∧
  ∀ (q : Addr) (ls : List Addr) (H' : Hp), Same H H' → H' q = some (.lst (ls.map V.ref)) → ls.length = ds.length → (∀ (i : Nat) a, ls[i]? = some a → LvH H' a (stt P (P.hs, P.bh) ds (i + 1)).1 (stt P (P.hs, P.bh) ds (i + 1)).2) → Q (.ref q) H'
def thr1 (P : Pl) (s : LvP) (w : Nat) : Dd → Int
  | .tick _ => 0
  | .call v c => if v = (w : Int) ∧ ansOf P s (.call v c) = some true then c else 0
/-- what the first k deeds cost that were let through for caller w -/
def thr (P : Pl) (ds : List Dd) (w : Nat) : Nat → Int
  | 0 => 0
  | k + 1 => thr P ds w k + thr1 P (stt P (P.hs, P.bh) ds k) w (ds.getD k (.tick 0))
def thrs (P : Pl) (ds : List Dd) (k : Nat) : List Int := (List.range P.hs.length).map fun w => thr P ds w k
theorem thrs_len (P : Pl) (ds : List Dd) (k : Nat) : (thrs P ds k).length = P.hs.length := by simp [thrs]
theorem thrs_get {P : Pl} {ds : List Dd} {k w : Nat} (h : w < P.hs.length) : (thrs P ds k).getD w 0 = thr P ds w k := getD_range h
theorem thrs_zero (P : Pl) (ds : List Dd) : thrs P ds 0 = List.replicate P.hs.length 0 := by
  refine list_ext (by simp [thrs]) fun i hi => ?_
  rw [List.length_replicate] at hi
  rw [thrs_get hi, List.getD_eq_getElem?_getD, List.getElem?_replicate, if_pos hi]
  rfl
/-- a deed that lets nothing through -/
theorem thrs_same {P : Pl} {ds : List Dd} {k : Nat} {x : Dd} (hx : ds[k]? = some x) (h : ∀ w, thr1 P (stt P (P.hs, P.bh) ds k) w x = 0) : thrs P ds (k + 1) = thrs P ds k := by
  refine list_ext (by rw [thrs_len, thrs_len]) fun i hi => ?_
  rw [thrs_len] at hi
  rw [thrs_get hi, thrs_get hi, thr, getD_dd hx, h i, Int.add_zero]
theorem thrs_more {P : Pl} {ds : List Dd} {k : Nat} {v c : Int} (hx : ds[k]? = some (.call v c)) (hin : inP P v) (h : ansOf P (stt P (P.hs, P.bh) ds k) (.call v c) = some true) :
    thrs P ds (k + 1) = (thrs P ds k).set v.toNat ((thrs P ds k).getD v.toNat 0 + c) := by
  have h0 := hin.1
  have h1 := hin.2
  refine list_ext (by rw [List.length_set, thrs_len, thrs_len]) fun i hi => ?_
  rw [List.length_set, thrs_len] at hi
  rw [thrs_get hi, thr, getD_dd hx]
  by_cases e : v = (i : Int)
  · subst e
    rw [Int.toNat_natCast, getD_set_self (by rw [thrs_len]; exact hi), thrs_get hi]
    show _ + (ite _ _ _) = _
    rw [if_pos ⟨rfl, h⟩]
  · rw [List.getD_eq_getElem?_getD, List.getElem?_set_ne (by omega), ← List.getD_eq_getElem?_getD, thrs_get hi]
    show _ + (ite _ _ _) = _
    rw [if_neg (fun z => e z.1), Int.add_zero]
theorem thr1_no {P : Pl} {s : LvP} {x : Dd} (h : ansOf P s x ≠ some true) (w : Nat) : thr1 P s w x = 0 := by
  cases x with
  | tick n => rfl
  | call v c =>
    show (ite _ _ _) = _
    rw [if_neg (fun z => h z.2)]
def spLet : Sp := fun vs H Q _ => ∃ (p dl : Addr) (P : Pl) (as : List Addr) (ds : List Dd), vs = [.ref p, .ref dl] ∧ PlH H p P ∧ PGood P ∧ P.hs.length ≤ 1000 ∧ H dl = some (.lst (as.map V.ref)) ∧ DsH H as ds ∧ (∀ x ∈ ds, DdB x) ∧ ds.length ≤ 1000 ∧
  ∀ q H', Same H H' → H' q = some (.lst ((thrs P ds ds.length).map V.int)) → Q (.ref q) H'
/-! ### the law's own defs -/
def spBounded : Sp := fun vs H Q _ => ∃ (p l : Addr) (P : Pl) (c : List Int) (b : Int), vs = [.ref p, .ref l] ∧ PlH H p P ∧ LvH H l c b ∧ LvOk P c b ∧ P.hs.length ≤ 1000 ∧ Q (.bl true) H
def spCalled : Sp := fun vs H Q _ => ∃ (o n : Addr) (P : Pl) (s : LvP) (who cost : Int), vs = [.ref o, .ref n, .bl (decide (enough s who cost)), .int who, .int cost] ∧ LvH H o s.1 s.2 ∧ LvH H n (step P s (.call who cost)).1 (step P s (.call who cost)).2 ∧ s.1.length = P.hs.length ∧ P.hs.length ≤ 1000 ∧ inP P who ∧ Q (.bl true) H
def spTicked6 : Sp := fun vs H Q _ => ∃ (p o n : Addr) (P : Pl) (c : List Int) (b : Int) (m : Nat), vs = [.ref p, .ref o, .ref n, .int m] ∧ PlH H p P ∧ LvH H o c b ∧ LvH H n (tkN P c b m).1 (tkN P c b m).2 ∧ PGood P ∧ LvOk P c b ∧ P.hs.length ≤ 1000 ∧ m ≤ 100000 ∧ Q (.bl true) H
def spHand (D : Addr) : Sp := fun vs H Q _ => ∃ (g p l d : Addr) (P : Pl) (s : LvP) (x : Dd), vs = [.ref g, .ref d, aV (ansOf P s x)] ∧ GtH D H g p l ∧ PlH H p P ∧ LvH H l s.1 s.2 ∧ PGood P ∧ LvOk P s.1 s.2 ∧ P.hs.length ≤ 1000 ∧ DdH H d x ∧ DdB x ∧
  ∀ l' H', GtH D H' g p l' → LvH H' l' (step P s x).1 (step P s x).2 → SameX g H H' → Q (.bl true) H'
def spTwo (D : Addr) : Sp := fun vs H Q _ => ∃ (p : Addr) (P : Pl), vs = [.ref p] ∧ PlH H p P ∧ PGood P ∧ 1 ≤ P.hs.length ∧ P.hs.length ≤ 1000 ∧
  ∀ q g g2 l l2 H', Same H H' → H' q = some (.tup [.ref g, .ref g2]) → g ≠ g2 → H g = none → H g2 = none → GtH D H' g p l → LvH H' l P.hs P.bh → GtH D H' g2 p l2 → LvH H' l2 (P.hs.set 0 0) P.bh → Q (.ref q) H'
def spLeftSo (D : Addr) : Sp := fun vs H Q _ => ∃ (g p l : Addr) (P : Pl), vs = [.ref g, .ref p] ∧ GtH D H g p l ∧ LvH H l (P.hs.set 0 0) P.bh ∧ PlH H p P ∧ 1 ≤ P.hs.length ∧ P.hs.length ≤ 1000 ∧ ∀ H', Same H H' → Q (.bl true) H'
end L2
namespace L2
open PySem PySem.Spec PyProof.Rows
section
variable {X : Cx}
/-- xs[i] of a list, by values -/
theorem get_list : PGet X (fun o i H Q => ∃ p xs k v, o = .ref p ∧ i = .int k ∧ SqL X.K H p xs ∧ 0 ≤ k ∧ k < xs.length ∧ xs[k.toNat]? = some v ∧ Q v H) := by
  intro pins s σ H o i ov iv Q I ro ri h
  obtain ⟨p, xs, k, v, rfl, rfl, hp, h0, h1, hv, q⟩ := h
  cases ro
  obtain ⟨t, rfl⟩ := ri
  obtain ⟨its, r, pl, hz⟩ := I.list hp
  obtain ⟨u, hu, ru⟩ := r.get hv
  have hl := r.length
  have hn := line63
  exact wpAny_getItem_list pl.isList h0 (by omega) (by simpa using hu) ⟨v, H, I, ru, q⟩
end
end L2

end
section
set_option Elab.async false
set_option linter.all false
set_option maxRecDepth 100000
set_option maxHeartbeats 8000000
namespace K6
open PySem L2
def top (i : Nat) : Stmt := PySem.Challenge.pw_dripgate_k06_whole_levels_step_by_step.main.body.getD i (.Pass ⟨0, 0, 0, 0⟩)
abbrev sFull : Stmt := top 4
abbrev sTicks : Stmt := top 5
abbrev sCall : Stmt := top 6
abbrev sGate : Stmt := top 8
abbrev sAnswer : Stmt := top 9
abbrev sAnswers : Stmt := top 10
abbrev sLevels : Stmt := top 11
abbrev sLet : Stmt := top 12
abbrev sSo : Stmt := top 14
abbrev sWhole : Stmt := top 15
abbrev sAt : Stmt := top 16
abbrev sPlan : Stmt := top 17
abbrev sAre : Stmt := top 18
abbrev sDrawn : Stmt := top 19
abbrev sBounded : Stmt := top 20
abbrev sCalled : Stmt := top 21
abbrev sTicked : Stmt := top 22
abbrev sHand : Stmt := top 23
abbrev sTwo : Stmt := top 24
abbrev sLeftSo : Stmt := top 25
abbrev sLaw : Stmt := top 26
abbrev sInit : Stmt := inClass sGate 0
abbrev sGTick : Stmt := inClass sGate 1
abbrev sGCall : Stmt := inClass sGate 2
section
variable {P : Program} {w : World} {K : PySem.W.Frag} {mg : Str → Option Value} {base : Heap}
theorem scF : FnScope ["plan"] ["plan"] (defScope sFull) := ⟨rfl, rfl, rfl, by decide +kernel, rfl, by decide +kernel, by decide +kernel⟩
theorem ok_full {f : Addr} {fd : FuncData} (F : Fun K "full" "full" sFull f fd) : FnOk P w K mg base CX0 1 f fd ["plan"] spFull := by
  refine F.ok scF (fun vs H Q E h => ?_) (fun cdv A outer s H vs Q E hr h => ?_)
  · obtain ⟨p, P, rfl, _⟩ := h
    rfl
  · obtain ⟨p, P, rfl, ⟨a1, a2, h1, h2, h3⟩, k⟩ := h
    refine ⟨_, pss_one (ps_ret (pe_tup (pa_cons (pe_ix ix_tup (pv 0) pe_int (fun _ _ => rfl)) (pa_cons (pe_ix ix_tup (pv 0) pe_int (fun _ _ => rfl)) pa_nil)))), ?_⟩
    refine ⟨_, rfl, p, _, 0, _, rfl, rfl, SqT.of h1, rfl, _, rfl, p, _, 2, _, rfl, rfl, SqT.of h1, rfl, two_line, fun q hq => ?_⟩
    exact k q _ (Same.new hq) ⟨a1, upd_same, by rw [upd_ne (ne_of_none h2 hq)]; exact h2⟩
theorem scW : FnScope ["_law_found"] ["_law_found"] (defScope sWhole) := ⟨rfl, rfl, rfl, by decide +kernel, rfl, by decide +kernel, by decide +kernel⟩
theorem ok_whole {f : Addr} {fd : FuncData} (F : Fun K "_law_whole" "_law_whole" sWhole f fd) (B : Bl mg) : FnOk P w K mg base CX0 1 f fd ["_law_found"] spWhole := by
  refine F.ok scW (fun vs H Q E h => ?_) (fun cdv A outer s H vs Q E hr h => ?_)
  · obtain ⟨i, rfl, _⟩ := h
    rfl
  · obtain ⟨i, rfl, k⟩ := h
    refine ⟨_, pss_one (ps_ret (pe_and (pe_callB call_isi rfl B.isi bb_isi (pa_cons (pv 0) (pa_cons (pe_bltn (v := .ty "int") rfl B.int bb_int rfl) pa_nil)))
      (pe_one (pe_not (pe_callB call_isi rfl B.isi bb_isi (pa_cons (pv 0) (pa_cons (pe_bltn (v := .ty "bool") rfl B.bool bb_bool rfl) pa_nil))))))), ?_⟩
    refine ⟨_, rfl, _, _, _, true, rfl, TyOf.int i, kit_ii, true, rfl, iteT ?_⟩
    exact ⟨_, rfl, _, _, _, false, rfl, TyOf.int i, kit_ib, false, rfl, k⟩
theorem scA : FnScope ["_law_script", "_law_k"] ["_law_script", "_law_k"] (defScope sAt) := ⟨rfl, rfl, rfl, by decide +kernel, rfl, by decide +kernel, by decide +kernel⟩
theorem ok_at {f : Addr} {fd : FuncData} (F : Fun K "_law_at" "_law_at" sAt f fd) (B : Bl mg) : FnOk P w K mg base CX0 1 f fd ["_law_script", "_law_k"] (spAt K) := by
  refine F.ok scA (fun vs H Q E h => ?_) (fun cdv A outer s H vs Q E hr h => ?_)
  · obtain ⟨a, ns, k, rfl, _⟩ := h
    rfl
  · obtain ⟨a, ns, k, rfl, hS, h0, kq⟩ := h
    refine ⟨_, pss_cons (ps_if (pt_cmpR op_lt (pv 1) (pe_callB call_len_seq rfl B.len bb_len (pa_cons (pv 0) pa_nil)) (nomark _)) (pss_one (ps_ret (pe_ix ix_list (pv 0) (pv 1) (fun _ _ => rfl)))) pss_nil) (pss_one (ps_ret pe_int)), ?_⟩
    refine ⟨_, rfl, _, rfl, a, _, rfl, .inl hS, _, _, rfl, rfl, _, rfl, ite2 (fun hlt => ?_) (fun hge => ?_)⟩
    · have hlt' : k < ns.length := by simpa using hlt
      exact ⟨_, rfl, _, rfl, a, _, k, _, rfl, rfl, hS, atI_ints h0 hlt', kq⟩
    · have hge' : (ns.length : Int) ≤ k := by simpa using hge
      have e : ns.getD k.toNat 0 = 0 := by rw [List.getD_eq_getElem?_getD, List.getElem?_eq_none (by omega)]; rfl
      rw [e] at kq
      exact kq
theorem scR : FnScope ["_law_found", "_law_count", "_law_drops"] ["_law_found", "_law_count"] (defScope sAre) := ⟨rfl, rfl, rfl, by decide +kernel, rfl, by decide +kernel, by decide +kernel⟩
theorem ok_are {f fW : Addr} {fd fdW : FuncData} (F : Fun K "_law_are_levels" "_law_are_levels" sAre f fd) (B : Bl mg) (FW : Fun K "_law_whole" "_law_whole" sWhole fW fdW) (bW : Binds K fdW ["_law_found"] []) (mW : mg "_law_whole" = some (.ref fW)) :
    FnOk P w K mg base CX0 2 f fd ["_law_found", "_law_count"] spAre := by
  have GW : FnOk P w K mg base CX0 1 fW fdW ["_law_found"] spWhole := ok_whole FW B
  refine F.ok scR (fun vs H Q E h => ?_) (fun cdv A outer s H vs Q E hr h => ?_)
  · obtain ⟨p, c, b, rfl, _⟩ := h
    rfl
  · obtain ⟨p, c, b, rfl, ⟨a, h1, h2⟩, k⟩ := h
    refine ⟨_, pss_cons (ps_if (PW.pt (pw_or (pt_not (pt_val (pe_callB call_isi rfl B.isi bb_isi (pa_cons (pv 0) (pa_cons (pe_bltn (v := .ty "tuple") rfl B.tuple bb_tuple rfl) pa_nil)))))
        (pw_or (pt_cmpR op_ne (pe_callB call_len_seq rfl B.len bb_len (pa_cons (pv 0) pa_nil)) pe_int (nomark _))
        (pw_or1 (pt_not (pt_val (pe_callB call_isi rfl B.isi bb_isi (pa_cons (pe_ix ix_tup (pv 0) pe_int (fun _ _ => rfl)) (pa_cons (pe_bltn (v := .ty "tuple") rfl B.tuple bb_tuple rfl) pa_nil))))))))) (pss_one (ps_ret pe_bl)) pss_nil)
      (pss_cons (ps_if (PW.pt (pw_or (pt_cmpR op_ne (pe_callB call_len_seq rfl B.len bb_len (pa_cons (pe_ix ix_tup (pv 0) pe_int (fun _ _ => rfl)) pa_nil)) (pv 1) (nomark _))
        (pw_or1 (pt_not (pt_val (pe_call GW hr rfl mW FW.kp bW .nil pass0 (pa_cons (pe_ix ix_tup (pv 0) pe_int (fun _ _ => rfl)) pa_nil))))))) (pss_one (ps_ret pe_bl)) pss_nil)
      (pss_cons (ps_for PassesOwn.never rfl (pi_tup (pe_ix ix_tup (pv 0) pe_int (fun _ _ => rfl))) (pg_name (i := 2) scR.nd rfl (Or.inl rfl))
        (pss_one (ps_if (pt_not (pt_val (pe_call GW hr rfl mW FW.kp bW .nil pass0 (pa_cons (pv 2) pa_nil)))) (pss_one (ps_ret pe_bl)) pss_nil)))
      (pss_one (ps_ret pe_bl)))), ?_⟩
    refine ⟨_, rfl, _, _, _, true, rfl, TyOf.tup h1, kit_tt, true, rfl, iteF ?_⟩
    refine ⟨_, rfl, p, _, rfl, .inr (SqT.of h1), rfl, _, rfl, iteF ?_⟩
    refine ⟨_, rfl, p, _, 0, _, rfl, rfl, SqT.of h1, rfl, _, _, _, true, rfl, TyOf.tup h2, kit_tt, true, rfl, iteF ?_⟩
    refine ⟨_, rfl, p, _, 0, _, rfl, rfl, SqT.of h1, rfl, a, _, rfl, .inr (SqT.of h2), _, rfl, rfl, _, rfl, ?_⟩
    refine iteNS (by rw [List.length_map]) ?_
    refine ⟨_, rfl, p, _, 1, _, rfl, rfl, SqT.of h1, rfl, b, rfl, true, rfl, iteF ?_⟩
    refine ⟨_, rfl, p, _, 0, _, rfl, rfl, SqT.of h1, rfl, a, rfl, ⟨_, SqT.of h2⟩, for_tup (K := K) (a := a) (xs := c.map V.int) (fun i σ H' => H' = H ∧ ∃ v, σ = [some (.ref p), some (.int (c.length : Nat)), v]) ⟨rfl, none, rfl⟩
      (fun i σ H' _ ⟨e, _⟩ => by rw [e]; exact SqT.of h2) ?_ ?_⟩
    · rintro i x σ H' hx ⟨rfl, v, rfl⟩
      obtain ⟨_, rfl⟩ := of_get_ints hx
      refine ⟨_, rfl, _, rfl, true, rfl, iteF ?_⟩
      exact ⟨rfl, _, rfl⟩
    · rintro σ H' ⟨rfl, v, rfl⟩
      exact k
theorem nd_mcs : (["many", "cup", "share"] : List Str).Nodup := by decide +kernel
theorem nd_hd : (["hold", "drops"] : List Str).Nodup := by decide +kernel
theorem scN : FnScope ["plan", "levels", "many", "holds", "shares", "bowl_hold", "bowl_share", "offered", "cups", "run_over"] ["plan", "levels", "many"] (defScope sTicks) := ⟨rfl, rfl, rfl, by decide +kernel, rfl, by decide +kernel, by decide +kernel⟩
theorem ok_ticks {f : Addr} {fd : FuncData} (F : Fun K "after_ticks" "after_ticks" sTicks f fd) (B : Bl mg) : FnOk P w K mg base CX0 1 f fd ["plan", "levels", "many"] spTicks2 := by
  refine F.ok scN (fun vs H Q E h => ?_) (fun cdv A outer s H vs Q E hr h => ?_)
  · obtain ⟨p, l, P0, c, b, n, rfl, _⟩ := h
    rfl
  · obtain ⟨p, l, PL, c, b, n, rfl, ⟨a1, a2, hp, ha1, ha2⟩, ⟨al, hl, hal⟩, hG, hO, hn, hnn, k⟩ := h
    have hsl := hG.len
    have hcl := hO.len
    refine ⟨_, pss_cons (ps_set (i := 3) scN.nd rfl (Or.inl rfl) (pe_ix ix_tup (pv 0) pe_int (fun _ _ => rfl)))
      (pss_cons (ps_set (i := 4) scN.nd rfl (Or.inl rfl) (pe_ix ix_tup (pv 0) pe_int (fun _ _ => rfl)))
      (pss_cons (ps_set (i := 5) scN.nd rfl (Or.inl rfl) (pe_ix ix_tup (pv 0) pe_int (fun _ _ => rfl)))
      (pss_cons (ps_set (i := 6) scN.nd rfl (Or.inl rfl) (pe_ix ix_tup (pv 0) pe_int (fun _ _ => rfl)))
      (pss_cons (ps_setComp (i := 7) (fv := [2]) (own := ["cup", "share"]) (g := gTup K 2 (gCons (gName 1) (gCons (gName 2) gNil))) scN.nd rfl (Or.inl rfl) rfl ⟨rfl, rfl, rfl, rfl, rfl⟩
        (pi_zip (k1 := .t) (k2 := .t) rfl B.zip (pa_cons (pe_ix ix_tup (pv 1) pe_int (fun _ _ => rfl)) (pa_cons (pv 4) pa_nil)))
        (fun _ _ _ _ _ _ => pg_tup rfl (pgs_cons (pg_name (i := 1) nd_mcs rfl (Or.inl rfl) (Or.inr rfl)) (pgs_cons (pg_name (i := 2) nd_mcs rfl (Or.inl rfl) (Or.inr rfl)) pgs_nil)))
        (fun _ _ _ _ _ _ => pe_op op_add (pv 1) (pe_op op_mul (pv 0) (pv 2))))
      (pss_cons (ps_set (i := 8) scN.nd rfl (Or.inl rfl) (pe_callTy call_tuple_of rfl B.tuple bb_tuple (pa_cons (pe_comp (fv := []) (own := ["hold", "drops"]) (g := gTup K 2 (gCons (gName 0) (gCons (gName 1) gNil))) rfl ⟨rfl, rfl, rfl, rfl, rfl⟩
        (pi_zip (k1 := .t) (k2 := .l) rfl B.zip (pa_cons (pv 3) (pa_cons (pv 7) pa_nil)))
        (fun _ _ _ _ _ _ => pg_tup rfl (pgs_cons (pg_name (i := 0) nd_hd rfl (Or.inl rfl) (Or.inr rfl)) (pgs_cons (pg_name (i := 1) nd_hd rfl (Or.inl rfl) (Or.inr rfl)) pgs_nil)))
        (fun _ _ _ _ _ _ => pe_callB (call_min2 rfl) rfl B.min bb_min (pa_cons (pv 0) (pa_cons (pv 1) pa_nil)))) pa_nil)))
      (pss_cons (ps_set (i := 9) scN.nd rfl (Or.inl rfl) (pe_op op_sub (pe_callB (call_sum rfl) rfl B.sum bb_sum (pa_cons (pv 7) pa_nil)) (pe_callB (call_sum rfl) rfl B.sum bb_sum (pa_cons (pv 8) pa_nil))))
      (pss_one (ps_ret (pe_tup (pa_cons (pv 8) (pa_cons (pe_callB (call_min2 rfl) rfl B.min bb_min (pa_cons (pv 5) (pa_cons (pe_op op_add (pe_op op_add (pe_ix ix_tup (pv 1) pe_int (fun _ _ => rfl)) (pv 9)) (pe_op op_mul (pv 2) (pv 6))) pa_nil))) pa_nil))))))))))), ?_⟩
    -- holds, shares, bowl_hold, bowl_share
    refine ⟨_, rfl, p, _, 0, _, rfl, rfl, SqT.of hp, rfl, ?_⟩
    refine ⟨_, rfl, p, _, 1, _, rfl, rfl, SqT.of hp, rfl, ?_⟩
    refine ⟨_, rfl, p, _, 2, _, rfl, rfl, SqT.of hp, rfl, ?_⟩
    refine ⟨_, rfl, p, _, 3, _, rfl, rfl, SqT.of hp, rfl, ?_⟩
    -- offered
    refine ⟨_, rfl, l, _, 0, _, rfl, rfl, SqT.of hl, rfl, _, rfl, al, a2, _, _, rfl, SqT.of hal, SqT.of ha2, ?_⟩
    refine comp_run (itn_zip (k1 := .t) (k2 := .t) (K := K) (SqT.of hal) (SqT.of ha2) (by rw [List.length_map, List.length_map]; omega)) (by rw [List.length_map]; exact Nat.le_of_lt (small1000 (by omega))) (fun σ' => ∃ o1 o2, σ' = [some (.int (n : Nat)), o1, o2]) (fun i => .int (offN PL c n i)) ⟨_, _, rfl⟩ ?_ ?_
    · rintro i x σ' H' R hi hS ⟨o1, o2, rfl⟩ ⟨q, u, v, rfl, hq, hu, hv⟩ kk
      obtain ⟨_, rfl⟩ := of_get_ints hu
      obtain ⟨_, rfl⟩ := of_get_ints hv
      exact ⟨q, _, rfl, SqT.of hq, rfl, _, _, rfl, _, _, rfl, rfl, _, rfl, _, rfl, _, rfl, _, _, rfl, rfl, cmL (by omega), _, _, rfl, rfl, kk _ _ ⟨_, _, rfl⟩ (Same.refl _)⟩
    intro D1 H1 hD1 hS1 hL1
    have hL1' : H1 D1 = some (.lst ((offsN PL c n).map V.int)) := by
      rw [hL1]
      unfold offsN
      rw [List.length_map, hcl, List.map_map]
      rfl
    -- cups
    refine ⟨_, rfl, _, rfl, a1, D1, _, _, rfl, SqT.of (hS1 _ _ ha1), SqL.of hL1', ?_⟩
    refine comp_run (itn_zip (k1 := .t) (k2 := .l) (K := K) (SqT.of (hS1 _ _ ha1)) (SqL.of hL1') (by rw [List.length_map, List.length_map, offsN_len])) (by rw [List.length_map]; exact Nat.le_of_lt (small1000 hn)) (fun σ' => ∃ o1 o2, σ' = [o1, o2]) (fun i => .int (cupN PL c n i)) ⟨_, _, rfl⟩ ?_ ?_
    · rintro i x σ' H' R hi hS ⟨o1, o2, rfl⟩ ⟨q, u, v, rfl, hq, hu, hv⟩ kk
      obtain ⟨hi1, rfl⟩ := of_get_ints hu
      obtain ⟨hi2, rfl⟩ := of_get_ints hv
      have e : (offsN PL c n).getD i 0 = offN PL c n i := getD_range hi1
      refine ⟨q, _, rfl, SqT.of hq, rfl, _, _, rfl, _, _, rfl, rfl, _, rfl, _, rfl, _, _, rfl, ?_⟩
      rw [e]
      exact kk _ _ ⟨_, _, rfl⟩ (Same.refl _)
    intro D2 H2 hD2 hS2 hL2
    have hL2' : H2 D2 = some (.lst ((cupsN PL c n).map V.int)) := by
      rw [hL2]
      unfold cupsN
      rw [List.length_map, List.map_map]
      rfl
    refine ⟨D2, _, rfl, .inl ⟨SqL.of hL2', fun q hq => ?_⟩⟩
    have hq1 : ∀ b o, H1 b = some o → upd H2 q (.tup ((cupsN PL c n).map V.int)) b = some o := fun b o e => (hS2.upd (hS2.free hq)) b o e
    -- run_over
    refine ⟨_, rfl, .l, D1, _, rfl, SqL.of (hq1 _ _ hL1'), _, rfl, .t, q, _, rfl, SqT.of upd_same, _, _, rfl, rfl, ?_⟩
    -- return
    have hq0 : ∀ b o, H b = some o → upd H2 q (.tup ((cupsN PL c n).map V.int)) b = some o := fun b o e => hq1 b o (hS1 b o e)
    refine ⟨_, rfl, _, rfl, _, rfl, l, _, 1, _, rfl, rfl, SqT.of (hq0 _ _ hl), rfl, _, rfl, _, _, rfl, rfl, _, rfl, _, rfl, _, _, rfl, rfl, cmL (by omega), _, _, rfl, rfl, _, _, rfl, two_line, fun r hr' => ?_⟩
    have ec := cupsN_eq hG hO n
    have eb := bowlN_eq hG hO n
    refine k r _ (fun b o e => ?_) ⟨q, ?_, ?_⟩
    · have e' := hq0 b o e
      rw [upd_ne (ne_of_none e' hr')]
      exact e'
    · rw [← eb]
      exact upd_same
    · rw [← ec, upd_ne (ne_of_none (H := upd H2 q (.tup ((cupsN PL c n).map V.int))) upd_same hr')]
      exact upd_same
theorem scC : FnScope ["plan", "levels", "who", "cost", "cups", "bowl", "from_cup", "left"] ["plan", "levels", "who", "cost"] (defScope sCall) := ⟨rfl, rfl, rfl, by decide +kernel, rfl, by decide +kernel, by decide +kernel⟩
theorem ok_call {f C : Addr} {fd : FuncData} (Fd : Fun K "after_call" "after_call" sCall f fd) (B : Bl mg) (mC : mg "NoCaller" = some (.ref C))
    (xC : PySem.W.excIn K C [.type "ValueError", .type "Exception", .type "BaseException", .type "object"] "ValueError.__new__" = true) : FnOk P w K mg base (CXn P w (.ref C)) 1 f fd ["plan", "levels", "who", "cost"] (spCall C) := by
  refine fn_okX Fd scC (fun vs H Q E h => ?_) (fun cdv A outer s H vs Q E hr h => ?_)
  · obtain ⟨p, l, PL, c, b, who, cost, rfl, _⟩ := h
    rfl
  · obtain ⟨p, l, PL, c, b, who, cost, rfl, ⟨a1, a2, hp, ha1, ha2⟩, ⟨al, hl, hal⟩, hcl, hn, kE, kF, kT⟩ := h
    refine ⟨_, pss_cons (ps_if (PW.pt (pw_or (pt_cmpR op_lt (pv 2) pe_int (nomark _)) (pw_or1 (pt_cmpR op_ge (pv 2) (pe_callB call_len_seq rfl B.len bb_len (pa_cons (pe_ix ix_tup (pv 0) pe_int (fun _ _ => rfl)) pa_nil)) (nomark _)))))
        (pss_one (ps_raise (Wish := fun H1 => E (.ref C) none H1) rfl rfl mC xC PySem.F.excBase_ValueError pe_str (fun pins σ H1 s1 h' a vs I hx hw => xe_made I hx hw))) pss_nil)
      (pss_cons (ps_set (i := 4) scC.nd rfl (Or.inl rfl) (pe_ix ix_tup (pv 1) pe_int (fun _ _ => rfl)))
      (pss_cons (ps_set (i := 5) scC.nd rfl (Or.inl rfl) (pe_ix ix_tup (pv 1) pe_int (fun _ _ => rfl)))
      (pss_cons (ps_if (pt_cmpR op_lt (pe_op op_add (pe_ix ix_tup (pv 4) (pv 2) (fun _ _ => rfl)) (pv 5)) (pv 3) (nomark _)) (pss_one (ps_ret (pe_tup (pa_cons pe_bl (pa_cons (pv 1) pa_nil))))) pss_nil)
      (pss_cons (ps_set (i := 6) scC.nd rfl (Or.inl rfl) (pe_callB (call_min2 rfl) rfl B.min bb_min (pa_cons (pe_ix ix_tup (pv 4) (pv 2) (fun _ _ => rfl)) (pa_cons (pv 3) pa_nil))))
      (pss_cons (ps_set (i := 7) scC.nd rfl (Or.inl rfl) (pe_op op_catG (pe_op op_catG (pe_slice sl_tup (pv 4) po_none (po_some (pv 2))) (pe_tup (pa_cons (pe_op op_sub (pe_ix ix_tup (pv 4) (pv 2) (fun _ _ => rfl)) (pv 6)) pa_nil))) (pe_slice sl_tup (pv 4) (po_some (pe_op op_add (pv 2) pe_int)) po_none)))
      (pss_one (ps_ret (pe_tup (pa_cons pe_bl (pa_cons (pe_tup (pa_cons (pv 7) (pa_cons (pe_op op_sub (pv 5) (pe_op op_sub (pv 3) (pv 6))) pa_nil))) pa_nil)))))))))), ?_⟩
    -- if who < 0 or who >= len(plan[0])
    refine ⟨_, rfl, _, _, rfl, rfl, _, rfl, ite2 (fun hneg => ?_) (fun hneg => ?_)⟩
    · have hw : who < 0 := by simpa using hneg
      refine iteT ?_
      exact ⟨by decide, kE (.inl hw)⟩
    have hw0 : 0 ≤ who := by
      have : ¬ who < 0 := by simpa using hneg
      omega
    refine ⟨_, rfl, _, rfl, p, _, 0, _, rfl, rfl, SqT.of hp, rfl, a1, _, rfl, .inr (SqT.of ha1), _, _, rfl, rfl, _, rfl, ite2 (fun hge => ?_) (fun hge => ?_)⟩
    · have hw : (PL.hs.length : Int) ≤ who := by simpa using hge
      exact ⟨by decide, kE (.inr hw)⟩
    have hw1 : who < PL.hs.length := by
      have : ¬ (PL.hs.length : Int) ≤ who := by simpa using hge
      omega
    have hwc : who < c.length := by omega
    have hwl : who < (c.map V.int).length := by rw [List.length_map]; exact hwc
    -- cups, bowl
    refine ⟨_, rfl, l, _, 0, _, rfl, rfl, SqT.of hl, rfl, ?_⟩
    refine ⟨_, rfl, l, _, 1, _, rfl, rfl, SqT.of hl, rfl, ?_⟩
    refine ⟨_, rfl, _, rfl, al, _, who, _, rfl, rfl, SqT.of hal, atI_ints hw0 hwc, _, rfl, _, _, rfl, rfl, _, rfl, _, _, rfl, rfl, _, rfl, ite2 (fun hlt => ?_) (fun hlt => ?_)⟩
    · have hlt' : c.getD who.toNat 0 + b < cost := by simpa using hlt
      refine ⟨_, rfl, two_line, fun q hq => ?_⟩
      exact kF hw0 hw1 hlt' q _ (Same.new hq) upd_same
    have hle : cost ≤ c.getD who.toNat 0 + b := by
      have : ¬ c.getD who.toNat 0 + b < cost := by simpa using hlt
      omega
    -- from_cup
    refine ⟨_, rfl, _, rfl, al, _, who, _, rfl, rfl, SqT.of hal, atI_ints hw0 hwc, _, rfl, _, _, rfl, ?_⟩
    -- left
    obtain ⟨el, nl⟩ := cut_lo hw0 hwl
    obtain ⟨eh, nh⟩ := cut_hi hw0 hwl
    refine ⟨_, rfl, _, rfl, who, rfl, al, _, rfl, SqT.of hal, nl, fun q1 hq1 => ?_⟩
    have e1 := Same.new (o := .tup (cutV (c.map V.int) none (some who))) hq1
    refine ⟨_, rfl, _, rfl, al, _, who, _, rfl, rfl, SqT.of (e1 _ _ hal), atI_ints hw0 hwc, _, rfl, _, _, rfl, rfl, one_line, fun q2 hq2 => ?_⟩
    have e2 := Same.new (o := .tup [.int (c.getD who.toNat 0 - fc c who.toNat cost)]) hq2
    refine ⟨q1, q2, _, _, rfl, rfl, e2 _ _ upd_same, upd_same, ?_, fun q3 H3 e3 h3 => ?_⟩
    · rw [el, List.length_take]
      refine Nat.le_of_lt (small1000 ?_)
      show min who.toNat (c.map V.int).length + 1 ≤ 1000
      rw [List.length_map]
      omega
    have E3 := (e1.trans e2).trans e3
    refine ⟨_, rfl, _, rfl, _, _, rfl, rfl, who + 1, rfl, al, _, rfl, SqT.of (E3 _ _ hal), nh, fun q4 hq4 => ?_⟩
    have e4 := Same.new (o := .tup (cutV (c.map V.int) (some (who + 1)) none)) hq4
    refine ⟨q3, q4, _, _, rfl, rfl, e4 _ _ h3, upd_same, ?_, fun q5 H5 e5 h5 => ?_⟩
    · rw [el, eh, List.length_append, List.length_take, List.length_drop]
      refine Nat.le_of_lt (small1000 ?_)
      show min who.toNat (c.map V.int).length + 1 + ((c.map V.int).length - (who.toNat + 1)) ≤ 1000
      rw [List.length_map]
      omega
    have h5' : H5 q5 = some (.tup ((c.set who.toNat (c.getD who.toNat 0 - fc c who.toNat cost)).map V.int)) := by
      rw [h5, el, eh]
      exact congrArg (fun z => some (HO.tup z)) (take_set (by omega))
    have E5 := (E3.trans e4).trans e5
    -- return
    refine ⟨_, rfl, _, rfl, _, rfl, _, rfl, _, _, rfl, rfl, _, _, rfl, rfl, two_line, fun q6 hq6 => ⟨two_line, fun q7 hq7 => ?_⟩⟩
    have e6 := Same.new (o := .tup [.ref q5, .int (b - (cost - fc c who.toNat cost))]) hq6
    have e7 := Same.new (o := .tup [.bl true, .ref q6]) hq7
    exact kT hw0 hw1 hle q7 q6 _ ((E5.trans e6).trans e7) upd_same ⟨q5, e7 _ _ upd_same, e7 _ _ (e6 _ _ h5')⟩
theorem nd_ck : (["_law_cell", "_law_k"] : List Str).Nodup := by decide +kernel
theorem scP : FnScope ["_law_script", "_law_count", "_law_cell", "_law_holds", "_law_shares", "_law_k", "_law_bowl"] ["_law_script", "_law_count"] (defScope sPlan) := ⟨rfl, rfl, rfl, by decide +kernel, rfl, by decide +kernel, by decide +kernel⟩
theorem ok_plan {f fA : Addr} {fd fdA : FuncData} (Fd : Fun K "_law_plan_of" "_law_plan_of" sPlan f fd) (B : Bl mg) (FA : Fun K "_law_at" "_law_at" sAt fA fdA) (bA : Binds K fdA ["_law_script", "_law_k"] []) (mA : mg "_law_at" = some (.ref fA)) :
    FnOk P w K mg base CX0 2 f fd ["_law_script", "_law_count"] (spPlan K) := by
  have GA : FnOk P w K mg base CX0 1 fA fdA ["_law_script", "_law_k"] (spAt K) := ok_at FA B
  refine Fd.ok scP (fun vs H Q E h => ?_) (fun cdv A outer s H vs Q E hr h => ?_)
  · obtain ⟨a, ns, n, rfl, _⟩ := h
    rfl
  · obtain ⟨a, ns, n, rfl, hS, hn1, hn2, kq⟩ := h
    refine ⟨_, pss_cons (ps_set (i := 2) scP.nd rfl (Or.inr rfl) (pe_call GA hr rfl mA FA.kp bA .nil pass0 (pa_cons (pv 0) (pa_cons pe_int pa_nil))))
      (pss_cons (ps_set (i := 3) scP.nd rfl (Or.inl rfl) (pe_lst pa_nil))
      (pss_cons (ps_set (i := 4) scP.nd rfl (Or.inl rfl) (pe_lst pa_nil))
      (pss_cons (ps_for PassesOwn.never rfl (pi_range1 rfl B.range (pa_cons (pv 1) pa_nil)) (pg_name (i := 5) scP.nd rfl (Or.inl rfl))
        (pss_cons (ps_expr (pe_bm F.plainAttrs_list F.slot_list_append F.type_list_append mt_append (pv 3) (pa_cons (pe_op op_mod (pe_op op_mod (pe_op op_mul (pe_op op_add (pe_op op_fdiv (pv 2) (pe_op op_add pe_int (pv 5))) (pe_op op_mul pe_int (pv 5))) pe_int) pe_int) pe_int) pa_nil)))
        (pss_one (ps_expr (pe_bm F.plainAttrs_list F.slot_list_append F.type_list_append mt_append (pv 4) (pa_cons (pe_op op_mod (pe_op op_mod (pe_op op_mul (pe_op op_add (pe_op op_fdiv (pv 2) (pe_op op_add pe_int (pe_op op_mul pe_int (pv 5)))) (pv 5)) pe_int) pe_int) pe_int) pa_nil))))))
      (pss_cons (ps_set (i := 6) scP.nd rfl (Or.inl rfl) (pe_op op_mod (pe_op op_mod (pe_op op_mul (pe_call GA hr rfl mA FA.kp bA .nil pass0 (pa_cons (pv 0) (pa_cons pe_int pa_nil))) pe_int) pe_int) pe_int))
      (pss_cons (ps_if (pt_cmpR op_eq (pe_op op_mod (pe_op op_mod (pe_op op_mul (pe_call GA hr rfl mA FA.kp bA .nil pass0 (pa_cons (pv 0) (pa_cons pe_int pa_nil))) pe_int) pe_int) pe_int) pe_int (nomark _))
        (pss_cons (ps_setComp (i := 3) (fv := [2]) (own := ["_law_k"]) scP.nd rfl (Or.inl rfl) rfl ⟨rfl, rfl, rfl, rfl, rfl⟩ (pi_range1 rfl B.range (pa_cons (pv 1) pa_nil)) (fun _ _ _ _ _ _ => pg_name (i := 1) nd_ck rfl (Or.inl rfl) (Or.inr rfl))
            (fun _ _ _ _ _ _ => pe_op op_mod (pe_op op_fdiv (pv 0) (pe_op op_add pe_int (pv 1))) pe_int))
          (pss_cons (ps_asg (pe_op op_mod (pv 2) (pe_callTy call_int_text rfl B.int bb_int (pa_cons (pe_op op_add_str pe_str (pe_op op_mul_str pe_str pe_int)) pa_nil))) (pg_sub (pv 4) (pe_un un_neg pe_int) set_list))
          (pss_one (ps_set (i := 6) scP.nd rfl (Or.inl rfl) (pe_op op_mod (pe_call GA hr rfl mA FA.kp bA .nil pass0 (pa_cons (pv 0) (pa_cons pe_int pa_nil))) pe_int))))) pss_nil)
      (pss_one (ps_ret (pe_tup (pa_cons (pe_callTy call_tuple_of rfl B.tuple bb_tuple (pa_cons (pv 3) pa_nil)) (pa_cons (pe_callTy call_tuple_of rfl B.tuple bb_tuple (pa_cons (pv 4) pa_nil)) (pa_cons (pv 6)
        (pa_cons (pe_op op_mod (pe_op op_mod (pe_op op_mul (pe_call GA hr rfl mA FA.kp bA .nil pass0 (pa_cons (pv 0) (pa_cons pe_int pa_nil))) pe_int) pe_int) pe_int) pa_nil)))))))))))), ?_⟩
    refine ⟨_, rfl, a, ns, 1, rfl, hS, by decide, ?_⟩
    refine ⟨by decide, fun hA hhA => ?_⟩
    refine ⟨by decide, fun sA hsA => ?_⟩
    have hhs : sA ≠ hA := fun e => by rw [e, upd_same] at hsA; cases hsA
    have hsA0 : H sA = none := by rw [upd_ne hhs] at hsA; exact hsA
    refine ⟨_, rfl, n, rfl, by omega, by omega, for_range (lo := 0) (n := ((n : Int)).toNat) (fun i σ H' => ∃ v, σ = [some (.ref a), some (.int n), some (.int (ns.getD 1 0)), some (.ref hA), some (.ref sA), v, none] ∧ Same H H' ∧ LiH H' hA i ∧ LiH H' sA i)
      ⟨none, rfl, ((Same.refl H).upd hhA).upd hsA0, ⟨[], by rw [upd_ne hhs.symm, upd_same]; rfl, rfl, by simp⟩, ⟨[], by rw [upd_same]; rfl, rfl, by simp⟩⟩ ?_ ?_⟩
    · rintro i σ H' hi ⟨v, rfl, hS', ⟨xs, hx1, hx2, hx3⟩, hy⟩
      have hi' : i < n := by simpa using hi
      refine ⟨_, rfl, .inl ⟨rfl, _, SqL.of hx1⟩, _, rfl, _, rfl, _, _, rfl, rfl, _, _, rfl, rfl, cDv (by omega), _, rfl, _, _, rfl, rfl, cmL (by omega), _, _, rfl, rfl, _, _, rfl, rfl, cmR (by omega), _, _, rfl, rfl, (by show (0 : Int) < 1019; decide), _, _, rfl, rfl, (by show (0 : Int) < 9; decide),
        hA, _, _, rfl, rfl, hx1, small1000 (by rw [List.length_map]; omega), ?_⟩
      obtain ⟨ys, hy1, hy2, hy3⟩ := hy.other hhs (o := .lst (xs.map V.int ++ [.int _]))
      refine ⟨_, rfl, .inl ⟨rfl, _, SqL.of hy1⟩, _, rfl, _, rfl, _, _, rfl, rfl, cmL (by omega), _, _, rfl, rfl, _, _, rfl, rfl, cDv (by omega), _, rfl, _, _, rfl, rfl, _, _, rfl, rfl, cmR (by omega), _, _, rfl, rfl, (by show (0 : Int) < 1021; decide), _, _, rfl, rfl, (by show (0 : Int) < 4; decide),
        sA, _, _, rfl, rfl, hy1, small1000 (by rw [List.length_map]; omega), ?_⟩
      exact ⟨_, rfl, (hS'.upd hhA).upd hsA0, (LiH.snoc hx2 hx3 (mod0 _ (by decide))).other hhs.symm, LiH.snoc hy2 hy3 (mod0 _ (by decide))⟩
    rintro σ H1 ⟨kv, rfl, hS1, hL1, hM1⟩
    rw [Int.toNat_natCast] at hL1 hM1
    refine ⟨_, rfl, a, ns, 2, rfl, hS1.seq hS, by decide, _, _, rfl, rfl, cmR (by omega), _, _, rfl, rfl, (by show (0 : Int) < 1009; decide), _, _, rfl, rfl, (by show (0 : Int) < 12; decide), ?_⟩
    have hb0 : 0 ≤ ns.getD 2 0 * 48271 % 1009 % 12 := mod0 _ (by decide)
    dsimp only [gName]
    refine meet (fun σ' H' => ∃ hB bw, σ' = [some (.ref a), some (.int n), some (.int (ns.getD 1 0)), some (.ref hB), some (.ref sA), kv, some (.int bw)] ∧ Same H H' ∧ LiH H' hB n ∧ LiH H' sA n ∧ 0 ≤ bw) ?_ ?_
    · rintro σ' H6 ⟨hB, bw, rfl, hS6, ⟨xs', hx1', hx2', hx3'⟩, ⟨ys', hy1', hy2', hy3'⟩, hbw⟩
      refine ⟨_, rfl, hB, _, rfl, .inl ⟨SqL.of hx1', fun t1 ht1' => ?_⟩⟩
      have e1 := Same.new (o := .tup (xs'.map V.int)) ht1'
      refine ⟨_, rfl, sA, _, rfl, .inl ⟨SqL.of (e1 _ _ hy1'), fun t2 ht2' => ?_⟩⟩
      have e2 := Same.new (o := .tup (ys'.map V.int)) ht2'
      refine ⟨_, rfl, _, rfl, a, ns, 2, rfl, ((hS6.trans e1).trans e2).seq hS, by decide, _, _, rfl, rfl, cmR (by omega), _, _, rfl, rfl, (by show (0 : Int) < 1013; decide), _, _, rfl, rfl, (by show (0 : Int) < 3; decide), four_line, fun r hr' => ?_⟩
      have e3 := Same.new (o := .tup [.ref t1, .ref t2, .int bw, .int (ns.getD 2 0 * 48271 % 1013 % 3)]) hr'
      exact kq r ⟨xs', ys', bw, ns.getD 2 0 * 48271 % 1013 % 3⟩ _ (((hS6.trans e1).trans e2).trans e3) ⟨t1, t2, upd_same, e3 _ _ (e2 _ _ upd_same), e3 _ _ upd_same⟩ ⟨hx2', hy2', hx3', hy3', hbw, mod0 _ (by decide)⟩
    · intro km
      refine ⟨_, rfl, a, ns, 2, rfl, hS1.seq hS, by decide, _, _, rfl, rfl, cmR (by omega), _, _, rfl, rfl, (by show (0 : Int) < 1097; decide), _, _, rfl, rfl, (by show (0 : Int) < 3; decide), rfl, _, rfl, ite2 (fun _ => ?_) (fun _ => ?_)⟩
      · refine ⟨_, rfl, n, rfl, by omega, by omega, ?_⟩
        refine comp_run (itn_range (lo := 0) (n := ((n : Int)).toNat)) (Nat.le_of_lt (small1000 (by omega))) (fun σ' => ∃ o, σ' = [some (.int (ns.getD 1 0)), o]) (fun i => .int (ns.getD 1 0 / (2 + (0 + (i : Int))) % 1001)) ⟨_, rfl⟩ ?_ ?_
        · rintro i x σ' H' R hi hS' ⟨o, rfl⟩ rfl kk
          exact ⟨_, rfl, _, rfl, _, _, rfl, rfl, _, _, rfl, rfl, cDv (by omega), _, _, rfl, rfl, (by show (0 : Int) < 1001; decide), kk _ _ ⟨_, rfl⟩ (Same.refl _)⟩
        intro D3 H7 hD3 hS7 hL7
        rw [Int.toNat_natCast] at hL7
        have hH7 : LiH H7 D3 n := LiH.mk hL7 fun i hi => mod0 _ (by decide)
        obtain ⟨ys, hy1, hy2, hy3⟩ := hM1.on hS7
        have hDs : D3 ≠ sA := fun e => by
          obtain ⟨zs, hz, _⟩ := hM1
          rw [e, hz] at hD3
          cases hD3
        refine ⟨_, rfl, _, _, rfl, rfl, e30_mul, _, _, rfl, rfl, e30_cat, _, _, rfl, e30_int, e30_len, _, _, rfl, rfl, (by show (0 : Int) < 10 ^ 30; decide), _, rfl, 1, rfl, sA, _, _, n - 1, rfl, rfl, hy1, by rw [List.length_map, hy2]; exact ixN_last hn1, ?_⟩
        have eS := (hS1.trans hS7).upd (o := .lst ((ys.map V.int).set (n - 1) (.int (ns.getD 1 0 % 10 ^ 30)))) hsA0
        refine ⟨_, rfl, a, ns, 2, rfl, eS.seq hS, by decide, _, _, rfl, rfl, (by show (0 : Int) < 1001; decide), ?_⟩
        exact km _ _ ⟨D3, _, rfl, eS, hH7.other hDs, LiH.set hy2 hy3 (mod0 _ (by decide)), mod0 _ (by decide)⟩
      · exact km _ _ ⟨hA, _, rfl, hS1, hL1, hM1, hb0⟩
end
end K6

end
section
set_option Elab.async false
set_option linter.all false
set_option maxRecDepth 100000
set_option maxHeartbeats 8000000
namespace K6
open PySem L2
section
variable {P : Program} {w : World} {K : PySem.W.Frag} {mg : Str → Option Value} {base : Heap}
structure GT (K : PySem.W.Frag) (mg : Str → Option Value) (D C : Addr) where
  B : Bl mg
  cl : Cls K D
  nP : NoAttr K D "plan"
  nL : NoAttr K D "levels"
  mgD : mg "Gate" = some (.ref D)
  mN : mg "NoCaller" = some (.ref C)
  xC : PySem.W.excIn K C [.type "ValueError", .type "Exception", .type "BaseException", .type "object"] "ValueError.__new__" = true
  xm : PySem.W.exmOne K (.ref C) (.ref C) = some true
  F : Dn K mg "full" sFull ["plan"]
  N : Dn K mg "after_ticks" sTicks ["plan", "levels", "many"]
  Cd : Dn K mg "after_call" sCall ["plan", "levels", "who", "cost"]
  fI : Addr
  dI : FuncData
  I : Fun K "__init__" "Gate.__init__" sInit fI dI
  bI : Binds K dI ["self", "plan"] []
  M : Mk K D fI
  fT : Addr
  dT : FuncData
  Tk : Fun K "tick" "Gate.tick" sGTick fT dT
  bT : Binds K dT ["self", "many"] []
  mT : Meth K D "tick" fT
  fC : Addr
  dC : FuncData
  Cl : Fun K "call" "Gate.call" sGCall fC dC
  bC : Binds K dC ["self", "who", "cost"] []
  mC : Meth K D "call" fC
theorem scGI : FnScope ["self", "plan"] ["self", "plan"] (defScope sInit) := ⟨rfl, rfl, rfl, by decide +kernel, rfl, by decide +kernel, by decide +kernel⟩
theorem ok_init {D C : Addr} (T : GT K mg D C) : FnOk P w K mg base CX0 2 T.fI T.dI ["self", "plan"] (spInitG D) := by
  have GF : FnOk P w K mg base CX0 1 T.F.f T.F.d ["plan"] spFull := ok_full T.F.F
  refine T.I.ok scGI (fun vs H Q E h => ?_) (fun cdv A outer s H vs Q E hr h => ?_)
  · obtain ⟨g, p, dx, PL, rfl, _⟩ := h
    rfl
  · obtain ⟨g, p, dx, PL, rfl, hg, hP, k⟩ := h
    refine ⟨_, pss_cons (ps_fld (pv 0) (pv 1) rfl) (pss_one (ps_fld (pv 0) (pe_call GF hr rfl T.F.m T.F.F.kp T.F.b .nil pass0 (pa_cons (pv 1) pa_nil)) rfl)), ?_⟩
    refine ⟨_, rfl, _, rfl, g, D, dx, _, rfl, hg, T.cl, T.nP, (by show 0 < 1000; decide), ?_⟩
    have hgt : ∀ b xs, H b = some (.tup xs) → b ≠ g := fun b xs hb e => by rw [e, hg] at hb; cases hb
    have e1 : SameX g H (upd H g (.ins D dx (putF "plan" (.ref p) []))) := SameX.upd'
    refine ⟨_, rfl, p, PL, rfl, hP.onX e1 hgt, fun l H2 e2 hl => ?_⟩
    refine ⟨_, rfl, g, D, dx, _, rfl, e2 _ _ upd_same, T.cl, T.nL, (by show 1 < 1000; decide), ?_⟩
    exact k l _ ⟨dx, upd_same⟩ (hl.onX SameX.upd' (fun b xs hb e => by rw [e, e2 _ _ upd_same] at hb; cases hb)) ((e1.trans (e2.x g)).upd)
theorem scGT : FnScope ["self", "many"] ["self", "many"] (defScope sGTick) := ⟨rfl, rfl, rfl, by decide +kernel, rfl, by decide +kernel, by decide +kernel⟩
theorem ok_gtick {D C : Addr} (T : GT K mg D C) : FnOk P w K mg base CX0 2 T.fT T.dT ["self", "many"] (spTickG D) := by
  have GN : FnOk P w K mg base CX0 1 T.N.f T.N.d ["plan", "levels", "many"] spTicks2 := ok_ticks T.N.F T.B
  refine T.Tk.ok scGT (fun vs H Q E h => ?_) (fun cdv A outer s H vs Q E hr h => ?_)
  · obtain ⟨g, p, l, PL, c, b, n, rfl, _⟩ := h
    rfl
  · obtain ⟨g, p, l, PL, c, b, n, rfl, ⟨dx, hg⟩, hP, hL, hG, hO, hn, hnn, k⟩ := h
    refine ⟨_, pss_one (ps_fld (pv 0) (pe_call GN hr rfl T.N.m T.N.F.kp T.N.b .nil pass0 (pa_cons (pe_fld (pv 0) rfl) (pa_cons (pe_fld (pv 0) rfl) (pa_cons (pv 1) pa_nil)))) rfl), ?_⟩
    refine ⟨_, rfl, g, D, dx, _, _, rfl, hg, T.cl, T.nP, gf_plan _ _, _, rfl, g, D, dx, _, _, rfl, hg, T.cl, T.nL, gf_levels _ _, _, rfl, p, l, PL, c, b, n, rfl, hP, hL, hG, hO, hn, hnn, fun l' H1 e1 h1 => ?_⟩
    refine ⟨_, rfl, g, D, dx, _, rfl, e1 _ _ hg, T.cl, T.nL, gf_len _ _, ?_⟩
    exact k l' _ ⟨dx, Eq.trans upd_same (congrArg (fun z => some (HO.ins D dx z)) (gf_put p l l'))⟩ (h1.onX SameX.upd' (fun b xs hb e => by rw [e, e1 _ _ hg] at hb; cases hb)) ((e1.x g).upd)
theorem scGC : FnScope ["self", "who", "cost", "outcome"] ["self", "who", "cost"] (defScope sGCall) := ⟨rfl, rfl, rfl, by decide +kernel, rfl, by decide +kernel, by decide +kernel⟩
theorem ok_gcall {D C : Addr} (T : GT K mg D C) : FnOk P w K mg base (CXn P w (.ref C)) 2 T.fC T.dC ["self", "who", "cost"] (spCallG D C) := by
  have GC : FnOk P w K mg base (CXn P w (.ref C)) 1 T.Cd.f T.Cd.d ["plan", "levels", "who", "cost"] (spCall C) := ok_call T.Cd.F T.B T.mN T.xC
  refine fn_okX T.Cl scGC (fun vs H Q E h => ?_) (fun cdv A outer s H vs Q E hr h => ?_)
  · obtain ⟨g, p, l, PL, st, who, cost, rfl, _⟩ := h
    rfl
  · obtain ⟨g, p, l, PL, st, who, cost, rfl, ⟨dx, hg⟩, hP, hL, hcl, hn, kE, kQ⟩ := h
    refine ⟨_, pss_cons (ps_set (i := 3) scGC.nd rfl (Or.inl rfl) (pe_call GC hr rfl T.Cd.m T.Cd.F.kp T.Cd.b .nil passN (pa_cons (pe_fld (pv 0) rfl) (pa_cons (pe_fld (pv 0) rfl) (pa_cons (pv 1) (pa_cons (pv 2) pa_nil))))))
      (pss_cons (ps_fld (pv 0) (pe_ix ix_tup (pv 3) pe_int (fun _ _ => rfl)) rfl)
      (pss_one (ps_ret (pe_ix ix_tup (pv 3) pe_int (fun _ _ => rfl))))), ?_⟩
    refine ⟨_, rfl, g, D, dx, _, _, rfl, hg, T.cl, T.nP, gf_plan _ _, _, rfl, g, D, dx, _, _, rfl, hg, T.cl, T.nL, gf_levels _ _, _, rfl, _, rfl, p, l, PL, st.1, st.2, who, cost, rfl, hP, hL, hcl, hn, fun hb => kE ?_, fun h0 h1 hlt q H' e hq => ?_, fun h0 h1 hle q r H' e hq hr' => ?_⟩
    · rintro ⟨h0, h1⟩
      rcases hb with h | h <;> omega
    · have hg' := e _ _ hg
      have nqg : q ≠ g := fun z => by rw [z, hg'] at hq; cases hq
      refine ⟨_, rfl, q, _, 1, _, rfl, rfl, SqT.of hq, rfl, _, rfl, g, D, dx, _, rfl, hg', T.cl, T.nL, gf_len _ _, ?_⟩
      refine ⟨_, rfl, q, _, 0, _, rfl, rfl, SqT.of (by rw [upd_ne nqg]; exact hq), rfl, ?_⟩
      have hne : ¬ enough st who cost := by unfold enough; omega
      have := kQ ⟨h0, h1⟩ l _ ⟨dx, Eq.trans upd_same (congrArg (fun z => some (HO.ins D dx z)) (gf_put p l l))⟩ (by rw [step_no ⟨h0, h1⟩ hne]; exact (hL.on e).onX SameX.upd' (fun b xs hb z => by rw [z, hg'] at hb; cases hb)) ((e.x g).upd)
      rw [decide_eq_false hne] at this
      exact this
    · have hg' := e _ _ hg
      have nqg : q ≠ g := fun z => by rw [z, hg'] at hq; cases hq
      refine ⟨_, rfl, q, _, 1, _, rfl, rfl, SqT.of hq, rfl, _, rfl, g, D, dx, _, rfl, hg', T.cl, T.nL, gf_len _ _, ?_⟩
      refine ⟨_, rfl, q, _, 0, _, rfl, rfl, SqT.of (by rw [upd_ne nqg]; exact hq), rfl, ?_⟩
      have hen : enough st who cost := by unfold enough; omega
      have := kQ ⟨h0, h1⟩ r _ ⟨dx, Eq.trans upd_same (congrArg (fun z => some (HO.ins D dx z)) (gf_put p l r))⟩ (by rw [step_yes ⟨h0, h1⟩ hen]; exact hr'.onX SameX.upd' (fun b xs hb z => by rw [z, hg'] at hb; cases hb)) ((e.x g).upd)
      rw [decide_eq_true hen] at this
      exact this
theorem str_ct : ¬ (V.str "call" = V.str "tick") := fun z => by
  injection z with z
  exact absurd z (by decide +kernel)
theorem nm_tick : ¬ (("tick" : Str) = "levels") ∧ ¬ (("tick" : Str) = "plan") := by decide +kernel
theorem nm_call : ¬ (("call" : Str) = "levels") ∧ ¬ (("call" : Str) = "plan") := by decide +kernel
theorem scAn : FnScope ["gate", "deed"] ["gate", "deed"] (defScope sAnswer) := ⟨rfl, rfl, rfl, by decide +kernel, rfl, by decide +kernel, by decide +kernel⟩
theorem ok_ans {f D C : Addr} {fd : FuncData} (Fd : Fun K "answer_to" "answer_to" sAnswer f fd) (T : GT K mg D C) : FnOk P w K mg base CX0 3 f fd ["gate", "deed"] (spAns D) := by
  have GT' : FnOk P w K mg base CX0 2 T.fT T.dT ["self", "many"] (spTickG D) := ok_gtick T
  have GC : FnOk P w K mg base (CXn P w (.ref C)) 2 T.fC T.dC ["self", "who", "cost"] (spCallG D C) := ok_gcall T
  refine Fd.ok scAn (fun vs H Q E h => ?_) (fun cdv A outer s H vs Q E hr h => ?_)
  · obtain ⟨g, p, l, d, PL, st, x, rfl, _⟩ := h
    rfl
  · obtain ⟨g, p, l, d, PL, st, x, rfl, ⟨dx, hg⟩, hP, hL, hG, hO, hn, hd, hB, k⟩ := h
    refine ⟨_, pss_cons (ps_if (pt_cmpR op_eq (pe_ix ix_tup (pv 1) pe_int (fun _ _ => rfl)) pe_str (nomark _))
        (pss_cons (ps_expr (pe_meth (pv 0) T.cl T.mT GT' hr T.bT .nil pass0 (pa_cons (pe_ix ix_tup (pv 1) pe_int (fun _ _ => rfl)) pa_nil))) (pss_one (ps_ret pe_non))) pss_nil)
      (pss_one (ps_try (C := C) rfl rfl rfl T.mN T.xm
        (fun pins W' => pss_one (ps_ret (pe_methT (pv 0) T.cl T.mC GC hr T.bC .nil (pa_cons (pe_ix ix_tup (pv 1) pe_int (fun _ _ => rfl)) (pa_cons (pe_ix ix_tup (pv 1) pe_int (fun _ _ => rfl)) pa_nil)))))
        (fun x => pss_one (ps_ret pe_non)))), ?_⟩
    cases x with
    | tick n =>
      refine ⟨_, rfl, d, _, 0, _, rfl, rfl, SqT.of hd, rfl, rfl, _, rfl, ite2 (fun _ => ?_) (fun h => absurd (decide_eq_true rfl) h)⟩
      have hB' : n ≤ 100 := hB
      exact ⟨_, rfl, g, dx, _, rfl, hg, gf_no _ _ nm_tick.1 nm_tick.2, _, rfl, d, _, 1, _, rfl, rfl, SqT.of hd, rfl, g, p, l, PL, st.1, st.2, n, rfl, ⟨dx, hg⟩, hP, hL, hG, hO, hn, by omega, fun l' H' h1 h2 h3 => k l' H' h1 h2 h3⟩
    | call who cost =>
      refine ⟨_, rfl, d, _, 0, _, rfl, rfl, SqT.of hd, rfl, rfl, _, rfl, ite2 (fun h => absurd (of_decide_eq_true h) str_ct) (fun _ => ?_)⟩
      intro pins
      refine ⟨_, rfl, g, dx, _, rfl, hg, gf_no _ _ nm_call.1 nm_call.2, _, rfl, d, _, 1, _, rfl, rfl, SqT.of hd, rfl, _, rfl, d, _, 2, _, rfl, rfl, SqT.of hd, rfl, g, p, l, PL, st, who, cost, rfl, ⟨dx, hg⟩, hP, hL, hO.len, hn, fun hb => ?_, fun hin l' H' h1 h2 h3 => ?_⟩
      · intro x
        have := k l H ⟨dx, hg⟩ (by rw [step_bad hb]; exact hL) (SameX.refl g H)
        rw [ans_bad hb] at this
        exact this
      · have := k l' H' h1 h2 h3
        rw [ans_in hin] at this
        exact this
theorem scAs : FnScope ["plan", "deeds", "gate", "given", "deed"] ["plan", "deeds"] (defScope sAnswers) := ⟨rfl, rfl, rfl, by decide +kernel, rfl, by decide +kernel, by decide +kernel⟩
theorem ok_answers {f D C : Addr} {fd : FuncData} (Fd : Fun K "answers" "answers" sAnswers f fd) (T : GT K mg D C) (An : Dn K mg "answer_to" sAnswer ["gate", "deed"]) : FnOk P w K mg base CX0 4 f fd ["plan", "deeds"] (spAnswers K) := by
  have GI : FnOk P w K mg base CX0 2 T.fI T.dI ["self", "plan"] (spInitG D) := ok_init T
  have GA : FnOk P w K mg base CX0 3 An.f An.d ["gate", "deed"] (spAns D) := ok_ans An.F T
  refine Fd.ok scAs (fun vs H Q E h => ?_) (fun cdv A outer s H vs Q E hr h => ?_)
  · obtain ⟨p, dl, PL, as, ds, rfl, _⟩ := h
    rfl
  · obtain ⟨p, dl, PL, as, ds, rfl, hP, hG, hn, hdl, hD, hB, hlen, k⟩ := h
    refine ⟨_, pss_cons (ps_set (i := 2) scAs.nd rfl (Or.inl rfl) (pe_make T.M GI hr rfl T.mgD T.bI .nil pass0 (pa_cons (pv 0) pa_nil)))
      (pss_cons (ps_set (i := 3) scAs.nd rfl (Or.inl rfl) (pe_lst pa_nil))
      (pss_cons (ps_for PassesOwn.never rfl (pi_list (pv 1)) (pg_name (i := 4) scAs.nd rfl (Or.inl rfl))
        (pss_one (ps_expr (pe_bm F.plainAttrs_list F.slot_list_append F.type_list_append mt_append (pv 3) (pa_cons (pe_call GA hr rfl An.m An.F.kp An.b .nil pass0 (pa_cons (pv 2) (pa_cons (pv 4) pa_nil))) pa_nil)))))
      (pss_one (ps_ret (pv 3))))), ?_⟩
    refine ⟨_, rfl, fun g dx ng ndx nex => ?_⟩
    have s0 : Same H (upd (upd H dx (.own g)) g (.ins D dx [])) := fun b o e => by
      rw [upd_ne (ne_of_none e ng), upd_ne (ne_of_none e ndx)]
      exact e
    refine ⟨g, p, dx, PL, rfl, upd_same, hP.on s0, fun l H1 hg1 hl1 hx1 => ⟨rfl, ?_⟩⟩
    have s1 : Same H H1 := hx1.same ng s0
    refine ⟨by decide, fun q hq => ?_⟩
    have e2 : Same H1 (upd H1 q (.lst [])) := Same.new hq
    have hq0 : H q = none := s1.free hq
    refine ⟨_, rfl, dl, rfl, ⟨_, SqL.of (e2 _ _ (s1 _ _ hdl))⟩, for_list (K := K) (a := dl) (xs := as.map V.ref) (fun i σ H' => ∃ l v, σ = [some (.ref p), some (.ref dl), some (.ref g), some (.ref q), v] ∧ Same H H' ∧ GtH D H' g p l ∧
        LvH H' l (stt PL (PL.hs, PL.bh) ds i).1 (stt PL (PL.hs, PL.bh) ds i).2 ∧ H' q = some (.lst ((List.range i).map fun i => aV (ansI PL (PL.hs, PL.bh) ds i))))
      ⟨l, none, rfl, s1.trans e2, hg1.on e2, by rw [stt_zero]; exact hl1.on e2, upd_same⟩ (fun i σ H' _ ⟨_, _, _, e, _⟩ => SqL.of (e _ _ hdl)) ?_ ?_⟩
    · rintro i y σ H' hy ⟨l', v, rfl, e, hg', hl', hq'⟩
      rw [List.getElem?_map] at hy
      obtain ⟨d, hd, rfl⟩ : ∃ d, as[i]? = some d ∧ V.ref d = y := by
        cases e : as[i]? with
        | none => rw [e] at hy; cases hy
        | some d => rw [e] at hy; exact ⟨d, rfl, Option.some.inj hy⟩
      obtain ⟨x, hx, hdx⟩ := (hD.on e).2 i d hd
      have hil : i < ds.length := (List.getElem?_eq_some_iff.mp hx).1
      have hxm : x ∈ ds := List.mem_of_getElem? hx
      refine ⟨_, rfl, .inl ⟨rfl, _, SqL.of hq'⟩, _, rfl, _, rfl, g, p, l', d, PL, stt PL (PL.hs, PL.bh) ds i, x, rfl, hg', hP.on e, hl', hG, LvOk.stt (s := (PL.hs, PL.bh)) hG (LvOk.full hG) (fun y hy => (hB y hy).ok) i (Nat.le_of_lt hil), hn, hdx, hB x hxm, fun l2 H2 h1 h2 h3 => ?_⟩
      have nqg : q ≠ g := hg'.neL hq'
      have hq2 := h3 _ _ hq' nqg
      refine ⟨q, _, _, rfl, rfl, hq2, small1000 (by rw [List.length_map, List.length_range]; omega), ?_⟩
      refine ⟨l2, _, rfl, (h3.same ng e).upd hq0, h1.updL hq2, ?_, ?_⟩
      · rw [stt_succ PL _ hx]
        exact h2.updL hq2
      · rw [upd_same, List.range_succ, List.map_append]
        show some (HO.lst (_ ++ [aV (ansOf PL (stt PL (PL.hs, PL.bh) ds i) x)])) = some (HO.lst (_ ++ [aV (ansOf PL (stt PL (PL.hs, PL.bh) ds i) (ds.getD i (.tick 0)))]))
        rw [getD_dd hx]
    · rintro σ H' ⟨l', v, rfl, e, hg', hl', hq'⟩
      rw [List.length_map, hD.1] at hq'
      exact ⟨_, rfl, k q H' e hq'⟩
theorem scD : FnScope ["_law_cells", "_law_count", "_law_deeds", "_law_k", "_law_cell", "_law_who", "_law_many", "_law_large", "_law_odd", "_law_times"] ["_law_cells", "_law_count"] (defScope sDrawn) := ⟨rfl, rfl, rfl, by decide +kernel, rfl, by decide +kernel, by decide +kernel⟩
theorem ok_drawn {f : Addr} {fd : FuncData} (Fd : Fun K "_law_drawn" "_law_drawn" sDrawn f fd) (B : Bl mg) : FnOk P w K mg base CX0 1 f fd ["_law_cells", "_law_count"] (spDrawn K) := by
  refine Fd.ok scD (fun vs H Q E h => ?_) (fun cdv A outer s H vs Q E hr h => ?_)
  · obtain ⟨a, ns, n, rfl, _⟩ := h
    rfl
  · obtain ⟨a, ns, n, rfl, hS, hlen, hn1, hn2, kq⟩ := h
    refine ⟨_, pss_cons (ps_set (i := 2) scD.nd rfl (Or.inl rfl) (pe_lst pa_nil))
      (pss_cons (ps_for PassesOwn.never rfl (pi_range1 rfl B.range (pa_cons (pe_callB call_len_seq rfl B.len bb_len (pa_cons (pv 0) pa_nil)) pa_nil)) (pg_name (i := 3) scD.nd rfl (Or.inl rfl))
        (pss_cons (ps_set (i := 4) scD.nd rfl (Or.inl rfl) (pe_op op_add (pe_ix ix_list (pv 0) (pv 3) (fun _ _ => rfl)) (pe_op op_mul pe_int (pv 3))))
        (pss_cons (ps_set (i := 5) scD.nd rfl (Or.inl rfl) (pe_op op_mod (pe_op op_mod (pe_op op_mul (pe_op op_add (pv 4) (pv 3)) pe_int) pe_int) (pv 1)))
        (pss_one (ps_if (pt_cmpR op_eq (pe_op op_mod (pe_op op_mod (pe_op op_mul (pv 4) pe_int) pe_int) pe_int) pe_int (nomark _))
          (pss_cons (ps_set (i := 6) scD.nd rfl (Or.inl rfl) (pe_op op_mod (pe_op op_mod (pe_op op_mul (pv 4) pe_int) pe_int) pe_int))
          (pss_cons (ps_if (pt_cmpR op_eq (pe_op op_mod (pe_op op_mod (pe_op op_mul (pv 4) pe_int) pe_int) pe_int) pe_int (nomark _)) (pss_one (ps_set (i := 6) scD.nd rfl (Or.inl rfl) pe_int)) pss_nil)
          (pss_one (ps_expr (pe_bm F.plainAttrs_list F.slot_list_append F.type_list_append mt_append (pv 2) (pa_cons (pe_tup (pa_cons pe_str (pa_cons (pv 6) pa_nil))) pa_nil))))))
          (pss_one (ps_if (pt_cmpR op_eq (pe_op op_mod (pe_op op_mod (pe_op op_mul (pv 4) pe_int) pe_int) pe_int) pe_int (nomark _))
            (pss_cons (ps_set (i := 7) scD.nd rfl (Or.inl rfl) pe_int)
            (pss_cons (ps_set (i := 8) scD.nd rfl (Or.inl rfl) (pe_ix ix_list (pe_lst (pa_cons (pe_un un_neg pe_int) (pa_cons (pv 1) (pa_cons (pe_un un_neg pe_int) (pa_cons (pv 7) (pa_cons (pe_op op_sub pe_int (pv 1)) (pa_cons (pe_op op_sub pe_int (pv 7)) pa_nil))))))) (pe_op op_mod (pv 3) pe_int) (fun _ _ => rfl)))
            (pss_one (ps_expr (pe_bm F.plainAttrs_list F.slot_list_append F.type_list_append mt_append (pv 2) (pa_cons (pe_tup (pa_cons pe_str (pa_cons (pv 8) (pa_cons (pe_op op_mod (pe_op op_mod (pe_op op_mul (pv 4) pe_int) pe_int) pe_int) pa_nil)))) pa_nil))))))
            (pss_cons (ps_set (i := 9) scD.nd rfl (Or.inl rfl) (pe_ix ix_list (pe_lst (pa_cons pe_int (pa_cons pe_int (pa_cons pe_int (pa_cons pe_int (pa_cons pe_int pa_nil)))))) (pe_op op_mod (pe_op op_mod (pe_op op_mul (pv 4) pe_int) pe_int) pe_int) (fun _ _ => rfl)))
            (pss_one (ps_expr (pe_bm F.plainAttrs_list F.slot_list_append F.type_list_append mt_append (pv 2) (pa_cons (pe_tup (pa_cons pe_str (pa_cons (pv 5) (pa_cons (pe_op op_mul (pe_op op_mod (pe_op op_mod (pe_op op_mul (pv 4) pe_int) pe_int) pe_int) (pv 9)) pa_nil)))) pa_nil))))))))))))
      (pss_one (ps_ret (pv 2)))), ?_⟩
    refine ⟨by decide, fun q hq => ?_⟩
    have e1 : Same H (upd H q (.lst [])) := Same.new hq
    refine ⟨_, rfl, a, _, rfl, .inl (e1.seq hS), _, rfl, by omega, by rw [List.length_map]; omega, for_range (lo := 0) (n := (((ns.map V.int).length : Int)).toNat) (fun i σ H' => ∃ as ds v3 v4 v5 v6 v7 v8 v9, σ = [some (.ref a), some (.int (n : Nat)), some (.ref q), v3, v4, v5, v6, v7, v8, v9] ∧ Same H H' ∧ H' q = some (.lst (as.map V.ref)) ∧ DsH H' as ds ∧ ds.length = i ∧ ∀ x ∈ ds, DdB x)
      ⟨[], [], none, none, none, none, none, none, none, rfl, e1, upd_same, DsH.nil _, rfl, by simp⟩ ?_ ?_⟩
    · rintro i σ H' hi ⟨as, ds, v3, v4, v5, v6, v7, v8, v9, rfl, hS', hq', hD, hl, hB⟩
      have hi' : i < ns.length := by rw [List.length_map] at hi; omega
      have hal : as.length = i := by rw [hD.1]; exact hl
      -- cell, who
      refine ⟨_, rfl, _, rfl, a, _, _, _, rfl, rfl, hS'.seq hS, at0 hi', _, rfl, _, _, rfl, rfl, cmL (by omega), _, _, rfl, rfl, ?_⟩
      refine ⟨_, rfl, _, rfl, _, _, rfl, rfl, _, _, rfl, rfl, cmR (by omega), _, _, rfl, rfl, (by show (0 : Int) < 1031; decide), _, rfl, _, _, rfl, rfl, (by show (0 : Int) < (n : Int); omega), ?_⟩
      dsimp only [gName]
      generalize ns.getD i 0 + 5 * (0 + (i : Int)) = cell
      generalize (cell + (0 + (i : Int))) * 48271 % 1031 % (n : Int) = who
      refine ⟨_, rfl, _, _, rfl, rfl, cmR (by omega), _, _, rfl, rfl, (by show (0 : Int) < 1033; decide), _, _, rfl, rfl, (by show (0 : Int) < 3; decide), rfl, _, rfl, ite2 (fun _ => ?_) (fun _ => ?_)⟩
      · -- ticks
        refine ⟨_, rfl, _, _, rfl, rfl, cmR (by omega), _, _, rfl, rfl, (by show (0 : Int) < 1049; decide), _, _, rfl, rfl, (by show (0 : Int) < 4; decide), ?_⟩
        have hm0 : 0 ≤ cell * 48271 % 1049 % 4 := mod0 _ (by decide)
        have hm1 : cell * 48271 % 1049 % 4 < 4 := mod1 _ (by decide)
        dsimp only [gName]
        refine meet (fun σ' H'' => H'' = H' ∧ ∃ m : Nat, m ≤ 100 ∧ σ' = [some (.ref a), some (.int (n : Nat)), some (.ref q), some (.int (0 + (i : Int))), some (.int cell), some (.int who), some (.int (m : Nat)), v7, v8, v9]) ?_ ?_
        · rintro σ' H'' ⟨rfl, m, hm, rfl⟩
          refine ⟨_, rfl, .inl ⟨rfl, _, SqL.of hq'⟩, _, rfl, two_line, fun r hr' => ⟨q, _, _, rfl, rfl, (Same.new hr') _ _ hq', small1000 (by rw [List.length_map]; omega), ?_⟩⟩
          obtain ⟨g1, g2, g3⟩ := deeds_snoc (x := .tick m) hS' hq hq' hD hr'
          exact ⟨as ++ [r], ds ++ [Dd.tick m], _, _, _, _, _, _, _, rfl, g1, g2, g3, by rw [List.length_append, hl]; rfl, snocB hB hm⟩
        · intro km
          refine ⟨_, rfl, _, _, rfl, rfl, cmR (by omega), _, _, rfl, rfl, (by show (0 : Int) < 1087; decide), _, _, rfl, rfl, (by show (0 : Int) < 12; decide), rfl, _, rfl, ite2 (fun _ => ?_) (fun _ => ?_)⟩
          · exact km _ _ ⟨rfl, 30, by omega, rfl⟩
          · obtain ⟨m, hm⟩ : ∃ m : Nat, cell * 48271 % 1049 % 4 = m := ⟨(cell * 48271 % 1049 % 4).toNat, by omega⟩
            rw [hm] at hm1 ⊢
            exact km _ _ ⟨rfl, m, by omega, rfl⟩
      refine ⟨_, rfl, _, _, rfl, rfl, cmR (by omega), _, _, rfl, rfl, (by show (0 : Int) < 1039; decide), _, _, rfl, rfl, (by show (0 : Int) < 17; decide), rfl, _, rfl, ite2 (fun _ => ?_) (fun _ => ?_)⟩
      · -- a number that no caller has
        refine tseq_asgC ?_
        refine ⟨1, rfl, _, rfl, 2, rfl, _, rfl, _, rfl, _, _, rfl, rfl, _, rfl, _, _, rfl, rfl, six_line, fun od hod => ?_⟩
        have hj0 : 0 ≤ (0 + (i : Int)) % 6 := mod0 _ (by decide)
        have hj1 : (0 + (i : Int)) % 6 < (([-1, (n : Int), -2, 100000000000000000000, 0 - (n : Int), 0 - 100000000000000000000] : List Int).length : Int) := mod1 _ (by decide)
        refine ⟨_, rfl, _, _, rfl, rfl, (by show (0 : Int) < 6; decide), od, _, _, _, rfl, rfl, SqL.of upd_same, atI_ints (ns := [-1, (n : Int), -2, 100000000000000000000, 0 - (n : Int), 0 - 100000000000000000000]) hj0 hj1, ?_⟩
        have eo := Same.new (o := .lst ([-1, (n : Int), -2, 100000000000000000000, 0 - (n : Int), 0 - 100000000000000000000].map V.int)) hod
        have hc0 : 0 ≤ cell * 48271 % 1051 % 4 := mod0 _ (by decide)
        refine ⟨_, rfl, .inl ⟨rfl, _, SqL.of (eo _ _ hq')⟩, _, rfl, _, rfl, _, _, rfl, rfl, cmR (by omega), _, _, rfl, rfl, (by show (0 : Int) < 1051; decide), _, _, rfl, rfl, (by show (0 : Int) < 4; decide), three_line, fun r hr' => ⟨q, _, _, rfl, rfl, (Same.new hr') _ _ (eo _ _ hq'), small1000 (by rw [List.length_map]; omega), ?_⟩⟩
        obtain ⟨g1, g2, g3⟩ := deeds_snoc (x := .call _ (cell * 48271 % 1051 % 4)) (hS'.trans eo) hq (eo _ _ hq') (hD.on eo) hr'
        exact ⟨as ++ [r], ds ++ [Dd.call ([-1, (n : Int), -2, 100000000000000000000, 0 - (n : Int), 0 - 100000000000000000000].getD ((0 + (i : Int)) % 6).toNat 0) (cell * 48271 % 1051 % 4)], _, _, _, _, _, _, _, rfl, g1, g2, g3, by rw [List.length_append, hl]; rfl, snocB hB hc0⟩
      · -- a caller
        refine ⟨five_line, fun od hod => ?_⟩
        obtain ⟨t, ht, ht0, ht1⟩ := menu (xs := [1, 1, 1, 40, 300]) (j := cell * 48271 % 1091 % 5) (lo := 1) (hi := 300) (mod0 _ (by decide)) (mod1 _ (by decide)) (by decide)
        refine ⟨_, rfl, _, _, rfl, rfl, cmR (by omega), _, _, rfl, rfl, (by show (0 : Int) < 1091; decide), _, _, rfl, rfl, (by show (0 : Int) < 5; decide), od, _, _, _, rfl, rfl, SqL.of upd_same, ht, ?_⟩
        have eo := Same.new (o := .lst ([1, 1, 1, 40, 300].map V.int)) hod
        have hc0 : 0 ≤ cell * 48271 % 1061 % 8 * t := Int.mul_nonneg (mod0 _ (by decide)) (by omega)
        refine ⟨_, rfl, .inl ⟨rfl, _, SqL.of (eo _ _ hq')⟩, _, rfl, _, rfl, _, _, rfl, rfl, cmR (by omega), _, _, rfl, rfl, (by show (0 : Int) < 1061; decide), _, _, rfl, rfl, (by show (0 : Int) < 8; decide), _, rfl, _, _, rfl, rfl, cmR (by omega), three_line, fun r hr' => ⟨q, _, _, rfl, rfl, (Same.new hr') _ _ (eo _ _ hq'), small1000 (by rw [List.length_map]; omega), ?_⟩⟩
        obtain ⟨g1, g2, g3⟩ := deeds_snoc (x := .call who (cell * 48271 % 1061 % 8 * t)) (hS'.trans eo) hq (eo _ _ hq') (hD.on eo) hr'
        exact ⟨as ++ [r], ds ++ [Dd.call who (cell * 48271 % 1061 % 8 * t)], _, _, _, _, _, _, _, rfl, g1, g2, g3, by rw [List.length_append, hl]; rfl, snocB hB hc0⟩
    · rintro σ H' ⟨as, ds, v3, v4, v5, v6, v7, v8, v9, rfl, hS', hq', hD, hl, hB⟩
      rw [List.length_map, Int.toNat_natCast] at hl
      exact ⟨_, rfl, kq q as ds H' hS' hq hq' hD hl hB⟩
end
end K6

end
section
set_option Elab.async false
set_option linter.all false
set_option maxRecDepth 100000
set_option maxHeartbeats 8000000
namespace K6
open PySem L2
section
variable {P : Program} {w : World} {K : PySem.W.Frag} {mg : Str → Option Value} {base : Heap}
theorem scLA : FnScope ["plan", "deeds", "gate", "reached", "deed"] ["plan", "deeds"] (defScope sLevels) := ⟨rfl, rfl, rfl, by decide +kernel, rfl, by decide +kernel, by decide +kernel⟩
theorem ok_levels {f D C : Addr} {fd : FuncData} (Fd : Fun K "levels_after" "levels_after" sLevels f fd) (T : GT K mg D C) (An : Dn K mg "answer_to" sAnswer ["gate", "deed"]) : FnOk P w K mg base CX0 4 f fd ["plan", "deeds"] spLevels := by
  have GI : FnOk P w K mg base CX0 2 T.fI T.dI ["self", "plan"] (spInitG D) := ok_init T
  have GA : FnOk P w K mg base CX0 3 An.f An.d ["gate", "deed"] (spAns D) := ok_ans An.F T
  refine Fd.ok scLA (fun vs H Q E h => ?_) (fun cdv A outer s H vs Q E hr h => ?_)
  · obtain ⟨p, dl, PL, as, ds, rfl, _⟩ := h
    rfl
  · obtain ⟨p, dl, PL, as, ds, rfl, hP, hG, hn, hdl, hD, hB, hlen, k⟩ := h
    refine ⟨_, pss_cons (ps_set (i := 2) scLA.nd rfl (Or.inl rfl) (pe_make T.M GI hr rfl T.mgD T.bI .nil pass0 (pa_cons (pv 0) pa_nil)))
      (pss_cons (ps_set (i := 3) scLA.nd rfl (Or.inl rfl) (pe_lst pa_nil))
      (pss_cons (ps_for PassesOwn.never rfl (pi_list (pv 1)) (pg_name (i := 4) scLA.nd rfl (Or.inl rfl))
        (pss_cons (ps_expr (pe_call GA hr rfl An.m An.F.kp An.b .nil pass0 (pa_cons (pv 2) (pa_cons (pv 4) pa_nil))))
        (pss_one (ps_expr (pe_bm F.plainAttrs_list F.slot_list_append F.type_list_append mt_append (pv 3) (pa_cons (pe_fld (pv 2) rfl) pa_nil))))))
      (pss_one (ps_ret (pv 3))))), ?_⟩
    refine ⟨_, rfl, fun g dx ng ndx nex => ?_⟩
    have s0 : Same H (upd (upd H dx (.own g)) g (.ins D dx [])) := fun b o e => by
      rw [upd_ne (ne_of_none e ng), upd_ne (ne_of_none e ndx)]
      exact e
    refine ⟨g, p, dx, PL, rfl, upd_same, hP.on s0, fun l H1 hg1 hl1 hx1 => ⟨rfl, ?_⟩⟩
    have s1 : Same H H1 := hx1.same ng s0
    refine ⟨by decide, fun q hq => ?_⟩
    have e2 : Same H1 (upd H1 q (.lst [])) := Same.new hq
    have hq0 : H q = none := s1.free hq
    refine ⟨_, rfl, dl, rfl, ⟨_, SqL.of (e2 _ _ (s1 _ _ hdl))⟩, for_list (K := K) (a := dl) (xs := as.map V.ref) (fun i σ H' => ∃ l v ls, σ = [some (.ref p), some (.ref dl), some (.ref g), some (.ref q), v] ∧ Same H H' ∧ GtH D H' g p l ∧
        LvH H' l (stt PL (PL.hs, PL.bh) ds i).1 (stt PL (PL.hs, PL.bh) ds i).2 ∧ H' q = some (.lst (ls.map V.ref)) ∧ ls.length = i ∧ ∀ (j : Nat) a, ls[j]? = some a → LvH H' a (stt PL (PL.hs, PL.bh) ds (j + 1)).1 (stt PL (PL.hs, PL.bh) ds (j + 1)).2)
      ⟨l, none, [], rfl, s1.trans e2, hg1.on e2, by rw [stt_zero]; exact hl1.on e2, upd_same, rfl, fun j a h => by simp at h⟩ (fun i σ H' _ ⟨_, _, _, _, e, _⟩ => SqL.of (e _ _ hdl)) ?_ ?_⟩
    · rintro i y σ H' hy ⟨l', v, ls, rfl, e, hg', hl', hq', hll, hLs⟩
      rw [List.getElem?_map] at hy
      obtain ⟨d, hd, rfl⟩ : ∃ d, as[i]? = some d ∧ V.ref d = y := by
        cases e : as[i]? with
        | none => rw [e] at hy; cases hy
        | some d => rw [e] at hy; exact ⟨d, rfl, Option.some.inj hy⟩
      obtain ⟨x, hx, hdx⟩ := (hD.on e).2 i d hd
      have hil : i < ds.length := (List.getElem?_eq_some_iff.mp hx).1
      have hxm : x ∈ ds := List.mem_of_getElem? hx
      refine ⟨_, rfl, _, rfl, g, p, l', d, PL, stt PL (PL.hs, PL.bh) ds i, x, rfl, hg', hP.on e, hl', hG, LvOk.stt (s := (PL.hs, PL.bh)) hG (LvOk.full hG) (fun y hy => (hB y hy).ok) i (Nat.le_of_lt hil), hn, hdx, hB x hxm, fun l2 H2 h1 h2 h3 => ?_⟩
      have nqg : q ≠ g := hg'.neL hq'
      have hq2 := h3 _ _ hq' nqg
      obtain ⟨dx2, hg2⟩ := id h1
      have htg : ∀ b xs, H' b = some (.tup xs) → b ≠ g := fun b xs hb => hg'.ne hb
      refine ⟨_, rfl, .inl ⟨rfl, _, SqL.of hq2⟩, _, rfl, g, D, dx2, _, _, rfl, hg2, T.cl, T.nL, gf_levels _ _, q, _, _, rfl, rfl, hq2, small1000 (by rw [List.length_map]; omega), ?_⟩
      refine ⟨l2, _, ls ++ [l2], rfl, (h3.same ng e).upd hq0, h1.updL hq2, ?_, by rw [upd_same, List.map_append]; rfl, by rw [List.length_append, hll]; rfl, fun j a hj => ?_⟩
      · rw [stt_succ PL _ hx]
        exact h2.updL hq2
      · by_cases hji : j < ls.length
        · rw [List.getElem?_append_left hji] at hj
          exact ((hLs j a hj).onX h3 htg).updL hq2
        · rw [List.getElem?_append_right (by omega)] at hj
          by_cases hz : j - ls.length = 0
          · rw [hz] at hj
            simp at hj
            subst hj
            have : j = i := by omega
            subst this
            rw [stt_succ PL _ hx]
            exact h2.updL hq2
          · rw [List.getElem?_eq_none (by simp; omega)] at hj
            cases hj
    · rintro σ H' ⟨l', v, ls, rfl, e, hg', hl', hq', hll, hLs⟩
      rw [List.length_map, hD.1] at hll
      exact ⟨_, rfl, k q ls H' e hq' hll hLs⟩
theorem nd_h : (["hold"] : List Str).Nodup := by decide +kernel
theorem scLT : FnScope ["plan", "deeds", "gate", "totals", "deed"] ["plan", "deeds"] (defScope sLet) := ⟨rfl, rfl, rfl, by decide +kernel, rfl, by decide +kernel, by decide +kernel⟩
theorem ok_let {f D C : Addr} {fd : FuncData} (Fd : Fun K "let_through" "let_through" sLet f fd) (T : GT K mg D C) (An : Dn K mg "answer_to" sAnswer ["gate", "deed"]) : FnOk P w K mg base CX0 4 f fd ["plan", "deeds"] spLet := by
  have GI : FnOk P w K mg base CX0 2 T.fI T.dI ["self", "plan"] (spInitG D) := ok_init T
  have GA : FnOk P w K mg base CX0 3 An.f An.d ["gate", "deed"] (spAns D) := ok_ans An.F T
  refine Fd.ok scLT (fun vs H Q E h => ?_) (fun cdv A outer s H vs Q E hr h => ?_)
  · obtain ⟨p, dl, PL, as, ds, rfl, _⟩ := h
    rfl
  · obtain ⟨p, dl, PL, as, ds, rfl, hP, hG, hn, hdl, hD, hB, hlen, k⟩ := h
    obtain ⟨a1, a2, hp, ha1, ha2⟩ := id hP
    refine ⟨_, pss_cons (ps_set (i := 2) scLT.nd rfl (Or.inl rfl) (pe_make T.M GI hr rfl T.mgD T.bI .nil pass0 (pa_cons (pv 0) pa_nil)))
      (pss_cons (ps_setComp (i := 3) (fv := []) (own := ["hold"]) scLT.nd rfl (Or.inl rfl) rfl ⟨rfl, rfl, rfl, rfl, rfl⟩ (pi_tup (pe_ix ix_tup (pv 0) pe_int (fun _ _ => rfl))) (fun _ _ _ _ _ _ => pg_name (i := 0) nd_h rfl (Or.inl rfl) (Or.inr rfl)) (fun _ _ _ _ _ _ => pe_int))
      (pss_cons (ps_for PassesOwn.never rfl (pi_list (pv 1)) (pg_name (i := 4) scLT.nd rfl (Or.inl rfl))
        (pss_one (ps_if (pt_cmpR op_isB (pe_call GA hr rfl An.m An.F.kp An.b .nil pass0 (pa_cons (pv 2) (pa_cons (pv 4) pa_nil))) pe_bl (nomark _))
          (pss_one (ps_augS (pv 3) (pe_ix ix_tup (pv 4) pe_int (fun _ _ => rfl)) get_list (pe_ix ix_tup (pv 4) pe_int (fun _ _ => rfl)) ip_add set_list)) pss_nil)))
      (pss_one (ps_ret (pv 3))))), ?_⟩
    refine ⟨_, rfl, fun g dx ng ndx nex => ?_⟩
    have s0 : Same H (upd (upd H dx (.own g)) g (.ins D dx [])) := fun b o e => by
      rw [upd_ne (ne_of_none e ng), upd_ne (ne_of_none e ndx)]
      exact e
    refine ⟨g, p, dx, PL, rfl, upd_same, hP.on s0, fun l H1 hg1 hl1 hx1 => ⟨rfl, ?_⟩⟩
    have s1 : Same H H1 := hx1.same ng s0
    -- totals
    refine ⟨_, rfl, p, _, 0, _, rfl, rfl, SqT.of (s1 _ _ hp), rfl, a1, rfl, ⟨_, SqT.of (s1 _ _ ha1)⟩, ?_⟩
    refine comp_run (itn_tup (K := K) (SqT.of (s1 _ _ ha1))) (by rw [List.length_map]; exact Nat.le_of_lt (small1000 hn)) (fun σ' => ∃ o, σ' = [o]) (fun i => .int 0) ⟨_, rfl⟩ ?_ ?_
    · rintro i x σ' H' R hi hS ⟨o, rfl⟩ hx kk
      exact kk _ _ ⟨_, rfl⟩ (Same.refl _)
    intro q H2 hq e2 hL2
    have hq0 : H q = none := s1.free hq
    have hq2 : H2 q = some (.lst ((thrs PL ds 0).map V.int)) := by
      rw [hL2, thrs_zero, List.length_map]
      congr 2
      refine List.ext_getElem (by simp) fun i h1 h2 => by simp
    refine ⟨_, rfl, dl, rfl, ⟨_, SqL.of (e2 _ _ (s1 _ _ hdl))⟩, for_list (K := K) (a := dl) (xs := as.map V.ref) (fun i σ H' => ∃ l v, σ = [some (.ref p), some (.ref dl), some (.ref g), some (.ref q), v] ∧ Same H H' ∧ GtH D H' g p l ∧
        LvH H' l (stt PL (PL.hs, PL.bh) ds i).1 (stt PL (PL.hs, PL.bh) ds i).2 ∧ H' q = some (.lst ((thrs PL ds i).map V.int)))
      ⟨l, none, rfl, s1.trans e2, hg1.on e2, by rw [stt_zero]; exact hl1.on e2, hq2⟩ (fun i σ H' _ ⟨_, _, _, e, _⟩ => SqL.of (e _ _ hdl)) ?_ ?_⟩
    · rintro i y σ H' hy ⟨l', v, rfl, e, hg', hl', hq'⟩
      rw [List.getElem?_map] at hy
      obtain ⟨d, hd, rfl⟩ : ∃ d, as[i]? = some d ∧ V.ref d = y := by
        cases e : as[i]? with
        | none => rw [e] at hy; cases hy
        | some d => rw [e] at hy; exact ⟨d, rfl, Option.some.inj hy⟩
      obtain ⟨x, hx, hdx⟩ := (hD.on e).2 i d hd
      have hil : i < ds.length := (List.getElem?_eq_some_iff.mp hx).1
      have hxm : x ∈ ds := List.mem_of_getElem? hx
      refine ⟨_, rfl, _, rfl, g, p, l', d, PL, stt PL (PL.hs, PL.bh) ds i, x, rfl, hg', hP.on e, hl', hG, LvOk.stt (s := (PL.hs, PL.bh)) hG (LvOk.full hG) (fun y hy => (hB y hy).ok) i (Nat.le_of_lt hil), hn, hdx, hB x hxm, fun l2 H2 h1 h2 h3 => ?_⟩
      have nqg : q ≠ g := hg'.neL hq'
      have hq2 := h3 _ _ hq' nqg
      refine ⟨true, rfl, _, rfl, ite2 (fun ht => ?_) (fun hf => ?_)⟩
      · have ht' : aV (ansOf PL (stt PL (PL.hs, PL.bh) ds i) x) = V.bl true := of_decide_eq_true ht
        cases x with
        | tick n => cases ht'
        | call who cost =>
          have hin : inP PL who := by
            by_cases h : inP PL who
            · exact h
            · rw [ans_bad h] at ht'
              cases ht'
          have hans : ansOf PL (stt PL (PL.hs, PL.bh) ds i) (.call who cost) = some true := by
            rw [ans_in hin] at ht' ⊢
            injection ht' with ht'
            rw [ht']
          have h0 := hin.1
          have hw1 := hin.2
          have hd2 : H2 d = some (.tup (ddV (.call who cost))) := h3 _ _ hdx (hg'.ne hdx)
          refine ⟨_, rfl, _, rfl, d, _, 1, _, rfl, rfl, SqT.of hd2, rfl, q, _, who, _, rfl, rfl, SqL.of hq2, h0, by rw [List.length_map, thrs_len]; exact hw1, get_ints (by rw [thrs_len]; omega), _, rfl, d, _, 2, _, rfl, rfl, SqT.of hd2, rfl, _, _, rfl, rfl, q, _, who, who.toNat, rfl, rfl, hq2, by rw [List.length_map, thrs_len]; exact ixN_at h0 hw1, ?_⟩
          refine ⟨l2, _, rfl, (h3.same ng e).upd hq0, h1.updL hq2, ?_, ?_⟩
          · rw [stt_succ PL _ hx]
            exact h2.updL hq2
          · rw [upd_same, ← List.map_set, thrs_more hx hin hans]
      · have hf' : ansOf PL (stt PL (PL.hs, PL.bh) ds i) x ≠ some true := fun h => hf (decide_eq_true (by rw [h]; rfl))
        refine ⟨l2, _, rfl, h3.same ng e, h1, ?_, ?_⟩
        · rw [stt_succ PL _ hx]
          exact h2
        · rw [thrs_same hx (thr1_no hf')]
          exact hq2
    · rintro σ H' ⟨l', v, rfl, e, hg', hl', hq'⟩
      rw [List.length_map, hD.1] at hq'
      exact ⟨_, rfl, k q H' e hq'⟩
end
end K6

end
section
set_option Elab.async false
set_option linter.all false
set_option maxRecDepth 100000
set_option maxHeartbeats 8000000
namespace K6
open PySem L2
section
variable {P : Program} {w : World} {K : PySem.W.Frag} {mg : Str → Option Value} {base : Heap}
theorem scSo : FnScope ["_law_found", "_law_meant", "_law_k"] ["_law_found", "_law_meant"] (defScope sSo) := ⟨rfl, rfl, rfl, by decide +kernel, rfl, by decide +kernel, by decide +kernel⟩
structure Nb (mg : Str → Option Value) : Prop where
  B : Bl mg
  ls : mg "list" = none
  st : mg "str" = none
  dc : mg "dict" = none
theorem ok_so (Nm : Nb mg) (S : Dn K mg "_law_so" sSo ["_law_found", "_law_meant"]) : ∀ n, FnOk P w K mg base CX0 (n + 1) S.f S.d ["_law_found", "_law_meant"] (spSo n)
  | 0 => by
    refine S.F.ok scSo (fun vs H Q E h => ?_) (fun cdv A outer s H vs Q E hr h => ?_)
    · obtain ⟨v, u, rfl, _⟩ := h
      rfl
    · obtain ⟨v, u, rfl, h, _⟩ := h
      exact h.elim
  | n + 1 => by
    have B := Nm.B
    have GS : FnOk P w K mg base CX0 (n + 1) S.f S.d ["_law_found", "_law_meant"] (spSo n) := ok_so Nm S n
    refine S.F.ok scSo (fun vs H Q E h => ?_) (fun cdv A outer s H vs Q E hr h => ?_)
    · obtain ⟨v, u, rfl, _⟩ := h
      rfl
    · obtain ⟨v, u, rfl, h, k⟩ := h
      refine ⟨_, pss_cons (ps_if (pt_cmpR op_isN (pv 1) pe_non (nomark _)) pss_no pss_nil)
        (pss_cons (ps_if (pt_val (pe_callB call_isi rfl B.isi bb_isi (pa_cons (pv 1) (pa_cons (pe_bltn (v := .ty "bool") rfl B.bool bb_bool rfl) pa_nil))))
          (pss_one (ps_ret (pe_and (pe_callB call_isi rfl B.isi bb_isi (pa_cons (pv 0) (pa_cons (pe_bltn (v := .ty "bool") rfl B.bool bb_bool rfl) pa_nil))) (pe_one (pe_cmpR op_eq (pv 0) (pv 1) (nomark _)))))) pss_nil)
        (pss_cons (ps_if (pt_val (pe_callB call_isi rfl B.isi bb_isi (pa_cons (pv 1) (pa_cons (pe_bltn (v := .ty "int") rfl B.int bb_int rfl) pa_nil))))
          (pss_one (ps_ret (pe_and (pe_callB call_isi rfl B.isi bb_isi (pa_cons (pv 0) (pa_cons (pe_bltn (v := .ty "int") rfl B.int bb_int rfl) pa_nil)))
            (pe_and (pe_not (pe_callB call_isi rfl B.isi bb_isi (pa_cons (pv 0) (pa_cons (pe_bltn (v := .ty "bool") rfl B.bool bb_bool rfl) pa_nil)))) (pe_one (pe_cmpR op_eq (pv 0) (pv 1) (nomark _))))))) pss_nil)
        (pss_cons (ps_if (pt_val (pe_callB call_isi rfl B.isi bb_isi (pa_cons (pv 1) (pa_cons (pe_bltn (v := .ty "str") rfl Nm.st bb_str rfl) pa_nil)))) pss_no pss_nil)
        (pss_cons (ps_if (pt_val (pe_callB call_isi rfl B.isi bb_isi (pa_cons (pv 1) (pa_cons (pe_bltn (v := .ty "dict") rfl Nm.dc bb_dict rfl) pa_nil)))) pss_no pss_nil)
        (pss_cons (ps_if (pt_cmpR op_ne (pe_callB call_isi rfl B.isi bb_isi (pa_cons (pv 1) (pa_cons (pe_bltn (v := .ty "tuple") rfl B.tuple bb_tuple rfl) pa_nil))) (pe_callB call_isi rfl B.isi bb_isi (pa_cons (pv 0) (pa_cons (pe_bltn (v := .ty "tuple") rfl B.tuple bb_tuple rfl) pa_nil))) (nomark _)) pss_no pss_nil)
        (pss_cons (ps_if (PW.pt (pw_or (pt_cmpR op_ne (pe_callB call_isi rfl B.isi bb_isi (pa_cons (pv 1) (pa_cons (pe_bltn (v := .ty "list") rfl Nm.ls bb_list rfl) pa_nil))) (pe_callB call_isi rfl B.isi bb_isi (pa_cons (pv 0) (pa_cons (pe_bltn (v := .ty "list") rfl Nm.ls bb_list rfl) pa_nil))) (nomark _))
          (pw_or1 (pt_not (pt_val (pe_callB call_isiTT rfl B.isi bb_isi (pa_cons (pv 1) (pa_cons (pe_tup (pa_cons (pe_bltn (v := .ty "list") rfl Nm.ls bb_list rfl) (pa_cons (pe_bltn (v := .ty "tuple") rfl B.tuple bb_tuple rfl) pa_nil))) pa_nil)))))))) pss_no pss_nil)
        (pss_cons (ps_if (pt_cmpR op_ne (pe_callB call_len_seq rfl B.len bb_len (pa_cons (pv 0) pa_nil)) (pe_callB call_len_seq rfl B.len bb_len (pa_cons (pv 1) pa_nil)) (nomark _)) pss_no pss_nil)
        (pss_cons (ps_for PassesOwn.never rfl (pi_range1 rfl B.range (pa_cons (pe_callB call_len_seq rfl B.len bb_len (pa_cons (pv 1) pa_nil)) pa_nil)) (pg_name (i := 2) scSo.nd rfl (Or.inl rfl))
          (pss_one (ps_if (pt_not (pt_val (pe_call GS hr rfl S.m S.F.kp S.b .nil pass0 (pa_cons (pe_ix ix_tup (pv 0) (pv 2) (fun _ _ => rfl)) (pa_cons (pe_ix ix_tup (pv 1) (pv 2) (fun _ _ => rfl)) pa_nil))))) pss_no pss_nil)))
        (pss_one (ps_ret pe_bl)))))))))), ?_⟩
      rcases h with ⟨b, rfl, rfl⟩ | ⟨i, rfl, rfl⟩ | ⟨a, t, xs, ys, rfl, rfl, ha, ht, hxy, hyl, hall⟩
      · refine ⟨_, rfl, rfl, _, rfl, ite2 (fun h => by cases of_decide_eq_true h) (fun _ => ?_)⟩
        refine ⟨_, rfl, _, _, _, true, rfl, TyOf.bl b, kit_bb, true, rfl, iteT ?_⟩
        refine ⟨_, rfl, _, _, _, true, rfl, TyOf.bl b, kit_bb, true, rfl, iteT ?_⟩
        refine ⟨_, rfl, _, rfl, rfl, ?_⟩
        have := k H (Same.refl _)
        rw [decide_eq_true rfl]
        exact this
      · refine ⟨_, rfl, rfl, _, rfl, ite2 (fun h => by cases of_decide_eq_true h) (fun _ => ?_)⟩
        refine ⟨_, rfl, _, _, _, false, rfl, TyOf.int i, kit_ib, false, rfl, iteF ?_⟩
        refine ⟨_, rfl, _, _, _, true, rfl, TyOf.int i, kit_ii, true, rfl, iteT ?_⟩
        refine ⟨_, rfl, _, _, _, true, rfl, TyOf.int i, kit_ii, true, rfl, iteT ?_⟩
        refine ⟨_, rfl, _, _, _, false, rfl, TyOf.int i, kit_ib, false, rfl, true, rfl, iteT ?_⟩
        refine ⟨_, rfl, _, rfl, rfl, ?_⟩
        have := k H (Same.refl _)
        rw [decide_eq_true rfl]
        exact this
      · refine ⟨_, rfl, rfl, _, rfl, ite2 (fun h => by cases of_decide_eq_true h) (fun _ => ?_)⟩
        refine ⟨_, rfl, _, _, _, false, rfl, TyOf.tup ht, kit_tb, false, rfl, iteF ?_⟩
        refine ⟨_, rfl, _, _, _, false, rfl, TyOf.tup ht, kit_ti, false, rfl, iteF ?_⟩
        refine ⟨_, rfl, _, _, _, false, rfl, TyOf.tup ht, kit_ts, false, rfl, iteF ?_⟩
        refine ⟨_, rfl, _, _, _, false, rfl, TyOf.tup ht, kit_td, false, rfl, iteF ?_⟩
        refine ⟨_, rfl, _, _, _, true, rfl, TyOf.tup ht, kit_tt, _, rfl, _, _, _, true, rfl, TyOf.tup ha, kit_tt, rfl, _, rfl, iteNS rfl ?_⟩
        refine ⟨_, rfl, _, _, _, false, rfl, TyOf.tup ht, kit_tl, _, rfl, _, _, _, false, rfl, TyOf.tup ha, kit_tl, rfl, _, rfl, iteNS rfl ?_⟩
        refine ⟨_, rfl, two_line, fun tp htp => ?_⟩
        have e1 := Same.new (o := .tup [.ty "list", .ty "tuple"]) htp
        refine ⟨t, tp, _, rfl, SqT.of (e1 _ _ ht), SqT.of upd_same, true, rfl, iteF ?_⟩
        have ha1 := e1 _ _ ha
        have ht1 := e1 _ _ ht
        refine ⟨_, rfl, a, _, rfl, .inr (SqT.of ha1), _, rfl, t, _, rfl, .inr (SqT.of ht1), rfl, _, rfl, iteNS (by rw [hxy]) ?_⟩
        refine ⟨_, rfl, t, _, rfl, .inr (SqT.of ht1), _, rfl, by omega, by omega, for_range (lo := 0) (n := ((ys.length : Int)).toNat) (fun i σ H' => Same H H' ∧ ∃ v, σ = [some (.ref a), some (.ref t), v]) ⟨e1, none, rfl⟩ ?_ ?_⟩
        · rintro i σ H' hi ⟨hS, v, rfl⟩
          have hi' : i < ys.length := by omega
          have hx : xs[i]? = some xs[i] := List.getElem?_eq_getElem (by omega)
          have hy : ys[i]? = some ys[i] := List.getElem?_eq_getElem hi'
          refine ⟨_, rfl, _, rfl, a, _, _, _, rfl, rfl, SqT.of (hS _ _ ha), atI_vs hx (by omega), _, rfl, _, rfl, t, _, _, _, rfl, rfl, SqT.of (hS _ _ ht), atI_vs hy (by omega), _, _, rfl, (hall i _ _ hx hy).on hS, fun H2 e2 => ?_⟩
          refine ⟨true, rfl, iteF ?_⟩
          exact ⟨hS.trans e2, _, rfl⟩
        · rintro σ H' ⟨hS, v, rfl⟩
          exact k H' hS
theorem scBo : FnScope ["_law_plan", "_law_levels", "_law_k"] ["_law_plan", "_law_levels"] (defScope sBounded) := ⟨rfl, rfl, rfl, by decide +kernel, rfl, by decide +kernel, by decide +kernel⟩
theorem ok_bounded {f : Addr} {fd : FuncData} (Fd : Fun K "_law_bounded" "_law_bounded" sBounded f fd) (B : Bl mg) : FnOk P w K mg base CX0 1 f fd ["_law_plan", "_law_levels"] spBounded := by
  refine Fd.ok scBo (fun vs H Q E h => ?_) (fun cdv A outer s H vs Q E hr h => ?_)
  · obtain ⟨p, l, PL, c, b, rfl, _⟩ := h
    rfl
  · obtain ⟨p, l, PL, c, b, rfl, ⟨a1, a2, hp, ha1, ha2⟩, ⟨al, hl, hal⟩, hO, hn, k⟩ := h
    have hcl := hO.len
    refine ⟨_, pss_cons (ps_for PassesOwn.never rfl (pi_range1 rfl B.range (pa_cons (pe_callB call_len_seq rfl B.len bb_len (pa_cons (pe_ix ix_tup (pv 0) pe_int (fun _ _ => rfl)) pa_nil)) pa_nil)) (pg_name (i := 2) scBo.nd rfl (Or.inl rfl))
        (pss_one (ps_if (PW.pt (pw_or (pt_cmpR op_lt (pe_ix ix_tup (pe_ix ix_tup (pv 1) pe_int (fun _ _ => rfl)) (pv 2) (fun _ _ => rfl)) pe_int (nomark _)) (pw_or1 (pt_cmpR op_gt (pe_ix ix_tup (pe_ix ix_tup (pv 1) pe_int (fun _ _ => rfl)) (pv 2) (fun _ _ => rfl)) (pe_ix ix_tup (pe_ix ix_tup (pv 0) pe_int (fun _ _ => rfl)) (pv 2) (fun _ _ => rfl)) (nomark _))))) pss_no pss_nil)))
      (pss_one (ps_ret (pe_and (pe_cmpR op_le pe_int (pe_ix ix_tup (pv 1) pe_int (fun _ _ => rfl)) (nomark _)) (pe_one (pe_cmpR op_le (pe_ix ix_tup (pv 1) pe_int (fun _ _ => rfl)) (pe_ix ix_tup (pv 0) pe_int (fun _ _ => rfl)) (nomark _)))))), ?_⟩
    refine ⟨_, rfl, p, _, 0, _, rfl, rfl, SqT.of hp, rfl, a1, _, rfl, .inr (SqT.of ha1), _, rfl, by omega, by rw [List.length_map]; omega, for_range (lo := 0) (n := (((PL.hs.map V.int).length : Int)).toNat) (fun i σ H' => H' = H ∧ ∃ v, σ = [some (.ref p), some (.ref l), v]) ⟨rfl, none, rfl⟩ ?_ ?_⟩
    · rintro i σ H' hi ⟨e, v, rfl⟩
      subst e
      have hi' : i < PL.hs.length := by rw [List.length_map] at hi; omega
      have h1 := hO.lo i hi'
      have h2 := hO.hi i hi'
      refine ⟨_, rfl, l, _, 0, _, rfl, rfl, SqT.of hl, rfl, _, rfl, al, _, _, _, rfl, rfl, SqT.of hal, at0 (by omega), _, _, rfl, rfl, _, rfl, ite2 (fun h => absurd (of_decide_eq_true h) (by omega)) (fun _ => ?_)⟩
      refine ⟨_, rfl, l, _, 0, _, rfl, rfl, SqT.of hl, rfl, _, rfl, al, _, _, _, rfl, rfl, SqT.of hal, at0 (by omega), _, rfl, p, _, 0, _, rfl, rfl, SqT.of hp, rfl, _, rfl, a1, _, _, _, rfl, rfl, SqT.of ha1, at0 hi', _, _, rfl, rfl, _, rfl, ite2 (fun h => absurd (of_decide_eq_true h) (by omega)) (fun _ => ?_)⟩
      exact ⟨rfl, _, rfl⟩
    · rintro σ H' ⟨e, v, rfl⟩
      subst e
      have hb0 := hO.b0
      have hb1 := hO.b1
      refine ⟨_, rfl, l, _, 1, _, rfl, rfl, SqT.of hl, rfl, _, _, rfl, rfl, _, rfl, ite2 (fun _ => ?_) (fun h => absurd (decide_eq_true hb0) h)⟩
      refine ⟨_, rfl, l, _, 1, _, rfl, rfl, SqT.of hl, rfl, _, rfl, p, _, 2, _, rfl, rfl, SqT.of hp, rfl, _, _, rfl, rfl, ?_⟩
      have hk : ∀ b : Bool, b = true → Q (.bl b) H' := by
        rintro _ rfl
        exact k
      exact hk _ (decide_eq_true hb1)
theorem scCd : FnScope ["_law_old", "_law_new", "_law_told", "_law_who", "_law_cost", "_law_k"] ["_law_old", "_law_new", "_law_told", "_law_who", "_law_cost"] (defScope sCalled) := ⟨rfl, rfl, rfl, by decide +kernel, rfl, by decide +kernel, by decide +kernel⟩
theorem ok_called {f : Addr} {fd : FuncData} (Fd : Fun K "_law_called" "_law_called" sCalled f fd) (B : Bl mg) : FnOk P w K mg base CX0 1 f fd ["_law_old", "_law_new", "_law_told", "_law_who", "_law_cost"] spCalled := by
  refine Fd.ok scCd (fun vs H Q E h => ?_) (fun cdv A outer s H vs Q E hr h => ?_)
  · obtain ⟨o, n, PL, st, who, cost, rfl, _⟩ := h
    rfl
  · obtain ⟨o, n, PL, st, who, cost, rfl, hLo, hLn, hcl, hn, hin, k⟩ := h
    have hu := hu_of hr
    obtain ⟨ao, ho, hao⟩ := id hLo
    have h0 := hin.1
    have h1 := hin.2
    have hwc : who < st.1.length := by omega
    refine ⟨_, pss_cons (ps_if (pt_cmpR op_lt (pe_op op_add (pe_ix ix_tup (pe_ix ix_tup (pv 0) pe_int (fun _ _ => rfl)) (pv 3) (fun _ _ => rfl)) (pe_ix ix_tup (pv 0) pe_int (fun _ _ => rfl))) (pv 4) (nomark _))
        (pss_one (ps_ret (pe_and (pe_cmpR op_isB (pv 2) pe_bl (nomark _)) (pe_one (pe_cmpR (op_eqLv hu) (pv 1) (pv 0) (nomark _)))))) pss_nil)
      (pss_cons (ps_if (pt_cmpR op_isnotB (pv 2) pe_bl (nomark _)) pss_no pss_nil)
      (pss_cons (ps_for PassesOwn.never rfl (pi_range1 rfl B.range (pa_cons (pe_callB call_len_seq rfl B.len bb_len (pa_cons (pe_ix ix_tup (pv 0) pe_int (fun _ _ => rfl)) pa_nil)) pa_nil)) (pg_name (i := 5) scCd.nd rfl (Or.inl rfl))
        (pss_one (ps_if (PW.pt (pw_and (pt_cmpR op_ne (pv 5) (pv 3) (nomark _)) (pw_and1 (pt_cmpR op_ne (pe_ix ix_tup (pe_ix ix_tup (pv 1) pe_int (fun _ _ => rfl)) (pv 5) (fun _ _ => rfl)) (pe_ix ix_tup (pe_ix ix_tup (pv 0) pe_int (fun _ _ => rfl)) (pv 5) (fun _ _ => rfl)) (nomark _))))) pss_no pss_nil)))
      (pss_cons (ps_if (pt_cmpR op_ne (pe_op op_add (pe_op op_add (pe_ix ix_tup (pe_ix ix_tup (pv 1) pe_int (fun _ _ => rfl)) (pv 3) (fun _ _ => rfl)) (pe_ix ix_tup (pv 1) pe_int (fun _ _ => rfl))) (pv 4)) (pe_op op_add (pe_ix ix_tup (pe_ix ix_tup (pv 0) pe_int (fun _ _ => rfl)) (pv 3) (fun _ _ => rfl)) (pe_ix ix_tup (pv 0) pe_int (fun _ _ => rfl))) (nomark _)) pss_no pss_nil)
      (pss_one (ps_ret (pe_or (pe_cmpR op_eq (pe_ix ix_tup (pv 1) pe_int (fun _ _ => rfl)) (pe_ix ix_tup (pv 0) pe_int (fun _ _ => rfl)) (nomark _)) (pe_one (pe_cmpR op_eq (pe_ix ix_tup (pe_ix ix_tup (pv 1) pe_int (fun _ _ => rfl)) (pv 3) (fun _ _ => rfl)) pe_int (nomark _))))))))), ?_⟩
    have hk : ∀ b : Bool, b = true → Q (.bl b) H := by
      rintro _ rfl
      exact k
    refine ⟨_, rfl, o, _, 0, _, rfl, rfl, SqT.of ho, rfl, _, rfl, ao, _, who, _, rfl, rfl, SqT.of hao, atI_ints h0 hwc, _, rfl, o, _, 1, _, rfl, rfl, SqT.of ho, rfl, _, _, rfl, rfl, _, rfl, _, _, rfl, rfl, _, rfl, ite2 (fun hlt => ?_) (fun hge => ?_)⟩
    · have hlt' : st.1.getD who.toNat 0 + st.2 < cost := of_decide_eq_true hlt
      have hne : ¬ enough st who cost := by unfold enough; omega
      rw [step_no hin hne] at hLn
      refine ⟨_, rfl, false, rfl, true, by rw [decide_eq_false hne]; rfl, iteT ?_⟩
      refine ⟨_, rfl, _, rfl, n, o, _, _, _, _, rfl, rfl, hLn.lv, hLo.lv, ?_⟩
      exact hk _ (decide_eq_true ⟨rfl, rfl⟩)
    have hen : enough st who cost := by
      have : ¬ st.1.getD who.toNat 0 + st.2 < cost := fun h => hge (decide_eq_true h)
      unfold enough
      omega
    rw [step_yes hin hen] at hLn
    obtain ⟨an, hn1, hn2⟩ := hLn
    have hn1' : H n = some (.tup [.ref an, .int (st.2 - (cost - mn (st.1.getD who.toNat 0) cost))]) := hn1
    have hn2' : H an = some (.tup ((st.1.set who.toNat (st.1.getD who.toNat 0 - mn (st.1.getD who.toNat 0) cost)).map V.int)) := hn2
    clear hn1 hn2
    have hsl : (st.1.set who.toNat (st.1.getD who.toNat 0 - mn (st.1.getD who.toNat 0) cost)).length = st.1.length := List.length_set
    have hsg : (st.1.set who.toNat (st.1.getD who.toNat 0 - mn (st.1.getD who.toNat 0) cost)).getD who.toNat 0 = st.1.getD who.toNat 0 - mn (st.1.getD who.toNat 0) cost := getD_set_self (by omega)
    refine ⟨_, rfl, true, rfl, _, rfl, iteNS (by rw [decide_eq_true hen]) ?_⟩
    refine ⟨_, rfl, o, _, 0, _, rfl, rfl, SqT.of ho, rfl, ao, _, rfl, .inr (SqT.of hao), _, rfl, by omega, by rw [List.length_map]; omega, for_range (lo := 0) (n := (((st.1.map V.int).length : Int)).toNat) (fun i σ H' => H' = H ∧ ∃ v, σ = [some (.ref o), some (.ref n), some (.bl (decide (enough st who cost))), some (.int who), some (.int cost), v]) ⟨rfl, none, rfl⟩ ?_ ?_⟩
    · rintro i σ H' hi ⟨e, v, rfl⟩
      subst e
      have hi' : i < st.1.length := by rw [List.length_map] at hi; omega
      refine ⟨_, rfl, _, rfl, rfl, _, rfl, ite2 (fun hd => ?_) (fun _ => ?_)⟩
      · have hd' : ¬ (V.int (0 + (i : Int)) = V.int who) := by simpa using hd
        have hne : who.toNat ≠ i := fun z => hd' (by rw [← z]; congr 1; omega)
        refine ⟨_, rfl, n, _, 0, _, rfl, rfl, SqT.of hn1', rfl, _, rfl, an, _, _, _, rfl, rfl, SqT.of hn2', at0 (by rw [hsl]; exact hi'), _, rfl, o, _, 0, _, rfl, rfl, SqT.of ho, rfl, _, rfl, ao, _, _, _, rfl, rfl, SqT.of hao, at0 hi', rfl, _, rfl, iteNS ?_ ?_⟩
        · rw [List.getD_eq_getElem?_getD, List.getElem?_set_ne hne, ← List.getD_eq_getElem?_getD]
        · exact ⟨rfl, _, rfl⟩
      · exact iteF ⟨rfl, _, rfl⟩
    · rintro σ H' ⟨e, v, rfl⟩
      subst e
      refine ⟨_, rfl, n, _, 0, _, rfl, rfl, SqT.of hn1', rfl, _, rfl, an, _, who, _, rfl, rfl, SqT.of hn2', atI_ints h0 (by rw [hsl]; exact hwc), _, rfl, n, _, 1, _, rfl, rfl, SqT.of hn1', rfl, _, _, rfl, rfl, _, rfl, _, _, rfl, rfl, _, rfl, o, _, 0, _, rfl, rfl, SqT.of ho, rfl, _, rfl, ao, _, who, _, rfl, rfl, SqT.of hao, atI_ints h0 hwc, _, rfl, o, _, 1, _, rfl, rfl, SqT.of ho, rfl, _, _, rfl, rfl, rfl, _, rfl, iteNS ?_ ?_⟩
      · refine congrArg V.int ?_
        rw [hsg]
        omega
      refine ⟨_, rfl, n, _, 1, _, rfl, rfl, SqT.of hn1', rfl, _, rfl, o, _, 1, _, rfl, rfl, SqT.of ho, rfl, rfl, _, rfl, ite2 (fun _ => ?_) (fun hd => ?_)⟩
      · exact k
      · refine ⟨_, rfl, n, _, 0, _, rfl, rfl, SqT.of hn1', rfl, _, rfl, an, _, who, _, rfl, rfl, SqT.of hn2', atI_ints h0 (by rw [hsl]; exact hwc), rfl, ?_⟩
        refine hk _ (decide_eq_true ?_)
        rw [hsg]
        congr 1
        have hd' : ¬ (V.int (st.2 - (cost - mn (st.1.getD who.toNat 0) cost)) = V.int st.2) := fun z => hd (decide_eq_true z)
        have hm : ¬ mn (st.1.getD who.toNat 0) cost = cost := fun z => hd' (by congr 1; omega)
        unfold mn at hm ⊢
        split at hm
        · exact absurd rfl hm
        · rw [if_neg (by assumption)]
          omega
theorem scTi : FnScope ["_law_plan", "_law_old", "_law_new", "_law_many", "_law_bowl", "_law_k", "_law_drops", "_law_due"] ["_law_plan", "_law_old", "_law_new", "_law_many"] (defScope sTicked) := ⟨rfl, rfl, rfl, by decide +kernel, rfl, by decide +kernel, by decide +kernel⟩
theorem ok_ticked {f : Addr} {fd : FuncData} (Fd : Fun K "_law_ticked" "_law_ticked" sTicked f fd) (B : Bl mg) : FnOk P w K mg base CX0 1 f fd ["_law_plan", "_law_old", "_law_new", "_law_many"] spTicked6 := by
  refine Fd.ok scTi (fun vs H Q E h => ?_) (fun cdv A outer s H vs Q E hr h => ?_)
  · obtain ⟨p, o, n, PL, c, b, m, rfl, _⟩ := h
    rfl
  · obtain ⟨p, o, n, PL, c, b, m, rfl, ⟨a1, a2, hp, ha1, ha2⟩, ⟨ao, ho, hao⟩, ⟨an, hn1, hn2⟩, hG, hO, hn, hm, k⟩ := h
    have hcl := hO.len
    have hsl := hG.len
    refine ⟨_, pss_cons (ps_set (i := 4) scTi.nd rfl (Or.inl rfl) (pe_op op_add (pe_ix ix_tup (pv 1) pe_int (fun _ _ => rfl)) (pe_op op_mul (pv 3) (pe_ix ix_tup (pv 0) pe_int (fun _ _ => rfl)))))
      (pss_cons (ps_for PassesOwn.never rfl (pi_range1 rfl B.range (pa_cons (pe_callB call_len_seq rfl B.len bb_len (pa_cons (pe_ix ix_tup (pv 0) pe_int (fun _ _ => rfl)) pa_nil)) pa_nil)) (pg_name (i := 5) scTi.nd rfl (Or.inl rfl))
        (pss_cons (ps_set (i := 6) scTi.nd rfl (Or.inl rfl) (pe_op op_add (pe_ix ix_tup (pe_ix ix_tup (pv 1) pe_int (fun _ _ => rfl)) (pv 5) (fun _ _ => rfl)) (pe_op op_mul (pv 3) (pe_ix ix_tup (pe_ix ix_tup (pv 0) pe_int (fun _ _ => rfl)) (pv 5) (fun _ _ => rfl)))))
        (pss_cons (ps_set (i := 7) scTi.nd rfl (Or.inl rfl) (pe_callB (call_min2 rfl) rfl B.min bb_min (pa_cons (pe_ix ix_tup (pe_ix ix_tup (pv 0) pe_int (fun _ _ => rfl)) (pv 5) (fun _ _ => rfl)) (pa_cons (pv 6) pa_nil))))
        (pss_cons (ps_set (i := 4) scTi.nd rfl (Or.inl rfl) (pe_op op_sub (pe_op op_add (pv 4) (pv 6)) (pv 7)))
        (pss_one (ps_if (pt_cmpR op_ne (pe_ix ix_tup (pe_ix ix_tup (pv 2) pe_int (fun _ _ => rfl)) (pv 5) (fun _ _ => rfl)) (pv 7) (nomark _)) pss_no pss_nil))))))
      (pss_one (ps_ret (pe_cmpR op_eq (pe_ix ix_tup (pv 2) pe_int (fun _ _ => rfl)) (pe_callB (call_min2 rfl) rfl B.min bb_min (pa_cons (pe_ix ix_tup (pv 0) pe_int (fun _ _ => rfl)) (pa_cons (pv 4) pa_nil))) (nomark _))))), ?_⟩
    refine ⟨_, rfl, o, _, 1, _, rfl, rfl, SqT.of ho, rfl, _, rfl, _, rfl, p, _, 3, _, rfl, rfl, SqT.of hp, rfl, _, _, rfl, rfl, cmL (by omega), _, _, rfl, rfl, ?_⟩
    refine ⟨_, rfl, p, _, 0, _, rfl, rfl, SqT.of hp, rfl, a1, _, rfl, .inr (SqT.of ha1), _, rfl, by omega, by rw [List.length_map]; omega, for_range (lo := 0) (n := (((PL.hs.map V.int).length : Int)).toNat) (fun i σ H' => H' = H ∧ ∃ v5 v6 v7, σ = [some (.ref p), some (.ref o), some (.ref n), some (.int (m : Nat)), some (.int (b + (m : Int) * PL.bs + overN PL c m i)), v5, v6, v7])
      ⟨rfl, none, none, none, by rw [overN, Int.add_zero]; rfl⟩ ?_ ?_⟩
    · rintro i σ H' hi ⟨e, v5, v6, v7, rfl⟩
      subst e
      have hi' : i < PL.hs.length := by rw [List.length_map] at hi; omega
      refine ⟨_, rfl, o, _, 0, _, rfl, rfl, SqT.of ho, rfl, _, rfl, ao, _, _, _, rfl, rfl, SqT.of hao, at0 (by omega), _, rfl, _, rfl, p, _, 1, _, rfl, rfl, SqT.of hp, rfl, _, rfl, a2, _, _, _, rfl, rfl, SqT.of ha2, at0 (by omega), _, _, rfl, rfl, cmL (by omega), _, _, rfl, rfl, ?_⟩
      refine ⟨_, rfl, p, _, 0, _, rfl, rfl, SqT.of hp, rfl, _, rfl, a1, _, _, _, rfl, rfl, SqT.of ha1, at0 hi', _, rfl, _, _, rfl, ?_⟩
      refine ⟨_, rfl, _, rfl, _, _, rfl, rfl, _, rfl, _, _, rfl, rfl, ?_⟩
      refine ⟨_, rfl, n, _, 0, _, rfl, rfl, SqT.of hn1, rfl, _, rfl, an, _, _, _, rfl, rfl, SqT.of hn2, at0 (by rw [tkN_len PL hcl]; exact hi'), _, rfl, rfl, _, rfl, iteNS ?_ ?_⟩
      · rw [cups_ticks hcl hi' (hG.ss0 i) (hO.hi i hi') m]
        rfl
      · refine ⟨rfl, some (.int (0 + (i : Int))), some (.int (c.getD i 0 + (m : Int) * PL.ss.getD i 0)), some (.int (mn (PL.hs.getD i 0) (c.getD i 0 + (m : Int) * PL.ss.getD i 0))), ?_⟩
        have ez : b + (m : Int) * PL.bs + overN PL c m i + (c.getD i 0 + (m : Int) * PL.ss.getD i 0) - mn (PL.hs.getD i 0) (c.getD i 0 + (m : Int) * PL.ss.getD i 0) = b + (m : Int) * PL.bs + overN PL c m (i + 1) := by rw [overN]; omega
        rw [← ez]
        rfl
    · rintro σ H' ⟨e, v5, v6, v7, rfl⟩
      subst e
      rw [List.length_map, Int.toNat_natCast]
      refine ⟨_, rfl, n, _, 1, _, rfl, rfl, SqT.of hn1, rfl, _, rfl, p, _, 2, _, rfl, rfl, SqT.of hp, rfl, _, rfl, _, _, rfl, rfl, ?_⟩
      have hk : ∀ b : Bool, b = true → Q (.bl b) H' := by
        rintro _ rfl
        exact k
      refine hk _ (decide_eq_true ?_)
      rw [bowl_ticks hG hO m]
      rfl
end
end K6

end
section
set_option Elab.async false
set_option linter.all false
set_option maxRecDepth 100000
set_option maxHeartbeats 8000000
namespace K6
open PySem L2
section
variable {P : Program} {w : World} {K : PySem.W.Frag} {mg : Str → Option Value} {base : Heap}
theorem scHa : FnScope ["_law_gate", "_law_deed", "_law_told", "_law_found", "_law_refused"] ["_law_gate", "_law_deed", "_law_told"] (defScope sHand) := ⟨rfl, rfl, rfl, by decide +kernel, rfl, by decide +kernel, by decide +kernel⟩
theorem ok_hand {f D C : Addr} {fd : FuncData} (Fd : Fun K "_law_by_hand" "_law_by_hand" sHand f fd) (T : GT K mg D C) (Nm : Nb mg) (S : Dn K mg "_law_so" sSo ["_law_found", "_law_meant"]) : FnOk P w K mg base CX0 3 f fd ["_law_gate", "_law_deed", "_law_told"] (spHand D) := by
  have B := T.B
  have GT' : FnOk P w K mg base CX0 2 T.fT T.dT ["self", "many"] (spTickG D) := ok_gtick T
  have GC : FnOk P w K mg base (CXn P w (.ref C)) 2 T.fC T.dC ["self", "who", "cost"] (spCallG D C) := ok_gcall T
  have GS : FnOk P w K mg base CX0 2 S.f S.d ["_law_found", "_law_meant"] (spSo 1) := ok_so Nm S 1
  refine Fd.ok scHa (fun vs H Q E h => ?_) (fun cdv A outer s H vs Q E hr h => ?_)
  · obtain ⟨g, p, l, d, PL, st, x, rfl, _⟩ := h
    rfl
  · obtain ⟨g, p, l, d, PL, st, x, rfl, ⟨dx, hg⟩, hP, hL, hG, hO, hn, hd, hB, k⟩ := h
    refine ⟨_, pss_cons (ps_if (pt_cmpR op_eq (pe_ix ix_tup (pv 1) pe_int (fun _ _ => rfl)) pe_str (nomark _))
        (pss_cons (ps_expr (pe_meth (pv 0) T.cl T.mT GT' hr T.bT .nil pass0 (pa_cons (pe_ix ix_tup (pv 1) pe_int (fun _ _ => rfl)) pa_nil))) (pss_one (ps_ret pe_bl))) pss_nil)
      (pss_cons (ps_set (i := 3) scHa.nd rfl (Or.inl rfl) pe_non)
      (pss_cons (ps_set (i := 4) scHa.nd rfl (Or.inl rfl) pe_bl)
      (pss_cons (ps_try (C := C) rfl rfl rfl T.mN T.xm
        (fun pins W' => pss_one (ps_set (i := 3) scHa.nd rfl (Or.inl rfl) (pe_methT (pv 0) T.cl T.mC GC hr T.bC .nil (pa_cons (pe_ix ix_tup (pv 1) pe_int (fun _ _ => rfl)) (pa_cons (pe_ix ix_tup (pv 1) pe_int (fun _ _ => rfl)) pa_nil)))))
        (fun x => pss_one (ps_set (i := 4) scHa.nd rfl (Or.inl rfl) pe_bl)))
      (pss_cons (ps_if (PW.pt (pw_or (pt_cmpR op_isN (pv 2) pe_non (nomark _)) (pw_or1 (pt_val (pv 4))))) (pss_one (ps_ret (pe_and (pv 4) (pe_one (pe_cmpR op_isN (pv 2) pe_non (nomark _)))))) pss_nil)
      (pss_one (ps_ret (pe_and (pe_callB call_isi rfl B.isi bb_isi (pa_cons (pv 3) (pa_cons (pe_bltn (v := .ty "bool") rfl B.bool bb_bool rfl) pa_nil))) (pe_one (pe_call GS hr rfl S.m S.F.kp S.b .nil pass0 (pa_cons (pv 3) (pa_cons (pv 2) pa_nil))))))))))), ?_⟩
    cases x with
    | tick n =>
      refine ⟨_, rfl, d, _, 0, _, rfl, rfl, SqT.of hd, rfl, rfl, _, rfl, ite2 (fun _ => ?_) (fun h => absurd (decide_eq_true rfl) h)⟩
      have hB' : n ≤ 100 := hB
      exact ⟨_, rfl, g, dx, _, rfl, hg, gf_no _ _ nm_tick.1 nm_tick.2, _, rfl, d, _, 1, _, rfl, rfl, SqT.of hd, rfl, g, p, l, PL, st.1, st.2, n, rfl, ⟨dx, hg⟩, hP, hL, hG, hO, hn, by omega, fun l' H' h1 h2 h3 => k l' H' h1 h2 h3⟩
    | call who cost =>
      refine ⟨_, rfl, d, _, 0, _, rfl, rfl, SqT.of hd, rfl, rfl, _, rfl, ite2 (fun h => absurd (of_decide_eq_true h) str_ct) (fun _ => ?_)⟩
      refine tseq_asgC (tseq_asgC ?_)
      intro pins
      refine ⟨_, rfl, g, dx, _, rfl, hg, gf_no _ _ nm_call.1 nm_call.2, _, rfl, d, _, 1, _, rfl, rfl, SqT.of hd, rfl, _, rfl, d, _, 2, _, rfl, rfl, SqT.of hd, rfl, g, p, l, PL, st, who, cost, rfl, ⟨dx, hg⟩, hP, hL, hO.len, hn, fun hb => ?_, fun hin l' H' h1 h2 h3 => ?_⟩
      · intro x
        have hkk := k l H ⟨dx, hg⟩ (by rw [step_bad hb]; exact hL) (SameX.refl g H)
        have ea : aV (ansOf PL st (.call who cost)) = V.non := by rw [ans_bad hb]; rfl
        rw [ea]
        refine ⟨_, rfl, rfl, true, rfl, iteT (iteT ?_)⟩
        refine ⟨_, rfl, true, rfl, iteT ?_⟩
        exact ⟨_, rfl, rfl, hkk⟩
      · have hkk := k l' H' h1 h2 h3
        have ea : aV (ansOf PL st (.call who cost)) = V.bl (decide (enough st who cost)) := by rw [ans_in hin]; rfl
        rw [ea]
        refine ⟨_, rfl, rfl, false, rfl, iteF ?_⟩
        refine ⟨_, rfl, false, rfl, iteF ?_⟩
        refine ⟨_, rfl, _, _, _, true, rfl, TyOf.bl _, kit_bb, true, rfl, iteT ?_⟩
        refine ⟨_, rfl, _, rfl, _, _, rfl, .inl ⟨_, rfl, rfl⟩, fun H2 e2 => ?_⟩
        exact k l' H2 (h1.on e2) (h2.on e2) (h3.trans (e2.x g))
theorem scTw : FnScope ["_law_plan", "_law_gate", "_law_beside"] ["_law_plan"] (defScope sTwo) := ⟨rfl, rfl, rfl, by decide +kernel, rfl, by decide +kernel, by decide +kernel⟩
theorem ok_two {f D C : Addr} {fd : FuncData} (Fd : Fun K "_law_two_gates" "_law_two_gates" sTwo f fd) (T : GT K mg D C) : FnOk P w K mg base CX0 4 f fd ["_law_plan"] (spTwo D) := by
  have GI : FnOk P w K mg base CX0 2 T.fI T.dI ["self", "plan"] (spInitG D) := ok_init T
  have GC : FnOk P w K mg base (CXn P w (.ref C)) 2 T.fC T.dC ["self", "who", "cost"] (spCallG D C) := ok_gcall T
  refine Fd.ok scTw (fun vs H Q E h => ?_) (fun cdv A outer s H vs Q E hr h => ?_)
  · obtain ⟨p, PL, rfl, _⟩ := h
    rfl
  · obtain ⟨p, PL, rfl, hP, hG, hn1, hn, k⟩ := h
    have hr2 : Room 2 _ := hr.mono (by decide)
    obtain ⟨a1, a2, hp, ha1, ha2⟩ := id hP
    refine ⟨_, pss_cons (ps_set (i := 1) scTw.nd rfl (Or.inl rfl) (pe_make T.M GI hr rfl T.mgD T.bI .nil pass0 (pa_cons (pv 0) pa_nil)))
      (pss_cons (ps_set (i := 2) scTw.nd rfl (Or.inl rfl) (pe_make T.M GI hr rfl T.mgD T.bI .nil pass0 (pa_cons (pv 0) pa_nil)))
      (pss_cons (ps_expr (pe_meth (pv 2) T.cl T.mC GC hr2 T.bC .nil passF (pa_cons pe_int (pa_cons (pe_ix ix_tup (pe_ix ix_tup (pv 0) pe_int (fun _ _ => rfl)) pe_int (fun _ _ => rfl)) pa_nil))))
      (pss_one (ps_ret (pe_tup (pa_cons (pv 1) (pa_cons (pv 2) pa_nil))))))), ?_⟩
    refine ⟨_, rfl, fun g dx ng ndx nex => ?_⟩
    have s0 : Same H (upd (upd H dx (.own g)) g (.ins D dx [])) := fun b o e => by
      rw [upd_ne (ne_of_none e ng), upd_ne (ne_of_none e ndx)]
      exact e
    refine ⟨g, p, dx, PL, rfl, upd_same, hP.on s0, fun l H1 hg1 hl1 hx1 => ⟨rfl, ?_⟩⟩
    have s1 : Same H H1 := hx1.same ng s0
    refine ⟨_, rfl, fun g2 dx2 ng2 ndx2 nex2 => ?_⟩
    have s2 : Same H1 (upd (upd H1 dx2 (.own g2)) g2 (.ins D dx2 [])) := fun b o e => by
      rw [upd_ne (ne_of_none e ng2), upd_ne (ne_of_none e ndx2)]
      exact e
    refine ⟨g2, p, dx2, PL, rfl, upd_same, (hP.on s1).on s2, fun l2 H2 hg2 hl2 hx2 => ⟨rfl, ?_⟩⟩
    have s3 : Same H1 H2 := hx2.same ng2 s2
    have hgg : g ≠ g2 := by
      obtain ⟨z, hz⟩ := hg1
      exact ne_of_none hz ng2
    have ng20 : H g2 = none := s1.free ng2
    have hp2 := s3 _ _ (s1 _ _ hp)
    have ha12 := s3 _ _ (s1 _ _ ha1)
    obtain ⟨dy, hy⟩ := id hg2
    have hin : inP PL 0 := ⟨by omega, by omega⟩
    have hen : enough (PL.hs, PL.bh) 0 (PL.hs.getD 0 0) := by
      have := hG.bh0
      show PL.hs.getD 0 0 ≤ PL.hs.getD (0 : Int).toNat 0 + PL.bh
      rw [show ((0 : Int).toNat) = 0 from rfl]
      omega
    refine ⟨_, rfl, g2, dy, _, rfl, hy, gf_no _ _ nm_call.1 nm_call.2, _, rfl, p, _, 0, _, rfl, rfl, SqT.of hp2, rfl, a1, _, 0, _, rfl, rfl, SqT.of ha12, atI_nats (i := 0) (by omega), g2, p, l2, PL, (PL.hs, PL.bh), 0, _, rfl, hg2, (hP.on s1).on s3, hl2, rfl, hn, fun hb => absurd hin hb, fun _ l3 H3 h1 h2 h3 => ?_⟩
    rw [step_yes hin hen] at h2
    have h2' : LvH H3 l3 (PL.hs.set 0 0) PL.bh := by
      have e1 : mn (PL.hs.getD 0 0) (PL.hs.getD 0 0) = PL.hs.getD 0 0 := by unfold mn; split <;> rfl
      have e2 : took (PL.hs, PL.bh) 0 (PL.hs.getD 0 0) = (PL.hs.set 0 0, PL.bh) := by
        unfold took
        rw [e1, Int.sub_self, Int.sub_zero]
      rw [show ((0 : Int).toNat) = 0 from rfl, e2] at h2
      exact h2
    have h30 : Same H1 H3 := h3.same ng2 s3
    refine ⟨_, rfl, _, rfl, two_line, fun q hq => ?_⟩
    have e4 := Same.new (o := .tup [.ref g, .ref g2]) hq
    exact k q g g2 l l3 _ ((s1.trans h30).trans e4) upd_same hgg ng ng20 ((hg1.on h30).on e4) ((hl1.on h30).on e4) (h1.on e4) (h2'.on e4)
theorem scLs : FnScope ["_law_beside", "_law_plan"] ["_law_beside", "_law_plan"] (defScope sLeftSo) := ⟨rfl, rfl, rfl, by decide +kernel, rfl, by decide +kernel, by decide +kernel⟩
theorem ok_leftso {f D C : Addr} {fd : FuncData} (Fd : Fun K "_law_left_so" "_law_left_so" sLeftSo f fd) (T : GT K mg D C) (Nm : Nb mg) (S : Dn K mg "_law_so" sSo ["_law_found", "_law_meant"]) : FnOk P w K mg base CX0 5 f fd ["_law_beside", "_law_plan"] (spLeftSo D) := by
  have GS : FnOk P w K mg base CX0 4 S.f S.d ["_law_found", "_law_meant"] (spSo 3) := ok_so Nm S 3
  refine Fd.ok scLs (fun vs H Q E h => ?_) (fun cdv A outer s H vs Q E hr h => ?_)
  · obtain ⟨g, p, l, PL, rfl, _⟩ := h
    rfl
  · obtain ⟨g, p, l, PL, rfl, ⟨dx, hg⟩, hL, ⟨a1, a2, hp, ha1, ha2⟩, hn1, hn, k⟩ := h
    refine ⟨_, pss_one (ps_ret (pe_call GS hr rfl S.m S.F.kp S.b .nil pass0 (pa_cons (pe_fld (pv 0) rfl) (pa_cons (pe_tup (pa_cons (pe_op op_catG (pe_tup (pa_cons pe_int pa_nil)) (pe_slice sl_tup (pe_ix ix_tup (pv 1) pe_int (fun _ _ => rfl)) (po_some pe_int) po_none)) (pa_cons (pe_ix ix_tup (pv 1) pe_int (fun _ _ => rfl)) pa_nil))) pa_nil)))), ?_⟩
    have hlen : (PL.hs.map V.int).length = PL.hs.length := List.length_map ..
    obtain ⟨ec, nc⟩ := cut_hi (xs := PL.hs.map V.int) (w := 0) (by omega) (by rw [hlen]; omega)
    rw [show (0 : Int) + 1 = 1 from rfl] at ec nc
    refine ⟨_, rfl, g, D, dx, _, _, rfl, hg, T.cl, T.nL, gf_levels _ _, one_line, fun q1 hq1 => ?_⟩
    have e1 := Same.new (o := .tup [.int 0]) hq1
    refine ⟨_, rfl, p, _, 0, _, rfl, rfl, SqT.of (e1 _ _ hp), rfl, 1, rfl, a1, _, rfl, SqT.of (e1 _ _ ha1), nc, fun q2 hq2 => ?_⟩
    have e2 := Same.new (o := .tup (cutV (PL.hs.map V.int) (some 1) none)) hq2
    refine ⟨q1, q2, _, _, rfl, rfl, e2 _ _ upd_same, upd_same, ?_, fun q3 H3 e3 h3 => ?_⟩
    · rw [ec, List.length_drop, hlen]
      refine Nat.le_of_lt (small1000 ?_)
      show 1 + (PL.hs.length - (0 + 1)) ≤ 1000
      omega
    have E3 := (e1.trans e2).trans e3
    have h3' : H3 q3 = some (.tup ((PL.hs.set 0 0).map V.int)) := by
      rw [h3, ec]
      have := take_set (c := PL.hs) (w := 0) (x := 0) (by omega)
      rw [← this]
      rfl
    refine ⟨_, rfl, p, _, 2, _, rfl, rfl, SqT.of (E3 _ _ hp), rfl, two_line, fun q4 hq4 => ?_⟩
    have e4 := Same.new (o := .tup [.ref q3, .int PL.bh]) hq4
    exact ⟨_, _, rfl, SoOk.levels ((hL.on E3).on e4) ⟨q3, upd_same, e4 _ _ h3'⟩ (by rw [List.length_set]; exact hn), fun H' e' => k H' ((E3.trans e4).trans e')⟩
end
end K6

end
section
set_option Elab.async false
set_option linter.all false
set_option maxRecDepth 100000
set_option maxHeartbeats 8000000
namespace K6
open PySem L2
section
variable {P : Program} {w : World} {K : PySem.W.Frag} {mg : Str → Option Value} {base : Heap}
theorem scL : FnScope ["_law_script", "_law_count", "_law_plan", "_law_deeds", "_law_handed", "_law_told", "_law_rows", "_law_old", "_law_gate", "_law_beside", "_law_sums", "_law_k", "_law_deed", "_law_found"] ["_law_script"] (defScope sLaw) := ⟨rfl, rfl, rfl, by decide +kernel, rfl, by decide +kernel, by decide +kernel⟩
structure Tx (K : PySem.W.Frag) (mg : Str → Option Value) where
  D : Addr
  C : Addr
  G : GT K mg D C
  Nm : Nb mg
  An : Dn K mg "answer_to" sAnswer ["gate", "deed"]
  As : Dn K mg "answers" sAnswers ["plan", "deeds"]
  La : Dn K mg "levels_after" sLevels ["plan", "deeds"]
  Lt : Dn K mg "let_through" sLet ["plan", "deeds"]
  S : Dn K mg "_law_so" sSo ["_law_found", "_law_meant"]
  W : Dn K mg "_law_whole" sWhole ["_law_found"]
  A : Dn K mg "_law_at" sAt ["_law_script", "_law_k"]
  P : Dn K mg "_law_plan_of" sPlan ["_law_script", "_law_count"]
  R : Dn K mg "_law_are_levels" sAre ["_law_found", "_law_count"]
  Dr : Dn K mg "_law_drawn" sDrawn ["_law_cells", "_law_count"]
  Bo : Dn K mg "_law_bounded" sBounded ["_law_plan", "_law_levels"]
  Cd : Dn K mg "_law_called" sCalled ["_law_old", "_law_new", "_law_told", "_law_who", "_law_cost"]
  Ti : Dn K mg "_law_ticked" sTicked ["_law_plan", "_law_old", "_law_new", "_law_many"]
  Ha : Dn K mg "_law_by_hand" sHand ["_law_gate", "_law_deed", "_law_told"]
  Tw : Dn K mg "_law_two_gates" sTwo ["_law_plan"]
  Ls : Dn K mg "_law_left_so" sLeftSo ["_law_beside", "_law_plan"]
theorem ok_law {f : Addr} {fd : FuncData} (Fd : Fun K "law" "law" sLaw f fd) (T : Tx K mg) : FnOk P w K mg base CX0 6 f fd ["_law_script"] (spLaw K) := by
  have B := T.G.B
  have GA : FnOk P w K mg base CX0 1 T.A.f T.A.d ["_law_script", "_law_k"] (spAt K) := ok_at T.A.F B
  have GP : FnOk P w K mg base CX0 2 T.P.f T.P.d ["_law_script", "_law_count"] (spPlan K) := ok_plan T.P.F B T.A.F T.A.b T.A.m
  have GD : FnOk P w K mg base CX0 1 T.Dr.f T.Dr.d ["_law_cells", "_law_count"] (spDrawn K) := ok_drawn T.Dr.F B
  have GS : FnOk P w K mg base CX0 4 T.As.f T.As.d ["plan", "deeds"] (spAnswers K) := ok_answers T.As.F T.G T.An
  have GV : FnOk P w K mg base CX0 4 T.La.f T.La.d ["plan", "deeds"] spLevels := ok_levels T.La.F T.G T.An
  have GL : FnOk P w K mg base CX0 4 T.Lt.f T.Lt.d ["plan", "deeds"] spLet := ok_let T.Lt.F T.G T.An
  have GW : FnOk P w K mg base CX0 1 T.W.f T.W.d ["_law_found"] spWhole := ok_whole T.W.F B
  have GR : FnOk P w K mg base CX0 2 T.R.f T.R.d ["_law_found", "_law_count"] spAre := ok_are T.R.F B T.W.F T.W.b T.W.m
  have GB : FnOk P w K mg base CX0 1 T.Bo.f T.Bo.d ["_law_plan", "_law_levels"] spBounded := ok_bounded T.Bo.F B
  have GC : FnOk P w K mg base CX0 1 T.Cd.f T.Cd.d ["_law_old", "_law_new", "_law_told", "_law_who", "_law_cost"] spCalled := ok_called T.Cd.F B
  have GT' : FnOk P w K mg base CX0 1 T.Ti.f T.Ti.d ["_law_plan", "_law_old", "_law_new", "_law_many"] spTicked6 := ok_ticked T.Ti.F B
  have GH : FnOk P w K mg base CX0 3 T.Ha.f T.Ha.d ["_law_gate", "_law_deed", "_law_told"] (spHand T.D) := ok_hand T.Ha.F T.G T.Nm T.S
  have G2 : FnOk P w K mg base CX0 4 T.Tw.f T.Tw.d ["_law_plan"] (spTwo T.D) := ok_two T.Tw.F T.G
  have GO : FnOk P w K mg base CX0 5 T.Ls.f T.Ls.d ["_law_beside", "_law_plan"] (spLeftSo T.D) := ok_leftso T.Ls.F T.G T.Nm T.S
  refine Fd.ok scL (fun vs H Q E h => ?_) (fun cdv A outer s H vs Q E hr h => ?_)
  · obtain ⟨a, ns, rfl, _⟩ := h
    rfl
  · obtain ⟨a, ns, rfl, hS, hlen, kq⟩ := h
    have hr1 : Room 1 _ := hr.mono (by decide)
    have hr2 : Room 2 _ := hr.mono (by decide)
    have hr3 : Room 3 _ := hr.mono (by decide)
    have hr4 : Room 4 _ := hr.mono (by decide)
    have hu := hu_of hr
    have hu0 := Nat.lt_of_succ_lt hu
    refine ⟨_, pss_cons (ps_set (i := 1) scL.nd rfl (Or.inl rfl) (pe_ix ix_list (pe_lst (pa_cons pe_int (pa_cons pe_int (pa_cons pe_int (pa_cons pe_int (pa_cons pe_int (pa_cons pe_int (pa_cons pe_int (pa_cons pe_int pa_nil)))))))))
        (pe_op op_mod (pe_op op_mod (pe_op op_mul (pe_call GA hr1 rfl T.A.m T.A.F.kp T.A.b .nil pass0 (pa_cons (pv 0) (pa_cons pe_int pa_nil))) pe_int) pe_int) pe_int) (fun _ _ => rfl)))
      (pss_cons (ps_set (i := 2) scL.nd rfl (Or.inl rfl) (pe_call GP hr2 rfl T.P.m T.P.F.kp T.P.b .nil pass0 (pa_cons (pv 0) (pa_cons (pv 1) pa_nil))))
      (pss_cons (ps_set (i := 3) scL.nd rfl (Or.inl rfl) (pe_call GD hr1 rfl T.Dr.m T.Dr.F.kp T.Dr.b .nil pass0 (pa_cons (pe_slice sl_list (pv 0) (po_some pe_int) (po_some pe_int)) (pa_cons (pv 1) pa_nil))))
      (pss_cons (ps_set (i := 4) scL.nd rfl (Or.inl rfl) (pe_callTy call_list_of rfl T.Nm.ls bb_list (pa_cons (pv 3) pa_nil)))
      (pss_cons (ps_set (i := 5) scL.nd rfl (Or.inl rfl) (pe_call GS hr4 rfl T.As.m T.As.F.kp T.As.b .nil pass0 (pa_cons (pv 2) (pa_cons (pv 4) pa_nil))))
      (pss_cons (ps_set (i := 6) scL.nd rfl (Or.inl rfl) (pe_call GV hr4 rfl T.La.m T.La.F.kp T.La.b .nil pass0 (pa_cons (pv 2) (pa_cons (pv 4) pa_nil))))
      (pss_cons (ps_if (PW.pt (pw_or (pt_not (pt_val (pe_callB call_isi rfl B.isi bb_isi (pa_cons (pv 5) (pa_cons (pe_bltn (v := .ty "list") rfl T.Nm.ls bb_list rfl) pa_nil)))))
        (pw_or1 (pt_cmpR op_ne (pe_callB call_len_seq rfl B.len bb_len (pa_cons (pv 5) pa_nil)) (pe_callB call_len_seq rfl B.len bb_len (pa_cons (pv 3) pa_nil)) (nomark _))))) pss_no pss_nil)
      (pss_cons (ps_if (PW.pt (pw_or (pt_not (pt_val (pe_callB call_isi rfl B.isi bb_isi (pa_cons (pv 6) (pa_cons (pe_bltn (v := .ty "list") rfl T.Nm.ls bb_list rfl) pa_nil)))))
        (pw_or1 (pt_cmpR op_ne (pe_callB call_len_seq rfl B.len bb_len (pa_cons (pv 6) pa_nil)) (pe_callB call_len_seq rfl B.len bb_len (pa_cons (pv 3) pa_nil)) (nomark _))))) pss_no pss_nil)
      (pss_cons (ps_set (i := 7) scL.nd rfl (Or.inl rfl) (pe_tup (pa_cons (pe_ix ix_tup (pv 2) pe_int (fun _ _ => rfl)) (pa_cons (pe_ix ix_tup (pv 2) pe_int (fun _ _ => rfl)) pa_nil))))
      (pss_cons (ps_asg (g := gTup K 2 (gCons (gName 8) (gCons (gName 9) gNil))) (pe_call G2 hr4 rfl T.Tw.m T.Tw.F.kp T.Tw.b .nil pass0 (pa_cons (pv 2) pa_nil)) (pg_tup rfl (pgs_cons (pg_name (i := 8) scL.nd rfl (Or.inl rfl)) (pgs_cons (pg_name (i := 9) scL.nd rfl (Or.inl rfl)) pgs_nil))))
      (pss_cons (ps_set (i := 10) scL.nd rfl (Or.inl rfl) (pe_op op_rep (pe_lst (pa_cons pe_int pa_nil)) (pv 1)))
      (pss_cons (ps_for PassesOwn.never rfl (pi_range1 rfl B.range (pa_cons (pe_callB call_len_seq rfl B.len bb_len (pa_cons (pv 3) pa_nil)) pa_nil)) (pg_name (i := 11) scL.nd rfl (Or.inl rfl))
        (pss_cons (ps_if (PW.pt (pw_or (pt_not (pt_val (pe_call GR hr2 rfl T.R.m T.R.F.kp T.R.b .nil pass0 (pa_cons (pe_ix ix_list (pv 6) (pv 11) (fun _ _ => rfl)) (pa_cons (pv 1) pa_nil)))))
          (pw_or1 (pt_not (pt_val (pe_call GB hr1 rfl T.Bo.m T.Bo.F.kp T.Bo.b .nil pass0 (pa_cons (pv 2) (pa_cons (pe_ix ix_list (pv 6) (pv 11) (fun _ _ => rfl)) pa_nil)))))))) pss_no pss_nil)
        (pss_cons (ps_set (i := 12) scL.nd rfl (Or.inl rfl) (pe_ix ix_list (pv 3) (pv 11) (fun _ _ => rfl)))
        (pss_cons (ps_if (PW.pt (pw_or (pt_not (pt_val (pe_call GH hr3 rfl T.Ha.m T.Ha.F.kp T.Ha.b .nil pass0 (pa_cons (pv 8) (pa_cons (pv 12) (pa_cons (pe_ix ix_list (pv 5) (pv 11) (fun _ _ => rfl)) pa_nil))))))
          (pw_or1 (pt_cmpR (op_neLv hu) (pe_fld (pv 8) rfl) (pe_ix ix_list (pv 6) (pv 11) (fun _ _ => rfl)) (nomark _))))) pss_no pss_nil)
        (pss_cons (ps_if (pt_cmpR op_eq (pe_ix ix_tup (pv 12) pe_int (fun _ _ => rfl)) pe_str (nomark _))
          (pss_one (ps_if (pt_not (pt_val (pe_call GT' hr1 rfl T.Ti.m T.Ti.F.kp T.Ti.b .nil pass0 (pa_cons (pv 2) (pa_cons (pv 7) (pa_cons (pe_ix ix_list (pv 6) (pv 11) (fun _ _ => rfl)) (pa_cons (pe_ix ix_tup (pv 12) pe_int (fun _ _ => rfl)) pa_nil))))))) pss_no pss_nil))
          (pss_one (ps_if (PW.pt (pw_or (pt_cmpR op_lt (pe_ix ix_tup (pv 12) pe_int (fun _ _ => rfl)) pe_int (nomark _)) (pw_or1 (pt_cmpR op_ge (pe_ix ix_tup (pv 12) pe_int (fun _ _ => rfl)) (pv 1) (nomark _)))))
            (pss_one (ps_if (PW.pt (pw_or (pt_cmpR op_notN (pe_ix ix_list (pv 5) (pv 11) (fun _ _ => rfl)) pe_non (nomark _)) (pw_or1 (pt_cmpR (op_neLv hu) (pe_ix ix_list (pv 6) (pv 11) (fun _ _ => rfl)) (pv 7) (nomark _))))) pss_no pss_nil))
            (pss_cons (ps_if (pt_not (pt_val (pe_call GC hr1 rfl T.Cd.m T.Cd.F.kp T.Cd.b .nil pass0 (pa_cons (pv 7) (pa_cons (pe_ix ix_list (pv 6) (pv 11) (fun _ _ => rfl)) (pa_cons (pe_ix ix_list (pv 5) (pv 11) (fun _ _ => rfl)) (pa_cons (pe_ix ix_tup (pv 12) pe_int (fun _ _ => rfl)) (pa_cons (pe_ix ix_tup (pv 12) pe_int (fun _ _ => rfl)) pa_nil)))))))) pss_no pss_nil)
            (pss_one (ps_asg (pe_op op_add (pe_ix ix_list (pv 10) (pe_ix ix_tup (pv 12) pe_int (fun _ _ => rfl)) (fun _ _ => rfl)) (pe_op op_mul (pe_ix ix_tup (pv 12) pe_int (fun _ _ => rfl)) (pe_callTy call_int1 rfl B.int bb_int (pa_cons (pe_ix ix_list (pv 5) (pv 11) (fun _ _ => rfl)) pa_nil)))) (pg_sub (pv 10) (pe_ix ix_tup (pv 12) pe_int (fun _ _ => rfl)) set_list)))))))
        (pss_one (ps_set (i := 7) scL.nd rfl (Or.inl rfl) (pe_ix ix_list (pv 6) (pv 11) (fun _ _ => rfl)))))))))
      (pss_cons (ps_set (i := 13) scL.nd rfl (Or.inl rfl) (pe_call GL hr4 rfl T.Lt.m T.Lt.F.kp T.Lt.b .nil pass0 (pa_cons (pv 2) (pa_cons (pv 4) pa_nil))))
      (pss_cons (ps_if (PW.pt (pw_or (pt_not (pt_val (pe_callB call_isi rfl B.isi bb_isi (pa_cons (pv 13) (pa_cons (pe_bltn (v := .ty "list") rfl T.Nm.ls bb_list rfl) pa_nil)))))
        (pw_or1 (pt_cmpR op_ne (pe_callB call_len_seq rfl B.len bb_len (pa_cons (pv 13) pa_nil)) (pv 1) (nomark _))))) pss_no pss_nil)
      (pss_cons (ps_if (PW.pt (pw_or (pt_cmpR (op_neRefs hu0) (pv 4) (pv 3) (nomark _)) (pw_or (pt_cmpR (op_neSelf hu0) (pe_fld (pv 8) rfl) (pv 2) (nomark _)) (pw_or1 (pt_not (pt_val (pe_call GO hr rfl T.Ls.m T.Ls.F.kp T.Ls.b .nil pass0 (pa_cons (pv 9) (pa_cons (pv 2) pa_nil))))))))) pss_no pss_nil)
      (pss_cons (ps_for PassesOwn.never rfl (pi_range1 rfl B.range (pa_cons (pv 1) pa_nil)) (pg_name (i := 11) scL.nd rfl (Or.inl rfl))
        (pss_one (ps_if (PW.pt (pw_or (pt_not (pt_val (pe_call GW hr1 rfl T.W.m T.W.F.kp T.W.b .nil pass0 (pa_cons (pe_ix ix_list (pv 13) (pv 11) (fun _ _ => rfl)) pa_nil)))) (pw_or1 (pt_cmpR op_ne (pe_ix ix_list (pv 13) (pv 11) (fun _ _ => rfl)) (pe_ix ix_list (pv 10) (pv 11) (fun _ _ => rfl)) (nomark _))))) pss_no pss_nil)))
      (pss_one (ps_ret pe_bl))))))))))))))))), ?_⟩
    -- count
    refine ⟨eight_line, fun m hm => ?_⟩
    have e0 : Same H (upd H m (.lst [.int 1, .int 2, .int 3, .int 4, .int 2, .int 3, .int 4, .int 9])) := Same.new hm
    obtain ⟨t, ht, ht0, ht1⟩ := menu (xs := [1, 2, 3, 4, 2, 3, 4, 9]) (j := ns.getD 0 0 * 48271 % 1063 % 8) (lo := 1) (hi := 9) (mod0 _ (by decide)) (mod1 _ (by decide)) (by decide)
    obtain ⟨n, rfl⟩ : ∃ n : Nat, t = n := ⟨t.toNat, by omega⟩
    refine ⟨_, rfl, a, ns, 0, rfl, e0.seq hS, by decide, _, _, rfl, rfl, cmR (by omega), _, _, rfl, rfl, (by show (0 : Int) < 1063; decide), _, _, rfl, rfl, (by show (0 : Int) < 8; decide), m, _, _, _, rfl, rfl, SqL.of upd_same, ht, ?_⟩
    -- plan
    refine ⟨_, rfl, _, rfl, a, ns, n, rfl, e0.seq hS, by omega, by omega, fun p PL H2 e2 hPL ok => ?_⟩
    have hG := ok.good
    obtain ⟨hhl, hsl, hh0, hs0, hb0, hf0⟩ := ok
    subst hhl
    obtain ⟨a1, a2, hp, ha1, ha2⟩ := id hPL
    -- deeds
    obtain ⟨ms, hms, hml⟩ := cut_ints ns (some 3) (some 100)
    refine ⟨_, rfl, 3, rfl, 100, rfl, a, _, rfl, (e0.trans e2).seq hS, fun sc hsc => ?_⟩
    have e3 := Same.new (o := .lst (cutV (ns.map V.int) (some 3) (some 100))) hsc
    have hsc' : upd H2 sc (.lst (cutV (ns.map V.int) (some 3) (some 100))) sc = some (.lst (ms.map V.int)) := by rw [upd_same, hms]
    refine ⟨_, rfl, sc, ms, PL.hs.length, rfl, SqL.of hsc', by omega, by omega, by omega, fun dq as ds H4 e4 _ hdq hDs hdl hdB => ?_⟩
    have hlen' : ds.length ≤ 1000 := by omega
    -- handed, told, rows
    refine ⟨_, rfl, dq, _, rfl, .inl (SqL.of hdq), fun hl hhl => ?_⟩
    have e5 := Same.new (o := .lst (as.map V.ref)) hhl
    have E5 := (e3.trans e4).trans e5
    refine ⟨_, rfl, _, rfl, p, hl, PL, as, ds, rfl, hPL.on E5, hG, by omega, upd_same, hDs.on e5, hdB, hlen', fun tq H6 e6 htq6 => ?_⟩
    have hhl6 := e6 _ _ (upd_same (H := H4) (a := hl) (o := .lst (as.map V.ref)))
    refine ⟨_, rfl, _, rfl, p, hl, PL, as, ds, rfl, (hPL.on E5).on e6, hG, by omega, hhl6, (hDs.on e5).on e6, hdB, hlen', fun rq rs H7 e7 hrq hrl hrs => ?_⟩
    have E7 := (E5.trans e6).trans e7
    have hp7 := E7 _ _ hp
    have ha17 := E7 _ _ ha1
    have hPL7 := hPL.on E7
    have hdq7 := ((e5.trans e6).trans e7) _ _ hdq
    have hhl7 := e7 _ _ hhl6
    have htq7 := e7 _ _ htq6
    have hDs7 := hDs.on ((e5.trans e6).trans e7)
    -- the first tests
    refine ⟨_, rfl, _, _, _, true, rfl, TyOf.lst htq7, kit_ll, true, rfl, iteF ?_⟩
    refine ⟨_, rfl, tq, _, rfl, .inl (SqL.of htq7), _, rfl, dq, _, rfl, .inl (SqL.of hdq7), rfl, _, rfl, iteNS ?_ ?_⟩
    · rw [List.length_map, List.length_range, List.length_map, hDs.1]
    refine ⟨_, rfl, _, _, _, true, rfl, TyOf.lst hrq, kit_ll, true, rfl, iteF ?_⟩
    refine ⟨_, rfl, rq, _, rfl, .inl (SqL.of hrq), _, rfl, dq, _, rfl, .inl (SqL.of hdq7), rfl, _, rfl, iteNS ?_ ?_⟩
    · rw [List.length_map, List.length_map, hDs.1, hrl]
    -- old
    refine ⟨_, rfl, p, _, 0, _, rfl, rfl, SqT.of hp7, rfl, _, rfl, p, _, 2, _, rfl, rfl, SqT.of hp7, rfl, two_line, fun ol hol => ?_⟩
    have e8 := Same.new (o := .tup [.ref a1, .int PL.bh]) hol
    -- gates
    refine ⟨_, rfl, p, PL, rfl, hPL7.on e8, hG, by omega, by omega, fun tw g g2 l l2 H9 e9 htw hgg ng ng2 hg9 hl9 hg29 hl29 => ?_⟩
    refine ⟨tw, _, rfl, SqT.of htw, rfl, _, _, rfl, _, _, rfl, rfl, ?_⟩
    -- sums
    refine ⟨one_line, fun g0 hg0 => ?_⟩
    have e10 := Same.new (o := .lst [.int 0]) hg0
    refine ⟨_, rfl, g0, _, _, rfl, rfl, upd_same, by omega, by omega, by rw [Int.toNat_natCast]; exact Nat.le_of_lt (small1000 (by show 1 * PL.hs.length ≤ 1000; omega)), fun sq hsq => ?_⟩
    rw [Int.toNat_natCast, rep_flat]
    have e11 := Same.new (o := .lst ((List.replicate PL.hs.length (0 : Int)).map V.int)) hsq
    have E11 := (e9.trans e10).trans e11
    have hHs : ∀ {b : Addr} {o : HO}, H7 b = some o → b ≠ g ∧ b ≠ g2 := fun {b o} hb => ⟨ne_of_none (e8 _ _ hb) ng, ne_of_none (e8 _ _ hb) ng2⟩
    have hst := fun k (hk : k ≤ ds.length) => LvOk.stt (s := (PL.hs, PL.bh)) hG (LvOk.full hG) (fun y hy => (hdB y hy).ok) k hk
    have hsq7 : H7 sq = none := (e8.trans (e9.trans e10)).free hsq
    have hsqg : g ≠ sq ∧ g2 ≠ sq := by
      obtain ⟨z1, hz1⟩ := hg9
      obtain ⟨z2, hz2⟩ := hg29
      exact ⟨ne_of_none (e10 _ _ hz1) hsq, ne_of_none (e10 _ _ hz2) hsq⟩
    -- the days
    refine ⟨_, rfl, dq, _, rfl, .inl (SqL.of ((e8.trans E11) _ _ hdq7)), _, rfl, by omega, by rw [List.length_map, hDs.1]; omega, for_range (lo := 0) (n := (((as.map V.ref).length : Int)).toNat) (fun i σ H' => ∃ o l v11 v12, σ = [some (.ref a), some (.int (PL.hs.length : Nat)), some (.ref p), some (.ref dq), some (.ref hl), some (.ref tq), some (.ref rq), some (.ref o), some (.ref g), some (.ref g2), some (.ref sq), v11, v12, none] ∧
        Same H7 H' ∧ GtH T.D H' g p l ∧ LvH H' l (stt PL (PL.hs, PL.bh) ds i).1 (stt PL (PL.hs, PL.bh) ds i).2 ∧ LvH H' o (stt PL (PL.hs, PL.bh) ds i).1 (stt PL (PL.hs, PL.bh) ds i).2 ∧ GtH T.D H' g2 p l2 ∧ LvH H' l2 (PL.hs.set 0 0) PL.bh ∧ H' sq = some (.lst ((thrs PL ds i).map V.int)))
      ⟨ol, l, none, none, rfl, e8.trans E11, (hg9.on e10).on e11, by rw [stt_zero]; exact (hl9.on e10).on e11, by rw [stt_zero]; exact ⟨a1, E11 _ _ upd_same, E11 _ _ (e8 _ _ ha17)⟩, (hg29.on e10).on e11, (hl29.on e10).on e11, by rw [upd_same, thrs_zero]⟩ ?_ ?_⟩
    · rintro i σ H' hi ⟨o, l', v11, v12, rfl, hS7, hg', hl', ho', hg2', hl2', hsq'⟩
      have hk : i < ds.length := by rw [List.length_map, hDs.1] at hi; omega
      obtain ⟨d, y, hd, hy, hdy⟩ := (hDs7.on hS7).get hk
      have hz : (0 + (i : Int)) = ((i : Nat) : Int) := by omega
      have hat : atI (as.map V.ref) (0 + (i : Int)) = some (.ref d) := atI_refs hd hz
      have htl : atI ((List.range ds.length).map fun i => aV (ansI PL (PL.hs, PL.bh) ds i)) (0 + (i : Int)) = some (aV (ansOf PL (stt PL (PL.hs, PL.bh) ds i) y)) := by
        rw [atI_vs (get_range hk) hz]
        unfold ansI
        rw [getD_dd hy]
      have hir : i < rs.length := by rw [hrl]; exact hk
      obtain ⟨r, hr'⟩ : ∃ r, rs[i]? = some r := ⟨_, List.getElem?_eq_getElem hir⟩
      have hrt : atI (rs.map V.ref) (0 + (i : Int)) = some (.ref r) := atI_refs hr' hz
      have hrL7 := hrs i r hr'
      have hnx := stt_succ PL (PL.hs, PL.bh) hy
      have hyB := hdB y (List.mem_of_getElem? hy)
      have ok1 := hst i (Nat.le_of_lt hk)
      have ok2 := hst (i + 1) hk
      have hrL := hrL7.on hS7
      have hrq' := hS7 _ _ hrq
      have hp' := hS7 _ _ hp7
      have hPL' := hPL7.on hS7
      have hdq' := hS7 _ _ hdq7
      have htq' := hS7 _ _ htq7
      -- the row
      refine ⟨_, rfl, _, rfl, rq, _, _, _, rfl, rfl, SqL.of hrq', hrt, _, rfl, r, _, _, by rw [ok2.len]; rfl, hrL, true, rfl, iteF ?_⟩
      refine ⟨_, rfl, _, rfl, _, rfl, rq, _, _, _, rfl, rfl, SqL.of hrq', hrt, p, r, PL, _, _, rfl, hPL', hrL, ok2, by omega, true, rfl, iteF ?_⟩
      -- the deed, by hand
      refine ⟨_, rfl, _, rfl, dq, _, _, _, rfl, rfl, SqL.of hdq', hat, ?_⟩
      refine ⟨_, rfl, _, rfl, _, rfl, _, rfl, tq, _, _, _, rfl, rfl, SqL.of htq', htl, g, p, l', d, PL, stt PL (PL.hs, PL.bh) ds i, y, rfl, hg', hPL', hl', hG, ok1, by omega, hdy, hyB, fun l3 H3 h1 h2 h3 => ?_⟩
      rw [hnx] at ok2 hrL hrL7
      have hS3 : Same H7 H3 := fun b o e => h3 b o (hS7 b o e) (hHs e).1
      have hrq3 := hS3 _ _ hrq
      have hrL3 := hrL7.on hS3
      have hdq3 := hS3 _ _ hdq7
      have htq3 := hS3 _ _ htq7
      have hPL3 := hPL7.on hS3
      have htup : ∀ b xs, H' b = some (.tup xs) → b ≠ g := fun b xs hb => hg'.ne hb
      have ho3 := ho'.onX h3 htup
      have hg23 := hg2'.onX h3 hgg.symm
      have hl23 := hl2'.onX h3 htup
      have hsq3 := h3 _ _ hsq' hsqg.1.symm
      have hd3 : H3 d = some (.tup (ddV y)) := h3 _ _ hdy (hg'.ne hdy)
      obtain ⟨dx3, hgx⟩ := id h1
      refine ⟨true, rfl, iteF ?_⟩
      refine ⟨_, rfl, g, T.D, dx3, _, _, rfl, hgx, T.G.cl, T.G.nL, gf_levels _ _, _, rfl, _, rfl, rq, _, _, _, rfl, rfl, SqL.of hrq3, hrt, l3, r, _, _, _, _, rfl, rfl, h2.lv, hrL3.lv, _, rfl, iteNS ⟨rfl, rfl⟩ ?_⟩
      dsimp only [gName, tNext]
      -- which deed
      refine meet (fun σ' H'' => ∃ v11, σ' = [some (.ref a), some (.int (PL.hs.length : Nat)), some (.ref p), some (.ref dq), some (.ref hl), some (.ref tq), some (.ref rq), some (.ref o), some (.ref g), some (.ref g2), some (.ref sq), some (.int (0 + (i : Int))), v11, none] ∧
        Same H7 H'' ∧ GtH T.D H'' g p l3 ∧ LvH H'' l3 (stt PL (PL.hs, PL.bh) ds (i + 1)).1 (stt PL (PL.hs, PL.bh) ds (i + 1)).2 ∧ GtH T.D H'' g2 p l2 ∧ LvH H'' l2 (PL.hs.set 0 0) PL.bh ∧ H'' sq = some (.lst ((thrs PL ds (i + 1)).map V.int))) ?_ ?_
      · rintro σ' H'' ⟨v12', rfl, f1, f2, f3, f4, f5, f6⟩
        refine ⟨_, rfl, _, rfl, rq, _, _, _, rfl, rfl, SqL.of (f1 _ _ hrq), hrt, ?_⟩
        exact ⟨r, l3, _, _, rfl, f1, f2, f3, by rw [hnx]; exact hrL7.on f1, f4, f5, f6⟩
      intro km
      have same : (∀ w, thr1 PL (stt PL (PL.hs, PL.bh) ds i) w y = 0) → H3 sq = some (.lst ((thrs PL ds (i + 1)).map V.int)) := fun hz => by rw [thrs_same hy hz]; exact hsq3
      have h2' : LvH H3 l3 (stt PL (PL.hs, PL.bh) ds (i + 1)).1 (stt PL (PL.hs, PL.bh) ds (i + 1)).2 := by rw [hnx]; exact h2
      cases y with
      | tick n =>
        refine ⟨_, rfl, d, _, 0, _, rfl, rfl, SqT.of hd3, rfl, rfl, _, rfl, ite2 (fun _ => ?_) (fun h => absurd (decide_eq_true rfl) h)⟩
        have hn : n ≤ 100 := hyB
        refine ⟨_, rfl, _, rfl, _, rfl, _, rfl, rq, _, _, _, rfl, rfl, SqL.of hrq3, hrt, _, rfl, d, _, 1, _, rfl, rfl, SqT.of hd3, rfl, p, o, r, PL, _, _, n, rfl, hPL3, ho3, hrL3, hG, ok1, by omega, by omega, true, rfl, iteF ?_⟩
        exact km _ _ ⟨_, rfl, hS3, h1, h2', hg23, hl23, same (fun w => rfl)⟩
      | call who cost =>
        refine ⟨_, rfl, d, _, 0, _, rfl, rfl, SqT.of hd3, rfl, rfl, _, rfl, ite2 (fun h => absurd (of_decide_eq_true h) str_ct) (fun _ => ?_)⟩
        have hnone : ¬ inP PL who → aV (ansOf PL (stt PL (PL.hs, PL.bh) ds i) (.call who cost)) = .non := fun h => by rw [ans_bad h]; rfl
        have hbadk : ∀ {D : Ends} {σ' : St}, ¬ inP PL who → True := fun _ => True.intro
        refine ⟨_, rfl, d, _, 1, _, rfl, rfl, SqT.of hd3, rfl, _, _, rfl, rfl, _, rfl, ite2 (fun hneg => ?_) (fun hneg => ?_)⟩
        · have hb : ¬ inP PL who := fun h => by
            have := of_decide_eq_true hneg
            have := h.1
            omega
          refine iteT ?_
          rw [hnone hb] at htl
          rw [step_bad hb] at hrL3
          refine ⟨_, rfl, _, rfl, tq, _, _, _, rfl, rfl, SqL.of htq3, htl, rfl, _, rfl, iteF ?_⟩
          refine ⟨_, rfl, _, rfl, rq, _, _, _, rfl, rfl, SqL.of hrq3, hrt, _, rfl, r, o, _, _, _, _, rfl, rfl, hrL3.lv, ho3.lv, _, rfl, iteNS ⟨rfl, rfl⟩ ?_⟩
          exact km _ _ ⟨_, rfl, hS3, h1, h2', hg23, hl23, same (thr1_no (by rw [ans_bad hb]; intro z; cases z))⟩
        have h0 : 0 ≤ who := by
          have : ¬ who < 0 := fun h => hneg (decide_eq_true h)
          omega
        refine ⟨_, rfl, d, _, 1, _, rfl, rfl, SqT.of hd3, rfl, _, rfl, _, _, rfl, rfl, _, rfl, ite2 (fun hge => ?_) (fun hge => ?_)⟩
        · have hb : ¬ inP PL who := fun h => by
            have := of_decide_eq_true hge
            have := h.2
            omega
          rw [hnone hb] at htl
          rw [step_bad hb] at hrL3
          refine ⟨_, rfl, _, rfl, tq, _, _, _, rfl, rfl, SqL.of htq3, htl, rfl, _, rfl, iteF ?_⟩
          refine ⟨_, rfl, _, rfl, rq, _, _, _, rfl, rfl, SqL.of hrq3, hrt, _, rfl, r, o, _, _, _, _, rfl, rfl, hrL3.lv, ho3.lv, _, rfl, iteNS ⟨rfl, rfl⟩ ?_⟩
          exact km _ _ ⟨_, rfl, hS3, h1, h2', hg23, hl23, same (thr1_no (by rw [ans_bad hb]; intro z; cases z))⟩
        have hw1 : who < PL.hs.length := by
          have : ¬ (PL.hs.length : Int) ≤ who := fun h => hge (decide_eq_true h)
          omega
        have hin : inP PL who := ⟨h0, hw1⟩
        rw [ans_in hin] at htl
        refine ⟨_, rfl, _, rfl, _, rfl, rq, _, _, _, rfl, rfl, SqL.of hrq3, hrt, _, rfl, _, rfl, tq, _, _, _, rfl, rfl, SqL.of htq3, htl, _, rfl, d, _, 1, _, rfl, rfl, SqT.of hd3, rfl, _, rfl, d, _, 2, _, rfl, rfl, SqT.of hd3, rfl, o, r, PL, stt PL (PL.hs, PL.bh) ds i, who, cost, rfl, ho3, hrL3, ok1.len, by omega, hin, true, rfl, iteF ?_⟩
        have hwl : who < (thrs PL ds i).length := by rw [thrs_len]; exact hw1
        refine ⟨_, rfl, _, rfl, d, _, 1, _, rfl, rfl, SqT.of hd3, rfl, sq, _, who, _, rfl, rfl, SqL.of hsq3, atI_ints h0 hwl, _, rfl, d, _, 2, _, rfl, rfl, SqT.of hd3, rfl, _, rfl, _, rfl, tq, _, _, _, rfl, rfl, SqL.of htq3, htl, .inr ⟨_, rfl, _, _, rfl, rfl, cmR (by split <;> omega), _, _, rfl, rfl, _, rfl, _, rfl, d, _, 1, _, rfl, rfl, SqT.of hd3, rfl, sq, _, who, who.toNat, rfl, rfl, hsq3, by rw [List.length_map]; exact ixN_at h0 hwl, ?_⟩⟩
        have hsq7' : ∀ o', Same H7 (upd H3 sq o') := fun o' => hS3.upd hsq7
        refine km _ _ ⟨_, rfl, hsq7' _, h1.updL hsq3, h2'.updL hsq3, hg23.updL hsq3, hl23.updL hsq3, ?_⟩
        rw [upd_same, ← List.map_set]
        by_cases hen : enough (stt PL (PL.hs, PL.bh) ds i) who cost
        · rw [thrs_more hy hin (by rw [ans_in hin, decide_eq_true hen]), decide_eq_true hen, if_pos rfl, Int.mul_one]
        · rw [thrs_same hy (thr1_no (by rw [ans_in hin, decide_eq_false hen]; intro z; cases z)), decide_eq_false hen, if_neg Bool.false_ne_true, Int.mul_zero, Int.add_zero]
          congr 3
          refine list_ext (by rw [List.length_set]) fun j hj => ?_
          rw [List.getD_eq_getElem?_getD, List.getElem?_set]
          split
          · rename_i ej
            rw [if_pos (by omega), ← ej]
            rfl
          · rw [← List.getD_eq_getElem?_getD]
    · rintro σ H' ⟨o, l', v11, v12, rfl, hS7, hg', hl', ho', hg2', hl2', hsq'⟩
      rw [List.length_map, Int.toNat_natCast, hDs.1] at hsq'
      -- found
      refine ⟨_, rfl, _, rfl, p, hl, PL, as, ds, rfl, hPL7.on hS7, hG, by omega, hS7 _ _ hhl7, hDs7.on hS7, hdB, hlen', fun fq H8' e8' hfq => ?_⟩
      have hS8 := hS7.trans e8'
      refine ⟨_, rfl, _, _, _, true, rfl, TyOf.lst hfq, kit_ll, true, rfl, iteF ?_⟩
      refine ⟨_, rfl, fq, _, rfl, .inl (SqL.of hfq), _, rfl, rfl, _, rfl, iteNS ?_ ?_⟩
      · rw [List.length_map, thrs_len]
      refine ⟨_, rfl, _, rfl, hl, dq, as, rfl, rfl, SqL.of (hS8 _ _ hhl7), SqL.of (hS8 _ _ hdq7), _, rfl, iteF ?_⟩
      obtain ⟨dxg, hgx⟩ := hg'.on e8'
      refine ⟨_, rfl, g, T.D, dxg, _, _, rfl, hgx, T.G.cl, T.G.nP, gf_plan _ _, _, rfl, p, _, rfl, rfl, SqT.of (hS8 _ _ hp7), _, rfl, iteF ?_⟩
      refine ⟨_, rfl, _, rfl, g2, p, l2, PL, rfl, hg2'.on e8', hl2'.on e8', hPL7.on hS8, by omega, by omega, fun H9' e9' => ⟨true, rfl, iteF ?_⟩⟩
      have hfq9 := e9' _ _ hfq
      have hsq9 := e9' _ _ (e8' _ _ hsq')
      refine ⟨_, rfl, _, rfl, by omega, by omega, for_range (lo := 0) (n := ((PL.hs.length : Int)).toNat) (fun i σ H' => H' = H9' ∧ ∃ v11, σ = [some (.ref a), some (.int (PL.hs.length : Nat)), some (.ref p), some (.ref dq), some (.ref hl), some (.ref tq), some (.ref rq), some (.ref o), some (.ref g), some (.ref g2), some (.ref sq), v11, v12, some (.ref fq)]) ⟨rfl, _, rfl⟩ ?_ ?_⟩
      · rintro i σ H'' hi ⟨rfl, v11', rfl⟩
        have hi' : i < (thrs PL ds ds.length).length := by rw [thrs_len]; omega
        refine ⟨_, rfl, _, rfl, fq, _, _, _, rfl, rfl, SqL.of hfq9, at0 hi', _, rfl, true, rfl, iteF ?_⟩
        refine ⟨_, rfl, _, rfl, fq, _, _, _, rfl, rfl, SqL.of hfq9, at0 hi', _, rfl, _, rfl, sq, _, _, _, rfl, rfl, SqL.of hsq9, at0 hi', rfl, _, rfl, iteNS rfl ?_⟩
        exact ⟨rfl, _, rfl⟩
      · rintro σ H'' ⟨rfl, v11', rfl⟩
        exact kq _
end
end K6

end
section
set_option Elab.async false
set_option linter.all false
set_option maxRecDepth 100000
set_option maxHeartbeats 4000000
namespace K6
open PySem L2
theorem all_mk {l : PySem.W.OpenLaw} {w : World} {K : PySem.W.Frag} {h : Heap} {mg : Str → Option Value} {CC DD fa f1 f2 f3 f4 f5 f6 f7 f8 f9 f10 f11 f12 f13 f14 f15 f16 f17 f18 f19 f20 : Addr} (X : K.In h) (G : h.Ns mainGlobals mg) (hfa : mg "law" = some (.ref fa))
    {od1 an1 od2 an2 od3 an3 od4 an4 od5 an5 od6 an6 od7 an7 od8 an8 od9 an9 od10 an10 od11 an11 od12 an12 od13 an13 od14 an14 od15 an15 od16 an16 od17 an17 od18 an18 od19 an19 od20 an20 : Option Addr} {sl1 sl2 sl3 sl4 sl5 sl6 sl7 sl8 sl9 sl10 sl11 sl12 sl13 sl14 sl15 sl16 sl17 sl18 sl19 sl20 : Array (Option Value)} {oc1 kV1 dc1 pm1 cd1 ct1 oc2 kV2 dc2 pm2 cd2 ct2 oc3 kV3 dc3 pm3 cd3 ct3 oc4 kV4 dc4 pm4 cd4 ct4 oc5 kV5 dc5 pm5 cd5 ct5 oc6 kV6 dc6 pm6 cd6 ct6 oc7 kV7 dc7 pm7 cd7 ct7 oc8 kV8 dc8 pm8 cd8 ct8 oc9 kV9 dc9 pm9 cd9 ct9 oc10 kV10 dc10 pm10 cd10 ct10 oc11 kV11 dc11 pm11 cd11 ct11 oc12 kV12 dc12 pm12 cd12 ct12 oc13 kV13 dc13 pm13 cd13 ct13 oc14 kV14 dc14 pm14 cd14 ct14 oc15 kV15 dc15 pm15 cd15 ct15 oc16 kV16 dc16 pm16 cd16 ct16 oc17 kV17 dc17 pm17 cd17 ct17 oc18 kV18 dc18 pm18 cd18 ct18 oc19 kV19 dc19 pm19 cd19 ct19 oc20 kV20 dc20 pm20 cd20 ct20 : Value}
    (a1 : PySem.W.nsIn K mainGlobals "full" = some (some (.ref f1))) (l1 : K.lookup f1 = some ⟨oc1, od1, .func (PySem.W.fnOf "full" "full" (defArgs sFull) (defBody sFull) (defScope sFull) .none kV1 dc1 pm1 an1 cd1 ct1), sl1⟩) (c1 : PySem.W.codeIn K cd1 "full" = true) (k1 : PySem.W.keepIn K (.ref f1) = true)
    (a2 : PySem.W.nsIn K mainGlobals "after_ticks" = some (some (.ref f2))) (l2 : K.lookup f2 = some ⟨oc2, od2, .func (PySem.W.fnOf "after_ticks" "after_ticks" (defArgs sTicks) (defBody sTicks) (defScope sTicks) .none kV2 dc2 pm2 an2 cd2 ct2), sl2⟩) (c2 : PySem.W.codeIn K cd2 "after_ticks" = true) (k2 : PySem.W.keepIn K (.ref f2) = true)
    (a3 : PySem.W.nsIn K mainGlobals "after_call" = some (some (.ref f3))) (l3 : K.lookup f3 = some ⟨oc3, od3, .func (PySem.W.fnOf "after_call" "after_call" (defArgs sCall) (defBody sCall) (defScope sCall) .none kV3 dc3 pm3 an3 cd3 ct3), sl3⟩) (c3 : PySem.W.codeIn K cd3 "after_call" = true) (k3 : PySem.W.keepIn K (.ref f3) = true)
    (a4 : PySem.W.nsIn K mainGlobals "answer_to" = some (some (.ref f4))) (l4 : K.lookup f4 = some ⟨oc4, od4, .func (PySem.W.fnOf "answer_to" "answer_to" (defArgs sAnswer) (defBody sAnswer) (defScope sAnswer) .none kV4 dc4 pm4 an4 cd4 ct4), sl4⟩) (c4 : PySem.W.codeIn K cd4 "answer_to" = true) (k4 : PySem.W.keepIn K (.ref f4) = true)
    (a5 : PySem.W.nsIn K mainGlobals "answers" = some (some (.ref f5))) (l5 : K.lookup f5 = some ⟨oc5, od5, .func (PySem.W.fnOf "answers" "answers" (defArgs sAnswers) (defBody sAnswers) (defScope sAnswers) .none kV5 dc5 pm5 an5 cd5 ct5), sl5⟩) (c5 : PySem.W.codeIn K cd5 "answers" = true) (k5 : PySem.W.keepIn K (.ref f5) = true)
    (a6 : PySem.W.nsIn K mainGlobals "levels_after" = some (some (.ref f6))) (l6 : K.lookup f6 = some ⟨oc6, od6, .func (PySem.W.fnOf "levels_after" "levels_after" (defArgs sLevels) (defBody sLevels) (defScope sLevels) .none kV6 dc6 pm6 an6 cd6 ct6), sl6⟩) (c6 : PySem.W.codeIn K cd6 "levels_after" = true) (k6 : PySem.W.keepIn K (.ref f6) = true)
    (a7 : PySem.W.nsIn K mainGlobals "let_through" = some (some (.ref f7))) (l7 : K.lookup f7 = some ⟨oc7, od7, .func (PySem.W.fnOf "let_through" "let_through" (defArgs sLet) (defBody sLet) (defScope sLet) .none kV7 dc7 pm7 an7 cd7 ct7), sl7⟩) (c7 : PySem.W.codeIn K cd7 "let_through" = true) (k7 : PySem.W.keepIn K (.ref f7) = true)
    (a8 : PySem.W.nsIn K mainGlobals "_law_so" = some (some (.ref f8))) (l8 : K.lookup f8 = some ⟨oc8, od8, .func (PySem.W.fnOf "_law_so" "_law_so" (defArgs sSo) (defBody sSo) (defScope sSo) .none kV8 dc8 pm8 an8 cd8 ct8), sl8⟩) (c8 : PySem.W.codeIn K cd8 "_law_so" = true) (k8 : PySem.W.keepIn K (.ref f8) = true)
    (a9 : PySem.W.nsIn K mainGlobals "_law_whole" = some (some (.ref f9))) (l9 : K.lookup f9 = some ⟨oc9, od9, .func (PySem.W.fnOf "_law_whole" "_law_whole" (defArgs sWhole) (defBody sWhole) (defScope sWhole) .none kV9 dc9 pm9 an9 cd9 ct9), sl9⟩) (c9 : PySem.W.codeIn K cd9 "_law_whole" = true) (k9 : PySem.W.keepIn K (.ref f9) = true)
    (a10 : PySem.W.nsIn K mainGlobals "_law_at" = some (some (.ref f10))) (l10 : K.lookup f10 = some ⟨oc10, od10, .func (PySem.W.fnOf "_law_at" "_law_at" (defArgs sAt) (defBody sAt) (defScope sAt) .none kV10 dc10 pm10 an10 cd10 ct10), sl10⟩) (c10 : PySem.W.codeIn K cd10 "_law_at" = true) (k10 : PySem.W.keepIn K (.ref f10) = true)
    (a11 : PySem.W.nsIn K mainGlobals "_law_plan_of" = some (some (.ref f11))) (l11 : K.lookup f11 = some ⟨oc11, od11, .func (PySem.W.fnOf "_law_plan_of" "_law_plan_of" (defArgs sPlan) (defBody sPlan) (defScope sPlan) .none kV11 dc11 pm11 an11 cd11 ct11), sl11⟩) (c11 : PySem.W.codeIn K cd11 "_law_plan_of" = true) (k11 : PySem.W.keepIn K (.ref f11) = true)
    (a12 : PySem.W.nsIn K mainGlobals "_law_are_levels" = some (some (.ref f12))) (l12 : K.lookup f12 = some ⟨oc12, od12, .func (PySem.W.fnOf "_law_are_levels" "_law_are_levels" (defArgs sAre) (defBody sAre) (defScope sAre) .none kV12 dc12 pm12 an12 cd12 ct12), sl12⟩) (c12 : PySem.W.codeIn K cd12 "_law_are_levels" = true) (k12 : PySem.W.keepIn K (.ref f12) = true)
    (a13 : PySem.W.nsIn K mainGlobals "_law_drawn" = some (some (.ref f13))) (l13 : K.lookup f13 = some ⟨oc13, od13, .func (PySem.W.fnOf "_law_drawn" "_law_drawn" (defArgs sDrawn) (defBody sDrawn) (defScope sDrawn) .none kV13 dc13 pm13 an13 cd13 ct13), sl13⟩) (c13 : PySem.W.codeIn K cd13 "_law_drawn" = true) (k13 : PySem.W.keepIn K (.ref f13) = true)
    (a14 : PySem.W.nsIn K mainGlobals "_law_bounded" = some (some (.ref f14))) (l14 : K.lookup f14 = some ⟨oc14, od14, .func (PySem.W.fnOf "_law_bounded" "_law_bounded" (defArgs sBounded) (defBody sBounded) (defScope sBounded) .none kV14 dc14 pm14 an14 cd14 ct14), sl14⟩) (c14 : PySem.W.codeIn K cd14 "_law_bounded" = true) (k14 : PySem.W.keepIn K (.ref f14) = true)
    (a15 : PySem.W.nsIn K mainGlobals "_law_called" = some (some (.ref f15))) (l15 : K.lookup f15 = some ⟨oc15, od15, .func (PySem.W.fnOf "_law_called" "_law_called" (defArgs sCalled) (defBody sCalled) (defScope sCalled) .none kV15 dc15 pm15 an15 cd15 ct15), sl15⟩) (c15 : PySem.W.codeIn K cd15 "_law_called" = true) (k15 : PySem.W.keepIn K (.ref f15) = true)
    (a16 : PySem.W.nsIn K mainGlobals "_law_ticked" = some (some (.ref f16))) (l16 : K.lookup f16 = some ⟨oc16, od16, .func (PySem.W.fnOf "_law_ticked" "_law_ticked" (defArgs sTicked) (defBody sTicked) (defScope sTicked) .none kV16 dc16 pm16 an16 cd16 ct16), sl16⟩) (c16 : PySem.W.codeIn K cd16 "_law_ticked" = true) (k16 : PySem.W.keepIn K (.ref f16) = true)
    (a17 : PySem.W.nsIn K mainGlobals "_law_by_hand" = some (some (.ref f17))) (l17 : K.lookup f17 = some ⟨oc17, od17, .func (PySem.W.fnOf "_law_by_hand" "_law_by_hand" (defArgs sHand) (defBody sHand) (defScope sHand) .none kV17 dc17 pm17 an17 cd17 ct17), sl17⟩) (c17 : PySem.W.codeIn K cd17 "_law_by_hand" = true) (k17 : PySem.W.keepIn K (.ref f17) = true)
    (a18 : PySem.W.nsIn K mainGlobals "_law_two_gates" = some (some (.ref f18))) (l18 : K.lookup f18 = some ⟨oc18, od18, .func (PySem.W.fnOf "_law_two_gates" "_law_two_gates" (defArgs sTwo) (defBody sTwo) (defScope sTwo) .none kV18 dc18 pm18 an18 cd18 ct18), sl18⟩) (c18 : PySem.W.codeIn K cd18 "_law_two_gates" = true) (k18 : PySem.W.keepIn K (.ref f18) = true)
    (a19 : PySem.W.nsIn K mainGlobals "_law_left_so" = some (some (.ref f19))) (l19 : K.lookup f19 = some ⟨oc19, od19, .func (PySem.W.fnOf "_law_left_so" "_law_left_so" (defArgs sLeftSo) (defBody sLeftSo) (defScope sLeftSo) .none kV19 dc19 pm19 an19 cd19 ct19), sl19⟩) (c19 : PySem.W.codeIn K cd19 "_law_left_so" = true) (k19 : PySem.W.keepIn K (.ref f19) = true)
    (a20 : PySem.W.nsIn K mainGlobals "law" = some (some (.ref f20))) (l20 : K.lookup f20 = some ⟨oc20, od20, .func (PySem.W.fnOf "law" "law" (defArgs sLaw) (defBody sLaw) (defScope sLaw) .none kV20 dc20 pm20 an20 cd20 ct20), sl20⟩) (c20 : PySem.W.codeIn K cd20 "law" = true) (k20 : PySem.W.keepIn K (.ref f20) = true)
    (z1 : PySem.W.nsIn K mainGlobals "len" = some none) (z2 : PySem.W.nsIn K mainGlobals "min" = some none) (z3 : PySem.W.nsIn K mainGlobals "sum" = some none) (z4 : PySem.W.nsIn K mainGlobals "isinstance" = some none) (z5 : PySem.W.nsIn K mainGlobals "tuple" = some none) (z6 : PySem.W.nsIn K mainGlobals "int" = some none) (z7 : PySem.W.nsIn K mainGlobals "bool" = some none) (z8 : PySem.W.nsIn K mainGlobals "range" = some none) (z9 : PySem.W.nsIn K mainGlobals "zip" = some none) (z10 : PySem.W.nsIn K mainGlobals "list" = some none) (z11 : PySem.W.nsIn K mainGlobals "str" = some none) (z12 : PySem.W.nsIn K mainGlobals "dict" = some none)
    {odG1 anG1 odG2 anG2 odG3 anG3 : Option Addr} {slG1 slG2 slG3 : Array (Option Value)} {ocG1 kVG1 dcG1 pmG1 cdG1 ctG1 ocG2 kVG2 dcG2 pmG2 cdG2 ctG2 ocG3 kVG3 dcG3 pmG3 cdG3 ctG3 : Value} {fG1 fG2 fG3 : Addr}
    (aN : PySem.W.nsIn K mainGlobals "NoCaller" = some (some (.ref CC))) (xC : PySem.W.excIn K CC [.type "ValueError", .type "Exception", .type "BaseException", .type "object"] "ValueError.__new__" = true) (xm : PySem.W.exmOne K (.ref CC) (.ref CC) = some true) (aD : PySem.W.nsIn K mainGlobals "Gate" = some (some (.ref DD))) (aG1 : PySem.W.findIn K (.ref DD) "__init__" = some (some (.ref fG1))) (iG1 : PySem.W.isFn K (.ref fG1) = true) (lG1 : K.lookup fG1 = some ⟨ocG1, odG1, .func (PySem.W.fnOf "__init__" "Gate.__init__" (defArgs sInit) (defBody sInit) (defScope sInit) .none kVG1 dcG1 pmG1 anG1 cdG1 ctG1), slG1⟩) (cG1 : PySem.W.codeIn K cdG1 "Gate.__init__" = true) (kG1 : PySem.W.keepIn K (.ref fG1) = true) (aG2 : PySem.W.findIn K (.ref DD) "tick" = some (some (.ref fG2))) (iG2 : PySem.W.isFn K (.ref fG2) = true) (lG2 : K.lookup fG2 = some ⟨ocG2, odG2, .func (PySem.W.fnOf "tick" "Gate.tick" (defArgs sGTick) (defBody sGTick) (defScope sGTick) .none kVG2 dcG2 pmG2 anG2 cdG2 ctG2), slG2⟩) (cG2 : PySem.W.codeIn K cdG2 "Gate.tick" = true) (kG2 : PySem.W.keepIn K (.ref fG2) = true) (aG3 : PySem.W.findIn K (.ref DD) "call" = some (some (.ref fG3))) (iG3 : PySem.W.isFn K (.ref fG3) = true) (lG3 : K.lookup fG3 = some ⟨ocG3, odG3, .func (PySem.W.fnOf "call" "Gate.call" (defArgs sGCall) (defBody sGCall) (defScope sGCall) .none kVG3 dcG3 pmG3 anG3 cdG3 ctG3), slG3⟩) (cG3 : PySem.W.codeIn K cdG3 "Gate.call" = true) (kG3 : PySem.W.keepIn K (.ref fG3) = true) (pg : PySem.W.plainGet K DD Str.empty = true) (hd : PySem.W.hasDictIn K DD = true) (po : PySem.W.plainOver K DD = true) (sa : PySem.W.findIn K (.ref DD) "__setattr__" = some (some (.builtin "object.__setattr__"))) (mk : PySem.W.makesIn K DD = true) (kc : PySem.W.keepIn K (.ref DD) = true) (nP : PySem.W.findIn K (.ref DD) "plan" = some none) (nL : PySem.W.findIn K (.ref DD) "levels" = some none) :
    ∃ fd : FuncData, (∀ (s : Shared) (v : Value), BindsTo s fd ⟨[v], []⟩ [("_law_script", v)]) ∧ ∀ base : Heap, K.In base → base.Ns mainGlobals mg → FnOk l.prog w K mg base CX0 6 fa fd ["_law_script"] (spLaw K) := by
  have e := hfa.symm.trans (PySem.W.mg_of X G a20)
  cases e
  have F1 := fun_mk (st := sFull) l1 c1 k1
  have b1 := F1.binds (ps := ["plan"]) fun _ _ _ _ _ _ us hl => match us, hl with | [_], _ => rfl
  have F2 := fun_mk (st := sTicks) l2 c2 k2
  have b2 := F2.binds (ps := ["plan", "levels", "many"]) fun _ _ _ _ _ _ us hl => match us, hl with | [_, _, _], _ => rfl
  have F3 := fun_mk (st := sCall) l3 c3 k3
  have b3 := F3.binds (ps := ["plan", "levels", "who", "cost"]) fun _ _ _ _ _ _ us hl => match us, hl with | [_, _, _, _], _ => rfl
  have F4 := fun_mk (st := sAnswer) l4 c4 k4
  have b4 := F4.binds (ps := ["gate", "deed"]) fun _ _ _ _ _ _ us hl => match us, hl with | [_, _], _ => rfl
  have F5 := fun_mk (st := sAnswers) l5 c5 k5
  have b5 := F5.binds (ps := ["plan", "deeds"]) fun _ _ _ _ _ _ us hl => match us, hl with | [_, _], _ => rfl
  have F6 := fun_mk (st := sLevels) l6 c6 k6
  have b6 := F6.binds (ps := ["plan", "deeds"]) fun _ _ _ _ _ _ us hl => match us, hl with | [_, _], _ => rfl
  have F7 := fun_mk (st := sLet) l7 c7 k7
  have b7 := F7.binds (ps := ["plan", "deeds"]) fun _ _ _ _ _ _ us hl => match us, hl with | [_, _], _ => rfl
  have F8 := fun_mk (st := sSo) l8 c8 k8
  have b8 := F8.binds (ps := ["_law_found", "_law_meant"]) fun _ _ _ _ _ _ us hl => match us, hl with | [_, _], _ => rfl
  have F9 := fun_mk (st := sWhole) l9 c9 k9
  have b9 := F9.binds (ps := ["_law_found"]) fun _ _ _ _ _ _ us hl => match us, hl with | [_], _ => rfl
  have F10 := fun_mk (st := sAt) l10 c10 k10
  have b10 := F10.binds (ps := ["_law_script", "_law_k"]) fun _ _ _ _ _ _ us hl => match us, hl with | [_, _], _ => rfl
  have F11 := fun_mk (st := sPlan) l11 c11 k11
  have b11 := F11.binds (ps := ["_law_script", "_law_count"]) fun _ _ _ _ _ _ us hl => match us, hl with | [_, _], _ => rfl
  have F12 := fun_mk (st := sAre) l12 c12 k12
  have b12 := F12.binds (ps := ["_law_found", "_law_count"]) fun _ _ _ _ _ _ us hl => match us, hl with | [_, _], _ => rfl
  have F13 := fun_mk (st := sDrawn) l13 c13 k13
  have b13 := F13.binds (ps := ["_law_cells", "_law_count"]) fun _ _ _ _ _ _ us hl => match us, hl with | [_, _], _ => rfl
  have F14 := fun_mk (st := sBounded) l14 c14 k14
  have b14 := F14.binds (ps := ["_law_plan", "_law_levels"]) fun _ _ _ _ _ _ us hl => match us, hl with | [_, _], _ => rfl
  have F15 := fun_mk (st := sCalled) l15 c15 k15
  have b15 := F15.binds (ps := ["_law_old", "_law_new", "_law_told", "_law_who", "_law_cost"]) fun _ _ _ _ _ _ us hl => match us, hl with | [_, _, _, _, _], _ => rfl
  have F16 := fun_mk (st := sTicked) l16 c16 k16
  have b16 := F16.binds (ps := ["_law_plan", "_law_old", "_law_new", "_law_many"]) fun _ _ _ _ _ _ us hl => match us, hl with | [_, _, _, _], _ => rfl
  have F17 := fun_mk (st := sHand) l17 c17 k17
  have b17 := F17.binds (ps := ["_law_gate", "_law_deed", "_law_told"]) fun _ _ _ _ _ _ us hl => match us, hl with | [_, _, _], _ => rfl
  have F18 := fun_mk (st := sTwo) l18 c18 k18
  have b18 := F18.binds (ps := ["_law_plan"]) fun _ _ _ _ _ _ us hl => match us, hl with | [_], _ => rfl
  have F19 := fun_mk (st := sLeftSo) l19 c19 k19
  have b19 := F19.binds (ps := ["_law_beside", "_law_plan"]) fun _ _ _ _ _ _ us hl => match us, hl with | [_, _], _ => rfl
  have F20 := fun_mk (st := sLaw) l20 c20 k20
  have B : Bl mg := ⟨PySem.W.mg_none_of X G z1, PySem.W.mg_none_of X G z2, PySem.W.mg_none_of X G z3, PySem.W.mg_none_of X G z4, PySem.W.mg_none_of X G z5, PySem.W.mg_none_of X G z6, PySem.W.mg_none_of X G z7, PySem.W.mg_none_of X G z8, PySem.W.mg_none_of X G z9⟩
  have FG1 := fun_mk (st := sInit) lG1 cG1 kG1
  have bG1 := FG1.binds (ps := ["self", "plan"]) fun _ _ _ _ _ _ us hl => match us, hl with | [_, _], _ => rfl
  have FG2 := fun_mk (st := sGTick) lG2 cG2 kG2
  have bG2 := FG2.binds (ps := ["self", "many"]) fun _ _ _ _ _ _ us hl => match us, hl with | [_, _], _ => rfl
  have FG3 := fun_mk (st := sGCall) lG3 cG3 kG3
  have bG3 := FG3.binds (ps := ["self", "who", "cost"]) fun _ _ _ _ _ _ us hl => match us, hl with | [_, _, _], _ => rfl
  have T : Tx K mg := ⟨DD, CC, ⟨B, ⟨pg, hd, po, sa⟩, nP, nL, PySem.W.mg_of X G aD, PySem.W.mg_of X G aN, xC, xm, ⟨_, _, F1, b1, PySem.W.mg_of X G a1⟩, ⟨_, _, F2, b2, PySem.W.mg_of X G a2⟩, ⟨_, _, F3, b3, PySem.W.mg_of X G a3⟩, _, _, FG1, bG1, ⟨mk, aG1, iG1, kc⟩, _, _, FG2, bG2, ⟨aG2, iG2, kG2⟩, _, _, FG3, bG3, ⟨aG3, iG3, kG3⟩⟩, ⟨B, PySem.W.mg_none_of X G z10, PySem.W.mg_none_of X G z11, PySem.W.mg_none_of X G z12⟩, ⟨_, _, F4, b4, PySem.W.mg_of X G a4⟩, ⟨_, _, F5, b5, PySem.W.mg_of X G a5⟩, ⟨_, _, F6, b6, PySem.W.mg_of X G a6⟩, ⟨_, _, F7, b7, PySem.W.mg_of X G a7⟩, ⟨_, _, F8, b8, PySem.W.mg_of X G a8⟩, ⟨_, _, F9, b9, PySem.W.mg_of X G a9⟩, ⟨_, _, F10, b10, PySem.W.mg_of X G a10⟩, ⟨_, _, F11, b11, PySem.W.mg_of X G a11⟩, ⟨_, _, F12, b12, PySem.W.mg_of X G a12⟩, ⟨_, _, F13, b13, PySem.W.mg_of X G a13⟩, ⟨_, _, F14, b14, PySem.W.mg_of X G a14⟩, ⟨_, _, F15, b15, PySem.W.mg_of X G a15⟩, ⟨_, _, F16, b16, PySem.W.mg_of X G a16⟩, ⟨_, _, F17, b17, PySem.W.mg_of X G a17⟩, ⟨_, _, F18, b18, PySem.W.mg_of X G a18⟩, ⟨_, _, F19, b19, PySem.W.mg_of X G a19⟩⟩
  exact ⟨PySem.W.fnOf "law" "law" (defArgs sLaw) (defBody sLaw) (defScope sLaw) .none kV20 dc20 pm20 an20 cd20 ct20, fun s v => .of_eq rfl, fun base _ _ => ok_law F20 T⟩
theorem walk {l : PySem.W.OpenLaw} {q : Program} {loose : List Str} {XP : (Str → Option Value) → Heap → Prop} {YP : World → Heap → Prop} {d : DefRec} {K : Params → PySem.W.Frag} (hn : l.most = some 63) (hdf : d.params.defaults = [])
    (hY : ∀ (w : World) (h : Heap), YP w h → (K w.params).In h)
    (F : ∀ (w : World) (mg : Str → Option Value) (fa : Addr) (h : Heap), (K w.params).In h → h.Ns mainGlobals mg → mg d.name = some (.ref fa) →
      ∃ fd : FuncData, (∀ (s : Shared) (u : Value), BindsTo s fd ⟨[u], []⟩ [("_law_script", u)]) ∧ ∀ base : Heap, (K w.params).In base → base.Ns mainGlobals mg → FnOk l.prog w (K w.params) mg base CX0 6 fa fd ["_law_script"] (spLaw (K w.params))) :
    PySem.W.WalkO q loose XP YP l.row.toRowW d [] (fun f vs => PySem.call f vs) :=
  L2.walk_of (n := 63) (k := 6) (x := "_law_script") (CX := fun _ => CX0) (sp := fun w => spLaw (K w.params)) hn (by decide) hdf ⟨rfl, by decide, by decide⟩ hY F (fun _ _ a ns hl _ hS => ⟨a, ns, rfl, hS, hl, fun _ => rfl⟩) fun _ _ _ _ _ z => z
end K6
open PySem PySem.W PyProof.Rows
set_option maxRecDepth 100000 in
set_option maxHeartbeats 0 in
theorem PySem.Challenge.cw_dripgate_k06_whole_levels_step_by_step_holds : PySem.Challenge.rw_dripgate_k06_whole_levels_step_by_step.Holds := by
  w_on; o_law; k_head; (case hw => w_witness2)
  k_fill
  refine K6.walk (l := PySem.Challenge.rw_dripgate_k06_whole_levels_step_by_step) rfl rfl (fun w h Y => PySem.W.kIn_of Y) ?F
  case F =>
    intro w mg fa h KX G hmg
    refine' K6.all_mk KX G hmg ?a1 ?l1 ?c1 ?k1 ?a2 ?l2 ?c2 ?k2 ?a3 ?l3 ?c3 ?k3 ?a4 ?l4 ?c4 ?k4 ?a5 ?l5 ?c5 ?k5 ?a6 ?l6 ?c6 ?k6 ?a7 ?l7 ?c7 ?k7 ?a8 ?l8 ?c8 ?k8 ?a9 ?l9 ?c9 ?k9 ?a10 ?l10 ?c10 ?k10 ?a11 ?l11 ?c11 ?k11 ?a12 ?l12 ?c12 ?k12 ?a13 ?l13 ?c13 ?k13 ?a14 ?l14 ?c14 ?k14 ?a15 ?l15 ?c15 ?k15 ?a16 ?l16 ?c16 ?k16 ?a17 ?l17 ?c17 ?k17 ?a18 ?l18 ?c18 ?k18 ?a19 ?l19 ?c19 ?k19 ?a20 ?l20 ?c20 ?k20 ?z1 ?z2 ?z3 ?z4 ?z5 ?z6 ?z7 ?z8 ?z9 ?z10 ?z11 ?z12 ?aN ?xC ?xm ?aD ?aG1 ?iG1 ?lG1 ?cG1 ?kG1 ?aG2 ?iG2 ?lG2 ?cG2 ?kG2 ?aG3 ?iG3 ?lG3 ?cG3 ?kG3 ?pg ?hd ?po ?sa ?mk ?kc ?nP ?nL
    (case a1 => k_is); (case l1 => k_is); (case c1 => k_is); (case k1 => k_is)
    (case a2 => k_is); (case l2 => k_is); (case c2 => k_is); (case k2 => k_is)
    (case a3 => k_is); (case l3 => k_is); (case c3 => k_is); (case k3 => k_is)
    (case a4 => k_is); (case l4 => k_is); (case c4 => k_is); (case k4 => k_is)
    (case a5 => k_is); (case l5 => k_is); (case c5 => k_is); (case k5 => k_is)
    (case a6 => k_is); (case l6 => k_is); (case c6 => k_is); (case k6 => k_is)
    (case a7 => k_is); (case l7 => k_is); (case c7 => k_is); (case k7 => k_is)
    (case a8 => k_is); (case l8 => k_is); (case c8 => k_is); (case k8 => k_is)
    (case a9 => k_is); (case l9 => k_is); (case c9 => k_is); (case k9 => k_is)
    (case a10 => k_is); (case l10 => k_is); (case c10 => k_is); (case k10 => k_is)
    (case a11 => k_is); (case l11 => k_is); (case c11 => k_is); (case k11 => k_is)
    (case a12 => k_is); (case l12 => k_is); (case c12 => k_is); (case k12 => k_is)
    (case a13 => k_is); (case l13 => k_is); (case c13 => k_is); (case k13 => k_is)
    (case a14 => k_is); (case l14 => k_is); (case c14 => k_is); (case k14 => k_is)
    (case a15 => k_is); (case l15 => k_is); (case c15 => k_is); (case k15 => k_is)
    (case a16 => k_is); (case l16 => k_is); (case c16 => k_is); (case k16 => k_is)
    (case a17 => k_is); (case l17 => k_is); (case c17 => k_is); (case k17 => k_is)
    (case a18 => k_is); (case l18 => k_is); (case c18 => k_is); (case k18 => k_is)
    (case a19 => k_is); (case l19 => k_is); (case c19 => k_is); (case k19 => k_is)
    (case a20 => k_is); (case l20 => k_is); (case c20 => k_is); (case k20 => k_is)
    (case z1 => k_is); (case z2 => k_is); (case z3 => k_is); (case z4 => k_is); (case z5 => k_is); (case z6 => k_is); (case z7 => k_is); (case z8 => k_is); (case z9 => k_is); (case z10 => k_is); (case z11 => k_is); (case z12 => k_is)
    (case aN => k_is); (case xC => k_exc); (case xm => kts_exm); (case aD => k_is); (case aG1 => k_is); (case iG1 => k_is); (case lG1 => k_is); (case cG1 => k_is); (case kG1 => k_is); (case aG2 => k_is); (case iG2 => k_is); (case lG2 => k_is); (case cG2 => k_is); (case kG2 => k_is); (case aG3 => k_is); (case iG3 => k_is); (case lG3 => k_is); (case cG3 => k_is); (case kG3 => k_is); (case pg => k_is); (case hd => k_is); (case po => k_is); (case sa => k_is); (case mk => k_is); (case kc => k_is); (case nP => k_is); (case nL => k_is)
#print axioms PySem.Challenge.cw_dripgate_k06_whole_levels_step_by_step_holds

end
