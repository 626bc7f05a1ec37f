import PyProof.Rows.All
import Wide.All
import OpenK.AllK
import Wide.FinOn
import Lean
import PyProof.EqAt
import PyProof.EqKinds
import PyProof.TupleCall
import PySem.Challenge.RW_branchway_k06_whole_there_and_back
set_option Elab.async false
set_option linter.all false
set_option maxRecDepth 100000
namespace L2
open PySem PySem.Spec PyProof.Rows

/-- a key: an int or a str -/
abbrev Key := Sum Int Str
def keyIs : Key → Value → Bool
  | .inl k, v => Value.isInt k v
  | .inr x, v => Value.isStrOf x v
def keyH (w : World) : Key → Int
  | .inl k => hashInt k
  | .inr x => hashStr w x
theorem keyIs_shape : ∀ {k : Key} {v : Value}, keyIs k v = true → (∃ i t, k = Sum.inl i ∧ v = Value.int i t) ∨ (∃ x t, k = Sum.inr x ∧ v = Value.str x t)
  | .inl i, v, h => by
    obtain ⟨t, e⟩ := Value.isInt_shape (k := i) (v := v) h
    exact .inl ⟨i, t, rfl, e⟩
  | .inr x, v, h => by
    obtain ⟨t, e⟩ := Value.isStrOf_shape (x := x) (v := v) h
    exact .inr ⟨x, t, rfl, e⟩
theorem keyIs_int (i : Int) (t : Tok) : keyIs (.inl i) (.int i t) = true := by simp [keyIs, Value.isInt]
theorem keyIs_str (x : Str) (t : Tok) : keyIs (.inr x) (.str x t) = true := by simp [keyIs, Value.isStrOf]
theorem key_ll (a b : Int) : decide ((Sum.inl a : Key) = Sum.inl b) = (a == b) := by
  by_cases e : a = b
  · subst e; simp
  · have h : ¬ (Sum.inl a : Key) = Sum.inl b := fun q => e (Sum.inl.inj q)
    rw [decide_eq_false h]
    exact (beq_eq_false_iff_ne.mpr e).symm
theorem key_rr (a b : Str) : decide ((Sum.inr a : Key) = Sum.inr b) = decide (a = b) := by
  by_cases e : a = b
  · subst e; simp
  · have h : ¬ (Sum.inr a : Key) = Sum.inr b := fun q => e (Sum.inr.inj q)
    rw [decide_eq_false h, decide_eq_false e]
theorem key_lr (a : Int) (b : Str) : decide ((Sum.inl a : Key) = Sum.inr b) = false := decide_eq_false (fun q => nomatch q)
theorem key_rl (a : Str) (b : Int) : decide ((Sum.inr a : Key) = Sum.inl b) = false := decide_eq_false (fun q => nomatch q)

def mixKind (prog : Program) (w : World) : PySem.KeyKind prog w Key where
  is := keyIs
  hash := keyH w
  inj := fun v a b ha hb => by
    rcases keyIs_shape ha with ⟨i, t, rfl, rfl⟩ | ⟨x, t, rfl, rfl⟩
    · rcases keyIs_shape hb with ⟨j, u, rfl, e⟩ | ⟨y, u, rfl, e⟩
      · injection e with e1 _; rw [e1]
      · exact nomatch e
    · rcases keyIs_shape hb with ⟨j, u, rfl, e⟩ | ⟨y, u, rfl, e⟩
      · exact nomatch e
      · injection e with e1 _; rw [e1]
  byValue := fun k v h => by
    rcases keyIs_shape h with ⟨i, t, rfl, rfl⟩ | ⟨x, t, rfl, rfl⟩ <;> rfl
  pyHash := fun hv h => by
    rcases keyIs_shape hv with ⟨i, t, rfl, rfl⟩ | ⟨x, t, rfl, rfl⟩
    · exact wpAny_pyHash_int h
    · exact wpAny_pyHash_str h
  eqBool := fun hu hv h => by
    rcases keyIs_shape hu with ⟨i, t, rfl, rfl⟩ | ⟨x, t, rfl, rfl⟩
    · rcases keyIs_shape hv with ⟨j, u, rfl, rfl⟩ | ⟨y, u, rfl, rfl⟩
      · rw [key_ll] at h; exact wpAny_eqBool_int h
      · rw [key_lr] at h; exact SeqAt.EqAt.int_str i t y u _ _ _ _ h
    · rcases keyIs_shape hv with ⟨j, u, rfl, rfl⟩ | ⟨y, u, rfl, rfl⟩
      · rw [key_rl] at h; exact SeqAt.EqAt.str_int x t j u _ _ _ _ h
      · rw [key_rr] at h; exact wpAny_eqBool_str h
  «strs» := fun k x t v h => by
    rcases keyIs_shape h with ⟨i, u, rfl, e⟩ | ⟨y, u, rfl, e⟩
    · exact nomatch e
    · injection e with e1 _
      subst e1
      cases v <;> rfl

theorem mixKind_is (prog : Program) (w : World) (k : Key) (v : Value) : (mixKind prog w).is k v = keyIs k v := rfl
theorem mixKind_int (prog : Program) (w : World) (i : Int) (t : Tok) : (mixKind prog w).is (.inl i) (.int i t) = true := keyIs_int i t
theorem mixKind_str (prog : Program) (w : World) (x : Str) (t : Tok) : (mixKind prog w).is (.inr x) (.str x t) = true := keyIs_str x t
end L2

namespace L2
open PySem PySem.Spec PyProof.Rows

/-- a value, without the heap -/
inductive V where
  | non | bl (b : Bool) | int (i : Int) | str (x : Str) | byt (b : Array UInt8) | flt (b : UInt64) | ref (a : Addr) | ty (n : String)
  deriving DecidableEq

def RelV : V → Value → Prop
  | .non, u => u = Value.none
  | .bl b, u => u = Value.bool b
  | .int i, u => ∃ t, u = Value.int i t
  | .str x, u => ∃ t, u = Value.str x t
  | .byt b, u => ∃ t, u = Value.bytes b t
  | .flt b, u => ∃ t, u = Value.float b t
  | .ref a, u => u = Value.ref a
  | .ty n, u => u = Value.type n

abbrev Vals : List V → List Value → Prop := Paired RelV
theorem Vals.length {xs : List V} {us : List Value} (r : Vals xs us) : xs.length = us.length := Paired.length r
theorem Vals.get : ∀ {xs : List V} {us : List Value} {i : Nat} {x : V}, Vals xs us → xs[i]? = some x → ∃ u, us[i]? = some u ∧ RelV x u
  | _, _, _, _, .nil, e => by simp at e
  | _, _, 0, _, .cons r _, e => by simp at e; subst e; exact ⟨_, rfl, r⟩
  | _, _, i + 1, x, .cons _ t, e => by
    obtain ⟨u, h1, h2⟩ := Vals.get (i := i) (x := x) t (by simpa using e)
    exact ⟨u, by simpa using h1, h2⟩
theorem Vals.set {x : V} {u : Value} (r : RelV x u) : ∀ {xs : List V} {us : List Value} (i : Nat), Vals xs us → Vals (xs.set i x) (us.set i u)
  | _, _, _, .nil => .nil
  | _, _, 0, .cons _ t => .cons r t
  | _, _, i + 1, .cons q t => .cons q (Vals.set r i t)
theorem Vals.append : ∀ {xs ys : List V} {us ws : List Value}, Vals xs us → Vals ys ws → Vals (xs ++ ys) (us ++ ws)
  | _, _, _, _, .nil, s => s
  | _, _, _, _, .cons r t, s => .cons r (Vals.append t s)
theorem Vals.take : ∀ {xs : List V} {us : List Value} (n : Nat), Vals xs us → Vals (xs.take n) (us.take n)
  | _, _, 0, _ => .nil
  | _, _, _ + 1, .nil => .nil
  | _, _, n + 1, .cons r t => .cons r (Vals.take n t)
theorem Vals.drop : ∀ {xs : List V} {us : List Value} (n : Nat), Vals xs us → Vals (xs.drop n) (us.drop n)
  | _, _, 0, r => r
  | _, _, _ + 1, .nil => .nil
  | _, _, n + 1, .cons _ t => Vals.drop n t
theorem Vals.none_of : ∀ {xs : List V} {us : List Value} {i : Nat}, Vals xs us → xs[i]? = none → us[i]? = none := fun {xs us i} r e => by
  have h1 := r.length
  have h2 : xs.length ≤ i := List.getElem?_eq_none_iff.mp e
  exact List.getElem?_eq_none_iff.mpr (by omega)

def RelO : Option V → Option Value → Prop
  | some v, some u => RelV v u
  | none, none => True
  | _, _ => False
def KV {κ : Type} : List (κ × V) → List (κ × Value) → Prop := Paired fun (p : κ × V) (q : κ × Value) => p.1 = q.1 ∧ RelV p.2 q.2

/-- a key of a dict (00_mix): an int or a text -/
def kV : Key → V
  | .inl i => .int i
  | .inr x => .str x

/-- what stands at a tracked address -/
inductive HO where
  /-- a list -/
  | lst (xs : List V)
  /-- a tuple (never changes) -/
  | tup (xs : List V)
  /-- a dict whose keys are ints and texts; one whose keys are tuples of ints and texts (the empty one is both) -/
  | dK (kvs : List (Key × V)) | dT (kvs : List (List Key × V))
  /-- a set of ints: its members, its size -/
  | set (S : Int → Bool) (n : Nat)
  /-- an instance of the class at C, its dict at dx, its attributes -/
  | ins (C dx : Addr) (fs : List (Str × V))
  /-- the dict of the instance at x -/
  | own (x : Addr)
  /-- the dict of an exception -/
  | xd (fs : List (Str × V))
  /-- a bound method, f of x -/
  | met (f x : Addr)
  /-- a range object lo, lo + 1, .. below hi -/
  | rng (lo hi : Int)
  /-- a thing that is known to the object (the script; a dict while a loop walks it): read, never written while it is so -/
  | frz (o : Obj) (u : HO)
  /-- a code object's table -/
  | tbl (ps : Array Value)
  /-- any other thing, by what is true of its one object (a def of one's own: SetO a S n := HO.ext fun h => ..) -/
  | ext (φ : Heap → Prop)

abbrev Hp := Addr → Option HO
def upd (H : Hp) (a : Addr) (o : HO) : Hp := fun b => if b = a then some o else H b
theorem upd_same {H : Hp} {a : Addr} {o : HO} : upd H a o a = some o := by unfold upd; rw [if_pos rfl]
theorem upd_ne {H : Hp} {a b : Addr} {o : HO} (h : b ≠ a) : upd H a o b = H b := by unfold upd; rw [if_neg h]
theorem upd_upd {H : Hp} {a : Addr} {o u : HO} : upd (upd H a o) a u = upd H a u := by
  funext b; unfold upd; split <;> rfl
/-- two objects of different content stand apart -/
theorem ne_of {H : Hp} {a b : Addr} {o u : HO} (h : H a = some o) (h' : H b = some u) (d : o ≠ u) : a ≠ b := by
  intro e; subst e; rw [h] at h'; exact d (Option.some.inj h')
theorem ne_of_none {H : Hp} {a b : Addr} {o : HO} (h : H a = some o) (h' : H b = none) : a ≠ b := by
  intro e; subst e; rw [h] at h'; cases h'

section
variable (P : Program) (w : World)
def ObjOk (H : Hp) (h : Heap) (a : Addr) : HO → Prop
  | .lst xs => xs.length ≤ sizeLine ∧ ∃ (its : List Value) (n : Nat), Vals xs its ∧ h.get? a = some { cls := .type "list", data := .seq its.toArray n }
  | .tup xs => xs.length ≤ sizeLine ∧ ∃ its : List Value, Vals xs its ∧ IsTup h a its.toArray
  | .dK kvs => kvs.length ≤ sizeLine ∧ (a == sysModules) = false ∧ ∃ vs, KV kvs vs ∧ h.DictOf (mixKind P w) a vs
  | .dT kvs => kvs.length ≤ sizeLine ∧ (a == sysModules) = false ∧ ∃ xs : List (List Key × Addr × Value),
      Paired (fun (p : List Key × V) (q : List Key × Addr × Value) => p.1 = q.1 ∧ H q.2.1 = some (.tup (p.1.map kV)) ∧ RelV p.2 q.2.2) kvs xs ∧
      ∃ o es ep, h.get? a = some o ∧ o.ExactDict ∧ o.data = .dict es ep ∧ es.toList = xs.map (entryOfKey (tupleKind (mixKind P w))) ∧ (xs.map (·.1)).Nodup
  | .set S n => h.SetOf (intKind P w) a S n
  | .ins C dx fs => H dx = some (.own a) ∧ fs.length ≤ 1000 ∧ dx ≠ a ∧ h.get? a = some (PySem.W.instObj C dx) ∧
      ∃ mA, h.Ns1 dx mA ∧ (∀ f, RelO (fs.lookup f) (mA f)) ∧ PySem.Within mA (fs.map (·.1))
  | .own _ => ∃ o, h.get? a = some o
  | .xd fs => ∃ mA, h.Ns1 a mA ∧ ∀ f, RelO (fs.lookup f) (mA f)
  | .rng lo hi => ∃ t u v, h.get? a = some { cls := .type "range", data := .fields #[.int lo t, .int hi u, .int 1 v] }
  | .frz o u => h.get? a = some o ∧ ObjOk H h a u
  | .tbl ps => h.get? a = some { cls := .none, data := .fields ps }
  | .met f x => h.get? a = some (PySem.W.methodObj (.ref f) (.ref x))
  | .ext φ => φ h ∧ (∃ o, h.get? a = some o) ∧ ∀ h1 h2 : Heap, φ h1 → (∀ o, h1.get? a = some o → h2.get? a = some o) → φ h2
/-- the abstract heap is held -/
def HOk (H : Hp) (h : Heap) : Prop := ∀ a o, H a = some o → ObjOk P w H h a o
end

section
variable {P : Program} {w : World} {H H' : Hp} {h h' : Heap} {a : Addr} {o : HO}
theorem ObjOk.lt (x : ObjOk P w H h a o) : a < h.objs.size := by
  cases o with
  | lst xs => obtain ⟨_, _, _, _, e⟩ := x; exact Heap.lt_size e
  | tup xs => obtain ⟨_, _, _, p⟩ := x; exact p.lt
  | dK kvs => obtain ⟨_, _, _, _, o, _, _, e, _⟩ := x; exact Heap.lt_size e
  | dT kvs => obtain ⟨_, _, _, _, o, _, _, e, _⟩ := x; exact Heap.lt_size e
  | set S n => obtain ⟨o, _, _, _, e, _⟩ := x; exact Heap.lt_size e
  | ins C dx fs => obtain ⟨_, _, _, e, _⟩ := x; exact Heap.lt_size e
  | own y => obtain ⟨_, e⟩ := x; exact Heap.lt_size e
  | xd fs => obtain ⟨_, ⟨_, _, _, e, _⟩, _⟩ := x; exact Heap.lt_size e
  | rng lo hi => obtain ⟨_, _, _, e⟩ := x; exact Heap.lt_size e
  | frz ob u => obtain ⟨e, _⟩ := x; exact Heap.lt_size e
  | tbl ps => exact Heap.lt_size (show h.get? a = some _ from x)
  | met f y => exact Heap.lt_size (show h.get? a = some _ from x)
  | ext φ => obtain ⟨_, ⟨_, e⟩, _⟩ := x; exact Heap.lt_size e
theorem Paired.mapP {α β : Type} {F G : α → β → Prop} : ∀ {l₁ : List α} {l₂ : List β}, Paired F l₁ l₂ → (∀ a b, F a b → G a b) → Paired G l₁ l₂
  | _, _, .nil, _ => .nil
  | _, _, .cons r t, f => .cons (f _ _ r) (Paired.mapP t f)
theorem Paired.imp' {α β : Type} {F G : α → β → Prop} (f : ∀ a b, F a b → G a b) {l₁ : List α} {l₂ : List β} (r : Paired F l₁ l₂) : Paired G l₁ l₂ := Paired.mapP r f
/-- what an object's description leans on: its own object, its own dict, the tuples -/
theorem ObjOk.stay (x : ObjOk P w H h a o) (k : ∀ b u, (b = a ∨ H b = some (.own a)) → h.get? b = some u → h'.get? b = some u)
    (ho : ∀ b, H b = some (.own a) → H' b = some (.own a)) (ht : ∀ b xs, H b = some (.tup xs) → H' b = some (.tup xs)) : ObjOk P w H' h' a o := by
  induction o with
  | lst xs => obtain ⟨z, its, n, r, e⟩ := x; exact ⟨z, its, n, r, k _ _ (.inl rfl) e⟩
  | tup xs => obtain ⟨z, its, r, ob, e, c⟩ := x; exact ⟨z, its, r, ob, k _ _ (.inl rfl) e, c⟩
  | dK kvs => obtain ⟨z, y, vs, r, ob, es, ep, e, c⟩ := x; exact ⟨z, y, vs, r, ob, es, ep, k _ _ (.inl rfl) e, c⟩
  | dT kvs =>
    obtain ⟨z, y, xs, r, ob, es, ep, e, c⟩ := x
    exact ⟨z, y, xs, Paired.mapP r fun p q z => ⟨z.1, ht _ _ z.2.1, z.2.2⟩, ob, es, ep, k _ _ (.inl rfl) e, c⟩
  | set S n => obtain ⟨ob, es, ep, t, e, c⟩ := x; exact ⟨ob, es, ep, t, k _ _ (.inl rfl) e, c⟩
  | ins C dx fs =>
    obtain ⟨d, z, ne, e, mA, ⟨od, es, ep, e2, c⟩, r⟩ := x
    exact ⟨ho _ d, z, ne, k _ _ (.inl rfl) e, mA, ⟨od, es, ep, k _ _ (.inr d) e2, c⟩, r⟩
  | own y => obtain ⟨ob, e⟩ := x; exact ⟨ob, k _ _ (.inl rfl) e⟩
  | xd fs => obtain ⟨mA, ⟨od, es, ep, e, c⟩, r⟩ := x; exact ⟨mA, ⟨od, es, ep, k _ _ (.inl rfl) e, c⟩, r⟩
  | rng lo hi => obtain ⟨t, u, v, e⟩ := x; exact ⟨t, u, v, k _ _ (.inl rfl) e⟩
  | frz ob u ih => obtain ⟨e, q⟩ := x; exact ⟨k _ _ (.inl rfl) e, ih q⟩
  | tbl ps =>
    have e : h.get? a = some { cls := .none, data := .fields ps } := x
    show h'.get? a = some { cls := .none, data := .fields ps }
    exact k a _ (.inl rfl) e
  | met f y =>
    have e : h.get? a = some (PySem.W.methodObj (.ref f) (.ref y)) := x
    show h'.get? a = some (PySem.W.methodObj (.ref f) (.ref y))
    exact k a _ (.inl rfl) e
  | ext φ => obtain ⟨p, ⟨o, e⟩, st⟩ := x; exact ⟨st _ _ p fun o q => k _ _ (.inl rfl) q, ⟨o, k _ _ (.inl rfl) e⟩, st⟩
theorem HOk.lt (x : HOk P w H h) (e : H a = some o) : a < h.objs.size := (x a o e).lt
theorem HOk.fresh (x : HOk P w H h) (e : h.objs.size ≤ a) : H a = none := by
  cases q : H a with
  | none => rfl
  | some u => exact absurd (Nat.lt_of_lt_of_le (x.lt q) e) (Nat.lt_irrefl _)
/-- every object of the heap is kept -/
theorem HOk.kept (x : HOk P w H h) (k : ∀ b u, h.get? b = some u → h'.get? b = some u) : HOk P w H h' := fun a o e =>
  (x a o e).stay (fun b u _ q => k b u q) (fun _ q => q) fun _ _ q => q
/-- a new object is laid and tracked -/
theorem HOk.laid (x : HOk P w H h) (k : ∀ b u, h.get? b = some u → h'.get? b = some u) (hp : h.objs.size ≤ a) (new : ObjOk P w (upd H a o) h' a o) : HOk P w (upd H a o) h' := fun b u e => by
  have hn := x.fresh hp
  by_cases hb : b = a
  · subst hb; rw [upd_same] at e; cases e; exact new
  · rw [upd_ne hb] at e
    exact (x b u e).stay (fun c v _ q => k c v q) (fun c q => by rw [upd_ne (ne_of_none q hn)]; exact q) fun c xs q => by rw [upd_ne (ne_of_none q hn)]; exact q
end

/-- what may be read as u: it is u, or a known u -/
def Rd (H : Hp) (a : Addr) (u : HO) : Prop := H a = some u ∨ ∃ o, H a = some (.frz o u)
theorem Rd.of {H : Hp} {a : Addr} {u : HO} (h : H a = some u) : Rd H a u := .inl h
theorem Rd.ok {P : Program} {w : World} {H : Hp} {h : Heap} {a : Addr} {u : HO} (r : Rd H a u) (x : HOk P w H h) : ObjOk P w H h a u := by
  rcases r with r | ⟨o, r⟩
  · exact x a u r
  · obtain ⟨_, q⟩ := x a _ r
    exact q
/-- what may be written -/
def Mut : Option HO → Prop
  | some (.lst _) => True
  | some (.dK _) => True
  | some (.dT _) => True
  | some (.set _ _) => True
  | some (.ins _ _ _) => True
  | some (.ext _) => True
  | _ => False
section
variable {P : Program} {w : World} {H : Hp} {h h' : Heap} {x e : Addr} {o' : HO}
/-- the object at e is changed: x itself, or the dict of the instance x -/
theorem HOk.write (ok : HOk P w H h) (mu : Mut (H x)) (he : e = x ∨ H e = some (.own x)) (k : ∀ b u, b ≠ e → h.get? b = some u → h'.get? b = some u) (heo : ∃ u, h'.get? e = some u)
    (new : ObjOk P w (upd H x o') h' x o') : HOk P w (upd H x o') h' := fun b u q => by
  have nown : ∀ c y, H c = some (.own y) → c ≠ x := fun c y r z => by subst z; rw [r] at mu; exact mu
  have ntup : ∀ c xs, H c = some (.tup xs) → c ≠ x := fun c xs r z => by subst z; rw [r] at mu; exact mu
  by_cases hb : b = x
  · subst hb; rw [upd_same] at q; cases q; exact new
  · rw [upd_ne hb] at q
    by_cases hbe : b = e
    · have q' : H b = some (.own x) := by
        rcases he with z | z
        · exact absurd (hbe.trans z) hb
        · rw [hbe]; exact z
      rw [q] at q'; cases q'
      obtain ⟨v, hv⟩ := heo
      exact ⟨v, by rw [hbe]; exact hv⟩
    · refine (ok b u q).stay (fun c v hc r => k c v ?_ r) (fun c r => by rw [upd_ne (nown c b r)]; exact r) fun c xs r => by rw [upd_ne (ntup c xs r)]; exact r
      rcases hc with rfl | hc
      · exact hbe
      · rintro rfl
        rcases he with z | z
        · exact nown c b hc z
        · rw [hc] at z; cases z; exact hb rfl
end

/-! ### kept unless tracked; of the frames at fs (the callers') the slots may change (an exception that passes writes there); of the records at ex (iterators) nothing is said -/
structure Un (fs ex : List Addr) (H H' : Hp) (h h' : Heap) : Prop where
  keep : ∀ b o, h.get? b = some o → H b = none → b ∉ fs → b ∉ ex → h'.get? b = some o
  slot : ∀ b o, h.get? b = some o → H b = none → b ∈ fs → b ∉ ex → ∃ sl, h'.get? b = some { o with slots := sl }
  free : ∀ b o, h.get? b = some o → H b = none → b ∉ ex → H' b = none
  there : ∀ b o, h.get? b = some o → b ∉ ex → ∃ o', h'.get? b = some o'
  tups : ∀ b xs, H b = some (.tup xs) → H' b = some (.tup xs)
  frzs : ∀ b o u, H b = some (.frz o u) → H' b = some (.frz o u)
  tbls : ∀ b ps, H b = some (.tbl ps) → ∃ more, H' b = some (.tbl (ps ++ more))
section
variable {fs fs' ex ex' : List Addr} {H H1 H2 : Hp} {h h1 h2 h' : Heap} {a x e : Addr} {o : HO}
theorem Un.any (u : Un fs ex H H1 h h1) {b : Addr} {ob : Obj} (q : h.get? b = some ob) (n : H b = none) (hx : b ∉ ex) : ∃ sl, h1.get? b = some { ob with slots := sl } := by
  by_cases hb : b ∈ fs
  · exact u.slot b ob q n hb hx
  · exact ⟨ob.slots, u.keep b ob q n hb hx⟩
theorem Un.trans (a : Un fs ex H H1 h h1) (b : Un fs ex H1 H2 h1 h2) : Un fs ex H H2 h h2 where
  keep := fun c ob q n hc hx => b.keep c ob (a.keep c ob q n hc hx) (a.free c ob q n hx) hc hx
  slot := fun c ob q n hc hx => by
    obtain ⟨sl, e1⟩ := a.slot c ob q n hc hx
    obtain ⟨sl', e2⟩ := b.slot c _ e1 (a.free c ob q n hx) hc hx
    exact ⟨sl', e2⟩
  free := fun c ob q n hx => by
    obtain ⟨o', e1⟩ := a.there c ob q hx
    exact b.free c o' e1 (a.free c ob q n hx) hx
  there := fun c ob q hx => by
    obtain ⟨o', e1⟩ := a.there c ob q hx
    exact b.there c o' e1 hx
  tups := fun c xs q => b.tups c xs (a.tups c xs q)
  frzs := fun c ob xs q => b.frzs c ob xs (a.frzs c ob xs q)
  tbls := fun c ps q => by
    obtain ⟨m1, e1⟩ := a.tbls c ps q
    obtain ⟨m2, e2⟩ := b.tbls c _ e1
    exact ⟨m1 ++ m2, by rw [e2, Array.append_assoc]⟩
theorem Un.kept (k : ∀ b u, h.get? b = some u → h'.get? b = some u) : Un fs ex H H h h' :=
  ⟨fun b ob q _ _ _ => k b ob q, fun b ob q _ _ _ => ⟨ob.slots, k b ob q⟩, fun _ _ _ n _ => n, fun b ob q _ => ⟨ob, k b ob q⟩, fun _ _ q => q, fun _ _ _ q => q, fun _ ps q => ⟨#[], by rw [q]; simp⟩⟩
theorem Un.refl : Un fs ex H H h h := Un.kept fun _ _ q => q
theorem Un.laid (k : ∀ b u, h.get? b = some u → h'.get? b = some u) (hp : h.objs.size ≤ a) (hn : H a = none) : Un fs ex H (upd H a o) h h' where
  keep := fun b u q _ _ _ => k b u q
  slot := fun b u q _ _ _ => ⟨u.slots, k b u q⟩
  free := fun b u q n _ => by rw [upd_ne (Nat.ne_of_lt (Nat.lt_of_lt_of_le (Heap.lt_size q) hp))]; exact n
  there := fun b u q _ => ⟨u, k b u q⟩
  tups := fun b xs q => by rw [upd_ne (ne_of_none q hn)]; exact q
  frzs := fun b u xs q => by rw [upd_ne (ne_of_none q hn)]; exact q
  tbls := fun b ps q => ⟨#[], by rw [upd_ne (ne_of_none q hn), q]; simp⟩
theorem Un.write (mu : Mut (H x)) (he : e = x ∨ H e = some (.own x)) (k : ∀ b u, b ≠ e → h.get? b = some u → h'.get? b = some u) (heo : ∃ u, h'.get? e = some u) : Un fs ex H (upd H x o) h h' := by
  have hx : ∀ b, H b = none → b ≠ x := fun b n z => by subst z; rw [n] at mu; exact mu
  have hb : ∀ b, H b = none → b ≠ e := fun b n z => by
    subst z
    rcases he with r | r
    · exact hx b n r
    · rw [n] at r; cases r
  have hm : ∀ b u, H b = some u → ¬ Mut (some u) → b ≠ x := fun b u q nm z => by subst z; rw [q] at mu; exact nm mu
  refine ⟨fun b u q n _ _ => k b u (hb b n) q, fun b u q n _ _ => ⟨u.slots, k b u (hb b n) q⟩, fun b u q n _ => by rw [upd_ne (hx b n)]; exact n, fun b u q _ => ?_,
    fun b xs q => by rw [upd_ne (hm b _ q fun z => z)]; exact q, fun b u xs q => by rw [upd_ne (hm b _ q fun z => z)]; exact q, fun b ps q => ⟨#[], by rw [upd_ne (hm b _ q fun z => z), q]; simp⟩⟩
  by_cases hbe : b = e
  · subst hbe; exact heo
  · exact ⟨u, k b u hbe q⟩
theorem Un.mono (u : Un fs ex H H1 h h1) (hs : ∀ b ∈ fs, b ∈ fs') (hx : ∀ b ∈ ex, b ∈ ex') : Un fs' ex' H H1 h h1 :=
  ⟨fun b ob q n hb he => u.keep b ob q n (fun z => hb (hs b z)) fun z => he (hx b z), fun _ _ q n _ he => u.any q n fun z => he (hx _ z), fun b ob q n he => u.free b ob q n fun z => he (hx b z), fun b ob q he => u.there b ob q fun z => he (hx b z), u.tups, u.frzs, u.tbls⟩
end

/-! ### the heap without what is tracked -/
def trk (h : Heap) (H : Hp) : List Addr := (List.range h.objs.size).filter fun a => (H a).isSome
def hidT (h : Heap) (H : Hp) : Heap := PySem.W.hideAll h (trk h H)
theorem hidT_size (h : Heap) (H : Hp) : (hidT h H).objs.size = h.objs.size := PySem.W.hideAll_size _ _
theorem hidT_get {h : Heap} {H : Hp} {b : Addr} {o : Obj} (e : h.get? b = some o) (n : H b = none) : (hidT h H).get? b = some o :=
  PySem.W.hideAll_get _ e fun hm => by
    have q : (H b).isSome = true := (List.mem_filter.mp hm).2
    rw [n] at q; simp at q
theorem of_hidT {h : Heap} {H : Hp} {b : Addr} {o : Obj} (e : (hidT h H).get? b = some o) : h.get? b = some o ∧ H b = none := by
  have e' : h.get? b = some o := PySem.W.of_hideAll (trk h H) e
  refine ⟨e', ?_⟩
  cases q : H b with
  | none => rfl
  | some x =>
    have hm : b ∈ trk h H := List.mem_filter.mpr ⟨List.mem_range.mpr (Heap.lt_size e'), by simp [q]⟩
    have z : (hidT h H).get? b = none := PySem.W.hideAll_none (trk h H) hm
    rw [z] at e; cases e

/-! ### OpenK's ledger, filled with every new object but one -/
def allNews (g h : Heap) (L : Addr) : List (Addr × Obj) := (List.range h.objs.size).filterMap fun a => if a = L ∨ (g.get? a).isSome = true then none else (h.get? a).map fun o => (a, o)
theorem mem_allNews {g h : Heap} {L a : Addr} {o : Obj} (h1 : a ≠ L) (h2 : g.get? a = none) (h3 : h.get? a = some o) : (a, o) ∈ allNews g h L :=
  List.mem_filterMap.mpr ⟨a, List.mem_range.mpr (Heap.lt_size h3), by simp [h1, h2, h3]⟩
theorem of_mem_allNews {g h : Heap} {L : Addr} {p : Addr × Obj} (hp : p ∈ allNews g h L) : p.1 ≠ L ∧ g.get? p.1 = none ∧ h.get? p.1 = some p.2 := by
  obtain ⟨b, _, e⟩ := List.mem_filterMap.mp hp
  split at e
  · cases e
  · rename_i hn
    cases q : h.get? b with
    | none => rw [q] at e; simp at e
    | some u =>
      rw [q] at e
      simp only [Option.map_some, Option.some.injEq] at e
      subst e
      refine ⟨fun z => hn (.inl z), ?_, q⟩
      show g.get? b = none
      cases r : g.get? b with
      | none => rfl
      | some v => exact (hn (.inr (by simp [r]))).elim
def rest (g h : Heap) (L d : Addr) : List (Addr × Obj) := (allNews g h L).filter fun p => decide (p.1 ≠ d)
theorem rest_ne {g h : Heap} {L d : Addr} : ∀ p ∈ rest g h L d, p.1 ≠ d := fun p hp => of_decide_eq_true (List.mem_filter.mp hp).2
theorem mem_rest {g h : Heap} {L d a : Addr} {o : Obj} (h1 : a ≠ L) (h2 : g.get? a = none) (h3 : h.get? a = some o) (h4 : a ≠ d) : (a, o) ∈ rest g h L d :=
  List.mem_filter.mpr ⟨mem_allNews h1 h2 h3, decide_eq_true h4⟩
theorem news_all {g h : Heap} {L : Addr} : News g L h (allNews g h L) := fun p hp => let ⟨a, b, c⟩ := of_mem_allNews hp; ⟨c, a, b⟩
theorem news_at {g h : Heap} {L d : Addr} {o : Obj} (h1 : d ≠ L) (h2 : g.get? d = none) (h3 : h.get? d = some o) : News g L h ((d, o) :: rest g h L d) := fun p hp => by
  rcases List.mem_cons.mp hp with rfl | hp
  · exact ⟨h3, h1, h2⟩
  · exact news_all p (List.mem_filter.mp hp).1
/-- behind a rule that changed d alone: all else but the frame is kept -/
theorem kept_of_news {g h h' : Heap} {L d : Addr} {m : Str → Option Value} (k : ∀ b o, g.get? b = some o → h.get? b = some o) (F : Fr g L h' m) (N : News g L h' (rest g h L d)) :
    ∀ b o, b ≠ L → b ≠ d → h.get? b = some o → h'.get? b = some o := fun b o h1 h2 e => by
  cases q : g.get? b with
  | some u =>
    have := k b u q
    rw [e] at this; cases this
    exact F.keep b _ q
  | none => exact (N (b, o) (mem_rest h1 q e h2)).1
end L2

namespace L2
open PySem PySem.Spec PyProof.Rows

/-- the module's facts, over the base: the heap at the law's entry without what is tracked there -/
structure Mod (K : PySem.W.Frag) (mg : Str → Option Value) (base : Heap) : Prop where
  kin : K.In base
  glob : base.Ns mainGlobals mg
  blt : ∃ mb, base.Ns builtinsNs mb ∧ ∀ x : Str, x ≠ "__name__" → mb x = bootBuiltins x
  nolimit : base.NoLimit

/-- the context: a def's body (or a comprehension's block) running. base: fixed through the whole law; s₀, H₀: the entry; outer: the frames whose slots others may change (a def's callers); stack: all frames that run;
   ex: iterators that were made ahead of the entry and are walked here (a comprehension's); fn: the names whose cells were made at the entry (a def: all; a comprehension's block: its own); calm: not within an except suite; pn: pins that every state bears; xe: what is wanted of an exception that leaves the code -/
structure Cx where
  prog : Program
  w : World
  K : PySem.W.Frag
  mg : Str → Option Value
  base : Heap
  A : Around
  N : List Str
  s₀ : Shared
  H₀ : Hp
  env : Env
  outer : List Env
  stack : List Env
  ex : List Addr
  fn : Str → Bool
  calm : Bool
  pn : List (Addr × Obj)
  xe : Value → Shared → Prop
/-- the callers' frames -/
def frs (l : List Env) : List Addr := l.filterMap (·.frame)
abbrev Cx.fs (X : Cx) : List Addr := frs X.outer

def Vis (sc : Scope) (x : Str) : Prop := sc.names.lookup x = some .local ∨ sc.names.lookup x = some .cell ∨ sc.names.lookup x = some .free
def Loc (sc : Scope) (x : Str) : Prop := sc.names.lookup x = some .local ∨ sc.names.lookup x = some .cell
def Look (env : Env) (h : Heap) (m : Str → Option Value) (x : Str) (u : Value) : Prop :=
  (env.kindOf x = some .local ∧ m x = some u) ∨ ((env.kindOf x = some .cell ∨ env.kindOf x = some .free) ∧ ∃ c, env.cells.lookup x = some c ∧ h.IsCell c (some u))

structure Cx.Ok (X : Cx) : Prop where
  mod : Mod X.K X.mg X.base
  kind : X.env.scope.kind = .function
  glob : X.env.globals = mainGlobals
  blt : X.env.builtins = builtinsNs
  above : X.s₀.heap.objs.size ≤ X.env.locals
  inj : ∀ x y c, X.env.cells.lookup x = some c → X.env.cells.lookup y = some c → x = y
  has : ∀ x, (X.env.kindOf x = some .cell ∨ X.env.kindOf x = some .free) → ∃ c, X.env.cells.lookup x = some c
  cab : ∀ x c, X.fn x = true → X.env.cells.lookup x = some c → X.s₀.heap.objs.size ≤ c
  hd : X.calm = true → X.A.handled = none
  frames : X.A.frames = some X.stack
  stk : X.stack = X.outer ∨ (X.stack = X.env :: X.outer ∧ X.env.frame = some X.env.locals)
  exf : ∀ b ∈ X.ex, b ≠ X.env.locals ∧ ∀ x c, X.env.cells.lookup x = some c → c ≠ b
  bs : ∀ b o, X.base.get? b = some o → X.s₀.heap.get? b = some o ∧ X.H₀ b = none
  bsz : X.base.objs.size ≤ X.s₀.heap.objs.size
  noex : ∀ b o, X.base.get? b = some o → b ∉ X.ex
  exfs : ∀ b ∈ X.ex, b ∉ X.fs
  funs : X.s₀.heap.FunFrames X.base X.outer
  frf : ∀ b ∈ X.fs, X.H₀ b = none

structure Inv (X : Cx) (pins : List (Addr × Obj)) (σ : List (Option V)) (H : Hp) (s : Shared) : Prop where
  ok : X.Ok
  os : s.os = X.s₀.os
  bare : AllBare s.gens
  base : Un X.fs X.ex X.H₀ H X.s₀.heap s.heap
  loc : ∃ m, s.heap.Ns X.env.locals m ∧ ∀ (i : Nat) (x : Str) (v : V), X.N[i]? = some x → σ[i]? = some (some v) → Vis X.env.scope x → ∃ u, RelV v u ∧ Look X.env s.heap m x u
  cell : ∀ x c, X.env.cells.lookup x = some c → ∃ v, s.heap.IsCell c v
  free : H X.env.locals = none
  freeC : ∀ x c, X.env.cells.lookup x = some c → H c = none
  pin : ∀ p ∈ X.pn ++ pins, s.heap.get? p.1 = some p.2 ∧ H p.1 = none ∧ p.1 ≠ X.env.locals ∧ p.1 ∉ X.fs ∧ ∀ v, p.2.data ≠ .cell v
  hok : HOk X.prog X.w H s.heap
  len : σ.length = X.N.length

section
variable {X : Cx} {pins : List (Addr × Obj)} {σ : List (Option V)} {H H' : Hp} {s : Shared} {h' : Heap}

theorem Cx.Ok.nofr (ok : X.Ok) {b : Addr} {o : Obj} (e : X.base.get? b = some o) : b ∉ X.fs := fun hb => by
  have := (ok.funs.mem hb).1
  rw [e] at this; cases this
theorem Inv.bs (I : Inv X pins σ H s) : ∀ b o, X.base.get? b = some o → s.heap.get? b = some o ∧ H b = none := fun b o e =>
  ⟨I.base.keep b o (I.ok.bs b o e).1 (I.ok.bs b o e).2 (I.ok.nofr e) (I.ok.noex b o e), I.base.free b o (I.ok.bs b o e).1 (I.ok.bs b o e).2 (I.ok.noex b o e)⟩
theorem Inv.bk (I : Inv X pins σ H s) : ∀ b o, X.base.get? b = some o → s.heap.get? b = some o := fun b o e => (I.bs b o e).1
theorem Inv.mod (I : Inv X pins σ H s) : Mod X.K X.mg X.base := I.ok.mod
theorem Inv.kIn (I : Inv X pins σ H s) : X.K.In s.heap := I.ok.mod.kin.keeps I.bk
theorem Inv.nolimit (I : Inv X pins σ H s) : s.heap.NoLimit := I.ok.mod.nolimit.keeps I.bk
/-- the frame over the base: for OpenK's rules (K.In X.base is I.mod.kin) -/
theorem Inv.fr (I : Inv X pins σ H s) : ∃ m, Fr X.base X.env.locals s.heap m :=
  let ⟨m, hn, _⟩ := I.loc
  ⟨m, hn, I.bk, Nat.le_trans I.ok.bsz I.ok.above⟩
theorem Inv.lt (I : Inv X pins σ H s) : X.env.locals < s.heap.objs.size := let ⟨_, hn, _⟩ := I.loc; hn.lt
theorem Inv.sz (I : Inv X pins σ H s) : X.s₀.heap.objs.size ≤ s.heap.objs.size := Nat.le_trans I.ok.above (Nat.le_of_lt I.lt)
theorem Inv.nofs (I : Inv X pins σ H s) {a : Addr} (h : s.heap.objs.size ≤ a) : a ∉ X.fs := fun hb => by
  obtain ⟨_, o, ho, _⟩ := I.ok.funs.mem hb
  exact absurd (Nat.lt_of_lt_of_le (Heap.lt_size ho) (Nat.le_trans I.sz h)) (Nat.lt_irrefl _)
theorem Inv.cne (I : Inv X pins σ H s) : ∀ x c, X.env.cells.lookup x = some c → c ≠ X.env.locals := fun x c e z => by
  obtain ⟨v, o, ho, hd⟩ := I.cell x c e
  obtain ⟨m, ⟨o', es, ep, ho', hd', _⟩, _⟩ := I.loc
  rw [z, ho'] at ho; cases ho; rw [hd'] at hd; cases hd
theorem Inv.funs (I : Inv X pins σ H s) : s.heap.FunFrames X.base X.outer := by
  have all : ∀ (l : List Env), (∀ b ∈ frs l, b ∈ X.fs) → X.s₀.heap.FunFrames X.base l → s.heap.FunFrames X.base l := by
    intro l
    induction l with
    | nil => intro _ _; trivial
    | cons env r ih =>
      intro hs hl
      obtain ⟨hk, ⟨L, o, hf, hn, ho, hd⟩, hr⟩ := hl
      have hL : L ∈ X.fs := hs L (by unfold frs; rw [List.filterMap_cons, hf]; exact List.mem_cons_self)
      obtain ⟨sl, e⟩ := I.base.slot L o ho (I.ok.frf L hL) hL fun z => I.ok.exfs L z hL
      exact ⟨hk, ⟨L, _, hf, hn, e, hd⟩, ih (fun b hb => hs b (by unfold frs; rw [List.filterMap_cons, hf]; exact List.mem_cons_of_mem _ hb)) hr⟩
  exact all X.outer (fun _ hb => hb) I.ok.funs

/-- the frames that run, for a call -/
theorem Inv.stack (I : Inv X pins σ H s) : s.heap.FunFrames X.base X.stack := by
  rcases I.ok.stk with e | ⟨e, hf⟩
  · rw [e]; exact I.funs
  · rw [e]
    obtain ⟨m, hn, _⟩ := I.loc
    refine .cons (by rw [I.ok.kind]; decide) hf hn ?_ I.funs
    exact Heap.get?_none_of_le (Nat.le_trans I.ok.bsz I.ok.above)
theorem Inv.stkSub (I : Inv X pins σ H s) : ∀ b ∈ frs X.stack, b ∈ X.env.locals :: X.fs := fun b hb => by
  rcases I.ok.stk with e | ⟨e, hf⟩
  · rw [e] at hb; exact List.mem_cons_of_mem _ hb
  · rw [e] at hb
    unfold frs at hb
    rw [List.filterMap_cons, hf] at hb
    exact hb
theorem Inv.stkFree (I : Inv X pins σ H s) : ∀ b ∈ frs X.stack, H b = none := fun b hb => by
  rcases List.mem_cons.mp (I.stkSub b hb) with e | hb
  · rw [e]; exact I.free
  · obtain ⟨_, o, ho, _⟩ := I.ok.funs.mem hb
    exact I.base.free b o ho (I.ok.frf b hb) fun z => I.ok.exfs b z hb

/-- THE STEP: the untracked objects but the frame and the records at ch are kept (the callers' frames up to slots), the frame's map is kept, the new abstract heap is held -/
theorem Inv.step {g' : Array GenState} {t' : Nat} {d' : Drawn} {ch : List Addr} (I : Inv X pins σ H s)
    (hch : ∀ b ∈ ch, (b ∈ X.ex ∨ X.s₀.heap.objs.size ≤ b) ∧ b ≠ X.env.locals ∧ (∀ x c, X.env.cells.lookup x = some c → c ≠ b) ∧ ∀ p ∈ X.pn ++ pins, p.1 ≠ b)
    (keep : ∀ b o, b ≠ X.env.locals → b ∉ X.fs → b ∉ ch → s.heap.get? b = some o → H b = none → h'.get? b = some o)
    (slot : ∀ b o, b ≠ X.env.locals → b ∈ X.fs → b ∉ ch → s.heap.get? b = some o → H b = none → ∃ sl, h'.get? b = some { o with slots := sl }) (free : ∀ b o, b ∉ ch → s.heap.get? b = some o → H b = none → H' b = none)
    (there : ∀ b o, b ∉ ch → s.heap.get? b = some o → ∃ o', h'.get? b = some o')
    (tups : ∀ b xs, H b = some (.tup xs) → H' b = some (.tup xs)) (frzs : ∀ b o u, H b = some (.frz o u) → H' b = some (.frz o u)) (tbls : ∀ b ps, H b = some (.tbl ps) → ∃ more, H' b = some (.tbl (ps ++ more)))
    (ns : ∀ m, s.heap.Ns X.env.locals m → h'.Ns X.env.locals m) (hok : HOk X.prog X.w H' h') (hg : AllBare g') :
    Inv X pins σ H' { s with heap := h', gens := g', drawn := d', toks := t' } := by
  have neL : ∀ b o, X.s₀.heap.get? b = some o → b ≠ X.env.locals := fun b o e => Nat.ne_of_lt (Nat.lt_of_lt_of_le (Heap.lt_size e) I.ok.above)
  have neC : ∀ b o, X.s₀.heap.get? b = some o → b ∉ X.ex → b ∉ ch := fun b o e hx hb => by
    rcases (hch b hb).1 with z | z
    · exact hx z
    · exact absurd (Nat.lt_of_lt_of_le (Heap.lt_size e) z) (Nat.lt_irrefl _)
  have cellK : ∀ x c, X.env.cells.lookup x = some c → ∀ v, s.heap.IsCell c v → h'.IsCell c v := fun x c e v ⟨o, ho, hd⟩ => by
    have nch : c ∉ ch := fun z => (hch c z).2.2.1 x c e rfl
    by_cases hc : c ∈ X.fs
    · obtain ⟨sl, q⟩ := slot c o (I.cne x c e) hc nch ho (I.freeC x c e)
      exact ⟨_, q, hd⟩
    · exact ⟨o, keep c o (I.cne x c e) hc nch ho (I.freeC x c e), hd⟩
  refine ⟨I.ok, I.os, hg, ⟨fun b o e n hb hx => ?_, fun b o e n hb hx => ?_, fun b o e n hx => ?_, fun b o e hx => ?_, fun b xs e => tups b xs (I.base.tups b xs e), fun b o xs e => frzs b o xs (I.base.frzs b o xs e), fun b ps e => ?_⟩, ?_, fun x c e => ?_, ?_, fun x c e => ?_, fun p hp => ?_, hok, I.len⟩
  · exact keep b o (neL b o e) hb (neC b o e hx) (I.base.keep b o e n hb hx) (I.base.free b o e n hx)
  · obtain ⟨sl, e1⟩ := I.base.slot b o e n hb hx
    obtain ⟨sl', e2⟩ := slot b _ (neL b o e) hb (neC b o e hx) e1 (I.base.free b o e n hx)
    exact ⟨sl', e2⟩
  · obtain ⟨o', e1⟩ := I.base.there b o e hx
    exact free b o' (neC b o e hx) e1 (I.base.free b o e n hx)
  · obtain ⟨o', e1⟩ := I.base.there b o e hx
    exact there b o' (neC b o e hx) e1
  · obtain ⟨m1, e1⟩ := I.base.tbls b ps e
    obtain ⟨m2, e2⟩ := tbls b _ e1
    exact ⟨m1 ++ m2, by rw [e2, Array.append_assoc]⟩
  · obtain ⟨m, hn, hl⟩ := I.loc
    refine ⟨m, ns m hn, fun i x v e1 e2 e3 => ?_⟩
    obtain ⟨u, r, l⟩ := hl i x v e1 e2 e3
    refine ⟨u, r, ?_⟩
    rcases l with l | ⟨k, c, e, z⟩
    · exact .inl l
    · exact .inr ⟨k, c, e, cellK x c e _ z⟩
  · obtain ⟨v, z⟩ := I.cell x c e
    exact ⟨v, cellK x c e v z⟩
  · obtain ⟨m, ⟨o, _, _, ho, _⟩, _⟩ := I.loc
    exact free _ o (fun z => (hch _ z).2.1 rfl) ho I.free
  · obtain ⟨v, o, ho, hd⟩ := I.cell x c e
    exact free c o (fun z => (hch c z).2.2.1 x c e rfl) ho (I.freeC x c e)
  · obtain ⟨e, n, ne, nf, d⟩ := I.pin p hp
    have nch : p.1 ∉ ch := fun z => (hch p.1 z).2.2.2 p hp rfl
    exact ⟨keep p.1 p.2 ne nf nch e n, free p.1 p.2 nch e n, ne, nf, d⟩
/-- .. where the frame's own object is kept too -/
theorem Inv.un {t' : Nat} (I : Inv X pins σ H s) (u : Un X.fs [] H H' s.heap h') (hok : HOk X.prog X.w H' h') : Inv X pins σ H' { s with heap := h', toks := t' } := by
  obtain ⟨m, ⟨o, es, ep, ho, r⟩, _⟩ := id I.loc
  obtain ⟨sl, hL⟩ := u.any ho I.free (by simp)
  exact I.step (g' := s.gens) (d' := s.drawn) (ch := []) (fun _ z => nomatch z) (fun b o _ hb _ e n => u.keep b o e n hb (by simp)) (fun b o _ hb _ e n => u.slot b o e n hb (by simp)) (fun b o _ e n => u.free b o e n (by simp)) (fun b o _ e => u.there b o e (by simp)) u.tups u.frzs u.tbls (fun m' hm => by
    obtain ⟨o', es', ep', ho', r'⟩ := hm
    rw [ho] at ho'; cases ho'
    exact ⟨_, es', ep', hL, r'⟩) hok I.bare
/-- behind a call (or a comprehension's block): the slots of this frame may have changed too, the records at ch may have turned -/
theorem Inv.call {g' : Array GenState} {t' : Nat} {d' : Drawn} {ch : List Addr} (I : Inv X pins σ H s) (u : Un (frs X.stack) ch H H' s.heap h') (hok : HOk X.prog X.w H' h') (hg : AllBare g')
    (hch : ∀ b ∈ ch, (b ∈ X.ex ∨ X.s₀.heap.objs.size ≤ b) ∧ b ≠ X.env.locals ∧ (∀ x c, X.env.cells.lookup x = some c → c ≠ b) ∧ ∀ p ∈ X.pn ++ pins, p.1 ≠ b) :
    Inv X pins σ H' { s with heap := h', gens := g', drawn := d', toks := t' } := by
  obtain ⟨m, ⟨o, es, ep, ho, r⟩, _⟩ := id I.loc
  obtain ⟨sl, hL⟩ := u.any ho I.free fun z => (hch _ z).2.1 rfl
  exact I.step (ch := ch) hch (fun b o hL hb hc e n => u.keep b o e n (fun z => (List.mem_cons.mp (I.stkSub b z)).elim hL hb) hc) (fun b o _ _ hc e n => u.any e n hc) (fun b o hc e n => u.free b o e n hc) (fun b o hc e => u.there b o e hc) u.tups u.frzs u.tbls (fun m' hm => by
    obtain ⟨o', es', ep', ho', r'⟩ := hm
    rw [ho] at ho'; cases ho'
    exact ⟨_, es', ep', hL, r'⟩) hok hg
/-- an untracked record of ours (an iterator) has turned -/
theorem Inv.turned {t' : Nat} {it : Addr} (I : Inv X pins σ H s) (k : ∀ b o, b ≠ it → s.heap.get? b = some o → h'.get? b = some o) (hn : H it = none) (hL : it ≠ X.env.locals)
    (h1 : it ∈ X.ex ∨ X.s₀.heap.objs.size ≤ it) (h2 : ∀ x c, X.env.cells.lookup x = some c → c ≠ it) (h3 : ∀ p ∈ X.pn ++ pins, p.1 ≠ it) : Inv X pins σ H { s with heap := h', toks := t' } := by
  have nit : ∀ b u, H b = some u → b ≠ it := fun b u e z => by rw [z, hn] at e; cases e
  refine I.step (g' := s.gens) (d' := s.drawn) (ch := [it]) (fun b hb => ?_) (fun b o _ _ hc e _ => k b o (fun z => hc (by simp [z])) e) (fun b o _ _ hc e _ => ⟨o.slots, k b o (fun z => hc (by simp [z])) e⟩) (fun _ _ _ _ n => n)
    (fun b o hc e => ⟨o, k b o (fun z => hc (by simp [z])) e⟩) (fun _ _ e => e) (fun _ _ _ e => e) (fun b ps e => ⟨#[], by rw [e]; simp⟩) (fun m hm => ?_) (fun b u e => ?_) I.bare
  · have e : b = it := by simpa using hb
    subst e
    exact ⟨h1, hL, h2, h3⟩
  · obtain ⟨o, es, ep, ho, r⟩ := hm
    exact ⟨o, es, ep, k _ o (Ne.symm hL) ho, r⟩
  · refine (I.hok b u e).stay (fun c v hc q => k c v ?_ q) (fun _ q => q) fun _ _ q => q
    rcases hc with z | z
    · rw [z]; exact nit b u e
    · exact nit c _ z
theorem Inv.tok (I : Inv X pins σ H s) (t : Nat) : Inv X pins σ H { s with toks := t } := I.un (h' := s.heap) (t' := t) Un.refl I.hok
/-- all objects kept -/
theorem Inv.kept {t' : Nat} (I : Inv X pins σ H s) (k : ∀ b u, s.heap.get? b = some u → h'.get? b = some u) : Inv X pins σ H { s with heap := h', toks := t' } := I.un (Un.kept k) (I.hok.kept k)
/-- a new object laid and tracked -/
theorem Inv.laid {a : Addr} {o : HO} {t' : Nat} (I : Inv X pins σ H s) (k : ∀ b u, s.heap.get? b = some u → h'.get? b = some u) (hp : s.heap.objs.size ≤ a) (new : ObjOk X.prog X.w (upd H a o) h' a o) :
    Inv X pins σ (upd H a o) { s with heap := h', toks := t' } := I.un (Un.laid k hp (I.hok.fresh hp)) (I.hok.laid k hp new)
/-- an object written -/
theorem Inv.write {x e : Addr} {o : HO} {t' : Nat} (I : Inv X pins σ H s) (mu : Mut (H x)) (he : e = x ∨ H e = some (.own x)) (k : ∀ b u, b ≠ e → s.heap.get? b = some u → h'.get? b = some u) (heo : ∃ u, h'.get? e = some u)
    (new : ObjOk X.prog X.w (upd H x o) h' x o) : Inv X pins σ (upd H x o) { s with heap := h', toks := t' } := I.un (Un.write mu he k heo) (I.hok.write mu he k heo new)
/-- forgetting slots, pins -/
theorem Inv.weak {σ' : List (Option V)} (I : Inv X pins σ H s) (hl : σ'.length = σ.length) (w : ∀ (i : Nat) v, σ'[i]? = some (some v) → σ[i]? = some (some v)) : Inv X pins σ' H s :=
  ⟨I.ok, I.os, I.bare, I.base, let ⟨m, hn, hl'⟩ := I.loc; ⟨m, hn, fun i x v e1 e2 e3 => hl' i x v e1 (w i v e2) e3⟩, I.cell, I.free, I.freeC, I.pin, I.hok, hl.trans I.len⟩
theorem Inv.pins_of {pins' : List (Addr × Obj)} (I : Inv X pins σ H s) (h : ∀ p ∈ pins', s.heap.get? p.1 = some p.2 ∧ H p.1 = none ∧ p.1 ≠ X.env.locals ∧ p.1 ∉ X.fs ∧ ∀ v, p.2.data ≠ .cell v) : Inv X pins' σ H s :=
  ⟨I.ok, I.os, I.bare, I.base, I.loc, I.cell, I.free, I.freeC, fun p hp => (List.mem_append.mp hp).elim (fun z => I.pin p (List.mem_append_left _ z)) (h p), I.hok, I.len⟩

theorem nodup_ix {N : List Str} (hN : N.Nodup) {i j : Nat} {x : Str} (a : N[i]? = some x) (b : N[j]? = some x) : i = j := by
  obtain ⟨h1, e1⟩ := List.getElem?_eq_some_iff.mp a
  obtain ⟨h2, e2⟩ := List.getElem?_eq_some_iff.mp b
  exact (List.getElem_inj hN).mp (e1.trans e2.symm)

/-- a name is stored; what changed -/
theorem store_ok2 {M : Model} {A : Around} {E : Value → Shared → Prop} {i : Nat} {x : Str} {v : V} {u : Value} {Q : Unit → Shared → Prop} (I : Inv X pins σ H s) (hN : X.N.Nodup) (hi : X.N[i]? = some x) (hx : Loc X.env.scope x) (r : RelV v u)
    (h : ∀ s', Inv X pins (σ.set i (some v)) H s' → (∃ a, Heap.SameBut a s.heap s'.heap ∧ (a = X.env.locals ∨ X.env.cells.lookup x = some a)) → Q () s') (hf : X.fn x = true ∨ X.env.scope.names.lookup x = some .local := by first | exact .inl rfl | exact .inr rfl | assumption) : wpAny M A (storeName X.env x u) Q E s := by
  obtain ⟨m, hn, hl⟩ := id I.loc
  have hcls : (X.env.scope.kind == .class || (X.env.scope.kind == .module && X.env.locals != X.env.globals)) = false := by rw [I.ok.kind]; rfl
  have hiσ : i < σ.length := by rw [I.len]; exact (List.getElem?_eq_some_iff.mp hi).1
  have cne := I.cne
  have tracked : ∀ {a : Addr} {h' : Heap}, (∃ o, s.heap.get? a = some o ∧ H a = none) → Heap.SameBut a s.heap h' → HOk X.prog X.w H h' := fun {a h'} ha hs b ob e => by
    obtain ⟨_, _, hfree⟩ := ha
    refine (I.hok b ob e).stay (fun c w' hc q => (hs.2 c ?_).trans q) (fun _ q => q) fun _ _ q => q
    rintro rfl
    rcases hc with rfl | hc
    · rw [hfree] at e; cases e
    · rw [hfree] at hc; cases hc
  rcases hx with hk | hk
  · refine wpAny_storeName_local hk hn (fun h' hn' hs => ?_) hcls
    obtain ⟨oL, _, _, hoL, _⟩ := id hn
    refine h _ ⟨I.ok, I.os, I.bare, ⟨fun b o e n hb hx => ?_, fun b o e n hb hx => ?_, I.base.free, fun b o e hx => ?_, I.base.tups, I.base.frzs, I.base.tbls⟩, ⟨_, hn', fun j y v' e1 e2 e3 => ?_⟩, fun y c e => ?_, I.free, I.freeC, fun p hp => ?_, tracked ⟨oL, hoL, I.free⟩ hs, by simpa using I.len⟩ ⟨_, hs, .inl rfl⟩
    · exact (hs.2 b (Nat.ne_of_lt (Nat.lt_of_lt_of_le (Heap.lt_size e) I.ok.above))).trans (I.base.keep b o e n hb hx)
    · obtain ⟨sl, e1⟩ := I.base.slot b o e n hb hx
      exact ⟨sl, (hs.2 b (Nat.ne_of_lt (Nat.lt_of_lt_of_le (Heap.lt_size e) I.ok.above))).trans e1⟩
    · obtain ⟨o', e1⟩ := I.base.there b o e hx
      exact ⟨o', (hs.2 b (Nat.ne_of_lt (Nat.lt_of_lt_of_le (Heap.lt_size e) I.ok.above))).trans e1⟩
    · by_cases hj : j = i
      · subst hj
        rw [hi] at e1; cases e1
        rw [List.getElem?_set_self hiσ] at e2
        cases e2
        exact ⟨u, r, .inl ⟨hk, by simp⟩⟩
      · rw [List.getElem?_set_ne (Ne.symm hj)] at e2
        obtain ⟨u', r', q⟩ := hl j y v' e1 e2 e3
        refine ⟨u', r', ?_⟩
        rcases q with ⟨k, e⟩ | ⟨k, c, e, z⟩
        · refine .inl ⟨k, ?_⟩
          have : y ≠ x := fun e => hj (nodup_ix hN e1 (e ▸ hi))
          simp [this, e]
        · exact .inr ⟨k, c, e, z.sameBut hs (cne y c e)⟩
    · obtain ⟨w', z⟩ := I.cell y c e
      exact ⟨w', z.sameBut hs (cne y c e)⟩
    · obtain ⟨e, n, ne, nf, d⟩ := I.pin p hp
      exact ⟨(hs.2 p.1 ne).trans e, n, ne, nf, d⟩
  · have hfn : X.fn x = true := by
      rcases hf with z | z
      · exact z
      · rw [z] at hk; cases hk
    obtain ⟨c, hc⟩ := I.ok.has x (.inl hk)
    obtain ⟨w', z⟩ := I.cell x c hc
    refine wpAny_storeName_cell I.ok.kind hk hc z (fun h' hc' hs => ?_)
    obtain ⟨oc, hoc, hocd⟩ := id z
    refine h { s with heap := h' } ⟨I.ok, I.os, I.bare, ⟨fun b o e n hb hx => ?_, fun b o e n hb hx => ?_, I.base.free, fun b o e hx => ?_, I.base.tups, I.base.frzs, I.base.tbls⟩, ⟨m, hn.sameBut hs (Ne.symm (cne x c hc)), fun j y v' e1 e2 e3 => ?_⟩, fun y c' e => ?_, I.free, I.freeC, fun p hp => ?_, tracked ⟨oc, hoc, I.freeC x c hc⟩ hs, by simpa using I.len⟩ ⟨c, hs, .inr hc⟩
    · exact (hs.2 b (Nat.ne_of_lt (Nat.lt_of_lt_of_le (Heap.lt_size e) (I.ok.cab x c hfn hc)))).trans (I.base.keep b o e n hb hx)
    · obtain ⟨sl, e1⟩ := I.base.slot b o e n hb hx
      exact ⟨sl, (hs.2 b (Nat.ne_of_lt (Nat.lt_of_lt_of_le (Heap.lt_size e) (I.ok.cab x c hfn hc)))).trans e1⟩
    · obtain ⟨o', e1⟩ := I.base.there b o e hx
      exact ⟨o', (hs.2 b (Nat.ne_of_lt (Nat.lt_of_lt_of_le (Heap.lt_size e) (I.ok.cab x c hfn hc)))).trans e1⟩
    · by_cases hj : j = i
      · subst hj
        rw [hi] at e1; cases e1
        rw [List.getElem?_set_self hiσ] at e2
        cases e2
        exact ⟨u, r, .inr ⟨.inl hk, c, hc, hc'⟩⟩
      · rw [List.getElem?_set_ne (Ne.symm hj)] at e2
        obtain ⟨u', r', q⟩ := hl j y v' e1 e2 e3
        refine ⟨u', r', ?_⟩
        rcases q with q | ⟨k, c', e, z'⟩
        · exact .inl q
        · refine .inr ⟨k, c', e, z'.sameBut hs ?_⟩
          rintro rfl
          exact hj (nodup_ix hN e1 (I.ok.inj _ _ _ e hc ▸ hi))
    · by_cases hcc : c' = c
      · subst hcc; exact ⟨_, hc'⟩
      · obtain ⟨w2, z2⟩ := I.cell y c' e
        exact ⟨w2, z2.sameBut hs hcc⟩
    · obtain ⟨e, n, ne, nf, d⟩ := I.pin p hp
      refine ⟨(hs.2 p.1 ?_).trans e, n, ne, nf, d⟩
      intro q
      rw [q, hoc] at e
      have q' : oc = p.2 := Option.some.inj e
      exact d w' (by rw [← q']; exact hocd)
theorem store_ok {M : Model} {A : Around} {E : Value → Shared → Prop} {i : Nat} {x : Str} {v : V} {u : Value} {Q : Unit → Shared → Prop} (I : Inv X pins σ H s) (hN : X.N.Nodup) (hi : X.N[i]? = some x) (hx : Loc X.env.scope x) (r : RelV v u)
    (h : ∀ s', Inv X pins (σ.set i (some v)) H s' → Q () s') (hf : X.fn x = true ∨ X.env.scope.names.lookup x = some .local := by first | exact .inl rfl | exact .inr rfl | assumption) : wpAny M A (storeName X.env x u) Q E s :=
  store_ok2 I hN hi hx r (fun s' I' _ => h s' I') hf
/-- behind a call or a block, the state as it is -/
theorem Inv.call' {s' : Shared} {ch : List Addr} (I : Inv X pins σ H s) (ho : s'.os = s.os) (u : Un (frs X.stack) ch H H' s.heap s'.heap) (hok : HOk X.prog X.w H' s'.heap) (hg : AllBare s'.gens)
    (hch : ∀ b ∈ ch, (b ∈ X.ex ∨ X.s₀.heap.objs.size ≤ b) ∧ b ≠ X.env.locals ∧ (∀ x c, X.env.cells.lookup x = some c → c ≠ b) ∧ ∀ p ∈ X.pn ++ pins, p.1 ≠ b) : Inv X pins σ H' s' := by
  obtain ⟨h', g', d', t', o'⟩ := s'
  have e : o' = s.os := ho
  subst e
  exact I.call (g' := g') (t' := t') (d' := d') u hok hg hch
end

/-! ### the judgements -/
/-- an exception: its class, its own dict's address (where it has one), the abstract heap behind it -/
abbrev XK := Value → Option Addr → Hp → Prop
abbrev St := List (Option V)
abbrev VK := V → Hp → Prop
/-- an expression's reading; a test's; an argument list's -/
abbrev TE := St → Hp → VK → Prop
abbrev TT := St → Hp → (Bool → Hp → Prop) → Prop
abbrev TA := St → Hp → (List V → Hp → Prop) → Prop
/-- what is wanted behind a statement -/
structure Ends where
  nx : St → Hp → Prop
  rt : VK
  bk : St → Hp → Prop := fun _ _ => False
  ct : St → Hp → Prop := fun _ _ => False
abbrev TS := Ends → St → Hp → Prop

def EP (X : Cx) (pins : List (Addr × Obj)) (σ : St) (Q : VK) (u : Value) (s' : Shared) : Prop := ∃ v H', Inv X pins σ H' s' ∧ RelV v u ∧ Q v H'
def TP (X : Cx) (pins : List (Addr × Obj)) (σ : St) (Q : Bool → Hp → Prop) (b : Bool) (s' : Shared) : Prop := ∃ H', Inv X pins σ H' s' ∧ Q b H'
def AP (X : Cx) (pins : List (Addr × Obj)) (σ : St) (Q : List V → Hp → Prop) (us : List Value) (s' : Shared) : Prop := ∃ vs H', Inv X pins σ H' s' ∧ Vals vs us ∧ Q vs H'
def SP (X : Cx) (pins : List (Addr × Obj)) (D : Ends) (f : Flow) (s' : Shared) : Prop :=
  match f with
  | .next => ∃ σ' H', Inv X pins σ' H' s' ∧ D.nx σ' H'
  | .brk => ∃ σ' H', Inv X pins σ' H' s' ∧ D.bk σ' H'
  | .cont => ∃ σ' H', Inv X pins σ' H' s' ∧ D.ct σ' H'
  | .ret u => ∃ v σ' H', Inv X pins σ' H' s' ∧ RelV v u ∧ D.rt v H'

def PE (X : Cx) (e : Expr) (t : TE) : Prop :=
  ∀ (pins : List (Addr × Obj)) (s : Shared) (σ : St) (H : Hp) (Q : VK), Inv X pins σ H s → t σ H Q → wpAny (model X.prog X.w) X.A (eval e X.env) (EP X pins σ Q) X.xe s
def PT (X : Cx) (e : Expr) (t : TT) : Prop :=
  ∀ (pins : List (Addr × Obj)) (s : Shared) (σ : St) (H : Hp) (Q : Bool → Hp → Prop), Inv X pins σ H s → t σ H Q → wpAny (model X.prog X.w) X.A (isTrue e X.env (eval e X.env)) (TP X pins σ Q) X.xe s
/-- a test whatever its 'whole' is (and, or) -/
def PW (X : Cx) (e : Expr) (t : TT) : Prop :=
  ∀ (whole : Sem Value) (pins : List (Addr × Obj)) (s : Shared) (σ : St) (H : Hp) (Q : Bool → Hp → Prop), Inv X pins σ H s → t σ H Q → wpAny (model X.prog X.w) X.A (isTrue e X.env whole) (TP X pins σ Q) X.xe s
theorem PW.pt {X : Cx} {e : Expr} {t : TT} (h : PW X e t) : PT X e t := h _
/-- an argument list (no star), from the left -/
def PA (X : Cx) (es : List Expr) (t : TA) : Prop :=
  ∀ (pos : Pos) (pins : List (Addr × Obj)) (s : Shared) (σ : St) (H : Hp) (Q : List V → Hp → Prop), Inv X pins σ H s → t σ H Q → wpAny (model X.prog X.w) X.A (spliced (backTo pos (starEach es X.env))) (AP X pins σ Q) X.xe s
def PS (X : Cx) (st : Stmt) (t : TS) : Prop :=
  ∀ (pins : List (Addr × Obj)) (s : Shared) (σ : St) (H : Hp) (D : Ends), Inv X pins σ H s → t D σ H → wpAny (model X.prog X.w) X.A (exec st X.env) (SP X pins D) X.xe s
def PSs (X : Cx) (st : List Stmt) (t : TS) : Prop :=
  ∀ (pins : List (Addr × Obj)) (s : Shared) (σ : St) (H : Hp) (D : Ends), Inv X pins σ H s → t D σ H → wpAny (model X.prog X.w) X.A (execs st X.env) (SP X pins D) X.xe s
/-- weaken the end -/
theorem thn {α : Type} {t : Sem α} {Q Q' : α → Shared → Prop} {M : Model} {A : Around} {E : Value → Shared → Prop} {s : Shared} (h : wpAny M A t Q E s) (hQ : ∀ a s, Q a s → Q' a s) : wpAny M A t Q' E s := wpAny_mono h hQ fun _ _ x => x
end L2

namespace L2
open PySem PySem.Spec PyProof.Rows
section
variable {X : Cx}

/-- two expressions in a row -/
theorem bin {a b : Expr} {ta tb : TE} (ha : PE X a ta) (hb : PE X b tb) {pins : List (Addr × Obj)} {s : Shared} {σ : St} {H : Hp} {R : V → V → Hp → Prop} (I : Inv X pins σ H s) (h : ta σ H fun x H1 => tb σ H1 fun y H2 => R x y H2)
    {α : Type} {Q : α → Shared → Prop} {f : Value → Value → Sem α}
    (hf : ∀ v u s2 x y H2, Inv X pins σ H2 s2 → RelV x v → RelV y u → R x y H2 → wpAny (model X.prog X.w) X.A (f v u) Q X.xe s2) :
    wpAny (model X.prog X.w) X.A (eval a X.env) (fun v s₁ => wpAny (model X.prog X.w) X.A (eval b X.env) (fun u s₂ => wpAny (model X.prog X.w) X.A (f v u) Q X.xe s₂) X.xe s₁) X.xe s := by
  refine thn (ha pins s σ H _ I h) fun v s1 ⟨x, H1, I1, r1, q1⟩ => ?_
  refine thn (hb pins s1 σ H1 _ I1 q1) fun u s2 ⟨y, H2, I2, r2, q2⟩ => ?_
  exact hf v u s2 x y H2 I2 r1 r2 q2

/-! ### names and constants -/
def tVar (i : Nat) : TE := fun σ H Q => ∃ v, σ[i]? = some (some v) ∧ Q v H
def tC (v : V) : TE := fun _ H Q => Q v H
theorem pe_var {i : Nat} {x : Str} {pos : Pos} (hN : X.N[i]? = some x) (hv : Vis X.env.scope x) (hd : (x == ("__debug__" : Str)) = false := by decide) (hcd : (x == ("__classdict__" : Str)) = false := by decide) : PE X (.Name x pos) (tVar i) := by
  intro pins s σ H Q I h
  obtain ⟨v, e, h⟩ := h
  obtain ⟨m, hn, hl⟩ := I.loc
  obtain ⟨u, r, l⟩ := hl i x v hN e hv
  have fin : EP X pins σ Q u s := ⟨v, H, I, r, h⟩
  rcases l with ⟨hk, hm⟩ | ⟨hk, c, hc, hcell⟩
  · exact wpAny_Name (wpAny_loadName_local I.ok.kind hk hn hm fin) hd
  · rcases hk with hk | hk
    · exact wpAny_Name (wpAny_loadName_cell I.ok.kind hk hc hcell fin) hd
    · exact wpAny_Name (wpAny_loadName_free I.ok.kind hk hc hcell fin hcd) hd
theorem pe_int {i j pos} : PE X (.Constant (.int i) j pos) (tC (.int i)) := fun _ _ _ H _ I h => wpAny_Constant_int ⟨.int i, H, I.tok _, ⟨_, rfl⟩, h⟩
theorem pe_bl {b j pos} : PE X (.Constant (.bool b) j pos) (tC (.bl b)) := fun _ _ _ H _ I h => Constant_bool ⟨.bl b, H, I, rfl, h⟩
theorem pe_non {j pos} : PE X (.Constant .none j pos) (tC .non) := fun _ _ _ H _ I h => Constant_none ⟨.non, H, I, rfl, h⟩
theorem pe_str {x j pos} : PE X (.Constant (.str x) j pos) (tC (.str x)) := fun _ _ _ H _ I h => Calls.Constant_str ⟨.str x, H, I.tok _, ⟨_, rfl⟩, h⟩

/-- a global name of the def -/
def Gl (X : Cx) (x : Str) : Prop := X.env.kindOf x = some .globalImplicit
theorem ld_glob {E : Value → Shared → Prop} {pins : List (Addr × Obj)} {s : Shared} {σ : St} {H : Hp} {x : Str} {u : Value} {pos : Pos} {Q : Value → Shared → Prop} (I : Inv X pins σ H s) (hg : Gl X x) (hm : X.mg x = some u) (h : Q u s)
    (hd : (x == ("__debug__" : Str)) = false := by decide) : wpAny (model X.prog X.w) X.A (eval (.Name x pos) X.env) Q E s :=
  Calls.Name_function_global I.ok.kind hg (Calls.loadGlobal_global (by rw [I.ok.glob]; exact I.mod.glob.keeps I.bk) hm h) hd
theorem ld_blt {E : Value → Shared → Prop} {pins : List (Addr × Obj)} {s : Shared} {σ : St} {H : Hp} {x : Str} {u : Value} {pos : Pos} {Q : Value → Shared → Prop} (I : Inv X pins σ H s) (hg : Gl X x) (hm : X.mg x = none) (hv : bootBuiltins x = some u) (h : Q u s)
    (hn : x ≠ "__name__" := by decide) (hd : (x == ("__debug__" : Str)) = false := by decide) : wpAny (model X.prog X.w) X.A (eval (.Name x pos) X.env) Q E s := by
  obtain ⟨mb, h1, h2⟩ := I.mod.blt
  exact Calls.Name_function_global I.ok.kind hg (Calls.loadGlobal_builtin (by rw [I.ok.glob]; exact I.mod.glob.keeps I.bk) hm (by rw [I.ok.blt]; exact h1.keeps I.bk) ((h2 x hn).trans hv) h) hd
/-- a module's constant, a class, a function, as a value -/
theorem pe_glob {x : Str} {v : V} {u : Value} {pos : Pos} (hg : Gl X x) (hm : X.mg x = some u) (r : RelV v u) (hd : (x == ("__debug__" : Str)) = false := by decide) : PE X (.Name x pos) (tC v) :=
  fun _ _ _ H _ I h => ld_glob I hg hm ⟨v, H, I, r, h⟩ hd
theorem pe_bltn {x : Str} {v : V} {u : Value} {pos : Pos} (hg : Gl X x) (hm : X.mg x = none) (hv : bootBuiltins x = some u) (r : RelV v u) (hn : x ≠ "__name__" := by decide) (hd : (x == ("__debug__" : Str)) = false := by decide) : PE X (.Name x pos) (tC v) :=
  fun _ _ _ H _ I h => ld_blt I hg hm hv ⟨v, H, I, r, h⟩ hn hd

/-! ### arithmetic -/
/-- two ints -/
def t2I (ta tb : TE) (k : Int → Int → Hp → Prop) : St → Hp → Prop := fun σ H => ta σ H fun x H1 => tb σ H1 fun y H2 => ∃ i j, x = .int i ∧ y = .int j ∧ k i j H2
def tAdd (ta tb : TE) : TE := fun σ H Q => t2I ta tb (fun i j H2 => Q (.int (i + j)) H2) σ H
def tSub (ta tb : TE) : TE := fun σ H Q => t2I ta tb (fun i j H2 => Q (.int (i - j)) H2) σ H
/-- the left factor below 2^64 -/
def tMul (ta tb : TE) : TE := fun σ H Q => t2I ta tb (fun i j H2 => (-(2 ^ 64) < i ∧ i < 2 ^ 64) ∧ Q (.int (i * j)) H2) σ H
variable {a b : Expr} {ta tb : TE} {pos : Pos}
theorem pe_add (ha : PE X a ta) (hb : PE X b tb) : PE X (.BinOp a .Add b pos) (tAdd ta tb) := by
  intro pins s σ H Q I h
  refine wpAny_BinOp (bin ha hb I h fun v u s2 x y H2 I2 rx ry q => ?_)
  obtain ⟨i, j, rfl, rfl, q⟩ := q
  obtain ⟨t, rfl⟩ := rx
  obtain ⟨t', rfl⟩ := ry
  exact add_int ⟨.int _, H2, I2.tok _, ⟨_, rfl⟩, q⟩
theorem pe_sub (ha : PE X a ta) (hb : PE X b tb) : PE X (.BinOp a .Sub b pos) (tSub ta tb) := by
  intro pins s σ H Q I h
  refine wpAny_BinOp (bin ha hb I h fun v u s2 x y H2 I2 rx ry q => ?_)
  obtain ⟨i, j, rfl, rfl, q⟩ := q
  obtain ⟨t, rfl⟩ := rx
  obtain ⟨t', rfl⟩ := ry
  exact sub_int ⟨.int _, H2, I2.tok _, ⟨_, rfl⟩, q⟩
theorem pe_mul (ha : PE X a ta) (hb : PE X b tb) : PE X (.BinOp a .Mult b pos) (tMul ta tb) := by
  intro pins s σ H Q I h
  refine wpAny_BinOp (bin ha hb I h fun v u s2 x y H2 I2 rx ry q => ?_)
  obtain ⟨i, j, rfl, rfl, ⟨q1, q2⟩, q⟩ := q
  obtain ⟨t, rfl⟩ := rx
  obtain ⟨t', rfl⟩ := ry
  exact mul_int ⟨.int _, H2, I2.tok _, ⟨_, rfl⟩, q⟩ (.of_left (intBits_le_64 q1 q2))

/-! ### comparisons -/
def PC (X : Cx) (op : CmpOp) (a b : Expr) (t : TE) : Prop :=
  ∀ (pins : List (Addr × Obj)) (s : Shared) (σ : St) (H : Hp) (Q : VK), Inv X pins σ H s → t σ H Q →
    wpAny (model X.prog X.w) X.A (eval a X.env) (fun v s₁ => wpAny (model X.prog X.w) X.A (eval b X.env) (fun u s₂ => wpAny (model X.prog X.w) X.A (compareOp op v u) (EP X pins σ Q) X.xe s₂) X.xe s₁) X.xe s
theorem nobehind (b : Expr) {op : CmpOp} (h : op ≠ .In) (h2 : op ≠ .NotIn) : behindInMarks op b = false := by
  have e1 : (op == CmpOp.In) = false := by cases op <;> first | rfl | exact absurd rfl h
  have e2 : (op == CmpOp.NotIn) = false := by cases op <;> first | rfl | exact absurd rfl h2
  cases b <;> simp [behindInMarks, e1, e2]
def tCmp (p : Int → Int → Bool) (ta tb : TE) : TE := fun σ H Q => t2I ta tb (fun i j H2 => Q (.bl (p i j)) H2) σ H
abbrev tLt : TE → TE → TE := tCmp fun i j => decide (i < j)
abbrev tLe : TE → TE → TE := tCmp fun i j => decide (i ≤ j)
abbrev tGt : TE → TE → TE := tCmp fun i j => decide (j < i)
abbrev tGe : TE → TE → TE := tCmp fun i j => decide (j ≤ i)
abbrev tEqI : TE → TE → TE := tCmp fun i j => decide (i = j)
abbrev tNeI : TE → TE → TE := tCmp fun i j => !decide (i = j)
/-- a comparison of two ints, by its rule -/
theorem pc_int {op : CmpOp} {p : Int → Int → Bool} (ha : PE X a ta) (hb : PE X b tb)
    (rule : ∀ (i j : Int) (t u : Tok) (Q : Value → Shared → Prop) (s : Shared), Q (.bool (p i j)) s → wpAny (model X.prog X.w) X.A (compareOp op (.int i t) (.int j u)) Q X.xe s) : PC X op a b (tCmp p ta tb) := by
  intro pins s σ H Q I h
  refine bin ha hb I h fun v u s2 x y H2 I2 rx ry q => ?_
  obtain ⟨i, j, rfl, rfl, q⟩ := q
  obtain ⟨t, rfl⟩ := rx
  obtain ⟨t', rfl⟩ := ry
  exact rule i j t t' _ s2 ⟨.bl _, H2, I2, rfl, q⟩
theorem pc_lt (ha : PE X a ta) (hb : PE X b tb) : PC X .Lt a b (tLt ta tb) := pc_int ha hb fun _ _ _ _ _ _ h => lt_int h
theorem pc_le (ha : PE X a ta) (hb : PE X b tb) : PC X .LtE a b (tLe ta tb) := pc_int ha hb fun _ _ _ _ _ _ h => le_int h
theorem pc_gt (ha : PE X a ta) (hb : PE X b tb) : PC X .Gt a b (tGt ta tb) := pc_int ha hb fun _ _ _ _ _ _ h => gt_int h
theorem pc_ge (ha : PE X a ta) (hb : PE X b tb) : PC X .GtE a b (tGe ta tb) := pc_int ha hb fun _ _ _ _ _ _ h => ge_int h
theorem pc_eqI (ha : PE X a ta) (hb : PE X b tb) : PC X .Eq a b (tEqI ta tb) := pc_int ha hb fun _ _ _ _ _ _ h => eq_int (by rw [Bool.beq_eq_decide_eq]; exact h)
theorem pc_neI (ha : PE X a ta) (hb : PE X b tb) : PC X .NotEq a b (tNeI ta tb) := pc_int ha hb fun _ _ _ _ _ _ h => ne_int (by rw [bne, Bool.beq_eq_decide_eq]; exact h)
/-- is None -/
def tIsN (ta : TE) : TE := fun σ H Q => ta σ H fun x H1 => Q (.bl (decide (x = .non))) H1
def tNotN (ta : TE) : TE := fun σ H Q => ta σ H fun x H1 => Q (.bl (!decide (x = .non))) H1
theorem RelV.none_iff {x : V} {v : Value} (r : RelV x v) : (v == Value.none) = decide (x = .non) := by
  cases x with
  | non => cases r; rfl
  | bl _ => cases r; rfl
  | int _ => obtain ⟨t, rfl⟩ := r; rfl
  | str _ => obtain ⟨t, rfl⟩ := r; rfl
  | byt _ => obtain ⟨t, rfl⟩ := r; rfl
  | flt _ => obtain ⟨t, rfl⟩ := r; rfl
  | ref _ => cases r; rfl
  | ty _ => cases r; rfl
theorem pc_isN {j pos'} (ha : PE X a ta) : PC X .Is a (.Constant .none j pos') (tIsN ta) := by
  intro pins s σ H Q I h
  refine thn (ha pins s σ H _ I h) fun v s1 ⟨x, H1, I1, r1, q1⟩ => ?_
  exact Constant_none (is_none_gen ⟨.bl _, H1, I1, by rw [r1.none_iff]; rfl, q1⟩)
theorem pc_notN {j pos'} (ha : PE X a ta) : PC X .IsNot a (.Constant .none j pos') (tNotN ta) := by
  intro pins s σ H Q I h
  refine thn (ha pins s σ H _ I h) fun v s1 ⟨x, H1, I1, r1, q1⟩ => ?_
  exact Constant_none (isnot_none_gen ⟨.bl _, H1, I1, by rw [r1.none_iff]; rfl, q1⟩)
/-- a comparison as a value, as a test -/
def tB (t : TE) : TT := fun σ H Q => t σ H fun x H1 => ∃ c, x = .bl c ∧ Q c H1
theorem pe_cmp {op : CmpOp} {t : TE} (h : PC X op a b t) (h1 : behindInMarks op b = false := by first | exact nobehind _ (by decide) (by decide) | rfl) : PE X (.Compare a [op] [b] pos) t := fun pins s σ H Q I hw => wpAny_Compare1 (h pins s σ H Q I hw) h1
theorem pt_cmp {op : CmpOp} {t : TE} (h : PC X op a b t) (h1 : behindInMarks op b = false := by first | exact nobehind _ (by decide) (by decide) | rfl) : PT X (.Compare a [op] [b] pos) (tB t) := by
  intro pins s σ H Q I hw
  refine wpAny_isTrue_Compare1 (thn (h pins s σ H _ I hw) fun v s1 h1 => thn h1 fun u s2 h2 => thn h2 fun c s3 ⟨x, H1, I1, r1, q1⟩ => ?_) h1
  obtain ⟨d, rfl, q⟩ := q1
  cases r1
  exact wpAny_truthy_bool ⟨H1, I1, q⟩
/-- an expression whose value is a bool, as a test -/
theorem pt_val {e : Expr} {t : TE} (h : PE X e t) (he : ∀ whole, isTrue e X.env whole = (do let v ← whole; standAt e.pos; holding [v] (truthy v)) := by intro _; rfl) : PT X e (tB t) := by
  intro pins s σ H Q I hw
  refine isTrue_plain (thn (h pins s σ H _ I hw) fun v s1 ⟨x, H1, I1, r1, q1⟩ => ?_) (he _)
  obtain ⟨d, rfl, q⟩ := q1
  cases r1
  exact wpAny_truthy_bool ⟨H1, I1, q⟩

/-! ### and, or, not -/
variable {tA tB' : TT} {rest : List Expr}
def tAnd (t u : TT) : TT := fun σ H Q => t σ H fun c H1 => if c = true then u σ H1 Q else Q false H1
def tOr (t u : TT) : TT := fun σ H Q => t σ H fun c H1 => if c = true then Q true H1 else u σ H1 Q
def tNot (t : TT) : TT := fun σ H Q => t σ H fun c H1 => Q (!c) H1
theorem pw_and1 (ha : PT X a tA) : PW X (.BoolOp .And [a] pos) tA := by
  intro wh pins s σ H Q I h
  refine isTrue_and (thn (ha pins s σ H Q I h) fun c s1 e => ?_)
  cases c with
  | true => exact isTrue_and_nil e
  | false => exact e
theorem pw_or1 (ha : PT X a tA) : PW X (.BoolOp .Or [a] pos) tA := by
  intro wh pins s σ H Q I h
  refine isTrue_or (thn (ha pins s σ H Q I h) fun c s1 e => ?_)
  cases c with
  | false => exact isTrue_or_nil e
  | true => exact e
theorem pw_and (ha : PT X a tA) (hb : PW X (.BoolOp .And (b :: rest) pos) tB') : PW X (.BoolOp .And (a :: b :: rest) pos) (tAnd tA tB') := by
  intro wh pins s σ H Q I h
  refine isTrue_and (thn (ha pins s σ H _ I h) fun c s1 ⟨H1, I1, q1⟩ => ?_)
  cases c with
  | true => exact hb wh pins s1 σ H1 Q I1 q1
  | false => exact ⟨H1, I1, q1⟩
theorem pw_or (ha : PT X a tA) (hb : PW X (.BoolOp .Or (b :: rest) pos) tB') : PW X (.BoolOp .Or (a :: b :: rest) pos) (tOr tA tB') := by
  intro wh pins s σ H Q I h
  refine isTrue_or (thn (ha pins s σ H _ I h) fun c s1 ⟨H1, I1, q1⟩ => ?_)
  cases c with
  | true => exact ⟨H1, I1, q1⟩
  | false => exact hb wh pins s1 σ H1 Q I1 q1
theorem pt_not (ha : PT X a tA) : PT X (.UnaryOp .Not a pos) (tNot tA) := by
  intro pins s σ H Q I h
  exact isTrue_not (ha pins s σ H (fun c H1 => Q (!c) H1) I h)
/-- .. as values (bools) -/
def tAndV (ta tb : TE) : TE := fun σ H Q => ta σ H fun x H1 => ∃ c, x = .bl c ∧ if c = true then tb σ H1 Q else Q (.bl false) H1
def tOrV (ta tb : TE) : TE := fun σ H Q => ta σ H fun x H1 => ∃ c, x = .bl c ∧ if c = true then Q (.bl true) H1 else tb σ H1 Q
def tNotV (ta : TE) : TE := fun σ H Q => ta σ H fun x H1 => ∃ c, x = .bl c ∧ Q (.bl (!c)) H1
theorem pe_one {op} {t : TE} (h : PE X a t) : PE X (.BoolOp op [a] pos) t := fun pins s σ H Q I hw => BoolOp_one (h pins s σ H Q I hw)
theorem pe_and (ha : PE X a ta) (hb : PE X (.BoolOp .And (b :: rest) pos) tb) : PE X (.BoolOp .And (a :: b :: rest) pos) (tAndV ta tb) := by
  intro pins s σ H Q I h
  refine BoolOp_and (thn (ha pins s σ H _ I h) fun v s1 ⟨x, H1, I1, r1, q1⟩ => ?_)
  obtain ⟨c, rfl, q1⟩ := q1
  cases r1
  refine wpAny_truthy_bool ?_
  cases c with
  | true => exact hb pins s1 σ H1 Q I1 q1
  | false => exact ⟨.bl false, H1, I1, rfl, q1⟩
theorem pe_or (ha : PE X a ta) (hb : PE X (.BoolOp .Or (b :: rest) pos) tb) : PE X (.BoolOp .Or (a :: b :: rest) pos) (tOrV ta tb) := by
  intro pins s σ H Q I h
  refine BoolOp_or (thn (ha pins s σ H _ I h) fun v s1 ⟨x, H1, I1, r1, q1⟩ => ?_)
  obtain ⟨c, rfl, q1⟩ := q1
  cases r1
  refine wpAny_truthy_bool ?_
  cases c with
  | false => exact hb pins s1 σ H1 Q I1 q1
  | true => exact ⟨.bl true, H1, I1, rfl, q1⟩
theorem pe_not (ha : PE X a ta) : PE X (.UnaryOp .Not a pos) (tNotV ta) := by
  intro pins s σ H Q I h
  refine UnaryOp_ (thn (ha pins s σ H _ I h) fun v s1 ⟨x, H1, I1, r1, q1⟩ => ?_)
  obtain ⟨c, rfl, q1⟩ := q1
  cases r1
  exact not_of (wpAny_truthy_bool ⟨.bl (!c), H1, I1, rfl, q1⟩)
/-- a if t else b -/
def tIf (t : TT) (ta tb : TE) : TE := fun σ H Q => t σ H fun c H1 => if c = true then ta σ H1 Q else tb σ H1 Q
theorem pe_ifExp {c : Expr} (hc : PT X c tA) (ha : PE X a ta) (hb : PE X b tb) : PE X (.IfExp c a b pos) (tIf tA ta tb) := by
  intro pins s σ H Q I h
  refine wpAny_IfExp (thn (hc pins s σ H _ I h) fun d s1 ⟨H1, I1, q1⟩ => ?_)
  cases d with
  | true => exact ha pins s1 σ H1 Q I1 q1
  | false => exact hb pins s1 σ H1 Q I1 q1
end
end L2

namespace L2
open PySem PySem.Spec PyProof.Rows

/-! ### a list, a tuple that is read: tracked, frozen, or an object of the module -/
def SqL (K : PySem.W.Frag) (H : Hp) (a : Addr) (xs : List V) : Prop :=
  Rd H a (.lst xs) ∨
    ∃ (o : Obj) (its : Array Value) (n : Nat), K.lookup a = some o ∧ o.cls = .type "list" ∧ o.dict = none ∧ o.data = .seq its n ∧ its.size ≤ sizeLine ∧ Vals xs its.toList
def SqT (K : PySem.W.Frag) (H : Hp) (a : Addr) (xs : List V) : Prop :=
  Rd H a (.tup xs) ∨
    ∃ (o : Obj) (its : Array Value) (n : Nat), K.lookup a = some o ∧ o.cls = .type "tuple" ∧ o.data = .seq its n ∧ its.size ≤ sizeLine ∧ Vals xs its.toList
def absV : Value → Option V
  | .none => some .non
  | .bool b => some (.bl b)
  | .int i _ => some (.int i)
  | .str x _ => some (.str x)
  | .bytes b _ => some (.byt b)
  | .float b _ => some (.flt b)
  | .ref a => some (.ref a)
  | .type n => some (.ty n)
  | _ => none
theorem RelV.abs {x : V} {u : Value} (r : RelV x u) : absV u = some x := by
  cases x with
  | non => cases r; rfl
  | bl _ => cases r; rfl
  | int _ => obtain ⟨t, rfl⟩ := r; rfl
  | str _ => obtain ⟨t, rfl⟩ := r; rfl
  | byt _ => obtain ⟨t, rfl⟩ := r; rfl
  | flt _ => obtain ⟨t, rfl⟩ := r; rfl
  | ref _ => cases r; rfl
  | ty _ => cases r; rfl
theorem RelV.inj {x y : V} {u : Value} (r : RelV x u) (q : RelV y u) : x = y := Option.some.inj (r.abs.symm.trans q.abs)
theorem Vals.inj : ∀ {xs ys : List V} {us : List Value}, Vals xs us → Vals ys us → xs = ys
  | _, _, _, .nil, .nil => rfl
  | _, _, _, .cons r t, .cons r' t' => by rw [r.inj r', Vals.inj t t']
section
variable {X : Cx} {pins : List (Addr × Obj)} {σ : St} {H : Hp} {s : Shared} {a : Addr} {xs ys : List V}
theorem SqL.of {K : PySem.W.Frag} (h : H a = some (.lst xs)) : SqL K H a xs := .inl (.inl h)
theorem SqT.of {K : PySem.W.Frag} (h : H a = some (.tup xs)) : SqT K H a xs := .inl (.inl h)
theorem Inv.list (I : Inv X pins σ H s) (h : SqL X.K H a xs) : ∃ its : List Value, Vals xs its ∧ PlainL s.heap a its.toArray ∧ xs.length ≤ sizeLine := by
  rcases h with h | ⟨o, its, n, hk, hc, hd, hs, hz, r⟩
  · obtain ⟨z, its, n, r, e⟩ := h.ok I.hok
    exact ⟨its, r, ⟨_, n, e, rfl, rfl, rfl⟩, z⟩
  · refine ⟨its.toList, r, ⟨o, n, I.kIn a o hk, hc, hd, by simpa using hs⟩, ?_⟩
    have e := r.length
    simp only [Array.length_toList] at e
    omega
theorem Inv.tuple (I : Inv X pins σ H s) (h : SqT X.K H a xs) : ∃ its : List Value, Vals xs its ∧ IsTup s.heap a its.toArray ∧ xs.length ≤ sizeLine := by
  rcases h with h | ⟨o, its, n, hk, hc, hs, hz, r⟩
  · obtain ⟨z, its, r, p⟩ := h.ok I.hok
    exact ⟨its, r, p, z⟩
  · refine ⟨its.toList, r, ⟨o, I.kIn a o hk, hc, n, by simpa using hs⟩, ?_⟩
    have e := r.length
    simp only [Array.length_toList] at e
    omega
theorem Inv.list_inj (I : Inv X pins σ H s) (h : SqL X.K H a xs) (h' : SqL X.K H a ys) : xs = ys := by
  obtain ⟨its, r, ⟨o, n, e, _, _, d⟩, _⟩ := I.list h
  obtain ⟨its', r', ⟨o', n', e', _, _, d'⟩, _⟩ := I.list h'
  rw [e] at e'; cases e'
  rw [d] at d'
  injection d' with d1 _
  have : its = its' := by simpa using congrArg Array.toList d1
  subst this
  exact r.inj r'
theorem Inv.tuple_inj (I : Inv X pins σ H s) (h : SqT X.K H a xs) (h' : SqT X.K H a ys) : xs = ys := by
  obtain ⟨its, r, ⟨o, e, _, n, d⟩, _⟩ := I.tuple h
  obtain ⟨its', r', ⟨o', e', _, n', d'⟩, _⟩ := I.tuple h'
  rw [e] at e'; cases e'
  rw [d] at d'
  injection d' with d1 _
  have : its = its' := by simpa using congrArg Array.toList d1
  subst this
  exact r.inj r'
end

/-! ### another wish about exceptions -/
abbrev Cx.wish (X : Cx) (E : Value → Shared → Prop) : Cx := { X with xe := E }
/-- no exception leaves -/
abbrev Cx.nox (X : Cx) : Cx := X.wish fun _ _ => False
theorem Cx.Ok.wish {X : Cx} (ok : X.Ok) (E : Value → Shared → Prop) : (X.wish E).Ok :=
  ⟨ok.mod, ok.kind, ok.glob, ok.blt, ok.above, ok.inj, ok.has, ok.cab, ok.hd, ok.frames, ok.stk, ok.exf, ok.bs, ok.bsz, ok.noex, ok.exfs, ok.funs, ok.frf⟩
theorem Cx.Ok.unwish {X : Cx} {E : Value → Shared → Prop} (ok : (X.wish E).Ok) : X.Ok :=
  ⟨ok.mod, ok.kind, ok.glob, ok.blt, ok.above, ok.inj, ok.has, ok.cab, ok.hd, ok.frames, ok.stk, ok.exf, ok.bs, ok.bsz, ok.noex, ok.exfs, ok.funs, ok.frf⟩
section
variable {X : Cx} {pins : List (Addr × Obj)} {σ : St} {H : Hp} {s : Shared} {E : Value → Shared → Prop}
theorem Inv.wish (I : Inv X pins σ H s) (E : Value → Shared → Prop) : Inv (X.wish E) pins σ H s := ⟨I.ok.wish E, I.os, I.bare, I.base, I.loc, I.cell, I.free, I.freeC, I.pin, I.hok, I.len⟩
theorem Inv.unwish (I : Inv (X.wish E) pins σ H s) : Inv X pins σ H s := ⟨I.ok.unwish, I.os, I.bare, I.base, I.loc, I.cell, I.free, I.freeC, I.pin, I.hok, I.len⟩
theorem SP.unwish {D : Ends} {f : Flow} {s' : Shared} (h : SP (X.wish E) pins D f s') : SP X pins D f s' := by
  cases f with
  | next => obtain ⟨σ', H', I, q⟩ := h; exact ⟨σ', H', I.unwish, q⟩
  | brk => obtain ⟨σ', H', I, q⟩ := h; exact ⟨σ', H', I.unwish, q⟩
  | cont => obtain ⟨σ', H', I, q⟩ := h; exact ⟨σ', H', I.unwish, q⟩
  | ret u => obtain ⟨v, σ', H', I, r, q⟩ := h; exact ⟨v, σ', H', I.unwish, r, q⟩
theorem PE.nox {e : Expr} {t : TE} (h : PE X.nox e t) : PE X e t := fun pins s σ H Q I hw =>
  wpAny_mono (h pins s σ H Q (I.wish _) hw) (fun _ _ ⟨v, H', I', r, q⟩ => ⟨v, H', I'.unwish, r, q⟩) fun _ _ z => False.elim z
theorem PT.nox {e : Expr} {t : TT} (h : PT X.nox e t) : PT X e t := fun pins s σ H Q I hw =>
  wpAny_mono (h pins s σ H Q (I.wish _) hw) (fun _ _ ⟨H', I', q⟩ => ⟨H', I'.unwish, q⟩) fun _ _ z => False.elim z
theorem PSs.nox {st : List Stmt} {t : TS} (h : PSs X.nox st t) : PSs X st t := fun pins s σ H D I hw =>
  wpAny_mono (h pins s σ H D (I.wish _) hw) (fun _ _ q => q.unwish) fun _ _ z => False.elim z
end

/-! ### blocks and small statements -/
section
variable {X : Cx} {st : Stmt} {rest : List Stmt} {t u : TS} {e : Expr} {te : TE} {pos : Pos}
def tNext : TS := fun D σ H => D.nx σ H
def tSeq (t u : TS) : TS := fun D σ H => t { D with nx := u D } σ H
theorem pss_nil : PSs X [] tNext := fun _ _ σ H _ I h => wpAny_execs_nil ⟨σ, H, I, h⟩
theorem pss_cons (h1 : PS X st t) (h2 : PSs X rest u) : PSs X (st :: rest) (tSeq t u) := by
  intro pins s σ H D I h
  refine wpAny_execs_cons (thn (h1 pins s σ H { D with nx := u D } I h) fun f s1 q => ?_)
  cases f with
  | next =>
    obtain ⟨σ', H', I', q⟩ := q
    exact h2 pins s1 σ' H' D I' q
  | ret v => exact q
  | brk => exact q
  | cont => exact q
theorem pss_one (h1 : PS X st t) : PSs X [st] t := by
  intro pins s σ H D I h
  refine wpAny_execs_cons (thn (h1 pins s σ H D I h) fun f s1 q => ?_)
  cases f with
  | next => exact wpAny_execs_nil q
  | ret v => exact q
  | brk => exact q
  | cont => exact q
def tBreak : TS := fun D σ H => D.bk σ H
def tCont : TS := fun D σ H => D.ct σ H
theorem ps_pass : PS X (.Pass pos) tNext := fun _ _ σ H _ I h => wpAny_Pass ⟨σ, H, I, h⟩
theorem ps_break : PS X (.Break pos) tBreak := fun _ _ σ H _ I h => wpAny_Break ⟨σ, H, I, h⟩
theorem ps_continue : PS X (.Continue pos) tCont := fun _ _ σ H _ I h => wpAny_Continue ⟨σ, H, I, h⟩
/-- in a def's body nothing is shown -/
theorem Inv.quiet {pins : List (Addr × Obj)} {σ : St} {H : Hp} {s : Shared} (I : Inv X pins σ H s) : interactive X.env = false := by simp [interactive, I.ok.kind]
/-- a docstring -/
theorem ps_doc {x j pos pos'} : PS X (.Expr (.Constant (.str x) j pos) pos') tNext := fun _ s σ H _ I h => wpAny_Expr (Calls.Constant_str (show SP X _ _ .next { s with toks := s.toks + 1 } from ⟨σ, H, I.tok _, h⟩)) I.quiet
/-- an expression whose value is dropped -/
def tDrop (te : TE) : TS := fun D σ H => te σ H fun _ H1 => D.nx σ H1
theorem ps_expr (he : PE X e te) (hs : swapsWith e none pos.line X.env = pure false := by rfl) : PS X (.Expr e pos) (tDrop te) := by
  intro pins s σ H D I h
  exact wpAny_Expr_any (thn (he pins s σ H _ I h) fun v s1 ⟨x, H1, I1, r1, q1⟩ => ⟨σ, H1, I1, q1⟩) I.quiet hs
def tRet (te : TE) : TS := fun D σ H => te σ H D.rt
theorem ps_ret (he : PE X e te) : PS X (.Return (some e) pos) (tRet te) := by
  intro pins s σ H D I h
  exact wpAny_Return_some (thn (he pins s σ H _ I h) fun v s1 ⟨x, H1, I1, r1, q1⟩ => ⟨x, σ, H1, I1, r1, q1⟩)
def tRetN : TS := fun D _ H => D.rt .non H
theorem ps_retN : PS X (.Return none pos) tRetN := fun _ _ σ H _ I h => wpAny_Return_none ⟨.non, σ, H, I, rfl, h⟩
def tIfS (c : TT) (t u : TS) : TS := fun D σ H => c σ H fun b H1 => if b = true then t D σ H1 else u D σ H1
theorem ps_if {c : Expr} {a b : List Stmt} {tc : TT} (hc : PT X c tc) (ha : PSs X a t) (hb : PSs X b u) : PS X (.If c a b pos) (tIfS tc t u) := by
  intro pins s σ H D I h
  refine wpAny_If (thn (hc pins s σ H _ I h) fun d s1 ⟨H1, I1, q1⟩ => ?_)
  cases d with
  | true => exact ha pins s1 σ H1 D I1 q1
  | false => exact hb pins s1 σ H1 D I1 q1
/-- code that the proof never comes to -/
def tNever : TS := fun _ _ _ => False
theorem ps_never : PS X st tNever := fun _ _ _ _ _ _ h => h.elim
theorem pss_never {sts : List Stmt} : PSs X sts tNever := fun _ _ _ _ _ _ h => h.elim
end

/-! ### targets -/
abbrev TG := V → St → Hp → (St → Hp → Prop) → Prop
abbrev TGs := List V → St → Hp → (St → Hp → Prop) → Prop
def PG (X : Cx) (target : Expr) (t : TG) : Prop :=
  ∀ (pins : List (Addr × Obj)) (s : Shared) (σ : St) (H : Hp) (v : V) (u : Value) (Q : St → Hp → Prop), Inv X pins σ H s → RelV v u → t v σ H Q →
    wpAny (model X.prog X.w) X.A (assign target X.env u) (fun _ s' => ∃ σ' H', Inv X pins σ' H' s' ∧ Q σ' H') X.xe s
/-- several targets, one after another -/
def PGs (X : Cx) (ts : List Expr) (t : TGs) : Prop :=
  ∀ (pins : List (Addr × Obj)) (s : Shared) (σ : St) (H : Hp) (vs : List V) (us : List Value) (Q : St → Hp → Prop), Inv X pins σ H s → Vals vs us → t vs σ H Q →
    wpAny (model X.prog X.w) X.A (assignInOrder ((assignEach ts X.env).map (·.2)) us) (fun _ s' => ∃ σ' H', Inv X pins σ' H' s' ∧ Q σ' H') X.xe s
/-- o[i] = v, by values -/
abbrev TSet := V → V → V → Hp → (Hp → Prop) → Prop
def PSet (X : Cx) (t : TSet) : Prop :=
  ∀ (pins : List (Addr × Obj)) (s : Shared) (σ : St) (H : Hp) (o i v : V) (ov iv u : Value) (Q : Hp → Prop), Inv X pins σ H s → RelV o ov → RelV i iv → RelV v u → t o i v H Q →
    wpAny (model X.prog X.w) X.A (setItem ov iv u) (fun _ s' => ∃ H', Inv X pins σ H' s' ∧ Q H') X.xe s
/-- a op= b, by values -/
abbrev TIp := V → V → Hp → VK → Prop
def PIp (X : Cx) (op : Operator) (t : TIp) : Prop :=
  ∀ (pins : List (Addr × Obj)) (s : Shared) (σ : St) (H : Hp) (x y : V) (v u : Value) (Q : VK), Inv X pins σ H s → RelV x v → RelV y u → t x y H Q →
    wpAny (model X.prog X.w) X.A (inplaceOp op v u) (EP X pins σ Q) X.xe s
section
variable {X : Cx} {pos : Pos}
def gName (i : Nat) : TG := fun v σ H Q => Q (σ.set i (some v)) H
theorem pg_name {i : Nat} {x : Str} (hN : X.N.Nodup) (hi : X.N[i]? = some x) (hx : Loc X.env.scope x) (hf : X.fn x = true ∨ X.env.scope.names.lookup x = some .local := by first | exact .inl rfl | exact .inr rfl | assumption) : PG X (.Name x pos) (gName i) := by
  intro pins s σ H v u Q I r h
  exact wpAny_assign_Name (store_ok I hN hi hx r (fun s' I' => ⟨_, H, I', h⟩) hf)
def gNil : TGs := fun vs σ H Q => vs = [] ∧ Q σ H
def gCons (t : TG) (u : TGs) : TGs := fun vs σ H Q => ∃ v r, vs = v :: r ∧ t v σ H fun σ' H' => u r σ' H' Q
theorem pgs_nil : PGs X [] gNil := by
  intro pins s σ H vs us Q I r h
  obtain ⟨e, h⟩ := h
  subst e
  cases r
  exact assignInOrder_nil ⟨σ, H, I, h⟩
theorem pgs_cons {e : Expr} {es : List Expr} {t : TG} {u : TGs} (h1 : PG X e t) (h2 : PGs X es u)
    (hs : (assignEach (e :: es) X.env).map (·.2) = assign e X.env :: (assignEach es X.env).map (·.2) := by rfl) : PGs X (e :: es) (gCons t u) := by
  intro pins s σ H vs us Q I r h
  obtain ⟨v, vr, e1, h⟩ := h
  subst e1
  cases r with
  | cons r rr =>
    rw [hs]
    refine assignInOrder_cons (thn (h1 pins s σ H _ _ _ I r h) fun _ s1 ⟨σ1, H1, I1, q1⟩ => ?_)
    exact h2 pins s1 σ1 H1 _ _ Q I1 rr q1
/-- (a, b, ..) = a tuple of that length -/
def gTup (K : PySem.W.Frag) (n : Nat) (t : TGs) : TG := fun v σ H Q => ∃ a xs, v = .ref a ∧ SqT K H a xs ∧ xs.length = n ∧ t xs σ H Q
theorem pg_tup {es : List Expr} {k : Nat} {t : TGs} {n : Nat} (hc : X.calm = true) (h : PGs X es t)
    (hn : (assignEach es X.env).length = n := by rfl) (hst : (assignEach es X.env).findIdx? (·.1) = none := by rfl) : PG X (.Tuple es k pos) (gTup X.K n t) := by
  intro pins s σ H v u Q I r hw
  obtain ⟨a, xs, e1, hq, hl, hw⟩ := hw
  subst e1
  cases r
  obtain ⟨its, rv, ht, hz⟩ := I.tuple hq
  refine assign_Tuple_tuple (I.ok.hd hc) ht (by simp [hn, ← hl, rv.length]) hst fun h' hx => ?_
  have I1 : Inv X pins σ H { s with heap := h' } := I.kept (t' := s.toks) fun b o e => hx b o (Nat.ne_of_lt (Heap.lt_size e)) e
  exact h pins _ σ H xs _ Q I1 (by simpa using rv) hw
/-- o[i] = .. -/
def gSub (to ti : TE) (t : TSet) : TG := fun v σ H Q => to σ H fun o H1 => ti σ H1 fun i H2 => t o i v H2 fun H3 => Q σ H3
theorem pg_sub {o i : Expr} {to ti : TE} {t : TSet} (ho : PE X o to) (hi : PE X i ti) (hs : PSet X t)
    (ha : ∀ v, assign (.Subscript o i pos) X.env v = (do
      let ov ← holding [v] (eval o X.env)
      let iv ← holding [v, ov] (eval i X.env)
      standAt pos
      holding [v, ov, iv] (setItem ov iv v)
      release [v, ov, iv] []) := by intro _; rfl) : PG X (.Subscript o i pos) (gSub to ti t) := by
  intro pins s σ H v u Q I r h
  rw [ha]
  refine wpAny_bind (wpAny_holding (thn (ho pins s σ H _ I h) fun ov s1 ⟨x, H1, I1, r1, q1⟩ => ?_))
  refine wpAny_bind (wpAny_holding (thn (hi pins s1 σ H1 _ I1 q1) fun iv s2 ⟨y, H2, I2, r2, q2⟩ => ?_))
  refine wpAny_bind (wpAny_standAt (wpAny_bind (wpAny_holding (thn (hs pins s2 σ H2 x y v ov iv u _ I2 r1 r2 r q2) fun _ s3 ⟨H3, I3, q3⟩ => ?_))))
  exact wpAny_release ⟨σ, H3, I3, q3⟩
/-- target = value -/
def tAsg (te : TE) (g : TG) : TS := fun D σ H => te σ H fun x H1 => g x σ H1 D.nx
theorem ps_asg {tg e : Expr} {te : TE} {g : TG} (he : PE X e te) (hg : PG X tg g) (hs : swapsWithSole [tg] e pos.line X.env = pure false := by rfl) (hw : swappedStores [tg] e X.env = pure none := by rfl)
    (h1 : (assignEach [tg] X.env).map (·.2) = [assign tg X.env] := by rfl) : PS X (.Assign [tg] e pos) (tAsg te g) := by
  intro pins s σ H D I h
  refine wpAny_Assign_stores (thn (he pins s σ H _ I h) fun v s1 ⟨x, H1, I1, r1, q1⟩ => ?_) hs hw
  rw [h1]
  exact thn (hg pins s1 σ H1 x v _ I1 r1 q1) fun _ s2 q => q
/-- name = value -/
theorem ps_set {i : Nat} {x : Str} {e : Expr} {te : TE} {pos' : Pos} (hN : X.N.Nodup) (hi : X.N[i]? = some x) (hx : Loc X.env.scope x) (he : PE X e te) (hs : swapsWith e (some (.Name x pos')) pos.line X.env = pure false := by rfl) (hf : X.fn x = true ∨ X.env.scope.names.lookup x = some .local := by first | exact .inl rfl | exact .inr rfl | assumption) :
    PS X (.Assign [.Name x pos'] e pos) (tAsg te (gName i)) := by
  intro pins s σ H D I h
  refine wpAny_Assign_Name (thn (he pins s σ H _ I h) fun v s1 ⟨y, H1, I1, r1, q1⟩ => ?_) hs
  exact store_ok I1 hN hi hx r1 (fun s2 I2 => ⟨_, H1, I2, q1⟩) hf
/-- a, b = x, y with plain local names: stored from the right; the pair itself is not tracked (the opening rows as in PyProof/Rows/TupAssign.lean:23) -/
def tPar (i j : Nat) (ta : TA) : TS := fun D σ H => ta σ H fun vs H1 => ∃ v w, vs = [v, w] ∧ D.nx ((σ.set i (some v)).set j (some w)) H1
theorem ps_par {i j : Nat} {x y : Str} {a b : Expr} {ta : TA} {px py pt : Pos} {kt k2 pt2} (hc : X.calm = true) (hN : X.N.Nodup) (hi : X.N[i]? = some x) (hj : X.N[j]? = some y) (hij : i ≠ j)
    (hx : X.env.scope.names.lookup x = some .local) (hy : X.env.scope.names.lookup y = some .local) (ha : PA X [a, b] ta)
    (hw : swappedStores [.Tuple [.Name x px, .Name y py] kt pt] (.Tuple [a, b] k2 pt2) X.env = pure (some [x, y]))
    (hs : swapsWithSole [.Tuple [.Name x px, .Name y py] kt pt] (.Tuple [a, b] k2 pt2) pos.line X.env = pure false := by rfl) :
    PS X (.Assign [.Tuple [.Name x px, .Name y py] kt pt] (.Tuple [a, b] k2 pt2) pos) (tPar i j ta) := by
  intro pins s σ H D I h
  rw [exec_Assign_arm]
  refine wpAny_bind (wpAny_standAt ?_)
  rw [hs]
  refine wpAny_bind (wpAny_pure ?_)
  rw [if_neg (by decide)]
  refine wpAny_bind (Tuple_ (thn (ha _ pins s σ H _ I h) fun us s1 ⟨vs, H1, I1, r1, q1⟩ => ?_))
  obtain ⟨v, w, e1, q1⟩ := q1
  subst e1
  obtain ⟨u1, u2, rfl, rv, rw'⟩ : ∃ u1 u2, us = [u1, u2] ∧ RelV v u1 ∧ RelV w u2 := by
    cases r1 with
    | cons p q =>
      cases q with
      | cons p' q' =>
        cases q'
        exact ⟨_, _, rfl, p, p'⟩
  refine wpAny_newObj_type ?_ (by show 2 ≤ sizeLine; decide)
  have I2 : Inv X pins σ H1 { s1 with heap := s1.heap.push { cls := .type "tuple", data := .seq [u1, u2].toArray } } := I1.kept (t' := s1.toks) fun b o e => Heap.get?_push_of_some _ e
  rw [hw]
  refine wpAny_bind (wpAny_pure ?_)
  show wpAny (model X.prog X.w) X.A (do rule "assign.swapped-stores"; let items ← unpackItems (.ref s1.heap.objs.size) 2 none; assignInOrder [fun v => bindName X.env y v, fun v => bindName X.env x v] items.reverse; pure Flow.next) _ _ _
  refine wpAny_bind (wpAny_rule (wpAny_bind (unpackItems_tuple (items := #[u1, u2]) (I.ok.hd hc) (IsTup.new s1.heap _) fun h' hx' => ?_)))
  have I3 := I2.kept (h' := h') (t' := s1.toks) fun b o e => hx' b o (Nat.ne_of_lt (Heap.lt_size e)) e
  show wpAny _ _ (assignInOrder [fun v => bindName X.env y v, fun v => bindName X.env x v] [u2, u1] >>= fun _ => pure Flow.next) _ _ _
  refine wpAny_bind (assignInOrder_cons (wpAny_bindName (store_ok I3 hN hj (.inl hy) rw' (fun s2 I4 => ?_) (.inr hy))))
  refine assignInOrder_cons (wpAny_bindName (store_ok I4 hN hi (.inl hx) rv (fun s3 I5 => assignInOrder_nil (wpAny_pure ?_)) (.inr hx)))
  rw [List.set_comm _ _ (Ne.symm hij)] at I5
  exact ⟨_, H1, I5, q1⟩
/-- name op= e -/
def tAug (i : Nat) (te : TE) (ti : TIp) : TS := fun D σ H => ∃ x, σ[i]? = some (some x) ∧ te σ H fun y H1 => ti x y H1 fun z H2 => D.nx (σ.set i (some z)) H2
theorem ps_aug {i : Nat} {x : Str} {e : Expr} {te : TE} {op : Operator} {ti : TIp} {pos' : Pos} (hN : X.N.Nodup) (hi : X.N[i]? = some x) (hx : Loc X.env.scope x) (he : PE X e te) (ho : PIp X op ti) (hf : X.fn x = true ∨ X.env.scope.names.lookup x = some .local := by first | exact .inl rfl | exact .inr rfl | assumption) :
    PS X (.AugAssign (.Name x pos') op e pos) (tAug i te ti) := by
  intro pins s σ H D I h
  obtain ⟨v, e1, h⟩ := h
  obtain ⟨m, hn, hl⟩ := I.loc
  have vis : Vis X.env.scope x := by rcases hx with k | k; exact .inl k; exact .inr (.inl k)
  obtain ⟨u, r, l⟩ := hl i x v hi e1 vis
  refine wpAny_AugAssign_Name ?_
  have go : wpAny (model X.prog X.w) X.A (eval e X.env) (fun w s₂ => wpAny (model X.prog X.w) X.A (inplaceOp op u w) (fun r s₃ => wpAny (model X.prog X.w) X.A (storeName X.env x r) (fun _ => SP X pins D .next) X.xe s₃) X.xe s₂) X.xe s := by
    refine thn (he pins s σ H _ I h) fun w s1 ⟨y, H1, I1, r1, q1⟩ => ?_
    refine thn (ho pins s1 σ H1 v y u w _ I1 r r1 q1) fun z s2 ⟨zv, H2, I2, r2, q2⟩ => ?_
    exact store_ok I2 hN hi hx r2 (fun s3 I3 => ⟨_, H2, I3, q2⟩) hf
  rcases l with ⟨hk, hm⟩ | ⟨hk, c, hc, hcell⟩
  · exact wpAny_loadName_local I.ok.kind hk hn hm go
  · rcases hk with hk | hk
    · exact wpAny_loadName_cell I.ok.kind hk hc hcell go
    · rcases hx with k | k
      · have : X.env.scope.names.lookup x = some .free := hk
        rw [k] at this; cases this
      · have : X.env.scope.names.lookup x = some .free := hk
        rw [k] at this; cases this
/-- o[i] op= e -/
def tAugS (to ti te : TE) (tget : V → V → Hp → VK → Prop) (tip : TIp) (tset : TSet) : TS := fun D σ H => to σ H fun o H1 => ti σ H1 fun i H2 => tget o i H2 fun x H3 => te σ H3 fun y H4 => tip x y H4 fun z H5 => tset o i z H5 fun H6 => D.nx σ H6
/-- o[i], by values -/
def PGet (X : Cx) (t : V → V → Hp → VK → Prop) : Prop :=
  ∀ (pins : List (Addr × Obj)) (s : Shared) (σ : St) (H : Hp) (o i : V) (ov iv : Value) (Q : VK), Inv X pins σ H s → RelV o ov → RelV i iv → t o i H Q →
    wpAny (model X.prog X.w) X.A (getItem ov iv) (EP X pins σ Q) X.xe s
theorem ps_augS {o i e : Expr} {to ti te : TE} {tget : V → V → Hp → VK → Prop} {tip : TIp} {tset : TSet} {op : Operator} {tpos : Pos} (ho : PE X o to) (hi : PE X i ti) (hg : PGet X tget) (he : PE X e te) (hp : PIp X op tip) (hs : PSet X tset)
    (ha : ∀ ov iv new, augStore i ov iv new = (do holding [new, ov, iv] (setItem ov iv new); release [new, ov, iv] []; pure .next) := by intros; rfl) : PS X (.AugAssign (.Subscript o i tpos) op e pos) (tAugS to ti te tget tip tset) := by
  intro pins s σ H D I h
  refine wpAny_AugAssign_SubscriptAny (thn (ho pins s σ H _ I h) fun ov s1 ⟨x1, H1, I1, r1, q1⟩ => ?_) ha
  refine thn (hi pins s1 σ H1 _ I1 q1) fun iv s2 ⟨x2, H2, I2, r2, q2⟩ => ?_
  refine thn (hg pins s2 σ H2 x1 x2 ov iv _ I2 r1 r2 q2) fun old s3 ⟨x3, H3, I3, r3, q3⟩ => ?_
  refine thn (he pins s3 σ H3 _ I3 q3) fun v s4 ⟨x4, H4, I4, r4, q4⟩ => ?_
  refine thn (hp pins s4 σ H4 x3 x4 old v _ I4 r3 r4 q4) fun new s5 ⟨x5, H5, I5, r5, q5⟩ => ?_
  exact thn (hs pins s5 σ H5 x1 x2 x5 ov iv new _ I5 r1 r2 r5 q5) fun _ s6 ⟨H6, I6, q6⟩ => ⟨σ, H6, I6, q6⟩
/-- ints -/
def ipI (f : Int → Int → Int) : TIp := fun x y H Q => ∃ i j, x = .int i ∧ y = .int j ∧ Q (.int (f i j)) H
theorem ip_add : PIp X .Add (ipI fun i j => i + j) := by
  intro pins s σ H x y v u Q I r1 r2 h
  obtain ⟨i, j, e1, e2, q⟩ := h
  subst e1; subst e2
  obtain ⟨t, rfl⟩ := r1
  obtain ⟨t', rfl⟩ := r2
  exact iadd_int ⟨.int _, H, I.tok _, ⟨_, rfl⟩, q⟩
theorem ip_sub : PIp X .Sub (ipI fun i j => i - j) := by
  intro pins s σ H x y v u Q I r1 r2 h
  obtain ⟨i, j, e1, e2, q⟩ := h
  subst e1; subst e2
  obtain ⟨t, rfl⟩ := r1
  obtain ⟨t', rfl⟩ := r2
  exact isub_int ⟨.int _, H, I.tok _, ⟨_, rfl⟩, q⟩
end

/-! ### while -/
section
variable {X : Cx} {pos : Pos}
/-- the invariant W with its measure -/
def tWhile (c : TT) (tb : TS) : TS := fun D σ H => ∃ W : Nat → St → Hp → Prop, (∃ m, W m σ H) ∧ ∀ m σ H, W m σ H →
  c σ H fun b H1 => if b = true then ∃ N : St → Hp → Prop, (∀ σ' H', N σ' H' → ∃ m', m' < m ∧ W m' σ' H') ∧ tb { D with nx := N, ct := N, bk := D.nx } σ H1 else D.nx σ H1
theorem ps_while {c : Expr} {body : List Stmt} {tc : TT} {tb : TS} (hp : PassesOwn (model X.prog X.w) X.A X.env X.xe) (hc : PT X c tc) (hb : PSs X body tb) : PS X (.While c body [] pos) (tWhile tc tb) := by
  intro pins s σ H D I h
  obtain ⟨W, ⟨m0, w0⟩, turn⟩ := h
  refine wpAny_While (codeAny_whileLoop (fun n s' => ∃ σ' H', Inv X pins σ' H' s' ∧ W n σ' H') ?_ m0 ⟨σ, H, I, w0⟩)
  rintro n s1 ⟨σ1, H1, I1, w1⟩
  refine wpAny_passesOwn hp (thn (hc pins s1 σ1 H1 _ I1 (turn n σ1 H1 w1)) fun b s2 ⟨H2, I2, q2⟩ => ?_)
  cases b with
  | true =>
    obtain ⟨N, hN, q2⟩ := q2
    rw [if_pos rfl]
    refine wpAny_passesOwn hp (thn (hb pins s2 σ1 H2 _ I2 q2) fun f s3 q3 => ?_)
    cases f with
    | next =>
      obtain ⟨σ3, H3, I3, n3⟩ := q3
      obtain ⟨m', hm, w3⟩ := hN σ3 H3 n3
      exact ⟨m', hm, σ3, H3, I3, w3⟩
    | cont =>
      obtain ⟨σ3, H3, I3, n3⟩ := q3
      obtain ⟨m', hm, w3⟩ := hN σ3 H3 n3
      exact ⟨m', hm, σ3, H3, I3, w3⟩
    | brk => exact q3
    | ret v => exact q3
  | false =>
    rw [if_neg Bool.false_ne_true]
    exact wpAny_execs_nil ⟨σ1, H2, I2, q2⟩
end

/-! ### what a loop or a comprehension walks -/
/-- at turn i: it yields x (the heap may grow), or it stops -/
structure It where
  go : Nat → Hp → Prop
  yld : Nat → Hp → V → Hp → Prop
  stop : Nat → Hp → Prop
/-- the iterator's own objects may turn: they are not the frame's, not pinned, younger than the entry (or a comprehension's own) -/
def FpOk (X : Cx) (pins : List (Addr × Obj)) (H : Hp) (b : Addr) : Prop :=
  H b = none ∧ b ≠ X.env.locals ∧ b ∉ X.fs ∧ (b ∈ X.ex ∨ X.s₀.heap.objs.size ≤ b) ∧ (∀ x c, X.env.cells.lookup x = some c → c ≠ b) ∧ ∀ p ∈ X.pn ++ pins, p.1 ≠ b
theorem Inv.fpOk {X : Cx} {pins : List (Addr × Obj)} {σ : St} {H H' : Hp} {s : Shared} {b : Addr} (I : Inv X pins σ H s) (hb : s.heap.objs.size ≤ b) (hn : H' b = none) : FpOk X pins H' b := by
  refine ⟨hn, Nat.ne_of_gt (Nat.lt_of_lt_of_le I.lt hb), I.nofs hb, .inr (Nat.le_trans I.sz hb), fun x c e z => ?_, fun p hp z => ?_⟩
  · obtain ⟨v, q⟩ := I.cell x c e
    exact absurd (Nat.lt_of_lt_of_le q.lt (by rw [z]; exact hb)) (Nat.lt_irrefl _)
  · exact absurd (Nat.lt_of_lt_of_le (Heap.lt_size (I.pin p hp).1) (by rw [z]; exact hb)) (Nat.lt_irrefl _)
structure Turn (P : Program) (w : World) (K : PySem.W.Frag) (tg : Expr) (J : It) (fp : List Addr) (it : Addr) (tn : Nat → Heap → Prop) : Prop where
  mem : it ∈ fp
  obj : ∀ i h, tn i h → ∀ b ∈ fp, ∃ o, h.get? b = some o ∧ ∀ v, o.data ≠ .cell v
  keep : ∀ i h h', tn i h → (∀ b ∈ fp, ∀ o, h.get? b = some o → h'.get? b = some o) → tn i h'
  item : ∀ (X : Cx), X.prog = P → X.w = w → X.K = K → X.calm = true → ∀ (i : Nat) (pins : List (Addr × Obj)) (s : Shared) (σ : St) (H : Hp) (E : Value → Shared → Prop), Inv X pins σ H s → (∀ b ∈ fp, FpOk X pins H b) → tn i s.heap → J.go i H →
    wpAny (model P w) X.A (pyNext (.ref it)) (fun r s1 => ∃ u, r = some u ∧
      wpAny (model P w) X.A (letOwnedTupleGo tg (.ref it) u) (fun _ s2 => ∃ x H', Inv X pins σ H' s2 ∧ RelV x u ∧ J.yld i H x H' ∧ tn (i + 1) s2.heap ∧ ∀ b ∈ fp, H' b = none) E s1) E s
  done : ∀ (X : Cx), X.prog = P → X.w = w → X.K = K → X.calm = true → ∀ (i : Nat) (pins : List (Addr × Obj)) (s : Shared) (σ : St) (H : Hp) (E : Value → Shared → Prop), Inv X pins σ H s → (∀ b ∈ fp, FpOk X pins H b) → tn i s.heap → J.stop i H →
    wpAny (model P w) X.A (pyNext (.ref it)) (fun r s1 => r = none ∧ Inv X pins σ H s1) E s
  self : ∀ (A : Around) (i : Nat) (s : Shared) (Q : Value → Shared → Prop) (E : Value → Shared → Prop), tn i s.heap → Q (.ref it) s → wpAny (model P w) A (pyIter (.ref it)) Q E s
abbrev TI := St → Hp → (It → Hp → Prop) → Prop
/-- an iterator has come -/
def PIE (X : Cx) (pins : List (Addr × Obj)) (σ : St) (tg : Expr) (R : It → Hp → Prop) (itv : Value) (s2 : Shared) : Prop :=
  ∃ (it : Addr) (fp : List Addr) (tn : Nat → Heap → Prop) (J : It) (H' : Hp), itv = .ref it ∧ Inv X pins σ H' s2 ∧ Turn X.prog X.w X.K tg J fp it tn ∧ tn 0 s2.heap ∧ (∀ b ∈ fp, FpOk X pins H' b) ∧ R J H'
def PI (X : Cx) (tg iter : Expr) (wi : TI) : Prop :=
  ∀ (pins : List (Addr × Obj)) (s : Shared) (σ : St) (H : Hp) (R : It → Hp → Prop), Inv X pins σ H s → wi σ H R →
    wpAny (model X.prog X.w) X.A (eval iter X.env) (fun v s1 => wpAny (model X.prog X.w) X.A (pyIter v) (PIE X pins σ tg R) X.xe s1) X.xe s

/-- the step ahead of the store is nothing for an iterator that keeps no tuple -/
theorem go_of {M : Model} {A : Around} {E : Value → Shared → Prop} {s : Shared} {tg : Expr} {it : Addr} {u : Value} {o : Obj} {n : String} {vs : Array Value} {Q : Unit → Shared → Prop} (ho : s.heap.get? it = some o) (hc : o.cls = .type n) (hd : o.data = .fields vs)
    (hn : ["enumerate", "zip", "dict_itemiterator", "dict_reverseitemiterator", "odict_iterator", "itertools.zip_longest", "itertools.pairwise"].contains n = false) (hQ : Q () s) : wpAny M A (letOwnedTupleGo tg (.ref it) u) Q E s := by
  unfold letOwnedTupleGo
  cases tg <;> first
    | exact wpAny_pure hQ
    | (cases u <;> first
        | exact wpAny_pure hQ
        | (refine wpAny_bind (wpAny_load ho ?_)
           rw [hc, hd]
           show wpAny M A (if (["enumerate", "zip", "dict_itemiterator", "dict_reverseitemiterator", "odict_iterator", "itertools.zip_longest", "itertools.pairwise"].contains n && vs[0]? == some (rawInt _)) = true then _ else _) Q E s
           rw [if_neg (by intro h; rw [hn, Bool.false_and] at h; cases h)]
           exact wpAny_pure hQ))

/-- the list at a, as it stands at each turn (a loop may append to it) -/
def Itl (K : PySem.W.Frag) (a : Addr) : It :=
  ⟨fun i H => ∃ xs x, SqL K H a xs ∧ xs[i]? = some x, fun i H x H' => H' = H ∧ ∀ xs, SqL K H a xs → xs[i]? = some x, fun i H => ∃ xs, SqL K H a xs ∧ xs.length ≤ i⟩
def Itt (K : PySem.W.Frag) (a : Addr) : It :=
  ⟨fun i H => ∃ xs x, SqT K H a xs ∧ xs[i]? = some x, fun i H x H' => H' = H ∧ ∀ xs, SqT K H a xs → xs[i]? = some x, fun i H => ∃ xs, SqT K H a xs ∧ xs.length ≤ i⟩
/-- lo, lo + 1, .. (n of them) -/
def Itr (lo : Int) (n : Nat) : It := ⟨fun i _ => i < n, fun i H x H' => H' = H ∧ x = .int (lo + i), fun i _ => n ≤ i⟩
theorem turn_list {P : Program} {w : World} {K : PySem.W.Frag} {tg : Expr} (a it : Addr) : Turn P w K tg (Itl K a) [it] it (fun i h => h.IsListIter it a i) where
  mem := by simp
  obj := fun i h st b hb => by
    have e : b = it := by simpa using hb
    subst e
    obtain ⟨o, e, c, d⟩ := st
    exact ⟨o, e, fun v z => by rw [d] at z; cases z⟩
  keep := fun i h h' st k => st.at fun o e => k it (by simp) o e
  item := by
    intro X hP hw hK hc i pins s σ H E I hf st hg
    subst hP hw hK
    obtain ⟨xs, x, hq, hx⟩ := hg
    obtain ⟨its, rv, p, hz⟩ := I.list hq
    obtain ⟨u, hu, ru⟩ := rv.get hx
    obtain ⟨f0, f1, f2, f3, f4, f5⟩ := hf it (by simp)
    refine wpAny_pyNext_list_item st p.isList (x := u) (by simpa using hu) fun h' st' sb => ?_
    have I1 : Inv X pins σ H { s with heap := h' } := I.turned (t' := s.toks) (fun b o hb e => (sb.2 b hb).trans e) f0 f1 f3 f4 f5
    obtain ⟨o, e, c, d⟩ := id st'
    exact ⟨u, rfl, go_of (s := { s with heap := h' }) e c d (by decide) ⟨x, H, I1, ru, ⟨rfl, fun ys hy => by rw [I.list_inj hy hq]; exact hx⟩, st', fun b hb => (hf b hb).1⟩⟩
  done := by
    intro X hP hw hK hc i pins s σ H E I hf st hg
    subst hP hw hK
    obtain ⟨xs, hq, hx⟩ := hg
    obtain ⟨its, rv, p, hz⟩ := I.list hq
    obtain ⟨f0, f1, f2, f3, f4, f5⟩ := hf it (by simp)
    have hl := rv.length
    exact wpAny_pyNext_list_end (I.ok.hd hc) st p.isList (by simp; omega) fun h' eb => ⟨rfl, I.turned (t' := s.toks) (fun b o hb e => eb b o hb e) f0 f1 f3 f4 f5⟩
  self := fun _ _ _ _ _ st h => wpAny_pyIter_listiter st h
theorem turn_tuple {P : Program} {w : World} {K : PySem.W.Frag} {tg : Expr} (a it : Addr) : Turn P w K tg (Itt K a) [it] it (fun i h => h.IsTupleIter it a i) where
  mem := by simp
  obj := fun i h st b hb => by
    have e : b = it := by simpa using hb
    subst e
    obtain ⟨o, e, c, d⟩ := st
    exact ⟨o, e, fun v z => by rw [d] at z; cases z⟩
  keep := fun i h h' st k => st.at fun o e => k it (by simp) o e
  item := by
    intro X hP hw hK hc i pins s σ H E I hf st hg
    subst hP hw hK
    obtain ⟨xs, x, hq, hx⟩ := hg
    obtain ⟨its, rv, p, hz⟩ := I.tuple hq
    obtain ⟨u, hu, ru⟩ := rv.get hx
    obtain ⟨f0, f1, f2, f3, f4, f5⟩ := hf it (by simp)
    refine wpAny_pyNext_tuple_item st (show s.heap.IsTuple a its.toArray from p) (x := u) (by simpa using hu) fun h' st' sb => ?_
    have I1 : Inv X pins σ H { s with heap := h' } := I.turned (t' := s.toks) (fun b o hb e => (sb.2 b hb).trans e) f0 f1 f3 f4 f5
    obtain ⟨o, e, c, d⟩ := id st'
    exact ⟨u, rfl, go_of (s := { s with heap := h' }) e c d (by decide) ⟨x, H, I1, ru, ⟨rfl, fun ys hy => by rw [I.tuple_inj hy hq]; exact hx⟩, st', fun b hb => (hf b hb).1⟩⟩
  done := by
    intro X hP hw hK hc i pins s σ H E I hf st hg
    subst hP hw hK
    obtain ⟨xs, hq, hx⟩ := hg
    obtain ⟨its, rv, p, hz⟩ := I.tuple hq
    obtain ⟨f0, f1, f2, f3, f4, f5⟩ := hf it (by simp)
    have hl := rv.length
    exact wpAny_pyNext_tuple_end (I.ok.hd hc) st (show s.heap.IsTuple a its.toArray from p) (by simp; omega) fun h' eb => ⟨rfl, I.turned (t' := s.toks) (fun b o hb e => eb b o hb e) f0 f1 f3 f4 f5⟩
  self := fun _ _ _ _ _ st h => wpAny_pyIter_tupleiter st h
theorem turn_range {P : Program} {w : World} {K : PySem.W.Frag} {tg : Expr} (it : Addr) (lo : Int) (n : Nat) : Turn P w K tg (Itr lo n) [it] it (fun i h => IsRangeIter h it (lo + (i : Nat) * 1) ((n : Int) - (i : Nat)) 1) where
  mem := by simp
  obj := fun i h st b hb => by
    have e : b = it := by simpa using hb
    subst e
    exact ⟨_, st, fun v z => by
      have z' : Data.fields _ = Data.cell v := z
      cases z'⟩
  keep := fun i h h' st k => k it (by simp) _ st
  item := by
    intro X hP hw hK hc i pins s σ H E I hf st hg
    subst hP hw hK
    obtain ⟨f0, f1, f2, f3, f4, f5⟩ := hf it (by simp)
    have W := Walks.range (prog := X.prog) (w := X.w) (I.ok.hd hc) it lo 1 n
    refine W.item i s _ _ hg st fun v h' tk hv st' kk => ?_
    obtain ⟨t, rfl⟩ := hv
    have I1 : Inv X pins σ H { s with heap := h', toks := tk } := I.turned (fun b o hb e => kk b o (by simpa using hb) e) f0 f1 f3 f4 f5
    refine ⟨_, rfl, go_of (s := { s with heap := h', toks := tk }) (n := "range_iterator") st' rfl rfl (by decide) ⟨.int (lo + i), H, I1, ⟨t, ?_⟩, ⟨rfl, rfl⟩, st', fun b hb => (hf b hb).1⟩⟩
    rw [Int.mul_one]
  done := by
    intro X hP hw hK hc i pins s σ H E I hf st hg
    subst hP hw hK
    obtain ⟨f0, f1, f2, f3, f4, f5⟩ := hf it (by simp)
    exact wpAny_pyNext_range_end (I.ok.hd hc) st (by have : n ≤ i := hg; omega) fun h' eb => ⟨rfl, I.turned (t' := s.toks) (fun b o hb e => eb b o hb e) f0 f1 f3 f4 f5⟩
  self := fun _ _ _ _ _ st h => wpAny_pyIter_rangeiter st h
end L2

namespace L2
open PySem PySem.Spec PyProof.Rows
section
variable {X : Cx} {tg : Expr}
def iList (K : PySem.W.Frag) (tl : TE) : TI := fun σ H R => tl σ H fun x H1 => ∃ a, x = .ref a ∧ (∃ xs, SqL K H1 a xs) ∧ R (Itl K a) H1
def iTup (K : PySem.W.Frag) (tl : TE) : TI := fun σ H R => tl σ H fun x H1 => ∃ a, x = .ref a ∧ (∃ xs, SqT K H1 a xs) ∧ R (Itt K a) H1
theorem pi_list {l : Expr} {tl : TE} (hl : PE X l tl) : PI X tg l (iList X.K tl) := by
  intro pins s σ H R I h
  refine thn (hl pins s σ H _ I h) fun v s1 ⟨x, H1, I1, r1, q1⟩ => ?_
  obtain ⟨a, e, ⟨xs, hq⟩, q⟩ := q1
  subst e
  cases r1
  obtain ⟨its, rv, p, hz⟩ := I1.list hq
  refine wpAny_pyIter_list p.isList ?_
  refine ⟨s1.heap.objs.size, [s1.heap.objs.size], _, _, H1, rfl, I1.kept (t' := s1.toks) fun b o e => Heap.get?_push_of_some _ e, turn_list a _, ⟨_, Heap.get?_push_size _ rfl, rfl, rfl⟩, fun b hb => ?_, q⟩
  have e : b = s1.heap.objs.size := by simpa using hb
  subst e
  exact I1.fpOk (Nat.le_refl _) (I1.hok.fresh (Nat.le_refl _))
theorem pi_tup {l : Expr} {tl : TE} (hl : PE X l tl) : PI X tg l (iTup X.K tl) := by
  intro pins s σ H R I h
  refine thn (hl pins s σ H _ I h) fun v s1 ⟨x, H1, I1, r1, q1⟩ => ?_
  obtain ⟨a, e, ⟨xs, hq⟩, q⟩ := q1
  subst e
  cases r1
  obtain ⟨its, rv, p, hz⟩ := I1.tuple hq
  refine wpAny_pyIter_tuple (show s1.heap.IsTuple a its.toArray from p) ?_
  refine ⟨s1.heap.objs.size, [s1.heap.objs.size], _, _, H1, rfl, I1.kept (t' := s1.toks) fun b o e => Heap.get?_push_of_some _ e, turn_tuple a _, ⟨_, Heap.get?_push_size _ rfl, rfl, rfl⟩, fun b hb => ?_, q⟩
  have e : b = s1.heap.objs.size := by simpa using hb
  subst e
  exact I1.fpOk (Nat.le_refl _) (I1.hok.fresh (Nat.le_refl _))
/-- a range object just made, walked -/
theorem range_it {pins : List (Addr × Obj)} {σ : St} {H : Hp} {s : Shared} {R : It → Hp → Prop} {E : Value → Shared → Prop} {lo hi : Int} {t u v : Tok} {tk : Nat} (I : Inv X pins σ H s) (h1 : -(2 ^ 62) ≤ lo) (h2 : lo < 2 ^ 62) (h3 : -(2 ^ 62) ≤ hi) (h4 : hi < 2 ^ 62)
    (q : R (Itr lo (hi - lo).toNat) H) : wpAny (model X.prog X.w) X.A (pyIter (.ref s.heap.objs.size)) (PIE X pins σ tg R) E { s with heap := s.heap.push { cls := .type "range", data := .fields #[.int lo t, .int hi u, .int 1 v] }, toks := tk } := by
  refine wpAny_pyIter_range (IsRange.new ..) (small_one h1 h2 h3 h4) ?_
  have I1 : Inv X pins σ H { s with heap := s.heap.push { cls := .type "range", data := .fields #[.int lo t, .int hi u, .int 1 v] }, toks := tk } := I.kept fun b o e => Heap.get?_push_of_some _ e
  refine ⟨(s.heap.push { cls := .type "range", data := .fields #[.int lo t, .int hi u, .int 1 v] }).objs.size, [(s.heap.push { cls := .type "range", data := .fields #[.int lo t, .int hi u, .int 1 v] }).objs.size], _, _, H, rfl,
    I1.kept (t' := tk) fun b o e => Heap.get?_push_of_some _ e, turn_range _ lo (hi - lo).toNat, ?_, fun b hb => ?_, q⟩
  · have e1 : lo + ((0 : Nat) : Int) * 1 = lo := by simp
    have e2 : (((hi - lo).toNat : Nat) : Int) - ((0 : Nat) : Int) = Builtin.Range.rangeSize lo hi 1 := by rw [rangeSize_one]; split <;> omega
    show IsRangeIter _ _ (lo + ((0 : Nat) : Int) * 1) ((((hi - lo).toNat : Nat) : Int) - ((0 : Nat) : Int)) 1
    rw [e1, e2]
    exact Heap.get?_push_size _ rfl
  · have e : b = (s.heap.push { cls := .type "range", data := .fields #[.int lo t, .int hi u, .int 1 v] }).objs.size := by simpa using hb
    subst e
    exact I1.fpOk (Nat.le_refl _) (I1.hok.fresh (Nat.le_refl _))
def iRng1 (ta : TA) : TI := fun σ H R => ta σ H fun vs H1 => ∃ j : Int, vs = [.int j] ∧ -(2 ^ 62) ≤ j ∧ j < 2 ^ 62 ∧ R (Itr 0 j.toNat) H1
def iRng2 (ta : TA) : TI := fun σ H R => ta σ H fun vs H1 => ∃ i j : Int, vs = [.int i, .int j] ∧ (-(2 ^ 62) ≤ i ∧ i < 2 ^ 62 ∧ -(2 ^ 62) ≤ j ∧ j < 2 ^ 62) ∧ R (Itr i (j - i).toNat) H1
theorem pi_range1 {a : Expr} {ta : TA} {p pos : Pos} (hg : Gl X "range") (hm : X.mg "range" = none) (ha : PA X [a] ta) (hs : starEach [a] X.env = [(false, eval a X.env)] := by rfl) : PI X tg (.Call (.Name "range" p) [a] [] pos) (iRng1 ta) := by
  intro pins s σ H R I h
  refine Call_ (ld_blt I hg hm boot_range (PyProof.Rows.callWith_type1 (thn (ha pos pins s σ H _ I h) fun us s1 ⟨vs, H1, I1, r1, q1⟩ => ?_) hs rfl))
  obtain ⟨j, e, q1, q2, q⟩ := q1
  subst e
  cases r1 with
  | cons r rr =>
    cases rr
    obtain ⟨t, rfl⟩ := r
    exact call_range_1 (range_it I1 (by omega) (by omega) q1 q2 (by simpa using q))
theorem pi_range2 {a b : Expr} {ta : TA} {p pos : Pos} (hg : Gl X "range") (hm : X.mg "range" = none) (ha : PA X [a, b] ta) (hs : starEach [a, b] X.env = [(false, eval a X.env), (false, eval b X.env)] := by rfl) (hs2 : starEach [b] X.env = [(false, eval b X.env)] := by rfl) :
    PI X tg (.Call (.Name "range" p) [a, b] [] pos) (iRng2 ta) := by
  intro pins s σ H R I h
  refine Call_ (ld_blt I hg hm boot_range (PyProof.Rows.callWith_type1 (thn (ha pos pins s σ H _ I h) fun us s1 ⟨vs, H1, I1, r1, q1⟩ => ?_) (by rw [hs, hs2]) (by rw [hs2]; rfl)))
  obtain ⟨i, j, e, ⟨q1, q2, q3, q4⟩, q⟩ := q1
  subst e
  cases r1 with
  | cons r rr =>
    cases rr with
    | cons r' rr =>
      cases rr
      obtain ⟨t, rfl⟩ := r
      obtain ⟨t', rfl⟩ := r'
      exact call_range_2 (range_it I1 q1 q2 q3 q4 q)

/-! ### for -/
/-- W: the invariant by the turn and a measure; N: what the body is to reach -/
def tFor (wi : TI) (g : TG) (tb : TS) : TS := fun D σ H => wi σ H fun J H1 => ∃ W : Nat → Nat → St → Hp → Prop, (∃ m, W 0 m σ H1) ∧ ∀ i m σ H, W i m σ H →
  (J.stop i H ∧ D.nx σ H) ∨ (J.go i H ∧ ∃ N : St → Hp → Prop, (∀ σ' H', N σ' H' → ∃ m', m' < m ∧ W (i + 1) m' σ' H') ∧ ∀ x H', J.yld i H x H' → g x σ H' fun σ2 H2 => tb { D with nx := N, ct := N, bk := D.nx } σ2 H2)
/-- the records at fp as they stand -/
def pinsAt (fp : List Addr) (h : Heap) : List (Addr × Obj) := fp.filterMap fun b => (h.get? b).map fun o => (b, o)
theorem mem_pinsAt {fp : List Addr} {h : Heap} {b : Addr} {o : Obj} (hb : b ∈ fp) (e : h.get? b = some o) : (b, o) ∈ pinsAt fp h := List.mem_filterMap.mpr ⟨b, hb, by rw [e]; rfl⟩
theorem of_pinsAt {fp : List Addr} {h : Heap} {p : Addr × Obj} (hp : p ∈ pinsAt fp h) : p.1 ∈ fp ∧ h.get? p.1 = some p.2 := by
  obtain ⟨b, hb, e⟩ := List.mem_filterMap.mp hp
  cases q : h.get? b with
  | none => rw [q] at e; cases e
  | some o =>
    rw [q] at e
    have e' : (b, o) = p := Option.some.inj e
    subst e'
    exact ⟨hb, q⟩
theorem Inv.pinned {pins : List (Addr × Obj)} {σ : St} {H : Hp} {s : Shared} {fp : List Addr} (I : Inv X pins σ H s) (hf : ∀ b ∈ fp, FpOk X pins H b) (ho : ∀ b ∈ fp, ∃ o, s.heap.get? b = some o ∧ ∀ v, o.data ≠ .cell v) : Inv X (pins ++ pinsAt fp s.heap) σ H s :=
  I.pins_of fun p hp => (List.mem_append.mp hp).elim (fun z => I.pin p (List.mem_append_right _ z)) fun z => by
    obtain ⟨hb, e⟩ := of_pinsAt z
    obtain ⟨f0, f1, f2, _⟩ := hf p.1 hb
    obtain ⟨o, e', d⟩ := ho p.1 hb
    rw [e] at e'; cases e'
    exact ⟨e, f0, f1, f2, d⟩
theorem Inv.unpinned {pins pl : List (Addr × Obj)} {σ : St} {H : Hp} {s : Shared} (I : Inv X (pins ++ pl) σ H s) : Inv X pins σ H s := I.pins_of fun p hp => I.pin p (List.mem_append_right _ (List.mem_append_left _ hp))
theorem ps_for {iter : Expr} {body : List Stmt} {wi : TI} {g : TG} {tb : TS} {pos : Pos} (hp : PassesOwn (model X.prog X.w) X.A X.env X.xe) (hc : X.calm = true) (hi : PI X tg iter wi) (hg : PG X tg g) (hb : PSs X body tb)
    (hs : ∀ x, foldedSetIterable iter X.env x = pure x := by intro _; rfl) : PS X (.For tg iter body [] pos) (tFor wi g tb) := by
  intro pins s σ H D I h
  refine wpAny_For (thn (hi pins s σ H _ I h) fun v s1 h1 => thn h1 fun itv s2 h2 => ?_) hs
  obtain ⟨it, fp, tn, J, H2, e, I2, T, st2, f2, W, ⟨m0, w0⟩, turn⟩ := h2
  subst e
  -- what stays true of the iterator's objects through the loop
  have stat : ∀ {H' : Hp}, (∀ b ∈ fp, H' b = none) → ∀ b ∈ fp, FpOk X pins H' b := fun hn b hb => ⟨hn b hb, (f2 b hb).2⟩
  refine codeAny_forLoop_any (fun n s' => ∃ i σ' H', Inv X pins σ' H' s' ∧ tn i s'.heap ∧ (∀ b ∈ fp, H' b = none) ∧ W i n σ' H') ?_ m0 ⟨0, σ, H2, I2, st2, fun b hb => (f2 b hb).1, w0⟩
  rintro n s3 ⟨i, σ3, H3, I3, st3, fr3, w3⟩
  rcases turn i n σ3 H3 w3 with ⟨stop, qn⟩ | ⟨go, N, hN, step⟩
  · refine wpAny_passesOwn hp (thn (T.done X rfl rfl rfl hc i pins s3 σ3 H3 X.xe I3 (stat fr3) st3 stop) fun r s4 ⟨hr, I4⟩ => ?_)
    subst hr
    exact wpAny_execs_nil ⟨σ3, H3, I4, qn⟩
  · refine wpAny_passesOwn hp (thn (T.item X rfl rfl rfl hc i pins s3 σ3 H3 X.xe I3 (stat fr3) st3 go) fun r s4 ⟨u, hr, h4⟩ => ?_)
    subst hr
    refine wpAny_passesOwn hp (thn h4 fun _ s5 ⟨x, H5, I5, r5, y5, st5, fr5⟩ => ?_)
    have I5' := I5.pinned (stat fr5) (T.obj _ _ st5)
    refine wpAny_passesOwn hp (thn (hg _ s5 σ3 H5 x u _ I5' r5 (step x H5 y5)) fun _ s6 ⟨σ6, H6, I6, q6⟩ => ?_)
    refine wpAny_passesOwn hp (thn (hb _ s6 σ6 H6 _ I6 q6) fun f s7 q7 => ?_)
    have again : ∀ {σ7 : St} {H7 : Hp}, Inv X (pins ++ pinsAt fp s5.heap) σ7 H7 s7 → N σ7 H7 → ∃ m, m < n ∧ ∃ i σ' H', Inv X pins σ' H' s7 ∧ tn i s7.heap ∧ (∀ b ∈ fp, H' b = none) ∧ W i m σ' H' := fun {σ7 H7} I7 n7 => by
      obtain ⟨m', hm, w7⟩ := hN σ7 H7 n7
      refine ⟨m', hm, i + 1, σ7, H7, I7.unpinned, T.keep _ _ _ st5 fun b hb o e => (I7.pin (b, o) (List.mem_append_right _ (List.mem_append_right _ (mem_pinsAt hb e)))).1, fun b hb => ?_, w7⟩
      obtain ⟨o, e, d⟩ := T.obj _ _ st5 b hb
      exact (I7.pin (b, o) (List.mem_append_right _ (List.mem_append_right _ (mem_pinsAt hb e)))).2.1
    cases f with
    | next => obtain ⟨σ7, H7, I7, n7⟩ := q7; exact again I7 n7
    | cont => obtain ⟨σ7, H7, I7, n7⟩ := q7; exact again I7 n7
    | brk => obtain ⟨σ7, H7, I7, q7⟩ := q7; exact ⟨σ7, H7, I7.unpinned, q7⟩
    | ret v => obtain ⟨x7, σ7, H7, I7, r7, q7⟩ := q7; exact ⟨x7, σ7, H7, I7.unpinned, r7, q7⟩
end

/-! ### the forms one uses -/
/-- over a list that the body leaves as it is -/
theorem for_list {K : PySem.W.Frag} {a : Addr} {xs : List V} {g : TG} {tb : TS} {D : Ends} {σ : St} {H : Hp} (Pv : Nat → St → Hp → Prop) (h0 : Pv 0 σ H) (hl : ∀ i σ H, i ≤ xs.length → Pv i σ H → SqL K H a xs)
    (hs : ∀ i x σ H, xs[i]? = some x → Pv i σ H → g x σ H fun σ2 H2 => tb { D with nx := Pv (i + 1), ct := Pv (i + 1), bk := D.nx } σ2 H2) (hd : ∀ σ H, Pv xs.length σ H → D.nx σ H) :
    ∃ W : Nat → Nat → St → Hp → Prop, (∃ m, W 0 m σ H) ∧ ∀ i m σ H, W i m σ H →
      ((Itl K a).stop i H ∧ D.nx σ H) ∨ ((Itl K a).go i H ∧ ∃ N : St → Hp → Prop, (∀ σ' H', N σ' H' → ∃ m', m' < m ∧ W (i + 1) m' σ' H') ∧ ∀ x H', (Itl K a).yld i H x H' → g x σ H' fun σ2 H2 => tb { D with nx := N, ct := N, bk := D.nx } σ2 H2) := by
  refine ⟨fun i m σ H => m = xs.length - i ∧ i ≤ xs.length ∧ Pv i σ H, ⟨xs.length, by simp, Nat.zero_le _, h0⟩, ?_⟩
  rintro i m σ H ⟨rfl, hi, p⟩
  have q := hl i σ H hi p
  by_cases hlt : i < xs.length
  · refine .inr ⟨⟨xs, xs[i], q, by simp [hlt]⟩, Pv (i + 1), fun σ' H' p' => ⟨xs.length - (i + 1), by omega, rfl, hlt, p'⟩, fun x H' y => ?_⟩
    obtain ⟨e, y⟩ := y
    subst e
    exact hs i x σ _ (y xs q) p
  · have e : i = xs.length := by omega
    subst e
    exact .inl ⟨⟨xs, q, Nat.le_refl _⟩, hd σ H p⟩
theorem for_tup {K : PySem.W.Frag} {a : Addr} {xs : List V} {g : TG} {tb : TS} {D : Ends} {σ : St} {H : Hp} (Pv : Nat → St → Hp → Prop) (h0 : Pv 0 σ H) (hl : ∀ i σ H, i ≤ xs.length → Pv i σ H → SqT K H a xs)
    (hs : ∀ i x σ H, xs[i]? = some x → Pv i σ H → g x σ H fun σ2 H2 => tb { D with nx := Pv (i + 1), ct := Pv (i + 1), bk := D.nx } σ2 H2) (hd : ∀ σ H, Pv xs.length σ H → D.nx σ H) :
    ∃ W : Nat → Nat → St → Hp → Prop, (∃ m, W 0 m σ H) ∧ ∀ i m σ H, W i m σ H →
      ((Itt K a).stop i H ∧ D.nx σ H) ∨ ((Itt K a).go i H ∧ ∃ N : St → Hp → Prop, (∀ σ' H', N σ' H' → ∃ m', m' < m ∧ W (i + 1) m' σ' H') ∧ ∀ x H', (Itt K a).yld i H x H' → g x σ H' fun σ2 H2 => tb { D with nx := N, ct := N, bk := D.nx } σ2 H2) := by
  refine ⟨fun i m σ H => m = xs.length - i ∧ i ≤ xs.length ∧ Pv i σ H, ⟨xs.length, by simp, Nat.zero_le _, h0⟩, ?_⟩
  rintro i m σ H ⟨rfl, hi, p⟩
  have q := hl i σ H hi p
  by_cases hlt : i < xs.length
  · refine .inr ⟨⟨xs, xs[i], q, by simp [hlt]⟩, Pv (i + 1), fun σ' H' p' => ⟨xs.length - (i + 1), by omega, rfl, hlt, p'⟩, fun x H' y => ?_⟩
    obtain ⟨e, y⟩ := y
    subst e
    exact hs i x σ _ (y xs q) p
  · have e : i = xs.length := by omega
    subst e
    exact .inl ⟨⟨xs, q, Nat.le_refl _⟩, hd σ H p⟩
theorem for_range {lo : Int} {n : Nat} {g : TG} {tb : TS} {D : Ends} {σ : St} {H : Hp} (Pv : Nat → St → Hp → Prop) (h0 : Pv 0 σ H)
    (hs : ∀ i σ H, i < n → Pv i σ H → g (.int (lo + i)) σ H fun σ2 H2 => tb { D with nx := Pv (i + 1), ct := Pv (i + 1), bk := D.nx } σ2 H2) (hd : ∀ σ H, Pv n σ H → D.nx σ H) :
    ∃ W : Nat → Nat → St → Hp → Prop, (∃ m, W 0 m σ H) ∧ ∀ i m σ H, W i m σ H →
      ((Itr lo n).stop i H ∧ D.nx σ H) ∨ ((Itr lo n).go i H ∧ ∃ N : St → Hp → Prop, (∀ σ' H', N σ' H' → ∃ m', m' < m ∧ W (i + 1) m' σ' H') ∧ ∀ x H', (Itr lo n).yld i H x H' → g x σ H' fun σ2 H2 => tb { D with nx := N, ct := N, bk := D.nx } σ2 H2) := by
  refine ⟨fun i m σ H => m = n - i ∧ i ≤ n ∧ Pv i σ H, ⟨n, by simp, Nat.zero_le _, h0⟩, ?_⟩
  rintro i m σ H ⟨rfl, hi, p⟩
  by_cases hlt : i < n
  · refine .inr ⟨hlt, Pv (i + 1), fun σ' H' p' => ⟨n - (i + 1), by omega, rfl, hlt, p'⟩, fun x H' y => ?_⟩
    obtain ⟨e, y⟩ := y
    subst e y
    exact hs i σ _ hlt p
  · have e : i = n := by omega
    subst e
    exact .inl ⟨Nat.le_refl _, hd σ H p⟩
/-- while, by a word and a measure of the state -/
theorem while_by {c : TT} {tb : TS} {D : Ends} {σ : St} {H : Hp} (Pv : St → Hp → Prop) (μ : St → Hp → Nat) (h0 : Pv σ H)
    (hs : ∀ σ H, Pv σ H → c σ H fun b H1 => if b = true then tb { D with nx := fun σ' H' => Pv σ' H' ∧ μ σ' H' < μ σ H, ct := fun σ' H' => Pv σ' H' ∧ μ σ' H' < μ σ H, bk := D.nx } σ H1 else D.nx σ H1)
    (mono : ∀ σ H Q Q', (∀ b H1, Q b H1 → Q' b H1) → c σ H Q → c σ H Q') : tWhile c tb D σ H := by
  refine ⟨fun m σ H => m = μ σ H ∧ Pv σ H, ⟨_, rfl, h0⟩, ?_⟩
  rintro m σ H ⟨rfl, p⟩
  refine mono σ H _ _ (fun b H1 q => ?_) (hs σ H p)
  cases b with
  | true => exact ⟨_, fun σ' H' ⟨p', l⟩ => ⟨_, l, rfl, p'⟩, q⟩
  | false => exact q
end L2

namespace L2
open PySem PySem.Spec PyProof.Rows

abbrev R2 := V → V → Hp → VK → Prop
/-- a two-place operation on values: f is binaryOp op, inplaceOp op or compareOp op -/
def OpR (X : Cx) (f : Value → Value → Sem Value) (r : R2) : Prop :=
  ∀ (pins : List (Addr × Obj)) (s : Shared) (σ : St) (H : Hp) (x y : V) (v u : Value) (Q : VK), Inv X pins σ H s → RelV x v → RelV y u → r x y H Q →
    wpAny (model X.prog X.w) X.A (f v u) (EP X pins σ Q) X.xe s
/-- a one-place operation -/
def UnR (X : Cx) (f : Value → Sem Value) (r : V → Hp → VK → Prop) : Prop :=
  ∀ (pins : List (Addr × Obj)) (s : Shared) (σ : St) (H : Hp) (x : V) (v : Value) (Q : VK), Inv X pins σ H s → RelV x v → r x H Q →
    wpAny (model X.prog X.w) X.A (f v) (EP X pins σ Q) X.xe s
/-- a call of a value that is known (a builtin, a type) with values -/
def CallR (X : Cx) (f : Value) (r : List V → Hp → VK → Prop) : Prop :=
  ∀ (pins : List (Addr × Obj)) (s : Shared) (σ : St) (H : Hp) (xs : List V) (us : List Value) (Q : VK), Inv X pins σ H s → Vals xs us → r xs H Q →
    wpAny (model X.prog X.w) X.A (call f us) (EP X pins σ Q) X.xe s
/-- a value's truth -/
def TruR (X : Cx) (r : V → Hp → (Bool → Hp → Prop) → Prop) : Prop :=
  ∀ (pins : List (Addr × Obj)) (s : Shared) (σ : St) (H : Hp) (x : V) (v : Value) (Q : Bool → Hp → Prop), Inv X pins σ H s → RelV x v → r x H Q →
    wpAny (model X.prog X.w) X.A (truthy v) (TP X pins σ Q) X.xe s

def tOp (r : R2) (ta tb : TE) : TE := fun σ H Q => ta σ H fun x H1 => tb σ H1 fun y H2 => r x y H2 Q
def tUn (r : V → Hp → VK → Prop) (ta : TE) : TE := fun σ H Q => ta σ H fun x H1 => r x H1 Q
/-- ints in, under C, and a value out -/
def rI (C : Int → Int → Prop) (g : Int → Int → V) : R2 := fun x y H Q => ∃ i j, x = .int i ∧ y = .int j ∧ C i j ∧ Q (g i j) H
def rI0 (g : Int → Int → V) : R2 := fun x y H Q => ∃ i j, x = .int i ∧ y = .int j ∧ Q (g i j) H
def rU (g : Int → V) : V → Hp → VK → Prop := fun x H Q => ∃ i, x = .int i ∧ Q (g i) H

section
variable {X : Cx} {a b c : Expr} {ta tb tc : TE} {pos : Pos}

theorem binT (ha : PE X a ta) (hb : PE X b tb) {pins : List (Addr × Obj)} {s : Shared} {σ : St} {H : Hp} {R : V → V → Hp → Prop} (I : Inv X pins σ H s)
    (h : ta σ H fun x H1 => tb σ H1 fun y H2 => R x y H2) {Q : Value → Shared → Prop} {f : Value → Value → Sem Value}
    (hf : ∀ v u s2 x y H2, Inv X pins σ H2 s2 → RelV x v → RelV y u → R x y H2 → wpAny (model X.prog X.w) X.A (f v u) Q X.xe s2) :
    wpAny (model X.prog X.w) X.A (eval a X.env) (fun v s₁ => wpAny (model X.prog X.w) X.A (eval b X.env) (fun u s₂ => wpAny (model X.prog X.w) X.A (f v u) Q X.xe s₂) X.xe s₁) X.xe s := by
  refine thn (ha pins s σ H _ I h) fun v s1 ⟨x, H1, I1, r1, q1⟩ => ?_
  refine thn (hb pins s1 σ H1 _ I1 q1) fun u s2 ⟨y, H2, I2, r2, q2⟩ => ?_
  exact hf v u s2 x y H2 I2 r1 r2 q2

theorem pe_op {op : Operator} {r : R2} (ho : OpR X (binaryOp op) r) (ha : PE X a ta) (hb : PE X b tb) : PE X (.BinOp a op b pos) (tOp r ta tb) := by
  intro pins s σ H Q I h
  exact wpAny_BinOp (binT ha hb I h fun v u s2 x y H2 I2 rx ry q => ho pins s2 σ H2 x y v u Q I2 rx ry q)
theorem pe_un {op : UnaryOp} {r : V → Hp → VK → Prop} (ho : UnR X (unaryOp op) r) (ha : PE X a ta) : PE X (.UnaryOp op a pos) (tUn r ta) := by
  intro pins s σ H Q I h
  exact UnaryOp_ (thn (ha pins s σ H _ I h) fun v s1 ⟨x, H1, I1, r1, q1⟩ => ho pins s1 σ H1 x v Q I1 r1 q1)
/-- a op= e at a name: the name's slot i -/
theorem augR {op : Operator} {r : R2} (ho : OpR X (inplaceOp op) r) {pins : List (Addr × Obj)} {s : Shared} {σ : St} {H : Hp} {x y : V} {v u : Value} {Q : VK} (I : Inv X pins σ H s)
    (rx : RelV x v) (ry : RelV y u) (q : r x y H Q) : wpAny (model X.prog X.w) X.A (inplaceOp op v u) (EP X pins σ Q) X.xe s := ho pins s σ H x y v u Q I rx ry q

/-! ### ints -/
theorem opI {f : Value → Value → Sem Value} {C : Int → Int → Prop} {g : Int → Int → Int}
    (rule : ∀ (i j : Int) (t u : Tok) (s : Shared) (Q : Value → Shared → Prop) (E : Value → Shared → Prop), C i j → Q (.int (g i j) s.toks) { s with toks := s.toks + 1 } → wpAny (model X.prog X.w) X.A (f (.int i t) (.int j u)) Q E s) :
    OpR X f (rI C fun i j => .int (g i j)) := by
  intro pins s σ H x y v u Q I rx ry h
  obtain ⟨i, j, rfl, rfl, hc, q⟩ := h
  obtain ⟨t, rfl⟩ := rx
  obtain ⟨t', rfl⟩ := ry
  exact rule i j t t' s _ _ hc ⟨.int (g i j), H, I.tok _, ⟨_, rfl⟩, q⟩
theorem opI0 {f : Value → Value → Sem Value} {g : Int → Int → Int}
    (rule : ∀ (i j : Int) (t u : Tok) (s : Shared) (Q : Value → Shared → Prop) (E : Value → Shared → Prop), Q (.int (g i j) s.toks) { s with toks := s.toks + 1 } → wpAny (model X.prog X.w) X.A (f (.int i t) (.int j u)) Q E s) :
    OpR X f (rI0 fun i j => .int (g i j)) := by
  intro pins s σ H x y v u Q I rx ry h
  obtain ⟨i, j, rfl, rfl, q⟩ := h
  obtain ⟨t, rfl⟩ := rx
  obtain ⟨t', rfl⟩ := ry
  exact rule i j t t' s _ _ ⟨.int (g i j), H, I.tok _, ⟨_, rfl⟩, q⟩
theorem opB0 {f : Value → Value → Sem Value} {g : Int → Int → Bool}
    (rule : ∀ (i j : Int) (t u : Tok) (s : Shared) (Q : Value → Shared → Prop) (E : Value → Shared → Prop), Q (.bool (g i j)) s → wpAny (model X.prog X.w) X.A (f (.int i t) (.int j u)) Q E s) :
    OpR X f (rI0 fun i j => .bl (g i j)) := by
  intro pins s σ H x y v u Q I rx ry h
  obtain ⟨i, j, rfl, rfl, q⟩ := h
  obtain ⟨t, rfl⟩ := rx
  obtain ⟨t', rfl⟩ := ry
  exact rule i j t t' s _ _ ⟨.bl (g i j), H, I, rfl, q⟩

def CDiv (i j : Int) : Prop := 0 < j ∧ j < 1073741824
def CDivN (i j : Int) : Prop := j ≠ 0 ∧ j.natAbs < 1073741824
def CPow (i j : Int) : Prop := 0 ≤ j ∧ j ≤ 1000000 ∧ i.natAbs < 2 ^ 64
def CMul (i j : Int) : Prop := (-(2 ^ 64) < i ∧ i < 2 ^ 64) ∨ (-(2 ^ 64) < j ∧ j < 2 ^ 64)
theorem CMul.ok {i j : Int} (h : CMul i j) : IntMulOk i j := by
  rcases h with ⟨h1, h2⟩ | ⟨h1, h2⟩
  · exact .of_left (intBits_le_64 h1 h2)
  · exact .of_right (intBits_le_64 h1 h2)
theorem two_pow_nn (k : Nat) : (0 : Int) ≤ 2 ^ k := by
  rw [two_pow_cast]
  exact Int.natCast_nonneg _

theorem op_add : OpR X (binaryOp .Add) (rI0 fun i j => .int (i + j)) := opI0 fun _ _ _ _ _ _ _ q => add_int q
theorem op_sub : OpR X (binaryOp .Sub) (rI0 fun i j => .int (i - j)) := opI0 fun _ _ _ _ _ _ _ q => sub_int q
theorem op_mul : OpR X (binaryOp .Mult) (rI CMul fun i j => .int (i * j)) := opI fun _ _ _ _ _ _ _ hc q => mul_int q hc.ok
/-- // by a positive divisor -/
theorem op_fdiv : OpR X (binaryOp .FloorDiv) (rI CDiv fun i j => .int (i / j)) := opI fun i j _ _ _ _ _ hc q => by
  have h1 : (0 : Int) < j := hc.1
  have h2 : j < 1073741824 := hc.2
  exact floordiv_int (by omega) (by rw [Int.fdiv_eq_ediv_of_nonneg i (by omega)]; exact q) (.inl (PyProof.noPylong_small (by omega)))
theorem op_fdivN : OpR X (binaryOp .FloorDiv) (rI CDivN fun i j => .int (i.fdiv j)) := opI fun _ _ _ _ _ _ _ hc q => floordiv_int hc.1 q (.inl (PyProof.noPylong_small hc.2))
/-- % by a positive divisor of any size -/
theorem op_mod : OpR X (binaryOp .Mod) (rI (fun _ j => 0 < j) fun i j => .int (i % j)) := opI fun i j _ _ _ _ _ hc q => by
  have h1 : (0 : Int) < j := hc
  exact mod_int' (by omega) (by rw [Int.fmod_eq_emod_of_nonneg i (by omega)]; exact q)
theorem op_modN : OpR X (binaryOp .Mod) (rI (fun _ j => j ≠ 0) fun i j => .int (i.fmod j)) := opI fun _ _ _ _ _ _ _ hc q => mod_int' hc q
theorem op_pow : OpR X (binaryOp .Pow) (rI CPow fun i j => .int (i ^ j.toNat)) := opI fun _ _ _ _ _ _ _ hc q => pow_int_small hc.1 hc.2.1 hc.2.2 q
theorem op_shl : OpR X (binaryOp .LShift) (rI CPow fun i j => .int (i * 2 ^ j.toNat)) := opI fun _ _ _ _ _ _ _ hc q => lshift_int_small hc.1 hc.2.1 hc.2.2 q
theorem op_shr : OpR X (binaryOp .RShift) (rI (fun _ j => 0 ≤ j) fun i j => .int (i / 2 ^ j.toNat)) := opI fun i j _ _ _ _ _ hc q =>
  rshift_int hc (by rw [Int.fdiv_eq_ediv_of_nonneg i (two_pow_nn _)]; exact q)
theorem op_and : OpR X (binaryOp .BitAnd) (rI0 fun i j => .int (Builtin.bitAnd i j)) := opI0 fun _ _ _ _ _ _ _ q => and_int q
theorem op_or : OpR X (binaryOp .BitOr) (rI0 fun i j => .int (Builtin.bitOr i j)) := opI0 fun _ _ _ _ _ _ _ q => or_int q
theorem op_xor : OpR X (binaryOp .BitXor) (rI0 fun i j => .int (Builtin.bitXor i j)) := opI0 fun _ _ _ _ _ _ _ q => xor_int q

theorem iop_add : OpR X (inplaceOp .Add) (rI0 fun i j => .int (i + j)) := opI0 fun _ _ _ _ _ _ _ q => iadd_int q
theorem iop_sub : OpR X (inplaceOp .Sub) (rI0 fun i j => .int (i - j)) := opI0 fun _ _ _ _ _ _ _ q => isub_int q
theorem iop_mul : OpR X (inplaceOp .Mult) (rI CMul fun i j => .int (i * j)) := opI fun _ _ _ _ _ _ _ hc q => imul_int q hc.ok
theorem iop_fdiv : OpR X (inplaceOp .FloorDiv) (rI CDiv fun i j => .int (i / j)) := opI fun i j _ _ _ _ _ hc q => by
  have h1 : (0 : Int) < j := hc.1
  have h2 : j < 1073741824 := hc.2
  exact ifloordiv_int (by omega) (by rw [Int.fdiv_eq_ediv_of_nonneg i (by omega)]; exact q) (.inl (PyProof.noPylong_small (by omega)))
theorem iop_mod : OpR X (inplaceOp .Mod) (rI (fun _ j => 0 < j) fun i j => .int (i % j)) := opI fun i j _ _ _ _ _ hc q => by
  have h1 : (0 : Int) < j := hc
  exact imod_int (by omega) (by rw [Int.fmod_eq_emod_of_nonneg i (by omega)]; exact q)
theorem iop_shl : OpR X (inplaceOp .LShift) (rI CPow fun i j => .int (i * 2 ^ j.toNat)) := opI fun _ _ _ _ _ _ _ hc q => ilshift_int_small hc.1 hc.2.1 hc.2.2 q
theorem iop_shr : OpR X (inplaceOp .RShift) (rI (fun _ j => 0 ≤ j) fun i j => .int (i / 2 ^ j.toNat)) := opI fun i j _ _ _ _ _ hc q =>
  irshift_int hc (by rw [Int.fdiv_eq_ediv_of_nonneg i (two_pow_nn _)]; exact q)
theorem iop_and : OpR X (inplaceOp .BitAnd) (rI0 fun i j => .int (Builtin.bitAnd i j)) := opI0 fun _ _ _ _ _ _ _ q => iand_int q
theorem iop_or : OpR X (inplaceOp .BitOr) (rI0 fun i j => .int (Builtin.bitOr i j)) := opI0 fun _ _ _ _ _ _ _ q => ior_int q
theorem iop_xor : OpR X (inplaceOp .BitXor) (rI0 fun i j => .int (Builtin.bitXor i j)) := opI0 fun _ _ _ _ _ _ _ q => ixor_int q

theorem unI {f : Value → Sem Value} {g : Int → Int}
    (rule : ∀ (i : Int) (t : Tok) (s : Shared) (Q : Value → Shared → Prop) (E : Value → Shared → Prop), Q (.int (g i) s.toks) { s with toks := s.toks + 1 } → wpAny (model X.prog X.w) X.A (f (.int i t)) Q E s) :
    UnR X f (rU fun i => .int (g i)) := by
  intro pins s σ H x v Q I rx h
  obtain ⟨i, rfl, q⟩ := h
  obtain ⟨t, rfl⟩ := rx
  exact rule i t s _ _ ⟨.int (g i), H, I.tok _, ⟨_, rfl⟩, q⟩
theorem un_neg : UnR X (unaryOp .USub) (rU fun i => .int (-i)) := unI fun _ _ _ _ _ q => neg_int q
theorem un_inv : UnR X (unaryOp .Invert) (rU fun i => .int (Builtin.bitNot i)) := unI fun _ _ _ _ _ q => invert_int q

/-! ### bools among ints: n += (a < b) -/
theorem op_add_ib : OpR X (binaryOp .Add) (fun x y H Q => ∃ i k, x = .int i ∧ y = .bl k ∧ Q (.int (i + b2i k)) H) := by
  intro pins s σ H x y v u Q I rx ry h
  obtain ⟨i, k, rfl, rfl, q⟩ := h
  obtain ⟨t, rfl⟩ := rx
  cases ry
  exact add_int_bool ⟨.int (i + b2i k), H, I.tok _, ⟨_, rfl⟩, q⟩
end

/-! ### comparisons -/
/-- the scalars that == tells apart as data does -/
def scal : V → V → Bool
  | .non, .non => true | .non, .int _ => true | .int _, .non => true | .non, .bl _ => true | .bl _, .non => true | .non, .str _ => true | .str _, .non => true
  | .int _, .int _ => true | .bl _, .bl _ => true | .str _, .str _ => true | .byt _, .byt _ => true
  | .int _, .str _ => true | .str _, .int _ => true | .bl _, .str _ => true | .str _, .bl _ => true
  | _, _ => false
def rEq : R2 := fun x y H Q => scal x y = true ∧ Q (.bl (decide (x = y))) H
def rNe : R2 := fun x y H Q => scal x y = true ∧ Q (.bl (!decide (x = y))) H

theorem dec_int {i j : Int} : decide (V.int i = V.int j) = (i == j) := by
  rw [Bool.eq_iff_iff]
  simp
theorem dec_bl {i j : Bool} : decide (V.bl i = V.bl j) = (i == j) := by
  rw [Bool.eq_iff_iff]
  simp
theorem dec_str {i j : Str} : decide (V.str i = V.str j) = (i == j) := by
  rw [Bool.eq_iff_iff]
  simp
theorem dec_byt {i j : Array UInt8} : decide (V.byt i = V.byt j) = (i.toList == j.toList) := by
  rw [Bool.eq_iff_iff]
  cases i
  cases j
  simp

section
variable {X : Cx} {a b c : Expr} {ta tb tc : TE} {pos : Pos}
theorem fin_bl {pins : List (Addr × Obj)} {σ : St} {H : Hp} {s : Shared} {Q : VK} {k k' : Bool} (I : Inv X pins σ H s) (q : Q (.bl k) H) (e : k = k') : EP X pins σ Q (.bool k') s := by
  subst e
  exact ⟨.bl k, H, I, rfl, q⟩
theorem op_eq : OpR X (compareOp .Eq) rEq := by
  intro pins s σ H x y v u Q I rx ry h
  obtain ⟨hs, q⟩ := h
  cases x with
  | non =>
    cases rx
    cases y with
    | non => cases ry; exact PySem.EqNone.eq_none_none (fin_bl I q (by simp))
    | bl j => cases ry; exact PySem.EqNone.eq_none_bool (fin_bl I q (by simp))
    | int j => obtain ⟨t', rfl⟩ := ry; exact PySem.EqNone.eq_none_int (fin_bl I q (by simp))
    | str j => obtain ⟨t', rfl⟩ := ry; exact PySem.EqNone.eq_none_str (fin_bl I q (by simp))
    | _ => exact absurd (show false = true from hs) Bool.false_ne_true
  | bl i =>
    cases rx
    cases y with
    | non => cases ry; exact PySem.EqNone.eq_bool_none (fin_bl I q (by simp))
    | bl j => cases ry; exact eq_bool (fin_bl I q dec_bl)
    | str j => obtain ⟨t', rfl⟩ := ry; exact PySem.EqMixed.eq_bool_str (fin_bl I q (by simp))
    | _ => exact absurd (show false = true from hs) Bool.false_ne_true
  | int i =>
    obtain ⟨t, rfl⟩ := rx
    cases y with
    | non => cases ry; exact PySem.EqNone.eq_int_none (fin_bl I q (by simp))
    | int j => obtain ⟨t', rfl⟩ := ry; exact eq_int (fin_bl I q dec_int)
    | str j => obtain ⟨t', rfl⟩ := ry; exact PySem.EqMixed.eq_int_str (fin_bl I q (by simp))
    | _ => exact absurd (show false = true from hs) Bool.false_ne_true
  | str i =>
    obtain ⟨t, rfl⟩ := rx
    cases y with
    | non => cases ry; exact PySem.EqNone.eq_str_none (fin_bl I q (by simp))
    | bl j => cases ry; exact PySem.EqMixed.eq_str_bool (fin_bl I q (by simp))
    | int j => obtain ⟨t', rfl⟩ := ry; exact PySem.EqMixed.eq_str_int (fin_bl I q (by simp))
    | str j => obtain ⟨t', rfl⟩ := ry; exact eq_str (fin_bl I q dec_str)
    | _ => exact absurd (show false = true from hs) Bool.false_ne_true
  | byt i =>
    obtain ⟨t, rfl⟩ := rx
    cases y with
    | byt j => obtain ⟨t', rfl⟩ := ry; exact PySem.W.eq_bytes (fin_bl I q dec_byt)
    | _ => exact absurd (show false = true from hs) Bool.false_ne_true
  | _ => cases y <;> exact absurd (show false = true from hs) Bool.false_ne_true
theorem op_ne : OpR X (compareOp .NotEq) rNe := by
  intro pins s σ H x y v u Q I rx ry h
  obtain ⟨hs, q⟩ := h
  cases x with
  | non =>
    cases rx
    cases y with
    | non => cases ry; exact PySem.EqNone.ne_none_none (fin_bl I q (by simp))
    | bl j => cases ry; exact PySem.EqNone.ne_none_bool (fin_bl I q (by simp))
    | int j => obtain ⟨t', rfl⟩ := ry; exact PySem.EqNone.ne_none_int (fin_bl I q (by simp))
    | str j => obtain ⟨t', rfl⟩ := ry; exact PySem.EqNone.ne_none_str (fin_bl I q (by simp))
    | _ => exact absurd (show false = true from hs) Bool.false_ne_true
  | bl i =>
    cases rx
    cases y with
    | non => cases ry; exact PySem.EqNone.ne_bool_none (fin_bl I q (by simp))
    | bl j => cases ry; exact ne_bool (fin_bl I q (congrArg not dec_bl))
    | str j => obtain ⟨t', rfl⟩ := ry; exact PySem.EqMixed.ne_bool_str (fin_bl I q (by simp))
    | _ => exact absurd (show false = true from hs) Bool.false_ne_true
  | int i =>
    obtain ⟨t, rfl⟩ := rx
    cases y with
    | non => cases ry; exact PySem.EqNone.ne_int_none (fin_bl I q (by simp))
    | int j => obtain ⟨t', rfl⟩ := ry; exact ne_int (fin_bl I q (congrArg not dec_int))
    | str j => obtain ⟨t', rfl⟩ := ry; exact PySem.EqMixed.ne_int_str (fin_bl I q (by simp))
    | _ => exact absurd (show false = true from hs) Bool.false_ne_true
  | str i =>
    obtain ⟨t, rfl⟩ := rx
    cases y with
    | non => cases ry; exact PySem.EqNone.ne_str_none (fin_bl I q (by simp))
    | bl j => cases ry; exact PySem.EqMixed.ne_str_bool (fin_bl I q (by simp))
    | int j => obtain ⟨t', rfl⟩ := ry; exact PySem.EqMixed.ne_str_int (fin_bl I q (by simp))
    | str j => obtain ⟨t', rfl⟩ := ry; exact ne_str (fin_bl I q (congrArg not dec_str))
    | _ => exact absurd (show false = true from hs) Bool.false_ne_true
  | byt i =>
    obtain ⟨t, rfl⟩ := rx
    cases y with
    | byt j => obtain ⟨t', rfl⟩ := ry; exact PySem.W.ne_bytes (fin_bl I q (congrArg not dec_byt))
    | _ => exact absurd (show false = true from hs) Bool.false_ne_true
  | _ => cases y <;> exact absurd (show false = true from hs) Bool.false_ne_true

theorem op_lt : OpR X (compareOp .Lt) (rI0 fun i j => .bl (decide (i < j))) := opB0 fun _ _ _ _ _ _ _ q => lt_int q
theorem op_le : OpR X (compareOp .LtE) (rI0 fun i j => .bl (decide (i ≤ j))) := opB0 fun _ _ _ _ _ _ _ q => le_int q
theorem op_gt : OpR X (compareOp .Gt) (rI0 fun i j => .bl (decide (j < i))) := opB0 fun _ _ _ _ _ _ _ q => gt_int q
theorem op_ge : OpR X (compareOp .GtE) (rI0 fun i j => .bl (decide (j ≤ i))) := opB0 fun _ _ _ _ _ _ _ q => ge_int q
theorem op_lt_str : OpR X (compareOp .Lt) (fun x y H Q => ∃ i j, x = .str i ∧ y = .str j ∧ Q (.bl (decide (i.cps.toList < j.cps.toList))) H) := by
  intro pins s σ H x y v u Q I rx ry h
  obtain ⟨i, j, rfl, rfl, q⟩ := h
  obtain ⟨t, rfl⟩ := rx
  obtain ⟨t', rfl⟩ := ry
  exact lt_str (fin_bl I q rfl)
/-- the one string within the other -/
theorem op_in_str : OpR X (compareOp .In) (fun x y H Q => ∃ i j, x = .str i ∧ y = .str j ∧ Q (.bl (!(Builtin.Str.occurrences j i 0 j.length 1).isEmpty)) H) := by
  intro pins s σ H x y v u Q I rx ry h
  obtain ⟨i, j, rfl, rfl, q⟩ := h
  obtain ⟨t, rfl⟩ := rx
  obtain ⟨t', rfl⟩ := ry
  exact in_str (fin_bl I q rfl)

/-- is None, is not None: the right side a value none -/
theorem op_isN : OpR X (compareOp .Is) (fun x y H Q => y = .non ∧ Q (.bl (decide (x = .non))) H) := by
  intro pins s σ H x y v u Q I rx ry h
  obtain ⟨rfl, q⟩ := h
  cases ry
  refine is_none_gen (fin_bl I q ?_)
  cases x <;> first
    | (cases rx; rfl)
    | (obtain ⟨t, rfl⟩ := rx; rfl)
theorem op_notN : OpR X (compareOp .IsNot) (fun x y H Q => y = .non ∧ Q (.bl (!decide (x = .non))) H) := by
  intro pins s σ H x y v u Q I rx ry h
  obtain ⟨rfl, q⟩ := h
  cases ry
  refine isnot_none_gen (fin_bl I q ?_)
  cases x <;> first
    | (cases rx; rfl)
    | (obtain ⟨t, rfl⟩ := rx; rfl)

theorem op_notin_str : OpR X (compareOp .NotIn) (fun x y H Q => ∃ i j, x = .str i ∧ y = .str j ∧ Q (.bl (!(!(Builtin.Str.occurrences j i 0 j.length 1).isEmpty))) H) := by
  intro pins s σ H x y v u Q I rx ry h
  obtain ⟨i, j, rfl, rfl, q⟩ := h
  obtain ⟨t, rfl⟩ := rx
  obtain ⟨t', rfl⟩ := ry
  exact notIn_str (fin_bl I q rfl)
/-- is, is not of two objects that are tracked lists or instances -/
def isObj : HO → Bool
  | .lst _ => true
  | .ins _ _ _ => true
  | _ => false
theorem obj_there {pins : List (Addr × Obj)} {s : Shared} {σ : St} {H : Hp} {a : Addr} {o : HO} (I : Inv X pins σ H s) (h : H a = some o) (p : isObj o = true) : ∃ ob, s.heap.get? a = some ob ∧ ob.cls ≠ .type "tuple" := by
  cases o with
  | lst xs =>
    obtain ⟨_, its, n, _, e⟩ : xs.length ≤ sizeLine ∧ ∃ (its : List Value) (n : Nat), Vals xs its ∧ s.heap.get? a = some { cls := .type "list", data := .seq its.toArray n } := I.hok a _ h
    exact ⟨_, e, (by show Value.type "list" ≠ .type "tuple"; decide +kernel)⟩
  | ins C dx fs =>
    have x := I.hok a _ h
    obtain ⟨_, _, _, e, _⟩ := x
    exact ⟨_, e, (by show Value.ref C ≠ .type "tuple"; exact fun z => by cases z)⟩
  | _ => exact absurd (show false = true from p) Bool.false_ne_true
theorem op_is_ref : OpR X (compareOp .Is) (fun x y H Q => ∃ a b oa ob, x = .ref a ∧ y = .ref b ∧ H a = some oa ∧ isObj oa = true ∧ H b = some ob ∧ isObj ob = true ∧ Q (.bl (decide (a = b))) H) := by
  intro pins s σ H x y v u Q I rx ry h
  obtain ⟨a, b, oa, ob, rfl, rfl, ha, pa, hb, pb, q⟩ := h
  cases rx
  cases ry
  obtain ⟨o1, e1, n1⟩ := obj_there I ha pa
  obtain ⟨o2, e2, _⟩ := obj_there I hb pb
  by_cases z : a = b
  · subst z
    exact wpAny_is_ref_self (fin_bl I q (by simp))
  · exact wpAny_is_ref_other z e1 e2 n1 (fin_bl I q (by simp [z]))
theorem op_isnot_ref : OpR X (compareOp .IsNot) (fun x y H Q => ∃ a b oa ob, x = .ref a ∧ y = .ref b ∧ H a = some oa ∧ isObj oa = true ∧ H b = some ob ∧ isObj ob = true ∧ Q (.bl (!decide (a = b))) H) := by
  intro pins s σ H x y v u Q I rx ry h
  obtain ⟨a, b, oa, ob, rfl, rfl, ha, pa, hb, pb, q⟩ := h
  cases rx
  cases ry
  obtain ⟨o1, e1, n1⟩ := obj_there I ha pa
  obtain ⟨o2, e2, _⟩ := obj_there I hb pb
  by_cases z : a = b
  · subst z
    exact wpAny_isNot_ref_self (fin_bl I q (by simp))
  · exact wpAny_isNot_ref_other z e1 e2 n1 (fin_bl I q (by simp [z]))

/-- two rules for one operation: by cases -/
theorem OpR.or {f : Value → Value → Sem Value} {r r' : R2} (h : OpR X f r) (h' : OpR X f r') : OpR X f (fun x y H Q => r x y H Q ∨ r' x y H Q) := by
  intro pins s σ H x y v u Q I rx ry q
  rcases q with q | q
  · exact h pins s σ H x y v u Q I rx ry q
  · exact h' pins s σ H x y v u Q I rx ry q

theorem nomark (b : Expr) {op : CmpOp} (h : op ≠ .In := by decide) (h2 : op ≠ .NotIn := by decide) : behindInMarks op b = false := by
  have e1 : (op == CmpOp.In) = false := by cases op <;> first | rfl | exact absurd rfl h
  have e2 : (op == CmpOp.NotIn) = false := by cases op <;> first | rfl | exact absurd rfl h2
  cases b <;> simp [behindInMarks, e1, e2]
/-- a comparison as a value; hm: nomark b, or (for in, not in) by with_unfolding_all rfl -/
theorem pe_cmpR {op : CmpOp} {r : R2} (ho : OpR X (compareOp op) r) (ha : PE X a ta) (hb : PE X b tb) (hm : behindInMarks op b = false) : PE X (.Compare a [op] [b] pos) (tOp r ta tb) := by
  intro pins s σ H Q I h
  exact wpAny_Compare1 (binT ha hb I h fun v u s2 x y H2 I2 rx ry q => ho pins s2 σ H2 x y v u Q I2 rx ry q) hm
/-- a reading of a value as a test -/
def tTest (t : TE) : TT := fun σ H Q => t σ H fun x H' => ∃ k, x = .bl k ∧ Q k H'
theorem pt_cmpR {op : CmpOp} {r : R2} (ho : OpR X (compareOp op) r) (ha : PE X a ta) (hb : PE X b tb) (hm : behindInMarks op b = false) : PT X (.Compare a [op] [b] pos) (tTest (tOp r ta tb)) := by
  intro pins s σ H Q I h
  refine wpAny_isTrue_Compare1 (thn (ha pins s σ H _ I h) fun v s1 ⟨x, H1, I1, r1, q1⟩ => thn (hb pins s1 σ H1 _ I1 q1) fun u s2 ⟨y, H2, I2, r2, q2⟩ =>
    thn (ho pins s2 σ H2 x y v u _ I2 r1 r2 q2) fun c s3 ⟨z, H3, I3, r3, k, e, q3⟩ => ?_) hm
  subst e
  cases r3
  exact wpAny_truthy_bool ⟨H3, I3, q3⟩
/-- a op1 b op2 c -/
def tChain (r r' : R2) (ta tb tc : TE) : TE := fun σ H Q => ta σ H fun x H1 => tb σ H1 fun y H2 => r x y H2 fun z H3 => ∃ k, z = .bl k ∧
  (if k = true then tc σ H3 fun w' H4 => r' y w' H4 Q else Q (.bl false) H3)
theorem pe_chain {op op' : CmpOp} {r r' : R2} (ho : OpR X (compareOp op) r) (ho' : OpR X (compareOp op') r') (ha : PE X a ta) (hb : PE X b tb) (hc : PE X c tc)
    (hm : lastMarks [op, op'] [b, c] = false := by with_unfolding_all rfl) : PE X (.Compare a [op, op'] [b, c] pos) (tChain r r' ta tb tc) := by
  intro pins s σ H Q I h
  refine Compare_chain (thn (ha pins s σ H _ I h) fun v s1 ⟨x, H1, I1, r1, q1⟩ => chain_link (thn (hb pins s1 σ H1 _ I1 q1) fun u s2 ⟨y, H2, I2, r2, q2⟩ =>
    thn (ho pins s2 σ H2 x y v u _ I2 r1 r2 q2) fun d s3 ⟨z, H3, I3, r3, k, e, q3⟩ => ?_)) hm
  subst e
  cases r3
  refine wpAny_truthy_bool ?_
  cases k with
  | false => exact ite_ff ⟨.bl false, H3, I3, rfl, q3⟩
  | true => exact ite_tt (chain_last (thn (hc pins s3 σ H3 _ I3 q3) fun w' s4 ⟨z', H4, I4, r4, q4⟩ => ho' pins s4 σ H4 y z' u w' Q I4 r2 r4 q4))
theorem pt_chain {op op' : CmpOp} {r r' : R2} (ho : OpR X (compareOp op) r) (ho' : OpR X (compareOp op') r') (ha : PE X a ta) (hb : PE X b tb) (hc : PE X c tc)
    (hm : lastMarks [op, op'] [b, c] = false := by with_unfolding_all rfl) : PT X (.Compare a [op, op'] [b, c] pos) (tTest (tChain r r' ta tb tc)) := by
  intro pins s σ H Q I h
  refine isTrue_chain (thn (ha pins s σ H _ I h) fun v s1 ⟨x, H1, I1, r1, q1⟩ => test_link (thn (hb pins s1 σ H1 _ I1 q1) fun u s2 ⟨y, H2, I2, r2, q2⟩ =>
    thn (ho pins s2 σ H2 x y v u _ I2 r1 r2 q2) fun d s3 ⟨z, H3, I3, r3, k, e, q3⟩ => ?_)) hm
  subst e
  cases r3
  refine wpAny_truthy_bool ?_
  cases k with
  | false =>
    obtain ⟨k', e', q'⟩ := q3
    cases e'
    exact ite_ff ⟨H3, I3, q'⟩
  | true =>
    refine ite_tt (test_last (thn (hc pins s3 σ H3 _ I3 q3) fun w' s4 ⟨z', H4, I4, r4, q4⟩ => thn (ho' pins s4 σ H4 y z' u w' _ I4 r2 r4 q4) fun d' s5 ⟨z2, H5, I5, r5, k2, e2, q5⟩ => ?_))
    subst e2
    cases r5
    exact wpAny_truthy_bool ⟨H5, I5, q5⟩

/-! ### truth -/
/-- a value's truth by the abstract heap -/
def TruV (K : PySem.W.Frag) (x : V) (H : Hp) (k : Bool) : Prop :=
  match x with
  | .non => k = false
  | .bl b => k = b
  | .int i => k = (i != 0)
  | .str y => y.length ≤ sizeLine ∧ k = ((y.length : Int) != 0)
  | .byt y => y.size ≤ sizeLine ∧ k = ((y.size : Int) != 0)
  | .ref p => (∃ xs, SqL K H p xs ∧ k = !xs.isEmpty) ∨ (∃ xs, SqT K H p xs ∧ k = !xs.isEmpty) ∨ ∃ kvs, H p = some (.dK kvs) ∧ k = !kvs.isEmpty
  | _ => False
theorem isEmpty_kv {κ : Type} {kvs : List (κ × V)} {vs : List (κ × Value)} (r : KV kvs vs) : (!vs.isEmpty) = !kvs.isEmpty := by
  cases r <;> rfl
theorem isEmpty_of {xs : List V} {its : List Value} (r : Vals xs its) : (!its.toArray.isEmpty) = !xs.isEmpty := by
  cases r <;> simp
theorem line63 : (sizeLine : Nat) < 2 ^ 63 := by rw [sizeLine_eq]; decide
theorem tru_ok : TruR X (fun x H Q => ∃ k, TruV X.K x H k ∧ Q k H) := by
  intro pins s σ H x v Q I rx h
  obtain ⟨k, e, q⟩ := h
  have hl := line63
  have hs : sizeLine = 16777216 := sizeLine_eq
  cases x with
  | non =>
    cases rx
    have e' : k = false := e
    subst e'
    exact truthy_none ⟨H, I, q⟩
  | bl b =>
    cases rx
    have e' : k = b := e
    subst e'
    exact wpAny_truthy_bool ⟨H, I, q⟩
  | int i =>
    obtain ⟨t, rfl⟩ := rx
    have e' : k = (i != 0) := e
    subst e'
    exact PySem.P.truthy_int ⟨H, I, q⟩
  | str y =>
    obtain ⟨t, rfl⟩ := rx
    obtain ⟨hy, e'⟩ : y.length ≤ sizeLine ∧ k = ((y.length : Int) != 0) := e
    subst e'
    exact PySem.P.truthy_str (by omega) ⟨H, I.tok _, q⟩
  | byt y =>
    obtain ⟨t, rfl⟩ := rx
    obtain ⟨hy, e'⟩ : y.size ≤ sizeLine ∧ k = ((y.size : Int) != 0) := e
    subst e'
    exact PySem.W.truthy_bytes (by omega) ⟨H, I.tok _, q⟩
  | ref p =>
    cases rx
    have e' : (∃ xs, SqL X.K H p xs ∧ k = !xs.isEmpty) ∨ (∃ xs, SqT X.K H p xs ∧ k = !xs.isEmpty) ∨ ∃ kvs, H p = some (.dK kvs) ∧ k = !kvs.isEmpty := e
    rcases e' with ⟨xs, hx, e'⟩ | ⟨xs, hx, e'⟩ | ⟨kvs, hx, e'⟩
    · subst e'
      obtain ⟨its, r, pl, hz⟩ := I.list hx
      have hlen := r.length
      exact wpAny_truthy_list pl.isList (by simp only [List.size_toArray]; omega) ⟨H, I.tok _, by rw [isEmpty_of r]; exact q⟩
    · subst e'
      obtain ⟨its, r, pl, hz⟩ := I.tuple hx
      have hlen := r.length
      exact truthy_tuple pl (by simp only [List.size_toArray]; omega) ⟨H, I.tok _, by rw [isEmpty_of r]; exact q⟩
    · subst e'
      obtain ⟨hz, hS, vs, r, m⟩ : kvs.length ≤ sizeLine ∧ (p == sysModules) = false ∧ ∃ vs, KV kvs vs ∧ s.heap.DictOf (mixKind X.prog X.w) p vs := I.hok p _ hx
      have hlen : kvs.length = vs.length := Paired.length r
      exact wpAny_truthy_dict hS m (by omega) ⟨H, I.tok _, by rw [isEmpty_kv r]; exact q⟩
  | _ => exact (show False from e).elim
/-- any expression whose test is its value's truth (a name, a call, a subscript, a field ..: he by fun _ => rfl) -/
theorem pt_truth (ha : PE X a ta) (he : ∀ whole, isTrue a X.env whole = (do let v ← whole; standAt a.pos; holding [v] (truthy v))) :
    PT X a (fun σ H Q => ta σ H fun x H' => ∃ k, TruV X.K x H' k ∧ Q k H') := by
  intro pins s σ H Q I h
  exact isTrue_plain (thn (ha pins s σ H _ I h) fun v s1 ⟨x, H1, I1, r1, q1⟩ => tru_ok pins s1 σ H1 x v Q I1 r1 q1) (he _)

/-! ### strs and bytes -/
theorem pe_byt {x : List UInt8} {k : Nat} : PE X (.Constant (.bytes x) k pos) (fun _ H Q => Q (.byt x.toArray) H) := fun _ _ _ H _ I h => PySem.W.Constant_bytes ⟨.byt x.toArray, H, I.tok _, ⟨_, rfl⟩, h⟩
theorem op_add_str : OpR X (binaryOp .Add) (fun x y H Q => ∃ i j, x = .str i ∧ y = .str j ∧ i.length + j.length ≤ sizeLine ∧ Q (.str (i ++ j)) H) := by
  intro pins s σ H x y v u Q I rx ry h
  obtain ⟨i, j, rfl, rfl, hz, q⟩ := h
  obtain ⟨t, rfl⟩ := rx
  obtain ⟨t', rfl⟩ := ry
  exact add_str (fun t' tk => ⟨.str (i ++ j), H, I.tok _, ⟨_, rfl⟩, q⟩) hz
theorem iop_add_str : OpR X (inplaceOp .Add) (fun x y H Q => ∃ i j, x = .str i ∧ y = .str j ∧ i.length + j.length ≤ sizeLine ∧ Q (.str (i ++ j)) H) := by
  intro pins s σ H x y v u Q I rx ry h
  obtain ⟨i, j, rfl, rfl, hz, q⟩ := h
  obtain ⟨t, rfl⟩ := rx
  obtain ⟨t', rfl⟩ := ry
  exact iadd_str (fun t' tk => ⟨.str (i ++ j), H, I.tok _, ⟨_, rfl⟩, q⟩) hz
theorem op_add_byt : OpR X (binaryOp .Add) (fun x y H Q => ∃ i j, x = .byt i ∧ y = .byt j ∧ i.size + j.size ≤ 16777216 ∧ Q (.byt (i ++ j)) H) := by
  intro pins s σ H x y v u Q I rx ry h
  obtain ⟨i, j, rfl, rfl, hz, q⟩ := h
  obtain ⟨t, rfl⟩ := rx
  obtain ⟨t', rfl⟩ := ry
  exact PySem.W.KBy.add_bytes hz (fun t' tk => ⟨.byt (i ++ j), H, I.tok _, ⟨_, rfl⟩, q⟩)

def PlainIxT (b : Expr) : Prop := ∀ o i, subscripted b false o i = operate [o, i] (getItem o i)
/-- s[i], 0 ≤ i < len -/
theorem pe_item_str (ha : PE X a ta) (hb : PE X b tb) (hs : PlainIxT b) :
    PE X (.Subscript a b pos) (tOp (fun x y H Q => ∃ z i c, x = .str z ∧ y = .int i ∧ 0 ≤ i ∧ i < 2 ^ 63 ∧ i < z.length ∧ z.cps[i.toNat]? = some c ∧ Q (.str ⟨#[c]⟩) H) ta tb) := by
  intro pins s σ H Q I h
  refine Subscript_ (binT ha hb I h fun v u s2 x y H2 I2 rx ry q => ?_)
  obtain ⟨z, i, c, rfl, rfl, h0, h63, h1, hc, q⟩ := q
  obtain ⟨t, rfl⟩ := rx
  obtain ⟨t', rfl⟩ := ry
  have e : seqIndex? i z.length = some i.toNat := PySem.StrLaws.seqIndex_nonneg h0 h1
  exact tail_any (typeIs_str s2 z t) slot_str_getitem.lookup (getItem_str (c := c) (by
    have e1 : decide (i < -(2 ^ 63 : Int)) = false := decide_eq_false (by omega)
    have e2 : decide (i ≥ 2 ^ 63) = false := decide_eq_false (by omega)
    rw [e1, e2] <;> rfl) (by rw [e]; exact hc) ⟨.str ⟨#[c]⟩, H2, I2.tok _, ⟨_, rfl⟩, q⟩) (hs _ _)
/-- b[i], 0 ≤ i < len -/
theorem pe_item_byt (ha : PE X a ta) (hb : PE X b tb) (hs : PlainIxT b) :
    PE X (.Subscript a b pos) (tOp (fun x y H Q => ∃ (z : List UInt8) (i : Int), x = .byt z.toArray ∧ y = .int i ∧ z.length ≤ sizeLine ∧ 0 ≤ i ∧ i < z.length ∧ Q (.int ((z.getD i.toNat 0).toNat : Nat)) H) ta tb) := by
  intro pins s σ H Q I h
  refine Subscript_ (binT ha hb I h fun v u s2 x y H2 I2 rx ry q => ?_)
  obtain ⟨z, i, rfl, rfl, hz, h0, h1, q⟩ := q
  obtain ⟨t, rfl⟩ := rx
  obtain ⟨t', rfl⟩ := ry
  have hl : sizeLine = 16777216 := sizeLine_eq
  exact tail_any (PySem.W.typeIs_bytes s2 z.toArray t) PySem.W.FB.slot_bytes_getitem.lookup (PySem.W.getItem_bytes (by omega) h0 h1 ⟨.int ((z.getD i.toNat 0).toNat : Nat), H2, I2.tok _, ⟨_, rfl⟩, q⟩) (hs _ _)

/-! ### scalar builtins, by CallR -/
theorem vals1 {x : V} {us : List Value} (r : Vals [x] us) : ∃ u, us = [u] ∧ RelV x u := by
  cases r with
  | cons r1 r2 => cases r2; exact ⟨_, rfl, r1⟩
theorem vals2 {x y : V} {us : List Value} (r : Vals [x, y] us) : ∃ u w', us = [u, w'] ∧ RelV x u ∧ RelV y w' := by
  cases r with
  | cons r1 r2 =>
    cases r2 with
    | cons r3 r4 => cases r4; exact ⟨_, _, rfl, r1, r3⟩
theorem call_abs : CallR X (.builtin "abs") (fun xs H Q => ∃ i, xs = [.int i] ∧ Q (.int (if i < 0 then -i else i)) H) := by
  intro pins s σ H xs us Q I r h
  obtain ⟨i, rfl, q⟩ := h
  obtain ⟨u, rfl, t, rfl⟩ := vals1 r
  exact call_abs_int fun u tk => ⟨.int (if i < 0 then -i else i), H, I.tok _, ⟨_, rfl⟩, q⟩
theorem call_max2 (hc : X.calm = true) : CallR X (.builtin "max") (fun xs H Q => ∃ i j, xs = [.int i, .int j] ∧ Q (.int (if j > i then j else i)) H) := by
  intro pins s σ H xs us Q I r h
  obtain ⟨i, j, rfl, q⟩ := h
  obtain ⟨u, w', rfl, ⟨t, rfl⟩, ⟨t', rfl⟩⟩ := vals2 r
  refine max_two_ints (I.ok.hd hc) fun h' tk k => ⟨_, H, I.kept k, ?_, q⟩
  by_cases hj : j > i
  · rw [if_pos hj, if_pos hj]; exact ⟨_, rfl⟩
  · rw [if_neg hj, if_neg hj]; exact ⟨_, rfl⟩
theorem call_min2 (hc : X.calm = true) : CallR X (.builtin "min") (fun xs H Q => ∃ i j, xs = [.int i, .int j] ∧ Q (.int (if j < i then j else i)) H) := by
  intro pins s σ H xs us Q I r h
  obtain ⟨i, j, rfl, q⟩ := h
  obtain ⟨u, w', rfl, ⟨t, rfl⟩, ⟨t', rfl⟩⟩ := vals2 r
  refine min_two_ints (I.ok.hd hc) fun h' tk k => ⟨_, H, I.kept k, ?_, q⟩
  by_cases hj : j < i
  · rw [if_pos hj, if_pos hj]; exact ⟨_, rfl⟩
  · rw [if_neg hj, if_neg hj]; exact ⟨_, rfl⟩
theorem call_int1 : CallR X (.type "int") (fun xs H Q => (∃ i, xs = [.int i] ∧ Q (.int i) H) ∨ ∃ k, xs = [.bl k] ∧ Q (.int (if k then 1 else 0)) H) := by
  intro pins s σ H xs us Q I r h
  rcases h with ⟨i, rfl, q⟩ | ⟨k, rfl, q⟩
  · obtain ⟨u, rfl, t, rfl⟩ := vals1 r
    exact call_int_int ⟨.int i, H, I, ⟨_, rfl⟩, q⟩
  · obtain ⟨u, rfl, r1⟩ := vals1 r
    cases r1
    exact call_int_bool ⟨.int (if k then 1 else 0), H, I.tok _, ⟨_, rfl⟩, q⟩
theorem call_bool1 : CallR X (.type "bool") (fun xs H Q => (∃ i, xs = [.int i] ∧ Q (.bl (i != 0)) H) ∨ ∃ k, xs = [.bl k] ∧ Q (.bl k) H) := by
  intro pins s σ H xs us Q I r h
  rcases h with ⟨i, rfl, q⟩ | ⟨k, rfl, q⟩
  · obtain ⟨u, rfl, t, rfl⟩ := vals1 r
    exact call_bool_int ⟨.bl (i != 0), H, I, rfl, q⟩
  · obtain ⟨u, rfl, r1⟩ := vals1 r
    cases r1
    exact call_bool_bool ⟨.bl k, H, I, rfl, q⟩
theorem call_str_int : CallR X (.type "str") (fun xs H Q => ∃ i, xs = [.int i] ∧ i.natAbs.log2 < 1920 ∧ Q (.str (toString i)) H) := by
  intro pins s σ H xs us Q I r h
  obtain ⟨i, rfl, hz, q⟩ := h
  obtain ⟨u, rfl, t, rfl⟩ := vals1 r
  exact PySem.P.str_of_int hz ⟨.str _, H, I.tok _, ⟨_, rfl⟩, q⟩
theorem call_ord : CallR X (.builtin "ord") (fun xs H Q => ∃ x, xs = [.str x] ∧ x.length = 1 ∧ Q (.int (x.cps.getD 0 0 : Nat)) H) := by
  intro pins s σ H xs us Q I r h
  obtain ⟨x, rfl, hz, q⟩ := h
  obtain ⟨u, rfl, t, rfl⟩ := vals1 r
  exact ord_of_one hz ⟨.int _, H, I.tok _, ⟨_, rfl⟩, q⟩
theorem call_chr : CallR X (.builtin "chr") (fun xs H Q => ∃ i, xs = [.int i] ∧ 0 ≤ i ∧ i ≤ 1114111 ∧ Q (.str ⟨#[i.toNat]⟩) H) := by
  intro pins s σ H xs us Q I r h
  obtain ⟨i, rfl, h0, h1, q⟩ := h
  obtain ⟨u, rfl, t, rfl⟩ := vals1 r
  exact chr_of_range h0 h1 ⟨.str _, H, I.tok _, ⟨_, rfl⟩, q⟩
/-- len of a str, a bytes, a list, a tuple -/
def LenV (K : PySem.W.Frag) (x : V) (H : Hp) (n : Nat) : Prop :=
  match x with
  | .str y => y.length ≤ sizeLine ∧ n = y.length
  | .byt y => y.size ≤ sizeLine ∧ n = y.size
  | .ref p => (∃ xs, SqL K H p xs ∧ n = xs.length) ∨ ∃ xs, SqT K H p xs ∧ n = xs.length
  | _ => False
theorem call_len : CallR X (.builtin "len") (fun xs H Q => ∃ x n, xs = [x] ∧ LenV X.K x H n ∧ Q (.int n) H) := by
  intro pins s σ H xs us Q I r h
  obtain ⟨x, n, rfl, e, q⟩ := h
  obtain ⟨u, rfl, rx⟩ := vals1 r
  have hl := line63
  have hs : sizeLine = 16777216 := sizeLine_eq
  cases x with
  | str y =>
    obtain ⟨t, rfl⟩ := rx
    obtain ⟨hy, e'⟩ : y.length ≤ sizeLine ∧ n = y.length := e
    subst e'
    exact len_str (by omega) ⟨.int _, H, I.tok _, ⟨_, rfl⟩, q⟩
  | byt y =>
    obtain ⟨t, rfl⟩ := rx
    obtain ⟨hy, e'⟩ : y.size ≤ sizeLine ∧ n = y.size := e
    subst e'
    exact PySem.W.len_bytes (by omega) ⟨.int _, H, I.tok _, ⟨_, rfl⟩, q⟩
  | ref p =>
    cases rx
    have e' : (∃ xs, SqL X.K H p xs ∧ n = xs.length) ∨ ∃ xs, SqT X.K H p xs ∧ n = xs.length := e
    rcases e' with ⟨xs, hx, e'⟩ | ⟨xs, hx, e'⟩
    · subst e'
      obtain ⟨its, r', pl, hz⟩ := I.list hx
      have hlen := r'.length
      exact Calls.call_len_list pl.isList (by simp only [List.size_toArray]; omega) ⟨.int xs.length, H, I.tok _, ⟨_, by simp only [List.size_toArray]; rw [hlen]⟩, q⟩
    · subst e'
      obtain ⟨its, r', pl, hz⟩ := I.tuple hx
      have hlen := r'.length
      exact len_tuple pl (by simp only [List.size_toArray]; omega) ⟨.int xs.length, H, I.tok _, ⟨_, by simp only [List.size_toArray]; rw [hlen]⟩, q⟩
  | _ => exact (show False from e).elim
/-- divmod: a new tuple -/
theorem call_divmod : CallR X (.builtin "divmod") (fun xs H Q => ∃ i j, xs = [.int i, .int j] ∧ CDiv i j ∧ ∀ p, H p = none → Q (.ref p) (upd H p (.tup [.int (i / j), .int (i % j)]))) := by
  intro pins s σ H xs us Q I r h
  obtain ⟨i, j, rfl, ⟨h1, h2⟩, q⟩ := h
  obtain ⟨u, w', rfl, ⟨t, rfl⟩, ⟨t', rfl⟩⟩ := vals2 r
  refine divmod_int (by omega) ?_ (.inl (PyProof.noPylong_small (by omega)))
  rw [Int.fdiv_eq_ediv_of_nonneg i (by omega), Int.fmod_eq_emod_of_nonneg i (by omega)]
  have hn : H s.heap.objs.size = none := I.hok.fresh (Nat.le_refl _)
  refine ⟨.ref s.heap.objs.size, _, ?_, rfl, q _ hn⟩
  refine I.laid (fun b o e => Heap.get?_push_of_some _ e) (Nat.le_refl _) ⟨by simp only [List.length_cons, List.length_nil]; rw [sizeLine_eq]; decide, [.int (i / j) s.toks, .int (i % j) (s.toks + 1)], .cons ⟨_, rfl⟩ (.cons ⟨_, rfl⟩ .nil), ?_⟩
  exact ⟨_, Heap.get?_push_size s.heap rfl, rfl, 0, rfl⟩
end
end L2

namespace L2
open PySem PySem.Spec PyProof.Rows

/-! ### an instance, its attributes a map -/
structure ObjM (h : Heap) (x dx C : Addr) (mA : Str → Option Value) : Prop where
  obj : h.get? x = some (PySem.W.instObj C dx)
  ns : h.Ns1 dx mA
  ne : dx ≠ x

theorem lookIn_ns {h : Heap} {dx : Addr} {mA : Str → Option Value} (n : h.Ns1 dx mA) : ∃ od, h.get? dx = some od ∧ ∀ name, PySem.W.lookIn name od = some (mA name) := by
  obtain ⟨o, es, ep, ho, hd, hk, _, hm⟩ := n
  refine ⟨o, ho, fun name => ?_⟩
  have e := hm name
  unfold nsFind findBy at e
  rw [← Array.find?_toList] at e
  unfold PySem.W.lookIn
  rw [hd]
  dsimp only
  split
  · rename_i y q
    rw [q] at e
    exact congrArg some e
  · rename_i q
    rw [q] at e
    have a : es.toList.any (·.refKey) = false := by
      rw [List.any_eq_false]
      intro y hy
      obtain ⟨z, t, hkey⟩ := hk y (Array.mem_toList_iff.mp hy)
      simp [DictEntry.refKey, hkey]
    have a' : ¬ es.toList.any (·.refKey) = true := by rw [a]; exact Bool.false_ne_true
    rw [if_neg a']
    exact congrArg some e

theorem ObjM.look {h : Heap} {x dx C : Addr} {mA : Str → Option Value} (I : ObjM h x dx C mA) : ∃ od, PySem.W.InstAt h x (PySem.W.instObj C dx) C (some od) ∧ ∀ name, PySem.W.lookIn name od = some (mA name) :=
  let ⟨od, ho, hl⟩ := lookIn_ns I.ns
  ⟨od, ⟨I.obj, rfl, rfl, ho⟩, hl⟩

section
variable {prog : Program} {w : World} {A : Around} {E : Value → Shared → Prop} {s : Shared} {K : PySem.W.Frag} {x dx C f : Addr} {mA : Str → Option Value} {name : Str} {v : Value}

theorem get_map {expr : Bool} {Q : Value → Shared → Prop} (X : K.In s.heap) (I : ObjM s.heap x dx C mA) (hg : PySem.W.plainGet K C name = true) (hh : PySem.W.hasDictIn K C = true)
    (ha : PySem.W.findIn K (.ref C) name = some none) (hv : mA name = some v) (hv' : PySem.W.handedIn v = true) (h : Q v { s with toks := s.toks + 1 }) :
    wpAny (model prog w) A (getAttr (.ref x) name expr) Q E s := by
  obtain ⟨od, J, hl⟩ := I.look
  exact PySem.W.get_value X J (PySem.W.plainGet_of hg).1 (PySem.W.findObj_own hh ha rfl (by rw [hl, hv])) hv' h

theorem get_const {expr : Bool} {a : Value} {Q : Value → Shared → Prop} (X : K.In s.heap) (I : ObjM s.heap x dx C mA) (hg : PySem.W.plainGet K C name = true) (hh : PySem.W.hasDictIn K C = true)
    (ha : PySem.W.findIn K (.ref C) name = some (some a)) (hn : PySem.W.specialIn K a "__get__" = some none) (hc : PySem.W.copiedNames.contains name = false) (hv : mA name = none) (hv' : PySem.W.handedIn a = true)
    (h : Q a { s with toks := s.toks + 1 }) : wpAny (model prog w) A (getAttr (.ref x) name expr) Q E s := by
  obtain ⟨od, J, hl⟩ := I.look
  exact PySem.W.get_value X J (PySem.W.plainGet_of hg).1 (PySem.W.findObj_cls hh ha hn hv' hc (by rw [hl, hv])) hv' h

theorem get_meth {pl : Sem Bool} {Q : Value × List Value → Shared → Prop} (X : K.In s.heap) (I : ObjM s.heap x dx C mA) (hg : PySem.W.plainGet K C name = true)
    (hf : PySem.W.findIn K (.ref C) name = some (some (.ref f))) (ht : PySem.W.isFn K (.ref f) = true) (hv : mA name = none) (h : Q (.ref f, [.ref x]) s) :
    wpAny (model prog w) A (getMethod (.ref x) name pl) Q E s := by
  obtain ⟨od, J, hl⟩ := I.look
  exact PySem.W.method_fn X J (PySem.W.plainGet_of hg).1 (PySem.W.plainGet_of hg).2 hf (beq_iff_eq.mp ht) (by show (PySem.W.lookIn name od).map (·.isSome) = some false; rw [hl, hv]; rfl) h

theorem set_map {ns : List Str} {Q : Unit → Shared → Prop} (X : K.In s.heap) (I : ObjM s.heap x dx C mA)
    (hs : PySem.W.findIn K (.ref C) "__setattr__" = some (some (.builtin "object.__setattr__"))) (hp : PySem.W.plainOver K C = true) (ht : PySem.W.takerIn K C name = some none) (hh : PySem.W.hasDictIn K C = true)
    (hw : PySem.Within mA ns) (hsz : ns.length ≤ sizeLine)
    (h : ∀ h', ObjM h' x dx C (fun y => if y = name then some v else mA y) → Heap.SameBut dx s.heap h' → Q () { s with heap := h', toks := s.toks + 2 }) :
    wpAny (model prog w) A (setAttr (.ref x) name v) Q E s := by
  obtain ⟨od, J, hl⟩ := I.look
  refine PySem.W.set_plain X J hs (PySem.W.osa_open (s := { s with toks := s.toks + 1 }) (r := none) X J hp ht fun b => ?_)
  obtain ⟨cd, hc, hd'⟩ := PySem.W.any_some hh
  have hx : s.heap.get? x = some ⟨.ref C, some dx, .plain, #[]⟩ := I.obj
  refine wpAny_bind (wpAny_pure (wpAny_bind (wpAny_bind (wpAny_loadPart hx (wpAny_bind (PySem.W.Looks.here (s := { s with toks := s.toks + 1 }) (PySem.W.looks_clsIn X hc) ?_))))))
  rw [hd']
  refine wpAny_pure (a := some dx) (wpAny_bind (wpAny_pure (wpAny_bind ?_)))
  refine wpAny_nsSet1 (s := { s with toks := s.toks + 1 }) I.ns fun h' hn2 hs2 => ?_
  obtain ⟨oD, esD, epD, hoD, hdD, hcD⟩ := hn2.count (PySem.Within.cons name v hw)
  refine wpAny_bind (wpAny_lookBehind hoD (by rw [hdD]; exact pastItsLine_dict (Nat.le_trans hcD (by rw [List.length_cons]; omega))) ?_)
  exact wpAny_pure (h _ ⟨(hs2.2 _ (Ne.symm I.ne)).trans I.obj, hn2, I.ne⟩ hs2)

/-- C(..): the dict at the heap's end, the instance behind it; then its __init__ -/
theorem make_map {R : Result → Shared → Prop} {vs : List Value} {kw : List (Str × Value)} (X : K.In s.heap) (hm : PySem.W.makesIn K C = true)
    (hi : PySem.W.findIn K (.ref C) "__init__" = some (some (.ref f))) (hf : PySem.W.typeIn K (.ref f) = some (.type "function"))
    (h : codeAny (model prog w) (A.under (.builtin "type.__call__" ⟨.ref C :: vs, kw⟩)) (.call (.ref f) ⟨.ref (s.heap.objs.size + 1) :: vs, kw⟩) (PySem.W.InitBack (s.heap.objs.size + 1) R)
      { s with heap := (s.heap.push PySem.W.emptyDict).push (PySem.W.instObj C s.heap.objs.size) }) :
    codeAny (model prog w) A (.call (.ref C) ⟨vs, kw⟩) R s := by
  obtain ⟨hh, g, d, t, os⟩ := s
  exact PySem.W.make_core (PySem.W.makes_of X hm) (PySem.W.looks_findIn X hi) (fun self => PySem.W.bind_fn X self hf) (.inl rfl) h
/-- C() where there is no __init__ but object's -/
theorem make_map0 {R : Result → Shared → Prop} (X : K.In s.heap) (hm : PySem.W.makesIn K C = true)
    (hi : PySem.W.findIn K (.ref C) "__init__" = some (some (.builtin "object.__init__")))
    (hb : ∀ self, PySem.W.Looks (model prog w) s.heap (bindSpecial (.builtin "object.__init__") self) (.builtin "object.__init__", [self]))
    (h : codeAny (model prog w) (A.under (.builtin "type.__call__" ⟨[.ref C], []⟩)) (.call (.builtin "object.__init__") ⟨[.ref (s.heap.objs.size + 1)], []⟩) (PySem.W.InitBack (s.heap.objs.size + 1) R)
      { s with heap := (s.heap.push PySem.W.emptyDict).push (PySem.W.instObj C s.heap.objs.size) }) :
    codeAny (model prog w) A (.call (.ref C) ⟨[], []⟩) R s := by
  obtain ⟨hh, g, d, t, os⟩ := s
  exact PySem.W.make_core (PySem.W.makes_of X hm) (PySem.W.looks_findIn X hi) hb (.inr ⟨rfl, rfl⟩) h
end

/-! ### the attributes as a list of pairs -/
def putF (f : Str) (v : V) : List (Str × V) → List (Str × V)
  | [] => [(f, v)]
  | (g, x) :: r => if g = f then (g, v) :: r else (g, x) :: putF f v r
theorem lookup_putF (f g : Str) (v : V) : ∀ fs : List (Str × V), (putF f v fs).lookup g = if g = f then some v else fs.lookup g
  | [] => by
    show List.lookup g [(f, v)] = _
    by_cases h : g = f
    · have hb : (g == f) = true := beq_iff_eq.mpr h
      simp only [List.lookup, hb, if_pos h]
    · have hb : (g == f) = false := beq_eq_false_iff_ne.mpr h
      simp only [List.lookup, hb, if_neg h]
  | (k, x) :: r => by
    have ih := lookup_putF f g v r
    rw [show putF f v ((k, x) :: r) = (if k = f then (k, v) :: r else (k, x) :: putF f v r) from rfl]
    by_cases hk : k = f
    · rw [if_pos hk]
      by_cases h : g = k
      · have hb : (g == k) = true := beq_iff_eq.mpr h
        simp only [List.lookup, hb, if_pos (h.trans hk)]
      · have hb : (g == k) = false := beq_eq_false_iff_ne.mpr h
        simp only [List.lookup, hb, if_neg (fun e : g = f => h (e.trans hk.symm))]
    · rw [if_neg hk]
      by_cases h : g = k
      · have hb : (g == k) = true := beq_iff_eq.mpr h
        simp only [List.lookup, hb, if_neg (fun e : g = f => hk (h.symm.trans e))]
      · have hb : (g == k) = false := beq_eq_false_iff_ne.mpr h
        simp only [List.lookup, hb]
        exact ih
theorem keys_putF (f : Str) (v : V) : ∀ fs : List (Str × V), f ∈ (putF f v fs).map (·.1) ∧ ∀ g, g ∈ fs.map (·.1) → g ∈ (putF f v fs).map (·.1)
  | [] => ⟨by simp [putF], fun g h => by simp at h⟩
  | (k, x) :: r => by
    obtain ⟨i1, i2⟩ := keys_putF f v r
    rw [show putF f v ((k, x) :: r) = (if k = f then (k, v) :: r else (k, x) :: putF f v r) from rfl]
    by_cases hk : k = f
    · rw [if_pos hk]
      subst hk
      exact ⟨by simp, fun g h => by simpa using h⟩
    · rw [if_neg hk]
      refine ⟨?_, fun g h => ?_⟩
      · rw [List.map_cons]
        exact List.mem_cons_of_mem _ i1
      · rw [List.map_cons] at h ⊢
        rcases List.mem_cons.mp h with e | e
        · exact List.mem_cons.mpr (.inl e)
        · exact List.mem_cons_of_mem _ (i2 g e)
theorem length_putF (f : Str) (v : V) : ∀ fs : List (Str × V), (putF f v fs).length ≤ fs.length + 1
  | [] => by simp [putF]
  | (k, x) :: r => by
    have ih := length_putF f v r
    rw [show putF f v ((k, x) :: r) = (if k = f then (k, v) :: r else (k, x) :: putF f v r) from rfl]
    by_cases hk : k = f
    · rw [if_pos hk, List.length_cons, List.length_cons]; omega
    · rw [if_neg hk, List.length_cons, List.length_cons]; omega

theorem RelO.some_of {v : V} {o : Option Value} (r : RelO (some v) o) : ∃ u, o = some u ∧ RelV v u := by
  cases o with
  | none => exact (show False from r).elim
  | some u => exact ⟨u, rfl, r⟩
theorem RelO.none_of {o : Option Value} (r : RelO none o) : o = none := by
  cases o with
  | none => rfl
  | some u => exact (show False from r).elim
theorem handed_of {v : V} {u : Value} (r : RelV v u) : PySem.W.handedIn u = true := by
  cases v with
  | non => cases (show u = Value.none from r); rfl
  | bl b => cases (show u = Value.bool b from r); rfl
  | int i => obtain ⟨t, e⟩ := (show ∃ t, u = Value.int i t from r); cases e; rfl
  | str x => obtain ⟨t, e⟩ := (show ∃ t, u = Value.str x t from r); cases e; rfl
  | byt b => obtain ⟨t, e⟩ := (show ∃ t, u = Value.bytes b t from r); cases e; rfl
  | flt b => obtain ⟨t, e⟩ := (show ∃ t, u = Value.float b t from r); cases e; rfl
  | ref a => cases (show u = Value.ref a from r); rfl
  | ty n => cases (show u = Value.type n from r); rfl

section
variable {P : Program} {w : World} {H H' : Hp} {h h' : Heap} {a C dx : Addr} {fs fs' : List (Str × V)}
theorem ins_get (hok : HOk P w H h) (e : H a = some (.ins C dx fs)) : ∃ mA, ObjM h a dx C mA ∧ (∀ f, RelO (fs.lookup f) (mA f)) ∧ PySem.Within mA (fs.map (·.1)) ∧ fs.length ≤ 1000 ∧ H dx = some (.own a) := by
  obtain ⟨d, z, ne, ob, mA, n, r, q⟩ := (show ObjOk P w H h a (.ins C dx fs) from hok a _ e)
  exact ⟨mA, ⟨ob, n, ne⟩, r, q, z, d⟩
end

/-! ### what of the text a class must have -/
structure Cls (K : PySem.W.Frag) (C : Addr) : Prop where
  pg : PySem.W.plainGet K C Str.empty = true
  hd : PySem.W.hasDictIn K C = true
  po : PySem.W.plainOver K C = true
  sa : PySem.W.findIn K (.ref C) "__setattr__" = some (some (.builtin "object.__setattr__"))
theorem Cls.get {K : PySem.W.Frag} {C : Addr} (c : Cls K C) (f : Str) : PySem.W.plainGet K C f = true := c.pg
/-- no class of it has the name -/
def NoAttr (K : PySem.W.Frag) (C : Addr) (f : Str) : Prop := PySem.W.findIn K (.ref C) f = some none
theorem NoAttr.taker {K : PySem.W.Frag} {C : Addr} {f : Str} (n : NoAttr K C f) : PySem.W.takerIn K C f = some none := by
  unfold PySem.W.takerIn
  rw [show PySem.W.findIn K (.ref C) f = some none from n]
  rfl
/-- a constant of the class -/
structure Con (K : PySem.W.Frag) (C : Addr) (f : Str) (v : V) (u : Value) : Prop where
  at_ : PySem.W.findIn K (.ref C) f = some (some u)
  rel : RelV v u
  get : PySem.W.specialIn K u "__get__" = some none
  cp : PySem.W.copiedNames.contains f = false
/-- a method: a plain def of the class or of one above it -/
structure Meth (K : PySem.W.Frag) (C : Addr) (m : Str) (f : Addr) : Prop where
  at_ : PySem.W.findIn K (.ref C) m = some (some (.ref f))
  fn : PySem.W.isFn K (.ref f) = true
  kp : PySem.W.keepIn K (.ref f) = true

section
variable {X : Cx} {pins : List (Addr × Obj)} {σ : St} {H : Hp} {s : Shared} {a C dx : Addr} {fs : List (Str × V)} {f : Str} {v : V} {A : Around} {E : Value → Shared → Prop}

theorem getattr_ok {b : Bool} {Q : Value → Shared → Prop} (I : Inv X pins σ H s) (e : H a = some (.ins C dx fs)) (c : Cls X.K C) (n : NoAttr X.K C f) (l : fs.lookup f = some v)
    (h : ∀ u s', Inv X pins σ H s' → RelV v u → Q u s') : wpAny (model X.prog X.w) A (getAttr (.ref a) f b) Q E s := by
  obtain ⟨mA, O, r, _, _, _⟩ := ins_get I.hok e
  obtain ⟨u, hu, ru⟩ := RelO.some_of (v := v) (o := mA f) (by rw [← l]; exact r f)
  exact get_map I.kIn O (c.get f) c.hd n hu (handed_of ru) (h u _ (I.tok _) ru)

theorem getcon_ok {b : Bool} {u : Value} {Q : Value → Shared → Prop} (I : Inv X pins σ H s) (e : H a = some (.ins C dx fs)) (c : Cls X.K C) (k : Con X.K C f v u) (l : fs.lookup f = none)
    (h : ∀ s', Inv X pins σ H s' → Q u s') : wpAny (model X.prog X.w) A (getAttr (.ref a) f b) Q E s := by
  obtain ⟨mA, O, r, _, _, _⟩ := ins_get I.hok e
  have hn : mA f = none := RelO.none_of (by rw [← l]; exact r f)
  exact get_const I.kIn O (c.get f) c.hd k.at_ k.get k.cp hn (handed_of k.rel) (h _ (I.tok _))

theorem getmeth_ok {m : Str} {g : Addr} {pl : Sem Bool} {Q : Value × List Value → Shared → Prop} (I : Inv X pins σ H s) (e : H a = some (.ins C dx fs)) (c : Cls X.K C) (k : Meth X.K C m g) (l : fs.lookup m = none)
    (h : Q (.ref g, [.ref a]) s) : wpAny (model X.prog X.w) A (getMethod (.ref a) m pl) Q E s := by
  obtain ⟨mA, O, r, _, _, _⟩ := ins_get I.hok e
  have hn : mA m = none := RelO.none_of (by rw [← l]; exact r m)
  exact get_meth I.kIn O (c.get m) k.at_ k.fn hn h

theorem setattr_ok {y : V} {u : Value} {Q : Unit → Shared → Prop} (I : Inv X pins σ H s) (e : H a = some (.ins C dx fs)) (c : Cls X.K C) (n : NoAttr X.K C f) (hl : fs.length < 1000) (ry : RelV y u)
    (h : ∀ s', Inv X pins σ (upd H a (.ins C dx (putF f y fs))) s' → Q () s') : wpAny (model X.prog X.w) A (setAttr (.ref a) f u) Q E s := by
  obtain ⟨mA, O, r, wi, _, ho⟩ := ins_get I.hok e
  have hz : (fs.map (·.1)).length ≤ sizeLine := by rw [List.length_map, sizeLine_eq]; omega
  refine set_map I.kIn O c.sa c.po n.taker c.hd wi hz fun h' O' sb => h _ ?_
  have hd : ∃ o, h'.get? dx = some o := let ⟨o, _, _, e', _⟩ := O'.ns; ⟨o, e'⟩
  refine I.write (x := a) (e := dx) (by rw [e]; exact True.intro) (.inr ho) (fun b q hb z => (sb.2 b hb).trans z) hd ?_
  refine ⟨by rw [upd_ne O.ne]; exact ho, ?_, O.ne, O'.obj, _, O'.ns, fun g => ?_, fun g hg => ?_⟩
  · have := length_putF f y fs; omega
  · show RelO ((putF f y fs).lookup g) (if g = f then some u else mA g)
    rw [lookup_putF]
    by_cases q : g = f
    · rw [if_pos q, if_pos q]; exact ry
    · rw [if_neg q, if_neg q]; exact r g
  · by_cases q : g = f
    · rw [q]; exact (keys_putF f y fs).1
    · refine (keys_putF f y fs).2 g (wi g fun z => hg ?_)
      show (if g = f then some u else mA g) = none
      rw [if_neg q]; exact z

/-- a new instance, tracked, without attributes -/
theorem Inv.made (I : Inv X pins σ H s) : Inv X pins σ (upd (upd H s.heap.objs.size (.own (s.heap.objs.size + 1))) (s.heap.objs.size + 1) (.ins C s.heap.objs.size []))
    { s with heap := (s.heap.push PySem.W.emptyDict).push (PySem.W.instObj C s.heap.objs.size) } := by
  have e1 : (s.heap.push PySem.W.emptyDict).get? s.heap.objs.size = some PySem.W.emptyDict := Heap.get?_push_size s.heap rfl
  have e2 : ((s.heap.push PySem.W.emptyDict).push (PySem.W.instObj C s.heap.objs.size)).get? (s.heap.objs.size + 1) = some (PySem.W.instObj C s.heap.objs.size) := by
    have := Heap.get?_push_size (s.heap.push PySem.W.emptyDict) (o := PySem.W.instObj C s.heap.objs.size) rfl
    rwa [Heap.size_push] at this
  have e3 : (s.heap.push PySem.W.emptyDict).Ns s.heap.objs.size (fun _ => none) := ⟨PySem.W.emptyDict, #[], _, e1, rfl, (fun e he => absurd he (by simp)), fun _ => rfl⟩
  have I1 := I.laid (a := s.heap.objs.size) (o := .own (s.heap.objs.size + 1)) (h' := s.heap.push PySem.W.emptyDict) (t' := s.toks) (fun b u q => Heap.get?_push_of_some _ q) (Nat.le_refl _) ⟨_, e1⟩
  refine I1.laid (a := s.heap.objs.size + 1) (o := .ins C s.heap.objs.size []) (t' := s.toks) (fun b u q => Heap.get?_push_of_some _ q) (Nat.le_of_eq (Heap.size_push _ _)) ?_
  have ne : s.heap.objs.size ≠ s.heap.objs.size + 1 := Nat.ne_of_lt (Nat.lt_succ_self _)
  refine ⟨by rw [upd_ne ne, upd_same], Nat.zero_le _, ne, e2, fun _ => none, (Heap.Ns1.of_empty e3).at fun o q => Heap.get?_push_of_some _ q, fun _ => True.intro, fun y hy => absurd rfl hy⟩

/-- e.f where nothing but the object is asked: through attributeBase (super) and the last hold -/
theorem attr_of {prog : Program} {w : World} {env : Env} {e : Expr} {f : Str} {pos : Pos} {s : Shared} {Q : Value → Shared → Prop} (hb : attributeBase e f env (eval e env) = eval e env)
    (h : wpAny (model prog w) A (eval e env) (fun o s₁ => wpAny (model prog w) A (getAttr o f true) Q E s₁) E s) : wpAny (model prog w) A (eval (.Attribute e f pos) env) Q E s :=
  Attribute_any_ h (by rw [arm_eval_Attribute, hb])
end

/-! ### readings and rules -/
/-- e.f, an attribute of the instance -/
def tFld (K : PySem.W.Frag) (ta : TE) (f : Str) : TE := fun σ H Q => ta σ H fun x H1 => ∃ a C dx fs v, x = .ref a ∧ H1 a = some (.ins C dx fs) ∧ Cls K C ∧ NoAttr K C f ∧ fs.lookup f = some v ∧ Q v H1
/-- e.f, a constant of the class -/
def tCon (K : PySem.W.Frag) (ta : TE) (f : Str) : TE := fun σ H Q => ta σ H fun x H1 => ∃ a C dx fs v u, x = .ref a ∧ H1 a = some (.ins C dx fs) ∧ Cls K C ∧ Con K C f v u ∧ fs.lookup f = none ∧ Q v H1
/-- e.f = value -/
def sFld (K : PySem.W.Frag) (ta tv : TE) (f : Str) : TS := fun D σ H => tv σ H fun y H1 => ta σ H1 fun x H2 => ∃ a C dx fs, x = .ref a ∧ H2 a = some (.ins C dx fs) ∧ Cls K C ∧ NoAttr K C f ∧ fs.length < 1000 ∧
  D.nx σ (upd H2 a (.ins C dx (putF f y fs)))
/-- an augmented operator on two values -/
def InOp (X : Cx) (op : Operator) (rd : V → V → Hp → VK → Prop) : Prop :=
  ∀ (pins : List (Addr × Obj)) (s : Shared) (σ : St) (H : Hp) (x y : V) (u v : Value) (Q : VK), Inv X pins σ H s → RelV x u → RelV y v → rd x y H Q → wpAny (model X.prog X.w) X.A (inplaceOp op u v) (EP X pins σ Q) X.xe s
/-- e.f op= value -/
def sFldAug (K : PySem.W.Frag) (ta tv : TE) (rd : V → V → Hp → VK → Prop) (f : Str) : TS := fun D σ H => ta σ H fun x H1 => ∃ a C dx fs v, x = .ref a ∧ H1 a = some (.ins C dx fs) ∧ Cls K C ∧ NoAttr K C f ∧ fs.lookup f = some v ∧
  tv σ H1 fun y H2 => rd v y H2 fun z H3 => ∃ dx' fs', H3 a = some (.ins C dx' fs') ∧ fs'.length < 1000 ∧ D.nx σ (upd H3 a (.ins C dx' (putF f z fs')))

section
variable {X : Cx} {o e value : Expr} {f : Str} {pos pos' tpos : Pos} {ta tv : TE}
theorem pe_fld (he : PE X e ta) (hb : attributeBase e f X.env (eval e X.env) = eval e X.env) : PE X (.Attribute e f pos) (tFld X.K ta f) := by
  intro pins s σ H Q I h
  refine attr_of hb (thn (he pins s σ H _ I h) fun u s1 ⟨x, H1, I1, rx, a, C, dx, fs, v, ex, ea, c, n, l, q⟩ => ?_)
  subst ex
  obtain rfl : u = Value.ref a := rx
  exact getattr_ok I1 ea c n l fun u' s2 I2 ru => ⟨v, H1, I2, ru, q⟩
theorem pe_con (he : PE X e ta) (hb : attributeBase e f X.env (eval e X.env) = eval e X.env) : PE X (.Attribute e f pos) (tCon X.K ta f) := by
  intro pins s σ H Q I h
  refine attr_of hb (thn (he pins s σ H _ I h) fun u s1 ⟨x, H1, I1, rx, a, C, dx, fs, v, u0, ex, ea, c, k, l, q⟩ => ?_)
  subst ex
  obtain rfl : u = Value.ref a := rx
  exact getcon_ok I1 ea c k l fun s2 I2 => ⟨v, H1, I2, k.rel, q⟩
theorem ps_fld (ha : PE X o ta) (hv : PE X value tv) (hs : swapsWith value (some (.Attribute o f pos')) pos.line X.env = pure false) : PS X (.Assign [.Attribute o f pos'] value pos) (sFld X.K ta tv f) := by
  intro pins s σ H D I h
  refine plainObj_wpAny_Assign_Attribute (thn (hv pins s σ H _ I h) fun u s1 ⟨y, H1, I1, ry, q⟩ => thn (ha pins s1 σ H1 _ I1 q) fun ov s2 ⟨x, H2, I2, rx, a, C, dx, fs, ex, ea, c, n, l, q2⟩ => ?_) hs
  subst ex
  obtain rfl : ov = Value.ref a := rx
  exact setattr_ok I2 ea c n l ry fun s3 I3 => ⟨σ, _, I3, q2⟩
theorem ps_fldaug {op : Operator} {rd : V → V → Hp → VK → Prop} (ha : PE X o ta) (hv : PE X value tv) (hop : InOp X op rd) : PS X (.AugAssign (.Attribute o f tpos) op value pos) (sFldAug X.K ta tv rd f) := by
  intro pins s σ H D I h
  refine wpAny_AugAssign_AttributeAny (thn (ha pins s σ H _ I h) fun ov s1 ⟨x, H1, I1, rx, a, C, dx, fs, v, ex, ea, c, n, l, q⟩ => ?_)
  subst ex
  obtain rfl : ov = Value.ref a := rx
  refine getattr_ok I1 ea c n l fun u s2 I2 ru => thn (hv pins s2 σ H1 _ I2 q) fun w3 s3 ⟨y, H2, I3, ry, q3⟩ => thn (hop pins s3 σ H2 v y u w3 _ I3 ru ry q3) fun w4 s4 ⟨z, H3, I4, rz, dx', fs', ea', l', q4⟩ => ?_
  exact setattr_ok I4 ea' c n l' rz fun s5 I5 => ⟨σ, _, I5, q4⟩
def rAdd : V → V → Hp → VK → Prop := fun x y H Q => ∃ i j, x = .int i ∧ y = .int j ∧ Q (.int (i + j)) H
def rSub : V → V → Hp → VK → Prop := fun x y H Q => ∃ i j, x = .int i ∧ y = .int j ∧ Q (.int (i - j)) H
theorem in_add : InOp X .Add rAdd := by
  rintro pins s σ H x y u v Q I rx ry ⟨i, j, rfl, rfl, q⟩
  obtain ⟨t, rfl⟩ := (show ∃ t, u = Value.int i t from rx)
  obtain ⟨t', rfl⟩ := (show ∃ t', v = Value.int j t' from ry)
  exact PyProof.Rows.iadd_int ⟨.int (i + j), H, I.tok _, ⟨_, rfl⟩, q⟩
theorem in_sub : InOp X .Sub rSub := by
  rintro pins s σ H x y u v Q I rx ry ⟨i, j, rfl, rfl, q⟩
  obtain ⟨t, rfl⟩ := (show ∃ t, u = Value.int i t from rx)
  obtain ⟨t', rfl⟩ := (show ∃ t', v = Value.int j t' from ry)
  exact PyProof.Rows.isub_int ⟨.int (i - j), H, I.tok _, ⟨_, rfl⟩, q⟩

/-- what is between an instance and its method: the tree of a method call -/
theorem methcall_of {pl : Sem Bool} {m : Str} {apos : Pos} {args : List Expr} {pins : List (Addr × Obj)} {s : Shared} {σ : St} {H : Hp} {Q : Value → Shared → Prop} {te : TE} (he : PE X e te) (I : Inv X pins σ H s)
    (h : te σ H fun x H1 => ∃ a C dx fs g, x = .ref a ∧ H1 a = some (.ins C dx fs) ∧ Cls X.K C ∧ Meth X.K C m g ∧ fs.lookup m = none ∧
      ∀ s1, Inv X pins σ H1 s1 → wpAny (model X.prog X.w) X.A (callWith pos (.ref g) [.ref a] (backTo pos (starEach args X.env)) (backToKw pos (keywordEach [] X.env))) Q X.xe s1)
    (ht : eval (.Call (.Attribute e m apos) args [] pos) X.env = (do
      let ov ← eval e X.env
      standAt apos.atName
      let (f, first) ← holding [ov] (getMethod ov m pl)
      callWith pos f first (backTo pos (starEach args X.env)) (backToKw pos (keywordEach [] X.env)))) :
    wpAny (model X.prog X.w) X.A (eval (.Call (.Attribute e m apos) args [] pos) X.env) Q X.xe s := by
  refine PySem.W.methodCall_KW (pl := pl) (thn (he pins s σ H _ I h) fun u s1 ⟨x, H1, I1, rx, a, C, dx, fs, g, ex, ea, c, k, l, q⟩ => ?_) ht
  subst ex
  obtain rfl : u = Value.ref a := rx
  exact getmeth_ok I1 ea c k l (q s1 I1)
end

/-! ### isinstance -/
section
variable {X : Cx} {pins : List (Addr × Obj)} {σ : St} {H : Hp} {s : Shared} {A : Around} {E : Value → Shared → Prop} {Q : Value → Shared → Prop} {c : Value} {b : Bool}
/-- the type of a value, as the fragment's deciders take it; for an instance its class -/
inductive TyOf (K : PySem.W.Frag) (H : Hp) : V → Value → Prop where
  | non : TyOf K H .non (.type "NoneType")
  | bl (x : Bool) : TyOf K H (.bl x) (.type "bool")
  | int (i : Int) : TyOf K H (.int i) (.type "int")
  | str (x : Str) : TyOf K H (.str x) (.type "str")
  | flt (x : UInt64) : TyOf K H (.flt x) (.type "float")
  | lst {a : Addr} {xs : List V} (e : H a = some (.lst xs)) : TyOf K H (.ref a) (.type "list")
  | frz {a : Addr} {o : Obj} {xs : List V} (e : H a = some (.frz o (.lst xs))) : TyOf K H (.ref a) (.type "list")
  | tup {a : Addr} {xs : List V} (e : H a = some (.tup xs)) : TyOf K H (.ref a) (.type "tuple")
  | dK {a : Addr} {kvs : List (Key × V)} (e : H a = some (.dK kvs)) : TyOf K H (.ref a) (.type "dict")
  | dT {a : Addr} {kvs : List (List Key × V)} (e : H a = some (.dT kvs)) : TyOf K H (.ref a) (.type "dict")
  | ins {a C dx : Addr} {fs : List (Str × V)} (e : H a = some (.ins C dx fs)) (cl : Cls K C) (ha : PySem.W.findIn K (.ref C) "__class__" = some (some (.builtin "object.__class__")))
      (hn : PySem.W.specialIn K (.builtin "object.__class__") "__get__" = some (some (.builtin "getset_descriptor.__get__"))) (htk : PySem.W.takesIn K (.builtin "object.__class__") = some true)
      (hm : PySem.W.mroIn K C (.type "object") = some true) : TyOf K H (.ref a) (.ref C)
/-- isinstance(x, c) for one class c, a built-in or an own one: kitOne's answer -/
theorem isinst_ok {x : V} {u t : Value} (I : Inv X pins σ H s) (rx : RelV x u) (ty : TyOf X.K H x t) (e : PySem.W.kitOne X.K t c = some b) (h : ∀ tk, Q (.bool b) { s with toks := tk }) :
    wpAny (model X.prog X.w) A (call (.builtin "isinstance") [u, c]) Q E s := by
  cases ty with
  | non => cases (show u = Value.none from rx); exact PySem.W.kia_one PySem.W.kitx_none I.kIn True.intro e (fun z => nomatch z) h
  | bl y => cases (show u = Value.bool y from rx); exact PySem.W.kia_one PySem.W.kitx_bool I.kIn True.intro e (fun z => nomatch z) h
  | int i => obtain ⟨t, q⟩ := (show ∃ t, u = Value.int i t from rx); cases q; exact PySem.W.kia_one PySem.W.kitx_int I.kIn True.intro e (fun z => nomatch z) h
  | str y => obtain ⟨t, q⟩ := (show ∃ t, u = Value.str y t from rx); cases q; exact PySem.W.kia_one PySem.W.kitx_str I.kIn True.intro e (fun z => nomatch z) h
  | flt y => obtain ⟨t, q⟩ := (show ∃ t, u = Value.float y t from rx); cases q; exact PySem.W.kia_one PySem.W.kitx_float I.kIn True.intro e (fun z => nomatch z) h
  | @lst a xs ea =>
    cases (show u = Value.ref a from rx)
    obtain ⟨_, _, n, _, h1⟩ := (show ObjOk X.prog X.w H s.heap a (.lst xs) from I.hok a _ ea)
    exact PySem.W.kia_one PySem.W.kitx_list I.kIn ⟨_, h1, rfl⟩ e (fun z => nomatch z) h
  | @frz a ob xs ea =>
    cases (show u = Value.ref a from rx)
    obtain ⟨_, _, _, n, _, h1⟩ := (show ObjOk X.prog X.w H s.heap a (.frz ob (.lst xs)) from I.hok a _ ea)
    exact PySem.W.kia_one PySem.W.kitx_list I.kIn ⟨_, h1, rfl⟩ e (fun z => nomatch z) h
  | @tup a xs ea =>
    cases (show u = Value.ref a from rx)
    obtain ⟨_, _, _, p⟩ := (show ObjOk X.prog X.w H s.heap a (.tup xs) from I.hok a _ ea)
    obtain ⟨o, h1, h2, _⟩ := p
    exact PySem.W.kia_one PySem.W.kitx_tuple I.kIn ⟨o, h1, h2⟩ e (fun z => nomatch z) h
  | @dK a kvs ea =>
    cases (show u = Value.ref a from rx)
    obtain ⟨_, _, vs, _, p⟩ := (show ObjOk X.prog X.w H s.heap a (.dK kvs) from I.hok a _ ea)
    obtain ⟨o, es, ep, h1, h2, _⟩ := p
    exact PySem.W.kia_one PySem.W.kitx_dict I.kIn ⟨o, h1, h2.1⟩ e (fun z => nomatch z) h
  | @dT a kvs ea =>
    cases (show u = Value.ref a from rx)
    obtain ⟨_, _, xs, _, o, es, ep, h1, h2, _⟩ := (show ObjOk X.prog X.w H s.heap a (.dT kvs) from I.hok a _ ea)
    exact PySem.W.kia_one PySem.W.kitx_dict I.kIn ⟨o, h1, h2.1⟩ e (fun z => nomatch z) h
  | @ins a C dx fs ea cl ha hn htk hm =>
    cases (show u = Value.ref a from rx)
    obtain ⟨mA, O, _⟩ := ins_get I.hok ea
    obtain ⟨od, J, _⟩ := O.look
    exact PySem.W.kia_one (PySem.W.kitx_own (cl.get _) cl.hd ha hn htk hm) I.kIn J e (fun z => nomatch z) h
end
end L2

namespace L2
open PySem PySem.Spec PyProof.Rows

/-! ### room -/
structure Room (k : Nat) (A : Around) : Prop where
  hd : A.handled = none
  dp : A.depth + 3 * k + 5 < recursionLimit
  un : A.units + 16 * k + 200 < cLine
theorem Room.mono {j k : Nat} {A : Around} (r : Room k A) (h : j ≤ k) : Room j A := ⟨r.hd, by have := r.dp; omega, by have := r.un; omega⟩
theorem Room.deeper {k : Nat} {A : Around} (r : Room (k + 1) A) (env : Env) : Room k (A.deeper env) :=
  ⟨r.hd, by have := r.dp; show A.depth + 1 + 3 * k + 5 < _; omega, by have := r.un; show A.units + 3 + 16 * k + 200 < _; omega⟩
theorem Room.in1 {k : Nat} {A : Around} (r : Room (k + 1) A) : Room k A.in1 :=
  ⟨r.hd, by have := r.dp; show A.depth + 3 * k + 5 < _; omega, by have := r.un; show A.units + 1 + 16 * k + 200 < _; omega⟩
theorem make_depth {A : Around} {C : Addr} {us : List Value} {kw : List (Str × Value)} : (A.under (.builtin "type.__call__" ⟨.ref C :: us, kw⟩)).depth = A.depth + 1 := by
  first | rfl | simp [Around.under, Code.weight, Code.isCreation, Code.isGuard, Code.isCaller, Code.frames, Code.isFrame, guardIds]
theorem make_units {A : Around} {C : Addr} {us : List Value} {kw : List (Str × Value)} : (A.under (.builtin "type.__call__" ⟨.ref C :: us, kw⟩)).units = A.units + 1 := by
  first | rfl | simp [Around.under, Code.cUnits, Code.frames, Code.isFrame]
theorem Room.make {k : Nat} {A : Around} (r : Room (k + 1) A) (C : Addr) (us : List Value) (kw : List (Str × Value)) : Room k (A.under (.builtin "type.__call__" ⟨.ref C :: us, kw⟩)) :=
  ⟨r.hd, by have := r.dp; rw [make_depth]; omega, by have := r.un; rw [make_units]; omega⟩
theorem Room.depth {k : Nat} {A : Around} (r : Room k A) : A.depth < recursionLimit := by have := r.dp; omega
theorem Room.units {k : Nat} {A : Around} (r : Room k A) : A.units + 64 < cLine := by have := r.un; omega
theorem Room.units0 {k : Nat} {A : Around} (r : Room k A) : A.units < cLine := by have := r.un; omega

/-! ### argument lists and displays -/
def tNil : TA := fun _ H Q => Q [] H
def tCons (ta : TE) (tr : TA) : TA := fun σ H Q => ta σ H fun x H1 => tr σ H1 fun xs H2 => Q (x :: xs) H2
section
variable {X : Cx} {e : Expr} {es : List Expr} {te : TE} {t : TA} {pos : Pos}
theorem pa_nil : PA X [] tNil := fun _ _ _ _ H Q I h => Calls.spliced_nil ⟨[], H, I, .nil, h⟩
theorem pa_cons (ha : PE X e te) (hr : PA X es t) (hs : starEach (e :: es) X.env = (false, eval e X.env) :: starEach es X.env := by rfl) : PA X (e :: es) (tCons te t) := by
  intro pos pins s σ H Q I h
  rw [hs]
  show wpAny _ _ (spliced ((false, eval e X.env) :: backTo pos (starEach es X.env))) _ _ s
  refine Calls.spliced_cons (thn (ha pins s σ H _ I h) fun u s1 ⟨x, H1, I1, r1, q1⟩ => ?_)
  exact thn (hr pos pins s1 σ H1 _ I1 q1) fun us s2 ⟨xs, H2, I2, r2, q2⟩ => ⟨x :: xs, H2, I2, .cons r1 r2, q2⟩

/-- a tuple, a list of written items -/
def tTup (t : TA) : TE := fun σ H Q => t σ H fun xs H1 => xs.length ≤ sizeLine ∧ ∀ p, H1 p = none → Q (.ref p) (upd H1 p (.tup xs))
def tLst (t : TA) : TE := fun σ H Q => t σ H fun xs H1 => xs.length ≤ sizeLine ∧ ∀ p, H1 p = none → Q (.ref p) (upd H1 p (.lst xs))
theorem pe_tup {x1} (h : PA X es t) : PE X (.Tuple es x1 pos) (tTup t) := by
  intro pins s σ H Q I hq
  refine wpAny_Tuple_spliced (thn (h pos pins s σ H _ I hq) fun us s1 ⟨xs, H1, I1, r, z, q⟩ => ⟨by rw [← r.length]; exact z, ?_⟩)
  have hf : H1 s1.heap.objs.size = none := I1.hok.fresh (Nat.le_refl _)
  refine ⟨.ref s1.heap.objs.size, upd H1 s1.heap.objs.size (.tup xs), I1.laid (t' := s1.toks) (fun b u e => Heap.get?_push_of_some _ e) (Nat.le_refl _) ?_, rfl, q _ hf⟩
  exact ⟨z, us, r, ⟨_, Heap.get?_push_size _ rfl, rfl, _, rfl⟩⟩
theorem pe_lst (h : PA X es t) : PE X (.List es pos) (tLst t) := by
  intro pins s σ H Q I hq
  refine wpAny_List_spliced (thn (h pos pins s σ H _ I hq) fun us s1 ⟨xs, H1, I1, r, z, q⟩ => ⟨by rw [← r.length]; exact z, ?_⟩)
  have hf : H1 s1.heap.objs.size = none := I1.hok.fresh (Nat.le_refl _)
  refine ⟨.ref s1.heap.objs.size, upd H1 s1.heap.objs.size (.lst xs), I1.laid (t' := s1.toks) (fun b u e => Heap.get?_push_of_some _ e) (Nat.le_refl _) ?_, rfl, q _ hf⟩
  exact ⟨z, us, 0, r, Heap.get?_push_size _ rfl⟩
end

/-! ### what a def promises -/
/-- a def's promise: the bound arguments in the parameters' order, the heap, the wanted end, the wanted exception -/
abbrev Sp := List V → Hp → VK → XK → Prop
/-- how an exception lies behind a call (file 08 gives it): the callers' frames, abstract heap and state ahead of the call, the wish, the exception, the state -/
abbrev CXT := List Env → Hp → Shared → XK → Value → Shared → Prop

/-- the state at a call -/
structure Env0 (P : Program) (w : World) (K : PySem.W.Frag) (mg : Str → Option Value) (base : Heap) (A : Around) (outer : List Env) (s : Shared) (H : Hp) : Prop where
  frames : A.frames = some outer
  mod : Mod K mg base
  bs : ∀ b o, base.get? b = some o → s.heap.get? b = some o ∧ H b = none
  bsz : base.objs.size ≤ s.heap.objs.size
  funs : s.heap.FunFrames base outer
  frf : ∀ b ∈ frs outer, H b = none
  hok : HOk P w H s.heap
  bare : AllBare s.gens
/-- a call's end -/
def CE (outer : List Env) (P : Program) (w : World) (H : Hp) (s : Shared) (Q : VK) (u : Value) (s' : Shared) : Prop :=
  ∃ v H', s'.os = s.os ∧ AllBare s'.gens ∧ Un (frs outer) [] H H' s.heap s'.heap ∧ HOk P w H' s'.heap ∧ RelV v u ∧ Q v H'
def CR (CX : CXT) (outer : List Env) (P : Program) (w : World) (H : Hp) (s : Shared) (Q : VK) (E : XK) (r : Result) (s' : Shared) : Prop :=
  match r with
  | .ok (.ret u) => CE outer P w H s Q u s'
  | .ok _ => False
  | .error e => CX outer H s E e s'
structure FnOk (P : Program) (w : World) (K : PySem.W.Frag) (mg : Str → Option Value) (base : Heap) (CX : CXT) (k : Nat) (f : Addr) (fd : FuncData) (ps : List Str) (sp : Sp) : Prop where
  len : ∀ vs H Q E, sp vs H Q E → vs.length = ps.length
  run : ∀ (A : Around) (outer : List Env) (s : Shared) (H : Hp) (args : Args) (us : List Value) (vs : List V) (Q : VK) (E : XK), Room k A → Env0 P w K mg base A outer s H → BindsTo s fd args (ps.zip us) → Vals vs us → sp vs H Q E →
    codeAny (model P w) A (.call (.ref f) args) (CR CX outer P w H s Q E) s
theorem FnOk.mono {P : Program} {w : World} {K : PySem.W.Frag} {mg : Str → Option Value} {base : Heap} {CX : CXT} {j k : Nat} {f : Addr} {fd : FuncData} {ps : List Str} {sp : Sp} (F : FnOk P w K mg base CX j f fd ps sp) (h : j ≤ k) :
    FnOk P w K mg base CX k f fd ps sp := ⟨F.len, fun A outer s H args us vs Q E hr => F.run A outer s H args us vs Q E (hr.mono h)⟩
/-- a weaker promise -/
theorem FnOk.imp {P : Program} {w : World} {K : PySem.W.Frag} {mg : Str → Option Value} {base : Heap} {CX : CXT} {k : Nat} {f : Addr} {fd : FuncData} {ps : List Str} {sp sp' : Sp} (F : FnOk P w K mg base CX k f fd ps sp)
    (h : ∀ vs H Q E, sp' vs H Q E → sp vs H Q E) : FnOk P w K mg base CX k f fd ps sp' :=
  ⟨fun vs H Q E q => F.len vs H Q E (h _ _ _ _ q), fun A outer s H args us vs Q E hr he hb hv hs => F.run A outer s H args us vs Q E hr he hb hv (h _ _ _ _ hs)⟩

theorem Env0.make {P : Program} {w : World} {K : PySem.W.Frag} {mg : Str → Option Value} {base : Heap} {A : Around} {outer : List Env} {s : Shared} {H : Hp} (e : Env0 P w K mg base A outer s H) (C : Addr) (us : List Value) (kw : List (Str × Value)) :
    Env0 P w K mg base (A.under (.builtin "type.__call__" ⟨.ref C :: us, kw⟩)) outer s H := ⟨by first | exact e.frames | (simpa [Around.under, Code.envs, Code.isFrame, pushEnvs] using e.frames), e.mod, e.bs, e.bsz, e.funs, e.frf, e.hok, e.bare⟩
theorem Env0.in1 {P : Program} {w : World} {K : PySem.W.Frag} {mg : Str → Option Value} {base : Heap} {A : Around} {outer : List Env} {s : Shared} {H : Hp} (e : Env0 P w K mg base A outer s H) :
    Env0 P w K mg base A.in1 outer s H := ⟨e.frames, e.mod, e.bs, e.bsz, e.funs, e.frf, e.hok, e.bare⟩

section
variable {X : Cx} {pins : List (Addr × Obj)} {σ : St} {H : Hp} {s s' : Shared}
/-- from a body: what a callee wants -/
theorem Inv.env0 (I : Inv X pins σ H s) : Env0 X.prog X.w X.K X.mg X.base X.A X.stack s H :=
  ⟨I.ok.frames, I.ok.mod, I.bs, Nat.le_trans I.ok.bsz I.sz, I.stack, I.stkFree, I.hok, I.bare⟩
/-- behind a call -/
theorem Inv.after {Q : VK} {u : Value} (I : Inv X pins σ H s) (h : CE X.stack X.prog X.w H s Q u s') : EP X pins σ Q u s' := by
  obtain ⟨v, H', os, bare, un, hok, r, q⟩ := h
  obtain ⟨hh, g, d, t, os'⟩ := s'
  obtain rfl : os' = s.os := os
  exact ⟨v, H', I.call (h' := hh) (g' := g) (d' := d) (t' := t) (ch := []) un hok bare (fun b z => absurd z (by simp)), r, q⟩
end

/-! ### calls -/
/-- f(..): the written arguments, then the defaults dvs; E: what is wanted of an exception -/
def tCall (sp : Sp) (dvs : List V) (E : XK) (t : TA) : TE := fun σ H Q => t σ H fun vs H1 => sp (vs ++ dvs) H1 Q E
/-- o.m(..) of an instance of the class at C -/
def tMeth (C : Addr) (m : Str) (sp : Sp) (dvs : List V) (E : XK) (ta : TE) (t : TA) : TE := fun σ H Q => ta σ H fun x H1 => ∃ a dx fs, x = .ref a ∧ H1 a = some (.ins C dx fs) ∧ fs.lookup m = none ∧
  t σ H1 fun vs H2 => sp (x :: (vs ++ dvs)) H2 Q E
/-- C(..): a new instance and its dict, then __init__ -/
def tMake (C : Addr) (sp : Sp) (dvs : List V) (E : XK) (t : TA) : TE := fun σ H Q => t σ H fun vs H1 => ∀ x dx, H1 x = none → H1 dx = none → dx ≠ x →
  sp (.ref x :: (vs ++ dvs)) (upd (upd H1 dx (.own x)) x (.ins C dx [])) (fun v H2 => v = .non ∧ Q (.ref x) H2) E

/-- how the parameters are bound: us the positional arguments, kw the keywords' values by name, ds the defaults that fill up -/
def Binds (K : PySem.W.Frag) (fd : FuncData) (ps : List Str) (ds : List Value) : Prop :=
  ∀ (s : Shared) (us : List Value), K.In s.heap → (us ++ ds).length = ps.length → BindsTo s fd ⟨us, []⟩ (ps.zip (us ++ ds))
/-- every parameter is given -/
theorem Binds.all {K : PySem.W.Frag} {fd : FuncData} {ps : List Str} (h : ∀ us : List Value, us.length = ps.length → bindArgs fd ⟨us, []⟩ = pure (ps.zip us)) : Binds K fd ps [] := fun s us _ hl => by
  rw [List.append_nil] at hl ⊢
  exact .of_eq (h us hl)

/-- an exception of a callee reaches what this body wants of exceptions -/
def Passes (CX : CXT) (X : Cx) (E : XK) : Prop := ∀ (pins : List (Addr × Obj)) (σ : St) (H : Hp) (s : Shared) (e : Value) (s' : Shared), Inv X pins σ H s → CX X.stack H s E e s' → X.xe e s'

section
variable {X : Cx} {CX : CXT} {k : Nat} {f C : Addr} {fd : FuncData} {ps : List Str} {sp : Sp} {dvs : List V} {ds : List Value} {E : XK} {x m : Str} {p pos apos : Pos} {e o : Expr} {es : List Expr} {ta : TE} {t : TA}

/-- the callee runs -/
theorem run_fn {pins : List (Addr × Obj)} {σ : St} {H : Hp} {s : Shared} {Q : VK} {us : List Value} {vs : List V} (F : FnOk X.prog X.w X.K X.mg X.base CX k f fd ps sp) (hr : Room k X.A) (hb : Binds X.K fd ps ds) (hd : Vals dvs ds) (hx : Passes CX X E)
    (I : Inv X pins σ H s) (r : Vals vs us) (h : sp (vs ++ dvs) H Q E) : wpAny (model X.prog X.w) X.A (call (.ref f) us) (EP X pins σ Q) X.xe s := by
  have r2 : Vals (vs ++ dvs) (us ++ ds) := r.append hd
  have hl : (us ++ ds).length = ps.length := by rw [← r2.length]; exact F.len _ _ _ _ h
  refine wpAny_call (codeAny_mono (F.run X.A X.stack s H ⟨us, []⟩ (us ++ ds) (vs ++ dvs) Q E hr I.env0 (hb s us I.kIn hl) r2 h) fun r s' hq => ?_)
  cases r with
  | error e => exact hx pins σ H s e s' I hq
  | ok fl =>
    cases fl with
    | ret u => exact I.after hq
    | next => exact False.elim hq
    | brk => exact False.elim hq
    | cont => exact False.elim hq

theorem pe_call (F : FnOk X.prog X.w X.K X.mg X.base CX k f fd ps sp) (hr : Room k X.A) (hg : Gl X x) (hm : X.mg x = some (.ref f)) (hk : PySem.W.keepIn X.K (.ref f) = true) (hb : Binds X.K fd ps ds) (hd : Vals dvs ds) (hx : Passes CX X E)
    (ha : PA X (e :: es) t) (hdb : (x == ("__debug__" : Str)) = false := by decide) (he : starEach (e :: es) X.env = (false, eval e X.env) :: starEach es X.env := by rfl) (hpl : (backTo pos (starEach es X.env)).any (·.1) = false := by rfl) :
    PE X (.Call (.Name x p) (e :: es) [] pos) (tCall sp dvs E t) := by
  intro pins s σ H Q I h
  refine wpAny_Call_Name_kw (ld_glob I hg hm ?_ hdb)
  refine PySem.W.callWith_K (h₀ := X.base) I.ok.mod.kin hk (thn (ha pos pins s σ H _ I h) fun us s1 ⟨vs, H1, I1, r, q⟩ => ⟨I1.kIn, ?_⟩) he hpl
  exact run_fn F hr hb hd hx I1 r q
theorem pe_call0 (F : FnOk X.prog X.w X.K X.mg X.base CX k f fd ps sp) (hr : Room k X.A) (hg : Gl X x) (hm : X.mg x = some (.ref f)) (hk : PySem.W.keepIn X.K (.ref f) = true) (hb : Binds X.K fd ps ds) (hd : Vals dvs ds) (hx : Passes CX X E)
    (hdb : (x == ("__debug__" : Str)) = false := by decide) : PE X (.Call (.Name x p) [] [] pos) (tCall sp dvs E tNil) := by
  intro pins s σ H Q I h
  refine wpAny_Call_Name_kw (ld_glob I hg hm ?_ hdb)
  exact PySem.W.callWith_K0 I.kIn hk (run_fn (us := []) F hr hb hd hx I .nil h)

/-- o.m(e, ..) -/
theorem pe_meth {pl : Sem Bool} (he : PE X o ta) (c : Cls X.K C) (hm : Meth X.K C m f) (F : FnOk X.prog X.w X.K X.mg X.base CX k f fd ps sp) (hr : Room k X.A) (hb : Binds X.K fd ps ds) (hd : Vals dvs ds) (hx : Passes CX X E) (ha : PA X (e :: es) t)
    (hst : starEach (e :: es) X.env = (false, eval e X.env) :: starEach es X.env := by rfl) (hpl : (backTo pos (starEach es X.env)).any (·.1) = false := by rfl)
    (ht : eval (.Call (.Attribute o m apos) (e :: es) [] pos) X.env = (do
      let ov ← eval o X.env
      standAt apos.atName
      let (f, first) ← holding [ov] (getMethod ov m pl)
      callWith pos f first (backTo pos (starEach (e :: es) X.env)) (backToKw pos (keywordEach [] X.env))) := by rfl) :
    PE X (.Call (.Attribute o m apos) (e :: es) [] pos) (tMeth C m sp dvs E ta t) := by
  intro pins s σ H Q I h
  refine PySem.W.methodCall_KW (pl := pl) (thn (he pins s σ H _ I h) fun u s1 ⟨x, H1, I1, rx, a, dx, fs, ex, ea, l, q⟩ => ?_) ht
  subst ex
  obtain rfl : u = Value.ref a := rx
  refine getmeth_ok I1 ea c hm l ?_
  refine PySem.W.callWith_K (first := [.ref a]) (h₀ := X.base) I.ok.mod.kin hm.kp (thn (ha pos pins s1 σ H1 _ I1 q) fun us s2 ⟨vs, H2, I2, r, q2⟩ => ⟨I2.kIn, ?_⟩) hst hpl
  exact run_fn (us := .ref a :: us) (vs := .ref a :: vs) F hr hb hd hx I2 (.cons rfl r) q2
/-- o.m() -/
theorem pe_meth0 {pl : Sem Bool} (he : PE X o ta) (c : Cls X.K C) (hm : Meth X.K C m f) (F : FnOk X.prog X.w X.K X.mg X.base CX k f fd ps sp) (hr : Room k X.A) (hb : Binds X.K fd ps ds) (hd : Vals dvs ds) (hx : Passes CX X E)
    (ht : eval (.Call (.Attribute o m apos) [] [] pos) X.env = (do
      let ov ← eval o X.env
      standAt apos.atName
      let (f, first) ← holding [ov] (getMethod ov m pl)
      callWith pos f first (backTo pos (starEach [] X.env)) (backToKw pos (keywordEach [] X.env))) := by rfl) :
    PE X (.Call (.Attribute o m apos) [] [] pos) (tMeth C m sp dvs E ta tNil) := by
  intro pins s σ H Q I h
  refine PySem.W.methodCall_KW (pl := pl) (thn (he pins s σ H _ I h) fun u s1 ⟨x, H1, I1, rx, a, dx, fs, ex, ea, l, q⟩ => ?_) ht
  subst ex
  obtain rfl : u = Value.ref a := rx
  refine getmeth_ok I1 ea c hm l ?_
  exact PySem.W.callWith_K0 (first := [.ref a]) I1.kIn hm.kp (run_fn (us := [.ref a]) (vs := [.ref a]) F hr hb hd hx I1 (.cons rfl .nil) q)

/-- what a class must have to be made -/
structure Mk (K : PySem.W.Frag) (C f : Addr) : Prop where
  makes : PySem.W.makesIn K C = true
  init : PySem.W.findIn K (.ref C) "__init__" = some (some (.ref f))
  fn : PySem.W.isFn K (.ref f) = true
  kp : PySem.W.keepIn K (.ref C) = true

theorem run_make {pins : List (Addr × Obj)} {σ : St} {H : Hp} {s : Shared} {Q : VK} {us : List Value} {vs : List V} (M : Mk X.K C f) (F : FnOk X.prog X.w X.K X.mg X.base CX k f fd ps sp) (hr : Room (k + 1) X.A) (hb : Binds X.K fd ps ds) (hd : Vals dvs ds)
    (hx : Passes CX X E) (I : Inv X pins σ H s) (r : Vals vs us)
    (h : ∀ x dx, H x = none → H dx = none → dx ≠ x → sp (.ref x :: (vs ++ dvs)) (upd (upd H dx (.own x)) x (.ins C dx [])) (fun v H2 => v = .non ∧ Q (.ref x) H2) E) :
    wpAny (model X.prog X.w) X.A (call (.ref C) us) (EP X pins σ Q) X.xe s := by
  have hq := h (s.heap.objs.size + 1) s.heap.objs.size (I.hok.fresh (Nat.le_succ _)) (I.hok.fresh (Nat.le_refl _)) (Nat.ne_of_lt (Nat.lt_succ_self _))
  have I2 := Inv.made (C := C) I
  have r2 : Vals (V.ref (s.heap.objs.size + 1) :: (vs ++ dvs)) (Value.ref (s.heap.objs.size + 1) :: (us ++ ds)) := .cons rfl (r.append hd)
  have hl : (Value.ref (s.heap.objs.size + 1) :: us ++ ds).length = ps.length := by
    have e := r2.length
    rw [F.len _ _ _ _ hq] at e
    exact e.symm
  refine wpAny_call (make_map (f := f) I.kIn M.makes M.init (beq_iff_eq.mp M.fn) (codeAny_mono (F.run _ X.stack _ _ ⟨Value.ref (s.heap.objs.size + 1) :: us, []⟩ (Value.ref (s.heap.objs.size + 1) :: (us ++ ds)) _ _ E (hr.make C us [])
    (I2.env0.make C us []) (hb _ (Value.ref (s.heap.objs.size + 1) :: us) I2.kIn hl) r2 hq) fun r s' hq' => ?_))
  cases r with
  | error e => exact hx pins σ _ _ e s' I2 hq'
  | ok fl =>
    cases fl with
    | ret u =>
      obtain ⟨v, H', I3, rv, ev, q3⟩ := I2.after hq'
      subst ev
      exact ⟨rv, ⟨V.ref (s.heap.objs.size + 1), H', I3, rfl, q3⟩⟩
    | next => exact False.elim hq'
    | brk => exact False.elim hq'
    | cont => exact False.elim hq'
theorem pe_make (M : Mk X.K C f) (F : FnOk X.prog X.w X.K X.mg X.base CX k f fd ps sp) (hr : Room (k + 1) X.A) (hg : Gl X x) (hm : X.mg x = some (.ref C)) (hb : Binds X.K fd ps ds) (hd : Vals dvs ds) (hx : Passes CX X E)
    (ha : PA X (e :: es) t) (hdb : (x == ("__debug__" : Str)) = false := by decide) (he : starEach (e :: es) X.env = (false, eval e X.env) :: starEach es X.env := by rfl) (hpl : (backTo pos (starEach es X.env)).any (·.1) = false := by rfl) :
    PE X (.Call (.Name x p) (e :: es) [] pos) (tMake C sp dvs E t) := by
  intro pins s σ H Q I h
  refine wpAny_Call_Name_kw (ld_glob I hg hm ?_ hdb)
  refine PySem.W.callWith_K (h₀ := X.base) I.ok.mod.kin M.kp (thn (ha pos pins s σ H _ I h) fun us s1 ⟨vs, H1, I1, r, q⟩ => ⟨I1.kIn, ?_⟩) he hpl
  exact run_make M F hr hb hd hx I1 r q
theorem pe_make0 (M : Mk X.K C f) (F : FnOk X.prog X.w X.K X.mg X.base CX k f fd ps sp) (hr : Room (k + 1) X.A) (hg : Gl X x) (hm : X.mg x = some (.ref C)) (hb : Binds X.K fd ps ds) (hd : Vals dvs ds) (hx : Passes CX X E)
    (hdb : (x == ("__debug__" : Str)) = false := by decide) : PE X (.Call (.Name x p) [] [] pos) (tMake C sp dvs E tNil) := by
  intro pins s σ H Q I h
  refine wpAny_Call_Name_kw (ld_glob I hg hm ?_ hdb)
  exact PySem.W.callWith_K0 I.kIn M.kp (run_make (us := []) M F hr hb hd hx I .nil h)
end

/-! ### keywords -/
/-- the values of the keywords, from the left -/
def PK (X : Cx) (kws : List Keyword) (t : TA) : Prop :=
  ∀ (pos : Pos) (pins : List (Addr × Obj)) (s : Shared) (σ : St) (H : Hp) (Q : List V → Hp → Prop), Inv X pins σ H s → t σ H Q → wpAny (model X.prog X.w) X.A (evalAll ((backToKw pos (keywordEach kws X.env)).map (·.2))) (AP X pins σ Q) X.xe s
section
variable {X : Cx} {CX : CXT} {k : Nat} {f C : Addr} {fd : FuncData} {ps ks : List Str} {sp : Sp} {E : XK} {x m : Str} {p pos apos kpos : Pos} {e o : Expr} {es : List Expr} {kws : List Keyword} {te ta : TE} {t tk : TA} {nm : Option Str}
theorem pk_nil : PK X [] tNil := fun _ _ _ _ H Q I h => wpAny_evalAll_nil ⟨[], H, I, .nil, h⟩
theorem pk_cons (ha : PE X e te) (hr : PK X kws t) : PK X (⟨nm, e, kpos⟩ :: kws) (tCons te t) := by
  intro pos pins s σ H Q I h
  show wpAny _ _ (evalAll ((do let v ← eval e X.env; standAt pos; pure v) :: (backToKw pos (keywordEach kws X.env)).map (·.2))) _ _ s
  refine wpAny_evalAll_cons (wpAny_bind (thn (ha pins s σ H _ I h) fun u s1 ⟨x, H1, I1, r1, q1⟩ => wpAny_bind (wpAny_standAt (wpAny_pure ?_))))
  exact thn (hr pos pins s1 σ H1 _ I1 q1) fun us s2 ⟨xs, H2, I2, r2, q2⟩ => ⟨x :: xs, H2, I2, .cons r1 r2, q2⟩

/-- how a call with keywords binds: g puts the positional values us and the keywords' values ws (names ks) in the parameters' order, defaults among them -/
structure KBinds (K : PySem.W.Frag) (fd : FuncData) (ps ks : List Str) (g : List Value → List Value → List Value) (gV : List V → List V → List V) : Prop where
  to : ∀ (s : Shared) (us ws : List Value), K.In s.heap → (g us ws).length = ps.length → BindsTo s fd ⟨us, ks.zip ws⟩ (ps.zip (g us ws))
  rel : ∀ {vs : List V} {us : List Value} {zs : List V} {ws : List Value}, Vals vs us → Vals zs ws → Vals (gV vs zs) (g us ws)
def tCallK (sp : Sp) (gV : List V → List V → List V) (E : XK) (t tk : TA) : TE := fun σ H Q => t σ H fun vs H1 => tk σ H1 fun zs H2 => sp (gV vs zs) H2 Q E
variable {g : List Value → List Value → List Value} {gV : List V → List V → List V}
theorem run_fnk {pins : List (Addr × Obj)} {σ : St} {H : Hp} {s : Shared} {Q : VK} {us ws : List Value} {vs zs : List V} (F : FnOk X.prog X.w X.K X.mg X.base CX k f fd ps sp) (hr : Room k X.A) (hb : KBinds X.K fd ps ks g gV) (hx : Passes CX X E)
    (I : Inv X pins σ H s) (r : Vals vs us) (rz : Vals zs ws) (h : sp (gV vs zs) H Q E) : wpAny (model X.prog X.w) X.A (call (.ref f) us (ks.zip ws)) (EP X pins σ Q) X.xe s := by
  have r2 := hb.rel r rz
  have hl : (g us ws).length = ps.length := by rw [← r2.length]; exact F.len _ _ _ _ h
  refine wpAny_call (codeAny_mono (F.run X.A X.stack s H ⟨us, ks.zip ws⟩ (g us ws) (gV vs zs) Q E hr I.env0 (hb.to s us ws I.kIn hl) r2 h) fun r s' hq => ?_)
  cases r with
  | error e => exact hx pins σ H s e s' I hq
  | ok fl =>
    cases fl with
    | ret u => exact I.after hq
    | next => exact False.elim hq
    | brk => exact False.elim hq
    | cont => exact False.elim hq
/-- f(e, .., k = v, ..) -/
theorem pe_callK (F : FnOk X.prog X.w X.K X.mg X.base CX k f fd ps sp) (hr : Room k X.A) (hg : Gl X x) (hm : X.mg x = some (.ref f)) (hk : PySem.W.keepIn X.K (.ref f) = true) (hb : KBinds X.K fd ps ks g gV) (hx : Passes CX X E)
    (ha : PA X (e :: es) t) (hkw : PK X kws tk) (hall : (backToKw pos (keywordEach kws X.env)).all (·.1.isSome) = true := by rfl) (hks : (backToKw pos (keywordEach kws X.env)).filterMap (·.1) = ks := by rfl)
    (hdb : (x == ("__debug__" : Str)) = false := by decide) (he : starEach (e :: es) X.env = (false, eval e X.env) :: starEach es X.env := by rfl)
    (hpl : ((backTo pos (starEach (e :: es) X.env)).any (·.1) || (backToKw pos (keywordEach kws X.env)).any (·.1.isNone)) = false := by rfl) :
    PE X (.Call (.Name x p) (e :: es) kws pos) (tCallK sp gV E t tk) := by
  intro pins s σ H Q I h
  refine wpAny_Call_Name_kw (ld_glob I hg hm ?_ hdb)
  refine PySem.W.callWith_KW (h₀ := X.base) I.ok.mod.kin hk hall (thn (ha pos pins s σ H _ I h) fun us s1 ⟨vs, H1, I1, r, q⟩ => ?_) hpl he
  refine thn (hkw pos pins s1 σ H1 _ I1 q) fun ws s2 ⟨zs, H2, I2, rz, q2⟩ => ⟨I2.kIn, ?_⟩
  rw [hks]
  exact run_fnk F hr hb hx I2 r rz q2
end

/-! ### a def's body keeps its promise -/
/-- names: the parameters first -/
structure FnScope (N P : List Str) (sc : Scope) : Prop where
  kind : sc.kind = .function
  co : sc.isCoroutine = false
  gen : sc.isGenerator = false
  nd : N.Nodup
  pre : N.take P.length = P
  par : ∀ x ∈ P, sc.names.lookup x = some .local ∨ sc.names.lookup x = some .cell
  nofree : ∀ y ∈ sc.names, y.2 ≠ .free

theorem bindL_out {kindOf : Str → Option NameKind} {x : Str} : ∀ {binds : List (Str × Value)} {m : Str → Option Value}, (∀ v, (x, v) ∉ binds) → bindL kindOf binds m x = m x
  | [], _, _ => rfl
  | (n, v) :: r, m, h => by
    unfold bindL
    rw [bindL_out fun w hw => h w (List.mem_cons_of_mem _ hw)]
    split
    · have : x ≠ n := by rintro rfl; exact h v List.mem_cons_self
      simp [this]
    · rfl
theorem bindC_out {kindOf : Str → Option NameKind} {x : Str} : ∀ {binds : List (Str × Value)} {m : Str → Option Value}, (∀ v, (x, v) ∉ binds) → bindC kindOf binds m x = m x
  | [], _, _ => rfl
  | (n, v) :: r, m, h => by
    unfold bindC
    rw [bindC_out fun w hw => h w (List.mem_cons_of_mem _ hw)]
    split
    · rfl
    · have : x ≠ n := by rintro rfl; exact h v List.mem_cons_self
      simp [this]
theorem bindL_get {kindOf : Str → Option NameKind} {x : Str} {v : Value} : ∀ {P : List Str} {vs : List Value} {i : Nat} {m : Str → Option Value}, P.Nodup → P[i]? = some x → vs[i]? = some v → kindOf x = some .local →
    bindL kindOf (P.zip vs) m x = some v
  | [], _, _, _, _, h, _, _ => by simp at h
  | _ :: _, [], _, _, _, _, h, _ => by simp at h
  | p :: P, w :: vs, 0, m, nd, h1, h2, hk => by
    simp at h1 h2; subst h1; subst h2
    show bindL kindOf ((p, w) :: P.zip vs) m p = _
    unfold bindL
    rw [bindL_out fun v hv => (List.nodup_cons.mp nd).1 (List.of_mem_zip hv).1, if_pos hk]
    simp
  | p :: P, w :: vs, i + 1, m, nd, h1, h2, hk => by
    show bindL kindOf ((p, w) :: P.zip vs) m x = _
    unfold bindL
    exact bindL_get (i := i) (List.nodup_cons.mp nd).2 (by simpa using h1) (by simpa using h2) hk
theorem bindC_get {kindOf : Str → Option NameKind} {x : Str} {v : Value} : ∀ {P : List Str} {vs : List Value} {i : Nat} {m : Str → Option Value}, P.Nodup → P[i]? = some x → vs[i]? = some v → kindOf x ≠ some .local →
    bindC kindOf (P.zip vs) m x = some v
  | [], _, _, _, _, h, _, _ => by simp at h
  | _ :: _, [], _, _, _, _, h, _ => by simp at h
  | p :: P, w :: vs, 0, m, nd, h1, h2, hk => by
    simp at h1 h2; subst h1; subst h2
    show bindC kindOf ((p, w) :: P.zip vs) m p = _
    unfold bindC
    rw [bindC_out fun v hv => (List.nodup_cons.mp nd).1 (List.of_mem_zip hv).1, if_neg hk]
    simp
  | p :: P, w :: vs, i + 1, m, nd, h1, h2, hk => by
    show bindC kindOf ((p, w) :: P.zip vs) m x = _
    unfold bindC
    exact bindC_get (i := i) (List.nodup_cons.mp nd).2 (by simpa using h1) (by simpa using h2) hk

/-- the names' values at the entry -/
def start (N : List Str) (vs : List V) : St := vs.map some ++ List.replicate (N.length - vs.length) none

/-- the context of a def's body, at its entry; an exception leaves the frame, then lies as CX says -/
def cxOf (CX : CXT) (P : Program) (w : World) (K : PySem.W.Frag) (mg : Str → Option Value) (base : Heap) (N : List Str) (qual : Str) (scope : Scope) (f : Addr) (cd : Value) (A : Around) (outer : List Env) (s : Shared) (H : Hp) (E : XK) : Cx where
  prog := P
  w := w
  K := K
  mg := mg
  base := base
  A := A.deeper (envOfC qual scope s.heap.objs.size f cd)
  N := N
  s₀ := s
  H₀ := H
  env := envOfC qual scope s.heap.objs.size f cd
  outer := outer
  stack := envOfC qual scope s.heap.objs.size f cd :: outer
  ex := []
  calm := true
  fn := fun _ => true
  pn := []
  xe := fun e s' => wpAny (model P w) (A.deeper (envOfC qual scope s.heap.objs.size f cd)) (leaving (envOfC qual scope s.heap.objs.size f cd) e) (fun _ s'' => CX outer H s E e s'') (fun e' s'' => CX outer H s E e' s'') s'

theorem cell_has {sc : Scope} {n : Nat} {x : Str} (h : sc.names.lookup x = some .cell) : ∃ c, (cellsFrom n sc.names []).lookup x = some c := by
  have q := PySem.W.cellsFrom_some sc.names n [] (.inl h)
  exact Option.isSome_iff_exists.mp q

theorem inv_start {CX : CXT} {P : Program} {w : World} {K : PySem.W.Frag} {mg : Str → Option Value} {base : Heap} {N ps : List Str} {qual : Str} {scope : Scope} {f : Addr} {cd : Value} {A : Around} {outer : List Env} {s s1 : Shared} {H : Hp} {E : XK} {us : List Value} {vs : List V}
    (S : FnScope N ps scope) (hd : A.handled = none) (e0 : Env0 P w K mg base A outer s H) (hl : vs.length = ps.length) (r : Vals vs us)
    (x : InCallC s s.heap.objs.size (bindL (envOfC qual scope s.heap.objs.size f cd).kindOf (ps.zip us) fun _ => none) (cellsFrom (s.heap.objs.size + 1) scope.names []) (bindC (envOfC qual scope s.heap.objs.size f cd).kindOf (ps.zip us) fun _ => none) s1) :
    Inv (cxOf CX P w K mg base N qual scope f cd A outer s H E) [] (start N vs) H s1 := by
  have hpl : ps.length ≤ N.length := by have := congrArg List.length S.pre; rw [List.length_take] at this; omega
  obtain ⟨h1, tk, rfl, hk⟩ := x.done
  have noA : ∀ b : Addr, b ∉ (cxOf CX P w K mg base N qual scope f cd A outer s H E).ex := fun b z => absurd (show b ∈ ([] : List Addr) from z) (by simp)
  refine ⟨⟨e0.mod, S.kind, rfl, rfl, Nat.le_refl _, fun y z c h1 h2 => ?_, fun y hy => ?_, fun y c _ h => ?_, fun _ => hd, Around.frames_deeper e0.frames, .inr ⟨rfl, rfl⟩, fun b z => absurd z (noA b), e0.bs, e0.bsz, fun b _ _ => noA b, fun b z => absurd z (noA b), e0.funs, e0.frf⟩,
    rfl, e0.bare, Un.kept hk, ⟨_, x.toInCall.ns, fun i y v h1 h2 h3 => ?_⟩, fun y c h => ⟨_, x.cell y c h⟩, e0.hok.fresh (Nat.le_refl _), fun y c h => ?_, fun p hp => absurd (show p ∈ ([] : List (Addr × Obj)) from hp) (by simp), e0.hok.kept hk, ?_⟩
  · exact name_of_addr x.apart (PySem.mem_of_lookup h1) (PySem.mem_of_lookup h2)
  · have hy : scope.names.lookup y = some .cell ∨ scope.names.lookup y = some .free := hy
    rcases hy with hy | hy
    · exact cell_has hy
    · exact absurd rfl (S.nofree _ (PySem.mem_of_lookup hy))
  · exact Nat.le_of_lt (x.above y c (PySem.mem_of_lookup h))
  · have hi : i < vs.length := by
      unfold start at h2
      by_cases hi : i < vs.length
      · exact hi
      · rw [List.getElem?_append_right (by simpa using hi)] at h2
        rw [List.getElem?_replicate] at h2
        split at h2 <;> cases h2
    have ha : vs[i]? = some v := by
      unfold start at h2
      rw [List.getElem?_append_left (by simpa using hi), List.getElem?_map] at h2
      cases e : vs[i]? with
      | none => rw [e] at h2; cases h2
      | some a => rw [e] at h2; cases h2; rfl
    obtain ⟨u, hu, rv⟩ := r.get ha
    have hp : ps[i]? = some y := by
      rw [← S.pre, List.getElem?_take_of_lt (by omega)]; exact h1
    have ndP : ps.Nodup := by rw [← S.pre]; exact S.nd.sublist (List.take_sublist _ _)
    refine ⟨u, rv, ?_⟩
    rcases S.par y (List.mem_of_getElem? hp) with k | k
    · exact .inl ⟨k, bindL_get ndP hp hu k⟩
    · obtain ⟨c, e⟩ := cell_has (n := s.heap.objs.size + 1) k
      refine .inr ⟨.inl k, c, e, ?_⟩
      have q := x.cell y c e
      rw [bindC_get ndP hp hu (by show scope.names.lookup y ≠ _; rw [k]; decide)] at q
      exact q
  · exact e0.hok.fresh (Nat.le_of_lt (x.above y c (PySem.mem_of_lookup h)))
  · unfold start
    show _ = N.length
    rw [List.length_append, List.length_map, List.length_replicate]
    omega

/-- THE RULE: a def (or a method) of the text, by its body. The body's reading t is chosen for each entry; it is run at the parameters' values -/
theorem fn_of {CX : CXT} {P : Program} {w : World} {K : PySem.W.Frag} {mg : Str → Option Value} {base : Heap} {k : Nat} {f : Addr} {name qual : Str} {params : Arguments} {body : List Stmt} {scope : Scope} {dV kV doc pm cdv ct oc : Value} {an od : Option Addr}
    {osl : Array (Option Value)} {N ps : List Str} {sp : Sp} (lk : K.lookup f = some ⟨oc, od, .func (PySem.W.fnOf name qual params body scope dV kV doc pm an cdv ct), osl⟩) (hcd : PySem.W.codeIn K cdv qual = true) (S : FnScope N ps scope)
    (len : ∀ vs H Q E, sp vs H Q E → vs.length = ps.length)
    (hbody : ∀ (A : Around) (outer : List Env) (s : Shared) (H : Hp) (vs : List V) (Q : VK) (E : XK), Room k (A.deeper (envOfC qual scope s.heap.objs.size f cdv)) → sp vs H Q E →
      ∃ t, PSs (cxOf CX P w K mg base N qual scope f cdv A outer s H E) body t ∧ t { nx := fun _ H' => Q .non H', rt := Q } (start N vs) H) :
    FnOk P w K mg base CX (k + 1) f (PySem.W.fnOf name qual params body scope dV kV doc pm an cdv ct) ps sp := by
  refine ⟨len, fun A outer s H args us vs Q E hr e0 hb r hsp => ?_⟩
  have hl := len _ _ _ _ hsp
  have KX : K.In s.heap := e0.mod.kin.keeps fun b o e => (e0.bs b o e).1
  have lim : s.heap.NoLimit := e0.mod.nolimit.keeps fun b o e => (e0.bs b o e).1
  have hkind : ∀ y ∈ ps.zip us, scope.names.lookup y.1 = some .local ∨ (scope.names.lookup y.1 = some .cell ∧ ((cellsFrom (s.heap.objs.size + 1) scope.names []).lookup y.1).isSome = true) := fun ⟨n, v⟩ hy => by
    rcases S.par n (List.of_mem_zip hy).1 with q | q
    · exact .inl q
    · exact .inr ⟨q, PySem.W.cellsFrom_some _ _ _ (.inl q)⟩
  refine codeAny_call_function hr.depth (KX _ _ lk) rfl S.co S.gen rfl (PySem.W.codeRec_of KX hcd) (hb _ _ _ _ ?_)
  refine wpAny_newFunctionEnv_cells S.kind hkind fun env he s1 x => ?_
  subst he
  refine ⟨lim.keeps x.toInCall.keep, codeAny_func ?_⟩
  obtain ⟨t, ht, hq⟩ := hbody A outer s H vs Q E (hr.deeper _) hsp
  have I : Inv (cxOf CX P w K mg base N qual scope f cdv A outer s H E) [] (start N vs) H s1 := inv_start S hr.hd e0 hl r x
  refine wpAny_mono (ht [] s1 (start N vs) H _ I hq) (fun fl s' hs => ?_) fun e s' hs => hs
  have fin : ∀ {σ' : St} {H' : Hp} {v : V} {u : Value}, Inv (cxOf CX P w K mg base N qual scope f cdv A outer s H E) [] σ' H' s' → RelV v u → Q v H' → CE outer P w H s Q u s' :=
    fun {σ' H' v u} J rv q => ⟨v, H', J.os, J.bare, J.base, J.hok, rv, q⟩
  cases fl with
  | ret u =>
    obtain ⟨v, σ', H', J, rv, q⟩ := hs
    exact fin J rv q
  | next =>
    obtain ⟨σ', H', J, q⟩ := hs
    exact fin (v := V.non) (u := Value.none) J rfl q
  | brk =>
    obtain ⟨_, _, _, q⟩ := hs
    exact False.elim q
  | cont =>
    obtain ⟨_, _, _, q⟩ := hs
    exact False.elim q
end L2

namespace L2
open PySem PySem.Spec PyProof.Rows
section
variable {X : Cx} {x : Str} {p pos : Pos} {e : Expr} {es : List Expr} {t : TA} {id T : String} {r : List V → Hp → VK → Prop}

def tCB (r : List V → Hp → VK → Prop) (t : TA) : TE := fun σ H Q => t σ H fun vs H1 => r vs H1 Q
/-- f(e, ..), f a built-in function -/
theorem pe_callB (hc : CallR X (.builtin id) r) (hg : Gl X x) (hm : X.mg x = none) (hv : bootBuiltins x = some (.builtin id)) (ha : PA X (e :: es) t) (hn : x ≠ "__name__" := by decide) (hdb : (x == ("__debug__" : Str)) = false := by decide)
    (he : starEach (e :: es) X.env = (false, eval e X.env) :: starEach es X.env := by rfl) (hpl : (backTo pos (starEach es X.env)).any (·.1) = false := by rfl) : PE X (.Call (.Name x p) (e :: es) [] pos) (tCB r t) := by
  intro pins s σ H Q I h
  refine wpAny_Call_Name_kw (ld_blt I hg hm hv ?_ hn hdb)
  exact PyProof.Rows.callWith_builtin1 (thn (ha pos pins s σ H _ I h) fun us s1 ⟨vs, H1, I1, r1, q1⟩ => hc pins s1 σ H1 vs us Q I1 r1 q1) he hpl
/-- T(e, ..), T a built-in type -/
theorem pe_callTy (hc : CallR X (.type T) r) (hg : Gl X x) (hm : X.mg x = none) (hv : bootBuiltins x = some (.type T)) (ha : PA X (e :: es) t) (hn : x ≠ "__name__" := by decide) (hdb : (x == ("__debug__" : Str)) = false := by decide)
    (he : starEach (e :: es) X.env = (false, eval e X.env) :: starEach es X.env := by rfl) (hpl : (backTo pos (starEach es X.env)).any (·.1) = false := by rfl) : PE X (.Call (.Name x p) (e :: es) [] pos) (tCB r t) := by
  intro pins s σ H Q I h
  refine wpAny_Call_Name_kw (ld_blt I hg hm hv ?_ hn hdb)
  exact PyProof.Rows.callWith_type1 (thn (ha pos pins s σ H _ I h) fun us s1 ⟨vs, H1, I1, r1, q1⟩ => hc pins s1 σ H1 vs us Q I1 r1 q1) he hpl
/-- T() -/
theorem pe_callTy0 (hc : CallR X (.type T) r) (hg : Gl X x) (hm : X.mg x = none) (hv : bootBuiltins x = some (.type T)) (hn : x ≠ "__name__" := by decide) (hdb : (x == ("__debug__" : Str)) = false := by decide) :
    PE X (.Call (.Name x p) [] [] pos) (tCB r tNil) := by
  intro pins s σ H Q I h
  refine wpAny_Call_Name_kw (ld_blt I hg hm hv ?_ hn hdb)
  exact PyProof.Rows.callWith_type0 (hc pins s σ H [] [] Q I .nil h)
end
end L2

namespace HT
open PySem PyProof.Rows

/-- t < u of tuples of ints -/
def lexLt : List Int → List Int → Bool
  | [], [] => false
  | [], _ :: _ => true
  | _ :: _, [] => false
  | x :: xs, y :: ys => if x = y then lexLt xs ys else decide (x < y)
theorem lexLt_cons (x y : Int) (xs ys : List Int) : lexLt (x :: xs) (y :: ys) = if x = y then lexLt xs ys else decide (x < y) := rfl
theorem lexLt_nil_nil : lexLt [] [] = false := rfl
theorem lexLt_nil_cons (y : Int) (ys : List Int) : lexLt [] (y :: ys) = true := rfl
theorem lexLt_cons_nil (x : Int) (xs : List Int) : lexLt (x :: xs) [] = false := rfl

theorem eqAt_int (A : Around) (s : Shared) (a : Int) (t : Tok) (c : Int) (u : Tok) : ∃ e, SeqAt.EqAt A s (.int a t) (.int c u) e ∧ (e = true ↔ a = c) :=
  ⟨(a == c), SeqAt.EqAt.int_int a t c u, by simp⟩
theorem rcLt_int (A : Around) (s : Shared) (a : Int) (t : Tok) (c : Int) (u : Tok) (prog : Program) (w : World) (E : Value → Shared → Prop) (Q : Value → Shared → Prop) (h : Q (.bool (decide (a < c))) s) :
    wpAny (model prog w) A (richCompare .Lt (.int a t) (.int c u)) Q E s :=
  (PyProof.Rows.lt_int h : wpAny (model prog w) A (compareOp .Lt (.int a t) (.int c u)) Q E s)

section
open PySem.SeqAt
open PySem.AutoSeq1 (wpAny_loadPart')
open PySem.MeetsSeq PySem.MeetsSeq2 PySem.MeetsSeq3

theorem tuple_lt_ints (l b : Addr) (items items2 : Array Value) (n n2 : Nat) (dd dd2 : Option Addr) (sl sl2 : Array (Option Value)) (ns ms : List Int) (hi : IntsAre items.toList ns) (hj : IntsAre items2.toList ms) :
    Meets (Builtin.«tuple.__lt__» ⟨[.ref l, .ref b], []⟩)
      (fun _ R s => s.heap.get? l = some { cls := .type "tuple", dict := dd, data := .seq items n, slots := sl } ∧ s.heap.get? b = some { cls := .type "tuple", dict := dd2, data := .seq items2 n2, slots := sl2 } ∧
        R (.ok (.ret (.bool (lexLt ns ms)))) s) :=
  .of_wp fun prog w A R s h => by
    obtain ⟨hp, g, d, tk, os⟩ := s; obtain ⟨hl, hb, h⟩ := h
    have f2 := AutoSeq1.sub_tuple_tuple
    have z1 : items.size = ns.length := by rw [← hi.length]; simp
    have z2 : items2.size = ms.length := by rw [← hj.length]; simp
    wp_walk using wpAny_loadPart' hl, wpAny_loadPart' hb, wpAny_forIn_list _ (fun rest b s' => b.1 = none ∧ s' = ⟨hp, g, d, tk, os⟩ ∧ ∃ (vs ws : List Value) (ns' ms' : List Int), rest = vs.zip ws ∧
      IntsAre vs ns' ∧ IntsAre ws ms' ∧ ns'.length + items2.size = ms'.length + items.size ∧ R (.ok (.ret (.bool (lexLt ns' ms')))) ⟨hp, g, d, tk, os⟩) _
    case turn =>
      rintro ⟨y, x⟩ rest b s' ⟨hb', rfl, vs, ws, ns', ms', hz, hvi, hwi, hlen, hR⟩
      cases hvi with
      | nil => rw [List.zip_nil_left] at hz; cases hz
      | cons a t hvi' =>
        cases hwi with
        | nil => rw [List.zip_nil_right] at hz; cases hz
        | cons c u hwi' =>
          rw [List.zip_cons_cons] at hz
          injection hz with hyx hrest
          injection hyx with hy hx
          subst hy hx
          rw [lexLt_cons] at hR
          simp only [List.length_cons] at hlen
          obtain ⟨e, he, hiff⟩ := eqAt_int A.in1 ⟨hp, g, d, tk, os⟩ a t c u
          refine wpAny_bind (he prog w _ _ ?_)
          cases e with
          | true =>
            rw [if_pos (hiff.mp rfl)] at hR
            wp_walk
            exact ⟨rfl, rfl, _, _, _, _, hrest, hvi', hwi', by omega, hR⟩
          | false =>
            rw [if_neg (fun q => absurd (hiff.mpr q) Bool.false_ne_true)] at hR
            have hri := rcLt_int A.in1 ⟨hp, g, d, tk, os⟩ a t c u prog w
            wp_walk using hri
            exact ⟨_, rfl, by simpa using hR⟩
    case fin =>
      rintro ⟨b1, b2⟩ s' ⟨hb', rfl, vs, ws, ns', ms', hz, hvi, hwi, hlen, hR⟩
      simp only at hb'
      subst hb'
      have hv : lexLt ns' ms' = decide (items.size < items2.size) := by
        cases hvi with
        | nil =>
          cases hwi with
          | nil =>
            simp only [List.length_nil] at hlen
            rw [lexLt_nil_nil]
            exact (decide_eq_false (by omega)).symm
          | cons c u hw =>
            simp only [List.length_nil, List.length_cons] at hlen
            rw [lexLt_nil_cons]
            exact (decide_eq_true (by omega)).symm
        | cons a t hv =>
          cases hwi with
          | nil =>
            simp only [List.length_nil, List.length_cons] at hlen
            rw [lexLt_cons_nil]
            exact (decide_eq_false (by omega)).symm
          | cons c u hw =>
            rw [List.zip_cons_cons] at hz
            cases hz
      rw [hv] at hR
      wp_walk
      exact ⟨_, rfl, by simpa [Builtin.Tuple.tupleCompareSizes] using hR⟩
    case h =>
      exact ⟨rfl, rfl, items.toList, items2.toList, ns, ms, rfl, hi, hj, by omega, h⟩
end

section
variable {prog : Program} {w : World} {A : Around} {E : Value → Shared → Prop} {s : Shared}

theorem lt_tupInts {l b : Addr} {items items2 : Array Value} {ns ms : List Int} {Q : Value → Shared → Prop} (hl : IsTup s.heap l items) (hb : IsTup s.heap b items2) (hi : IntsAre items.toList ns) (hj : IntsAre items2.toList ms)
    (hu : A.units < cLine) (h : Q (.bool (lexLt ns ms)) s) : wpAny (model prog w) A (compareOp .Lt (.ref l) (.ref b)) Q E s := by
  obtain ⟨⟨cls, dd, data, sl⟩, ho, hc, n, hd⟩ := id hl
  obtain ⟨⟨cls2, dd2, data2, sl2⟩, ho2, hc2, n2, hd2⟩ := id hb
  simp only at hc hd hc2 hd2
  subst hc hd hc2 hd2
  exact richCompare_meets_room (op := .Lt) ⟨_, ho, rfl⟩ ⟨_, ho2, rfl⟩ PySem.F.slot_tuple_lt PySem.F.entry_tuple_lt (PySem.F.args_tuple_lt_2 _ _) (tuple_lt_ints l b items items2 n n2 dd dd2 sl sl2 ns ms hi hj)
    ⟨ho, ho2, show Value.bool (lexLt ns ms) ≠ Value.notImplemented ∧ Q (.bool (lexLt ns ms)) s from ⟨(fun x => nomatch x), h⟩⟩ hu

/-- t + u, t not empty -/
theorem cat_tup {t b : Addr} {vs ws : List Value} {Q : Value → Shared → Prop} (ht : IsTup s.heap t vs.toArray) (hb : IsTup s.heap b ws.toArray) (hv : vs ≠ [])
    (h1 : ws = [] → Q (.ref t) s) (h2 : ws ≠ [] → Q (.ref s.heap.objs.size) { s with heap := s.heap.push { cls := .type "tuple", data := .seq (vs ++ ws).toArray } })
    (hsz : vs.length + ws.length ≤ sizeLine) : wpAny (model prog w) A (binaryOp .Add (.ref t) (.ref b)) Q E s := by
  obtain ⟨⟨cls, dd, data, sl⟩, ho, hc, n, hd⟩ := id ht
  obtain ⟨⟨cls2, dd2, data2, sl2⟩, ho2, hc2, n2, hd2⟩ := id hb
  simp only at hc hd hc2 hd2
  subst hc hd hc2 hd2
  have e : vs.toArray ++ ws.toArray = (vs ++ ws).toArray := by simp
  by_cases hw : ws = []
  · exact concat_meets ⟨_, ho, rfl⟩ ⟨_, ho2, rfl⟩ noFill_tuple_add seq_tuple_add PySem.F.slot_tuple_add PySem.F.entry_tuple_add (PySem.F.args_tuple_add_2 _ _)
      (tuple_addW1 t b vs.toArray ws.toArray n n2 dd dd2 sl sl2 (by simpa using hv) (by simp [hw])) ⟨ho, ho2, h1 hw⟩
  · refine concat_meets ⟨_, ho, rfl⟩ ⟨_, ho2, rfl⟩ noFill_tuple_add seq_tuple_add PySem.F.slot_tuple_add PySem.F.entry_tuple_add (PySem.F.args_tuple_add_2 _ _)
      (tuple_addW2 t b vs.toArray ws.toArray n n2 dd dd2 sl sl2 (by simpa using hv) (by simpa using hw) (by rw [List.size_toArray, List.size_toArray]; exact hsz)) ⟨ho, ho2, ?_⟩
    rw [e]
    exact h2 hw

/-! ### t[a:b], not the whole -/
/-- a slice's bound as a place among n (d where it is left out) -/
def sIx (n d : Nat) : Option Int → Nat
  | none => d
  | some v => if v < 0 then (v + (n : Int)).toNat else min v.toNat n
theorem sIx_none (n d : Nat) : sIx n d none = d := rfl
theorem sIx_nat (n d k : Nat) : sIx n d (some (k : Int)) = min k n := by
  show (if (k : Int) < 0 then ((k : Int) + (n : Int)).toNat else min (k : Int).toNat n) = min k n
  rw [if_neg (by omega), Int.toNat_natCast]
theorem sIx_le (n d : Nat) (hd : d ≤ n) (o : Option Int) : sIx n d o ≤ n := by
  cases o with
  | none => exact hd
  | some v =>
    show (if v < 0 then (v + (n : Int)).toNat else min v.toNat n) ≤ n
    by_cases hv : v < 0
    · rw [if_pos hv]; omega
    · rw [if_neg hv]; exact Nat.min_le_right _ _
theorem clip_eq (v : Int) (n d : Nat) : (if v < 0 then max (v + (n : Int)) 0 else min v (n : Int)) = ((sIx n d (some v) : Nat) : Int) := by
  show (if v < 0 then max (v + (n : Int)) 0 else min v (n : Int)) = (((if v < 0 then (v + (n : Int)).toNat else min v.toNat n) : Nat) : Int)
  by_cases hv : v < 0
  · simp only [if_pos hv]; omega
  · simp only [if_neg hv]; omega
theorem adjust_gen (lo hi : Option Int) (n : Nat) : Builtin.Slice.sliceAdjust lo hi 1 (n : Int) = (((sIx n 0 lo : Nat) : Int), ((sIx n n hi : Nat) : Int)) := by
  have h1 : ¬ ((1 : Int) < 0) := by omega
  unfold Builtin.Slice.sliceAdjust
  simp only [h1, if_false]
  refine Prod.ext ?_ ?_
  · cases lo with
    | none => rfl
    | some v => exact clip_eq v n 0
  · cases hi with
    | none => rfl
    | some v => exact clip_eq v n n
theorem places_gen (i j : Nat) : Builtin.Slice.slicePlaces (i : Int) (j : Int) 1 = j - i := by
  unfold Builtin.Slice.slicePlaces
  have h1 : (1 : Int) > 0 := by omega
  simp only [h1, if_true, Int.ediv_one]
  split <;> omega
theorem slicePart_ {v : Value} {o : Option Int} {Q : Option Int → Shared → Prop} (p : IsPart v o) (h : Q o s) : wpAny (model prog w) A (Builtin.Slice.slicePartIndex v) Q E s := by
  cases p with
  | none => exact slicePart_none h
  | int i t => exact slicePart_int h
theorem sliceApplied_gen {sl : Addr} {vl vu : Value} {lo hi : Option Int} {n : Nat} {Q : Int × Int × Nat → Shared → Prop} (hs : s.heap.IsSliceOf sl vl vu .none) (pl : IsPart vl lo) (pu : IsPart vu hi)
    (h : Q (((sIx n 0 lo : Nat) : Int), 1, sIx n n hi - sIx n 0 lo) s) : wpAny (model prog w) A (Builtin.Slice.sliceApplied (.ref sl) (pure (n : Int))) Q E s := by
  obtain ⟨os, hos, hcs, hds⟩ := id hs
  unfold Builtin.Slice.sliceApplied Builtin.Slice.sliceFields
  refine wpAny_bind (wpAny_bind (wpAny_field hos hds (x := vl) rfl (wpAny_bind (wpAny_field hos hds (x := vu) rfl (wpAny_bind (wpAny_field hos hds (x := .none) rfl (wpAny_pure ?_)))))))
  refine wpAny_bind (slicePart_none ?_)
  show wpAny _ _ (if ((1 : Int) == 0) = true then _ else _) _ _ s
  rw [if_neg (by decide)]
  refine wpAny_bind (slicePart_ pl (wpAny_bind (slicePart_ pu (wpAny_bind (wpAny_pure ?_)))))
  show wpAny _ _ (match Builtin.Slice.sliceAdjust lo hi 1 (n : Int) with | (lo, hi) => pure (lo, (1 : Int), Builtin.Slice.slicePlaces lo hi 1)) _ _ s
  rw [adjust_gen lo hi n]
  show wpAny _ _ (pure (((sIx n 0 lo : Nat) : Int), (1 : Int), Builtin.Slice.slicePlaces ((sIx n 0 lo : Nat) : Int) ((sIx n n hi : Nat) : Int) 1)) _ _ s
  rw [places_gen]
  exact wpAny_pure h
theorem pick_gen (xs : Array Value) (i k : Nat) : ((List.range k).filterMap fun (m : Nat) => xs[((i : Int) + (m : Int) * 1).toNat]?).toArray = ((xs.toList.drop i).take k).toArray := by
  have e : (fun (m : Nat) => xs[((i : Int) + (m : Int) * 1).toNat]?) = fun m => xs[i + m]? := by
    funext m
    have : ((i : Int) + (m : Int) * 1).toNat = i + m := by omega
    rw [this]
  rw [e]
  have := pick_run xs i k
  rw [List.filterMap_map] at this
  have e2 : ((fun x => xs[x]?) ∘ fun x => i + x) = fun m => xs[i + m]? := rfl
  rw [e2] at this
  rw [this]

theorem getItem_tuple_cut {t sl : Addr} {items : Array Value} {vl vu : Value} {lo hi : Option Int} {Q : Value → Shared → Prop} (ht : IsTup s.heap t items) (hs : s.heap.IsSliceOf sl vl vu .none) (pl : IsPart vl lo) (pu : IsPart vu hi)
    (hw : ¬ (sIx items.size 0 lo = 0 ∧ sIx items.size items.size hi = items.size))
    (h : Q (.ref s.heap.objs.size) { s with heap := s.heap.push { cls := .type "tuple", data := .seq ((items.toList.drop (sIx items.size 0 lo)).take (sIx items.size items.size hi - sIx items.size 0 lo)).toArray } })
    (hsz : items.size ≤ sizeLine) : wpAny (model prog w) A (getItem (.ref t) (.ref sl)) Q E s := by
  have htake : sizeOk (.seq ((items.toList.drop (sIx items.size 0 lo)).take (sIx items.size items.size hi - sIx items.size 0 lo)).toArray) := by
    show ((items.toList.drop (sIx items.size 0 lo)).take (sIx items.size items.size hi - sIx items.size 0 lo)).toArray.size ≤ sizeLine
    rw [List.size_toArray, List.length_take, List.length_drop, Array.length_toList]
    omega
  have hj : sIx items.size items.size hi ≤ items.size := sIx_le _ _ (Nat.le_refl _) hi
  obtain ⟨os, hos, hcs, hds⟩ := id hs
  have hTs : s.TypeIs (.ref sl) "slice" := ⟨os, hos, hcs⟩
  unfold getItem
  try with_reducible refine wpAny_holding ?_
  first | refine wpAny_bind (wpAny_pure ?_) | skip
  refine wpAny_bind (wpAny_sequenceKey ht.typeIs (by decide) ?_)
  refine wpAny_bind (wpAny_callSpecial?_slot (name := Str.ofString "__getitem__") ht.typeIs PyProof.Rows.slot_tuple_getitem
    (wpAny_call_entry PyProof.Rows.slot_tuple_getitem ht.typeIs entry_tuple_getitem ?_ (args_tuple_getitem _ _)))
  show wpAny _ _ (Builtin.Tuple.tupleItemsOf (.ref t) >>= _) _ _ s
  refine wpAny_bind (tupleItemsOf_ ht ?_)
  refine wpAny_bind (wpAny_typeOf hTs ?_)
  rw [if_pos (by decide)]
  refine wpAny_bind (sliceApplied_gen hs pl pu ?_)
  have hno : ¬ ((((sIx items.size 0 lo : Nat) : Int) == 0 && (1 : Int) == 1 && (sIx items.size items.size hi - sIx items.size 0 lo) == items.size) = true) := by
    intro q
    rw [Bool.and_eq_true, Bool.and_eq_true] at q
    have q1 : ((sIx items.size 0 lo : Nat) : Int) = 0 := eq_of_beq q.1.1
    have q2 : sIx items.size items.size hi - sIx items.size 0 lo = items.size := eq_of_beq q.2
    exact hw ⟨by omega, by omega⟩
  show wpAny _ _ (if (((sIx items.size 0 lo : Nat) : Int) == 0 && (1 : Int) == 1 && (sIx items.size items.size hi - sIx items.size 0 lo) == items.size) = true then _ else _) _ _ s
  rw [if_neg hno, pick_gen]
  first
    | exact wpAny_bind (m := Builtin.Tuple.tupleExact _) (wpAny_newObj_type (wpAny_pure ⟨_, rfl, wpAny_pure h⟩) htake)
    | exact wpAny_bind (m := Builtin.Tuple.tupleExact _) (wpAny_newObj_type (wpAny_bind (wpAny_pure (wpAny_pure ⟨_, rfl, wpAny_pure h⟩))) htake)
    | exact wpAny_bind (wpAny_bind (m := Builtin.Tuple.tupleExact _) (wpAny_newObj_type (wpAny_pure (wpAny_pure ⟨_, rfl, wpAny_pure h⟩)) htake))
    | exact wpAny_bind (wpAny_bind (m := Builtin.Tuple.tupleExact _) (wpAny_newObj_type (wpAny_pure ⟨_, rfl, wpAny_pure h⟩) htake))
end
end HT

namespace L2
open PySem PySem.Spec PyProof.Rows

/-! ### the parts of a slice -/
abbrev TO := St → Hp → (Option Int → Hp → Prop) → Prop
/-- a slice's part (left out, or an int) -/
def PO (X : Cx) (e : Option Expr) (t : TO) : Prop :=
  ∀ (pins : List (Addr × Obj)) (s : Shared) (σ : St) (H : Hp) (Q : Option Int → Hp → Prop), Inv X pins σ H s → t σ H Q →
    wpAny (model X.prog X.w) X.A (evalPart e X.env) (fun u s' => ∃ o H', Inv X pins σ H' s' ∧ IsPart u o ∧ Q o H') X.xe s
def tNoPart : TO := fun _ H Q => Q none H
def tPart (t : TE) : TO := fun σ H Q => t σ H fun x H1 => ∃ i, x = .int i ∧ Q (some i) H1

theorem intsAre_of {ns : List Int} : ∀ {us : List Value}, Vals (ns.map V.int) us → IntsAre us ns := by
  induction ns with
  | nil => intro us r; rw [List.map_nil] at r; cases r; exact .nil
  | cons n ns ih =>
    intro us r
    rw [List.map_cons] at r
    cases r with
    | cons r1 r2 =>
      obtain ⟨t, e⟩ := r1
      subst e
      exact .cons n t (ih r2)

section
variable {X : Cx} {e : Expr} {te : TE} {lo hi : Option Expr} {tl th : TO} {pos p2 : Pos}

theorem po_none : PO X none tNoPart := by
  intro pins s σ H Q I h
  rw [evalPart_none]
  exact wpAny_pure ⟨none, H, I, .none, h⟩
theorem po_some (h : PE X e te) : PO X (some e) (tPart te) := by
  intro pins s σ H Q I hw
  rw [evalPart_some]
  refine thn (h pins s σ H _ I hw) fun u s1 ⟨x, H1, I1, r1, q1⟩ => ?_
  obtain ⟨i, rfl, q⟩ := q1
  obtain ⟨t, rfl⟩ := r1
  exact ⟨some i, H1, I1, .int i t, q⟩

/-- what a slice of a value is, by values: the slice object stands at sl -/
def SlR (X : Cx) (r : V → Option Int → Option Int → Hp → VK → Prop) : Prop :=
  ∀ (pins : List (Addr × Obj)) (s : Shared) (σ : St) (H : Hp) (x : V) (v vl vu : Value) (lo hi : Option Int) (sl : Addr) (Q : VK), Inv X pins σ H s → RelV x v → s.heap.IsSliceOf sl vl vu .none → IsPart vl lo → IsPart vu hi → r x lo hi H Q →
    ∃ T id, typeLookup (.type T) "__getitem__" = pure (some (.builtin id)) ∧ s.TypeIs v T ∧ wpAny (model X.prog X.w) X.A (getItem v (.ref sl)) (EP X pins σ Q) X.xe s
theorem SlR.or {r r' : V → Option Int → Option Int → Hp → VK → Prop} (h : SlR X r) (h' : SlR X r') : SlR X (fun x lo hi H Q => r x lo hi H Q ∨ r' x lo hi H Q) := by
  intro pins s σ H x v vl vu lo hi sl Q I rx hs pl pu q
  rcases q with q | q
  · exact h pins s σ H x v vl vu lo hi sl Q I rx hs pl pu q
  · exact h' pins s σ H x v vl vu lo hi sl Q I rx hs pl pu q
def tSl (r : V → Option Int → Option Int → Hp → VK → Prop) (te : TE) (tl th : TO) : TE := fun σ H Q => te σ H fun x H1 => tl σ H1 fun l H2 => th σ H2 fun u H3 => r x l u H3 Q
/-- a[lo:hi], any a -/
theorem pe_slice {r : V → Option Int → Option Int → Hp → VK → Prop} (hr : SlR X r) (he : PE X e te) (hl : PO X lo tl) (hu : PO X hi th) : PE X (.Subscript e (.Slice lo hi none p2) pos) (tSl r te tl th) := by
  intro pins s σ H Q I h
  refine Subscript_ (thn (he pins s σ H _ I h) fun v s1 ⟨x, H1, I1, r1, q1⟩ => ?_)
  refine wpAny_Slice (thn (hl pins s1 σ H1 _ I1 q1) fun vl s2 ⟨l, H2, I2, pl, q2⟩ => thn (hu pins s2 σ H2 _ I2 q2) fun vu s3 ⟨u, H3, I3, pu, q3⟩ => ?_)
  rw [evalPart_none]
  refine wpAny_pure ?_
  have I4 : Inv X pins σ H3 { s3 with heap := s3.heap.push { cls := .type "slice", data := .fields #[vl, vu, .none] } } := I3.kept (t' := s3.toks) fun b ob q => Heap.get?_push_of_some _ q
  obtain ⟨T, id, hT, ht, hg⟩ := hr pins { s3 with heap := s3.heap.push { cls := .type "slice", data := .fields #[vl, vu, .none] } } σ H3 x v vl vu l u s3.heap.objs.size Q I4 r1 (Heap.IsSliceOf.new ..) pl pu q3
  show wpAny (model X.prog X.w) X.A (subscriptTail e (.Slice lo hi none p2) v (.ref s3.heap.objs.size)) (EP X pins σ Q) X.xe { s3 with heap := s3.heap.push { cls := .type "slice", data := .fields #[vl, vu, .none] } }
  exact tail_any (ops := [.ref s3.heap.objs.size, v]) ht hT hg (by with_unfolding_all rfl)

/-- the items of xs[lo:hi] -/
def cutV (xs : List V) (lo hi : Option Int) : List V := (xs.drop (HT.sIx xs.length 0 lo)).take (HT.sIx xs.length xs.length hi - HT.sIx xs.length 0 lo)
theorem cutV_length (xs : List V) (lo hi : Option Int) : (cutV xs lo hi).length ≤ xs.length := by
  unfold cutV
  rw [List.length_take, List.length_drop]
  omega
/-- t[lo:hi], not the whole of it (the whole would be t itself) -/
def rSlT (K : PySem.W.Frag) : V → Option Int → Option Int → Hp → VK → Prop := fun x lo hi H Q => ∃ a xs, x = .ref a ∧ SqT K H a xs ∧
  ¬ (HT.sIx xs.length 0 lo = 0 ∧ HT.sIx xs.length xs.length hi = xs.length) ∧ ∀ p, H p = none → Q (.ref p) (upd H p (.tup (cutV xs lo hi)))
theorem sl_tup : SlR X (rSlT X.K) := by
  intro pins s σ H x v vl vu lo hi sl Q I rx hs pl pu h
  obtain ⟨a, xs, rfl, hx, hw, q⟩ := h
  cases rx
  obtain ⟨its, r, ht, hz⟩ := I.tuple hx
  have hlen : its.toArray.size = xs.length := by rw [List.size_toArray]; exact r.length.symm
  refine ⟨"tuple", _, PyProof.Rows.slot_tuple_getitem.lookup, ht.typeIs, ?_⟩
  refine HT.getItem_tuple_cut ht hs pl pu (by rw [hlen]; exact hw) ?_ (by rw [hlen]; exact hz)
  rw [hlen]
  refine ⟨.ref s.heap.objs.size, _, I.laid (t' := s.toks) (o := .tup (cutV xs lo hi)) (fun b ob q => Heap.get?_push_of_some _ q) (Nat.le_refl _) ?_, rfl, q _ (I.hok.fresh (Nat.le_refl _))⟩
  exact ⟨Nat.le_trans (cutV_length xs lo hi) hz, _, (r.drop (HT.sIx xs.length 0 lo)).take (HT.sIx xs.length xs.length hi - HT.sIx xs.length 0 lo), IsTup.new _ _⟩

/-! ### t < u, t + u -/
def rLtT (K : PySem.W.Frag) : R2 := fun x y H Q => ∃ a b ns ms, x = .ref a ∧ y = .ref b ∧ SqT K H a (ns.map V.int) ∧ SqT K H b (ms.map V.int) ∧ Q (.bl (HT.lexLt ns ms)) H
theorem op_ltT (hu : X.A.units < cLine) : OpR X (compareOp .Lt) (rLtT X.K) := by
  intro pins s σ H x y v u Q I rx ry h
  obtain ⟨a, b, ns, ms, rfl, rfl, ha, hb, q⟩ := h
  cases rx
  cases ry
  obtain ⟨its, r1, p1, _⟩ := I.tuple ha
  obtain ⟨its2, r2, p2, _⟩ := I.tuple hb
  have i1 : IntsAre its.toArray.toList ns := intsAre_of r1
  have i2 : IntsAre its2.toArray.toList ms := intsAre_of r2
  exact HT.lt_tupInts p1 p2 i1 i2 hu ⟨.bl (HT.lexLt ns ms), H, I, rfl, q⟩
/-- t + u, t not empty: u empty gives t itself -/
def rCatT (K : PySem.W.Frag) : R2 := fun x y H Q => ∃ a b xs ys, x = .ref a ∧ y = .ref b ∧ SqT K H a xs ∧ SqT K H b ys ∧ xs ≠ [] ∧ xs.length + ys.length ≤ sizeLine ∧
  (ys = [] → Q (.ref a) H) ∧ (ys ≠ [] → ∀ p, H p = none → Q (.ref p) (upd H p (.tup (xs ++ ys))))
theorem Vals.nil_iff {xs : List V} {us : List Value} (r : Vals xs us) : us = [] ↔ xs = [] := by
  cases r with
  | nil => simp
  | cons _ _ => simp
theorem op_catT : OpR X (binaryOp .Add) (rCatT X.K) := by
  intro pins s σ H x y v u Q I rx ry h
  obtain ⟨a, b, xs, ys, rfl, rfl, ha, hb, hx, hz, q1, q2⟩ := h
  cases rx
  cases ry
  obtain ⟨its, r1, p1, _⟩ := I.tuple ha
  obtain ⟨its2, r2, p2, _⟩ := I.tuple hb
  refine HT.cat_tup p1 p2 (fun z => hx (r1.nil_iff.mp z)) (fun z => ⟨.ref a, H, I, rfl, q1 (r2.nil_iff.mp z)⟩) (fun z => ?_) (by rw [← r1.length, ← r2.length]; exact hz)
  refine ⟨.ref s.heap.objs.size, _, I.laid (t' := s.toks) (o := .tup (xs ++ ys)) (fun b ob q => Heap.get?_push_of_some _ q) (Nat.le_refl _) ?_, rfl, q2 (fun w => z (r2.nil_iff.mpr w)) _ (I.hok.fresh (Nat.le_refl _))⟩
  exact ⟨by rw [List.length_append]; exact hz, _, r1.append r2, IsTup.new _ _⟩
/-- tuple(t) -/
theorem call_tupleT : CallR X (.type "tuple") (fun xs H Q => ∃ a ys, xs = [.ref a] ∧ SqT X.K H a ys ∧ Q (.ref a) H) := by
  intro pins s σ H xs us Q I r h
  obtain ⟨a, ys, rfl, ha, q⟩ := h
  obtain ⟨u, rfl, ru⟩ := vals1 r
  cases ru
  obtain ⟨its, _, p1, _⟩ := I.tuple ha
  exact call_tuple_same (items := its.toArray) p1 ⟨.ref a, H, I, rfl, q⟩
end
end L2

namespace L2
open PySem PySem.Spec PyProof.Rows

/-! ### places -/
/-- the place that an index of any sign means -/
def ixN (n : Nat) (i : Int) : Option Nat := if 0 ≤ i then (if i < n then some i.toNat else none) else if -(n : Int) ≤ i then some (i + n).toNat else none
def atI {α : Type} (xs : List α) (i : Int) : Option α := (ixN xs.length i).bind fun j => xs[j]?
theorem ixN_seq {n : Nat} {i : Int} {j : Nat} (h : ixN n i = some j) : seqIndex? i n = some j ∧ j < n ∧ -(n : Int) ≤ i ∧ i < n := by
  unfold ixN at h
  by_cases h0 : 0 ≤ i
  · rw [if_pos h0] at h
    by_cases h1 : i < n
    · rw [if_pos h1] at h
      have e : i.toNat = j := Option.some.inj h
      exact ⟨by rw [seqIndex_of h0 h1, e], by omega, by omega, h1⟩
    · rw [if_neg h1] at h; cases h
  · rw [if_neg h0] at h
    by_cases h1 : -(n : Int) ≤ i
    · rw [if_pos h1] at h
      have e : (i + n).toNat = j := Option.some.inj h
      exact ⟨by rw [seqIndex_neg (by omega) h1, e], by omega, h1, by omega⟩
    · rw [if_neg h1] at h; cases h
theorem atI_get {α : Type} {xs : List α} {i : Int} {v : α} (h : atI xs i = some v) : ∃ j, seqIndex? i xs.length = some j ∧ xs[j]? = some v ∧ j < xs.length ∧ -(xs.length : Int) ≤ i ∧ i < xs.length := by
  unfold atI at h
  cases e : ixN xs.length i with
  | none => rw [e] at h; cases h
  | some j =>
    rw [e] at h
    obtain ⟨h1, h2, h3, h4⟩ := ixN_seq e
    exact ⟨j, h1, h, h2, h3, h4⟩
theorem atI_nat {α : Type} {xs : List α} {j : Nat} {v : α} (h : xs[j]? = some v) : atI xs (j : Int) = some v := by
  have hj : j < xs.length := (List.getElem?_eq_some_iff.mp h).1
  have e : ixN xs.length (j : Int) = some j := by
    unfold ixN
    rw [if_pos (by omega), if_pos (by omega)]; simp
  unfold atI; rw [e]; exact h
theorem atI_last {α : Type} (xs : List α) (v : α) : atI (xs ++ [v]) (-1) = some v := by
  have hl : (xs ++ [v]).length = xs.length + 1 := by simp
  have e : ixN (xs ++ [v]).length (-1) = some xs.length := by
    unfold ixN
    rw [hl, if_neg (by decide), if_pos (by omega)]
    congr 1
    omega
  unfold atI
  rw [e]
  show (xs ++ [v])[xs.length]? = some v
  simp

/-! ### what may be subscripted -/
/-- what stands as an index of a plain subscript -/
def PlainIx (b : Expr) : Prop := ∀ o i, subscripted b false o i = operate [o, i] (getItem o i)
/-- a subscript by values -/
def IxR (X : Cx) (r : R2) : Prop :=
  ∀ (value slice : Expr) (pins : List (Addr × Obj)) (s : Shared) (σ : St) (H : Hp) (x y : V) (v u : Value) (Q : VK), Inv X pins σ H s → RelV x v → RelV y u → r x y H Q →
    subscripted slice false v u = operate [v, u] (getItem v u) → wpAny (model X.prog X.w) X.A (subscriptTail value slice v u) (EP X pins σ Q) X.xe s
/-- a call of a builtin's method by values: the receiver, the arguments -/
def MtR (X : Cx) (id : String) (r : V → List V → Hp → VK → Prop) : Prop :=
  ∀ (pins : List (Addr × Obj)) (s : Shared) (σ : St) (H : Hp) (x : V) (xs : List V) (v : Value) (us : List Value) (Q : VK), Inv X pins σ H s → RelV x v → Vals xs us → r x xs H Q →
    wpAny (model X.prog X.w) X.A (call (.builtin id) (v :: us)) (EP X pins σ Q) X.xe s
section
variable {X : Cx} {a b : Expr} {ta tb : TE} {pos : Pos}
theorem IxR.or {r r' : R2} (h : IxR X r) (h' : IxR X r') : IxR X (fun x y H Q => r x y H Q ∨ r' x y H Q) := by
  intro value slice pins s σ H x y v u Q I rx ry q hs
  rcases q with q | q
  · exact h value slice pins s σ H x y v u Q I rx ry q hs
  · exact h' value slice pins s σ H x y v u Q I rx ry q hs
theorem MtR.or {id : String} {r r' : V → List V → Hp → VK → Prop} (h : MtR X id r) (h' : MtR X id r') : MtR X id (fun x xs H Q => r x xs H Q ∨ r' x xs H Q) := by
  intro pins s σ H x xs v us Q I rx rs q
  rcases q with q | q
  · exact h pins s σ H x xs v us Q I rx rs q
  · exact h' pins s σ H x xs v us Q I rx rs q
/-- a[b] -/
theorem pe_ix {r : R2} (hr : IxR X r) (ha : PE X a ta) (hb : PE X b tb) (hs : PlainIx b) : PE X (.Subscript a b pos) (tOp r ta tb) := by
  intro pins s σ H Q I h
  exact Subscript_ (binT ha hb I h fun v u s2 x y H2 I2 rx ry q => hr a b pins s2 σ H2 x y v u Q I2 rx ry q (hs _ _))

def rIxL (K : PySem.W.Frag) : R2 := fun x y H Q => ∃ p xs i v, x = .ref p ∧ y = .int i ∧ SqL K H p xs ∧ atI xs i = some v ∧ Q v H
def rIxT (K : PySem.W.Frag) : R2 := fun x y H Q => ∃ p xs i v, x = .ref p ∧ y = .int i ∧ SqT K H p xs ∧ atI xs i = some v ∧ Q v H
def rIxS : R2 := fun x y H Q => ∃ z i c, x = .str z ∧ y = .int i ∧ z.length ≤ sizeLine ∧ atI z.cps.toList i = some c ∧ Q (.str ⟨#[c]⟩) H
theorem ix_list : IxR X (rIxL X.K) := by
  intro value slice pins s σ H x y v u Q I rx ry h hs
  obtain ⟨p, xs, i, z, rfl, rfl, hq, he, q⟩ := h
  cases rx
  obtain ⟨t, rfl⟩ := ry
  obtain ⟨its, r, pl, hz⟩ := I.list hq
  obtain ⟨j, h1, h2, h3, h4, h5⟩ := atI_get he
  obtain ⟨w, ew, rw'⟩ := r.get h2
  have hl := r.length
  have hn := line63
  have fin : EP X pins σ Q w s := ⟨z, H, I, rw', q⟩
  by_cases h0 : 0 ≤ i
  · have hj : i.toNat = j := by
      rw [seqIndex_of h0 h5] at h1
      exact Option.some.inj h1
    exact item_listR pl.isList h0 (by omega) (by rw [hj]; simpa using ew) fin hs
  · have hj : (i + (its.toArray.size : Int)).toNat = j := by
      rw [seqIndex_neg (by omega) h4] at h1
      rw [List.size_toArray, ← hl]
      exact Option.some.inj h1
    exact subscriptTail_builtinR (x := w) pl.isList.typeIs slot_list_getitem.lookup
      (wpAny_getItem_list_neg (Q := fun r s' => r = w ∧ EP X pins σ Q r s') pl.isList (by omega) (by rw [List.size_toArray] <;> omega) (by omega) (by rw [hj]; simpa using ew) ⟨rfl, fin⟩) hs
theorem ix_tup : IxR X (rIxT X.K) := by
  intro value slice pins s σ H x y v u Q I rx ry h hs
  obtain ⟨p, xs, i, z, rfl, rfl, hq, he, q⟩ := h
  cases rx
  obtain ⟨t, rfl⟩ := ry
  obtain ⟨its, r, pl, hz⟩ := I.tuple hq
  obtain ⟨j, h1, h2, h3, h4, h5⟩ := atI_get he
  obtain ⟨w, ew, rw'⟩ := r.get h2
  have hl := r.length
  have hn := line63
  have fin : EP X pins σ Q w s := ⟨z, H, I, rw', q⟩
  exact subscriptTail_builtinR (x := w) pl.typeIs slot_tuple_getitem.lookup
    (getItem_tuple (j := j) (Q := fun r s' => r = w ∧ EP X pins σ Q r s') pl (by omega) (by omega) (by rw [List.size_toArray, ← hl]; exact h1) (by simpa using ew) ⟨rfl, fin⟩) hs
theorem ix_str : IxR X rIxS := by
  intro value slice pins s σ H x y v u Q I rx ry h hs
  obtain ⟨z, i, c, rfl, rfl, hz, he, q⟩ := h
  obtain ⟨t, rfl⟩ := rx
  obtain ⟨t', rfl⟩ := ry
  obtain ⟨j, h1, h2, h3, h4, h5⟩ := atI_get he
  have hl : z.cps.toList.length = z.length := by simp [Str.length]
  rw [hl] at h1 h4 h5
  have hn := line63
  exact tail_any (typeIs_str s z t) slot_str_getitem.lookup (getItem_str (c := c) (by
    have e1 : decide (i < -(2 ^ 63 : Int)) = false := decide_eq_false (by omega)
    have e2 : decide (i ≥ 2 ^ 63) = false := decide_eq_false (by omega)
    rw [e1, e2, Bool.or_false]) (by rw [h1]; simpa using h2) ⟨.str ⟨#[c]⟩, H, I.tok _, ⟨_, rfl⟩, q⟩) hs
/-- list, tuple or str -/
def rIx (K : PySem.W.Frag) : R2 := fun x y H Q => rIxL K x y H Q ∨ rIxT K x y H Q ∨ rIxS x y H Q
theorem ix_seq : IxR X (rIx X.K) := ix_list.or (ix_tup.or ix_str)

/-! ### xs[i] = v, any sign -/
/-- the list's object behind a store -/
theorem mapSeq_set (its : List Value) (n j : Nat) (u : Value) : Obj.mapSeq (·.setIfInBounds j u) { cls := .type "list", data := .seq its.toArray n } = { cls := .type "list", data := .seq (its.set j u).toArray n } := by
  simp [Obj.mapSeq]
theorem Inv.lst {pins : List (Addr × Obj)} {σ : St} {H : Hp} {s : Shared} {p : Addr} {xs : List V} (I : Inv X pins σ H s) (h : H p = some (.lst xs)) :
    ∃ (its : List Value) (n : Nat), Vals xs its ∧ s.heap.get? p = some { cls := .type "list", data := .seq its.toArray n } ∧ xs.length ≤ sizeLine := by
  obtain ⟨z, its, n, r, e⟩ := I.hok p _ h
  exact ⟨its, n, r, e, z⟩
/-- the list at p is written by an update of its object -/
theorem Inv.lstUpd {pins : List (Addr × Obj)} {σ : St} {H : Hp} {s : Shared} {p : Addr} {xs ys : List V} {its its' : List Value} {n n' : Nat} {f : Obj → Obj} (I : Inv X pins σ H s) (h : H p = some (.lst xs))
    (ho : s.heap.get? p = some { cls := .type "list", data := .seq its.toArray n }) (hf : f { cls := .type "list", data := .seq its.toArray n } = { cls := .type "list", data := .seq its'.toArray n' }) (r : Vals ys its') (hz : ys.length ≤ sizeLine) (t : Nat) :
    Inv X pins σ (upd H p (.lst ys)) { s with heap := s.heap.update p f, toks := t } := by
  have e : (s.heap.update p f).get? p = some { cls := .type "list", data := .seq its'.toArray n' } := by
    rw [Heap.get?_update_self f ho (by rw [hf] <;> rfl), hf]
  refine I.write (x := p) (e := p) (by rw [h]; trivial) (.inl rfl) (fun b u hb q => (Heap.get?_update_other _ _ (Ne.symm hb)).trans q) ⟨_, e⟩ ?_
  exact ⟨hz, its', n', r, e⟩
def rSetL : V → V → V → Hp → (Hp → Prop) → Prop := fun o i v H Q => ∃ p xs k j, o = .ref p ∧ i = .int k ∧ H p = some (.lst xs) ∧ ixN xs.length k = some j ∧ Q (upd H p (.lst (xs.set j v)))
theorem set_list : PSet X rSetL := by
  intro pins s σ H o i v ov iv u Q I ro ri rv h
  obtain ⟨p, xs, k, j, rfl, rfl, hp, hj, q⟩ := h
  cases ro
  obtain ⟨t, rfl⟩ := ri
  obtain ⟨its, n, r, ho, hz⟩ := I.lst hp
  obtain ⟨h1, h2, h3, h4⟩ := ixN_seq hj
  have hl := r.length
  have hn := line63
  have I' : Inv X pins σ (upd H p (.lst (xs.set j v))) { s with heap := s.heap.update p (Obj.mapSeq (·.setIfInBounds j u)) } :=
    I.lstUpd hp ho (mapSeq_set its n j u) (r.set rv j) (by rw [List.length_set]; exact hz) s.toks
  by_cases h0 : 0 ≤ k
  · have hk : k.toNat = j := by
      rw [seqIndex_of h0 h4] at h1
      exact Option.some.inj h1
    exact PySem.W.ki_setAt ho h0 (by omega) (by rw [List.size_toArray, ← hl]; exact h4) (by rw [hk]; exact ⟨_, I', q⟩)
  · have hk : (k + (its.toArray.size : Int)).toNat = j := by
      rw [seqIndex_neg (by omega) h3] at h1
      rw [List.size_toArray, ← hl]
      exact Option.some.inj h1
    exact PySem.W.ki_setBack ho (by omega) (by rw [List.size_toArray, ← hl]; exact h3) (by omega) (by rw [hk]; exact ⟨_, I', q⟩)

/-! ### slices -/
theorem slice_bounds (lo hi : Option Int) (n : Nat) : (sliceBounds lo hi none n).1 = ((HT.sIx n 0 lo : Nat) : Int) ∧ (sliceBounds lo hi none n).2.1 = ((HT.sIx n n hi : Nat) : Int) ∧ (sliceBounds lo hi none n).2.2 = 1 := by
  refine ⟨?_, ?_, rfl⟩
  · cases lo with
    | none => simp [sliceBounds, HT.sIx]
    | some i =>
      simp only [sliceBounds, HT.sIx, Option.getD_none, show (1 : Int) > 0 by decide, if_true]
      by_cases h : i < 0
      · simp only [h, if_true] <;> omega
      · simp only [h, if_false] <;> omega
  · cases hi with
    | none => simp [sliceBounds, HT.sIx]
    | some i =>
      simp only [sliceBounds, HT.sIx, Option.getD_none, show (1 : Int) > 0 by decide, if_true]
      by_cases h : i < 0
      · simp only [h, if_true] <;> omega
      · simp only [h, if_false] <;> omega
theorem slicePick_cut (its : List Value) (lo hi : Option Int) : slicePick its.toArray lo hi none = ((its.drop (HT.sIx its.length 0 lo)).take (HT.sIx its.length its.length hi - HT.sIx its.length 0 lo)).toArray := by
  obtain ⟨h1, h2, h3⟩ := slice_bounds lo hi its.toArray.size
  unfold slicePick
  rw [h1, h2, h3]
  simp only [sliceRange_one, pick_run, List.size_toArray] <;> rfl
/-- xs[lo:hi] of a list: a new list -/
def rSlL (K : PySem.W.Frag) : V → Option Int → Option Int → Hp → VK → Prop := fun x lo hi H Q => ∃ a xs, x = .ref a ∧ SqL K H a xs ∧ ∀ p, H p = none → Q (.ref p) (upd H p (.lst (cutV xs lo hi)))
theorem sl_list : SlR X (rSlL X.K) := by
  intro pins s σ H x v vl vu lo hi sl Q I rx hs pl pu h
  obtain ⟨a, xs, rfl, hx, q⟩ := h
  cases rx
  obtain ⟨its, r, ht, hz⟩ := I.list hx
  have hlen := r.length
  refine ⟨"list", _, slot_list_getitem.lookup, ht.isList.typeIs, ?_⟩
  refine wpAny_getItem_list_slice ht.isList hs pl pu .none (by simp) ?_ (by rw [List.size_toArray] <;> omega)
  rw [slicePick_cut, ← hlen]
  refine ⟨.ref s.heap.objs.size, _, I.laid (t' := s.toks) (o := .lst (cutV xs lo hi)) (fun b ob q => Heap.get?_push_of_some _ q) (Nat.le_refl _) ?_, rfl, q _ (I.hok.fresh (Nat.le_refl _))⟩
  exact ⟨Nat.le_trans (cutV_length xs lo hi) hz, _, 0, (r.drop (HT.sIx xs.length 0 lo)).take (HT.sIx xs.length xs.length hi - HT.sIx xs.length 0 lo), Heap.get?_push_size _ rfl⟩

/-! ### in, not in: flat items -/
def flatV : V → Bool
  | .non => true
  | .bl _ => true
  | .int _ => true
  | .str _ => true
  | _ => false
/-- == of flat values -/
def eqV : V → V → Bool
  | .non, .non => true
  | .bl a, .bl b => a == b
  | .bl a, .int b => (if a then 1 else 0) == b
  | .int a, .bl b => a == (if b then 1 else 0)
  | .int a, .int b => a == b
  | .str a, .str b => a == b
  | _, _ => false
theorem eqAt_V {A : Around} {s : Shared} {y x : V} {u v : Value} (ry : RelV y u) (rx : RelV x v) (fy : flatV y = true) (fx : flatV x = true) : SeqAt.EqAt A s u v (eqV y x) := by
  cases y with
  | non =>
    cases ry
    cases x with
    | non => cases rx; exact SeqAt.EqAt.same _
    | bl b => cases rx; exact SeqAt.EqAt.none_bool b
    | int b => obtain ⟨t, rfl⟩ := rx; exact SeqAt.EqAt.none_int b t
    | str b => obtain ⟨t, rfl⟩ := rx; exact SeqAt.EqAt.none_str b t
    | _ => exact absurd (show false = true from fx) Bool.false_ne_true
  | bl a =>
    cases ry
    cases x with
    | non => cases rx; exact SeqAt.EqAt.bool_none a
    | bl b => cases rx; exact SeqAt.EqAt.bool_bool a b
    | int b => obtain ⟨t, rfl⟩ := rx; exact SeqAt.EqAt.bool_int a b t
    | str b => obtain ⟨t, rfl⟩ := rx; exact SeqAt.EqAt.bool_str a b t
    | _ => exact absurd (show false = true from fx) Bool.false_ne_true
  | int a =>
    obtain ⟨t', rfl⟩ := ry
    cases x with
    | non => cases rx; exact SeqAt.EqAt.int_none a t'
    | bl b => cases rx; exact SeqAt.EqAt.int_bool a t' b
    | int b => obtain ⟨t, rfl⟩ := rx; exact SeqAt.EqAt.int_int a t' b t
    | str b => obtain ⟨t, rfl⟩ := rx; exact SeqAt.EqAt.int_str a t' b t
    | _ => exact absurd (show false = true from fx) Bool.false_ne_true
  | str a =>
    obtain ⟨t', rfl⟩ := ry
    cases x with
    | non => cases rx; exact SeqAt.EqAt.str_none a t'
    | bl b => cases rx; exact SeqAt.EqAt.str_bool a t' b
    | int b => obtain ⟨t, rfl⟩ := rx; exact SeqAt.EqAt.str_int a t' b t
    | str b => obtain ⟨t, rfl⟩ := rx; exact SeqAt.EqAt.str_str a t' b t
    | _ => exact absurd (show false = true from fx) Bool.false_ne_true
  | _ => exact absurd (show false = true from fy) Bool.false_ne_true
/-- the items' answers, read off the values (a value's own answer does not lean on its token) -/
def eqU (x : V) (u : Value) : Bool := match u with
  | .none => eqV .non x
  | .bool b => eqV (.bl b) x
  | .int i _ => eqV (.int i) x
  | .str z _ => eqV (.str z) x
  | _ => false
theorem eqU_of {x y : V} {u : Value} (r : RelV y u) (f : flatV y = true) : eqU x u = eqV y x := by
  cases y with
  | non => cases r; rfl
  | bl b => cases r; rfl
  | int i => obtain ⟨t, rfl⟩ := r; rfl
  | str z => obtain ⟨t, rfl⟩ := r; rfl
  | _ => exact absurd (show false = true from f) Bool.false_ne_true
theorem any_eqU {x : V} : ∀ {xs : List V} {us : List Value}, Vals xs us → xs.all flatV = true → us.any (eqU x) = xs.any fun y => eqV y x
  | _, _, .nil, _ => rfl
  | y :: xs, u :: us, .cons r t, f => by
    rw [List.all_cons, Bool.and_eq_true] at f
    rw [List.any_cons, List.any_cons, eqU_of r f.1, any_eqU t f.2]
theorem mem_eqAt {A : Around} {s : Shared} {x : V} {v : Value} (rx : RelV x v) (fx : flatV x = true) : ∀ {xs : List V} {us : List Value}, Vals xs us → xs.all flatV = true → ∀ u ∈ us, SeqAt.EqAt A s u v (eqU x u)
  | _, _, .nil, _ => fun u hu => by cases hu
  | y :: xs, u :: us, .cons r t, f => fun u' hu => by
    rw [List.all_cons, Bool.and_eq_true] at f
    rcases List.mem_cons.mp hu with rfl | hu
    · rw [eqU_of r f.1]; exact eqAt_V r rx f.1 fx
    · exact mem_eqAt rx fx t f.2 u' hu
def inV (x : V) (xs : List V) : Bool := xs.any fun y => eqV y x
/-- x in a list or tuple of flat items -/
def rIn (K : PySem.W.Frag) (neg : Bool) : R2 := fun x y H Q => ∃ p xs, y = .ref p ∧ (SqL K H p xs ∨ SqT K H p xs) ∧ flatV x = true ∧ xs.all flatV = true ∧ Q (.bl (if neg then !inV x xs else inV x xs)) H
theorem op_in_seq : OpR X (compareOp .In) (rIn X.K false) := by
  intro pins s σ H x y v u Q I rx ry h
  obtain ⟨p, xs, rfl, hq, fx, fs, q⟩ := h
  cases ry
  rcases hq with hq | hq
  · obtain ⟨its, r, pl, hz⟩ := I.list hq
    refine SeqAt.in_listAt (eqU x) pl.isList (fun w hw => mem_eqAt rx fx r fs w (by simpa using hw)) ⟨.bl _, H, I, rfl, ?_⟩
    rw [show its.toArray.any (eqU x) = its.any (eqU x) by simp, any_eqU r fs]
    exact q
  · obtain ⟨its, r, pl, hz⟩ := I.tuple hq
    refine SeqAt.in_tupleAt (eqU x) pl (fun w hw => mem_eqAt rx fx r fs w (by simpa using hw)) ⟨.bl _, H, I, rfl, ?_⟩
    rw [show its.toArray.any (eqU x) = its.any (eqU x) by simp, any_eqU r fs]
    exact q
theorem op_notIn_seq : OpR X (compareOp .NotIn) (rIn X.K true) := by
  intro pins s σ H x y v u Q I rx ry h
  obtain ⟨p, xs, rfl, hq, fx, fs, q⟩ := h
  cases ry
  rcases hq with hq | hq
  · obtain ⟨its, r, pl, hz⟩ := I.list hq
    refine SeqAt.notIn_listAt (eqU x) pl.isList (fun w hw => mem_eqAt rx fx r fs w (by simpa using hw)) ⟨.bl _, H, I, rfl, ?_⟩
    rw [show its.toArray.any (eqU x) = its.any (eqU x) by simp, any_eqU r fs]
    exact q
  · obtain ⟨its, r, pl, hz⟩ := I.tuple hq
    refine SeqAt.notIn_tupleAt (eqU x) pl (fun w hw => mem_eqAt rx fx r fs w (by simpa using hw)) ⟨.bl _, H, I, rfl, ?_⟩
    rw [show its.toArray.any (eqU x) = its.any (eqU x) by simp, any_eqU r fs]
    exact q
theorem op_notIn_str : OpR X (compareOp .NotIn) (fun x y H Q => ∃ i j, x = .str i ∧ y = .str j ∧ Q (.bl (!(!(Builtin.Str.occurrences j i 0 j.length 1).isEmpty))) H) := by
  intro pins s σ H x y v u Q I rx ry h
  obtain ⟨i, j, rfl, rfl, q⟩ := h
  obtain ⟨t, rfl⟩ := rx
  obtain ⟨t', rfl⟩ := ry
  exact notIn_str ⟨.bl _, H, I, rfl, q⟩

/-! ### len, list(x), tuple(x) of any list or tuple that is read -/
theorem call_len_seq : CallR X (.builtin "len") (fun xs H Q => ∃ p ys, xs = [.ref p] ∧ (SqL X.K H p ys ∨ SqT X.K H p ys) ∧ Q (.int ys.length) H) := by
  intro pins s σ H xs us Q I r h
  obtain ⟨p, ys, rfl, hq, q⟩ := h
  obtain ⟨u, rfl, rx⟩ := vals1 r
  cases rx
  have hn := line63
  rcases hq with hq | hq
  · obtain ⟨its, r', pl, hz⟩ := I.list hq
    have hlen := r'.length
    exact Calls.call_len_list pl.isList (by simp only [List.size_toArray] <;> omega) ⟨.int ys.length, H, I.tok _, ⟨s.toks + 1, by rw [List.size_toArray, hlen]⟩, q⟩
  · obtain ⟨its, r', pl, hz⟩ := I.tuple hq
    have hlen := r'.length
    exact len_tuple pl (by simp only [List.size_toArray] <;> omega) ⟨.int ys.length, H, I.tok _, ⟨s.toks + 1, by rw [List.size_toArray, hlen]⟩, q⟩
theorem call_len_str : CallR X (.builtin "len") (fun xs H Q => ∃ z, xs = [.str z] ∧ z.length ≤ sizeLine ∧ Q (.int z.length) H) := by
  intro pins s σ H xs us Q I r h
  obtain ⟨z, rfl, hz, q⟩ := h
  obtain ⟨u, rfl, t, rfl⟩ := vals1 r
  have hn := line63
  exact len_str (by omega) ⟨.int z.length, H, I.tok _, ⟨_, rfl⟩, q⟩
theorem CallR.or {f : Value} {r r' : List V → Hp → VK → Prop} (h : CallR X f r) (h' : CallR X f r') : CallR X f (fun xs H Q => r xs H Q ∨ r' xs H Q) := by
  intro pins s σ H xs us Q I rs q
  rcases q with q | q
  · exact h pins s σ H xs us Q I rs q
  · exact h' pins s σ H xs us Q I rs q
theorem call_list_of : CallR X (.type "list") (fun xs H Q => ∃ p ys, xs = [.ref p] ∧ (SqL X.K H p ys ∨ SqT X.K H p ys) ∧ ∀ l, H l = none → Q (.ref l) (upd H l (.lst ys))) := by
  intro pins s σ H xs us Q I r h
  obtain ⟨p, ys, rfl, hq, q⟩ := h
  obtain ⟨u, rfl, rx⟩ := vals1 r
  cases rx
  have fin : ∀ (its : List Value), Vals ys its → ys.length ≤ sizeLine → ∀ (h' : Heap) (c' : Nat), (∀ b o', s.heap.get? b = some o' → h'.get? b = some o') →
      h'.get? s.heap.objs.size = some { cls := .type "list", dict := none, data := .seq its.toArray c', slots := #[] } → EP X pins σ Q (.ref s.heap.objs.size) { s with heap := h' } := fun its r' hz h' c' kp e =>
    ⟨.ref s.heap.objs.size, _, I.laid (t' := s.toks) kp (Nat.le_refl _) (show ObjOk X.prog X.w _ h' _ (.lst ys) from ⟨hz, its, c', r', e⟩), rfl, q _ (I.hok.fresh (Nat.le_refl _))⟩
  rcases hq with hq | hq
  · obtain ⟨its, r', pl, hz⟩ := I.list hq
    have hlen := r'.length
    obtain ⟨o, ho, hc, n, hd⟩ := pl.isList
    exact call_list_seq p (.inl rfl) ho hc hd (fun h' c' kp e => fin its r' hz h' c' kp e) (by simp only [List.size_toArray] <;> omega)
  · obtain ⟨its, r', pl, hz⟩ := I.tuple hq
    have hlen := r'.length
    obtain ⟨o, ho, hc, n, hd⟩ := pl
    exact call_list_seq p (.inr rfl) ho hc hd (fun h' c' kp e => fin its r' hz h' c' kp e) (by simp only [List.size_toArray] <;> omega)
theorem call_tuple_of : CallR X (.type "tuple") (fun xs H Q => ∃ p ys, xs = [.ref p] ∧ ((SqL X.K H p ys ∧ ∀ l, H l = none → Q (.ref l) (upd H l (.tup ys))) ∨ (SqT X.K H p ys ∧ Q (.ref p) H))) := by
  intro pins s σ H xs us Q I r h
  obtain ⟨p, ys, rfl, h⟩ := h
  obtain ⟨u, rfl, rx⟩ := vals1 r
  cases rx
  rcases h with ⟨hq, q⟩ | ⟨hq, q⟩
  · obtain ⟨its, r', pl, hz⟩ := I.list hq
    have hlen := r'.length
    refine call_tuple_list pl.isList (fun h' kp => ?_) (by simp only [List.size_toArray] <;> omega)
    have I1 : Inv X pins σ H { s with heap := h' } := I.kept (t' := s.toks) kp
    have I2 : Inv X pins σ (upd H h'.objs.size (.tup ys)) { s with heap := h'.push { cls := .type "tuple", data := .seq its.toArray } } :=
      I1.laid (t' := s.toks) (fun b o e => Heap.get?_push_of_some _ e) (Nat.le_refl _) (show ObjOk X.prog X.w _ _ _ (.tup ys) from ⟨hz, its, r', IsTup.new _ _⟩)
    exact ⟨.ref h'.objs.size, _, I2, rfl, q _ (I1.hok.fresh (Nat.le_refl _))⟩
  · obtain ⟨its, r', pl, hz⟩ := I.tuple hq
    exact call_tuple_same pl ⟨.ref p, H, I, rfl, q⟩

/-! ### the call of a builtin's method: o.m(..) -/
/-- the value is of that builtin type -/
def tyV (K : PySem.W.Frag) (T : String) (x : V) (H : Hp) : Prop := match x with
  | .str _ => T = "str"
  | .int _ => T = "int"
  | .ref p => (T = "list" ∧ ∃ xs, SqL K H p xs) ∨ (T = "tuple" ∧ ∃ o, K.lookup p = some o ∧ o.cls = .type "tuple" ∧ o.dict = none) ∨
      (T = "dict" ∧ ((∃ kvs, H p = some (.dK kvs)) ∨ ∃ kvs, H p = some (.dT kvs))) ∨ (T = "set" ∧ ∃ S n, H p = some (.set S n))
  | _ => False
theorem tyV_is {pins : List (Addr × Obj)} {σ : St} {H : Hp} {s : Shared} {T : String} {x : V} {v : Value} (I : Inv X pins σ H s) (r : RelV x v) (ty : tyV X.K T x H) :
    s.TypeIs v T ∧ ∀ a, v = .ref a → ∃ ob, s.heap.get? a = some ob ∧ ob.dict = none := by
  cases x with
  | str z =>
    obtain ⟨t, rfl⟩ := r
    cases (show T = "str" from ty)
    exact ⟨typeIs_str s z t, fun _ e => nomatch e⟩
  | int i =>
    obtain ⟨t, rfl⟩ := r
    cases (show T = "int" from ty)
    exact ⟨typeIs_int s i t, fun _ e => nomatch e⟩
  | ref p =>
    cases r
    rcases ty with ⟨rfl, xs, hq⟩ | ⟨rfl, o, hk, hc, hd⟩ | ⟨rfl, hk⟩ | ⟨rfl, S, n, hk⟩
    · obtain ⟨its, _, pl, _⟩ := I.list hq
      refine ⟨pl.isList.typeIs, fun a e => ?_⟩
      cases e
      obtain ⟨o, n, e, c, hd, _⟩ := pl
      exact ⟨o, e, hd⟩
    · refine ⟨⟨o, I.kIn p o hk, hc⟩, fun a e => ?_⟩
      cases e
      exact ⟨o, I.kIn _ o hk, hd⟩
    · have z : ∃ o, s.heap.get? p = some o ∧ o.ExactDict := by
        rcases hk with ⟨kvs, hk⟩ | ⟨kvs, hk⟩
        · obtain ⟨_, _, _, _, o, _, _, e, ex, _⟩ := I.hok p _ hk
          exact ⟨o, e, ex⟩
        · obtain ⟨_, _, _, _, o, _, _, e, ex, _⟩ := I.hok p _ hk
          exact ⟨o, e, ex⟩
      obtain ⟨o, e, ex⟩ := z
      refine ⟨⟨o, e, ex.1⟩, fun a e2 => ?_⟩
      cases e2
      exact ⟨o, e, ex.2.1⟩
    · obtain ⟨o, _, _, _, e, ex, _⟩ := I.hok p _ hk
      refine ⟨⟨o, e, ex.1⟩, fun a e2 => ?_⟩
      cases e2
      exact ⟨o, e, ex.2.1⟩
  | _ => exact False.elim ty
def tBM0 (K : PySem.W.Frag) (T : String) (r : V → List V → Hp → VK → Prop) (to : TE) : TE := fun σ H Q => to σ H fun x H1 => tyV K T x H1 ∧ r x [] H1 Q
def tBM (K : PySem.W.Frag) (T : String) (r : V → List V → Hp → VK → Prop) (to : TE) (t : TA) : TE := fun σ H Q => to σ H fun x H1 => tyV K T x H1 ∧ t σ H1 fun xs H2 => r x xs H2 Q
variable {o e : Expr} {es : List Expr} {to : TE} {t : TA} {name : Str} {apos cpos : Pos} {T id : String} {r : V → List V → Hp → VK → Prop}
theorem pe_bm0 (pa : PlainAttrs T) (slot : Slot T name id) (hty : typeOf (.builtin id) = pure (.type "method_descriptor")) (hm : MtR X id r) (ho : PE X o to)
    (hbase : attributeBase o name X.env (eval o X.env) = eval o X.env := by rfl) (hline : (apos.endLine == cpos.line) = true := by rfl) : PE X (.Call (.Attribute o name apos) [] [] cpos) (tBM0 X.K T r to) := by
  intro pins s σ H Q I h
  refine wpAny_Call_method0_late hbase hline (thn (ho pins s σ H _ I h) fun v s1 ⟨x, H1, I1, r1, ty, q1⟩ => ?_)
  obtain ⟨h1, h2⟩ := tyV_is I1 r1 ty
  exact ⟨T, id, pa, slot, hty, h1, h2, Calls.callWith_builtin rfl (PySem.evalArgs_none (hm pins s1 σ H1 x [] v [] Q I1 r1 .nil q1))⟩
theorem pe_bm (pa : PlainAttrs T) (slot : Slot T name id) (hty : typeOf (.builtin id) = pure (.type "method_descriptor")) (hm : MtR X id r) (ho : PE X o to) (ha : PA X (e :: es) t)
    (hbase : attributeBase o name X.env (eval o X.env) = eval o X.env := by rfl)
    (hfew : ((backTo cpos (starEach (e :: es) X.env)).all (fun x => !x.1) && (backToKw cpos (keywordEach [] X.env)).all (fun x => x.1.isSome)
      && decide ((e :: es).length + ([] : List Keyword).length + (if ([] : List Keyword).isEmpty then 0 else 1) < 30)) = true := by rfl)
    (hline : (apos.endLine == cpos.line) = true := by rfl) (hs : starEach (e :: es) X.env = (false, eval e X.env) :: starEach es X.env := by rfl) (hplain : (backTo cpos (starEach es X.env)).any (·.1) = false := by rfl) :
    PE X (.Call (.Attribute o name apos) (e :: es) [] cpos) (tBM X.K T r to t) := by
  intro pins s σ H Q I h
  refine wpAny_Call_method_late hbase hfew hline rfl (thn (ho pins s σ H _ I h) fun v s1 ⟨x, H1, I1, r1, ty, q1⟩ => ?_)
  obtain ⟨h1, h2⟩ := tyV_is I1 r1 ty
  refine ⟨T, id, pa, slot, hty, h1, h2, ?_⟩
  have hA := ha cpos pins s1 σ H1 _ I1 q1
  rw [hs] at hA ⊢
  refine Calls.callWith_builtin (by show (false || (backTo cpos (starEach es X.env)).any (·.1)) = false; rw [hplain] <;> rfl) (Calls.evalArgs_plain ?_)
  exact thn hA fun us s2 ⟨vs, H2, I2, r2, q2⟩ => hm pins s2 σ H2 x vs v us Q I2 r1 r2 q2
/- xs.append(e), list.index on a module's tuple .. are MtR facts of 06m -/
end
end L2

namespace L2
open PySem PySem.Spec PyProof.Rows

def MtM (X : Cx) (id : String) (r : V → List V → Hp → VK → Prop) : Prop :=
  ∀ (pins : List (Addr × Obj)) (s : Shared) (σ : St) (H : Hp) (x : V) (xs : List V) (v : Value) (us : List Value) (Q : VK), Inv X pins σ H s → RelV x v → Vals xs us → r x xs H Q →
    wpAny (model X.prog X.w) X.A (call (.builtin id) (v :: us)) (EP X pins σ Q) X.xe s

/-! ### lists of values -/
theorem Vals.one : ∀ {x : V} {us : List Value}, Vals [x] us → ∃ u, us = [u] ∧ RelV x u
  | _, _, .cons r .nil => ⟨_, rfl, r⟩
theorem Vals.two : ∀ {x y : V} {us : List Value}, Vals [x, y] us → ∃ u v, us = [u, v] ∧ RelV x u ∧ RelV y v
  | _, _, _, .cons r (.cons q .nil) => ⟨_, _, rfl, r, q⟩
theorem Vals.zero : ∀ {us : List Value}, Vals [] us → us = []
  | _, .nil => rfl
theorem Vals.dropLast {xs : List V} {us : List Value} (h : Vals xs us) : Vals xs.dropLast us.dropLast := by
  induction h with
  | nil => exact .nil
  | cons r t ih =>
    cases t with
    | nil => exact .nil
    | cons q t' => exact .cons r ih
theorem Vals.eraseIdx : ∀ {xs : List V} {us : List Value} (i : Nat), Vals xs us → Vals (xs.eraseIdx i) (us.eraseIdx i)
  | _, _, _, .nil => .nil
  | _, _, 0, .cons _ t => t
  | _, _, i + 1, .cons r t => .cons r (Vals.eraseIdx i t)
theorem Vals.reverse {xs : List V} {us : List Value} (h : Vals xs us) : Vals xs.reverse us.reverse := by
  induction h with
  | nil => exact .nil
  | cons r t ih => rw [List.reverse_cons, List.reverse_cons]; exact Vals.append ih (.cons r .nil)
theorem Vals.rep {xs : List V} {us : List Value} (h : Vals xs us) : ∀ k : Nat, Vals (List.replicate k xs).flatten (List.replicate k us).flatten
  | 0 => .nil
  | k + 1 => by
    rw [List.replicate_succ, List.replicate_succ, List.flatten_cons, List.flatten_cons]
    exact Vals.append h (Vals.rep h k)
theorem erase_last {α : Type} (l : List α) : l.eraseIdx (l.length - 1) = l.dropLast := by
  induction l with
  | nil => rfl
  | cons a r ih =>
    cases r with
    | nil => rfl
    | cons b r =>
      have e : (a :: b :: r).length - 1 = ((b :: r).length - 1) + 1 := by
        have h1 : (a :: b :: r).length = r.length + 2 := rfl
        have h2 : (b :: r).length = r.length + 1 := rfl
        omega
      rw [e, List.eraseIdx_cons_succ, ih]
      all_goals rfl
theorem len_erase {α : Type} : ∀ (l : List α) (i : Nat), (l.eraseIdx i).length ≤ l.length
  | [], _ => Nat.le_refl _
  | _ :: _, 0 => Nat.le_succ _
  | _ :: r, i + 1 => Nat.succ_le_succ (len_erase r i)
theorem foldl_rep (its : List Value) : ∀ (k : Nat) (acc : List Value),
    List.foldl (fun x1 x2 => x1 ++ x2) acc.toArray (List.replicate k its.toArray) = (acc ++ (List.replicate k its).flatten).toArray
  | 0, acc => by simp
  | k + 1, acc => by
    have e : acc.toArray ++ its.toArray = (acc ++ its).toArray := by simp
    have e2 : (acc ++ its) ++ (List.replicate k its).flatten = acc ++ (List.replicate (k + 1) its).flatten := by
      rw [List.replicate_succ, List.flatten_cons, List.append_assoc]
    rw [← e2, ← foldl_rep its k (acc ++ its), ← e, List.replicate_succ, List.foldl_cons]

section
variable {X : Cx} {pins : List (Addr × Obj)} {σ : St} {H : Hp} {s : Shared} {l b : Addr} {xs ys zs : List V}

/-! ### the two steps: a tracked list is rewritten, a new list is laid -/
theorem Inv.lset {its its' : List Value} {n : Nat} {f : Array Value → Array Value} {t' : Nat} (I : Inv X pins σ H s) (hH : H l = some (.lst xs))
    (e : s.heap.get? l = some { cls := .type "list", data := .seq its.toArray n }) (hf : f its.toArray = its'.toArray) (hv : Vals ys its') (hz : ys.length ≤ sizeLine) :
    Inv X pins σ (upd H l (.lst ys)) { s with heap := s.heap.update l (Obj.mapSeq f), toks := t' } := by
  have q := PySem.IsL.update e f
  rw [hf] at q
  refine I.write (x := l) (e := l) (by rw [hH]; exact trivial) (.inl rfl) (fun b' u hb hu => (Heap.get?_update_other s.heap (Obj.mapSeq f) (Ne.symm hb)).trans hu) ⟨_, q⟩ ?_
  exact ⟨hz, its', _, hv, q⟩
theorem Inv.lnew {its : List Value} {t' : Nat} (I : Inv X pins σ H s) (hv : Vals ys its) (hz : ys.length ≤ sizeLine) :
    Inv X pins σ (upd H s.heap.objs.size (.lst ys)) { s with heap := s.heap.push { cls := .type "list", data := .seq its.toArray }, toks := t' } :=
  I.laid (fun _ _ q => Heap.get?_push_of_some _ q) (Nat.le_refl _) ⟨hz, its, 0, hv, Heap.get?_push_size _ rfl⟩
theorem Inv.fresh (I : Inv X pins σ H s) : H s.heap.objs.size = none := I.hok.fresh (Nat.le_refl _)
theorem Inv.lstM (I : Inv X pins σ H s) (hH : H l = some (.lst xs)) : xs.length ≤ sizeLine ∧ ∃ (its : List Value) (n : Nat), Vals xs its ∧ xs.length = its.length ∧ s.heap.get? l = some { cls := .type "list", data := .seq its.toArray n } := by
  obtain ⟨z, its, n, r, e⟩ := I.hok l _ hH
  exact ⟨z, its, n, r, r.length, e⟩

theorem notLongL {n : Nat} (h : n ≤ sizeLine) : Builtin.List.listTooLong n = false := by
  unfold Builtin.List.listTooLong
  exact decide_eq_false (by omega)
end

section
variable {X : Cx}

/-! ### methods -/
def rAppend : V → List V → Hp → VK → Prop := fun x vs H Q => ∃ l xs y, x = .ref l ∧ vs = [y] ∧ H l = some (.lst xs) ∧ xs.length < sizeLine ∧ Q .non (upd H l (.lst (xs ++ [y])))
theorem mt_append : MtM X "list.append" rAppend := by
  intro pins s σ H x vs v us Q I rx rv h
  obtain ⟨l, xs, y, rfl, rfl, hH, hz, q⟩ := h
  cases rx
  obtain ⟨u, rfl, ru⟩ := rv.one
  obtain ⟨z, its, n, r, hl, e⟩ := I.lstM hH
  refine call_meets F.slot_list_append ⟨_, e, rfl⟩ F.entry_list_append (F.args_list_append_2 _ _) (PySem.list_append l its.toArray n u (by rw [List.size_toArray]; omega)) ⟨e, ?_⟩
  refine ⟨.non, _, I.lset (its' := its ++ [u]) hH e (by simp) (r.append (.cons ru .nil)) ?_, rfl, q⟩
  rw [List.length_append, List.length_singleton]
  omega

def rExtend : V → List V → Hp → VK → Prop := fun x vs H Q => ∃ l b xs zs, x = .ref l ∧ vs = [.ref b] ∧ H l = some (.lst xs) ∧ H b = some (.lst zs) ∧ xs.length + zs.length ≤ sizeLine ∧ Q .non (upd H l (.lst (xs ++ zs)))
theorem mt_extend : MtM X "list.extend" rExtend := by
  intro pins s σ H x vs v us Q I rx rv h
  obtain ⟨l, b, xs, zs, rfl, rfl, hH, hB, hz, q⟩ := h
  cases rx
  obtain ⟨u, rfl, ru⟩ := rv.one
  cases ru
  obtain ⟨z, its, n, r, hl, e⟩ := I.lstM hH
  obtain ⟨z2, its2, n2, r2, hl2, e2⟩ := I.lstM hB
  have hsz : its.toArray.size + its2.toArray.size ≤ sizeLine := by rw [List.size_toArray, List.size_toArray]; omega
  have hlong : ¬ (!its.toArray.isEmpty && Builtin.List.listTooLong (its.toArray.size + its2.toArray.size)) = true := by
    rw [notLongL hsz, Bool.and_false]
    exact Bool.false_ne_true
  refine call_meets F.slot_list_extend ⟨_, e, rfl⟩ F.entry_list_extend (F.args_list_extend_2 _ _)
    (AutoSeq1.list_extend_list_list_0 l its.toArray n b its2.toArray n2 hlong (by rw [List.size_toArray]; omega) (by omega)) ⟨e, e2, ?_⟩
  refine ⟨.non, _, I.lset (its' := its ++ its2) hH e (by simp) (r.append r2) ?_, rfl, q⟩
  rw [List.length_append]
  omega

def rPop : V → List V → Hp → VK → Prop := fun x vs H Q => ∃ l xs y, x = .ref l ∧ vs = [] ∧ H l = some (.lst xs) ∧ xs[xs.length - 1]? = some y ∧ Q y (upd H l (.lst xs.dropLast))
theorem mt_pop : MtM X "list.pop" rPop := by
  intro pins s σ H x vs v us Q I rx rv h
  obtain ⟨l, xs, y, rfl, rfl, hH, hy, q⟩ := h
  cases rx
  have hus := rv.zero
  subst hus
  obtain ⟨z, its, n, r, hl, e⟩ := I.lstM hH
  obtain ⟨u, hu, ru⟩ := r.get hy
  have hy' : its.toArray[its.toArray.size - 1]? = some u := by
    show its.toArray[its.length - 1]? = some u
    rw [← Array.getElem?_toList, ← hl]
    exact hu
  refine call_meets F.slot_list_pop ⟨_, e, rfl⟩ F.entry_list_pop (F.args_list_pop_1 _) (MeetsSeq.list_pop_last l its.toArray n u hy' (by rw [List.size_toArray]; omega)) ⟨e, ?_⟩
  refine ⟨y, _, I.lset (its' := its.dropLast) hH e ?_ r.dropLast ?_, ru, q⟩
  · show its.toArray.eraseIdxIfInBounds (its.toArray.size - 1) = its.dropLast.toArray
    rw [List.size_toArray, List.eraseIdxIfInBounds_toArray, erase_last]
  · rw [List.length_dropLast]
    omega

def rPopAt : V → List V → Hp → VK → Prop := fun x vs H Q => ∃ l xs i k y, x = .ref l ∧ vs = [.int i] ∧ H l = some (.lst xs) ∧ -(2 ^ 63) ≤ i ∧ i < 2 ^ 63 ∧ seqIndex? i xs.length = some k ∧ xs[k]? = some y ∧ Q y (upd H l (.lst (xs.eraseIdx k)))
theorem mt_popAt : MtM X "list.pop" rPopAt := by
  intro pins s σ H x vs v us Q I rx rv h
  obtain ⟨l, xs, i, k, y, rfl, rfl, hH, h1, h2, hk, hy, q⟩ := h
  cases rx
  obtain ⟨u, rfl, ru⟩ := rv.one
  obtain ⟨t, rfl⟩ := ru
  obtain ⟨z, its, n, r, hl, e⟩ := I.lstM hH
  obtain ⟨w, hw, rw'⟩ := r.get hy
  refine call_meets F.slot_list_pop ⟨_, e, rfl⟩ F.entry_list_pop (F.args_list_pop_2 _ _)
    (MeetsSeq.list_pop_at l its.toArray n i t k w (fitsIndex_both h1 h2) (by rw [List.size_toArray, ← hl]; exact hk) (by rw [← Array.getElem?_toList]; exact hw) (by rw [List.size_toArray]; omega)) ⟨e, ?_⟩
  refine ⟨y, _, I.lset (its' := its.eraseIdx k) hH e ?_ (r.eraseIdx k) ?_, rw', q⟩
  · show its.toArray.eraseIdxIfInBounds k = (its.eraseIdx k).toArray
    rw [List.eraseIdxIfInBounds_toArray]
  · have := len_erase xs k
    omega

def rReverse : V → List V → Hp → VK → Prop := fun x vs H Q => ∃ l xs, x = .ref l ∧ vs = [] ∧ H l = some (.lst xs) ∧ Q .non (upd H l (.lst xs.reverse))
theorem mt_reverse : MtM X "list.reverse" rReverse := by
  intro pins s σ H x vs v us Q I rx rv h
  obtain ⟨l, xs, rfl, rfl, hH, q⟩ := h
  cases rx
  have hus := rv.zero
  subst hus
  obtain ⟨z, its, n, r, hl, e⟩ := I.lstM hH
  refine call_meets F.slot_list_reverse ⟨_, e, rfl⟩ F.entry_list_reverse (F.args_list_reverse_1 _) (AutoSeq1.list_reverse_list_0 l its.toArray n (by rw [List.size_toArray]; omega)) ⟨e, ?_⟩
  refine ⟨.non, _, I.lset (its' := its.reverse) hH e (by simp) r.reverse ?_, rfl, q⟩
  rw [List.length_reverse]
  omega

def rClear : V → List V → Hp → VK → Prop := fun x vs H Q => ∃ l xs, x = .ref l ∧ vs = [] ∧ H l = some (.lst xs) ∧ Q .non (upd H l (.lst []))
theorem mt_clear : MtM X "list.clear" rClear := by
  intro pins s σ H x vs v us Q I rx rv h
  obtain ⟨l, xs, rfl, rfl, hH, q⟩ := h
  cases rx
  have hus := rv.zero
  subst hus
  obtain ⟨z, its, n, r, hl, e⟩ := I.lstM hH
  refine call_meets F.slot_list_clear ⟨_, e, rfl⟩ F.entry_list_clear (F.args_list_clear_1 _) (AutoSeq1.list_clear_list_0 l its.toArray n (by rw [List.size_toArray]; omega)) ⟨e, ?_⟩
  exact ⟨.non, _, I.lset (its' := []) (ys := []) hH e rfl .nil (Nat.zero_le _), rfl, q⟩

/-! ### list + list, list += list, list * int -/
def rCat : R2 := fun x y H Q => ∃ l b xs zs, x = .ref l ∧ y = .ref b ∧ H l = some (.lst xs) ∧ H b = some (.lst zs) ∧ xs.length + zs.length ≤ sizeLine ∧ ∀ p, H p = none → Q (.ref p) (upd H p (.lst (xs ++ zs)))
theorem op_cat : OpR X (binaryOp .Add) rCat := by
  intro pins s σ H x y v u Q I rx ry h
  obtain ⟨l, b, xs, zs, rfl, rfl, hH, hB, hz, q⟩ := h
  cases rx
  cases ry
  obtain ⟨z, its, n, r, hl, e⟩ := I.lstM hH
  obtain ⟨z2, its2, n2, r2, hl2, e2⟩ := I.lstM hB
  refine PySem.P.add_list e e2 ?_ (by rw [List.size_toArray, List.size_toArray]; omega)
  have ea : its.toArray ++ its2.toArray = (its ++ its2).toArray := by simp
  rw [ea]
  exact ⟨.ref _, _, I.lnew (t' := s.toks) (r.append r2) (by rw [List.length_append]; omega), rfl, q _ I.fresh⟩
/-- a list times an int (a negative one is nothing) -/
def rRep : R2 := fun x y H Q => ∃ l k xs, x = .ref l ∧ y = .int k ∧ H l = some (.lst xs) ∧ -(2 ^ 63) ≤ k ∧ k < 2 ^ 63 ∧ xs.length * k.toNat ≤ sizeLine ∧
  ∀ p, H p = none → Q (.ref p) (upd H p (.lst (List.replicate k.toNat xs).flatten))
theorem len_rep {α : Type} (xs : List α) (k : Nat) : (List.replicate k xs).flatten.length = k * xs.length := by
  induction k with
  | zero => simp
  | succ k ih => rw [List.replicate_succ, List.flatten_cons, List.length_append, ih, Nat.succ_mul, Nat.add_comm]
theorem op_rep : OpR X (binaryOp .Mult) rRep := by
  intro pins s σ H x y v u Q I rx ry h
  obtain ⟨l, k, xs, rfl, rfl, hH, h1, h2, hz, q⟩ := h
  cases rx
  obtain ⟨t, rfl⟩ := ry
  obtain ⟨z, its, n, r, hl, e⟩ := I.lstM hH
  have hlen : its.toArray.size * k.toNat ≤ sizeLine := by rw [List.size_toArray, ← hl]; exact hz
  have hcap : ¬ its.toArray.size * k.toNat > (2 ^ 63 - 1) / 8 := by
    have : (sizeLine : Nat) ≤ (2 ^ 63 - 1) / 8 := by decide
    omega
  have hfit : ¬ (!Builtin.List.listFitsIndex k) = true := by
    rw [fitsIndex_both h1 h2]
    exact Bool.false_ne_true
  have hlong : ¬ Builtin.List.listTooLong (its.toArray.size * k.toNat) = true := by
    rw [notLongL hlen]
    exact Bool.false_ne_true
  have hnew : List.foldl (fun x1 x2 => x1 ++ x2) #[] (List.replicate (if its.toArray.isEmpty = true then 0 else k.toNat) its.toArray) = (List.replicate k.toNat its).flatten.toArray := by
    have f0 : ∀ m : Nat, List.foldl (fun x1 x2 => x1 ++ x2) #[] (List.replicate m its.toArray) = (List.replicate m its).flatten.toArray := fun m => by
      have := foldl_rep its m []
      rw [List.nil_append] at this
      exact this
    rw [f0]
    cases its with
    | nil => simp
    | cons a r' => rw [if_neg (by simp)]
  refine wpAny_binaryOp_repeat_ref (T := "list") (U := "int") (by decide) ⟨_, e, rfl⟩ (fun s' => typeIs_int s' k t) noFill_list_mul F.fills_int_mul F.slot_int_rmul repeat_list F.slot_int_index.lookup
    (call_meets F.slot_int_rmul (typeIs_int s k t) F.entry_int_rmul (F.args_int_rmul_2 _ _) (int___rmul___int_list k t l its.toArray n)
      ⟨e, rfl, ⟨_, e, rfl⟩, call_meets F.slot_list_mul ⟨_, e, rfl⟩ F.entry_list_mul (F.args_list_mul_2 _ _) (AutoListH.list___mul___list_int_3 l its.toArray n k t hfit hcap hlong) ⟨e, ?_⟩⟩)
  rw [hnew]
  exact ⟨.ref _, _, I.lnew (t' := s.toks) (r.rep k.toNat) (by rw [len_rep, Nat.mul_comm]; exact hz), rfl, q _ I.fresh⟩

/-! ### del xs[i] -/
theorem del_list {pins : List (Addr × Obj)} {s : Shared} {σ : St} {H : Hp} {l : Addr} {xs : List V} {i : Int} {t : Tok} {k : Nat} {Q : Unit → Shared → Prop} (I : Inv X pins σ H s) (hH : H l = some (.lst xs))
    (h1 : -(2 ^ 63) ≤ i) (h2 : i < 2 ^ 63) (hk : seqIndex? i xs.length = some k) (h : ∀ s', Inv X pins σ (upd H l (.lst (xs.eraseIdx k))) s' → Q () s') :
    wpAny (model X.prog X.w) X.A (delItem (.ref l) (.int i t)) Q X.xe s := by
  obtain ⟨z, its, n, r, hl, e⟩ := I.lstM hH
  refine PySem.P.delItem_list (k := k) e (fitsIndex_both h1 h2) (by rw [List.size_toArray, ← hl]; exact hk) (h _ ?_) (by rw [List.size_toArray]; omega)
  refine I.lset (its' := its.eraseIdx k) (t' := s.toks) hH e ?_ (r.eraseIdx k) ?_
  · show its.toArray.eraseIdxIfInBounds k = (its.eraseIdx k).toArray
    rw [List.eraseIdxIfInBounds_toArray]
  · have := len_erase xs k
    omega
end

/-! ### xs[a:b] = ys -/
section
variable {prog : Program} {w : World} {A : Around} {E : Value → Shared → Prop} {s : Shared}
theorem splice_eq (its its2 : List Value) (a c : Nat) : its.toArray.extract 0 a ++ its2.toArray ++ its.toArray.extract c its.toArray.size = (its.take a ++ its2 ++ its.drop c).toArray := by
  apply Array.toList_inj.mp
  first
    | (simp
       exact List.take_of_length_le (by simp))
    | simp [List.take_of_length_le]
    | simp
theorem bounds_run {a c n : Nat} (hac : a ≤ c) (hc : c ≤ n) : sliceBounds (some (a : Int)) (some (c : Int)) none n = ((a : Int), (c : Int), 1) := by
  simp only [sliceBounds, Option.getD_none]
  have h1 : ¬ ((a : Int) < 0) := by omega
  have h2 : ¬ ((c : Int) < 0) := by omega
  simp only [h1, h2, if_false, show (1 : Int) > 0 by decide, if_true]
  congr 1
  · omega
  · congr 1; omega
set_option maxRecDepth 100000 in
/-- list.__setitem__ with a slice of step one and another list -/
theorem setItem_slice {l b sl : Addr} {items new : Array Value} {n n2 : Nat} {vl vu : Value} {a c : Nat} {Q : Unit → Shared → Prop}
    (e : s.heap.get? l = some { cls := .type "list", data := .seq items n }) (e2 : s.heap.get? b = some { cls := .type "list", data := .seq new n2 }) (hne : l ≠ b)
    (hs : s.heap.IsSliceOf sl vl vu .none) (pl : IsPart vl (some (a : Int))) (pu : IsPart vu (some (c : Int))) (hac : a ≤ c) (hc : c ≤ items.size)
    (hsz : items.size + new.size ≤ sizeLine) (h : Q () { s with heap := s.heap.update l (Obj.mapSeq fun xs => xs.extract 0 a ++ new ++ xs.extract c xs.size) }) :
    wpAny (model prog w) A (setItem (.ref l) (.ref sl) (.ref b)) Q E s := by
  have hl : s.heap.IsList l items := PySem.IsL.isList e
  have hb : s.heap.IsList b new := PySem.IsL.isList e2
  obtain ⟨os, hos, hcs, hds⟩ := id hs
  have hTs : s.TypeIs (.ref sl) "slice" := ⟨os, hos, hcs⟩
  have hstep : ¬ ((rawPart none == rawInt 0) = true) := Bool.false_ne_true
  have hsame : Builtin.List.listSameRef (.ref l) (.ref b) = false := by
    unfold Builtin.List.listSameRef
    exact beq_eq_false_iff_ne.mpr hne
  have hmax : (max (a : Int) (c : Int)).toNat = c := by omega
  have hz' : ((fun xs : Array Value => xs.extract 0 a ++ new ++ xs.extract c xs.size) items).size ≤ sizeLine + 1 := by
    simp only [Array.size_append, Array.size_extract]
    omega
  unfold setItem
  try with_reducible refine wpAny_holding ?_
  first | refine wpAny_bind (wpAny_pure ?_) | skip
  refine wpAny_bind (wpAny_sequenceKey hl.typeIs (by decide) ?_)
  refine wpAny_bind (wpAny_callSpecial?_slot (name := Str.ofString "__setitem__") hl.typeIs slot_list_setitem
    (wpAny_call_entry slot_list_setitem hl.typeIs entry_list_setitem ?_ (args_list_setitem _ _ _)))
  show wpAny _ _ (Builtin.List.listSubscript? (.ref sl) >>= _) _ _ s
  refine wpAny_bind ?_
  unfold Builtin.List.listSubscript?
  refine wpAny_bind (wpAny_specialOf hTs slice_no_index ?_)
  simp only [Option.isNone_none, if_true]
  refine wpAny_pure ?_
  show wpAny _ _ (typeOf (.ref sl) >>= _) _ _ s
  refine wpAny_bind (wpAny_typeOf hTs ?_)
  first
    | rw [if_neg (by decide)]
    | refine PySem.W.KFB.if_not (by decide) ?_
  rw [listSliceParts_eq]
  refine wpAny_bind (wpAny_bind (wpAny_field hos hds (x := .none) rfl (wpAny_bind (wpAny_listPart .none ?_))))
  rw [if_neg hstep]
  refine wpAny_bind (wpAny_field hos hds (x := vl) rfl (wpAny_bind (wpAny_listPart pl ?_)))
  refine wpAny_bind (wpAny_field hos hds (x := vu) rfl (wpAny_bind (wpAny_listPart pu (wpAny_pure ?_))))
  first
    | simp only [hsame, Bool.false_eq_true, if_false]
    | refine PySem.W.KFB.if_not hsame ?_
    | (dsimp only
       rw [if_neg (by rw [hsame]; exact Bool.false_ne_true)])
  refine wpAny_bind (m := Builtin.List.listAllItems (.ref b) "must assign iterable to extended slice") ?_
  unfold Builtin.List.listAllItems
  refine wpAny_bind (wpAny_typeOf hb.typeIs ?_)
  first
    | refine PySem.W.KFB.if_so (by decide) ?_
    | rw [if_pos (by decide)]
    | simp only [beq_self_eq_true, Bool.true_or, if_true]
  unfold Builtin.List.listItems
  refine wpAny_bind (wpAny_seqItems e2 rfl (wpAny_pure ?_))
  refine wpAny_bind (wpAny_bind (wpAny_seqItems e rfl (wpAny_pure ?_)))
  refine wpAny_bind (wpAny_of_eq ((sliceIndices_raw (some (a : Int)) (some (c : Int)) none items.size (by simp)).trans (congrArg (pure : Int × Int × Int → Sem (Int × Int × Int)) (bounds_run hac hc))) ?_)
  show wpAny _ _ (if ((1 : Int) == 1) = true then _ else _) _ _ s
  rw [if_pos (by decide)]
  refine wpAny_bind (wpAny_rule ?_)
  first
    | simp only [notLongL hsz, Bool.false_eq_true, if_false]
    | refine PySem.W.KFB.if_not (notLongL hsz) ?_
  first | refine wpAny_bind (wpAny_pure ?_) | skip
  show wpAny _ _ (updateSeq l (fun xs => xs.extract 0 ((a : Int)).toNat ++ new ++ xs.extract (max (a : Int) (c : Int)).toNat xs.size) >>= _) _ _ s
  rw [hmax, Int.toNat_natCast]
  refine wpAny_bind (wpAny_updateSeq (hz := Nat.le_trans (Nat.le_add_right _ _) hsz) (_hz' := hz') e rfl ?_)
  refine wpAny_bind (wpAny_letGo ?_)
  first
    | exact wpAny_bind (wpAny_pure (wpAny_pure ⟨.none, rfl, wpAny_pure h⟩))
    | exact wpAny_pure ⟨.none, rfl, wpAny_pure h⟩
end

section
variable {X : Cx}
/-- xs[a:c] = ys of another list, at the value level: sl is the slice object that was just made -/
theorem set_slice {pins : List (Addr × Obj)} {s : Shared} {σ : St} {H : Hp} {l b sl : Addr} {xs ys : List V} {a c : Int} {vl vu : Value} {Q : Unit → Shared → Prop} (I : Inv X pins σ H s)
    (hH : H l = some (.lst xs)) (hB : H b = some (.lst ys)) (hne : l ≠ b) (hs : s.heap.IsSliceOf sl vl vu .none) (ra : RelV (.int a) vl) (rc : RelV (.int c) vu) (h0 : 0 ≤ a) (hac : a ≤ c) (hc : c ≤ xs.length)
    (hz : xs.length + ys.length ≤ sizeLine) (h : ∀ s', Inv X pins σ (upd H l (.lst (xs.take a.toNat ++ ys ++ xs.drop c.toNat))) s' → Q () s') :
    wpAny (model X.prog X.w) X.A (setItem (.ref l) (.ref sl) (.ref b)) Q X.xe s := by
  obtain ⟨ta, rfl⟩ := ra
  obtain ⟨tc, rfl⟩ := rc
  obtain ⟨z, its, n, r, hl, e⟩ := I.lstM hH
  obtain ⟨z2, its2, n2, r2, hl2, e2⟩ := I.lstM hB
  obtain ⟨a', rfl⟩ := Int.eq_ofNat_of_zero_le h0
  obtain ⟨c', rfl⟩ := Int.eq_ofNat_of_zero_le (Int.le_trans h0 hac)
  simp only [Int.toNat_natCast] at h
  refine setItem_slice (a := a') (c := c') e e2 hne hs (.int _ _) (.int _ _) (by omega) (by rw [List.size_toArray]; omega) (by rw [List.size_toArray, List.size_toArray]; omega) (h _ ?_)
  refine I.lset (its' := its.take a' ++ its2 ++ its.drop c') (t' := s.toks) hH e ?_ (Vals.append (Vals.append (r.take _) r2) (r.drop _)) ?_
  · exact splice_eq its its2 a' c'
  · rw [List.length_append, List.length_append, List.length_take, List.length_drop]
    omega
end
end L2

namespace Att
open PySem PySem.W PySem.Calls PyProof.Rows

/-! ### the script -/
theorem ints_of_wellAll {P : Params} {h : Heap} : ∀ (ns : List Int) (vs : List Value), WellAll P h vs (ns.map WData.int) → IntsAre vs ns := by
  intro ns
  induction ns with
  | nil =>
    intro vs w
    rw [List.map_nil] at w
    cases w
    exact .nil
  | cons n ns ih =>
    intro vs w
    rw [List.map_cons] at w
    cases w with
    | cons a b =>
      cases a
      exact .cons _ _ (ih _ b)

theorem script_of {l : OpenLaw} {n : Nat} (hn : l.most = some n) {P : Params} {h : Heap} {args : List WData} {vals : List Value}
    (hpre : l.row.toRowW.claim.pre args = true) (hwl : WellAll P h vals args) :
    ∃ a vs ns, vals = [Value.ref a] ∧ args = [WData.list (ns.map WData.int)] ∧ h.get? a = some { cls := .type "list", data := .seq vs.toArray } ∧ IntsAre vs ns ∧ ns.length ≤ n := by
  have hsh : WShape.hasAll [] args [.list .int] = true := (pre_splitW hpre).1
  have hc : l.pre.holds [] { args := args } = true := (pre_splitW hpre).2
  obtain ⟨d, r, rfl, h1, h2⟩ := hasAllW_cons hsh
  obtain rfl := hasAllW_nil h2
  obtain ⟨xs, rfl, h3⟩ := hasW_list h1
  obtain ⟨ns, rfl⟩ := items_int h3
  have hlen : ns.length ≤ n := by
    unfold OpenLaw.pre at hc
    have h4 : (WTm.not (.lt (.lit (.int (n : Int))) (.len (.arg 0)))).holds [] { args := [.list (ns.map .int)] } = true := by
      have h4 := (holds_andW hc).1
      rw [hn] at h4
      exact h4
    have h5 := condW_of h4 (w_not (w_lt w_lit (w_len_list (w_arg rfl))))
    rw [List.length_map] at h5
    refine Nat.le_of_not_lt fun q => ?_
    have q' : (n : Int) < ((ns.length : Nat) : Int) := by omega
    first
      | (rw [decide_eq_true q'] at h5; exact absurd h5 (by decide))
      | (simp at h5; omega)
  cases hwl with
  | cons w1 w2 =>
    cases w2
    cases w1 with
    | list ho hall => exact ⟨_, _, ns, rfl, rfl, ho, ints_of_wellAll ns _ hall, hlen⟩

theorem post_true (l : OpenLaw) (args : List WData) : l.row.toRowW.claim.post args (.bool true) args = true :=
  postW_of (r := l.row.toRowW) (X := (true == true))
    (show WShape.has [] (.bool true) .bool = true by first | rfl | decide | simp [WShape.has, WShape.arms, WShape.armsAll])
    (show (WTm.eq .res (.lit (.bool true))).value [] { args := args, res := some (.bool true), after := args } = some (.bool (true == true)) from w_eq_bool (w_res rfl) w_lit) rfl

/-! ### the attachment: holds_open's last premise (the goal 'hc' behind k_head) from a wpAny of the law's body -/
theorem attach {l : OpenLaw} {n : Nat} {q : Program} {loose : List Str} {XP : (Str → Option Value) → Heap → Prop} {YP : World → Heap → Prop} {d : DefRec} {x : Str}
    (hn : l.most = some n) (hdf : d.params.defaults = [])
    (hbind : ∀ pm cd doc v : Value, bindArgs (docDef d.name d.params d.body d.scope pm cd doc) ⟨[v], []⟩ = pure [(x, v)])
    (hx : d.scope.names.lookup x = some .local ∨ d.scope.names.lookup x = some .cell)
    (hk : d.scope.kind = .function) (hco : d.scope.isCoroutine = false) (hgen : d.scope.isGenerator = false)
    (body : ∀ (w : World) (s₀ s₁ s : Shared) (mg mb : Str → Option Value) (fa : Addr) (o : Obj) (pm cd doc : Value) (a : Addr) (vs : List Value) (ns : List Int),
      Ground q loose [] XP w s₀ mg mb s₁.heap → YP w s₁.heap →
      s₁.heap.get? fa = some o → o.data = .func (docDef d.name d.params d.body d.scope pm cd doc) → s₁.heap.CodeRec cd d.name → mg d.name = some (.ref fa) →
      s₁.heap.get? a = some { cls := .type "list", data := .seq vs.toArray } → IntsAre vs ns → ns.length ≤ n →
      s.gens = #[] → s.os = s₁.os →
      Fr s₁.heap s₁.heap.objs.size s.heap (bindL (envOfC d.name d.scope s₁.heap.objs.size fa cd).kindOf [(x, .ref a)] fun _ => none) →
      Cl s₁.heap.objs.size (cellsFrom (s₁.heap.objs.size + 1) d.scope.names []) s.heap (bindC (envOfC d.name d.scope s₁.heap.objs.size fa cd).kindOf [(x, .ref a)] fun _ => none) →
      wpAny (model l.prog w) (callerA.deeper (envOfC d.name d.scope s₁.heap.objs.size fa cd)) (execs d.body (envOfC d.name d.scope s₁.heap.objs.size fa cd))
        (fun f s' => f = .ret (.bool true) ∧ OldK s₁.heap s'.heap ∧ s'.os = s₁.os ∧ AllBare s'.gens) (fun _ _ => False) s) :
    WalkO q loose XP YP l.row.toRowW d [] (fun f vs => PySem.call f vs) := by
  intro w s₀ s₁ mg mb G Y fa o pm cd doc dV kV ho hd hcd hD hmg hg args vals as hpre hlay hrd hwl hlo
  obtain rfl : dV = .none := Dflts.none hD hdf
  obtain rfl : kV = .none := Dflts.noKw hD
  obtain ⟨a, vs, ns, rfl, rfl, hobj, hints, hlen⟩ := script_of hn hpre hwl
  refine enter_call ?_
  refine call_cells_ret (o := o) (by rw [depth_caller]; decide) ho (fd_plain hd) G.T.nolimit hcd (hbind pm cd doc (.ref a)) (fun y hy => ?_) (fun h₁ tk F X => ?_) hco hgen hk
  · obtain rfl : y = (x, Value.ref a) := List.mem_singleton.mp hy
    rcases hx with e | e
    · exact .inl e
    · exact .inr ⟨e, cellsFrom_some _ _ _ (.inl e)⟩
  · refine wpAny_mono (body w s₀ s₁ { s₁ with heap := h₁, toks := tk } mg mb fa o pm cd doc a vs ns G Y ho (fd_plain hd) hcd hmg hobj hints hlen hg rfl F X) (fun f s' hq => ?_) (fun _ _ hq => hq)
    obtain ⟨rfl, h2, h3, h4⟩ := hq
    exact ⟨.inl ⟨.bool true, .bool true, [], rfl, fun _ => rfl, .bool true, post_true l _, fun _ => ⟨List.Pairwise.nil, fun _ hm => (nomatch hm)⟩⟩, h2, h3, h4⟩

/-- the same from a codeAny of the CALL (for a layer whose function contracts speak of calls) -/
theorem attach_call {l : OpenLaw} {n : Nat} {q : Program} {loose : List Str} {XP : (Str → Option Value) → Heap → Prop} {YP : World → Heap → Prop} {d : DefRec}
    (hn : l.most = some n) (hdf : d.params.defaults = [])
    (call : ∀ (w : World) (s₀ s₁ : Shared) (mg mb : Str → Option Value) (fa : Addr) (o : Obj) (pm cd doc : Value) (a : Addr) (vs : List Value) (ns : List Int),
      Ground q loose [] XP w s₀ mg mb s₁.heap → YP w s₁.heap →
      s₁.heap.get? fa = some o → o.data = .func (docDef d.name d.params d.body d.scope pm cd doc) → s₁.heap.CodeRec cd d.name → mg d.name = some (.ref fa) →
      s₁.heap.get? a = some { cls := .type "list", data := .seq vs.toArray } → IntsAre vs ns → ns.length ≤ n → s₁.gens = #[] →
      codeAny (model l.prog w) callerA (.call (.ref fa) ⟨[.ref a], []⟩) (fun r s' => r = .ok (.ret (.bool true)) ∧ OldK s₁.heap s'.heap ∧ s'.os = s₁.os ∧ AllBare s'.gens) s₁) :
    WalkO q loose XP YP l.row.toRowW d [] (fun f vs => PySem.call f vs) := by
  intro w s₀ s₁ mg mb G Y fa o pm cd doc dV kV ho hd hcd hD hmg hg args vals as hpre hlay hrd hwl hlo
  obtain rfl : dV = .none := Dflts.none hD hdf
  obtain rfl : kV = .none := Dflts.noKw hD
  obtain ⟨a, vs, ns, rfl, rfl, hobj, hints, hlen⟩ := script_of hn hpre hwl
  refine enter_call (codeAny_mono (call w s₀ s₁ mg mb fa o pm cd doc a vs ns G Y ho (fd_plain hd) hcd hmg hobj hints hlen hg) fun r s' hq => ?_)
  obtain ⟨rfl, h2, h3, h4⟩ := hq
  exact ⟨.inl ⟨.bool true, .bool true, [], rfl, fun _ => rfl, .bool true, post_true l _, fun _ => ⟨List.Pairwise.nil, fun _ hm => (nomatch hm)⟩⟩, h2, h3, h4⟩

/-- the same where the top left finished generators (o_head chose holds_openN): nothing may have changed at all and no generator may be left -/
theorem attachN {l : OpenLaw} {n : Nat} {q : Program} {loose : List Str} {XP : (Str → Option Value) → Heap → Prop} {YP : World → Heap → Prop} {d : DefRec} {x : Str}
    (hn : l.most = some n) (hdf : d.params.defaults = [])
    (hbind : ∀ pm cd doc v : Value, bindArgs (docDef d.name d.params d.body d.scope pm cd doc) ⟨[v], []⟩ = pure [(x, v)])
    (hx : d.scope.names.lookup x = some .local ∨ d.scope.names.lookup x = some .cell)
    (hk : d.scope.kind = .function) (hco : d.scope.isCoroutine = false) (hgen : d.scope.isGenerator = false)
    (body : ∀ (w : World) (s₀ s₁ s : Shared) (mg mb : Str → Option Value) (fa : Addr) (o : Obj) (pm cd doc : Value) (a : Addr) (vs : List Value) (ns : List Int),
      Ground q loose [] XP w s₀ mg mb s₁.heap → YP w s₁.heap →
      s₁.heap.get? fa = some o → o.data = .func (docDef d.name d.params d.body d.scope pm cd doc) → s₁.heap.CodeRec cd d.name → mg d.name = some (.ref fa) →
      s₁.heap.get? a = some { cls := .type "list", data := .seq vs.toArray } → IntsAre vs ns → ns.length ≤ n →
      s.gens = #[] → s.os = s₁.os →
      Fr s₁.heap s₁.heap.objs.size s.heap (bindL (envOfC d.name d.scope s₁.heap.objs.size fa cd).kindOf [(x, .ref a)] fun _ => none) →
      Cl s₁.heap.objs.size (cellsFrom (s₁.heap.objs.size + 1) d.scope.names []) s.heap (bindC (envOfC d.name d.scope s₁.heap.objs.size fa cd).kindOf [(x, .ref a)] fun _ => none) →
      wpAny (model l.prog w) (callerA.deeper (envOfC d.name d.scope s₁.heap.objs.size fa cd)) (execs d.body (envOfC d.name d.scope s₁.heap.objs.size fa cd))
        (fun f s' => f = .ret (.bool true) ∧ (∀ b o, s₁.heap.get? b = some o → s'.heap.get? b = some o) ∧ s'.os = s₁.os ∧ s'.gens = #[]) (fun _ _ => False) s) :
    WalkN q loose XP YP l.row.toRowW d [] (fun f vs => PySem.call f vs) := by
  intro w s₀ s₁ mg mb G Y fa o pm cd doc dV kV ho hd hcd hD hmg hg args vals as hpre hlay hrd hwl hlo
  obtain rfl : dV = .none := Dflts.none hD hdf
  obtain rfl : kV = .none := Dflts.noKw hD
  obtain ⟨a, vs, ns, rfl, rfl, hobj, hints, hlen⟩ := script_of hn hpre hwl
  refine enter_callW ?_
  refine call_cells_ret (o := o) (by rw [depth_caller]; decide) ho (fd_plain hd) G.T.nolimit hcd (hbind pm cd doc (.ref a)) (fun y hy => ?_) (fun h₁ tk F X => ?_) hco hgen hk
  · obtain rfl : y = (x, Value.ref a) := List.mem_singleton.mp hy
    rcases hx with e | e
    · exact .inl e
    · exact .inr ⟨e, cellsFrom_some _ _ _ (.inl e)⟩
  · refine wpAny_mono (body w s₀ s₁ { s₁ with heap := h₁, toks := tk } mg mb fa o pm cd doc a vs ns G Y ho (fd_plain hd) hcd hmg hobj hints hlen hg rfl F X) (fun f s' hq => ?_) (fun _ _ hq => hq)
    obtain ⟨rfl, h2, h3, h4⟩ := hq
    exact ⟨.inl ⟨.bool true, .bool true, [], rfl, fun _ => rfl, .bool true, post_true l _, fun _ => ⟨List.Pairwise.nil, fun _ hm => (nomatch hm)⟩⟩, h2, h3, h4⟩

/-! ### rules over ANY heap (no ledger) from facts about the written part K: the library's own take a ledger (News) for what they write -/
section
variable {prog : Program} {w : World} {A : Around} {E : Value → Shared → Prop} {s : Shared} {K : Frag}

/-- a def of the module, or a method (qual 'C.m'), entered: the frame is the next address; cells behind it -/
theorem call_fn {R : Result → Shared → Prop} {name qual : Str} {params : Arguments} {body : List Stmt} {scope : Scope} {dV kV doc pm cdv ct oc : Value} {an od : Option Addr} {osl : Array (Option Value)} {f : Addr} {args : Args} {binds : List (Str × Value)}
    (X : K.In s.heap) (hlim : s.heap.NoLimit) (ho : K.lookup f = some ⟨oc, od, .func (fnOf name qual params body scope dV kV doc pm an cdv ct), osl⟩) (hcd : codeIn K cdv qual = true) (hroom : A.depth < recursionLimit)
    (hbind : BindsTo s (fnOf name qual params body scope dV kV doc pm an cdv ct) args binds)
    (hkind : (binds.all fun y => scope.names.lookup y.1 == some .local || scope.names.lookup y.1 == some .cell) = true)
    (h : ∀ s₁, InCallC s s.heap.objs.size (bindL (envOfC qual scope s.heap.objs.size f cdv).kindOf binds fun _ => none) (cellsFrom (s.heap.objs.size + 1) scope.names [])
        (bindC (envOfC qual scope s.heap.objs.size f cdv).kindOf binds fun _ => none) s₁ →
      wpAny (model prog w) (A.deeper (envOfC qual scope s.heap.objs.size f cdv)) (execs body (envOfC qual scope s.heap.objs.size f cdv))
        (fun fl s' => R (.ok (.ret (match fl with | .ret v => v | _ => .none))) s')
        (fun e s' => wpAny (model prog w) (A.deeper (envOfC qual scope s.heap.objs.size f cdv)) (leaving (envOfC qual scope s.heap.objs.size f cdv) e) (fun _ s'' => R (.error e) s'') (fun e' s'' => R (.error e') s'') s') s₁)
    (hco : scope.isCoroutine = false) (hgen : scope.isGenerator = false) (hk : scope.kind = .function) : codeAny (model prog w) A (.call (.ref f) args) R s := by
  refine codeAny_call_function hroom (X _ _ ho) rfl hco hgen rfl (codeRec_of X hcd) (hbind _ _ _ _ ?_)
  refine wpAny_newFunctionEnv_cells hk (kindsX hkind _) fun env he s₁ x => ?_
  subst he
  exact ⟨hlim.keeps x.toInCall.keep, codeAny_func (h s₁ x)⟩

/-- C(..): dict at size, instance at size + 1, then __init__ -/
theorem make_obj {R : Result → Shared → Prop} {C fI : Addr} {rest : List Value} {kw : List (Str × Value)}
    (X : K.In s.heap) (hm : makesIn K C = true) (hi : findIn K (.ref C) "__init__" = some (some (.ref fI))) (hf : isFn K (.ref fI) = true)
    (h : codeAny (model prog w) (A.under (.builtin "type.__call__" ⟨.ref C :: rest, kw⟩)) (.call (.ref fI) ⟨.ref (s.heap.objs.size + 1) :: rest, kw⟩) (InitBack (s.heap.objs.size + 1) R)
      { s with heap := (s.heap.push emptyDict).push (instObj C s.heap.objs.size) }) : codeAny (model prog w) A (.call (.ref C) ⟨rest, kw⟩) R s := by
  obtain ⟨hh, g, d, t, os⟩ := s
  exact make_core (makes_of X hm) (looks_findIn X hi) (fun self => bind_fn X self (beq_iff_eq.mp hf)) (.inl rfl) h

/-- x.name where the instance's dict holds the name and the class does not -/
theorem get_field {x C : Addr} {ox : Obj} {es : List DictEntry} {n : Nat} {name : Str} {expr : Bool} {v : Value} {Q : Value → Shared → Prop}
    (X : K.In s.heap) (I : PySem.W.InstAt s.heap x ox C (some (dictOf es n))) (hg : plainGet K C name = true) (hh : hasDictIn K C = true) (ha : findIn K (.ref C) name = some none)
    (hl : getL name es = some (some v)) (hv : handedIn v = true) (h : Q v { s with toks := s.toks + 1 }) : wpAny (model prog w) A (getAttr (.ref x) name expr) Q E s :=
  get_value X I (plainGet_of hg).1 (findObj_own hh ha rfl hl) hv h

/-- x.m(..): the method found in the class -/
theorem get_method {x C f : Addr} {ox : Obj} {es : List DictEntry} {n : Nat} {name : Str} {pl : Sem Bool} {Q : Value × List Value → Shared → Prop}
    (X : K.In s.heap) (I : PySem.W.InstAt s.heap x ox C (some (dictOf es n))) (hg : plainGet K C name = true) (hf : findIn K (.ref C) name = some (some (.ref f))) (ht : isFn K (.ref f) = true)
    (hl : getL name es = some none) (h : Q (.ref f, [.ref x]) s) : wpAny (model prog w) A (getMethod (.ref x) name pl) Q E s :=
  method_fn X I (plainGet_of hg).1 (plainGet_of hg).2 hf (beq_iff_eq.mp ht) (by show (lookIn name (dictOf es n)).map _ = _; rw [lookIn_dict, hl]; rfl) h

/-! the whole heap as the ledger: makes every rule that writes through a ledger a rule over any heap -/
def noObjs (h : Heap) : Heap := { h with objs := #[] }
theorem noObjs_get (h : Heap) (b : Addr) : (noObjs h).get? b = none := by
  cases e : (noObjs h).get? b with
  | none => rfl
  | some o => exact absurd (Heap.lt_size e) (Nat.not_lt_zero _)
def ledger (h : Heap) (L d : Addr) : List (Addr × Obj) := (List.range h.objs.size).filterMap fun a => if a = L ∨ a = d then none else (h.get? a).map fun o => (a, o)
theorem mem_ledger {h : Heap} {L d a : Addr} {o : Obj} : (a, o) ∈ ledger h L d ↔ a ≠ L ∧ a ≠ d ∧ h.get? a = some o := by
  unfold ledger
  rw [List.mem_filterMap]
  constructor
  · rintro ⟨b, _, e⟩
    split at e
    · cases e
    · rename_i hb
      obtain ⟨o', ho, e'⟩ := Option.map_eq_some_iff.mp e
      cases e'
      exact ⟨fun q => hb (.inl q), fun q => hb (.inr q), ho⟩
  · rintro ⟨n1, n2, ho⟩
    refine ⟨a, List.mem_range.mpr (Heap.lt_size ho), ?_⟩
    rw [if_neg (show ¬ (a = L ∨ a = d) from fun q => q.elim n1 n2), ho] <;> rfl
theorem news_ledger {h : Heap} {L d : Addr} {od : Obj} (hne : d ≠ L) (ho : h.get? d = some od) : News (noObjs h) L h ([] ++ (d, od) :: ledger h L d) := by
  rintro ⟨a, o⟩ hp
  rcases List.mem_cons.mp hp with e | hp
  · cases e
    exact ⟨ho, hne, noObjs_get _ _⟩
  · obtain ⟨n1, n2, e⟩ := mem_ledger.mp hp
    exact ⟨e, n1, noObjs_get _ _⟩
theorem fr_all {h : Heap} {L : Addr} {m : Str → Option Value} (n : h.Ns L m) : Fr (noObjs h) L h m :=
  ⟨n, fun b o e => (by rw [noObjs_get] at e; cases e), Nat.zero_le _⟩
/-- Upd of the head entry (for append_K, setItem_K ..) -/
theorem upd_ledger {h : Heap} {L d : Addr} {o o' : Obj} : Upd d o o' ((d, o) :: ledger h L d) ((d, o') :: ledger h L d) :=
  .head fun ⟨_, _⟩ hp => (mem_ledger.mp hp).2.1

/-- x.name = v over any heap: L is any namespace of the heap (the frame's, say): its map stays, its object is not told; all else but the dict stays -/
theorem set_field {x C dx L : Addr} {ox : Obj} {m : Str → Option Value} {es es' : List DictEntry} {n n' : Nat} {name : Str} {v : Value} {Q : Unit → Shared → Prop}
    (X : K.In s.heap) (I : PySem.W.InstAt s.heap x ox C (some (dictOf es n))) (hd : ox.dict = some dx) (hL : s.heap.Ns L m) (hne : dx ≠ L)
    (hs : findIn K (.ref C) "__setattr__" = some (some (.builtin "object.__setattr__"))) (hp : plainOver K C = true) (ht : takerIn K C name = some none) (hh : hasDictIn K C = true) (hl : (getL name es).isSome = true)
    (e : (putL name (PyData.keyHash w.params name) (.str name (s.toks + 1)) v es, putN name es n) = (es', n')) (hz : es'.length ≤ 1000)
    (h : ∀ h' : Heap, h'.Ns L m → h'.get? dx = some (dictOf es' n') → (∀ b o, b ≠ dx → b ≠ L → s.heap.get? b = some o → h'.get? b = some o) → Q () { s with heap := h', toks := s.toks + 2 }) :
    wpAny (model prog w) A (setAttr (.ref x) name v) Q E s := by
  obtain ⟨e1, e2⟩ := Prod.mk.inj e
  have hdx : s.heap.get? dx = some (dictOf es n) := by
    have := I.dict
    rw [hd] at this
    exact this
  refine set_plain X I hs (osa_dict (s := { s with toks := s.toks + 1 }) (h₀ := noObjs s.heap) (L := L) (m := m) (od := dictOf es n) (od' := dictOf es' n') (es := es') (n := n') (pre := []) (post := ledger s.heap L dx)
    (fr_all hL) (news_ledger hne hdx) X I hd hp ht hh hl (fun _ q => nomatch q) (fun ⟨_, _⟩ q => (mem_ledger.mp q).2.1) (by rw [putName_dict, e1, e2]) rfl hz fun h' F' N' => ?_)
  exact h h' F'.ns (N'.get (List.Mem.head _)) fun b o n1 n2 ho => N'.get (List.Mem.tail _ (mem_ledger.mpr ⟨n2, n1, ho⟩))
end
end Att

namespace L2
open PySem PySem.Spec PyProof.Rows

theorem vals_ints : ∀ {vs : List Value} {ns : List Int}, IntsAre vs ns → Vals (ns.map V.int) vs
  | _, _, .nil => .nil
  | _, _, .cons n t h => .cons ⟨t, rfl⟩ (vals_ints h)

/-- nothing is tracked but the script, known to the object (or it is an object of the module) -/
def Only (H : Hp) : Prop := ∀ b, H b = none ∨ ∃ o xs, H b = some (.frz o (.lst xs))

/-- THE HEAD: the law's promise, at the heap behind the top. F, the promise of the law's def, may use that base is part of the heap (so K.In base, base.Ns mainGlobals mg stand in Mod) -/
theorem law_call {P : Program} {w : World} {K : PySem.W.Frag} {mg mb : Str → Option Value} {CX : CXT} {k : Nat} {fa a : Addr} {fd : FuncData} {x : Str} {sp : Sp} {s₁ : Shared} {vs : List Value} {ns : List Int}
    (KX : K.In s₁.heap) (hns : s₁.heap.Ns mainGlobals mg) (hb : s₁.heap.Ns builtinsNs mb) (hbb : ∀ x : Str, x ≠ "__name__" → mb x = bootBuiltins x) (hlim : s₁.heap.NoLimit) (hg : s₁.gens = #[])
    (ha : s₁.heap.get? a = some { cls := .type "list", data := .seq vs.toArray }) (hi : IntsAre vs ns) (hl : ns.length ≤ sizeLine) (hr : Room k callerA)
    (F : ∀ base : Heap, K.In base → base.Ns mainGlobals mg → FnOk P w K mg base CX k fa fd [x] sp) (hbind : ∀ (s : Shared) (u : Value), BindsTo s fd ⟨[u], []⟩ [(x, u)])
    (hsp : ∀ H : Hp, Only H → SqL K H a (ns.map V.int) → sp [.ref a] H (fun v _ => v = .bl true) fun _ _ _ => False)
    (hCX : ∀ H e s', CX [] H s₁ (fun _ _ _ => False) e s' → False) :
    codeAny (model P w) callerA (.call (.ref fa) ⟨[.ref a], []⟩) (fun r s' => r = .ok (.ret (.bool true)) ∧ OldK s₁.heap s'.heap ∧ s'.os = s₁.os ∧ AllBare s'.gens) s₁ := by
  have rv := vals_ints hi
  have lenV := hi.length
  -- from an abstract heap in which nothing but the script may be tracked
  have core : ∀ H : Hp, Only H → SqL K H a (ns.map V.int) → HOk P w H s₁.heap → (∀ b, H b ≠ none → b = a) → (H a ≠ none → K.lookup a = none) →
      codeAny (model P w) callerA (.call (.ref fa) ⟨[.ref a], []⟩) (fun r s' => r = .ok (.ret (.bool true)) ∧ OldK s₁.heap s'.heap ∧ s'.os = s₁.os ∧ AllBare s'.gens) s₁ := by
    intro H hO hS hok hA hK
    have base_of : ∀ {b : Addr} {o : Obj}, s₁.heap.get? b = some o → H b = none → (hidT s₁.heap H).get? b = some o := fun e n => hidT_get e n
    have noA : ∀ {b : Addr} {o : Obj} {es : Array DictEntry} {ep : Nat}, s₁.heap.get? b = some o → o.data = .dict es ep → H b = none := fun {b o es ep} e d => by
      cases q : H b with
      | none => rfl
      | some u =>
        have e' : b = a := hA b (by rw [q]; simp)
        subst e'
        rw [ha] at e; cases e
        have d' : Data.seq vs.toArray _ = Data.dict es ep := d
        cases d'
    have nsK : ∀ {b : Addr} {m : Str → Option Value}, s₁.heap.Ns b m → (hidT s₁.heap H).Ns b m := fun {b m} ⟨o, es, ep, e, d, r⟩ => ⟨o, es, ep, base_of e (noA e d), d, r⟩
    have hKb : K.In (hidT s₁.heap H) := fun b o e => base_of (KX b o e) (by
      cases q : H b with
      | none => rfl
      | some u =>
        have e' : b = a := hA b (by rw [q]; simp)
        subst e'
        rw [hK (by rw [q]; simp)] at e; cases e)
    have hM : Mod K mg (hidT s₁.heap H) := ⟨hKb, nsK hns, ⟨mb, nsK hb, hbb⟩, let ⟨mc, h1, h2⟩ := hlim; ⟨mc, nsK h1, h2⟩⟩
    have e0 : Env0 P w K mg (hidT s₁.heap H) callerA [] s₁ H := ⟨rfl, hM, fun b o e => of_hidT e, Nat.le_of_eq (hidT_size _ _), trivial, fun b hb => absurd (show b ∈ ([] : List Addr) from hb) (by simp), hok, .of_eq hg⟩
    refine codeAny_mono ((F _ hKb (nsK hns)).run callerA [] s₁ H ⟨[.ref a], []⟩ [.ref a] [.ref a] _ _ hr e0 (hbind s₁ (.ref a)) (.cons rfl .nil) (hsp H hO hS)) fun r s' h => ?_
    cases r with
    | error e => exact (hCX H e s' h).elim
    | ok fl =>
      cases fl with
      | next => exact False.elim h
      | brk => exact False.elim h
      | cont => exact False.elim h
      | ret u =>
        obtain ⟨v, H', os, bare, un, hok', r', q⟩ := h
        have q' : v = .bl true := q
        subst q'
        obtain rfl : u = Value.bool true := r'
        refine ⟨rfl, OldK.of_keep fun b o e => ?_, os, bare⟩
        cases q : H b with
        | none => exact un.keep b o e q (by intro z; exact absurd (show b ∈ ([] : List Addr) from z) (by simp)) (by simp)
        | some u =>
          rcases hO b with z | ⟨ob, xs, z⟩
          · rw [q] at z; cases z
          · have z2 := un.frzs b ob _ z
            obtain ⟨e1, _⟩ := hok b _ z
            obtain ⟨e2, _⟩ := hok' b _ z2
            rw [e] at e1; cases e1
            exact e2
  cases hk : K.lookup a with
  | some o =>
    -- the script is one of the module's own objects
    have e := KX a o hk
    rw [ha] at e
    cases e
    refine core (fun _ => none) (fun _ => .inl rfl) (.inr ⟨_, vs.toArray, _, hk, rfl, rfl, rfl, by rw [List.size_toArray, lenV]; exact hl, by simpa using rv⟩) (fun b u z => by have z' : (none : Option HO) = some u := z; cases z') (fun b z => absurd rfl z) fun z => absurd rfl z
  | none =>
    refine core (fun b => if b = a then some (.frz { cls := .type "list", data := .seq vs.toArray } (.lst (ns.map V.int))) else none) (fun b => ?_) (.inl (.inr ⟨{ cls := .type "list", data := .seq vs.toArray }, if_pos rfl⟩)) (fun b u z => ?_) (fun b z => ?_) fun _ => hk
    · by_cases hb : b = a
      · exact .inr ⟨_, _, if_pos hb⟩
      · exact .inl (if_neg hb)
    · by_cases hb : b = a
      · have z' := (if_pos hb).symm.trans z
        cases z'
        subst hb
        exact ⟨ha, by rw [List.length_map]; exact hl, vs, _, rv, ha⟩
      · have z' := (if_neg hb).symm.trans z
        cases z'
    · by_cases hb : b = a
      · exact hb
      · exact absurd (if_neg hb) z
end L2

namespace L2
open PySem PySem.Spec PyProof.Rows

abbrev KOf {K : PySem.W.Frag} {h : Heap} (_ : K.In h) : PySem.W.Frag := K

/-- the goal that k_head leaves (case hc), from the law's promise. F gives the function object fd (K's own) once, then the promise over every base -/
theorem walk_of {l : PySem.W.OpenLaw} {n k : Nat} {q : Program} {loose : List Str} {XP : (Str → Option Value) → Heap → Prop} {YP : World → Heap → Prop} {d : DefRec} {K : Params → PySem.W.Frag} {CX : World → CXT} {sp : World → Sp} {x : Str}
    (hn : l.most = some n) (hn2 : n ≤ sizeLine) (hdf : d.params.defaults = []) (hr : Room k callerA)
    (hY : ∀ (w : World) (h : Heap), YP w h → (K w.params).In h)
    (F : ∀ (w : World) (mg : Str → Option Value) (fa : Addr) (h : Heap), (K w.params).In h → h.Ns mainGlobals mg → mg d.name = some (.ref fa) →
      ∃ fd : FuncData, (∀ (s : Shared) (u : Value), BindsTo s fd ⟨[u], []⟩ [(x, u)]) ∧
        ∀ base : Heap, (K w.params).In base → base.Ns mainGlobals mg → FnOk l.prog w (K w.params) mg base (CX w) k fa fd [x] (sp w))
    (hsp : ∀ (w : World) (H : Hp) (a : Addr) (ns : List Int), ns.length ≤ n → Only H → SqL (K w.params) H a (ns.map V.int) → sp w [.ref a] H (fun v _ => v = .bl true) fun _ _ _ => False)
    (hCX : ∀ (w : World) (H : Hp) (s : Shared) (e : Value) (s' : Shared), CX w [] H s (fun _ _ _ => False) e s' → False) :
    PySem.W.WalkO q loose XP YP l.row.toRowW d [] (fun f vs => PySem.call f vs) := by
  refine Att.attach_call hn hdf fun w s₀ s₁ mg mb fa o pm cd doc a vs ns G Y ho hd hcd hmg hobj hints hlen hg => ?_
  have KX := hY w _ Y
  obtain ⟨fd, hb, hF⟩ := F w mg fa _ KX G.T.g hmg
  exact law_call KX G.T.g G.T.b G.T.builtins G.T.nolimit hg hobj hints (Nat.le_trans hlen hn2) hr hF hb (fun H hO hS => hsp w H a ns hlen hO hS) fun H e s' => hCX w H s₁ e s'
/-- the same where the promise hangs on the written part alone: (sp := My.sp_law), no hole under a binder -/
theorem walk_ofK {l : PySem.W.OpenLaw} {n k : Nat} {q : Program} {loose : List Str} {XP : (Str → Option Value) → Heap → Prop} {YP : World → Heap → Prop} {d : DefRec} {K : Params → PySem.W.Frag} {CX : CXT} {sp : PySem.W.Frag → Sp} {x : Str}
    (hn : l.most = some n) (hn2 : n ≤ sizeLine) (hdf : d.params.defaults = []) (hr : Room k callerA)
    (hY : ∀ (w : World) (h : Heap), YP w h → (K w.params).In h)
    (F : ∀ (w : World) (mg : Str → Option Value) (fa : Addr) (h : Heap), (K w.params).In h → h.Ns mainGlobals mg → mg d.name = some (.ref fa) →
      ∃ fd : FuncData, (∀ (s : Shared) (u : Value), BindsTo s fd ⟨[u], []⟩ [(x, u)]) ∧
        ∀ base : Heap, (K w.params).In base → base.Ns mainGlobals mg → FnOk l.prog w (K w.params) mg base CX k fa fd [x] (sp (K w.params)))
    (hsp : ∀ (K : PySem.W.Frag) (H : Hp) (a : Addr) (ns : List Int), ns.length ≤ n → Only H → SqL K H a (ns.map V.int) → sp K [.ref a] H (fun v _ => v = .bl true) fun _ _ _ => False)
    (hCX : ∀ (H : Hp) (s : Shared) (e : Value) (s' : Shared), CX [] H s (fun _ _ _ => False) e s' → False) :
    PySem.W.WalkO q loose XP YP l.row.toRowW d [] (fun f vs => PySem.call f vs) :=
  walk_of (K := K) (CX := fun _ => CX) (sp := fun w => sp (K w.params)) hn hn2 hdf hr hY F (fun w H a ns h1 h2 h3 => hsp (K w.params) H a ns h1 h2 h3) fun _ H s e s' => hCX H s e s'
end L2



/-! SHORT WORDS over the layer: a def of the text, its body, what a loop and a test want. -/
namespace L2
open PySem PySem.Spec PyProof.Rows

/-! ### the text by places -/
/-- the j-th statement of a class's body -/
def inClass (s : Stmt) (j : Nat) : Stmt := match s with
  | .ClassDef _ _ _ body _ _ _ _ _ _ _ => body.getD j (.Pass ⟨0, 0, 0, 0⟩)
  | _ => .Pass ⟨0, 0, 0, 0⟩
def defArgs (s : Stmt) : Arguments := match s with
  | .FunctionDef _ a _ _ _ _ _ _ _ _ => a
  | _ => { posonlyargs := [], args := [], vararg := none, kwonlyargs := [], kw_defaults := [], kwarg := none, defaults := [] }
def defBody (s : Stmt) : List Stmt := match s with
  | .FunctionDef _ _ b _ _ _ _ _ _ _ => b
  | _ => []
def defScope (s : Stmt) : Scope := match s with
  | .FunctionDef _ _ _ _ _ _ sc _ _ _ => sc
  | _ => { kind := .function, names := [], isGenerator := false, isCoroutine := false }

/-! ### no exception leaves a def -/
abbrev CX0 : CXT := fun _ _ _ _ _ _ => False
abbrev E0 : XK := fun _ _ _ => False
theorem pass0 {X : Cx} : Passes CX0 X E0 := fun _ _ _ _ _ _ _ h => h.elim

/-! ### a def (or method) of the text as it stands behind the top -/
structure Fun (K : PySem.W.Frag) (x qual : Str) (st : Stmt) (f : Addr) (fd : FuncData) : Prop where
  ex : ∃ (oc : Value) (od : Option Addr) (kV doc pm : Value) (an : Option Addr) (cdv ct : Value) (osl : Array (Option Value)),
    fd = PySem.W.fnOf x qual (defArgs st) (defBody st) (defScope st) .none kV doc pm an cdv ct ∧ K.lookup f = some ⟨oc, od, .func fd, osl⟩ ∧ PySem.W.codeIn K cdv qual = true
  kp : PySem.W.keepIn K (.ref f) = true
section
variable {P : Program} {w : World} {K : PySem.W.Frag} {mg : Str → Option Value} {base : Heap}
/-- THE RULE for a def: its body as a term of rules, and the reading of that term -/
theorem Fun.ok {x qual : Str} {st : Stmt} {f : Addr} {fd : FuncData} {N ps : List Str} {k : Nat} {sp : Sp} (F : Fun K x qual st f fd) (S : FnScope N ps (defScope st)) (len : ∀ vs H Q E, sp vs H Q E → vs.length = ps.length)
    (hbody : ∀ (cdv : Value) (A : Around) (outer : List Env) (s : Shared) (H : Hp) (vs : List V) (Q : VK) (E : XK), Room k (A.deeper (envOfC qual (defScope st) s.heap.objs.size f cdv)) → sp vs H Q E →
      ∃ t, PSs (cxOf CX0 P w K mg base N qual (defScope st) f cdv A outer s H E).nox (defBody st) t ∧ t { nx := fun _ H' => Q .non H', rt := Q } (start N vs) H) : FnOk P w K mg base CX0 (k + 1) f fd ps sp := by
  obtain ⟨oc, od, kV, doc, pm, an, cdv, ct, osl, rfl, lk, hcd⟩ := F.ex
  refine fn_of lk hcd S len fun A outer s H vs Q E hr hsp => ?_
  obtain ⟨t, h, q⟩ := hbody cdv A outer s H vs Q E hr hsp
  exact ⟨t, h.nox, q⟩
/-- how its arguments bind (no defaults): h is «fun _ _ _ _ _ _ us hl => match us, hl with | [_, _], _ => rfl», one _ a parameter -/
theorem Fun.binds {x qual : Str} {st : Stmt} {f : Addr} {fd : FuncData} {ps : List Str} (F : Fun K x qual st f fd)
    (h : ∀ (kV doc pm : Value) (an : Option Addr) (cdv ct : Value) (us : List Value), us.length = ps.length → bindArgs (PySem.W.fnOf x qual (defArgs st) (defBody st) (defScope st) .none kV doc pm an cdv ct) ⟨us, []⟩ = pure (ps.zip us)) : Binds K fd ps [] := by
  obtain ⟨oc, od, kV, doc, pm, an, cdv, ct, osl, rfl, lk, hcd⟩ := F.ex
  exact .all (h kV doc pm an cdv ct)
theorem fun_mk {x qual : Str} {st : Stmt} {f : Addr} {oc : Value} {od an : Option Addr} {osl : Array (Option Value)} {kV doc pm cdv ct : Value} (l : K.lookup f = some ⟨oc, od, .func (PySem.W.fnOf x qual (defArgs st) (defBody st) (defScope st) .none kV doc pm an cdv ct), osl⟩)
    (c : PySem.W.codeIn K cdv qual = true) (k : PySem.W.keepIn K (.ref f) = true) : Fun K x qual st f (PySem.W.fnOf x qual (defArgs st) (defBody st) (defScope st) .none kV doc pm an cdv ct) := ⟨⟨oc, od, kV, doc, pm, an, cdv, ct, osl, rfl, l, c⟩, k⟩
end
theorem hu_of {A : Around} {k : Nat} (hr : Room k A) : A.units + 1 < cLine := Nat.lt_of_le_of_lt (Nat.add_le_add_left (by decide : 1 ≤ 64) _) hr.units
theorem small1000 {n : Nat} (h : n ≤ 1000) : n < sizeLine := Nat.lt_of_le_of_lt h (by decide)

/-! ### expressions in short: the name that stands in the i-th slot -/
section
variable {X : Cx}
theorem pv (i : Nat) {x : Str} {pos : Pos} (hN : X.N[i]? = some x := by rfl) (hv : Vis X.env.scope x := by first | exact Or.inl rfl | exact Or.inr (Or.inl rfl) | exact Or.inr (Or.inr rfl)) (hd : (x == ("__debug__" : Str)) = false := by decide)
    (hcd : (x == ("__classdict__" : Str)) = false := by decide) : PE X (.Name x pos) (tVar i) := pe_var hN hv hd hcd
end

/-! ### tests -/
theorem iteF {A B : Prop} (h : B) : if false = true then A else B := by
  rw [if_neg Bool.false_ne_true]
  exact h
theorem iteT {A B : Prop} (h : A) : if true = true then A else B := by
  rw [if_pos rfl]
  exact h
theorem ite2 {c A B : Prop} [Decidable c] (h1 : c → A) (h2 : ¬ c → B) : if c then A else B := by
  by_cases h : c
  · rw [if_pos h]
    exact h1 h
  · rw [if_neg h]
    exact h2 h
theorem iteNS {c A B : Prop} [Decidable c] (hc : c) (h : B) : if (!decide c) = true then A else B := by
  rw [decide_eq_true hc]
  exact iteF h

/-! ### heaps -/
/-- all that was tracked is as it was -/
def Same (H H' : Hp) : Prop := ∀ b o, H b = some o → H' b = some o
theorem Same.refl (H : Hp) : Same H H := fun _ _ h => h
theorem Same.trans {H H1 H2 : Hp} (a : Same H H1) (b : Same H1 H2) : Same H H2 := fun c o h => b c o (a c o h)
theorem Same.free {H H' : Hp} (e : Same H H') {l : Addr} (h : H' l = Option.none) : H l = Option.none := by
  cases q : H l with
  | none => rfl
  | some o =>
    rw [e l o q] at h
    cases h
theorem Same.seq {K : PySem.W.Frag} {H H' : Hp} {a : Addr} {xs : List V} (e : Same H H') (h : SqL K H a xs) : SqL K H' a xs := by
  rcases h with (h | ⟨o, h⟩) | h
  · exact .inl (.inl (e _ _ h))
  · exact .inl (.inr ⟨o, e _ _ h⟩)
  · exact .inr h

end L2

namespace Bw
/-! Trees of states, by plain numbers: ps holds the parents of the states 1, 2, .. -/
def Good (ps : List Nat) : Prop := ∀ (i p : Nat), ps[i]? = some p → p ≤ i
def par (ps : List Nat) (n : Nat) : Nat := min (ps.getD (n - 1) 0) (n - 1)
theorem par_lt (ps : List Nat) (n : Nat) : par ps (n + 1) < n + 1 := by
  unfold par
  omega
theorem par_lt' (ps : List Nat) {n : Nat} (h : 0 < n) : par ps n < n := by
  unfold par
  omega
theorem par_get {ps : List Nat} (g : Good ps) {i p : Nat} (h : ps[i]? = some p) : par ps (i + 1) = p := by
  have h1 := g i p h
  have h2 : ps.getD i 0 = p := by rw [List.getD_eq_getElem?_getD, h]; rfl
  show min (ps.getD i 0) i = p
  rw [h2]
  omega
def up (ps : List Nat) : Nat → List Nat
  | 0 => [0]
  | n + 1 => (n + 1) :: up ps (par ps (n + 1))
termination_by n => n
decreasing_by exact par_lt ps n
theorem up_zero (ps : List Nat) : up ps 0 = [0] := by rw [up]
theorem up_succ (ps : List Nat) (n : Nat) : up ps (n + 1) = (n + 1) :: up ps (par ps (n + 1)) := by rw [up]
theorem up_pos (ps : List Nat) {n : Nat} (h : 0 < n) : up ps n = n :: up ps (par ps n) := by
  obtain ⟨k, rfl⟩ : ∃ k, n = k + 1 := ⟨n - 1, by omega⟩
  exact up_succ ps k
theorem up_self (ps : List Nat) (n : Nat) : n ∈ up ps n := by
  cases n with
  | zero => rw [up_zero]; exact List.mem_cons_self
  | succ k => rw [up_succ]; exact List.mem_cons_self
theorem up_le (ps : List Nat) (n : Nat) : ∀ c, c ∈ up ps n → c ≤ n := by
  induction n using Nat.strongRecOn with
  | _ n ih =>
    intro c hc
    cases n with
    | zero => rw [up_zero] at hc; simp at hc; omega
    | succ k =>
      rw [up_succ] at hc
      rcases List.mem_cons.mp hc with h | h
      · omega
      · have := ih _ (par_lt ps k) c h
        have := par_lt ps k
        omega
theorem up_sorted (ps : List Nat) (n : Nat) : (up ps n).Pairwise (fun a b => b < a) := by
  induction n using Nat.strongRecOn with
  | _ n ih =>
    cases n with
    | zero => rw [up_zero]; exact List.pairwise_singleton _ _
    | succ k =>
      rw [up_succ, List.pairwise_cons]
      refine ⟨fun c hc => ?_, ih _ (par_lt ps k)⟩
      have := up_le ps _ c hc
      have := par_lt ps k
      omega
theorem up_len (ps : List Nat) (n : Nat) : (up ps n).length ≤ n + 1 := by
  induction n using Nat.strongRecOn with
  | _ n ih =>
    cases n with
    | zero => rw [up_zero]; exact Nat.le_refl _
    | succ k =>
      rw [up_succ, List.length_cons]
      have := ih _ (par_lt ps k)
      have := par_lt ps k
      omega
/-- beneath t on the way up from n -/
def bel (ps : List Nat) (t : Nat) : Nat → List Nat
  | 0 => []
  | n + 1 => if n + 1 = t then [] else (n + 1) :: bel ps t (par ps (n + 1))
termination_by n => n
decreasing_by exact par_lt ps n
theorem bel_zero (ps : List Nat) (t : Nat) : bel ps t 0 = [] := by rw [bel]
theorem bel_self (ps : List Nat) (t : Nat) : bel ps t t = [] := by
  cases t with
  | zero => exact bel_zero ps 0
  | succ k => rw [bel, if_pos rfl]
theorem bel_step (ps : List Nat) {t n : Nat} (h : 0 < n) (e : n ≠ t) : bel ps t n = n :: bel ps t (par ps n) := by
  obtain ⟨k, rfl⟩ : ∃ k, n = k + 1 := ⟨n - 1, by omega⟩
  rw [bel, if_neg e]
theorem up_split (ps : List Nat) (t n : Nat) : t ∈ up ps n → up ps n = bel ps t n ++ up ps t := by
  induction n using Nat.strongRecOn with
  | _ n ih =>
    intro h
    by_cases e : n = t
    · subst e; rw [bel_self]; rfl
    · cases n with
      | zero => rw [up_zero] at h; simp at h; omega
      | succ k =>
        rw [up_succ] at h
        rcases List.mem_cons.mp h with h | h
        · omega
        · rw [bel_step ps (by omega) e, up_succ, List.cons_append, ← ih _ (par_lt ps k) h]
theorem zero_up (ps : List Nat) (n : Nat) : 0 ∈ up ps n := by
  induction n using Nat.strongRecOn with
  | _ n ih =>
    cases n with
    | zero => exact up_self ps 0
    | succ k => rw [up_succ]; exact List.mem_cons_of_mem _ (ih _ (par_lt ps k))
theorem up_bel0 (ps : List Nat) (n : Nat) : bel ps 0 n ++ [0] = up ps n := by
  rw [up_split ps 0 n (zero_up ps n), up_zero]
theorem up_trans (ps : List Nat) {a b c : Nat} (h1 : a ∈ up ps b) (h2 : b ∈ up ps c) : a ∈ up ps c := by
  rw [up_split ps b c h2]
  exact List.mem_append_right _ h1
theorem bel_gt (ps : List Nat) {t n : Nat} (h : t ∈ up ps n) : ∀ c ∈ bel ps t n, t < c := by
  intro c hc
  have s := up_sorted ps n
  rw [up_split ps t n h, List.pairwise_append] at s
  exact s.2.2 c hc t (up_self ps t)
theorem bel_up (ps : List Nat) {t n : Nat} (h : t ∈ up ps n) : ∀ c ∈ bel ps t n, c ∈ up ps n := by
  intro c hc
  rw [up_split ps t n h]
  exact List.mem_append_left _ hc
theorem bel_len (ps : List Nat) (t n : Nat) : (bel ps t n).length ≤ n := by
  induction n using Nat.strongRecOn with
  | _ n ih =>
    by_cases e : n = t
    · subst e; rw [bel_self]; exact Nat.zero_le _
    · cases n with
      | zero => rw [bel_zero]; exact Nat.le_refl _
      | succ k =>
        rw [bel_step ps (by omega) e, List.length_cons]
        have := ih _ (par_lt ps k)
        have := par_lt ps k
        omega
/-- the nearest common elder -/
def meet (ps : List Nat) (a b : Nat) : Nat :=
  if e : a = b then a else if h : b < a then meet ps (par ps a) b else meet ps a (par ps b)
termination_by a + b
decreasing_by
  · have := par_lt' ps (n := a) (by omega); omega
  · have := par_lt' ps (n := b) (by omega); omega
theorem meet_same (ps : List Nat) (a : Nat) : meet ps a a = a := by rw [meet, dif_pos rfl]
theorem meet_l (ps : List Nat) {a b : Nat} (h : b < a) : meet ps a b = meet ps (par ps a) b := by
  rw [meet, dif_neg (by omega), dif_pos h]
theorem meet_r (ps : List Nat) {a b : Nat} (h : a < b) : meet ps a b = meet ps a (par ps b) := by
  rw [meet, dif_neg (by omega), dif_neg (by omega)]
theorem meet_spec (ps : List Nat) (m : Nat) : ∀ a b, a + b ≤ m → meet ps a b ∈ up ps a ∧ meet ps a b ∈ up ps b ∧ ∀ c, c ∈ up ps a → c ∈ up ps b → c ∈ up ps (meet ps a b) := by
  induction m with
  | zero =>
    intro a b h
    obtain rfl : a = 0 := by omega
    obtain rfl : b = 0 := by omega
    rw [meet_same]
    exact ⟨up_self ps 0, up_self ps 0, fun c h _ => h⟩
  | succ m ih =>
    intro a b h
    by_cases e : a = b
    · subst e
      rw [meet_same]
      exact ⟨up_self ps a, up_self ps a, fun c h _ => h⟩
    · by_cases l : b < a
      · have p := par_lt' ps (n := a) (by omega)
        obtain ⟨h1, h2, h3⟩ := ih (par ps a) b (by omega)
        rw [meet_l ps l]
        refine ⟨?_, h2, fun c hc hd => ?_⟩
        · rw [up_pos ps (n := a) (by omega)]
          exact List.mem_cons_of_mem _ h1
        · refine h3 c ?_ hd
          rw [up_pos ps (n := a) (by omega)] at hc
          rcases List.mem_cons.mp hc with q | q
          · have := up_le ps b c hd
            omega
          · exact q
      · have l : a < b := by omega
        have p := par_lt' ps (n := b) (by omega)
        obtain ⟨h1, h2, h3⟩ := ih a (par ps b) (by omega)
        rw [meet_r ps l]
        refine ⟨h1, ?_, fun c hc hd => ?_⟩
        · rw [up_pos ps (n := b) (by omega)]
          exact List.mem_cons_of_mem _ h2
        · refine h3 c hc ?_
          rw [up_pos ps (n := b) (by omega)] at hd
          rcases List.mem_cons.mp hd with q | q
          · have := up_le ps a c hc
            omega
          · exact q
theorem meet_up1 (ps : List Nat) (a b : Nat) : meet ps a b ∈ up ps a := (meet_spec ps (a + b) a b (Nat.le_refl _)).1
theorem meet_up2 (ps : List Nat) (a b : Nat) : meet ps a b ∈ up ps b := (meet_spec ps (a + b) a b (Nat.le_refl _)).2.1
theorem meet_top (ps : List Nat) {a b c : Nat} (h1 : c ∈ up ps a) (h2 : c ∈ up ps b) : c ∈ up ps (meet ps a b) := (meet_spec ps (a + b) a b (Nat.le_refl _)).2.2 c h1 h2
theorem meet_le1 (ps : List Nat) (a b : Nat) : meet ps a b ≤ a := up_le ps a _ (meet_up1 ps a b)
theorem meet_le2 (ps : List Nat) (a b : Nat) : meet ps a b ≤ b := up_le ps b _ (meet_up2 ps a b)
theorem meet_eq (ps : List Nat) (a b : Nat) : meet ps a b = a ↔ a ∈ up ps b := by
  constructor
  · intro h
    have := meet_up2 ps a b
    rw [h] at this
    exact this
  · intro h
    have h1 := up_le ps _ a (meet_top ps (up_self ps a) h)
    have h2 := meet_le1 ps a b
    omega
/-- beneath the nearest common elder no state is an elder of the other -/
theorem bel_out (ps : List Nat) {a b c : Nat} (h : c ∈ bel ps (meet ps a b) a) : c ∉ up ps b := by
  intro hb
  have h1 := bel_gt ps (meet_up1 ps a b) c h
  have h2 := up_le ps _ c (meet_top ps (bel_up ps (meet_up1 ps a b) c h) hb)
  omega
theorem meet_comm (ps : List Nat) (a b : Nat) : meet ps a b = meet ps b a := by
  have h1 := up_le ps _ _ (meet_top ps (meet_up2 ps a b) (meet_up1 ps a b))
  have h2 := up_le ps _ _ (meet_top ps (meet_up2 ps b a) (meet_up1 ps b a))
  omega
theorem bel_out2 (ps : List Nat) {a b c : Nat} (h : c ∈ bel ps (meet ps a b) b) : c ∉ up ps a := by
  rw [meet_comm] at h
  exact bel_out ps h
/-- the ones of a that are none of b's -/
theorem bel_filter1 (ps : List Nat) (a b : Nat) : (up ps a).filter (fun c => decide (c ∉ up ps b)) = bel ps (meet ps a b) a := by
  rw [up_split ps (meet ps a b) a (meet_up1 ps a b), List.filter_append]
  have e1 : (bel ps (meet ps a b) a).filter (fun c => decide (c ∉ up ps b)) = bel ps (meet ps a b) a :=
    List.filter_eq_self.mpr fun c hc => decide_eq_true (bel_out ps hc)
  have e2 : (up ps (meet ps a b)).filter (fun c => decide (c ∉ up ps b)) = [] :=
    List.filter_eq_nil_iff.mpr fun c hc z => (of_decide_eq_true z) (up_trans ps hc (meet_up2 ps a b))
  rw [e1, e2, List.append_nil]
theorem bel_filter2 (ps : List Nat) (a b : Nat) : (up ps b).filter (fun c => decide (c ∉ up ps a)) = bel ps (meet ps a b) b := by
  rw [meet_comm]
  exact bel_filter1 ps b a
theorem meet_first (ps : List Nat) (a b : Nat) : ((up ps b).filter (fun c => decide (c ∈ up ps a)))[0]? = some (meet ps a b) := by
  rw [up_split ps (meet ps a b) b (meet_up2 ps a b), List.filter_append]
  have e1 : (bel ps (meet ps a b) b).filter (fun c => decide (c ∈ up ps a)) = [] :=
    List.filter_eq_nil_iff.mpr fun c hc z => bel_out2 ps hc (of_decide_eq_true z)
  have e2 : (up ps (meet ps a b)).filter (fun c => decide (c ∈ up ps a)) = up ps (meet ps a b) :=
    List.filter_eq_self.mpr fun c hc => decide_eq_true (up_trans ps hc (meet_up1 ps a b))
  rw [e1, e2, List.nil_append]
  by_cases h : 0 < meet ps a b
  · rw [up_pos ps h]; rfl
  · have z : meet ps a b = 0 := by omega
    rw [z, up_zero]; rfl
end Bw
set_option Elab.async false
set_option linter.all false
set_option maxRecDepth 100000
set_option maxHeartbeats 4000000
namespace Bw
open PySem L2
/-! ### tests -/
theorem iteP {c A B : Prop} [Decidable c] (hc : c) (h : A) : if decide c = true then A else B := by
  rw [decide_eq_true hc]
  exact iteT h
theorem iteN {c A B : Prop} [Decidable c] (hc : ¬ c) (h : B) : if decide c = true then A else B := by
  rw [decide_eq_false hc]
  exact iteF h
theorem iteNP {c A B : Prop} [Decidable c] (hc : ¬ c) (h : A) : if (!decide c) = true then A else B := by
  rw [decide_eq_false hc]
  exact iteT h
theorem iteD {c A B : Prop} [Decidable c] (h1 : c → A) (h2 : ¬ c → B) : if decide c = true then A else B := by
  by_cases hc : c
  · exact iteP hc (h1 hc)
  · exact iteN hc (h2 hc)
theorem iteND {c A B : Prop} [Decidable c] (h1 : ¬ c → A) (h2 : c → B) : if (!decide c) = true then A else B := by
  by_cases hc : c
  · exact iteNS hc (h2 hc)
  · exact iteNP hc (h1 hc)
theorem iteB {b : Bool} {A B : Prop} (h1 : b = true → A) (h2 : b = false → B) : if b = true then A else B := by
  cases b with
  | true => exact iteT (h1 rfl)
  | false => exact iteF (h2 rfl)
/-! ### numbers and trees as values -/
def vN (ns : List Nat) : List V := ns.map fun (n : Nat) => V.int (n : Int)
def vT (ps : List Nat) : List V := V.non :: vN ps
theorem vN_len (ns : List Nat) : (vN ns).length = ns.length := by unfold vN; exact List.length_map _
theorem vT_len (ps : List Nat) : (vT ps).length = ps.length + 1 := by unfold vT; rw [List.length_cons, vN_len]
theorem vN_get {ns : List Nat} {i n : Nat} (h : ns[i]? = some n) : (vN ns)[i]? = some (.int n) := by
  unfold vN
  rw [List.getElem?_map, h]
  rfl
theorem vN_get' {ns : List Nat} {i : Nat} {x : V} (h : (vN ns)[i]? = some x) : ∃ n, ns[i]? = some n ∧ x = .int (n : Nat) := by
  unfold vN at h
  rw [List.getElem?_map] at h
  cases e : ns[i]? with
  | none => rw [e] at h; cases h
  | some n => rw [e] at h; exact ⟨n, rfl, (Option.some.inj h).symm⟩
theorem vN_append (a b : List Nat) : vN (a ++ b) = vN a ++ vN b := by unfold vN; exact List.map_append
theorem vT_append (a : List Nat) (n : Nat) : vT a ++ [.int n] = vT (a ++ [n]) := by unfold vT; rw [vN_append]; rfl
theorem vN_flat (ns : List Nat) : (vN ns).all flatV = true := by
  induction ns with
  | nil => rfl
  | cons n r ih => show (flatV (.int n) && (vN r).all flatV) = true; rw [ih]; rfl
theorem vN_in (n : Nat) (ns : List Nat) : inV (.int n) (vN ns) = decide (n ∈ ns) := by
  induction ns with
  | nil => rfl
  | cons m r ih =>
    show (((m : Int) == (n : Int)) || inV (.int n) (vN r)) = _
    rw [ih]
    by_cases e : n = m
    · subst e; simp
    · have e' : ¬ ((m : Int) = (n : Int)) := by omega
      simp [e, e']
theorem at_nat {xs : List V} {i : Nat} {k : Int} {v : V} (e : k = (i : Int)) (h : xs[i]? = some v) : atI xs k = some v := by
  subst e
  exact atI_nat h
theorem vT_zero (ps : List Nat) : (vT ps)[0]? = some .non := rfl
theorem vT_get {ps : List Nat} (g : Good ps) {n : Nat} (h0 : 0 < n) (hn : n ≤ ps.length) : (vT ps)[n]? = some (.int (par ps n : Nat)) := by
  obtain ⟨k, rfl⟩ : ∃ k, n = k + 1 := ⟨n - 1, by omega⟩
  obtain ⟨p, hp⟩ : ∃ p, ps[k]? = some p := ⟨ps[k]'(by omega), List.getElem?_eq_getElem (by omega)⟩
  rw [par_get g hp]
  show (vN ps)[k]? = _
  exact vN_get hp
theorem vT_at0 (ps : List Nat) {k : Int} (e : k = 0) : atI (vT ps) k = some .non := at_nat (i := 0) (by omega) rfl
theorem vT_at {ps : List Nat} (g : Good ps) {n : Nat} {k : Int} (e : k = (n : Int)) (h0 : 0 < n) (hn : n ≤ ps.length) : atI (vT ps) k = some (.int (par ps n : Nat)) := at_nat e (vT_get g h0 hn)
theorem map_get' {ns : List Int} {i : Nat} (h : i < ns.length) : ∃ z, (ns.map V.int)[i]? = some (.int z) := by
  refine ⟨ns[i], ?_⟩
  rw [List.getElem?_map, List.getElem?_eq_getElem h]
  rfl
theorem cutV_map (ns : List Int) (lo hi : Option Int) : ∃ ms : List Int, cutV (ns.map V.int) lo hi = ms.map V.int ∧ ms.length ≤ ns.length := by
  refine ⟨(ns.drop (HT.sIx (ns.map V.int).length 0 lo)).take (HT.sIx (ns.map V.int).length (ns.map V.int).length hi - HT.sIx (ns.map V.int).length 0 lo), ?_, ?_⟩
  · unfold cutV
    rw [List.map_take, List.map_drop]
  · rw [List.length_take, List.length_drop]
    omega
/-! ### heaps -/
theorem Same.upd {H H' : Hp} (s : Same H H') {p : Addr} {o : HO} (h : H p = none) : Same H (upd H' p o) := fun b u e => by
  rw [upd_ne (ne_of_none e h)]
  exact s b u e
theorem same_upd {H : Hp} {p : Addr} {o : HO} (h : H p = none) : Same H (upd H p o) := Same.upd (Same.refl H) h
/-! ### isinstance of one built-in type -/
theorem kit_tt {K : PySem.W.Frag} {S T : String} {b : Bool} (h : (if (Value.type S == Value.type T) = true then some true else if PySem.W.kitMeta T = true then (fastBuiltinMro S).map (·.contains (Value.type T)) else none) = some b) :
    PySem.W.kitOne K (.type S) (.type T) = some b := h
def rIsi (K : PySem.W.Frag) (T : String) : List V → Hp → VK → Prop := fun xs H Q => ∃ x S b, xs = [x, .ty T] ∧ TyOf K H x (.type S) ∧ PySem.W.kitOne K (.type S) (.type T) = some b ∧ Q (.bl b) H
theorem call_isi {X : Cx} (T : String) : CallR X (.builtin "isinstance") (rIsi X.K T) := by
  intro pins s σ H xs us Q I rs h
  obtain ⟨x, S, b, rfl, ty, e, q⟩ := h
  obtain ⟨u, w, rfl, rx, rw'⟩ := Vals.two rs
  cases rw'
  exact isinst_ok I rx ty e fun tk => ⟨.bl b, H, I.tok tk, rfl, q⟩
theorem kii {K : PySem.W.Frag} : PySem.W.kitOne K (.type "int") (.type "int") = some true := kit_tt (by decide +kernel)
theorem kib {K : PySem.W.Frag} : PySem.W.kitOne K (.type "int") (.type "bool") = some false := kit_tt (by decide +kernel)
theorem kbb {K : PySem.W.Frag} : PySem.W.kitOne K (.type "bool") (.type "bool") = some true := kit_tt (by decide +kernel)
theorem kll {K : PySem.W.Frag} : PySem.W.kitOne K (.type "list") (.type "list") = some true := kit_tt (by decide +kernel)
theorem klt {K : PySem.W.Frag} : PySem.W.kitOne K (.type "list") (.type "tuple") = some false := kit_tt (by decide +kernel)
theorem ktt {K : PySem.W.Frag} : PySem.W.kitOne K (.type "tuple") (.type "tuple") = some true := kit_tt (by decide +kernel)
theorem ktl {K : PySem.W.Frag} : PySem.W.kitOne K (.type "tuple") (.type "list") = some false := kit_tt (by decide +kernel)
/-! ### a def of the module -/
structure Fn (K : PySem.W.Frag) (mg : Str → Option Value) (x : Str) (st : Stmt) (ps : List Str) (f : Addr) (fd : FuncData) : Prop where
  fn : Fun K x x st f fd
  mx : mg x = some (.ref f)
  bd : Binds K fd ps []
  ba : ∀ us : List Value, us.length = ps.length → bindArgs fd ⟨us, []⟩ = pure (ps.zip us)
theorem fn_mk {K : PySem.W.Frag} {h : Heap} {mg : Str → Option Value} (X : K.In h) (G : h.Ns mainGlobals mg) {x : Str} {st : Stmt} {ps : List Str} {f : Addr} {oc : Value} {od an : Option Addr} {osl : Array (Option Value)} {kV doc pm cdv ct : Value}
    (b : ∀ (kV doc pm : Value) (an : Option Addr) (cdv ct : Value) (us : List Value), us.length = ps.length → bindArgs (PySem.W.fnOf x x (defArgs st) (defBody st) (defScope st) .none kV doc pm an cdv ct) ⟨us, []⟩ = pure (ps.zip us))
    (a : PySem.W.nsIn K mainGlobals x = some (some (.ref f)))
    (l : K.lookup f = some ⟨oc, od, .func (PySem.W.fnOf x x (defArgs st) (defBody st) (defScope st) .none kV doc pm an cdv ct), osl⟩) (c : PySem.W.codeIn K cdv x = true) (k : PySem.W.keepIn K (.ref f) = true) :
    ∃ (f : Addr) (fd : FuncData), Fn K mg x st ps f fd := by
  have F := fun_mk (st := st) l c k
  exact ⟨f, _, F, PySem.W.mg_of X G a, F.binds b, fun us hl => b _ _ _ _ _ _ us hl⟩
/-- the built-in names that the text uses are no names of the module -/
structure Blt (mg : Str → Option Value) : Prop where
  len : mg "len" = none
  rng : mg "range" = none
  isi : mg "isinstance" = none
  int : mg "int" = none
  bool : mg "bool" = none
  list : mg "list" = none
  min : mg "min" = none
/-! ### the promises of the tree's defs, where all is as it should be -/
structure TreeAt (K : PySem.W.Frag) (H : Hp) (a : Addr) (ps : List Nat) : Prop where
  sq : SqL K H a (vT ps)
  gd : Good ps
  le : ps.length ≤ 600
theorem TreeAt.same {K : PySem.W.Frag} {H H' : Hp} {a : Addr} {ps : List Nat} (t : TreeAt K H a ps) (s : Same H H') : TreeAt K H' a ps := ⟨s.seq t.sq, t.gd, t.le⟩
/-- a new list stands at p -/
def NewL (H H' : Hp) (p : Addr) (xs : List V) : Prop := H p = none ∧ Same H H' ∧ H' p = some (.lst xs)
def spTree (K : PySem.W.Frag) : Sp := fun vs H Q _ => ∃ a ps, vs = [.ref a] ∧ TreeAt K H a ps ∧ Q .non H
def spState (K : PySem.W.Frag) : Sp := fun vs H Q _ => ∃ a ps, ∃ n : Nat, vs = [.ref a, .int n] ∧ TreeAt K H a ps ∧ n ≤ ps.length ∧ Q .non H
def spStates (K : PySem.W.Frag) : Sp := fun vs H Q _ => ∃ a ps, ∃ m n : Nat, vs = [.ref a, .int m, .int n] ∧ TreeAt K H a ps ∧ m ≤ ps.length ∧ n ≤ ps.length ∧ Q .non H
def spMeet (K : PySem.W.Frag) : Sp := fun vs H Q _ => ∃ a ps, ∃ m n : Nat, vs = [.ref a, .int m, .int n] ∧ TreeAt K H a ps ∧ m ≤ ps.length ∧ n ≤ ps.length ∧ Q (.int (meet ps m n : Nat)) H
def spBel (K : PySem.W.Frag) : Sp := fun vs H Q _ => ∃ a ps, ∃ t n : Nat, vs = [.ref a, .int t, .int n] ∧ TreeAt K H a ps ∧ n ≤ ps.length ∧ t ∈ up ps n ∧ ∀ p H', NewL H H' p (vN (bel ps t n)) → Q (.ref p) H'
def spElders (K : PySem.W.Frag) : Sp := fun vs H Q _ => ∃ a ps, ∃ n : Nat, vs = [.ref a, .int n] ∧ TreeAt K H a ps ∧ n ≤ ps.length ∧ ∀ p H', NewL H H' p (vN (up ps n)) → Q (.ref p) H'
def spIsElder (K : PySem.W.Frag) : Sp := fun vs H Q _ => ∃ a ps, ∃ m n : Nat, vs = [.ref a, .int m, .int n] ∧ TreeAt K H a ps ∧ m ≤ ps.length ∧ n ≤ ps.length ∧ Q (.bl (decide (m ∈ up ps n))) H
def spNearest (K : PySem.W.Frag) : Sp := spMeet K
def spWhole : Sp := fun vs H Q _ => ∃ z : Int, vs = [.int z] ∧ Q (.bl true) H
def spAt (K : PySem.W.Frag) : Sp := fun vs H Q _ => ∃ a, ∃ ns : List Int, ∃ k : Nat, vs = [.ref a, .int k] ∧ SqL K H a (ns.map V.int) ∧ ns.length ≤ 1000 ∧ ∀ z : Int, Q (.int z) H
def spFigures (K : PySem.W.Frag) : Sp := fun vs H Q _ => ∃ a b, ∃ ns : List Nat, vs = [.ref a, .ref b] ∧ H a = some (.lst (vN ns)) ∧ SqL K H b (vN ns) ∧ ns.length ≤ 1000 ∧ Q (.bl true) H
def spTreeBy (K : PySem.W.Frag) : Sp := fun vs H Q _ => ∃ a, ∃ ns : List Int, ∃ z : Int, vs = [.ref a, .int z] ∧ SqL K H a (ns.map V.int) ∧ ns.length ≤ 100 ∧ ∀ p ps H', ps.length = ns.length → Good ps → NewL H H' p (vT ps) → Q (.ref p) H'
def spUp (K : PySem.W.Frag) : Sp := spElders K
def spSameTree (K : PySem.W.Frag) : Sp := fun vs H Q _ => ∃ a b ps, vs = [.ref a, .ref b] ∧ TreeAt K H a ps ∧ SqL K H b (vT ps) ∧ Q (.bl true) H
end Bw
set_option Elab.async false
set_option linter.all false
set_option maxRecDepth 100000
set_option maxHeartbeats 4000000
namespace Bw
open PySem L2
/-! ### isinstance of a tuple of two built-in types -/
theorem kit_of {X : Cx} {pins : List (Addr × Obj)} {σ : St} {H : Hp} {s : Shared} {x : V} {u t : Value} (I : Inv X pins σ H s) (rx : RelV x u) (ty : TyOf X.K H x t) :
    (∃ Hh : Heap → Prop, PySem.W.KitX X.K u t Hh ∧ Hh s.heap) ∧ u ≠ .builtin "__main__.__loader__#opaque" := by
  cases ty with
  | non => cases (show u = Value.none from rx); exact ⟨⟨_, PySem.W.kitx_none, trivial⟩, nofun⟩
  | bl y => cases (show u = Value.bool y from rx); exact ⟨⟨_, PySem.W.kitx_bool, trivial⟩, nofun⟩
  | int i => obtain ⟨t, rfl⟩ := (show ∃ t, u = Value.int i t from rx); exact ⟨⟨_, PySem.W.kitx_int, trivial⟩, nofun⟩
  | str y => obtain ⟨t, rfl⟩ := (show ∃ t, u = Value.str y t from rx); exact ⟨⟨_, PySem.W.kitx_str, trivial⟩, nofun⟩
  | flt y => obtain ⟨t, rfl⟩ := (show ∃ t, u = Value.float y t from rx); exact ⟨⟨_, PySem.W.kitx_float, trivial⟩, nofun⟩
  | @lst a xs ea =>
    cases (show u = Value.ref a from rx)
    obtain ⟨_, _, n, _, h1⟩ := (show ObjOk X.prog X.w H s.heap a (.lst xs) from I.hok a _ ea)
    exact ⟨⟨_, PySem.W.kitx_list, ⟨_, h1, rfl⟩⟩, nofun⟩
  | @frz a ob xs ea =>
    cases (show u = Value.ref a from rx)
    obtain ⟨_, _, _, n, _, h1⟩ := (show ObjOk X.prog X.w H s.heap a (.frz ob (.lst xs)) from I.hok a _ ea)
    exact ⟨⟨_, PySem.W.kitx_list, ⟨_, h1, rfl⟩⟩, nofun⟩
  | @tup a xs ea =>
    cases (show u = Value.ref a from rx)
    obtain ⟨_, _, _, p⟩ := (show ObjOk X.prog X.w H s.heap a (.tup xs) from I.hok a _ ea)
    obtain ⟨o, h1, h2, _⟩ := p
    exact ⟨⟨_, PySem.W.kitx_tuple, ⟨o, h1, h2⟩⟩, nofun⟩
  | @dK a kvs ea =>
    cases (show u = Value.ref a from rx)
    obtain ⟨_, _, vs, _, p⟩ := (show ObjOk X.prog X.w H s.heap a (.dK kvs) from I.hok a _ ea)
    obtain ⟨o, es, ep, h1, h2, _⟩ := p
    exact ⟨⟨_, PySem.W.kitx_dict, ⟨o, h1, h2.1⟩⟩, nofun⟩
  | @dT a kvs ea =>
    cases (show u = Value.ref a from rx)
    obtain ⟨_, _, xs, _, o, es, ep, h1, h2, _⟩ := (show ObjOk X.prog X.w H s.heap a (.dT kvs) from I.hok a _ ea)
    exact ⟨⟨_, PySem.W.kitx_dict, ⟨o, h1, h2.1⟩⟩, nofun⟩
  | @ins a C dx fs ea cl ha hn htk hm =>
    cases (show u = Value.ref a from rx)
    obtain ⟨mA, O, _⟩ := ins_get I.hok ea
    obtain ⟨od, J, _⟩ := O.look
    exact ⟨⟨_, PySem.W.kitx_own (cl.get _) cl.hd ha hn htk hm, J⟩, nofun⟩
def rIsi2 (K : PySem.W.Frag) : List V → Hp → VK → Prop := fun xs H Q => ∃ x tp S b, xs = [x, .ref tp] ∧ H tp = some (.tup [.ty "list", .ty "tuple"]) ∧ TyOf K H x (.type S) ∧ PySem.W.kitAny K (.type S) [.type "list", .type "tuple"] = some b ∧ Q (.bl b) H
theorem call_isi2 {X : Cx} : CallR X (.builtin "isinstance") (rIsi2 X.K) := by
  intro pins s σ H xs us Q I rs h
  obtain ⟨x, tp, S, b, rfl, htp, ty, e, q⟩ := h
  obtain ⟨u, w, rfl, rx, rw'⟩ := Vals.two rs
  cases (show w = Value.ref tp from rw')
  obtain ⟨⟨Hh, Z, hp⟩, hx⟩ := kit_of I rx ty
  obtain ⟨_, its, rv, o, ho, hc, n, hd⟩ := (show ObjOk X.prog X.w H s.heap tp (.tup [.ty "list", .ty "tuple"]) from I.hok tp _ htp)
  obtain ⟨u1, u2, rfl, r1, r2⟩ := Vals.two rv
  cases (show u1 = Value.type "list" from r1)
  cases (show u2 = Value.type "tuple" from r2)
  obtain ⟨cls, dd, data, sl⟩ := o
  simp only at hc hd
  subst hc hd
  exact PySem.W.kia_tup Z I.kIn hp ho e hx fun tk => ⟨.bl b, H, I.tok tk, rfl, q⟩
theorem knl {K : PySem.W.Frag} : PySem.W.kitOne K (.type "NoneType") (.type "list") = some false := kit_tt (by decide +kernel)
theorem knt {K : PySem.W.Frag} : PySem.W.kitOne K (.type "NoneType") (.type "tuple") = some false := kit_tt (by decide +kernel)
theorem kns {K : PySem.W.Frag} : PySem.W.kitOne K (.type "NoneType") (.type "str") = some false := kit_tt (by decide +kernel)
theorem knb {K : PySem.W.Frag} : PySem.W.kitOne K (.type "NoneType") (.type "bool") = some false := kit_tt (by decide +kernel)
theorem kil {K : PySem.W.Frag} : PySem.W.kitOne K (.type "int") (.type "list") = some false := kit_tt (by decide +kernel)
theorem kit' {K : PySem.W.Frag} : PySem.W.kitOne K (.type "int") (.type "tuple") = some false := kit_tt (by decide +kernel)
theorem kis {K : PySem.W.Frag} : PySem.W.kitOne K (.type "int") (.type "str") = some false := kit_tt (by decide +kernel)
theorem ksl {K : PySem.W.Frag} : PySem.W.kitOne K (.type "str") (.type "list") = some false := kit_tt (by decide +kernel)
theorem kst {K : PySem.W.Frag} : PySem.W.kitOne K (.type "str") (.type "tuple") = some false := kit_tt (by decide +kernel)
theorem kss {K : PySem.W.Frag} : PySem.W.kitOne K (.type "str") (.type "str") = some true := kit_tt (by decide +kernel)
theorem ksb {K : PySem.W.Frag} : PySem.W.kitOne K (.type "str") (.type "bool") = some false := kit_tt (by decide +kernel)
theorem k2l {K : PySem.W.Frag} : PySem.W.kitAny K (.type "list") [.type "list", .type "tuple"] = some true := by unfold PySem.W.kitAny; rw [kll]
theorem k2t {K : PySem.W.Frag} : PySem.W.kitAny K (.type "tuple") [.type "list", .type "tuple"] = some true := by unfold PySem.W.kitAny; rw [ktl]; unfold PySem.W.kitAny; rw [ktt]
theorem k2n {K : PySem.W.Frag} : PySem.W.kitAny K (.type "NoneType") [.type "list", .type "tuple"] = some false := by unfold PySem.W.kitAny; rw [knl]; unfold PySem.W.kitAny; rw [knt]; rfl
theorem k2i {K : PySem.W.Frag} : PySem.W.kitAny K (.type "int") [.type "list", .type "tuple"] = some false := by unfold PySem.W.kitAny; rw [kil]; unfold PySem.W.kitAny; rw [kit']; rfl
theorem k2s {K : PySem.W.Frag} : PySem.W.kitAny K (.type "str") [.type "list", .type "tuple"] = some false := by unfold PySem.W.kitAny; rw [ksl]; unfold PySem.W.kitAny; rw [kst]; rfl
/-! ### a list != [] -/
def rNeE (K : PySem.W.Frag) : R2 := fun x y H Q => ∃ a b xs, x = .ref a ∧ y = .ref b ∧ SqL K H a xs ∧ SqL K H b [] ∧ Q (.bl (!decide (xs = []))) H
theorem op_neE {X : Cx} (hu : X.A.units < cLine) : OpR X (compareOp .NotEq) (rNeE X.K) := by
  intro pins s σ H x y v u Q I rx ry h
  obtain ⟨a, b, xs, rfl, rfl, ha, hb, q⟩ := h
  cases rx
  cases ry
  obtain ⟨its, r, pl, _⟩ := I.list ha
  obtain ⟨its2, r2, pl2, _⟩ := I.list hb
  cases (Vals.zero r2)
  cases xs with
  | nil =>
    cases (Vals.zero r)
    exact PySem.SeqAt.RcNeAt.lists (e := fun _ => true) pl.isList pl2.isList rfl hu (fun j h1 => absurd h1 (by simp)) X.prog X.w X.xe _ ⟨.bl false, H, I, rfl, q⟩
  | cons z zs =>
    have hl := r.length
    rw [List.length_cons] at hl
    exact PySem.SeqAt.RcNeAt.lists_lengths pl.isList pl2.isList (by simp; intro e; subst e; simp at hl) hu X.prog X.w X.xe _ ⟨.bl true, H, I, rfl, q⟩
/-! ### an iterator of ours has turned, and a new object is laid -/
theorem turnLaid {X : Cx} {pins : List (Addr × Obj)} {σ : St} {H : Hp} {s : Shared} {h' : Heap} {it a : Addr} {o : HO} {t' : Nat} (I : Inv X pins σ H s) (k : ∀ b u, b ≠ it → s.heap.get? b = some u → h'.get? b = some u) (hn : H it = none) (hL : it ≠ X.env.locals)
    (h1 : it ∈ X.ex ∨ X.s₀.heap.objs.size ≤ it) (h2 : ∀ x c, X.env.cells.lookup x = some c → c ≠ it) (h3 : ∀ p ∈ X.pn ++ pins, p.1 ≠ it) (hp : s.heap.objs.size ≤ a) (new : ObjOk X.prog X.w (upd H a o) h' a o) :
    Inv X pins σ (upd H a o) { s with heap := h', toks := t' } := by
  have hna : H a = none := I.hok.fresh hp
  have lt : ∀ b u, s.heap.get? b = some u → b ≠ a := fun b u e => Nat.ne_of_lt (Nat.lt_of_lt_of_le (Heap.lt_size e) hp)
  have J := I.turned (t' := t') (h' := h') (it := it) k hn hL h1 h2 h3
  refine I.step (H' := upd H a o) (h' := h') (g' := s.gens) (d' := s.drawn) (ch := [it]) (fun b hb => ?_) (fun b u _ _ hc e _ => k b u (fun z => hc (by simp [z])) e) (fun b u _ _ hc e _ => ⟨u.slots, k b u (fun z => hc (by simp [z])) e⟩)
    (fun b u _ e n => by rw [upd_ne (lt b u e)]; exact n) (fun b u hc e => ⟨u, k b u (fun z => hc (by simp [z])) e⟩) (fun b xs e => by rw [upd_ne (ne_of_none e hna)]; exact e) (fun b u x e => by rw [upd_ne (ne_of_none e hna)]; exact e)
    (fun b ps e => ⟨#[], by rw [upd_ne (ne_of_none e hna), e]; simp⟩) (fun m hm => ?_) (fun b u e => ?_) I.bare
  · have e : b = it := by simpa using hb
    subst e
    exact ⟨h1, hL, h2, h3⟩
  · obtain ⟨ob, es, ep, ho, r⟩ := hm
    exact ⟨ob, es, ep, k _ ob (Ne.symm hL) ho, r⟩
  · by_cases hb : b = a
    · subst hb
      rw [upd_same] at e
      cases e
      exact new
    · rw [upd_ne hb] at e
      exact (J.hok b u e).stay (fun _ _ _ q => q) (fun c q => by rw [upd_ne (ne_of_none q hna)]; exact q) fun c xs q => by rw [upd_ne (ne_of_none q hna)]; exact q
/-! ### list(reversed(xs)) -/
theorem lri_no_len : typeLookup (.type "list_reverseiterator") "__len__" = pure none := by rw [typeLookup_type, builtinLookup_eq_fast]; kernel_rfl
theorem lri_hint : typeLookup (.type "list_reverseiterator") "__length_hint__" = pure (some (.builtin "list_reverseiterator.__length_hint__")) := by rw [typeLookup_type, builtinLookup_eq_fast]; kernel_rfl
section
variable {prog : Program} {w : World} {A : Around} {E : Value → Shared → Prop} {s : Shared}
theorem hint_rev {it l : Addr} {i : Int} {Q : Bool → Shared → Prop} (hit : s.heap.IsRevIter it l i) (h : Q false s) : wpAny (model prog w) A (Builtin.List.listLengthHint (.ref it)) Q E s := by
  unfold Builtin.List.listLengthHint
  refine wpAny_bind (wpAny_specialOf hit.typeIs lri_no_len ?_)
  show wpAny _ _ (specialOf (Value.ref it) (Str.ofString "__length_hint__") >>= _) _ _ _
  refine wpAny_bind (wpAny_specialOf hit.typeIs lri_hint ?_)
  generalize hid : ("list_reverseiterator.__length_hint__" : String) = id0
  wp_delta
  rw [show splitId id0 = some ("list_reverseiterator", "__length_hint__") from by subst hid; decide +kernel]
  subst hid
  refine wpAny_bind (wpAny_isInstance (T := "list_reverseiterator") (b := true) hit.typeIs (by rw [isSubtype_type]; kernel_rfl) ?_)
  refine wpAny_ite_split (fun hab => absurd hab (by decide)) (fun _ => ?_)
  refine wpAny_ite_split (fun _ => ?_) (fun hab => absurd (by decide +kernel) hab)
  refine wpAny_ite_split (fun hab => absurd hab (by decide +kernel)) (fun _ => ?_)
  exact wpAny_pure h
theorem call_list_rev {it l : Addr} {items : Array Value} {Q : Value → Shared → Prop} (hh : A.handled = none) (hit : s.heap.IsRevIter it l ((items.size : Int) - 1)) (hl : s.heap.IsList l items) (hne : l ≠ it) (hsz : items.size ≤ sizeLine)
    (hQ : ∀ h' tk acc' c', (∀ b o, b ≠ it → s.heap.get? b = some o → h'.get? b = some o) → h'.get? s.heap.objs.size = some { cls := .type "list", dict := none, data := .seq acc' c', slots := #[] } →
      ItemsOf (fun i v => items[items.size - 1 - i]? = some v) acc' items.size → Q (.ref s.heap.objs.size) { s with heap := h', toks := tk }) :
    wpAny (model prog w) A (call (.type "list") [.ref it]) Q E s := by
  obtain ⟨oi, hoi, _⟩ := id hit
  obtain ⟨ol, hol, _⟩ := id hl
  refine callType_codes (Q₁ := fun obj s₁ => obj = .ref s.heap.objs.size ∧ s₁ = { s with heap := s.heap.push { cls := .type "list", data := .seq #[] } }) F.called_list (F.typeCall_list_1 _) F.entry_list_init
    (code_list_new _ ⟨rfl, rfl⟩) fun obj s₁ h₁ => ?_
  obtain ⟨rfl, rfl⟩ := h₁
  have hS : (s.heap.push { cls := .type "list", data := .seq #[] }).get? s.heap.objs.size = some { cls := .type "list", data := .seq #[] } := Heap.get?_push_size _ rfl
  refine ⟨⟨_, hS, rfl⟩, F.args_list_init_2 _ _, ?_⟩
  generalize hSd : s.heap.objs.size = S at hS hQ ⊢
  have hSit : S ≠ it := by rw [← hSd]; exact Nat.ne_of_gt (Heap.lt_size hoi)
  have hSl : S ≠ l := by rw [← hSd]; exact Nat.ne_of_gt (Heap.lt_size hol)
  have k0 : ∀ b o, s.heap.get? b = some o → (s.heap.push { cls := .type "list", data := .seq #[] }).get? b = some o := fun b o e => Heap.get?_push_of_some _ e
  have nS : ∀ b o, s.heap.get? b = some o → b ≠ S := fun b o e => by rw [← hSd]; exact Nat.ne_of_lt (Heap.lt_size e)
  show wpAny _ _ (do let old ← Builtin.List.listItems (.ref S); Builtin.List.listUpdate (.ref S) (fun _ => #[]); letGo old.toList.reverse; Builtin.List.listExtendWith (.ref S) (.ref it) .none) _ _ _
  refine wpAny_bind ?_
  unfold Builtin.List.listItems
  refine wpAny_bind (wpAny_seqItems hS rfl (wpAny_pure ?_))
  show wpAny _ _ (updateSeq S (fun _ => #[]) >>= fun _ => letGo (#[] : Array Value).toList.reverse >>= fun _ => Builtin.List.listExtendWith (.ref S) (.ref it) .none) _ _ _
  refine wpAny_bind (wpAny_updateSeq hS rfl ?_)
  have hS₂ := Heap.get?_update_self (Obj.mapSeq (fun _ => (#[] : Array Value))) hS rfl
  have oth : ∀ b o, s.heap.get? b = some o → ((s.heap.push { cls := .type "list", data := .seq #[] }).update S (Obj.mapSeq (fun _ => (#[] : Array Value)))).get? b = some o :=
    fun b o e => (Heap.get?_update_other _ _ (Ne.symm (nS b o e))).trans (k0 b o e)
  refine wpAny_bind (wpAny_letGo ?_)
  have hit2 : ((s.heap.push { cls := .type "list", data := .seq #[] }).update S (Obj.mapSeq (fun _ => (#[] : Array Value)))).IsRevIter it l ((items.size : Int) - 1) := hit.at fun o e => oth _ o e
  have hl2 : ((s.heap.push { cls := .type "list", data := .seq #[] }).update S (Obj.mapSeq (fun _ => (#[] : Array Value)))).IsList l items := hl.at fun o e => oth _ o e
  unfold Builtin.List.listExtendWith
  refine wpAny_bind (wpAny_typeOf (T := "list_reverseiterator") hit2.typeIs ?_)
  have h1 : Builtin.List.listSameRef (.ref S) (.ref it) = false := by simp [Builtin.List.listSameRef, hSit]
  have h2 : (Value.type "list_reverseiterator" == Value.type "list") = false := by decide
  have h3 : (Value.type "list_reverseiterator" == Value.type "tuple") = false := by decide
  simp only [h1, h2, h3, Bool.or_false, Bool.false_eq_true, if_false]
  refine wpAny_bind (wpAny_pyIter_revIter hit2 ?_)
  refine wpAny_bind (wpAny_holding (hint_rev hit2 ?_))
  refine wpAny_ite_split (fun hab => absurd hab (by decide +kernel)) (fun _ => ?_)
  have W := (Walks.listRev (prog := prog) (w := w) (A := A.in1.in1) hh it l hne items).toS
  refine wpAny_pure ⟨plainId_quiet F.plain_extend_loop _, codeAny_extend_loopS W hsz S (by simp [hSit, hSl]) .none items.size 0 _ #[] _ rfl (Nat.zero_le _) ⟨Nat.zero_le _, by simpa using hit2, hl2⟩ hS₂ (ItemsOf.nil _) fun s' acc' c' hm hS' hacc => ?_⟩
  rw [Moved.eq_with hm]
  refine ⟨rfl, hQ s'.heap s'.toks acc' c' (fun b o hb e => hm.heap b o (fun hmem => ?_) (oth b o e)) hS' hacc⟩
  rcases List.mem_cons.mp hmem with e' | hmem
  · exact nS b o e e'
  · exact hb (List.mem_singleton.mp hmem)
end
theorem items_rev {its : List Value} {acc : Array Value} (h : ItemsOf (fun i v => its.toArray[its.toArray.size - 1 - i]? = some v) acc its.toArray.size) : acc.toList = its.reverse := by
  obtain ⟨h1, h2⟩ := h
  apply List.ext_getElem?
  intro i
  by_cases hi : i < acc.size
  · have e1 : acc.toList[i]? = some acc[i] := by simp [hi]
    have e2 := h2 i acc[i] (by simp [hi])
    have h3 : acc.size = its.length := by rw [h1]; simp
    rw [e1, ← e2, List.size_toArray, List.getElem?_reverse (by omega), List.getElem?_toArray]
  · rw [List.getElem?_eq_none (by simpa using hi), List.getElem?_eq_none (by rw [List.length_reverse]; simp at h1; omega)]
section
variable {X : Cx} {e : Expr} {te : TE} {p1 p2 pos1 pos2 : Pos}
def tListRev (K : PySem.W.Frag) (te : TE) : TE := fun σ H Q => te σ H fun x H1 => ∃ a ys, x = .ref a ∧ SqL K H1 a ys ∧ ∀ p, H1 p = none → Q (.ref p) (upd H1 p (.lst ys.reverse))
theorem pe_listrev (hc : X.calm = true) (hg : Gl X "list") (hm : X.mg "list" = none) (hg2 : Gl X "reversed") (hm2 : X.mg "reversed" = none) (he : PE X e te)
    (hs : starEach [e] X.env = [(false, eval e X.env)] := by rfl)
    (hs2 : starEach [.Call (.Name "reversed" p2) [e] [] pos2] X.env = [(false, eval (.Call (.Name "reversed" p2) [e] [] pos2) X.env)] := by rfl) :
    PE X (.Call (.Name "list" p1) [.Call (.Name "reversed" p2) [e] [] pos2] [] pos1) (tListRev X.K te) := by
  intro pins s σ H Q I h
  refine wpAny_Call_Name_kw (ld_blt I hg hm PyProof.Rows.boot_list ?_ (by decide) (by decide))
  refine PyProof.Rows.callWith_type1 ?_ hs2 rfl
  rw [hs2]
  refine Calls.spliced_cons ?_
  refine wpAny_Call_Name_kw (ld_blt I hg2 hm2 PyProof.Rows.boot_reversed ?_ (by decide) (by decide))
  refine PyProof.Rows.callWith_type1 ?_ hs rfl
  rw [hs]
  refine Calls.spliced_cons (thn (he pins s σ H _ I h) fun u s1 ⟨x, H1, I1, r1, a, ys, ex, hS, q⟩ => Calls.spliced_nil ?_)
  subst ex
  cases r1
  obtain ⟨its, rv, pl, hz⟩ := I1.list hS
  have hlen : its.toArray.size = ys.length := by rw [List.size_toArray]; exact rv.length.symm
  refine call_reversed_list pl.isList (Calls.spliced_nil ?_)
  have I2 : Inv X pins σ H1 { s1 with heap := s1.heap.push (revObj a ((its.toArray.size : Int) - 1)) } := I1.kept (t' := s1.toks) fun b o e => Heap.get?_push_of_some _ e
  have hit : (s1.heap.push (revObj a ((its.toArray.size : Int) - 1))).IsRevIter s1.heap.objs.size a ((its.toArray.size : Int) - 1) := ⟨_, Heap.get?_push_size _ rfl, rfl, rfl⟩
  obtain ⟨oa, hoa, _⟩ := id pl.isList
  have hne : a ≠ s1.heap.objs.size := Nat.ne_of_lt (Heap.lt_size hoa)
  have hf : H1 s1.heap.objs.size = none := I1.hok.fresh (Nat.le_refl _)
  have hl2 : (s1.heap.push (revObj a ((its.toArray.size : Int) - 1))).IsList a its.toArray := pl.isList.at fun o e => Heap.get?_push_of_some _ e
  refine call_list_rev (I1.ok.hd hc) hit hl2 hne (by rw [hlen]; exact hz) fun h' tk acc' c' hk hD hI => ?_
  have ea := items_rev hI
  have fp := I1.fpOk (Nat.le_refl _) hf
  have hp2 : (s1.heap.push (revObj a ((its.toArray.size : Int) - 1))).objs.size ≤ (s1.heap.push (revObj a ((its.toArray.size : Int) - 1))).objs.size := Nat.le_refl _
  refine ⟨.ref _, _, turnLaid I2 (t' := tk) (o := .lst ys.reverse) hk hf fp.2.1 fp.2.2.2.1 fp.2.2.2.2.1 fp.2.2.2.2.2 hp2 ?_, rfl, q _ (I2.hok.fresh (Nat.le_refl _))⟩
  refine ⟨by rw [List.length_reverse]; exact hz, its.reverse, c', rv.reverse, ?_⟩
  rw [← ea, Array.toArray_toList]
  exact hD
end
/-! ### two data that are the same, to a depth -/
def Flat2 (x y : V) : Prop := (x = .non ∧ y = .non) ∨ (∃ i, x = .int i ∧ y = .int i) ∨ ∃ z, x = .str z ∧ y = .str z
def SDs (R : V → V → Nat → Prop) : List V → List V → Nat → Prop
  | [], [], n => n = 0
  | x :: xs, y :: ys, n => ∃ a b, R x y a ∧ SDs R xs ys b ∧ n = a + b
  | _, _, _ => False
def SD : Nat → Hp → V → V → Nat → Prop
  | 0, _, x, y, n => Flat2 x y ∧ n = 1
  | d + 1, H, x, y, n => SD d H x y n ∨ ∃ a b xs ys m, x = .ref a ∧ y = .ref b ∧ ((H a = some (.lst xs) ∧ H b = some (.lst ys)) ∨ (H a = some (.tup xs) ∧ H b = some (.tup ys))) ∧ SDs (SD d H) xs ys m ∧ n = m + 1
theorem SDs.mono {R R' : V → V → Nat → Prop} (h : ∀ x y n, R x y n → R' x y n) : ∀ {xs ys : List V} {n : Nat}, SDs R xs ys n → SDs R' xs ys n
  | [], [], _, z => z
  | _ :: _, _ :: _, _, ⟨a, b, r, t, e⟩ => ⟨a, b, h _ _ _ r, SDs.mono h t, e⟩
  | [], _ :: _, _, z => z.elim
  | _ :: _, [], _, z => z.elim
theorem SDs.len {R : V → V → Nat → Prop} : ∀ {xs ys : List V} {n : Nat}, SDs R xs ys n → xs.length = ys.length
  | [], [], _, _ => rfl
  | _ :: _, _ :: _, _, ⟨a, b, r, t, e⟩ => congrArg (· + 1) (SDs.len t)
  | [], _ :: _, _, z => z.elim
  | _ :: _, [], _, z => z.elim
theorem SDs.le {R : V → V → Nat → Prop} (hp : ∀ x y n, R x y n → 0 < n) : ∀ {xs ys : List V} {n : Nat}, SDs R xs ys n → xs.length ≤ n
  | [], [], _, _ => Nat.zero_le _
  | _ :: _, _ :: _, _, ⟨a, b, r, t, e⟩ => by
    have h1 := SDs.le hp t
    have h2 := hp _ _ _ r
    rw [List.length_cons]
    omega
  | [], _ :: _, _, z => z.elim
  | _ :: _, [], _, z => z.elim
theorem SDs.append {R : V → V → Nat → Prop} : ∀ {xs ys xs' ys' : List V} {n m : Nat}, SDs R xs ys n → SDs R xs' ys' m → SDs R (xs ++ xs') (ys ++ ys') (n + m)
  | [], [], xs', ys', n, m, e, t => by
    have e' : n = 0 := e
    subst e'
    rw [Nat.zero_add]
    exact t
  | x :: xs, y :: ys, _, _, n, m, ⟨a, b, r, t, e⟩, t' => ⟨a, b + m, r, SDs.append t t', by omega⟩
  | [], _ :: _, _, _, _, _, z, _ => z.elim
  | _ :: _, [], _, _, _, _, z, _ => z.elim
theorem SDs.split {R : V → V → Nat → Prop} : ∀ {xs xs' : List V} {ys' : List V} {n : Nat}, SDs R (xs ++ xs') ys' n → ∃ ys zs a b, ys' = ys ++ zs ∧ SDs R xs ys a ∧ SDs R xs' zs b ∧ n = a + b
  | [], xs', ys', n, h => ⟨[], ys', 0, n, rfl, rfl, h, by omega⟩
  | x :: xs, xs', [], n, h => False.elim h
  | x :: xs, xs', y :: ys', n, ⟨a, b, r, t, e⟩ => by
    obtain ⟨ys, zs, a', b', e1, h1, h2, e2⟩ := SDs.split (xs := xs) t
    exact ⟨y :: ys, zs, a + a', b', by rw [e1]; rfl, ⟨a, a', r, h1, rfl⟩, h2, by omega⟩
theorem SDs.last {R : V → V → Nat → Prop} {L M : List V} {k : Nat} (h : SDs R L M k) (hn : ¬ M = []) : ∃ L' M' a b na nb, L = L' ++ [a] ∧ M = M' ++ [b] ∧ R a b na ∧ SDs R L' M' nb ∧ k = nb + na := by
  have hl := h.len
  have hL : L ≠ [] := fun z => by
    subst z
    cases M with
    | nil => exact hn rfl
    | cons _ _ => simp at hl
  have e := List.dropLast_concat_getLast hL
  rw [← e] at h
  obtain ⟨ys, zs, a, b, e1, h1, h2, e2⟩ := SDs.split h
  cases zs with
  | nil => exact h2.elim
  | cons z zs =>
    obtain ⟨n1, n2, r, t, e3⟩ := h2
    cases zs with
    | nil =>
      have e4 : n2 = 0 := t
      exact ⟨L.dropLast, ys, _, z, n1, a, e.symm, e1, r, h1, by omega⟩
    | cons _ _ => exact t.elim
theorem SD.pos : ∀ {d : Nat} {H : Hp} {x y : V} {n : Nat}, SD d H x y n → 0 < n
  | 0, _, _, _, _, ⟨_, e⟩ => by omega
  | d + 1, _, _, _, _, .inl h => SD.pos h
  | d + 1, _, _, _, _, .inr ⟨_, _, _, _, _, _, _, _, _, e⟩ => by omega
theorem SD.same : ∀ {d : Nat} {H H' : Hp} {x y : V} {n : Nat}, SD d H x y n → Same H H' → SD d H' x y n
  | 0, _, _, _, _, _, h, _ => h
  | d + 1, _, _, _, _, _, .inl h, s => .inl (SD.same h s)
  | d + 1, _, _, _, _, _, .inr ⟨a, b, xs, ys, m, e1, e2, hc, hs, e⟩, s =>
    .inr ⟨a, b, xs, ys, m, e1, e2, hc.imp (fun ⟨p, q⟩ => ⟨s _ _ p, s _ _ q⟩) (fun ⟨p, q⟩ => ⟨s _ _ p, s _ _ q⟩), hs.mono fun _ _ _ z => SD.same z s, e⟩
theorem SD.cases : ∀ {d : Nat} {H : Hp} {x y : V} {n : Nat}, SD d H x y n → Flat2 x y ∨ ∃ a b xs ys m, x = .ref a ∧ y = .ref b ∧ ((H a = some (.lst xs) ∧ H b = some (.lst ys)) ∨ (H a = some (.tup xs) ∧ H b = some (.tup ys))) ∧ SDs (SD d H) xs ys m ∧ n = m + 1
  | 0, _, _, _, _, ⟨f, _⟩ => .inl f
  | d + 1, _, _, _, _, .inl h => (SD.cases h).imp id fun ⟨a, b, xs, ys, m, e1, e2, hc, hs, e⟩ => ⟨a, b, xs, ys, m, e1, e2, hc, hs.mono fun _ _ _ z => .inl z, e⟩
  | d + 1, _, _, _, _, .inr ⟨a, b, xs, ys, m, e1, e2, hc, hs, e⟩ => .inr ⟨a, b, xs, ys, m, e1, e2, hc, hs.mono fun _ _ _ z => .inl z, e⟩
/-- flat lists that are the same -/
theorem SDs.flat {H : Hp} : ∀ {xs : List V}, (∀ x ∈ xs, Flat2 x x) → SDs (SD 0 H) xs xs xs.length
  | [], _ => rfl
  | x :: xs, h => ⟨1, xs.length, ⟨h x List.mem_cons_self, rfl⟩, SDs.flat fun y hy => h y (List.mem_cons_of_mem _ hy), by rw [List.length_cons]; omega⟩
theorem vN_rev (ns : List Nat) : (vN ns).reverse = vN ns.reverse := by unfold vN; rw [List.map_reverse]
theorem vT_flat (ps : List Nat) : ∀ x ∈ vT ps, Flat2 x x := by
  intro x hx
  rcases List.mem_cons.mp hx with rfl | hx
  · exact .inl ⟨rfl, rfl⟩
  · obtain ⟨n, _, rfl⟩ := List.mem_map.mp hx
    exact .inr (.inl ⟨_, rfl, rfl⟩)
structure Blt2 (mg : Str → Option Value) : Prop where
  rev : mg "reversed" = none
  tup : mg "tuple" = none
  str : mg "str" = none
/-- a new tuple of two new lists at p -/
structure NewWay (H H' : Hp) (p l r : Addr) (xs ys : List V) : Prop where
  sm : Same H H'
  np : H p = none
  tp : H' p = some (.tup [.ref l, .ref r])
  nl : H l = none
  ll : H' l = some (.lst xs)
  nr : H r = none
  lr : H' r = some (.lst ys)
def spWay (K : PySem.W.Frag) : Sp := fun vs H Q _ => ∃ a ps, ∃ m n : Nat, vs = [.ref a, .int m, .int n] ∧ TreeAt K H a ps ∧ m ≤ ps.length ∧ n ≤ ps.length ∧
  ∀ p l r H', NewWay H H' p l r (vN (bel ps (meet ps m n) m)) (vN (bel ps (meet ps m n) n).reverse) → Q (.ref p) H'
def spWholes : Sp := fun vs H Q _ => ∃ a ns, vs = [.ref a] ∧ H a = some (.lst (vN ns)) ∧ Q (.bl true) H
def spStays : Sp := fun vs H Q _ => ∃ x y d m, vs = [x, y] ∧ SD d H x y m ∧ m ≤ 1000000 ∧ ∀ H', Same H H' → Q (.bl true) H'
end Bw
set_option Elab.async false
set_option linter.all false
set_option maxRecDepth 100000
set_option maxHeartbeats 4000000
namespace Bw
open PySem L2
open PyProof.Rows (AllBare)
open PySem.W (Looks)
/-! ### an exception of an own class, in flight through defs -/
/-- behind a call that ended so: ea is the exception, C its class; what is tracked, and what was there and is no caller's frame, stands in B, which stays -/
structure Fly (P : Program) (w : World) (outer : List Env) (H : Hp) (s : Shared) (ea C t : Addr) (H' : Hp) (B : Heap) (s' : Shared) : Prop where
  os : s'.os = s.os
  bare : AllBare s'.gens
  un : Un (frs outer) [] H H' s.heap s'.heap
  hok : HOk P w H' s'.heap
  fl : Heap.FlyingW B outer ea (.ref C) (.ref t) s'.heap
  trk : ∀ b o, H' b = some o → ∃ ob, B.get? b = some ob
  kb : ∀ b o, s.heap.get? b = some o → H b = none → b ∉ frs outer → B.get? b = some o
  th : ∀ b o, s.heap.get? b = some o → b ∉ frs outer → ∃ o', B.get? b = some o'
def CXF (P : Program) (w : World) : CXT := fun outer H s E e s' => ∃ ea C t H' B, e = .ref ea ∧ Fly P w outer H s ea C t H' B s' ∧ E (.ref C) none H'
theorem hok_stay {P : Program} {w : World} {H : Hp} {B h h' : Heap} (x : HOk P w H h) (trk : ∀ b o, H b = some o → ∃ ob, B.get? b = some ob) (k : B.StaysIn h) (k' : B.StaysIn h') : HOk P w H h' := fun a o e =>
  (x a o e).stay (fun b u hb q => by
    have hb' : ∃ o, H b = some o := by
      rcases hb with z | z
      · exact ⟨o, by rw [z]; exact e⟩
      · exact ⟨_, z⟩
    obtain ⟨o', ho'⟩ := hb'
    obtain ⟨ob, hob⟩ := trk b o' ho'
    have e1 := k b ob hob
    rw [q] at e1
    cases e1
    exact k' b u hob) (fun _ q => q) fun _ _ q => q
theorem obj_of {P : Program} {w : World} {H : Hp} {h : Heap} {a : Addr} {o : HO} (x : ObjOk P w H h a o) : ∃ ob, h.get? a = some ob := by
  cases o with
  | lst xs => obtain ⟨_, _, _, _, e⟩ := x; exact ⟨_, e⟩
  | tup xs => obtain ⟨_, _, _, ob, e, _⟩ := x; exact ⟨_, e⟩
  | dK kvs => obtain ⟨_, _, _, _, o, _, _, e, _⟩ := x; exact ⟨_, e⟩
  | dT kvs => obtain ⟨_, _, _, _, o, _, _, e, _⟩ := x; exact ⟨_, e⟩
  | set S n => obtain ⟨o, _, _, _, e, _⟩ := x; exact ⟨_, e⟩
  | ins C dx fs => obtain ⟨_, _, _, e, _⟩ := x; exact ⟨_, e⟩
  | own y => exact x
  | xd fs => obtain ⟨_, ⟨_, _, _, e, _⟩, _⟩ := x; exact ⟨_, e⟩
  | rng lo hi => obtain ⟨_, _, _, e⟩ := x; exact ⟨_, e⟩
  | frz ob u => obtain ⟨e, _⟩ := x; exact ⟨_, e⟩
  | tbl ps => exact ⟨_, show h.get? a = some _ from x⟩
  | met f y => exact ⟨_, show h.get? a = some _ from x⟩
  | ext φ => obtain ⟨_, ⟨_, e⟩, _⟩ := x; exact ⟨_, e⟩
/-- the frames of a def's body -/
structure Own (X : Cx) : Prop where
  st : X.stack = X.env :: X.outer
  fr : X.env.frame = some X.env.locals
  ex : X.ex = []
section
variable {X : Cx} {pins : List (Addr × Obj)} {σ : St} {H H' : Hp} {s s' : Shared} {E E' : XK} {ea C t : Addr} {B : Heap}
theorem Own.nfr (O : Own X) (I : Inv X pins σ H s) {b : Addr} {o : Obj} (e : X.s₀.heap.get? b = some o) (h : b ∉ X.fs) : b ∉ frs X.stack := fun hb => by
  rw [O.st] at hb
  have hb' : b ∈ X.env.locals :: X.fs := by
    have : frs (X.env :: X.outer) = X.env.locals :: frs X.outer := by
      show List.filterMap _ (X.env :: X.outer) = _
      rw [List.filterMap_cons, O.fr]
      rfl
    rw [this] at hb
    exact hb
  rcases List.mem_cons.mp hb' with z | z
  · rw [z] at e
    exact absurd (Nat.lt_of_lt_of_le (Heap.lt_size e) I.ok.above) (Nat.lt_irrefl _)
  · exact h z
theorem Own.sub (O : Own X) {b : Addr} (h : b ∈ X.fs) : b ∈ frs X.stack := by
  rw [O.st]
  show b ∈ List.filterMap _ (X.env :: X.outer)
  rw [List.filterMap_cons, O.fr]
  exact List.mem_cons_of_mem _ h
/-- the callers' view: from the entry, over the body's own state and a heap in which B stays and frames keep all but slots -/
theorem Own.fly (O : Own X) (I : Inv X pins σ H s) {h1 h2 : Heap} (un : Un (frs X.stack) [] H H' s.heap h1) (hok : HOk X.prog X.w H' h1) (b1 : B.StaysIn h1) (b2 : B.StaysIn h2) (sm : h1.UpToSlots h2) (trk : ∀ b o, H' b = some o → ∃ ob, B.get? b = some ob)
    (kb : ∀ b o, s.heap.get? b = some o → H b = none → b ∉ frs X.stack → B.get? b = some o) (th : ∀ b o, s.heap.get? b = some o → b ∉ frs X.stack → ∃ o', B.get? b = some o')
    (hos : s'.os = s.os) (hb : AllBare s'.gens) (hh : s'.heap = h2) (fl : Heap.FlyingW B X.outer ea (.ref C) (.ref t) h2) : Fly X.prog X.w X.outer X.H₀ X.s₀ ea C t H' B s' := by
  have nx : ∀ b, b ∉ X.ex := fun b z => by rw [O.ex] at z; cases z
  have kb0 : ∀ b o, X.s₀.heap.get? b = some o → X.H₀ b = none → b ∉ X.fs → B.get? b = some o := fun b o e n hb => kb b o (I.base.keep b o e n hb (nx b)) (I.base.free b o e n (nx b)) (O.nfr I e hb)
  have th0 : ∀ b o, X.s₀.heap.get? b = some o → b ∉ X.fs → ∃ o', B.get? b = some o' := fun b o e hb => by
    obtain ⟨o', e'⟩ := I.base.there b o e (nx b)
    exact th b o' e' (O.nfr I e hb)
  have sl : ∀ b o, X.s₀.heap.get? b = some o → X.H₀ b = none → b ∈ X.fs → ∃ sl, h2.get? b = some { o with slots := sl } := fun b o e n hb => by
    obtain ⟨sl1, e1⟩ := I.base.slot b o e n hb (nx b)
    obtain ⟨sl2, e2⟩ := un.slot b _ e1 (I.base.free b o e n (nx b)) (O.sub hb) (by simp)
    have hd : ∀ vs, o.data ≠ .fields vs := by
      obtain ⟨_, o', ho', hd⟩ := I.ok.funs.mem hb
      rw [e] at ho'
      cases ho'
      exact hd
    obtain ⟨sl3, e3⟩ := sm b _ e2 hd
    exact ⟨sl3, e3⟩
  refine ⟨hos.trans I.os, hb, ?_, ?_, ?_, trk, kb0, th0⟩
  · rw [hh]
    refine ⟨fun b o e n hb _ => b2 b o (kb0 b o e n hb), fun b o e n hb _ => sl b o e n hb, fun b o e n _ => ?_, fun b o e _ => ?_, fun b xs q => un.tups b xs (I.base.tups b xs q), fun b o u q => un.frzs b o u (I.base.frzs b o u q), fun b ps q => ?_⟩
    · obtain ⟨o', e'⟩ := I.base.there b o e (nx b)
      exact un.free b o' e' (I.base.free b o e n (nx b)) (by simp)
    · by_cases hb : b ∈ X.fs
      · obtain ⟨sl', e'⟩ := sl b o e (I.ok.frf b hb) hb
        exact ⟨_, e'⟩
      · obtain ⟨o', e'⟩ := th0 b o e hb
        exact ⟨o', b2 b o' e'⟩
    · obtain ⟨m1, e1⟩ := I.base.tbls b ps q
      obtain ⟨m2, e2⟩ := un.tbls b _ e1
      exact ⟨m1 ++ m2, by rw [e2, Array.append_assoc]⟩
  · rw [hh]
    exact hok_stay hok trk b1 b2
  · rw [hh]
    exact fl
/-- raised here: it leaves the body -/
theorem raise_out (O : Own X) (I : Inv X pins σ H s) {h' : Heap} {args : List Value} {Q' : Value → Shared → Prop} (hx : Heap.MadeExcOf s.heap h' ea (.ref C) args) (q : E (.ref C) none H) :
    wpAny (model X.prog X.w) X.A (leaving X.env (.ref ea)) (fun _ s'' => CXF X.prog X.w X.outer X.H₀ X.s₀ E (.ref ea) s'') Q' { s with heap := h' } := by
  have hin : ∀ env ∈ X.stack, ∀ b, env.frame = some b → b ∈ frs X.stack := fun env he b hb => List.mem_filterMap.mpr ⟨env, he, hb⟩
  have hB : ∀ b o, s.heap.get? b = some o → b ∉ frs X.stack → (PySem.W.hideAll s.heap (frs X.stack)).get? b = some o := fun b o e hb => PySem.W.hideAll_get _ e hb
  have stB : (PySem.W.hideAll s.heap (frs X.stack)).StaysIn s.heap := fun b o e => PySem.W.of_hideAll _ e
  have ff : s.heap.FunFrames (PySem.W.hideAll s.heap (frs X.stack)) (X.env :: X.outer) := by
    have z := PySem.W.funFrames_hide I.stack hin
    rw [O.st] at z ⊢
    exact z
  have trk : ∀ b o, H b = some o → ∃ ob, (PySem.W.hideAll s.heap (frs X.stack)).get? b = some ob := fun b o e => by
    obtain ⟨ob, hob⟩ := obj_of (I.hok b o e)
    exact ⟨ob, hB b ob hob fun hb => by rw [I.stkFree b hb] at e; cases e⟩
  refine wpAny_leaves_madeW (s := { s with heap := h' }) (base := PySem.W.hideAll s.heap (frs X.stack)) (by rw [I.ok.frames, O.st]) O.fr stB ff hx fun h'' t fl _ _ sm => ?_
  refine ⟨ea, C, t, H, _, rfl, O.fly I (h1 := s.heap) (h2 := h'') Un.refl I.hok stB fl.1 ((Heap.UpToSlots.of_keeps hx.keeps).trans sm) trk (fun b o e _ hb => hB b o e hb) (fun b o e hb => ⟨o, hB b o e hb⟩) rfl I.bare rfl fl, q⟩
/-- raised by a callee: it leaves the body -/
theorem pass_out (O : Own X) (I : Inv X pins σ H s) {e : Value} {Q' : Value → Shared → Prop} (x : CXF X.prog X.w X.stack H s E' e s') (hE : ∀ c d H', E' c d H' → E c d H') :
    wpAny (model X.prog X.w) X.A (leaving X.env e) (fun _ s'' => CXF X.prog X.w X.outer X.H₀ X.s₀ E e s'') Q' s' := by
  obtain ⟨ea, C, t, H', B, rfl, f, q⟩ := x
  have fl := f.fl
  rw [O.st] at fl
  refine wpAny_leaves_onW (by rw [I.ok.frames, O.st]) O.fr fl fun h'' fl2 sm => ?_
  exact ⟨ea, C, t, H', B, rfl, O.fly I f.un f.hok f.fl.1 fl2.1 sm f.trk f.kb f.th f.os f.bare rfl fl2, hE _ _ _ q⟩
/-- .. and the body's own state stands again -/
theorem landed (O : Own X) (I : Inv X pins σ H s) (f : Fly X.prog X.w X.stack H s ea C t H' B s') {h3 : Heap} (b3 : B.StaysIn h3) (sm : s'.heap.UpToSlots h3) : Inv X pins σ H' { s' with heap := h3 } := by
  have sl : ∀ b o, s.heap.get? b = some o → H b = none → b ∈ frs X.stack → ∃ sl, h3.get? b = some { o with slots := sl } := fun b o e n hb => by
    obtain ⟨sl2, e2⟩ := f.un.slot b o e n hb (by simp)
    have hd : ∀ vs, o.data ≠ .fields vs := by
      obtain ⟨_, o', ho', hd⟩ := I.stack.mem hb
      rw [e] at ho'
      cases ho'
      exact hd
    obtain ⟨sl3, e3⟩ := sm b _ e2 hd
    exact ⟨sl3, e3⟩
  refine I.call' (s' := { s' with heap := h3 }) (ch := []) f.os ⟨fun b o e n hb _ => b3 b o (f.kb b o e n hb), fun b o e n hb _ => sl b o e n hb, f.un.free, fun b o e _ => ?_, f.un.tups, f.un.frzs, f.un.tbls⟩ (hok_stay f.hok f.trk f.fl.1 b3) f.bare fun b z => nomatch z
  by_cases hb : b ∈ frs X.stack
  · obtain ⟨sl', e'⟩ := sl b o e (I.stkFree b hb) hb
    exact ⟨_, e'⟩
  · obtain ⟨o', e'⟩ := f.th b o e hb
    exact ⟨o', b3 b o' e'⟩
/-- raised by a callee, looked at here -/
theorem look_on (O : Own X) (I : Inv X pins σ H s) {hs : List ExceptHandler} {Q : Flow → Shared → Prop} {Ex : Value → Shared → Prop} (f : Fly X.prog X.w X.stack H s ea C t H' B s')
    (k : ∀ h3, s'.heap.UpToSlots h3 → Inv X pins σ H' { s' with heap := h3 } → Heap.FlyingW B X.stack ea (.ref C) (.ref t) h3 → wpAny (model X.prog X.w) X.A (handleBy (.ref ea) X.env hs) Q Ex { s' with heap := h3 }) :
    wpAny (model X.prog X.w) X.A (noteFrame (.ref ea) X.env) (fun _ s₂ => wpAny (model X.prog X.w) X.A (setFlight (.ref ea) none) (fun _ s₃ => wpAny (model X.prog X.w) X.A (handleBy (.ref ea) X.env hs) Q Ex s₃) Ex s₂) Ex s' := by
  have fl := f.fl
  rw [O.st] at fl
  refine wpAny_looks_onW (by rw [I.ok.frames, O.st]) O.fr fl fun h2 held sm2 => ?_
  refine wpAny_landsW held fun h3 fl3 sm3 => ?_
  refine k h3 (sm2.trans sm3) ?_ (by rw [O.st]; exact fl3)
  exact landed O I f fl3.1 (sm2.trans sm3)
end
/-! ### the suite of an except -/
abbrev suiteC (X : Cx) (ea : Addr) : Cx := { X with A := X.A.mark (some (.ref ea)), calm := false, xe := fun _ _ => False }
/-- the body of a try: its pins are borne by every state, its exceptions go to the clauses -/
abbrev tryC (X : Cx) (pins : List (Addr × Obj)) (Ex : Value → Shared → Prop) : Cx := { X with pn := X.pn ++ pins, xe := Ex }
section
variable {X : Cx} {pins : List (Addr × Obj)} {σ : St} {H H' : Hp} {s s' : Shared} {E E' : XK} {ea C D t : Addr} {B : Heap} {x : Str}
theorem Inv.toSuite (I : Inv X pins σ H s) (ea : Addr) : Inv (suiteC X ea) pins σ H s :=
  ⟨⟨I.ok.mod, I.ok.kind, I.ok.glob, I.ok.blt, I.ok.above, I.ok.inj, I.ok.has, I.ok.cab, (fun z => nomatch z), I.ok.frames, I.ok.stk, I.ok.exf, I.ok.bs, I.ok.bsz, I.ok.noex, I.ok.exfs, I.ok.funs, I.ok.frf⟩, I.os, I.bare, I.base, I.loc, I.cell, I.free, I.freeC, I.pin, I.hok, I.len⟩
theorem Inv.ofSuite (ok : X.Ok) (I : Inv (suiteC X ea) pins σ H s) : Inv X pins σ H s := ⟨ok, I.os, I.bare, I.base, I.loc, I.cell, I.free, I.freeC, I.pin, I.hok, I.len⟩
theorem SP.ofSuite (ok : X.Ok) {Dn : Ends} {f : Flow} (h : SP (suiteC X ea) pins Dn f s') : SP X pins Dn f s' := by
  cases f with
  | next => obtain ⟨σ', H', I, q⟩ := h; exact ⟨σ', H', Inv.ofSuite ok I, q⟩
  | brk => obtain ⟨σ', H', I, q⟩ := h; exact ⟨σ', H', Inv.ofSuite ok I, q⟩
  | cont => obtain ⟨σ', H', I, q⟩ := h; exact ⟨σ', H', Inv.ofSuite ok I, q⟩
  | ret u => obtain ⟨v, σ', H', I, r, q⟩ := h; exact ⟨v, σ', H', Inv.ofSuite ok I, r, q⟩
theorem Inv.toTry (I : Inv X pins σ H s) (Ex : Value → Shared → Prop) : Inv (tryC X pins Ex) [] σ H s :=
  ⟨⟨I.ok.mod, I.ok.kind, I.ok.glob, I.ok.blt, I.ok.above, I.ok.inj, I.ok.has, I.ok.cab, I.ok.hd, I.ok.frames, I.ok.stk, I.ok.exf, I.ok.bs, I.ok.bsz, I.ok.noex, I.ok.exfs, I.ok.funs, I.ok.frf⟩, I.os, I.bare, I.base, I.loc, I.cell, I.free, I.freeC,
    fun p hp => I.pin p (by simpa using hp), I.hok, I.len⟩
theorem Inv.ofTry (ok : X.Ok) {Ex : Value → Shared → Prop} {pins' : List (Addr × Obj)} (I : Inv (tryC X pins Ex) pins' σ H s) : Inv X pins σ H s :=
  ⟨ok, I.os, I.bare, I.base, I.loc, I.cell, I.free, I.freeC, fun p hp => I.pin p (List.mem_append_left _ hp), I.hok, I.len⟩
theorem SP.ofTry (ok : X.Ok) {Ex : Value → Shared → Prop} {Dn : Ends} {f : Flow} (h : SP (tryC X pins Ex) [] Dn f s') : SP X pins Dn f s' := by
  cases f with
  | next => obtain ⟨σ', H', I, q⟩ := h; exact ⟨σ', H', Inv.ofTry ok I, q⟩
  | brk => obtain ⟨σ', H', I, q⟩ := h; exact ⟨σ', H', Inv.ofTry ok I, q⟩
  | cont => obtain ⟨σ', H', I, q⟩ := h; exact ⟨σ', H', Inv.ofTry ok I, q⟩
  | ret u => obtain ⟨v, σ', H', I, r, q⟩ := h; exact ⟨v, σ', H', Inv.ofTry ok I, r, q⟩
/-- the exception's class, looked at -/
theorem fly_ty {M : Model} {h : Heap} {l : List Env} (fl : Heap.FlyingW B l ea (.ref C) (.ref t) h) : Looks M h (typeOf (.ref ea)) (.ref C) := by
  obtain ⟨ob, hob, hc⟩ := fl.there
  exact hc ▸ (Looks.ld hob).andThen .now
theorem hit {np pos : Pos} {b₀ : Stmt} {suite : List Stmt} {rest : List ExceptHandler} {ts : TS} {Dn : Ends} {Ex : Value → Shared → Prop} (I : Inv X pins σ H s) (fl : Heap.FlyingW B X.stack ea (.ref C) (.ref t) s.heap) (b1 : ∀ b o, H b = some o → ∃ ob, B.get? b = some ob)
    (stay : ∀ h3, B.StaysIn h3 → s.heap.UpToSlots h3 → Inv X pins σ H { s with heap := h3 })
    (hg : Gl X x) (hm : X.mg x = some (.ref D)) (hx : PySem.W.exmOne X.K (.ref C) (.ref D) = some true) (hd : (x == ("__debug__" : Str)) = false) (hs : PSs (suiteC X ea) (b₀ :: suite) ts) (q : ts Dn σ H) :
    wpAny (model X.prog X.w) X.A (handleBy (.ref ea) X.env (.ExceptHandler (some (.Name x np)) none (b₀ :: suite) pos :: rest)) (SP X pins Dn) Ex s := by
  refine wpAny_handleBy_cons (codeAny_handlers_test ?_) (by intro q; cases q)
  refine ld_glob (X := suiteC X ea) (Inv.toSuite I ea) hg hm ?_ hd
  refine (PySem.W.exm_one I.kIn (fly_ty fl) hx).here ?_
  refine codeAny_handlers_suite ?_
  refine PyProof.Rows.lands_againW fl fun h3 fl3 sm3 => ?_
  have I3 := stay h3 fl3.1 sm3
  exact wpAny_noRaise (wpAny_mono (hs pins _ σ H Dn (Inv.toSuite I3 ea) q) (fun f s4 z => SP.ofSuite I.ok z) fun _ _ z => z)
theorem miss {np pos : Pos} {nm : Option Str} {body : List Stmt} {rest : List ExceptHandler} {Q : Flow → Shared → Prop} {Ex : Value → Shared → Prop} (I : Inv X pins σ H s) (fl : Heap.FlyingW B X.stack ea (.ref C) (.ref t) s.heap)
    (hg : Gl X x) (hm : X.mg x = some (.ref D)) (hx : PySem.W.exmOne X.K (.ref C) (.ref D) = some false) (hd : (x == ("__debug__" : Str)) = false)
    (k : wpAny (model X.prog X.w) X.A (handleBy (.ref ea) X.env rest) Q Ex s) :
    wpAny (model X.prog X.w) X.A (handleBy (.ref ea) X.env (.ExceptHandler (some (.Name x np)) nm body pos :: rest)) Q Ex s := by
  refine wpAny_handleBy_cons (codeAny_handlers_test ?_) (by intro q; cases q)
  refine ld_glob (X := suiteC X ea) (Inv.toSuite I ea) hg hm ?_ hd
  exact (PySem.W.exm_one I.kIn (fly_ty fl) hx).here k
end
/-! ### calls that may raise -/
def PassesAt (CX : CXT) (X : Cx) (E : XK) (σ : St) : Prop := ∀ (pins : List (Addr × Obj)) (H : Hp) (s : Shared) (e : Value) (s' : Shared), Inv X pins σ H s → CX X.stack H s E e s' → X.xe e s'
def tCallAt (σ0 : St) (sp : Sp) (E : XK) (t : TA) : TE := fun σ H Q => σ = σ0 ∧ t σ H fun vs H1 => sp vs H1 Q E
section
variable {X : Cx} {CX : CXT} {k : Nat} {f : Addr} {fd : FuncData} {ps : List Str} {sp : Sp} {E : XK} {x : Str} {p pos : Pos} {e : Expr} {es : List Expr} {t : TA} {σ0 : St}
theorem run_fnAt {pins : List (Addr × Obj)} {σ : St} {H : Hp} {s : Shared} {Q : VK} {us : List Value} {vs : List V} (F : FnOk X.prog X.w X.K X.mg X.base CX k f fd ps sp) (hr : Room k X.A) (hb : Binds X.K fd ps []) (hx : PassesAt CX X E σ)
    (I : Inv X pins σ H s) (r : Vals vs us) (h : sp vs H Q E) : wpAny (model X.prog X.w) X.A (call (.ref f) us) (EP X pins σ Q) X.xe s := by
  have hl : us.length = ps.length := by rw [← r.length]; exact F.len _ _ _ _ h
  have hb' := hb s us I.kIn (by rw [List.append_nil]; exact hl)
  rw [List.append_nil] at hb'
  refine wpAny_call (codeAny_mono (F.run X.A X.stack s H ⟨us, []⟩ us vs Q E hr I.env0 hb' r h) fun r s' hq => ?_)
  cases r with
  | error e => exact hx pins H s e s' I hq
  | ok fl =>
    cases fl with
    | ret u => exact I.after hq
    | next => exact False.elim hq
    | brk => exact False.elim hq
    | cont => exact False.elim hq
theorem pe_callAt (F : FnOk X.prog X.w X.K X.mg X.base CX k f fd ps sp) (hr : Room k X.A) (hg : Gl X x) (hm : X.mg x = some (.ref f)) (hk : PySem.W.keepIn X.K (.ref f) = true) (hb : Binds X.K fd ps []) (hx : PassesAt CX X E σ0)
    (ha : PA X (e :: es) t) (hdb : (x == ("__debug__" : Str)) = false := by decide) (he : starEach (e :: es) X.env = (false, eval e X.env) :: starEach es X.env := by rfl) (hpl : (backTo pos (starEach es X.env)).any (·.1) = false := by rfl) :
    PE X (.Call (.Name x p) (e :: es) [] pos) (tCallAt σ0 sp E t) := by
  intro pins s σ H Q I h
  obtain ⟨rfl, h⟩ := h
  refine wpAny_Call_Name_kw (ld_glob I hg hm ?_ hdb)
  refine PySem.W.callWith_K (h₀ := X.base) I.ok.mod.kin hk (thn (ha pos pins s σ H _ I h) fun us s1 ⟨vs, H1, I1, r, q⟩ => ⟨I1.kIn, ?_⟩) he hpl
  exact run_fnAt F hr hb hx I1 r q
end
/-! ### a def that may raise -/
/-- what the top has made of an own class of errors -/
structure ExcC (K : PySem.W.Frag) (mg : Str → Option Value) (x : Str) (C : Addr) : Prop where
  mx : mg x = some (.ref C)
  ok : PySem.W.excIn K C [.type "ValueError", .type "Exception", .type "BaseException", .type "object"] "ValueError.__new__" = true
theorem own_obj {K : PySem.W.Frag} {h : Heap} {C : Addr} {bmB : List Value} {newId : String} (X : K.In h) (q : PySem.W.excIn K C bmB newId = true) :
    ∃ (bm : List Value) (Nc : Addr) (cn cq : Str) (bs : List Value) (hdc : Bool) (sn : List Str) (sb : List Value) (ab : Bool) (cl : Option Bool) (dd : Option Addr) (k0 k1 k2 k3 k5 : Option Value) (mN : Str → Option Value),
      h.get? C = some (excClassObj cn cq C Nc bs bm hdc sn sb ab cl dd k0 k1 k2 k3 k5 newId) ∧ h.Ns Nc mN ∧ mN "__init__" = none ∧ OwnTail h bmB bm := by
  unfold PySem.W.excIn at q
  split at q
  case h_1 dd cd sl look =>
    split at q
    case h_1 C' bm k0 k1 k2 k3 n k5 e1 e2 =>
      simp only [Bool.and_eq_true, beq_iff_eq, Bool.not_eq_true'] at q
      obtain ⟨⟨⟨⟨⟨q1, q2⟩, q3⟩, q4⟩, q5⟩, q6⟩ := q
      subst q1 q2
      obtain ⟨cn, bs, mro, Nc, cq, hdc, sn, sb, ab, cl, del⟩ := cd
      dsimp only at e1 q3 q5 q6
      subst e1 q3
      have e3 : sl = #[k0, k1, k2, k3, some (.builtin n), k5] := Array.toList_inj.mp e2
      subst e3
      exact ⟨bm, Nc, cn, cq, bs, hdc, sn, sb, ab, cl, dd, k0, k1, k2, k3, k5, _, X _ _ look, .of_isNs (PySem.W.isNs_of_in X q5), PySem.W.nsMap_none_of_in X q5 q6, PySem.W.tail_of_in X q4⟩
    case h_2 => cases q
  case h_2 => cases q
section
variable {P : Program} {w : World} {K : PySem.W.Frag} {mg : Str → Option Value} {base : Heap}
theorem funOkF {x qual : Str} {st : Stmt} {f : Addr} {fd : FuncData} {N ps : List Str} {k : Nat} {sp : Sp} (F : Fun K x qual st f fd) (S : FnScope N ps (defScope st)) (len : ∀ vs H Q E, sp vs H Q E → vs.length = ps.length)
    (hbody : ∀ (cdv : Value) (A : Around) (outer : List Env) (s : Shared) (H : Hp) (vs : List V) (Q : VK) (E : XK), Room k (A.deeper (PyProof.Rows.envOfC qual (defScope st) s.heap.objs.size f cdv)) → sp vs H Q E →
      ∃ t, PSs (cxOf (CXF P w) P w K mg base N qual (defScope st) f cdv A outer s H E) (defBody st) t ∧ t { nx := fun _ H' => Q .non H', rt := Q } (start N vs) H) : FnOk P w K mg base (CXF P w) (k + 1) f fd ps sp := by
  obtain ⟨oc, od, kV, doc, pm, an, cdv, ct, osl, rfl, lk, hcd⟩ := F.ex
  exact fn_of lk hcd S len fun A outer s H vs Q E hr hsp => hbody cdv A outer s H vs Q E hr hsp
theorem ownOf {N : List Str} {qual : Str} {scope : Scope} {f : Addr} {cd : Value} {A : Around} {outer : List Env} {s : Shared} {H : Hp} {E : XK} {CX : CXT} : Own (cxOf CX P w K mg base N qual scope f cd A outer s H E) := ⟨rfl, rfl, rfl⟩
theorem passF {N : List Str} {qual : Str} {scope : Scope} {f : Addr} {cd : Value} {A : Around} {outer : List Env} {s : Shared} {H : Hp} {E E' : XK} (hE : ∀ c d H', E' c d H' → E c d H') :
    Passes (CXF P w) (cxOf (CXF P w) P w K mg base N qual scope f cd A outer s H E) E' := fun pins σ H1 s1 e s' I x => pass_out (X := cxOf (CXF P w) P w K mg base N qual scope f cd A outer s H E) ownOf I x hE
theorem ownPass {N : List Str} {qual : Str} {scope : Scope} {f : Addr} {cd : Value} {A : Around} {outer : List Env} {s : Shared} {H : Hp} {E : XK} {X : Cx} (hX : X = cxOf (CXF P w) P w K mg base N qual scope f cd A outer s H E) : PassesOwn (model X.prog X.w) X.A X.env X.xe := by
  subst hX
  exact PassesOwn.leaving
def tRaise (E : XK) (C : Addr) : TS := fun _ _ H => E (.ref C) none H
/-- raise X('words') -/
theorem ps_raise {N : List Str} {qual : Str} {scope : Scope} {f C : Addr} {cd : Value} {A : Around} {outer : List Env} {s : Shared} {H : Hp} {E : XK} {x m : Str} {j : Nat} {np cp cpos pos : Pos} (hc : ExcC K mg x C)
    (hg : Gl (cxOf (CXF P w) P w K mg base N qual scope f cd A outer s H E) x) (hd : (x == ("__debug__" : Str)) = false := by decide) (hh : A.handled = none) :
    PS (cxOf (CXF P w) P w K mg base N qual scope f cd A outer s H E) (.Raise (some (.Call (.Name x np) [.Constant (.str m) j cp] [] cpos)) none pos) (tRaise E C) := by
  intro pins s1 σ H1 D I q
  obtain ⟨bm, Nc, cn, cq, bs, hdc, sn, sb, ab, cl, dd, k0, k1, k2, k3, k5, mN, gC, gN, gi, gt⟩ := own_obj I.kIn hc.ok
  refine wpAny_Raise_call_subT (C := C) (nm := cn) (q := cq) (N := Nc) (bs := bs) (bm := bm) (hdct := hdc) (sn := sn) (sub := sb) (ab := ab) (col := cl) (dd := dd) (k0 := k0) (k1 := k1) (k2 := k2) (k3 := k3) (k5 := k5) PySem.F.excBase_ValueError (mN := mN)
    (gt.hasType (by decide)) hh rfl gi (ld_glob I hg hc.mx ⟨rfl, ?_⟩ hd)
  refine Calls.evalArgs_plain ?_
  show wpAny _ _ (spliced ((false, eval (.Constant (.str m) j cp) (cxOf (CXF P w) P w K mg base N qual scope f cd A outer s H E).env) :: backTo cpos (starEach [] (cxOf (CXF P w) P w K mg base N qual scope f cd A outer s H E).env))) _ _ s1
  refine Calls.spliced_cons (Calls.Constant_str (k := j) (pos := cp) (Calls.spliced_nil ?_))
  refine ⟨rfl, (by show 1 ≤ sizeLine; decide), gC, gN, gt, fun h' e hm => ?_⟩
  exact raise_out (X := cxOf (CXF P w) P w K mg base N qual scope f cd A outer s H E) (E := E) ownOf (I.tok _) hm q
end
/-! ### try .. except -/
/-- what the clauses make of an exception: one clause, two clauses; none of them names it -/
def tTry1 (K : PySem.W.Frag) (D1 : Addr) (tb : St → XK → TS) (ts1 : TS) : TS := fun D σ H => tb σ (fun c _ H' => ∃ C, c = .ref C ∧ PySem.W.exmOne K (.ref C) (.ref D1) = some true ∧ ts1 D σ H') D σ H
def tTry2 (K : PySem.W.Frag) (D1 D2 : Addr) (tb : St → XK → TS) (ts1 ts2 : TS) : TS := fun D σ H => tb σ (fun c _ H' => ∃ C, c = .ref C ∧ ((PySem.W.exmOne K (.ref C) (.ref D1) = some true ∧ ts1 D σ H') ∨
  (PySem.W.exmOne K (.ref C) (.ref D1) = some false ∧ PySem.W.exmOne K (.ref C) (.ref D2) = some true ∧ ts2 D σ H'))) D σ H
section
variable {X : Cx} {body : List Stmt} {tb : St → XK → TS} {ts1 ts2 : TS} {x1 x2 : Str} {D1 D2 : Addr} {np1 np2 pos1 pos2 pos : Pos} {b1 b2 : Stmt} {su1 su2 : List Stmt}
theorem stay_of {pins : List (Addr × Obj)} {σ : St} {H H' : Hp} {s s' : Shared} {ea C t : Addr} {B h3 : Heap} (O : Own X) (I : Inv X pins σ H s) (f : Fly X.prog X.w X.stack H s ea C t H' B s') (sm : s'.heap.UpToSlots h3) :
    ∀ h4, B.StaysIn h4 → h3.UpToSlots h4 → Inv X pins σ H' { s' with heap := h4 } := fun h4 b4 sm4 => landed O I f b4 (sm.trans sm4)
theorem ps_try1 (O : Own X) (hb : ∀ (σ0 : St) (E' : XK) (pins : List (Addr × Obj)) (Ex : Value → Shared → Prop), PassesAt (CXF X.prog X.w) (tryC X pins Ex) E' σ0 → PSs (tryC X pins Ex) body (tb σ0 E'))
    (hg1 : Gl X x1) (hm1 : X.mg x1 = some (.ref D1)) (hs1 : ∀ ea, PSs (suiteC X ea) (b1 :: su1) ts1) (hd1 : (x1 == ("__debug__" : Str)) = false := by decide) :
    PS X (.Try body [.ExceptHandler (some (.Name x1 np1)) none (b1 :: su1) pos1] [] [] pos) (tTry1 X.K D1 tb ts1) := by
  intro pins s σ H D I q
  refine wpAny_Try_except ?_
  refine wpAny_mono (hb σ _ pins _ ?_ [] s σ H D (Inv.toTry I _) q) (fun f s1 z => ?_) fun _ _ z => z
  · rintro pins' H1 s1 e s2 I1 ⟨ea, C, t, H2, B, rfl, f, C', ec, hx, ht⟩
    cases ec
    have I1' : Inv X pins σ H1 s1 := Inv.ofTry I.ok I1
    show wpAny (model X.prog X.w) X.A (noteFrame (.ref ea) X.env) _ _ s2
    refine look_on O I1' f fun h3 sm3 I3 fl3 => ?_
    exact hit I3 fl3 f.trk (fun h4 b4 sm4 => stay_of (s' := s2) (h3 := h3) O I1' f sm3 h4 b4 sm4) hg1 hm1 hx hd1 (hs1 ea) ht
  · have z' := SP.ofTry I.ok z
    cases f with
    | next => exact wpAny_execs_nil z'
    | brk => exact z'
    | cont => exact z'
    | ret u => exact z'
theorem ps_try2 (O : Own X) (hb : ∀ (σ0 : St) (E' : XK) (pins : List (Addr × Obj)) (Ex : Value → Shared → Prop), PassesAt (CXF X.prog X.w) (tryC X pins Ex) E' σ0 → PSs (tryC X pins Ex) body (tb σ0 E'))
    (hg1 : Gl X x1) (hm1 : X.mg x1 = some (.ref D1)) (hs1 : ∀ ea, PSs (suiteC X ea) (b1 :: su1) ts1) (hg2 : Gl X x2) (hm2 : X.mg x2 = some (.ref D2)) (hs2 : ∀ ea, PSs (suiteC X ea) (b2 :: su2) ts2)
    (hd1 : (x1 == ("__debug__" : Str)) = false := by decide) (hd2 : (x2 == ("__debug__" : Str)) = false := by decide) :
    PS X (.Try body [.ExceptHandler (some (.Name x1 np1)) none (b1 :: su1) pos1, .ExceptHandler (some (.Name x2 np2)) none (b2 :: su2) pos2] [] [] pos) (tTry2 X.K D1 D2 tb ts1 ts2) := by
  intro pins s σ H D I q
  refine wpAny_Try_except ?_
  refine wpAny_mono (hb σ _ pins _ ?_ [] s σ H D (Inv.toTry I _) q) (fun f s1 z => ?_) fun _ _ z => z
  · rintro pins' H1 s1 e s2 I1 ⟨ea, C, t, H2, B, rfl, f, C', ec, hx⟩
    cases ec
    have I1' : Inv X pins σ H1 s1 := Inv.ofTry I.ok I1
    show wpAny (model X.prog X.w) X.A (noteFrame (.ref ea) X.env) _ _ s2
    refine look_on O I1' f fun h3 sm3 I3 fl3 => ?_
    rcases hx with ⟨hx, ht⟩ | ⟨hx, hx2, ht⟩
    · exact hit I3 fl3 f.trk (fun h4 b4 sm4 => stay_of (s' := s2) (h3 := h3) O I1' f sm3 h4 b4 sm4) hg1 hm1 hx hd1 (hs1 ea) ht
    · refine miss I3 fl3 hg1 hm1 hx hd1 ?_
      exact hit I3 fl3 f.trk (fun h4 b4 sm4 => stay_of (s' := s2) (h3 := h3) O I1' f sm3 h4 b4 sm4) hg2 hm2 hx2 hd2 (hs2 ea) ht
  · have z' := SP.ofTry I.ok z
    cases f with
    | next => exact wpAny_execs_nil z'
    | brk => exact z'
    | cont => exact z'
    | ret u => exact z'
end
end Bw
namespace Bw
/-! ### days: the tree grows, each state has the step that made it -/
theorem par_snoc {ps : List Nat} {p n : Nat} (h : n ≤ ps.length) : par (ps ++ [p]) n = par ps n := by
  unfold par
  rcases Nat.eq_zero_or_pos n with z | z
  · subst z
    omega
  · rw [List.getD_eq_getElem?_getD, List.getD_eq_getElem?_getD, List.getElem?_append_left (by omega)]
theorem up_snoc {ps : List Nat} {p : Nat} : ∀ n, n ≤ ps.length → up (ps ++ [p]) n = up ps n := by
  intro n
  induction n using Nat.strongRecOn with
  | _ n ih =>
    intro h
    rcases Nat.eq_zero_or_pos n with z | z
    · subst z
      rw [up_zero, up_zero]
    · have l := par_lt' ps z
      rw [up_pos _ z, up_pos ps z, par_snoc h, ih _ l (by omega)]
theorem par_new {ps : List Nat} {p : Nat} (h : p ≤ ps.length) : par (ps ++ [p]) (ps.length + 1) = p := by
  unfold par
  rw [show ps.length + 1 - 1 = ps.length by omega, List.getD_eq_getElem?_getD, List.getElem?_append_right (Nat.le_refl _)]
  simp
  omega
theorem up_new {ps : List Nat} {p : Nat} (h : p ≤ ps.length) : up (ps ++ [p]) (ps.length + 1) = (ps.length + 1) :: up ps p := by
  rw [up_pos _ (by omega), par_new h, up_snoc p h]
section
variable {α : Type} [DecidableEq α]
/-- what the step that made c gives the name -/
def gain (st : List (α × Int)) (name : α) (c : Nat) : Int := match st[c]? with
  | some (m, a) => if m = name then a else 0
  | none => 0
def amt (ps : List Nat) (st : List (α × Int)) (name : α) (n : Nat) : Int := ((up ps n).map (gain st name)).sum
theorem gain_snoc {st : List (α × Int)} {x : α × Int} {name : α} {c : Nat} (h : c < st.length) : gain (st ++ [x]) name c = gain st name c := by
  unfold gain
  rw [List.getElem?_append_left h]
theorem gain_new {st : List (α × Int)} {m name : α} {a : Int} : gain (st ++ [(m, a)]) name st.length = if m = name then a else 0 := by
  unfold gain
  rw [List.getElem?_append_right (Nat.le_refl _)]
  simp
theorem amt_snoc {ps : List Nat} {st : List (α × Int)} {p : Nat} {x : α × Int} {name : α} {n : Nat} (hl : st.length = ps.length + 1) (h : n ≤ ps.length) : amt (ps ++ [p]) (st ++ [x]) name n = amt ps st name n := by
  unfold amt
  rw [up_snoc n h]
  congr 1
  apply List.map_congr_left
  intro c hc
  have := up_le ps n c hc
  exact gain_snoc (by omega)
theorem amt_new {ps : List Nat} {st : List (α × Int)} {p : Nat} {m name : α} {a : Int} (hl : st.length = ps.length + 1) (h : p ≤ ps.length) :
    amt (ps ++ [p]) (st ++ [(m, a)]) name (ps.length + 1) = (if m = name then a else 0) + amt ps st name p := by
  have e := amt_snoc (p := p) (x := (m, a)) (name := name) hl h
  unfold amt at e ⊢
  rw [up_snoc p h] at e
  rw [up_new h, List.map_cons, List.sum_cons, e, ← hl, gain_new]
/-- a day's state: the parents, the steps (the state nought's gives nothing), the hand -/
structure DayS (α : Type) where
  ps : List Nat
  st : List (α × Int)
  hd : Nat
structure DayS.Ok (D : DayS α) (nil : α) : Prop where
  gd : Good D.ps
  ln : D.st.length = D.ps.length + 1
  hl : D.hd ≤ D.ps.length
  s0 : D.st[0]? = some (nil, 0)
inductive Deed (α : Type) where
  | step (n : α) (a : Int)
  | go (z : Int)
  | val (n : α)
  | com (y z : Int)
def InS (D : DayS α) (z : Int) : Prop := 0 ≤ z ∧ z ≤ D.ps.length
instance (D : DayS α) (z : Int) : Decidable (InS D z) := by unfold InS; exact inferInstance
def DayS.next (D : DayS α) : Deed α → DayS α
  | .step n a => ⟨D.ps ++ [D.hd], D.st ++ [(n, a)], D.ps.length + 1⟩
  | .go z => if InS D z then ⟨D.ps, D.st, z.toNat⟩ else D
  | .val _ => D
  | .com _ _ => D
theorem good_snoc' {ps : List Nat} (g : Good ps) {n : Nat} (h : n ≤ ps.length) : Good (ps ++ [n]) := by
  intro i p e
  by_cases hi : i < ps.length
  · rw [List.getElem?_append_left hi] at e
    exact g i p e
  · rw [List.getElem?_append_right (by omega)] at e
    by_cases z : i - ps.length = 0
    · rw [z] at e
      have : n = p := Option.some.inj e
      omega
    · rw [List.getElem?_eq_none (by simp; omega)] at e
      cases e
theorem DayS.Ok.next {D : DayS α} {nil : α} (o : D.Ok nil) (d : Deed α) : (D.next d).Ok nil := by
  cases d with
  | step n a =>
    refine ⟨good_snoc' o.gd o.hl, ?_, ?_, ?_⟩
    · show (D.st ++ [(n, a)]).length = (D.ps ++ [D.hd]).length + 1
      rw [List.length_append, List.length_append, o.ln]
      rfl
    · show D.ps.length + 1 ≤ (D.ps ++ [D.hd]).length
      rw [List.length_append]
      exact Nat.le_refl _
    · show (D.st ++ [(n, a)])[0]? = _
      rw [List.getElem?_append_left (by rw [o.ln]; omega)]
      exact o.s0
  | go z =>
    show (if InS D z then (⟨D.ps, D.st, z.toNat⟩ : DayS α) else D).Ok nil
    by_cases h : InS D z
    · rw [if_pos h]
      unfold InS at h
      exact ⟨o.gd, o.ln, (by show z.toNat ≤ D.ps.length; omega), o.s0⟩
    · rw [if_neg h]
      exact o
  | val n => exact o
  | com y z => exact o
theorem next_len (D : DayS α) (d : Deed α) : (D.next d).ps.length ≤ D.ps.length + 1 := by
  cases d with
  | step n a => show (D.ps ++ [D.hd]).length ≤ _; rw [List.length_append]; exact Nat.le_refl _
  | go z =>
    show (if InS D z then (⟨D.ps, D.st, z.toNat⟩ : DayS α) else D).ps.length ≤ _
    by_cases h : InS D z
    · rw [if_pos h]; exact Nat.le_succ _
    · rw [if_neg h]; exact Nat.le_succ _
  | val n => exact Nat.le_succ _
  | com y z => exact Nat.le_succ _
end
end Bw
set_option Elab.async false
set_option linter.all false
set_option maxRecDepth 100000
namespace L2
open PySem PySem.Spec PyProof.Rows

/-! ### lists of pairs as tables -/
section
variable {κ : Type} [DecidableEq κ]
def valV (kvs : List (κ × V)) (k : κ) : Option V := (kvs.find? fun kv => decide (kv.1 = k)).map (·.2)
/-- in its place, or at the end -/
def putK (kvs : List (κ × V)) (k : κ) (v : V) : List (κ × V) :=
  if (kvs.any fun kv => decide (kv.1 = k)) = true then kvs.map (fun kv => if kv.1 = k then (kv.1, v) else kv) else kvs ++ [(k, v)]
def dropK (kvs : List (κ × V)) (k : κ) : List (κ × V) := kvs.filter fun kv => decide (kv.1 ≠ k)

theorem valV_nil {k : κ} : valV ([] : List (κ × V)) k = none := rfl
theorem valV_pos {p : κ × V} {r : List (κ × V)} {k : κ} (e : p.1 = k) : valV (p :: r) k = some p.2 := by simp [valV, List.find?_cons, e]
theorem valV_neg {p : κ × V} {r : List (κ × V)} {k : κ} (e : ¬ p.1 = k) : valV (p :: r) k = valV r k := by simp [valV, List.find?_cons, e]
theorem valV_any (k : κ) : ∀ kvs : List (κ × V), (kvs.any fun kv => decide (kv.1 = k)) = (valV kvs k).isSome
  | [] => rfl
  | p :: r => by
    rw [List.any_cons]
    by_cases e : p.1 = k
    · simp only [valV_pos e, decide_eq_true e, Bool.true_or, Option.isSome_some]
    · rw [valV_neg e, decide_eq_false e, Bool.false_or]; exact valV_any k r
theorem valV_map (k j : κ) (y : V) : ∀ kvs : List (κ × V), valV (kvs.map fun kv => if kv.1 = k then (kv.1, y) else kv) j = (valV kvs j).map fun x => if j = k then y else x
  | [] => rfl
  | p :: r => by
    have ih := valV_map k j y r
    rw [List.map_cons]
    by_cases h : p.1 = k
    · rw [if_pos h]
      by_cases e : p.1 = j
      · rw [valV_pos (p := (p.1, y)) e, valV_pos e, Option.map_some, if_pos (e.symm.trans h)]
      · rw [valV_neg (p := (p.1, y)) e, valV_neg e, ih]
    · rw [if_neg h]
      by_cases e : p.1 = j
      · rw [valV_pos (p := p) e, valV_pos e, Option.map_some, if_neg (fun z => h (e.trans z))]
      · rw [valV_neg (p := p) e, valV_neg e, ih]
theorem valV_snoc (k j : κ) (y : V) : ∀ kvs : List (κ × V), valV kvs k = none → valV (kvs ++ [(k, y)]) j = if j = k then some y else valV kvs j
  | [], _ => by
    by_cases e : k = j
    · rw [if_pos e.symm]; exact valV_pos (p := (k, y)) e
    · rw [if_neg (fun z => e z.symm)]; exact valV_neg (p := (k, y)) e
  | p :: r, hn => by
    rw [List.cons_append]
    have hk : ¬ p.1 = k := fun z => by rw [valV_pos z] at hn; cases hn
    rw [valV_neg hk] at hn
    have ih := valV_snoc k j y r hn
    by_cases e : p.1 = j
    · rw [valV_pos e, valV_pos e, if_neg (fun z => hk (e.trans z))]
    · rw [valV_neg e, valV_neg e, ih]
theorem valV_put (kvs : List (κ × V)) (k j : κ) (y : V) : valV (putK kvs k y) j = if j = k then some y else valV kvs j := by
  unfold putK
  by_cases a : (kvs.any fun kv => decide (kv.1 = k)) = true
  · rw [if_pos a, valV_map]
    rw [valV_any] at a
    by_cases e : j = k
    · obtain ⟨x, hx⟩ := Option.isSome_iff_exists.mp a
      rw [if_pos e, e, hx, Option.map_some, if_pos rfl]
    · rw [if_neg e]
      cases valV kvs j with
      | none => rfl
      | some x => rw [Option.map_some, if_neg e]
  · rw [if_neg a]
    refine valV_snoc k j y kvs ?_
    rw [valV_any] at a
    cases q : valV kvs k with
    | none => rfl
    | some x => rw [q] at a; exact (a rfl).elim
theorem length_putK (kvs : List (κ × V)) (k : κ) (v : V) : (putK kvs k v).length ≤ kvs.length + 1 := by
  unfold putK
  split
  · rw [List.length_map]; omega
  · rw [List.length_append, List.length_cons, List.length_nil]; omega
theorem putK_new {kvs : List (κ × V)} {k : κ} (v : V) (h : valV kvs k = none) : putK kvs k v = kvs ++ [(k, v)] := by
  unfold putK
  rw [valV_any, h]
  exact if_neg (by decide)

theorem RelO.isSome_eq {o : Option V} {u : Option Value} (r : RelO o u) : o.isSome = u.isSome := by
  cases o with
  | none => cases u with
    | none => rfl
    | some _ => exact (show False from r).elim
  | some _ => cases u with
    | none => exact (show False from r).elim
    | some _ => rfl
theorem RelO.getD {o : Option V} {u : Option Value} {d : V} {d' : Value} (r : RelO o u) (rd : RelV d d') : RelV (o.getD d) (u.getD d') := by
  cases o with
  | none => cases u with
    | none => exact rd
    | some _ => exact (show False from r).elim
  | some _ => cases u with
    | none => exact (show False from r).elim
    | some _ => exact r

/-- raw tables of the same keys -/
theorem KV.val {kvs : List (κ × V)} {vs : List (κ × Value)} (r : KV kvs vs) (k : κ) : RelO (valV kvs k) (valueAt vs k) := by
  unfold KV at r
  induction r with
  | nil => exact True.intro
  | @cons p q ps qs h t ih =>
    obtain ⟨h1, h2⟩ := h
    by_cases e : p.1 = k
    · have e' : q.1 = k := h1.symm.trans e
      have b : valueAt (q :: qs) k = some q.2 := by simp [valueAt, List.find?_cons, e']
      rw [valV_pos e, b]; exact h2
    · have e' : ¬ q.1 = k := fun z => e (h1.trans z)
      have b : valueAt (q :: qs) k = valueAt qs k := by simp [valueAt, List.find?_cons, e']
      rw [valV_neg e, b]; exact ih
theorem KV.any {kvs : List (κ × V)} {vs : List (κ × Value)} (r : KV kvs vs) (k : κ) : (kvs.any fun kv => decide (kv.1 = k)) = vs.any fun kv => decide (kv.1 = k) := by
  unfold KV at r
  induction r with
  | nil => rfl
  | cons h t ih => rw [List.any_cons, List.any_cons, ih, h.1]
theorem KV.repl {kvs : List (κ × V)} {vs : List (κ × Value)} (r : KV kvs vs) (k : κ) {y : V} {u : Value} (ry : RelV y u) :
    KV (kvs.map fun kv => if kv.1 = k then (kv.1, y) else kv) (vs.map fun kv => if kv.1 = k then (kv.1, u) else kv) := by
  unfold KV at r ⊢
  induction r with
  | nil => exact .nil
  | @cons p q ps qs h t ih =>
    rw [List.map_cons, List.map_cons]
    refine .cons ?_ ih
    obtain ⟨h1, h2⟩ := h
    by_cases e : p.1 = k
    · rw [if_pos e, if_pos (h1.symm.trans e)]; exact ⟨h1, ry⟩
    · rw [if_neg e, if_neg (fun z => e (h1.trans z))]; exact ⟨h1, h2⟩
theorem KV.put {kvs : List (κ × V)} {vs : List (κ × Value)} (r : KV kvs vs) (k : κ) {y : V} {u : Value} (ry : RelV y u) : KV (putK kvs k y) (stored vs k u) := by
  unfold putK stored
  rw [r.any k]
  by_cases e : (vs.any fun kv => decide (kv.1 = k)) = true
  · rw [if_pos e, if_pos e]; exact r.repl k ry
  · rw [if_neg e, if_neg e]; exact Paired.snoc r ⟨rfl, ry⟩
theorem KV.drop {kvs : List (κ × V)} {vs : List (κ × Value)} (r : KV kvs vs) (k : κ) : KV (dropK kvs k) (without vs k) := by
  unfold KV at r ⊢
  unfold dropK without
  induction r with
  | nil => exact .nil
  | @cons p q ps qs h t ih =>
    obtain ⟨h1, h2⟩ := h
    rw [List.filter_cons, List.filter_cons]
    by_cases e : p.1 = k
    · have a : ¬ decide (p.1 ≠ k) = true := by simp [e]
      have b : ¬ decide (q.1 ≠ k) = true := by simp [h1.symm.trans e]
      rw [if_neg a, if_neg b]; exact ih
    · have e' : ¬ q.1 = k := fun z => e (h1.trans z)
      have a : decide (p.1 ≠ k) = true := by simp [e]
      have b : decide (q.1 ≠ k) = true := by simp [e']
      rw [if_pos a, if_pos b]; exact .cons ⟨h1, h2⟩ ih
theorem KV.keys {kvs : List (κ × V)} {vs : List (κ × Value)} (r : KV kvs vs) : kvs.map (·.1) = vs.map (·.1) := by
  unfold KV at r
  induction r with
  | nil => rfl
  | cons h t ih => rw [List.map_cons, List.map_cons, ih, h.1]
theorem KV.length {kvs : List (κ × V)} {vs : List (κ × Value)} (r : KV kvs vs) : kvs.length = vs.length := Paired.length r
theorem dropK_le (kvs : List (κ × V)) (k : κ) : (dropK kvs k).length ≤ kvs.length := List.length_filter_le _ _
end


/-! ### a tracked dict, its keys ints and texts or tuples of these -/
theorem kV_is {P : Program} {w : World} {k : Key} {u : Value} (r : RelV (kV k) u) : (mixKind P w).is k u = true := by
  cases k with
  | inl i => obtain ⟨t, e⟩ := (show ∃ t, u = Value.int i t from r); subst e; exact mixKind_int P w i t
  | inr x => obtain ⟨t, e⟩ := (show ∃ t, u = Value.str x t from r); subst e; exact mixKind_str P w x t
theorem kV_inj {a b : Key} (e : kV a = kV b) : a = b := by
  cases a with
  | inl i => cases b with
    | inl j => have e' : V.int i = V.int j := e; injection e' with e'; rw [e']
    | inr y => exact nomatch (show V.int i = V.str y from e)
  | inr x => cases b with
    | inl j => exact nomatch (show V.str x = V.int j from e)
    | inr y => have e' : V.str x = V.str y := e; injection e' with e'; rw [e']
theorem kVs_inj : ∀ {a b : List Key}, a.map kV = b.map kV → a = b
  | [], [], _ => rfl
  | [], _ :: _, e => by simp at e
  | _ :: _, [], e => by simp at e
  | x :: xs, y :: ys, e => by
    rw [List.map_cons, List.map_cons] at e
    injection e with e1 e2
    rw [kV_inj e1, kVs_inj e2]
theorem items_are {P : Program} {w : World} : ∀ {ks : List Key} {us : List Value}, Vals (ks.map kV) us → ItemsAre (mixKind P w) ks us
  | [], _, r => by rw [List.map_nil] at r; cases r; exact .nil
  | k :: ks, _, r => by
    rw [List.map_cons] at r
    cases r with
    | cons h t => exact .cons (kV_is h) (items_are t)

/-- raw entries of a dict with tuple keys -/
abbrev KT (H : Hp) : List (List Key × V) → List (List Key × Addr × Value) → Prop := Paired fun p q => p.1 = q.1 ∧ H q.2.1 = some (.tup (p.1.map kV)) ∧ RelV p.2 q.2.2
theorem KT.val {H : Hp} {kvs : List (List Key × V)} {xs : List (List Key × Addr × Value)} (r : KT H kvs xs) (k : List Key) : RelO (valV kvs k) ((atKey xs k).map (·.2)) := by
  induction r with
  | nil => exact True.intro
  | @cons p q ps qs h t ih =>
    obtain ⟨h1, _, h2⟩ := h
    by_cases e : p.1 = k
    · have e' : q.1 = k := h1.symm.trans e
      have b : atKey (q :: qs) k = some q.2 := by simp [atKey, List.find?_cons, e']
      rw [valV_pos e, b]; exact h2
    · have e' : ¬ q.1 = k := fun z => e (h1.trans z)
      have b : atKey (q :: qs) k = atKey qs k := by simp [atKey, List.find?_cons, e']
      rw [valV_neg e, b]; exact ih
theorem KT.repl {H : Hp} {kvs : List (List Key × V)} {xs : List (List Key × Addr × Value)} (r : KT H kvs xs) (k : List Key) {y : V} {u : Value} (ry : RelV y u) :
    KT H (kvs.map fun kv => if kv.1 = k then (kv.1, y) else kv) (xs.map (putAt k u)) := by
  induction r with
  | nil => exact .nil
  | @cons p q ps qs h t ih =>
    rw [List.map_cons, List.map_cons]
    refine .cons ?_ ih
    obtain ⟨h1, h2, h3⟩ := h
    unfold putAt
    by_cases e : p.1 = k
    · rw [if_pos e, if_pos (h1.symm.trans e)]; exact ⟨h1, h2, ry⟩
    · rw [if_neg e, if_neg (fun z => e (h1.trans z))]; exact ⟨h1, h2, h3⟩
theorem KT.put {H : Hp} {kvs : List (List Key × V)} {xs : List (List Key × Addr × Value)} (r : KT H kvs xs) (k : List Key) {b : Addr} {y : V} {u : Value} (hb : H b = some (.tup (k.map kV))) (ry : RelV y u) :
    KT H (putK kvs k y) (storedH xs k b u) := by
  have e : (kvs.any fun kv => decide (kv.1 = k)) = (atKey xs k).isSome := by
    rw [valV_any, (r.val k).isSome_eq, Option.isSome_map]
  unfold putK storedH
  rw [e]
  by_cases q : (atKey xs k).isSome = true
  · rw [if_pos q, if_pos q]; exact r.repl k ry
  · rw [if_neg q, if_neg q]; exact Paired.snoc r ⟨rfl, hb, ry⟩
theorem KT.keeps {H H' : Hp} {kvs : List (List Key × V)} {xs : List (List Key × Addr × Value)} (r : KT H kvs xs) (ht : ∀ b ys, H b = some (.tup ys) → H' b = some (.tup ys)) : KT H' kvs xs :=
  Paired.mapP r fun _ _ z => ⟨z.1, ht _ _ z.2.1, z.2.2⟩

section
variable {P : Program} {w : World} {H : Hp} {h : Heap} {a : Addr}
theorem rd_of {u : HO} (ok : HOk P w H h) (e : Rd H a u) : ObjOk P w H h a u := e.ok ok
theorem dk_rd {kvs : List (Key × V)} (ok : HOk P w H h) (e : Rd H a (.dK kvs)) : kvs.length ≤ sizeLine ∧ (a == sysModules) = false ∧ ∃ vs, KV kvs vs ∧ h.DictOf (mixKind P w) a vs :=
  show ObjOk P w H h a (.dK kvs) from rd_of ok e
theorem dk_of {kvs : List (Key × V)} (ok : HOk P w H h) (e : H a = some (.dK kvs)) : kvs.length ≤ sizeLine ∧ (a == sysModules) = false ∧ ∃ vs, KV kvs vs ∧ h.DictOf (mixKind P w) a vs := dk_rd ok (.inl e)
/-- a tracked tuple of ints and texts is a key -/
theorem key_of {ks : List Key} (ok : HOk P w H h) (e : H a = some (.tup (ks.map kV))) : (tupleKind (mixKind P w)).is h ks a := by
  obtain ⟨_, its, r, o, h1, h2, n, h3⟩ := (show ObjOk P w H h a (.tup (ks.map kV)) from ok a _ e)
  exact ⟨o, its.toArray, n, h1, h2, h3, by simpa using items_are r⟩
theorem dt_rd {kvs : List (List Key × V)} (ok : HOk P w H h) (e : Rd H a (.dT kvs)) : kvs.length ≤ sizeLine ∧ (a == sysModules) = false ∧
    ∃ xs, KT H kvs xs ∧ h.DictOfH (tupleKind (mixKind P w)) a xs := by
  obtain ⟨z, y, xs, r, o, es, ep, h1, h2, h3, h4, h5⟩ := (show ObjOk P w H h a (.dT kvs) from rd_of ok e)
  refine ⟨z, y, xs, r, o, es, ep, h1, h2, h3, h4, fun x hx => ?_, h5⟩
  have all : ∀ {l : List (List Key × V)} {m : List (List Key × Addr × Value)}, KT H l m → ∀ x ∈ m, (tupleKind (mixKind P w)).is h x.1 x.2.1 := by
    intro l m q
    induction q with
    | nil => intro x hx; exact nomatch hx
    | @cons p q ps qs hq t ih =>
      intro x hx
      rcases List.mem_cons.mp hx with e | hx
      · subst e
        exact key_of ok (by rw [← hq.1]; exact hq.2.1)
      · exact ih x hx
  exact all r x hx
theorem dt_of {kvs : List (List Key × V)} (ok : HOk P w H h) (e : H a = some (.dT kvs)) : kvs.length ≤ sizeLine ∧ (a == sysModules) = false ∧
    ∃ xs, KT H kvs xs ∧ h.DictOfH (tupleKind (mixKind P w)) a xs := dt_rd ok (.inl e)
end

/-- what the dict at a holds at the key y -/
def DGet (H : Hp) (a : Addr) (y : V) (r : Option V) : Prop :=
  (∃ kvs k, Rd H a (.dK kvs) ∧ y = kV k ∧ r = valV kvs k) ∨ ∃ kvs k b, Rd H a (.dT kvs) ∧ y = .ref b ∧ H b = some (.tup (k.map kV)) ∧ r = valV kvs k
/-- the heap behind a[y] = v -/
def DPut (H : Hp) (a : Addr) (y v : V) (H' : Hp) : Prop :=
  (∃ kvs k, H a = some (.dK kvs) ∧ y = kV k ∧ kvs.length < sizeLine ∧ H' = upd H a (.dK (putK kvs k v))) ∨
  ∃ kvs k b, H a = some (.dT kvs) ∧ y = .ref b ∧ H b = some (.tup (k.map kV)) ∧ kvs.length < sizeLine ∧ H' = upd H a (.dT (putK kvs k v))
theorem DGet.k {H : Hp} {a : Addr} {kvs : List (Key × V)} {k : Key} (e : H a = some (.dK kvs)) : DGet H a (kV k) (valV kvs k) := .inl ⟨kvs, k, .inl e, rfl, rfl⟩
theorem DGet.t {H : Hp} {a b : Addr} {kvs : List (List Key × V)} {k : List Key} (e : H a = some (.dT kvs)) (eb : H b = some (.tup (k.map kV))) : DGet H a (.ref b) (valV kvs k) := .inr ⟨kvs, k, b, .inl e, rfl, eb, rfl⟩
theorem DPut.k {H : Hp} {a : Addr} {kvs : List (Key × V)} {k : Key} {v : V} (e : H a = some (.dK kvs)) (hl : kvs.length < sizeLine) : DPut H a (kV k) v (upd H a (.dK (putK kvs k v))) := .inl ⟨kvs, k, e, rfl, hl, rfl⟩
theorem DPut.t {H : Hp} {a b : Addr} {kvs : List (List Key × V)} {k : List Key} {v : V} (e : H a = some (.dT kvs)) (eb : H b = some (.tup (k.map kV))) (hl : kvs.length < sizeLine) :
    DPut H a (.ref b) v (upd H a (.dT (putK kvs k v))) := .inr ⟨kvs, k, b, e, rfl, eb, hl, rfl⟩


section
variable {X : Cx} {pins : List (Addr × Obj)} {σ : St} {H : Hp} {s : Shared} {a : Addr} {y v : V} {u r : Value} {o : Option V} {A : Around} {E : Value → Shared → Prop}

theorem Inv.big (I : Inv X pins σ H s) : sysModules < s.heap.objs.size := by
  have h : mainGlobals < s.heap.objs.size := (I.mod.glob.keeps I.bk).lt
  exact Nat.lt_trans (by decide) h

/-- d[y], there -/
theorem d_getItem {Q : Value → Shared → Prop} (hu : A.units + 1 < cLine) (I : Inv X pins σ H s) (g : DGet H a y (some v)) (ry : RelV y u) (h : ∀ w' s', Inv X pins σ H s' → RelV v w' → Q w' s') :
    wpAny (model X.prog X.w) A (getItem (.ref a) u) Q E s := by
  rcases g with ⟨kvs, k, e, ey, l⟩ | ⟨kvs, k, b, e, ey, eb, l⟩
  · subst ey
    obtain ⟨z, hd, vs, rel, dd⟩ := dk_rd I.hok e
    obtain ⟨w', hw, rw'⟩ := RelO.some_of (v := v) (o := valueAt vs k) (by rw [l]; exact rel.val k)
    exact wpAny_getItem_of (kV_is ry) dd.mapOf hw (h w' _ (I.tok _) rw')
  · subst ey
    cases (show u = Value.ref b from ry)
    obtain ⟨z, hd, xs, rel, dd⟩ := dt_rd I.hok e
    obtain ⟨w', hw, rw'⟩ := RelO.some_of (v := v) (o := (atKey xs k).map (·.2)) (by rw [l]; exact rel.val k)
    obtain ⟨p, hp, hp2⟩ := Option.map_eq_some_iff.mp hw
    refine wpAny_getItem_heap (tupleKind_room_in1 hu) (key_of I.hok eb) dd hp ?_
    rw [hp2]
    exact h w' _ (I.tok _) rw'
/-- y in d -/
theorem d_in {Q : Value → Shared → Prop} (hu : A.units + 1 < cLine) (I : Inv X pins σ H s) (g : DGet H a y o) (ry : RelV y u) (h : ∀ s', Inv X pins σ H s' → Q (.bool o.isSome) s') :
    wpAny (model X.prog X.w) A (compareOp .In u (.ref a)) Q E s := by
  rcases g with ⟨kvs, k, e, ey, l⟩ | ⟨kvs, k, b, e, ey, eb, l⟩
  · subst ey
    obtain ⟨z, hd, vs, rel, dd⟩ := dk_rd I.hok e
    refine wpAny_in_of (kV_is ry) hd dd.mapOf ?_
    rw [← (rel.val k).isSome_eq, ← l]
    exact h _ (I.tok _)
  · subst ey
    cases (show u = Value.ref b from ry)
    obtain ⟨z, hd, xs, rel, dd⟩ := dt_rd I.hok e
    refine wpAny_in_heap (tupleKind_room_in1 hu) (key_of I.hok eb) hd dd ?_
    have q := (rel.val k).isSome_eq
    rw [Option.isSome_map] at q
    rw [← q, ← l]
    exact h _ (I.tok _)
theorem d_notIn {Q : Value → Shared → Prop} (hu : A.units + 1 < cLine) (I : Inv X pins σ H s) (g : DGet H a y o) (ry : RelV y u) (h : ∀ s', Inv X pins σ H s' → Q (.bool (!o.isSome)) s') :
    wpAny (model X.prog X.w) A (compareOp .NotIn u (.ref a)) Q E s := by
  rcases g with ⟨kvs, k, e, ey, l⟩ | ⟨kvs, k, b, e, ey, eb, l⟩
  · subst ey
    obtain ⟨z, hd, vs, rel, dd⟩ := dk_rd I.hok e
    refine wpAny_notIn_of (kV_is ry) hd dd.mapOf ?_
    rw [← (rel.val k).isSome_eq, ← l]
    exact h _ (I.tok _)
  · subst ey
    cases (show u = Value.ref b from ry)
    obtain ⟨z, hd, xs, rel, dd⟩ := dt_rd I.hok e
    refine wpAny_notIn_heap (tupleKind_room_in1 hu) (key_of I.hok eb) hd dd ?_
    have q := (rel.val k).isSome_eq
    rw [Option.isSome_map] at q
    rw [← q, ← l]
    exact h _ (I.tok _)
/-- a dict's object is replaced -/
theorem d_write {h' : Heap} {t' : Nat} {ob : HO} (I : Inv X pins σ H s) (mu : Mut (H a)) (hs : Heap.SameBut a s.heap h') (he : ∃ q, h'.get? a = some q) (new : ObjOk X.prog X.w (upd H a ob) h' a ob) :
    Inv X pins σ (upd H a ob) { s with heap := h', toks := t' } :=
  I.write (x := a) (e := a) mu (.inl rfl) (fun b q hb z => (hs.2 b hb).trans z) he new
theorem dk_new {P : Program} {w : World} {H' : Hp} {h' : Heap} {kvs : List (Key × V)} {vs : List (Key × Value)} (z : kvs.length ≤ sizeLine) (hd : (a == sysModules) = false) (rel : KV kvs vs) (dd : h'.DictOf (mixKind P w) a vs) :
    ObjOk P w H' h' a (.dK kvs) := ⟨z, hd, vs, rel, dd⟩
/-- d[y] = v -/
theorem d_setItem {H' : Hp} {Q : Unit → Shared → Prop} (hu : A.units + 1 < cLine) (I : Inv X pins σ H s) (g : DPut H a y v H') (ry : RelV y u) (rv : RelV v r) (h : ∀ s', Inv X pins σ H' s' → Q () s') :
    wpAny (model X.prog X.w) A (setItem (.ref a) u r) Q E s := by
  rcases g with ⟨kvs, k, e, ey, l, eH⟩ | ⟨kvs, k, b, e, ey, eb, l, eH⟩
  · subst ey eH
    obtain ⟨z, hd, vs, rel, dd⟩ := dk_of I.hok e
    have hz : vs.length ≤ sizeLine := by rw [← rel.length]; exact z
    have hl : (putK kvs k v).length ≤ sizeLine := by have := length_putK kvs k v; omega
    refine wpAny_setItem_pairs (hsz := hz) (kV_is ry) dd fun h' dd' hs => h _ ?_
    have he : ∃ q, h'.get? a = some q := let ⟨q, _, _, hq, _⟩ := dd'; ⟨q, hq⟩
    exact d_write I (by rw [e]; exact True.intro) hs he (dk_new hl hd (rel.put k rv) dd')
  · subst ey eH
    cases (show u = Value.ref b from ry)
    obtain ⟨z, hd, xs, rel, dd⟩ := dt_of I.hok e
    have hz : xs.length ≤ sizeLine := by rw [← Paired.length rel]; exact z
    have hl : (putK kvs k v).length ≤ sizeLine := by have := length_putK kvs k v; omega
    refine wpAny_setItem_heap (hsz := hz) (tupleKind_room_in1 hu) (key_of I.hok eb) dd fun h' dd' hs => h _ ?_
    obtain ⟨q, es, ep, hq, h2, h3, h4, _, h5⟩ := dd'
    refine d_write I (by rw [e]; exact True.intro) hs ⟨q, hq⟩ ⟨hl, hd, _, (rel.put k eb rv).keeps fun c ys ec => ?_, q, es, ep, hq, h2, h3, h4, h5⟩
    rw [upd_ne (ne_of ec e (fun z => nomatch z))]
    exact ec
end

section
variable {X : Cx} {pins : List (Addr × Obj)} {σ : St} {H : Hp} {s : Shared} {a : Addr} {kvs : List (Key × V)} {k : Key} {u : Value} {A : Around} {E : Value → Shared → Prop}
/-- del d[k] -/
theorem d_delItem {Q : Unit → Shared → Prop} (I : Inv X pins σ H s) (e : H a = some (.dK kvs)) (ry : RelV (kV k) u) (l : (valV kvs k).isSome = true) (h : ∀ s', Inv X pins σ (upd H a (.dK (dropK kvs k))) s' → Q () s') :
    wpAny (model X.prog X.w) A (delItem (.ref a) u) Q E s := by
  obtain ⟨z, hd, vs, rel, dd⟩ := dk_of I.hok e
  refine wpAny_delItem_slot dd.typeIs (by decide) PySem.F.slot_dict_delitem
    (call_meetsIn PySem.F.slot_dict_delitem dd.typeIs PySem.F.entry_dict_delitem (PySem.F.args_dict_delitem_2 _ _) (meets_dict_delitem_pairs (mixKind X.prog X.w) a (kV_is ry)) ⟨vs, dd, by rw [← rel.length]; exact z, by rw [← (rel.val k).isSome_eq]; exact l, fun h' dd' hs => h _ ?_⟩)
  have he : ∃ q, h'.get? a = some q := let ⟨q, _, _, hq, _⟩ := dd'; ⟨q, hq⟩
  exact d_write I (by rw [e]; exact True.intro) hs he (dk_new (Nat.le_trans (dropK_le kvs k) z) hd (rel.drop k) dd')
/-- d.pop(k[, x]), there -/
theorem d_pop {v : V} {more : List Value} {Q : Value → Shared → Prop} (I : Inv X pins σ H s) (e : H a = some (.dK kvs)) (ry : RelV (kV k) u) (l : valV kvs k = some v) (hm : more = [] ∨ ∃ x, more = [x])
    (h : ∀ w' s', Inv X pins σ (upd H a (.dK (dropK kvs k))) s' → RelV v w' → Q w' s') : wpAny (model X.prog X.w) A (call (.builtin "dict.pop") (.ref a :: u :: more)) Q E s := by
  obtain ⟨z, hd, vs, rel, dd⟩ := dk_of I.hok e
  obtain ⟨w', hw, rw'⟩ := RelO.some_of (v := v) (o := valueAt vs k) (by rw [← l]; exact rel.val k)
  have hp : (keyPart u).isSome = true := by
    cases k with
    | inl i => obtain ⟨t, q⟩ := (show ∃ t, u = Value.int i t from ry); subst q; rfl
    | inr x => obtain ⟨t, q⟩ := (show ∃ t, u = Value.str x t from ry); subst q; rfl
  have ha : argsOk "dict.pop" ⟨.ref a :: u :: more, []⟩ := by
    rcases hm with q | ⟨x, q⟩
    · subst q; exact PySem.F.args_dict_pop_2 _ _
    · subst q; exact PySem.F.args_dict_pop_3 _ _ _
  refine call_meetsIn PySem.F.slot_dict_pop dd.typeIs PySem.F.entry_dict_pop ha (meets_dict_pop_there (mixKind X.prog X.w) a (kV_is ry) more hm hp)
    ⟨vs, w', dd, by rw [← rel.length]; exact z, hw, fun h' dd' hs => h w' _ ?_ rw'⟩
  have he : ∃ q, h'.get? a = some q := let ⟨q, _, _, hq, _⟩ := dd'; ⟨q, hq⟩
  exact d_write I (by rw [e]; exact True.intro) hs he (dk_new (Nat.le_trans (dropK_le kvs k) z) hd (rel.drop k) dd')
/-- d.pop(k, x), not there -/
theorem d_popD {r : Value} {Q : Value → Shared → Prop} (I : Inv X pins σ H s) (e : H a = some (.dK kvs)) (ry : RelV (kV k) u) (l : valV kvs k = none) (h : ∀ s', Inv X pins σ H s' → Q r s') :
    wpAny (model X.prog X.w) A (call (.builtin "dict.pop") [.ref a, u, r]) Q E s := by
  obtain ⟨z, hd, vs, rel, dd⟩ := dk_of I.hok e
  have hn : valueAt vs k = none := RelO.none_of (by rw [← l]; exact rel.val k)
  have hp : (keyPart u).isSome = true := by
    cases k with
    | inl i => obtain ⟨t, q⟩ := (show ∃ t, u = Value.int i t from ry); subst q; rfl
    | inr x => obtain ⟨t, q⟩ := (show ∃ t, u = Value.str x t from ry); subst q; rfl
  exact call_meetsIn PySem.F.slot_dict_pop dd.typeIs PySem.F.entry_dict_pop (PySem.F.args_dict_pop_3 _ _ _) (meets_dict_pop_default (mixKind X.prog X.w) a (kV_is ry) hd hp r) ⟨vs, dd, hn, h _ (I.tok _)⟩
/-- d.clear() -/
theorem d_clear {Q : Value → Shared → Prop} (I : Inv X pins σ H s) (e : H a = some (.dK kvs)) (h : ∀ s', Inv X pins σ (upd H a (.dK [])) s' → Q .none s') : wpAny (model X.prog X.w) A (call (.builtin "dict.clear") [.ref a]) Q E s := by
  obtain ⟨z, hd, vs, rel, dd⟩ := dk_of I.hok e
  refine call_meetsIn PySem.F.slot_dict_clear dd.typeIs PySem.F.entry_dict_clear (PySem.F.args_dict_clear_1 _) (meets_dict_clear (mixKind X.prog X.w) a) ⟨vs, dd, by rw [← rel.length]; exact z, fun h' dd' hs => h _ ?_⟩
  have he : ∃ q, h'.get? a = some q := let ⟨q, _, _, hq, _⟩ := dd'; ⟨q, hq⟩
  exact d_write (t' := s.toks) I (by rw [e]; exact True.intro) hs he (dk_new (Nat.zero_le _) hd .nil dd')
/-- len(d) -/
theorem d_len {Q : Value → Shared → Prop} (I : Inv X pins σ H s) (e : Rd H a (.dK kvs)) (h : ∀ t s', Inv X pins σ H s' → Q (.int kvs.length t) s') : wpAny (model X.prog X.w) A (call (.builtin "len") [.ref a]) Q E s := by
  obtain ⟨z, hd, vs, rel, dd⟩ := dk_rd I.hok e
  refine call_len_dict hd dd (by rw [← rel.length]; rw [sizeLine_eq] at z; omega) ?_
  rw [← rel.length]
  exact h _ _ (I.tok _)
/-- if d -/
theorem d_truth {Q : Bool → Shared → Prop} (I : Inv X pins σ H s) (e : Rd H a (.dK kvs)) (h : ∀ s', Inv X pins σ H s' → Q (!kvs.isEmpty) s') : wpAny (model X.prog X.w) A (truthy (.ref a)) Q E s := by
  obtain ⟨z, hd, vs, rel, dd⟩ := dk_rd I.hok e
  refine wpAny_truthy_dict hd dd (by rw [← rel.length]; rw [sizeLine_eq] at z; omega) ?_
  have q : kvs.isEmpty = vs.isEmpty := by cases rel <;> rfl
  rw [← q]
  exact h _ (I.tok _)
end


/-! ### readings and rules -/
/-- the element of a subscription, not a slice -/
def NoSl (i : Expr) : Prop := ∀ ov iv, subscripted i false ov iv = operate [ov, iv] (getItem ov iv)
theorem subD_of {prog : Program} {w : World} {A : Around} {E : Value → Shared → Prop} {s : Shared} {env : Env} {value slice : Expr} {pos : Pos} {T id : String} {Q : Value → Shared → Prop}
    (hl : typeLookup (.type T) "__getitem__" = pure (some (.builtin id))) (hs : NoSl slice)
    (h : wpAny (model prog w) A (eval value env) (fun o s₁ => wpAny (model prog w) A (eval slice env) (fun i s₂ => s₂.TypeIs o T ∧ wpAny (model prog w) A (getItem o i) Q E s₂) E s₁) E s) :
    wpAny (model prog w) A (eval (.Subscript value slice pos) env) Q E s := by
  refine Subscript_ (wpAny_mono h (fun o s₁ h₁ => wpAny_mono h₁ (fun i s₂ h₂ => ?_) fun _ _ x => x) fun _ _ x => x)
  obtain ⟨hT, h₂⟩ := h₂
  unfold subscriptTail
  refine wpAny_bind ?_
  rw [getitemInPython_of_ne hT.not_modules]
  refine wpAny_bind (wpAny_specialOf hT hl ?_)
  have fin : wpAny (model prog w) A (subscripted slice false o i) (fun r s₃ => wpAny (model prog w) A (letTemporaryGo value o r >>= fun _ => pure r) Q E s₃) E s₂ := by
    rw [hs o i]
    exact wpAny_operating (wpAny_mono h₂ (fun r s₃ h₃ => wpAny_bind (wpAny_letTemporaryGo (wpAny_pure h₃))) fun _ _ x => x)
  first
    | exact wpAny_pure (wpAny_bind fin)
    | exact wpAny_bind (wpAny_pure (wpAny_bind fin))
    | exact wpAny_bind fin

theorem dict_typeIs {X : Cx} {pins : List (Addr × Obj)} {σ : St} {H : Hp} {s : Shared} {a : Addr} {y : V} {o : Option V} (I : Inv X pins σ H s) (g : DGet H a y o) : s.TypeIs (.ref a) "dict" := by
  rcases g with ⟨kvs, k, e, _, _⟩ | ⟨kvs, k, b, e, _, _, _⟩
  · obtain ⟨_, _, vs, _, dd⟩ := dk_rd I.hok e
    exact dd.typeIs
  · obtain ⟨_, _, xs, _, dd⟩ := dt_rd I.hok e
    exact dd.typeIs
theorem dict_noDict {X : Cx} {pins : List (Addr × Obj)} {σ : St} {H : Hp} {s : Shared} {a : Addr} {y : V} {o : Option V} (I : Inv X pins σ H s) (g : DGet H a y o) :
    ∀ b, Value.ref a = .ref b → ∃ ob, s.heap.get? b = some ob ∧ ob.dict = none := fun b q => by
  cases q
  rcases g with ⟨kvs, k, e, _, _⟩ | ⟨kvs, k, b, e, _, _, _⟩
  · obtain ⟨_, _, vs, _, ob, _, _, h1, h2, _⟩ := dk_rd I.hok e
    exact ⟨ob, h1, h2.2.1⟩
  · obtain ⟨_, _, xs, _, ob, _, _, h1, h2, _⟩ := dt_rd I.hok e
    exact ⟨ob, h1, h2.2.1⟩

/-- d[y] -/
def tDGet (td ty : TE) : TE := fun σ H Q => td σ H fun x H1 => ty σ H1 fun y H2 => ∃ a v, x = .ref a ∧ DGet H2 a y (some v) ∧ Q v H2
/-- y in d, y not in d -/
def tDIn (ty td : TE) : TE := fun σ H Q => ty σ H fun y H1 => td σ H1 fun x H2 => ∃ a o, x = .ref a ∧ DGet H2 a y o ∧ Q (.bl o.isSome) H2
def tDNotIn (ty td : TE) : TE := fun σ H Q => ty σ H fun y H1 => td σ H1 fun x H2 => ∃ a o, x = .ref a ∧ DGet H2 a y o ∧ Q (.bl (!o.isSome)) H2
/-- d[y] = v -/
def sDPut (td ty tv : TE) : TS := fun D σ H => tv σ H fun v H1 => td σ H1 fun x H2 => ty σ H2 fun y H3 => ∃ a H4, x = .ref a ∧ DPut H3 a y v H4 ∧ D.nx σ H4
/-- d[y] op= v -/
def sDAug (td ty tv : TE) (rd : V → V → Hp → VK → Prop) : TS := fun D σ H => td σ H fun x H1 => ty σ H1 fun y H2 => ∃ a v, x = .ref a ∧ DGet H2 a y (some v) ∧
  tv σ H2 fun y2 H3 => rd v y2 H3 fun z H4 => ∃ H5, DPut H4 a y z H5 ∧ D.nx σ H5
/-- del d[y] -/
def sDDel (td ty : TE) : TS := fun D σ H => td σ H fun x H1 => ty σ H1 fun y H2 => ∃ a kvs k, x = .ref a ∧ H2 a = some (.dK kvs) ∧ y = kV k ∧ (valV kvs k).isSome = true ∧ D.nx σ (upd H2 a (.dK (dropK kvs k)))

section
variable {X : Cx} {o i e value : Expr} {pos pos' tpos : Pos} {td ty tv : TE}
theorem pe_dget (hu : X.A.units + 1 < cLine) (ho : PE X o td) (hi : PE X i ty) (hs : NoSl i) : PE X (.Subscript o i pos) (tDGet td ty) := by
  intro pins s σ H Q I h
  refine subD_of PySem.F.slot_dict_getitem.lookup hs (thn (ho pins s σ H _ I h) fun u s1 ⟨x, H1, I1, rx, q1⟩ => thn (hi pins s1 σ H1 _ I1 q1) fun iv s2 ⟨y, H2, I2, ry, a, v, ex, g, q2⟩ => ?_)
  subst ex
  obtain rfl : u = Value.ref a := rx
  exact ⟨dict_typeIs I2 g, d_getItem hu I2 g ry fun w' s3 I3 rw' => ⟨v, H2, I3, rw', q2⟩⟩
theorem pc_din (hu : X.A.units + 1 < cLine) (hi : PE X i ty) (ho : PE X o td) : PC X .In i o (tDIn ty td) := by
  intro pins s σ H Q I h
  refine thn (hi pins s σ H _ I h) fun iv s1 ⟨y, H1, I1, ry, q1⟩ => thn (ho pins s1 σ H1 _ I1 q1) fun u s2 ⟨x, H2, I2, rx, a, ov, ex, g, q2⟩ => ?_
  subst ex
  obtain rfl : u = Value.ref a := rx
  exact d_in hu I2 g ry fun s3 I3 => ⟨.bl ov.isSome, H2, I3, rfl, q2⟩
theorem pc_dnotin (hu : X.A.units + 1 < cLine) (hi : PE X i ty) (ho : PE X o td) : PC X .NotIn i o (tDNotIn ty td) := by
  intro pins s σ H Q I h
  refine thn (hi pins s σ H _ I h) fun iv s1 ⟨y, H1, I1, ry, q1⟩ => thn (ho pins s1 σ H1 _ I1 q1) fun u s2 ⟨x, H2, I2, rx, a, ov, ex, g, q2⟩ => ?_
  subst ex
  obtain rfl : u = Value.ref a := rx
  exact d_notIn hu I2 g ry fun s3 I3 => ⟨.bl (!ov.isSome), H2, I3, rfl, q2⟩
theorem ps_dput (hu : X.A.units + 1 < cLine) (ho : PE X o td) (hi : PE X i ty) (hv : PE X value tv) (hs : swapsWith value (some (.Subscript o i pos')) pos.line X.env = pure false) :
    PS X (.Assign [.Subscript o i pos'] value pos) (sDPut td ty tv) := by
  intro pins s σ H D I h
  refine wpAny_Assign_Subscript (thn (hv pins s σ H _ I h) fun r s1 ⟨v, H1, I1, rv, q1⟩ => thn (ho pins s1 σ H1 _ I1 q1) fun u s2 ⟨x, H2, I2, rx, q2⟩ => thn (hi pins s2 σ H2 _ I2 q2) fun iv s3 ⟨y, H3, I3, ry, a, H4, ex, g, q3⟩ => ?_) hs
  subst ex
  obtain rfl : u = Value.ref a := rx
  exact d_setItem hu I3 g ry rv fun s4 I4 => ⟨σ, H4, I4, q3⟩
theorem ps_daug {op : Operator} {rd : V → V → Hp → VK → Prop} (hu : X.A.units + 1 < cLine) (ho : PE X o td) (hi : PE X i ty) (hv : PE X value tv) (hop : InOp X op rd)
    (ha : ∀ ov iv new, augStore i ov iv new = (do holding [new, ov, iv] (setItem ov iv new); release [new, ov, iv] []; pure .next)) : PS X (.AugAssign (.Subscript o i tpos) op value pos) (sDAug td ty tv rd) := by
  intro pins s σ H D I h
  refine wpAny_AugAssign_SubscriptAny (thn (ho pins s σ H _ I h) fun u s1 ⟨x, H1, I1, rx, q1⟩ => thn (hi pins s1 σ H1 _ I1 q1) fun iv s2 ⟨y, H2, I2, ry, a, v, ex, g, q2⟩ => ?_) ha
  subst ex
  obtain rfl : u = Value.ref a := rx
  refine d_getItem hu I2 g ry fun w' s3 I3 rw' => thn (hv pins s3 σ H2 _ I3 q2) fun w2 s4 ⟨y2, H3, I4, ry2, q3⟩ => thn (hop pins s4 σ H3 v y2 w' w2 _ I4 rw' ry2 q3) fun w3 s5 ⟨z, H4, I5, rz, H5, g5, q4⟩ => ?_
  exact d_setItem hu I5 g5 ry rz fun s6 I6 => ⟨σ, H5, I6, q4⟩
theorem ps_ddel (ho : PE X o td) (hi : PE X i ty) : PS X (.Delete [.Subscript o i tpos] pos) (sDDel td ty) := by
  intro pins s σ H D I h
  refine wpAny_Delete (wpAny_deleteEach_cons (wpAny_delete_Subscript (thn (ho pins s σ H _ I h) fun u s1 ⟨x, H1, I1, rx, q1⟩ => thn (hi pins s1 σ H1 _ I1 q1) fun iv s2 ⟨y, H2, I2, ry, a, kvs, k, ex, e, ey, l, q2⟩ => ?_)))
  subst ex ey
  obtain rfl : u = Value.ref a := rx
  exact d_delItem I2 e ry l fun s3 I3 => wpAny_deleteEach_nil ⟨σ, _, I3, q2⟩
end


/-! ### displays -/
theorem dk_empty {P : Program} {w : World} {H : Hp} (h : Heap) (hb : sysModules < h.objs.size) : ObjOk P w H (h.push { cls := .type "dict", data := .dict #[] }) h.objs.size (.dK []) :=
  ⟨Nat.zero_le _, beq_eq_false_iff_ne.mpr (Ne.symm (Nat.ne_of_lt hb)), [], .nil, Heap.DictOf.new h⟩
theorem dt_empty {P : Program} {w : World} {H : Hp} (h : Heap) (hb : sysModules < h.objs.size) : ObjOk P w H (h.push { cls := .type "dict", data := .dict #[] }) h.objs.size (.dT []) :=
  ⟨Nat.zero_le _, beq_eq_false_iff_ne.mpr (Ne.symm (Nat.ne_of_lt hb)), [], .nil, _, #[], 0, Heap.get?_push_size _ rfl, ⟨rfl, rfl, rfl⟩, rfl, rfl, List.nodup_nil⟩
/-- {}, to be a dict of the kind that is wanted -/
def tDNewK : TE := fun _ H Q => ∀ p, H p = none → Q (.ref p) (upd H p (.dK []))
def tDNewT : TE := fun _ H Q => ∀ p, H p = none → Q (.ref p) (upd H p (.dT []))
section
variable {X : Cx} {pos : Pos}
theorem pe_dnewK : PE X (.Dict [] [] pos) tDNewK := fun pins s σ H Q I h =>
  wpAny_Dict_empty ⟨.ref s.heap.objs.size, _, I.laid (a := s.heap.objs.size) (o := .dK []) (t' := s.toks) (fun _ _ q => Heap.get?_push_of_some _ q) (Nat.le_refl _) (dk_empty s.heap I.big), rfl, h _ (I.hok.fresh (Nat.le_refl _))⟩
theorem pe_dnewT : PE X (.Dict [] [] pos) tDNewT := fun pins s σ H Q I h =>
  wpAny_Dict_empty ⟨.ref s.heap.objs.size, _, I.laid (a := s.heap.objs.size) (o := .dT []) (t' := s.toks) (fun _ _ q => Heap.get?_push_of_some _ q) (Nat.le_refl _) (dt_empty s.heap I.big), rfl, h _ (I.hok.fresh (Nat.le_refl _))⟩
end

/-- the pairs of a display, from the left -/
def tPairs : List (TE × TE) → St → Hp → (List (V × V) → Hp → Prop) → Prop
  | [], _, H, Q => Q [] H
  | (tk, tv) :: r, σ, H, Q => tk σ H fun x H1 => tv σ H1 fun y H2 => tPairs r σ H2 fun ps H3 => Q ((x, y) :: ps) H3
abbrev VV : List (V × V) → List (Value × Value) → Prop := Paired fun p q => RelV p.1 q.1 ∧ RelV p.2 q.2
def PPs (X : Cx) (pos : Pos) (keys : List (Option Expr)) (values : List Expr) (trs : List (TE × TE)) : Prop :=
  ∀ (pins : List (Addr × Obj)) (s : Shared) (σ : St) (H : Hp) (Q : List (V × V) → Hp → Prop), Inv X pins σ H s → tPairs trs σ H Q →
    wpAny (model X.prog X.w) X.A (evalPairs (pairTrees keys values X.env pos)) (fun vs s' => ∃ ps H', Inv X pins σ H' s' ∧ VV ps vs ∧ Q ps H') X.xe s
theorem pps_nil {X : Cx} {pos : Pos} : PPs X pos [] [] [] := fun pins s σ H Q I h => pairTrees_nil_walk ⟨[], H, I, .nil, h⟩
theorem pps_cons {X : Cx} {pos : Pos} {k v : Expr} {ks : List (Option Expr)} {vs : List Expr} {tk tv : TE} {trs : List (TE × TE)} (hk : PE X k tk) (hv : PE X v tv) (hr : PPs X pos ks vs trs) :
    PPs X pos (some k :: ks) (v :: vs) ((tk, tv) :: trs) := fun pins s σ H Q I h =>
  pairTrees_cons_walk (thn (hk pins s σ H _ I h) fun u s1 ⟨x, H1, I1, rx, q1⟩ => thn (hv pins s1 σ H1 _ I1 q1) fun w2 s2 ⟨y, H2, I2, ry, q2⟩ =>
    thn (hr pins s2 σ H2 _ I2 q2) fun ws s3 ⟨ps, H3, I3, rel, q3⟩ => ⟨(x, y) :: ps, H3, I3, .cons ⟨rx, ry⟩ rel, q3⟩)

def mergeK (kvs more : List (Key × V)) : List (Key × V) := more.foldl (fun acc kv => putK acc kv.1 kv.2) kvs
theorem KV.merge : ∀ {more : List (Key × V)} {rs : List (Key × Value)} {kvs : List (Key × V)} {vs : List (Key × Value)}, KV more rs → KV kvs vs → KV (mergeK kvs more) (merged vs rs) := by
  intro more rs kvs vs r
  unfold KV at r
  induction r generalizing kvs vs with
  | nil => intro q; exact q
  | @cons p q ps qs h t ih =>
    intro r0
    have e : KV (putK kvs p.1 p.2) (stored vs q.1 q.2) := by
      have := r0.put p.1 h.2
      rw [← h.1]; exact this
    exact ih e
theorem length_mergeK : ∀ (more kvs : List (Key × V)), (mergeK kvs more).length ≤ kvs.length + more.length
  | [], kvs => by show kvs.length ≤ kvs.length + 0; omega
  | p :: r, kvs => by
    have h1 := length_mergeK r (putK kvs p.1 p.2)
    have h2 := length_putK kvs p.1 p.2
    show (mergeK (putK kvs p.1 p.2) r).length ≤ _
    rw [List.length_cons]; omega
theorem carries_of {P : Program} {w : World} : ∀ {kvs : List (Key × V)} {ws : List (Value × Value)}, VV (kvs.map fun kv => (kV kv.1, kv.2)) ws → ∃ rs, Carries (mixKind P w) ws rs ∧ KV kvs rs
  | [], _, r => by rw [List.map_nil] at r; cases r; exact ⟨[], True.intro, .nil⟩
  | p :: kvs, _, r => by
    rw [List.map_cons] at r
    cases r with
    | @cons a b as bs h t =>
      obtain ⟨rs, c, q⟩ := carries_of (P := P) (w := w) t
      obtain ⟨b1, b2⟩ := b
      exact ⟨(p.1, b2) :: rs, ⟨kV_is h.1, rfl, c⟩, .cons ⟨rfl, h.2⟩ q⟩
/-- {k: v, ..} with keys ints and texts; the new dict stands empty while the pairs are made -/
def tDisp (trs : List (TE × TE)) : TE := fun σ H Q => ∀ p, H p = none → tPairs trs σ (upd H p (.dK [])) fun ps H2 => H2 p = some (.dK []) ∧ ∃ kvs : List (Key × V), ps = kvs.map (fun kv => (kV kv.1, kv.2)) ∧ kvs.length ≤ 15 ∧ Q (.ref p) (upd H2 p (.dK (mergeK [] kvs)))
theorem pe_disp {X : Cx} {pos : Pos} {keys : List (Option Expr)} {values : List Expr} {trs : List (TE × TE)} (h : PPs X pos keys values trs) (hall : keys.all (·.isSome) = true) (hl : keys.length = values.length) (h0 : keys ≠ [])
    (h15 : keys.length ≤ 15) : PE X (.Dict keys values pos) (tDisp trs) := by
  intro pins s σ H Q I q
  have hn := I.hok.fresh (Nat.le_refl s.heap.objs.size)
  have I1 := I.laid (a := s.heap.objs.size) (o := .dK []) (h' := s.heap.push { cls := .type "dict", data := .dict #[] }) (t' := s.toks) (fun _ _ q => Heap.get?_push_of_some _ q) (Nat.le_refl _) (dk_empty s.heap I.big)
  refine wpAny_Dict_walk (knd := mixKind X.prog X.w) hall hl h0 h15 (thn (h pins _ σ _ _ I1 (q _ hn)) fun ws s2 ⟨ps, H2, I2, rel, e, kvs, ep, lk, q2⟩ => ?_)
  subst ep
  obtain ⟨rs, c, rk⟩ := carries_of (P := X.prog) (w := X.w) rel
  obtain ⟨z, hd, vs0, r0, dd⟩ := dk_of I2.hok e
  cases r0
  refine ⟨rs, c, dd, fun h' dd' hs => ⟨.ref s.heap.objs.size, _, ?_, rfl, q2⟩⟩
  have hz : (mergeK [] kvs).length ≤ sizeLine := by
    have h1 := length_mergeK kvs []
    rw [List.length_nil] at h1
    rw [sizeLine_eq]; omega
  have he : ∃ q, h'.get? s.heap.objs.size = some q := let ⟨q, _, _, hq, _⟩ := dd'; ⟨q, hq⟩
  exact d_write I2 (by rw [e]; exact True.intro) hs he (dk_new hz hd (rk.merge .nil) dd')


/-! ### methods -/
/-- a method call o.m(e) of a built-in, with one argument: what must be seen of the text -/
structure M1 (X : Cx) (o : Expr) (m : Str) (apos : Pos) (e : Expr) (cpos : Pos) : Prop where
  base : attributeBase o m X.env (eval o X.env) = eval o X.env
  few : ((backTo cpos (starEach [e] X.env)).all (fun x => !x.1) && (backToKw cpos (keywordEach [] X.env)).all (fun x => x.1.isSome)
    && decide (([e] : List Expr).length + ([] : List Keyword).length + (if ([] : List Keyword).isEmpty then 0 else 1) < 30)) = true
  line : (apos.endLine == cpos.line) = true
  trees : backTo cpos (starEach [e] X.env) = [(false, eval e X.env)]
structure M2 (X : Cx) (o : Expr) (m : Str) (apos : Pos) (e f : Expr) (cpos : Pos) : Prop where
  base : attributeBase o m X.env (eval o X.env) = eval o X.env
  few : ((backTo cpos (starEach [e, f] X.env)).all (fun x => !x.1) && (backToKw cpos (keywordEach [] X.env)).all (fun x => x.1.isSome)
    && decide (([e, f] : List Expr).length + ([] : List Keyword).length + (if ([] : List Keyword).isEmpty then 0 else 1) < 30)) = true
  line : (apos.endLine == cpos.line) = true
  trees : backTo cpos (starEach [e, f] X.env) = [(false, eval e X.env), (false, eval f X.env)]

/-- a is a dict, whatever its keys -/
def IsD (H : Hp) (a : Addr) : Prop := (∃ kvs, Rd H a (.dK kvs)) ∨ ∃ kvs, Rd H a (.dT kvs)
theorem isD_at {X : Cx} {pins : List (Addr × Obj)} {σ : St} {H : Hp} {s : Shared} {a : Addr} (I : Inv X pins σ H s) (d : IsD H a) :
    s.TypeIs (.ref a) "dict" ∧ (∀ b, Value.ref a = .ref b → ∃ ob, s.heap.get? b = some ob ∧ ob.dict = none) ∧ (a == sysModules) = false := by
  rcases d with ⟨kvs, e⟩ | ⟨kvs, e⟩
  · obtain ⟨_, hd, vs, _, dd⟩ := dk_rd I.hok e
    refine ⟨dd.typeIs, fun b q => ?_, hd⟩
    cases q
    obtain ⟨ob, _, _, h1, h2, _⟩ := dd
    exact ⟨ob, h1, h2.2.1⟩
  · obtain ⟨_, hd, xs, _, dd⟩ := dt_rd I.hok e
    refine ⟨dd.typeIs, fun b q => ?_, hd⟩
    cases q
    obtain ⟨ob, _, _, h1, h2, _⟩ := dd
    exact ⟨ob, h1, h2.2.1⟩

section
variable {X : Cx} {pins : List (Addr × Obj)} {σ : St} {H : Hp} {s : Shared} {a : Addr} {y d : V} {u r : Value} {o : Option V} {A : Around} {E : Value → Shared → Prop}
/-- d.get(y) -/
theorem d_get1 {Q : Value → Shared → Prop} (hu : A.units + 1 < cLine) (I : Inv X pins σ H s) (g : DGet H a y o) (ry : RelV y u) (h : ∀ w' s', Inv X pins σ H s' → RelV (o.getD .non) w' → Q w' s') :
    wpAny (model X.prog X.w) A (call (.builtin "dict.get") [.ref a, u]) Q E s := by
  rcases g with ⟨kvs, k, e, ey, l⟩ | ⟨kvs, k, b, e, ey, eb, l⟩
  · subst ey
    obtain ⟨z, hd, vs, rel, dd⟩ := dk_rd I.hok e
    refine call_meetsIn PySem.F.slot_dict_get dd.typeIs PySem.F.entry_dict_get (PySem.F.args_dict_get_2 _ _) (meets_dict_get (mixKind X.prog X.w) a (kV_is ry) hd) ⟨_, dd.mapOf, h _ _ (I.tok _) ?_⟩
    rw [l]
    exact (rel.val k).getD rfl
  · subst ey
    cases (show u = Value.ref b from ry)
    obtain ⟨z, hd, xs, rel, dd⟩ := dt_rd I.hok e
    refine call_meetsIn PySem.F.slot_dict_get dd.typeIs PySem.F.entry_dict_get (PySem.F.args_dict_get_2 _ _) (meetsH_dict_get (tupleKind (mixKind X.prog X.w)) a b hd) ⟨tupleKind_room_in1 hu, k, xs, key_of I.hok eb, dd, h _ _ (I.tok _) ?_⟩
    rw [l]
    exact (rel.val k).getD rfl
/-- d.get(y, x) -/
theorem d_get2 {Q : Value → Shared → Prop} (hu : A.units + 1 < cLine) (I : Inv X pins σ H s) (g : DGet H a y o) (ry : RelV y u) (rd : RelV d r) (h : ∀ w' s', Inv X pins σ H s' → RelV (o.getD d) w' → Q w' s') :
    wpAny (model X.prog X.w) A (call (.builtin "dict.get") [.ref a, u, r]) Q E s := by
  rcases g with ⟨kvs, k, e, ey, l⟩ | ⟨kvs, k, b, e, ey, eb, l⟩
  · subst ey
    obtain ⟨z, hd, vs, rel, dd⟩ := dk_rd I.hok e
    refine call_meetsIn PySem.F.slot_dict_get dd.typeIs PySem.F.entry_dict_get (PySem.F.args_dict_get_3 _ _ _) (meets_dict_get_default (mixKind X.prog X.w) a (kV_is ry) hd r) ⟨_, dd.mapOf, h _ _ (I.tok _) ?_⟩
    rw [l]
    exact (rel.val k).getD rd
  · subst ey
    cases (show u = Value.ref b from ry)
    obtain ⟨z, hd, xs, rel, dd⟩ := dt_rd I.hok e
    refine call_meetsIn PySem.F.slot_dict_get dd.typeIs PySem.F.entry_dict_get (PySem.F.args_dict_get_3 _ _ _) (meetsH_dict_get_default (tupleKind (mixKind X.prog X.w)) a b hd r) ⟨tupleKind_room_in1 hu, k, xs, key_of I.hok eb, dd, h _ _ (I.tok _) ?_⟩
    rw [l]
    exact (rel.val k).getD rd
end

def tDGet1 (td ty : TE) : TE := fun σ H Q => td σ H fun x H1 => ∃ a, x = .ref a ∧ IsD H1 a ∧ ty σ H1 fun y H2 => ∃ o, DGet H2 a y o ∧ Q (o.getD .non) H2
def tDGet2 (td ty tx : TE) : TE := fun σ H Q => td σ H fun x H1 => ∃ a, x = .ref a ∧ IsD H1 a ∧ ty σ H1 fun y H2 => tx σ H2 fun z H3 => ∃ o, DGet H3 a y o ∧ Q (o.getD z) H3
/-- d.pop(k): there; d.pop(k, x): there or not -/
def tDPop1 (td ty : TE) : TE := fun σ H Q => td σ H fun x H1 => ∃ a, x = .ref a ∧ IsD H1 a ∧ ty σ H1 fun y H2 => ∃ kvs k v, H2 a = some (.dK kvs) ∧ y = kV k ∧ valV kvs k = some v ∧ Q v (upd H2 a (.dK (dropK kvs k)))
def tDPop2 (td ty tx : TE) : TE := fun σ H Q => td σ H fun x H1 => ∃ a, x = .ref a ∧ IsD H1 a ∧ ty σ H1 fun y H2 => tx σ H2 fun z H3 => ∃ kvs k, H3 a = some (.dK kvs) ∧ y = kV k ∧
  (∀ v, valV kvs k = some v → Q v (upd H3 a (.dK (dropK kvs k)))) ∧ (valV kvs k = none → Q z H3)
section
variable {X : Cx} {o e f : Expr} {apos cpos : Pos} {td ty tx : TE}
theorem pe_dget1 (hu : X.A.units + 1 < cLine) (ho : PE X o td) (he : PE X e ty) (m : M1 X o "get" apos e cpos) : PE X (.Call (.Attribute o "get" apos) [e] [] cpos) (tDGet1 td ty) := by
  intro pins s σ H Q I h
  refine wpAny_Call_method m.base m.few m.line PySem.F.plainAttrs_dict PySem.F.slot_dict_get PySem.F.type_dict_get (thn (ho pins s σ H _ I h) fun u s1 ⟨x, H1, I1, rx, a, ex, d, q1⟩ => ?_)
  subst ex
  obtain rfl : u = Value.ref a := rx
  obtain ⟨t1, t2, _⟩ := isD_at I1 d
  refine ⟨t1, t2, ?_⟩
  rw [m.trees]
  refine Calls.callWith_builtin rfl (Calls.evalArgs_plain (Calls.spliced_cons (thn (he pins s1 σ H1 _ I1 q1) fun iv s2 ⟨y, H2, I2, ry, ov, g, q2⟩ => Calls.spliced_nil ?_)))
  exact d_get1 hu I2 g ry fun w' s3 I3 rw' => ⟨_, H2, I3, rw', q2⟩
theorem pe_dget2 (hu : X.A.units + 1 < cLine) (ho : PE X o td) (he : PE X e ty) (hf : PE X f tx) (m : M2 X o "get" apos e f cpos) : PE X (.Call (.Attribute o "get" apos) [e, f] [] cpos) (tDGet2 td ty tx) := by
  intro pins s σ H Q I h
  refine wpAny_Call_method m.base m.few m.line PySem.F.plainAttrs_dict PySem.F.slot_dict_get PySem.F.type_dict_get (thn (ho pins s σ H _ I h) fun u s1 ⟨x, H1, I1, rx, a, ex, d, q1⟩ => ?_)
  subst ex
  obtain rfl : u = Value.ref a := rx
  obtain ⟨t1, t2, _⟩ := isD_at I1 d
  refine ⟨t1, t2, ?_⟩
  rw [m.trees]
  refine Calls.callWith_builtin rfl (Calls.evalArgs_plain (Calls.spliced_cons (thn (he pins s1 σ H1 _ I1 q1) fun iv s2 ⟨y, H2, I2, ry, q2⟩ =>
    Calls.spliced_cons (thn (hf pins s2 σ H2 _ I2 q2) fun fv s3 ⟨z, H3, I3, rz, ov, g, q3⟩ => Calls.spliced_nil ?_))))
  exact d_get2 hu I3 g ry rz fun w' s4 I4 rw' => ⟨_, H3, I4, rw', q3⟩
theorem pe_dpop1 (ho : PE X o td) (he : PE X e ty) (m : M1 X o "pop" apos e cpos) : PE X (.Call (.Attribute o "pop" apos) [e] [] cpos) (tDPop1 td ty) := by
  intro pins s σ H Q I h
  refine wpAny_Call_method m.base m.few m.line PySem.F.plainAttrs_dict PySem.F.slot_dict_pop PySem.F.type_dict_pop (thn (ho pins s σ H _ I h) fun u s1 ⟨x, H1, I1, rx, a, ex, d, q1⟩ => ?_)
  subst ex
  obtain rfl : u = Value.ref a := rx
  obtain ⟨t1, t2, _⟩ := isD_at I1 d
  refine ⟨t1, t2, ?_⟩
  rw [m.trees]
  refine Calls.callWith_builtin rfl (Calls.evalArgs_plain (Calls.spliced_cons (thn (he pins s1 σ H1 _ I1 q1) fun iv s2 ⟨y, H2, I2, ry, kvs, k, v, ea, ey, l, q2⟩ => Calls.spliced_nil ?_)))
  subst ey
  exact d_pop I2 ea ry l (.inl rfl) fun w' s3 I3 rw' => ⟨v, _, I3, rw', q2⟩
theorem pe_dpop2 (ho : PE X o td) (he : PE X e ty) (hf : PE X f tx) (m : M2 X o "pop" apos e f cpos) : PE X (.Call (.Attribute o "pop" apos) [e, f] [] cpos) (tDPop2 td ty tx) := by
  intro pins s σ H Q I h
  refine wpAny_Call_method m.base m.few m.line PySem.F.plainAttrs_dict PySem.F.slot_dict_pop PySem.F.type_dict_pop (thn (ho pins s σ H _ I h) fun u s1 ⟨x, H1, I1, rx, a, ex, d, q1⟩ => ?_)
  subst ex
  obtain rfl : u = Value.ref a := rx
  obtain ⟨t1, t2, _⟩ := isD_at I1 d
  refine ⟨t1, t2, ?_⟩
  rw [m.trees]
  refine Calls.callWith_builtin rfl (Calls.evalArgs_plain (Calls.spliced_cons (thn (he pins s1 σ H1 _ I1 q1) fun iv s2 ⟨y, H2, I2, ry, q2⟩ =>
    Calls.spliced_cons (thn (hf pins s2 σ H2 _ I2 q2) fun fv s3 ⟨z, H3, I3, rz, kvs, k, ea, ey, q3, q4⟩ => Calls.spliced_nil ?_))))
  subst ey
  cases l : valV kvs k with
  | some v => exact d_pop I3 ea ry l (.inr ⟨fv, rfl⟩) fun w' s4 I4 rw' => ⟨v, _, I4, rw', q3 v l⟩
  | none => exact d_popD I3 ea ry l fun s4 I4 => ⟨z, H3, I4, rz, q4 l⟩
end

/-! ### dict(d): a copy -/
section
variable {X : Cx} {pins : List (Addr × Obj)} {σ : St} {H : Hp} {s : Shared} {a : Addr} {kvs : List (Key × V)} {A : Around} {E : Value → Shared → Prop}
theorem d_copyOf {Q : Value → Shared → Prop} (I : Inv X pins σ H s) (e : Rd H a (.dK kvs)) (h : ∀ p s', H p = none → Inv X pins σ (upd H p (.dK kvs)) s' → Q (.ref p) s') : wpAny (model X.prog X.w) A (call (.type "dict") [.ref a]) Q E s := by
  obtain ⟨z, hd, vs, rel, dd⟩ := dk_rd I.hok e
  refine kt_call_dict hd dd (by rw [← rel.length]; exact z) fun h' dd' hs => ?_
  refine h _ _ (I.hok.fresh (Nat.le_refl _)) (I.laid (a := s.heap.objs.size) (o := .dK kvs) (t' := s.toks) (fun b q hq => ?_) (Nat.le_refl _) (dk_new z (beq_eq_false_iff_ne.mpr (Ne.symm (Nat.ne_of_lt I.big))) rel dd'))
  exact (hs.2 b (Nat.ne_of_lt (Heap.lt_size hq))).trans (Heap.get?_push_of_some _ hq)
end


section
variable {X : Cx} {pins : List (Addr × Obj)} {σ : St} {H : Hp} {s : Shared} {a : Addr} {y : V} {u : Value} {A : Around} {E : Value → Shared → Prop}
/-- d[y], not there: a KeyError -/
theorem d_missing {Q : Value → Shared → Prop} (hu : A.units + 1 < cLine) (hh : A.handled = none) (I : Inv X pins σ H s) (g : DGet H a y none) (ry : RelV y u)
    (h : ∀ h' e t', Heap.NewExc s.heap h' e "KeyError" → E (.ref e) { s with heap := h', toks := t' }) : wpAny (model X.prog X.w) A (getItem (.ref a) u) Q E s := by
  rcases g with ⟨kvs, k, e, ey, l⟩ | ⟨kvs, k, b, e, ey, eb, l⟩
  · subst ey
    obtain ⟨z, hd, vs, rel, dd⟩ := dk_rd I.hok e
    have hn : valueAt vs k = none := RelO.none_of (by rw [l]; exact rel.val k)
    exact wpAny_getItem_missing_of (kV_is ry) hd hh dd.mapOf hn fun h' ex ne => h h' ex _ ne
  · subst ey
    cases (show u = Value.ref b from ry)
    obtain ⟨z, hd, xs, rel, dd⟩ := dt_rd I.hok e
    have hn : (atKey xs k).map (·.2) = none := RelO.none_of (by rw [l]; exact rel.val k)
    exact wpAny_getItem_missing_heap (tupleKind_room_in1 hu) (key_of I.hok eb) hd hh dd (Option.map_eq_none_iff.mp hn) fun h' ex ne => h h' ex _ ne
end
end L2
set_option Elab.async false
set_option linter.all false
set_option maxRecDepth 100000
set_option maxHeartbeats 4000000
namespace Bw
open PySem L2
/-! ### dict(d), a method of the text -/
theorem call_dictK {X : Cx} : CallR X (.type "dict") (fun xs H Q => ∃ d kvs, xs = [.ref d] ∧ H d = some (.dK kvs) ∧ ∀ p, H p = none → Q (.ref p) (upd H p (.dK kvs))) := by
  intro pins s σ H xs us Q I rs h
  obtain ⟨d, kvs, rfl, hd, q⟩ := h
  cases rs with
  | cons r rr =>
    cases rr
    cases (show _ = Value.ref d from r)
    exact d_copyOf I (.inl hd) fun p s' hp I' => ⟨.ref p, _, I', rfl, q p hp⟩
structure Mt (K : PySem.W.Frag) (C : Addr) (m qual : Str) (st : Stmt) (ps : List Str) (f : Addr) (fd : FuncData) : Prop where
  fn : Fun K m qual st f fd
  mt : Meth K C m f
  bd : Binds K fd ps []
theorem mt_mk {K : PySem.W.Frag} {C : Addr} {x qual : Str} {st : Stmt} {ps : List Str} {f : Addr} {oc : Value} {od an : Option Addr} {osl : Array (Option Value)} {kV doc pm cdv ct : Value}
    (b : ∀ (kV doc pm : Value) (an : Option Addr) (cdv ct : Value) (us : List Value), us.length = ps.length → bindArgs (PySem.W.fnOf x qual (defArgs st) (defBody st) (defScope st) .none kV doc pm an cdv ct) ⟨us, []⟩ = pure (ps.zip us))
    (a : PySem.W.findIn K (.ref C) x = some (some (.ref f))) (i : PySem.W.isFn K (.ref f) = true)
    (l : K.lookup f = some ⟨oc, od, .func (PySem.W.fnOf x qual (defArgs st) (defBody st) (defScope st) .none kV doc pm an cdv ct), osl⟩) (c : PySem.W.codeIn K cdv qual = true) (k : PySem.W.keepIn K (.ref f) = true) :
    ∃ (f : Addr) (fd : FuncData), Mt K C x qual st ps f fd := by
  have F := fun_mk (st := st) l c k
  exact ⟨f, _, F, ⟨a, i, k⟩, F.binds b⟩
structure Blt3 (mg : Str → Option Value) : Prop where
  dict : mg "dict" = none
  max : mg "max" = none
/-! ### the data of a day -/
theorem n_pa : ¬ (("parents" : Str) = "amounts") := by decide +kernel
theorem n_ph : ¬ (("parents" : Str) = "hand") := by decide +kernel
theorem n_ah : ¬ (("amounts" : Str) = "hand") := by decide +kernel
def flds (a b : Addr) (z : Int) : List (Str × V) := putF "hand" (.int z) (putF "amounts" (.ref b) (putF "parents" (.ref a) []))
theorem flds_eq (a b : Addr) (z : Int) : flds a b z = ([("parents", V.ref a), ("amounts", V.ref b), ("hand", V.int z)] : List (Str × V)) := by
  simp only [flds, putF, if_neg n_pa, if_neg n_ph, if_neg n_ah]
theorem flds_p (a b : Addr) (z : Int) : (flds a b z).lookup ("parents" : Str) = some (.ref a) := by
  unfold flds
  rw [lookup_putF, if_neg n_ph, lookup_putF, if_neg n_pa, lookup_putF, if_pos rfl]
theorem flds_a (a b : Addr) (z : Int) : (flds a b z).lookup ("amounts" : Str) = some (.ref b) := by
  unfold flds
  rw [lookup_putF, if_neg n_ah, lookup_putF, if_pos rfl]
theorem flds_h (a b : Addr) (z : Int) : (flds a b z).lookup ("hand" : Str) = some (.int z) := by
  unfold flds
  rw [lookup_putF, if_pos rfl]
theorem flds_no (a b : Addr) (z : Int) {m : Str} (h1 : ¬ m = "hand") (h2 : ¬ m = "amounts") (h3 : ¬ m = "parents") : (flds a b z).lookup m = none := by
  unfold flds
  rw [lookup_putF, if_neg h1, lookup_putF, if_neg h2, lookup_putF, if_neg h3]
  rfl
theorem flds_put (a b : Addr) (z y : Int) : putF "hand" (.int y) (flds a b z) = flds a b y := by
  rw [flds_eq, flds_eq]
  simp only [putF, if_neg n_ph, if_neg n_ah, if_pos]
theorem flds_few (a b : Addr) (z : Int) : (flds a b z).length < 1000 := by
  rw [flds_eq]
  show 3 < 1000
  decide
/-- the dict of the state i -/
def DictAt (H : Hp) (d : Addr) (ps : List Nat) (st : List (Str × Int)) (i : Nat) : Prop := ∃ kvs : List (Key × V), H d = some (.dK kvs) ∧ kvs.length ≤ i ∧ (kvs.map (·.1)).Nodup ∧ (∀ kv ∈ kvs, ∃ (n : Str) (z : Int), kv = (Sum.inr n, V.int z)) ∧
  ∀ n : Str, (valV kvs (Sum.inr n : Key)).getD (.int 0) = .int (amt ps st n i)
structure DayAt (C : Addr) (H : Hp) (p a b : Addr) (D : DayS Str) : Prop where
  ob : ∃ dx, H p = some (.ins C dx (flds a b (D.hd : Nat)))
  pa : H a = some (.lst (vT D.ps))
  am : ∃ ds : List Addr, H b = some (.lst (ds.map V.ref)) ∧ ds.length = D.ps.length + 1 ∧ ∀ (i : Nat) (d : Addr), ds[i]? = some d → DictAt H d D.ps D.st i
  ok : D.Ok ("" : Str)
  le : D.ps.length ≤ 600
/-- all but the day's own three objects stays -/
def Kp (H H' : Hp) (p a b : Addr) : Prop := ∀ c o, H c = some o → c ≠ p → c ≠ a → c ≠ b → H' c = some o
theorem DayAt.ab {C : Addr} {H : Hp} {p a b : Addr} {D : DayS Str} (d : DayAt C H p a b D) : a ≠ b := fun z => by
  obtain ⟨ds, h1, h2, _⟩ := d.am
  have h3 := d.pa
  rw [z, h1] at h3
  have h4 : ds.map V.ref = vT D.ps := HO.lst.inj (Option.some.inj h3)
  cases ds with
  | nil => cases h4
  | cons x r => exact nomatch (List.cons.inj h4).1
theorem DayAt.pna {C : Addr} {H : Hp} {p a b : Addr} {D : DayS Str} (d : DayAt C H p a b D) : p ≠ a := by
  obtain ⟨dx, h⟩ := d.ob
  exact ne_of h d.pa (by intro z; cases z)
theorem DayAt.pnb {C : Addr} {H : Hp} {p a b : Addr} {D : DayS Str} (d : DayAt C H p a b D) : p ≠ b := by
  obtain ⟨dx, h⟩ := d.ob
  obtain ⟨ds, h1, _⟩ := d.am
  exact ne_of h h1 (by intro z; cases z)
theorem DictAt.to {H H' : Hp} {d : Addr} {ps : List Nat} {st : List (Str × Int)} {i : Nat} (x : DictAt H d ps st i) (k : ∀ o, H d = some o → H' d = some o) : DictAt H' d ps st i := by
  obtain ⟨kvs, h1, h⟩ := x
  exact ⟨kvs, k _ h1, h⟩
theorem DayAt.same {C : Addr} {H H' : Hp} {p a b : Addr} {D : DayS Str} (d : DayAt C H p a b D) (s : Same H H') : DayAt C H' p a b D := by
  obtain ⟨dx, h⟩ := d.ob
  obtain ⟨ds, h1, h2, h3⟩ := d.am
  exact ⟨⟨dx, s _ _ h⟩, s _ _ d.pa, ⟨ds, s _ _ h1, h2, fun i e he => (h3 i e he).to fun o z => s _ _ z⟩, d.ok, d.le⟩
theorem DayAt.tree {C : Addr} {H : Hp} {p a b : Addr} {D : DayS Str} {K : PySem.W.Frag} (d : DayAt C H p a b D) : TreeAt K H a D.ps := ⟨SqL.of d.pa, d.ok.gd, d.le⟩
theorem Kp.of_same {H H' : Hp} {p a b : Addr} (s : Same H H') : Kp H H' p a b := fun c o e _ _ _ => s c o e
theorem Kp.trans {H H1 H2 : Hp} {p a b : Addr} (h : Kp H H1 p a b) (h' : Kp H1 H2 p a b) : Kp H H2 p a b := fun c o e n1 n2 n3 => h' c o (h c o e n1 n2 n3) n1 n2 n3
/-- what the answer to a deed is, at the state ahead of it -/
def AnsAt (ex : List Addr) (H : Hp) (D : DayS Str) : Deed Str → V → Prop
  | .step _ _, v => v = .int ((D.ps.length + 1 : Nat) : Int)
  | .go z, v => (¬ InS D z ∧ v = .non) ∨ (InS D z ∧ ∃ q l r, v = .ref q ∧ H q = some (.tup [.ref l, .ref r]) ∧ H l = some (.lst (vN (bel D.ps (meet D.ps D.hd z.toNat) D.hd))) ∧ H r = some (.lst (vN (bel D.ps (meet D.ps D.hd z.toNat) z.toNat).reverse)) ∧ q ∉ ex ∧ l ∉ ex ∧ r ∉ ex)
  | .val n, v => v = .int (amt D.ps D.st n D.hd)
  | .com y z, v => (¬ (InS D y ∧ InS D z) ∧ v = .non) ∨ ((InS D y ∧ InS D z) ∧ v = .int ((meet D.ps y.toNat z.toNat : Nat) : Int))
theorem AnsAt.to {ex ex' : List Addr} {H H' : Hp} {D : DayS Str} {d : Deed Str} {v : V} (x : AnsAt ex H D d v) (k : ∀ c o, H c = some o → c ∉ ex → H' c = some o) (hs : ∀ c ∈ ex', c ∈ ex) : AnsAt ex' H' D d v := by
  cases d with
  | step n a => exact x
  | val n => exact x
  | com y z => exact x
  | go z =>
    rcases x with x | ⟨hi, q, l, r, e, h1, h2, h3, n1, n2, n3⟩
    · exact .inl x
    · exact .inr ⟨hi, q, l, r, e, k _ _ h1 n1, k _ _ h2 n2, k _ _ h3 n3, fun z => n1 (hs _ z), fun z => n2 (hs _ z), fun z => n3 (hs _ z)⟩
/-- the answer's own objects are new -/
def AnsNew (H H' : Hp) (D : DayS Str) (d : Deed Str) (v : V) : Prop := ∀ ex : List Addr, (∀ c ∈ ex, ∃ o, H c = some o) → AnsAt ex H' D d v
theorem DayAt.to {C : Addr} {H H' : Hp} {p a b : Addr} {D : DayS Str} (d : DayAt C H p a b D) (k : ∀ c o, H c = some o → c = a ∨ c = b ∨ (∀ xs, o ≠ .lst xs) → H' c = some o) : DayAt C H' p a b D := by
  obtain ⟨dx, h⟩ := d.ob
  obtain ⟨ds, h1, h2, h3⟩ := d.am
  refine ⟨⟨dx, k _ _ h (.inr (.inr fun xs z => by cases z))⟩, k _ _ d.pa (.inl rfl), ⟨ds, k _ _ h1 (.inr (.inl rfl)), h2, fun i e he => ?_⟩, d.ok, d.le⟩
  obtain ⟨kvs, q, r⟩ := h3 i e he
  exact ⟨kvs, k _ _ q (.inr (.inr fun xs z => by cases z)), r⟩
theorem DayAt.go {C : Addr} {H H' : Hp} {p a b : Addr} {D : DayS Str} {n : Nat} (d : DayAt C H p a b D) (hn : n ≤ D.ps.length) (ho : ∃ dx, H' p = some (.ins C dx (flds a b (n : Nat)))) (k : ∀ c o, H c = some o → c ≠ p → H' c = some o) : DayAt C H' p a b ⟨D.ps, D.st, n⟩ := by
  have npa := d.pna
  have npb := d.pnb
  obtain ⟨dx, h⟩ := d.ob
  obtain ⟨ds, h1, h2, h3⟩ := d.am
  refine ⟨ho, k _ _ d.pa npa.symm, ⟨ds, k _ _ h1 npb.symm, h2, fun i e he => ?_⟩, ⟨d.ok.gd, d.ok.ln, hn, d.ok.s0⟩, d.le⟩
  obtain ⟨kvs, q, r⟩ := h3 i e he
  exact ⟨kvs, k _ _ q (ne_of q h (by intro z; cases z)), r⟩
/-- a deed as a value -/
def deedV : Deed Str → List V
  | .step n a => [.str "step", .str n, .int a]
  | .go z => [.str "go", .int z]
  | .val n => [.str "value", .str n]
  | .com y z => [.str "common", .int y, .int z]
def DeedAt (H : Hp) (v : V) (d : Deed Str) : Prop := ∃ t, v = .ref t ∧ H t = some (.tup (deedV d))
theorem DeedAt.same {H H' : Hp} {v : V} {d : Deed Str} (x : DeedAt H v d) (s : Same H H') : DeedAt H' v d := by
  obtain ⟨t, e, h⟩ := x
  exact ⟨t, e, s _ _ h⟩
def DeedsAt (H : Hp) (xs : List V) (ds : List (Deed Str)) : Prop := xs.length = ds.length ∧ ∀ (i : Nat) (x : V) (d : Deed Str), xs[i]? = some x → ds[i]? = some d → DeedAt H x d
def day0 : DayS Str := ⟨[], [("", 0)], 0⟩
theorem day0_ok : day0.Ok ("" : Str) := ⟨fun i p e => (by cases e), rfl, Nat.le_refl _, rfl⟩
def run (ds : List (Deed Str)) (i : Nat) : DayS Str := (ds.take i).foldl DayS.next day0
theorem run_zero (ds : List (Deed Str)) : run ds 0 = day0 := rfl
theorem run_succ {ds : List (Deed Str)} {i : Nat} {d : Deed Str} (h : ds[i]? = some d) : run ds (i + 1) = (run ds i).next d := by
  unfold run
  rw [List.take_add_one, h, List.foldl_append]
  rfl
theorem run_ok (ds : List (Deed Str)) (i : Nat) : (run ds i).Ok ("" : Str) := by
  unfold run
  generalize ds.take i = l
  have : ∀ (l : List (Deed Str)) (D : DayS Str), D.Ok ("" : Str) → (l.foldl DayS.next D).Ok ("" : Str) := by
    intro l
    induction l with
    | nil => intro D h; exact h
    | cons d r ih => intro D h; exact ih _ (h.next d)
  exact this l day0 day0_ok
theorem run_len (ds : List (Deed Str)) (i : Nat) : (run ds i).ps.length ≤ i := by
  have : ∀ (l : List (Deed Str)) (D : DayS Str), (l.foldl DayS.next D).ps.length ≤ D.ps.length + l.length := by
    intro l
    induction l with
    | nil => intro D; exact Nat.le_refl _
    | cons d r ih =>
      intro D
      have h1 := ih (D.next d)
      have h2 := next_len D d
      rw [List.length_cons]
      show (r.foldl DayS.next (D.next d)).ps.length ≤ _
      omega
  have h := this (ds.take i) day0
  have h2 : (ds.take i).length ≤ i := List.length_take_le _ _
  have h3 : day0.ps.length = 0 := rfl
  unfold run
  omega
/-- a step's new dict -/
theorem DictAt.step {H H' : Hp} {d e : Addr} {D : DayS Str} {kvs : List (Key × V)} {n : Str} {z : Int} (o : D.Ok ("" : Str)) (hl : kvs.length ≤ D.hd) (nd : (kvs.map (·.1)).Nodup) (hk : ∀ kv ∈ kvs, ∃ (n : Str) (z : Int), kv = (Sum.inr n, V.int z))
    (hv : ∀ n : Str, (valV kvs (Sum.inr n : Key)).getD (.int 0) = .int (amt D.ps D.st n D.hd)) (he : H' e = some (.dK (putK kvs (Sum.inr n : Key) (.int (amt D.ps D.st n D.hd + z))))) :
    DictAt H' e (D.ps ++ [D.hd]) (D.st ++ [(n, z)]) (D.ps.length + 1) := by
  have hln := length_putK kvs (Sum.inr n : Key) (.int (amt D.ps D.st n D.hd + z))
  have hhl := o.hl
  refine ⟨_, he, by omega, ?_, ?_, fun m => ?_⟩
  · cases e1 : valV kvs (Sum.inr n : Key) with
    | none =>
      rw [putK_new _ e1, List.map_append]
      rw [List.nodup_append]
      refine ⟨nd, by simp, fun x hx y hy => ?_⟩
      have hy' : y = Sum.inr n := by simpa using hy
      subst hy'
      intro z'
      subst z'
      obtain ⟨kv, hkv, ek⟩ := List.mem_map.mp hx
      have h5 := valV_any (Sum.inr n : Key) kvs
      rw [e1] at h5
      have h6 := List.any_eq_false.mp h5 kv hkv
      exact h6 (decide_eq_true ek)
    | some v =>
      have e2 : (putK kvs (Sum.inr n : Key) (.int (amt D.ps D.st n D.hd + z))).map (·.1) = kvs.map (·.1) := by
        unfold putK
        have h5 := valV_any (Sum.inr n : Key) kvs
        rw [e1] at h5
        rw [if_pos (show (kvs.any fun kv => decide (kv.1 = (Sum.inr n : Key))) = true from h5), List.map_map]
        apply List.map_congr_left
        intro kv _
        by_cases q : kv.1 = Sum.inr n
        · simp [q]
        · simp [q]
      rw [e2]
      exact nd
  · intro kv hkv
    unfold putK at hkv
    split at hkv
    · obtain ⟨kv', h1, h2⟩ := List.mem_map.mp hkv
      split at h2
      · rename_i q
        exact ⟨n, _, by rw [← h2, q]⟩
      · rw [← h2]; exact hk kv' h1
    · rcases List.mem_append.mp hkv with h | h
      · exact hk kv h
      · exact ⟨n, _, by simpa using h⟩
  · rw [valV_put, amt_new o.ln o.hl]
    by_cases q : m = n
    · subst q
      rw [if_pos rfl, if_pos rfl]
      show V.int _ = V.int _
      congr 1
      omega
    · rw [if_neg (fun z => q (Sum.inr.inj z)), if_neg (fun z => q z.symm), hv m]
      congr 1
      omega
theorem DictAt.snoc {H : Hp} {d : Addr} {D : DayS Str} {n : Str} {z : Int} {i : Nat} (x : DictAt H d D.ps D.st i) (o : D.Ok ("" : Str)) (hi : i ≤ D.ps.length) : DictAt H d (D.ps ++ [D.hd]) (D.st ++ [(n, z)]) i := by
  obtain ⟨kvs, h1, h2, h3, h4, h5⟩ := x
  exact ⟨kvs, h1, h2, h3, h4, fun m => by rw [h5 m, amt_snoc o.ln hi]⟩
end Bw
set_option Elab.async false
set_option linter.all false
set_option maxRecDepth 100000
set_option maxHeartbeats 4000000
namespace Bw
open PySem L2
/-! ### list comprehensions: one name x, one captured name y -/
structure CSc (scope : Scope) (x y : Str) : Prop where
  kind : scope.kind = .function
  names : scope.names = [((".0" : Str), NameKind.local), (x, NameKind.local), (y, NameKind.free)]
  n1 : (x == (".0" : Str)) = false
  n2 : (y == (".0" : Str)) = false
  n3 : (y == x) = false
theorem CSc.cell {scope : Scope} {x y : Str} (c : CSc scope x y) : ∀ z ∈ scope.names, z.2 ≠ .cell := by
  rw [c.names]
  intro z hz
  rcases List.mem_cons.mp hz with rfl | hz
  · exact fun z => nomatch z
  rcases List.mem_cons.mp hz with rfl | hz
  · exact fun z => nomatch z
  rcases List.mem_cons.mp hz with rfl | hz
  · exact fun z => nomatch z
  cases hz
theorem CSc.hx {scope : Scope} {x y : Str} (c : CSc scope x y) : scope.names.lookup x = some .local := by
  rw [c.names, List.lookup_cons, c.n1]
  simp [List.lookup_cons]
theorem CSc.loc {scope : Scope} {x y : Str} (c : CSc scope x y) : ∀ z ∈ scope.names, z.2 = .local → scope.names.lookup z.1 = some .local := by
  intro z hz hl
  have hz' := hz
  rw [c.names] at hz'
  rcases List.mem_cons.mp hz' with rfl | hz'
  · rw [c.names]
    simp [List.lookup_cons]
  rcases List.mem_cons.mp hz' with rfl | hz'
  · exact c.hx
  rcases List.mem_cons.mp hz' with rfl | hz'
  · cases hl
  cases hz'
theorem CSc.clos {scope : Scope} {x y : Str} (c : CSc scope x y) {env : Env} {a : Addr} (h : env.cells.lookup y = some a) : closureFor scope env = pure [(y, a)] := by
  unfold closureFor
  rw [c.names]
  have e : cellOf env y = pure a := by unfold cellOf; rw [h]
  simp only [List.forIn_cons, List.forIn_nil, e]
  rfl
theorem CSc.kx {scope : Scope} {x y : Str} (c : CSc scope x y) {env : Env} {cl : List (Str × Addr)} {C : Addr} : (compEnvC scope cl C env).kindOf x = some .local := lookup_relabel_local c.hx
theorem CSc.ky {scope : Scope} {x y : Str} (c : CSc scope x y) {env : Env} {cl : List (Str × Addr)} {C : Addr} (hk : env.scope.kind = .function) (hy : env.kindOf y = some .cell) : (compEnvC scope cl C env).kindOf y = some .cell := by
  show (scope.names.map fun (n, k) => if (k == NameKind.free && env.scope.kind == .function && env.kindOf n == some .cell) then (n, NameKind.cell) else (n, k)).lookup y = _
  rw [c.names]
  have e1 : (NameKind.local == NameKind.free) = false := rfl
  have e2 : (NameKind.free == NameKind.free) = true := rfl
  have e3 : (ScopeKind.function == ScopeKind.function) = true := rfl
  simp only [List.map_cons, List.map_nil, e1, e2, hk, hy, e3, Bool.false_and, Bool.false_eq_true, if_false, Bool.true_and]
  simp [List.lookup_cons, c.n2, c.n3]
theorem Keeps.refl' (s : Shared) : Keeps s s := ⟨s.heap, s.toks, rfl, fun _ _ e => e⟩
theorem Keeps.toks (s : Shared) (t : Nat) : Keeps s { s with toks := t } := ⟨s.heap, t, rfl, fun _ _ e => e⟩
section
variable {X : Cx} {pins : List (Addr × Obj)} {σ : St} {H : Hp} {s₂ : Shared}
theorem comp_core {elt iter : Expr} {x : Str} {px pos : Pos} {ifs : List Expr} {scope : Scope} {cl : List (Str × Addr)} {it : Addr} {n : Nat} {P : Nat → Value → Prop} {St : Nat → Heap → Prop} {p : Value → Bool} {F : Value → Value → Prop} {R : List V → Prop}
    {use : Option (Value → Sem Unit)} {Q : Value → Shared → Prop} {fp : List Addr} (I : Inv X pins σ H s₂) (W : Walks X.prog X.w X.A it fp [it] n P St) (hsz : n ≤ sizeLine) (hcell : ∀ y ∈ scope.names, y.2 ≠ .cell) (hkind : scope.kind = .function) (hx : scope.names.lookup x = some .local)
    (hst : St 0 s₂.heap) (hfp : ∀ b ∈ fp, b < s₂.heap.objs.size) (hit : FpOk X pins H it) (hq : QuietOnC X.prog X.w X.A X.env scope cl x ifs elt [it] P p F s₂)
    (hnew : ∀ vs ys : List Value, vs.length = n → (∀ j v, vs[j]? = some v → P j v) → Paired F (vs.filter p) ys → ∃ zs, Vals zs ys ∧ zs.length ≤ sizeLine ∧ R zs)
    (cont : ∀ (D C : Addr) zs s' m', R zs → H D = none → Inv X pins σ (upd H D (.lst zs)) s' → s'.heap.Ns C m' → FpOk X pins (upd H D (.lst zs)) C → compPost (model X.prog X.w) X.A X.xe use Q (.ref D) C (.ok .next) s') :
    wpAny (model X.prog X.w) X.A (newList []) (fun acc s₃ => wpAny (model X.prog X.w) X.A (newFunctionEnv scope X.env.globals cl [] X.env.qual none .none (some X.env)) (fun cenv s₄ =>
      codeAny (model X.prog X.w) X.A (.compStart (.ListComp elt [⟨.Name x px, iter, ifs, 0⟩] scope pos) 0 (.ref it) acc { cenv with scope := relabel scope X.env }) (compPost (model X.prog X.w) X.A X.xe use Q acc cenv.locals) s₄) X.xe s₃) X.xe s₂ := by
  have ng : ∀ a, s₂.heap.objs.size ≤ a → s₂.heap.get? a = none := fun a ha => Heap.get?_none_of_le ha
  obtain ⟨f0, f1, f2, f3, f4, f5⟩ := hit
  refine wpAny_newObj_type ?_
  generalize hG : s₂.heap.push { cls := .type "list", dict := none, data := .seq ([] : List Value).toArray } = G
  have hGs : G.objs.size = s₂.heap.objs.size + 1 := by rw [← hG, Heap.size_push]
  have hGk : ∀ b o, s₂.heap.get? b = some o → G.get? b = some o := fun b o e => by rw [← hG]; exact Heap.get?_push_of_some _ e
  have hGD : G.get? s₂.heap.objs.size = some { cls := .type "list", dict := none, data := .seq ([] : List Value).toArray } := by rw [← hG]; exact Heap.get?_push_size _ rfl
  refine wpAny_newFunctionEnv hcell (fun z hz => by cases hz) (fun g hns hsb => ?_) hkind
  dsimp only at hns hsb ⊢
  have hlt : ∀ b, b < s₂.heap.objs.size → b ≠ G.objs.size ∧ b ≠ s₂.heap.objs.size := fun b hb => ⟨by rw [hGs]; exact Nat.ne_of_lt (Nat.lt_succ_of_lt hb), Nat.ne_of_lt hb⟩
  have hDC : s₂.heap.objs.size ≠ G.objs.size := by rw [hGs]; exact Nat.ne_of_lt (Nat.lt_succ_self _)
  have hle : s₂.heap.objs.size ≤ G.objs.size := by rw [hGs]; exact Nat.le_succ _
  have keep : ∀ b o, s₂.heap.get? b = some o → g.get? b = some o := fun b o e => hsb.extBut b o (hlt b (Heap.lt_size e)).1 (Heap.get?_push_of_some _ (hGk b o e))
  have hacc : g.PlainList s₂.heap.objs.size #[] := ⟨_, hsb.extBut _ _ hDC (Heap.get?_push_of_some _ hGD)⟩
  have st0 : St 0 g := W.frame _ _ _ hst fun b _ o e => keep b o e
  have nD : s₂.heap.objs.size ∉ fp := fun z => absurd (hfp _ z) (Nat.lt_irrefl _)
  have nC : G.objs.size ∉ fp := fun z => absurd (hfp _ z) (Nat.not_lt.mpr hle)
  have main : ∀ s₃ : Shared, s₃ = { s₂ with heap := g, toks := s₂.toks + ([] : List (Str × Value)).length } →
      codeAny (model X.prog X.w) X.A (.compLoop (.ListComp elt [⟨.Name x px, iter, ifs, 0⟩] scope pos) 0 (.ref it) (.ref s₂.heap.objs.size) (compEnvC scope cl G.objs.size X.env))
        (compPost (model X.prog X.w) X.A X.xe use Q (.ref s₂.heap.objs.size) G.objs.size) s₃ := by
    intro s₃ e₃
    subst e₃
    refine codeAny_compLoop_walk (cenv := compEnvC scope cl G.objs.size X.env) (hsz := hsz) W p F (lookup_relabel_local hx) (by simp [compEnvC, relabel, hkind]) hDC nD nC st0 hacc hns ?_ ?_ ?_
    · intro i v s₄ m₄ hv hn hm hk htk
      exact hq.tests _ i v s₄ m₄ _ hle hv hn hm (fun b o hb e => hk b o (hlt b (Heap.lt_size e)).1 hb (hlt b (Heap.lt_size e)).2 (keep b o e)) htk
    · intro i v s₄ m₄ hv hpv hn hm hk htk
      exact hq.elt _ i v s₄ m₄ _ hle hv hpv hn hm (fun b o hb e => hk b o (hlt b (Heap.lt_size e)).1 hb (hlt b (Heap.lt_size e)).2 (keep b o e)) htk
    · intro h' tk m' ys vs hn hl hpl hlen hP hF hk
      obtain ⟨zs, rz, lz, hR⟩ := hnew vs ys.toList hlen hP hF
      have hk' : ∀ b o, b ≠ it → s₂.heap.get? b = some o → h'.get? b = some o := fun b o hb e => hk b o (hlt b (Heap.lt_size e)).1 (by simpa using hb) (hlt b (Heap.lt_size e)).2 (keep b o e)
      have hHC : H G.objs.size = none := I.hok.fresh hle
      have J : Inv X pins σ (upd H s₂.heap.objs.size (.lst zs)) { s₂ with heap := h', toks := tk } := by
        refine turnLaid I (t' := tk) (o := .lst zs) hk' f0 f1 f3 f4 f5 (Nat.le_refl _) ?_
        obtain ⟨c, e⟩ := hpl
        refine ⟨lz, ys.toList, c, rz, ?_⟩
        rw [Array.toArray_toList]
        exact e
      exact cont _ G.objs.size zs _ m' hR (I.hok.fresh (Nat.le_refl _)) J hn (I.fpOk hle (by rw [upd_ne (Ne.symm hDC)]; exact hHC))
  exact codeAny_compStart_list (main _ rfl) (W.self 0 _ _ _ st0 (main _ rfl))
/-- the items that a test lets through -/
def pU (q : V → Bool) : Value → Bool
  | .int i _ => q (.int i)
  | _ => false
def AllI (xs : List V) : Prop := ∀ x ∈ xs, ∃ i : Int, x = .int i
theorem vals_filter {q : V → Bool} : ∀ {xs : List V} {us : List Value}, Vals xs us → AllI xs → Vals (xs.filter q) (us.filter (pU q))
  | _, _, .nil, _ => .nil
  | x :: xs, u :: us, .cons r t, h => by
    obtain ⟨i, rfl⟩ := h x List.mem_cons_self
    obtain ⟨tk, rfl⟩ := r
    have ih := vals_filter (q := q) t fun z hz => h z (List.mem_cons_of_mem _ hz)
    have e : pU q (.int i tk) = q (.int i) := rfl
    rw [List.filter_cons, List.filter_cons, e]
    cases q (.int i) with
    | true => exact .cons ⟨tk, rfl⟩ ih
    | false => exact ih
def qIn (neg : Bool) (ys : List V) (x : V) : Bool := if neg then !inV x ys else inV x ys
def OpIn (op : CmpOp) (neg : Bool) : Prop := (op = .In ∧ neg = false) ∨ (op = .NotIn ∧ neg = true)
theorem cmp_in {A : Around} {E : Value → Shared → Prop} {prog : Program} {w : World} {s : Shared} {op : CmpOp} {neg : Bool} {b : Addr} {its : List Value} {ys : List V} {i : Int} {t : Tok} {Q : Value → Shared → Prop} (hop : OpIn op neg) (hb : s.heap.IsList b its.toArray) (r : Vals ys its) (fy : ys.all flatV = true)
    (h : Q (.bool (qIn neg ys (.int i))) s) : wpAny (model prog w) A (compareOp op (.int i t) (.ref b)) Q E s := by
  have e : its.toArray.any (eqU (.int i)) = inV (.int i) ys := by
    rw [show its.toArray.any (eqU (.int i)) = its.any (eqU (.int i)) by simp, any_eqU r fy]
    rfl
  rcases hop with ⟨rfl, rfl⟩ | ⟨rfl, rfl⟩
  · refine SeqAt.in_listAt (eqU (.int i)) hb (fun w hw => mem_eqAt (x := .int i) ⟨t, rfl⟩ rfl r fy w (by simpa using hw)) ?_
    rw [e]
    exact h
  · refine SeqAt.notIn_listAt (eqU (.int i)) hb (fun w hw => mem_eqAt (x := .int i) ⟨t, rfl⟩ rfl r fy w (by simpa using hw)) ?_
    rw [e]
    exact h
theorem quiet_filt {x y : Str} {p1 p2 p3 p4 : Pos} {scope : Scope} {op : CmpOp} {neg : Bool} {it c b : Addr} {its items : List Value} {xs ys : List V} (S : CSc scope x y) (hkf : X.env.scope.kind = .function) (hk : X.env.kindOf y = some .cell) (hcv : s₂.heap.IsCell c (some (.ref b)))
    (hb : s₂.heap.IsList b its.toArray) (r : Vals ys its) (fy : ys.all flatV = true) (rx : Vals xs items) (hx : AllI xs) (nc : c ≠ it) (nb : b ≠ it) (hop : OpIn op neg)
    (hm : behindInMarks op (.Name y p3) = false) (dx : (x == ("__debug__" : Str)) = false) (dy : (y == ("__debug__" : Str)) = false) :
    QuietOnC X.prog X.w X.A X.env scope [(y, c)] x [.Compare (.Name x p2) [op] [.Name y p3] p4] (.Name x p1) [it] (fun i v => items.toArray[i]? = some v) (pU (qIn neg ys)) Eq s₂ where
  tests := by
    intro C i v s₃ m₃ E' hC hP hn hm3 hk3 _
    have hy := hk3 c
    have cell3 : s₃.heap.IsCell c (some (.ref b)) := by
      obtain ⟨o, ho, hd⟩ := hcv
      exact ⟨o, hk3 c o (by simpa using nc) ho, hd⟩
    have list3 : s₃.heap.IsList b its.toArray := hb.at fun o e => hk3 b o (by simpa using nb) e
    have hP' : items[i]? = some v := by simpa using hP
    obtain ⟨j, z, rfl⟩ : ∃ j t, v = .int j t := by
      obtain ⟨xv, hxv, rr⟩ : ∃ xv, xs[i]? = some xv ∧ RelV xv v := by
        have hl := rx.length
        have hi : i < items.length := (List.getElem?_eq_some_iff.mp hP').1
        obtain ⟨u, hu, ru⟩ := rx.get (List.getElem?_eq_getElem (show i < xs.length by omega))
        rw [hP'] at hu
        cases hu
        exact ⟨_, List.getElem?_eq_getElem (show i < xs.length by omega), ru⟩
      obtain ⟨j, rfl⟩ := hx xv (List.mem_of_getElem? hxv)
      obtain ⟨t, rfl⟩ := rr
      exact ⟨j, t, rfl⟩
    refine wpAny_tests_one (wpAny_isTrue_Compare1 (wpAny_Name (wpAny_loadName_local (env := compEnvC scope [(y, c)] C X.env) S.kind S.kx hn hm3 ?_) dx) hm)
    refine wpAny_Name (wpAny_loadName_cell (env := compEnvC scope [(y, c)] C X.env) S.kind (S.ky hkf hk) (by show List.lookup y [(y, c)] = some c; simp [List.lookup_cons]) cell3 ?_) dy
    exact cmp_in hop list3 r fy (wpAny_truthy_bool ⟨rfl, Keeps.refl' _⟩)
  elt := by
    intro C i v s₃ m₃ E' hC hP hp hn hm3 hk3 _
    exact wpAny_Name (wpAny_loadName_local (env := compEnvC scope [(y, c)] C X.env) S.kind S.kx hn hm3 ⟨rfl, Keeps.refl' _⟩) dx
theorem paired_eq : ∀ {a b : List Value}, Paired Eq a b → a = b
  | _, _, .nil => rfl
  | _, _, .cons e t => by rw [e, paired_eq t]
/-- what the filter asks -/
def tFilt (K : PySem.W.Frag) (ti : TE) (j : Nat) (neg : Bool) : TE := fun σ H Q => ti σ H fun v H1 => ∃ a b xs ys, v = .ref a ∧ SqL K H1 a xs ∧ AllI xs ∧ σ[j]? = some (some (.ref b)) ∧ SqL K H1 b ys ∧ ys.all flatV = true ∧
  ∀ p, H1 p = none → Q (.ref p) (upd H1 p (.lst (xs.filter (qIn neg ys))))
theorem filt_run {iter : Expr} {x y : Str} {j : Nat} {p1 p2 p3 p4 px pos : Pos} {scope : Scope} {op : CmpOp} {neg : Bool} {c a b : Addr} {xs ys : List V} {use : Option (Value → Sem Unit)} {Q : Value → Shared → Prop} (hcalm : X.calm = true) (I : Inv X pins σ H s₂)
    (S : CSc scope x y) (hj : X.N[j]? = some y) (hk : X.env.kindOf y = some .cell) (hc : X.env.cells.lookup y = some c) (hop : OpIn op neg) (hq : SqL X.K H a xs) (hx : AllI xs) (hσ : σ[j]? = some (some (.ref b))) (hb : SqL X.K H b ys) (fy : ys.all flatV = true)
    (hm : behindInMarks op (.Name y p3) = false) (dx : (x == ("__debug__" : Str)) = false) (dy : (y == ("__debug__" : Str)) = false)
    (cont : ∀ (D C : Addr) s' m', H D = none → Inv X pins σ (upd H D (.lst (xs.filter (qIn neg ys)))) s' → s'.heap.Ns C m' → FpOk X pins (upd H D (.lst (xs.filter (qIn neg ys)))) C → compPost (model X.prog X.w) X.A X.xe use Q (.ref D) C (.ok .next) s') :
    wpAny (model X.prog X.w) X.A (pyIter (.ref a)) (fun itv s₂ => wpAny (model X.prog X.w) X.A (newList []) (fun acc s₃ => wpAny (model X.prog X.w) X.A (newFunctionEnv scope X.env.globals [(y, c)] [] X.env.qual none .none (some X.env)) (fun cenv s₄ =>
      codeAny (model X.prog X.w) X.A (.compStart (.ListComp (.Name x p1) [⟨.Name x px, iter, [.Compare (.Name x p2) [op] [.Name y p3] p4], 0⟩] scope pos) 0 itv acc { cenv with scope := relabel scope X.env }) (compPost (model X.prog X.w) X.A X.xe use Q acc cenv.locals) s₄) X.xe s₃) X.xe s₂) X.xe s₂ := by
  obtain ⟨items, rx, pl, hz⟩ := I.list hq
  obtain ⟨its, ry, pl2, hz2⟩ := I.list hb
  obtain ⟨oa, hoa, _⟩ := id pl.isList
  obtain ⟨ob, hob, _⟩ := id pl2.isList
  have hlen := rx.length
  obtain ⟨m, hn, hl⟩ := id I.loc
  obtain ⟨u, ru, lk⟩ := hl j y (.ref b) hj hσ (.inr (.inl hk))
  cases ru
  obtain ⟨c', hc', hcv⟩ : ∃ c, X.env.cells.lookup y = some c ∧ s₂.heap.IsCell c (some (.ref b)) := by
    rcases lk with ⟨z, _⟩ | ⟨_, c, h1, h2⟩
    · rw [hk] at z; cases z
    · exact ⟨c, h1, h2⟩
  rw [hc] at hc'
  cases hc'
  refine wpAny_pyIter_list pl.isList ?_
  have I2 : Inv X pins σ H { s₂ with heap := s₂.heap.push { cls := .type "list_iterator", data := .fields #[.ref a, rawInt 0] } } := I.kept (t' := s₂.toks) fun b o e => Heap.get?_push_of_some _ e
  have nsz : ∀ q o, s₂.heap.get? q = some o → q ≠ s₂.heap.objs.size := fun q o e => Nat.ne_of_lt (Heap.lt_size e)
  have hit : FpOk X pins H s₂.heap.objs.size := I.fpOk (Nat.le_refl _) (I.hok.fresh (Nat.le_refl _))
  have W := Walks.list (prog := X.prog) (w := X.w) (A := X.A) (I.ok.hd hcalm) s₂.heap.objs.size a (nsz a oa hoa) items.toArray
  obtain ⟨oc, hoc, hdc⟩ := id hcv
  refine comp_core (R := fun zs => zs = xs.filter (qIn neg ys)) I2 W (by rw [List.size_toArray, ← hlen]; exact hz) S.cell S.kind S.hx ?_ ?_ hit
    (quiet_filt S I.ok.kind hk ⟨oc, Heap.get?_push_of_some _ hoc, hdc⟩ (pl2.isList.at fun o e => Heap.get?_push_of_some _ e) ry fy rx hx (nsz c oc hoc) (nsz b ob hob) hop hm dx dy) ?_ ?_
  · exact ⟨⟨_, Heap.get?_push_size _ rfl, rfl, rfl⟩, pl.isList.at fun o e => Heap.get?_push_of_some _ e⟩
  · intro q hq'
    have hsz : (s₂.heap.push { cls := .type "list_iterator", data := .fields #[.ref a, rawInt 0] }).objs.size = s₂.heap.objs.size + 1 := Heap.size_push ..
    show q < (s₂.heap.push { cls := .type "list_iterator", data := .fields #[.ref a, rawInt 0] }).objs.size
    rw [hsz]
    rcases List.mem_cons.mp hq' with e | e
    · rw [e]; exact Nat.lt_succ_self _
    · rw [List.mem_singleton.mp e]; exact Nat.lt_succ_of_lt (Heap.lt_size hoa)
  · intro vs ws hlv hP hF
    have e1 : vs = items := by
      have := PyProof.Rows.walked_is hlv hP
      simpa using this
    have e2 := paired_eq hF
    subst e1
    rw [← e2]
    exact ⟨_, vals_filter rx hx, Nat.le_trans (List.length_filter_le _ _) hz, rfl⟩
  · intro D C zs s' m' hR hD J hn' hf
    subst hR
    exact cont D C s' m' hD J hn' hf
theorem pe_filt {iter : Expr} {ti : TE} {x y : Str} {j : Nat} {p1 p2 p3 p4 px pos : Pos} {scope : Scope} {op : CmpOp} (neg : Bool) (hcalm : X.calm = true) (hi : PE X iter ti) (S : CSc scope x y) (hj : X.N[j]? = some y) (hk : X.env.kindOf y = some .cell) (hop : OpIn op neg)
    (hm : behindInMarks op (.Name y p3) = false) (dx : (x == ("__debug__" : Str)) = false := by decide) (dy : (y == ("__debug__" : Str)) = false := by decide) (hs : ∀ x, foldedSetIterable iter X.env x = pure x := by intro _; rfl) :
    PE X (.ListComp (.Name x p1) [⟨.Name x px, iter, [.Compare (.Name x p2) [op] [.Name y p3] p4], 0⟩] scope pos) (tFilt X.K ti j neg) := by
  intro pins s σ H Q I h
  obtain ⟨c, hc⟩ := I.ok.has y (.inl hk)
  rw [eval_ListComp]
  refine wpAny_comprehension_free (use := none) rfl hs (S.clos hc) S.kind S.loc (thn (hi pins s σ H _ I h) fun u s1 ⟨v, H1, I1, r1, a, b, xs, ys, ev, hq, hx, hσ, hb, fy, q⟩ => ?_)
  subst ev
  cases r1
  refine filt_run hcalm I1 S hj hk hc hop hq hx hσ hb fy hm dx dy fun D C s' m' hD J hn hf => ?_
  obtain ⟨f0, f1, f2, f3, f4, f5⟩ := hf
  exact ⟨m', hn, fun h' sb => ⟨.ref D, _, J.turned (t' := s'.toks) (fun b o hb e => sb.extBut b o hb e) f0 f1 f3 f4 f5, rfl, q D hD⟩⟩
/-- z = [x for x in .. if x in y] -/
theorem ps_setfilt {iter : Expr} {ti : TE} {x y z : Str} {i j : Nat} {p1 p2 p3 p4 px pz pos spos : Pos} {scope : Scope} {op : CmpOp} (neg : Bool) (hcalm : X.calm = true) (hN : X.N.Nodup) (hzi : X.N[i]? = some z) (hz : Loc X.env.scope z) (hi : PE X iter ti) (S : CSc scope x y) (hj : X.N[j]? = some y) (hk : X.env.kindOf y = some .cell) (hop : OpIn op neg)
    (hm : behindInMarks op (.Name y p3) = false)
    (hsw : swapsWith (.ListComp (.Name x p1) [⟨.Name x px, iter, [.Compare (.Name x p2) [op] [.Name y p3] p4], 0⟩] scope pos) (some (.Name z pz)) spos.line X.env = pure true)
    (dx : (x == ("__debug__" : Str)) = false := by decide) (dy : (y == ("__debug__" : Str)) = false := by decide) (hs : ∀ x, foldedSetIterable iter X.env x = pure x := by intro _; rfl)
    (hf : X.fn z = true ∨ X.env.scope.names.lookup z = some .local := by first | exact .inl rfl | exact .inr rfl | assumption) :
    PS X (.Assign [.Name z pz] (.ListComp (.Name x p1) [⟨.Name x px, iter, [.Compare (.Name x p2) [op] [.Name y p3] p4], 0⟩] scope pos) spos) (tAsg (tFilt X.K ti j neg) (gName i)) := by
  intro pins s σ H D I h
  obtain ⟨c, hc⟩ := I.ok.has y (.inl hk)
  rw [exec_Assign_Name_used _ _ _ _ hsw]
  refine wpAny_bind (wpAny_standAt (wpAny_bind ?_))
  show wpAny _ X.A (do let _ ← comprehension (.ListComp (.Name x p1) [⟨.Name x px, iter, [.Compare (.Name x p2) [op] [.Name y p3] p4], 0⟩] scope pos) scope X.env _ (newList []) false (eval iter X.env) (some (assign (.Name z pz) X.env))) _ _ s
  refine wpAny_bind (wpAny_mono (wpAny_comprehension_free (use := some (assign (.Name z pz) X.env)) (Q := fun _ s' => SP X pins D .next s') rfl hs (S.clos hc) S.kind S.loc (thn (hi pins s σ H _ I h) fun u s1 ⟨v, H1, I1, r1, a, b, xs, ys, ev, hq, hx, hσ, hb, fy, q⟩ => ?_))
    (fun _ s' hq => wpAny_pure (wpAny_pure hq)) fun _ _ e => e)
  subst ev
  cases r1
  refine filt_run hcalm I1 S hj hk hc hop hq hx hσ hb fy hm dx dy fun D' C s' m' hD J hn hf' => ?_
  obtain ⟨f0, f1, f2, f3, f4, f5⟩ := hf'
  show wpAny _ X.A (assign (.Name z pz) X.env (.ref D')) _ _ _
  refine wpAny_assign_Name (store_ok2 J hN hzi hz (v := .ref D') rfl (fun s2 J2 ⟨a2, sb2, ha2⟩ => ?_) hf)
  have nC : C ≠ a2 := by
    rcases ha2 with e | e
    · rw [e]; exact f1
    · exact fun z => f4 _ _ e z.symm
  exact ⟨m', hn.sameBut sb2 nC, fun h' sb => ⟨_, _, J2.turned (t' := s2.toks) (fun b o hb e => sb.extBut b o hb e) f0 f1 f3 f4 f5, q D' hD⟩⟩
end
end Bw
set_option Elab.async false
set_option linter.all false
set_option maxRecDepth 100000
set_option maxHeartbeats 4000000
namespace Bw
open PySem L2
/-! ### a slice of a text: a text no longer -/
def rSlS : V → Option Int → Option Int → Hp → VK → Prop := fun x lo hi H Q => ∃ z, x = .str z ∧ z.length ≤ sizeLine ∧ ∀ z' : Str, z'.length ≤ z.length → Q (.str z') H
theorem part_of {v : Value} {o : Option Int} (h : IsPart v o) : ∃ p : Option (Int × Tok), v = partValue p ∧ p.map (·.1) = o := by
  cases h with
  | none => exact ⟨none, rfl, rfl⟩
  | int i t => exact ⟨some (i, t), rfl, rfl⟩
theorem sl_str {X : Cx} : SlR X rSlS := by
  intro pins s σ H x v vl vu lo hi sl Q I rx hs pl pu h
  obtain ⟨z, rfl, hz, q⟩ := h
  obtain ⟨t, rfl⟩ := rx
  obtain ⟨l, rfl, _⟩ := part_of pl
  obtain ⟨u, rfl, _⟩ := part_of pu
  refine ⟨"str", _, PySem.F.slot_str_getitem.lookup, PySem.typeIs_str _ z t, ?_⟩
  refine PySem.wpAny_getItem_str_slice (l := l) (u := u) (st := none) hs rfl ?_
  unfold PySem.sliceMade
  split
  · exact ⟨.str z, H, I, ⟨t, rfl⟩, q z (Nat.le_refl _)⟩
  · have hl : (⟨((PySem.slicePicked z l u none).filterMap (z.cps[·]?)).toArray⟩ : Str).length ≤ z.length := by
      show (List.filterMap _ (PySem.slicePicked z l u none)).toArray.size ≤ z.length
      rw [List.size_toArray]
      exact Nat.le_trans (List.length_filterMap_le _ _) (PySem.sliceIndices_le _ _ z.length)
    exact ⟨Nat.le_trans hl hz, .str _, H, I.tok _, ⟨_, rfl⟩, q _ hl⟩
/-! ### max and min of a tuple of ints -/
theorem getD_int {ns : List Int} {items : List Value} (r : Vals (ns.map V.int) items) {i : Nat} {v : Value} (h : items.toArray[i]? = some v) : ∃ t, v = .int (ns.getD i 0) t := by
  have h' : items[i]? = some v := by simpa using h
  have hl := r.length
  have hi : i < items.length := (List.getElem?_eq_some_iff.mp h').1
  rw [List.length_map] at hl
  obtain ⟨u, hu, ru⟩ := r.get (show (ns.map V.int)[i]? = some (.int ns[i]) by rw [List.getElem?_map, List.getElem?_eq_getElem (by omega)]; rfl)
  rw [h'] at hu
  cases hu
  obtain ⟨t, rfl⟩ := ru
  refine ⟨t, ?_⟩
  rw [List.getD_eq_getElem?_getD, List.getElem?_eq_getElem (by omega)]
  rfl
theorem tup_it {X : Cx} {pins : List (Addr × Obj)} {σ : St} {H : Hp} {s : Shared} {a : Addr} {its : List Value} {R : Value → Shared → Prop} {E : Value → Shared → Prop} {A : Around} (I : Inv X pins σ H s) (hh : A.handled = none) (ht : s.heap.IsTuple a its.toArray)
    (h : ∀ it h', h' = s.heap.push { cls := .type "tuple_iterator", data := .fields #[.ref a, rawInt 0] } → it = s.heap.objs.size → Walks X.prog X.w A it [it, a] [it] its.toArray.size (fun i v => its.toArray[i]? = some v) (fun i h => h.IsTupleIter it a i ∧ h.IsTuple a its.toArray) →
      (h'.IsTupleIter it a 0 ∧ h'.IsTuple a its.toArray) → (∀ b ∈ [it, a], b < h'.objs.size) → (∀ b o, s.heap.get? b = some o → b ≠ it ∧ h'.get? b = some o) → R (.ref it) { s with heap := h' }) :
    wpAny (model X.prog X.w) A (pyIter (.ref a)) R E s := by
  obtain ⟨oa, hoa, _⟩ := id ht
  have ne : a ≠ s.heap.objs.size := Nat.ne_of_lt (Heap.lt_size hoa)
  refine wpAny_pyIter_tuple ht ?_
  refine h s.heap.objs.size _ rfl rfl (Walks.tuple hh _ a ne its.toArray) ⟨⟨_, Heap.get?_push_size _ rfl, rfl, rfl⟩, ht.at fun o e => Heap.get?_push_of_some _ e⟩ (fun b hb => ?_) fun b o e => ⟨Nat.ne_of_lt (Heap.lt_size e), Heap.get?_push_of_some _ e⟩
  rw [Heap.size_push]
  rcases List.mem_cons.mp hb with rfl | hb
  · exact Nat.lt_succ_self _
  · rw [List.mem_singleton.mp hb]
    exact Nat.lt_succ_of_lt (Heap.lt_size hoa)
theorem call_maxT {X : Cx} (hc : X.calm = true) : CallR X (.builtin "max") (fun xs H Q => ∃ (a : Addr) (ns : List Int), xs = [.ref a] ∧ SqT X.K H a (ns.map V.int) ∧ 0 < ns.length ∧ ∀ M : Int, M ∈ ns → (∀ z ∈ ns, z ≤ M) → Q (.int M) H) := by
  intro pins s σ H xs us Q I rs h
  obtain ⟨a, ns, rfl, hS, hn, q⟩ := h
  cases rs with
  | cons r rr =>
    cases rr
    cases (show _ = Value.ref a from r)
    obtain ⟨its, rv, ht, hz⟩ := I.tuple hS
    have hl := rv.length
    rw [List.length_map] at hl
    refine PySem.call_max_walk (tup_it (A := X.A.in1) I (I.ok.hd hc) ht fun it h' eh ei W st hfp hk => ?_)
    refine ⟨it, _, _, _, _, _, _, rfl, W, st, hfp, by rw [List.size_toArray]; omega, PySem.CmpOf.ints_gt (fun i => ns.getD i 0) (fun i v e => getD_int rv e), fun v h2 tk hv k2 => ?_⟩
    obtain ⟨b1, b2⟩ := PySem.argBest_gt (fun i => ns.getD i 0) (its.toArray.size - 1)
    obtain ⟨t, rfl⟩ := getD_int rv hv
    have hsz : its.toArray.size = ns.length := by rw [List.size_toArray]; omega
    rw [hsz] at b1 b2 ⊢
    refine ⟨.int _, H, I.kept (t' := tk) fun b o e => k2 b o (by simpa using (hk b o e).1) (hk b o e).2, ⟨t, rfl⟩, q _ ?_ fun z hz' => ?_⟩
    · rw [List.getD_eq_getElem?_getD, List.getElem?_eq_getElem (by omega)]
      exact List.getElem_mem _
    · obtain ⟨j, hj, rfl⟩ := List.getElem_of_mem hz'
      have := b2 j (by omega)
      rw [List.getD_eq_getElem?_getD, List.getElem?_eq_getElem hj] at this
      exact this
theorem call_minT {X : Cx} (hc : X.calm = true) : CallR X (.builtin "min") (fun xs H Q => ∃ (a : Addr) (ns : List Int), xs = [.ref a] ∧ SqT X.K H a (ns.map V.int) ∧ 0 < ns.length ∧ ∀ M : Int, M ∈ ns → (∀ z ∈ ns, M ≤ z) → Q (.int M) H) := by
  intro pins s σ H xs us Q I rs h
  obtain ⟨a, ns, rfl, hS, hn, q⟩ := h
  cases rs with
  | cons r rr =>
    cases rr
    cases (show _ = Value.ref a from r)
    obtain ⟨its, rv, ht, hz⟩ := I.tuple hS
    have hl := rv.length
    rw [List.length_map] at hl
    refine PySem.call_min_walk (tup_it (A := X.A.in1) I (I.ok.hd hc) ht fun it h' eh ei W st hfp hk => ?_)
    refine ⟨it, _, _, _, _, _, _, rfl, W, st, hfp, by rw [List.size_toArray]; omega, PySem.CmpOf.ints_lt (fun i => ns.getD i 0) (fun i v e => getD_int rv e), fun v h2 tk hv k2 => ?_⟩
    obtain ⟨b1, b2⟩ := PySem.argBest_lt (fun i => ns.getD i 0) (its.toArray.size - 1)
    obtain ⟨t, rfl⟩ := getD_int rv hv
    have hsz : its.toArray.size = ns.length := by rw [List.size_toArray]; omega
    rw [hsz] at b1 b2 ⊢
    refine ⟨.int _, H, I.kept (t' := tk) fun b o e => k2 b o (by simpa using (hk b o e).1) (hk b o e).2, ⟨t, rfl⟩, q _ ?_ fun z hz' => ?_⟩
    · rw [List.getD_eq_getElem?_getD, List.getElem?_eq_getElem (by omega)]
      exact List.getElem_mem _
    · obtain ⟨j, hj, rfl⟩ := List.getElem_of_mem hz'
      have := b2 j (by omega)
      have e : ns.getD j 0 = ns[j] := by rw [List.getD_eq_getElem?_getD, List.getElem?_eq_getElem hj]; rfl
      rw [e] at this
      exact this
/-! ### two lists of the same flat items -/
theorem eqV_self : ∀ {x : V}, flatV x = true → eqV x x = true
  | .non, _ => rfl
  | .bl b, _ => by cases b <;> rfl
  | .int i, _ => beq_self_eq_true i
  | .str z, _ => beq_self_eq_true z
theorem eqAt_same {A : Around} {s : Shared} {xs : List V} {us vs : List Value} (r : Vals xs us) (r' : Vals xs vs) (f : xs.all flatV = true) (j : Nat) (h1 : j < us.toArray.size) (h2 : j < vs.toArray.size) : SeqAt.EqAt A s us.toArray[j] vs.toArray[j] ((fun _ => true) j) := by
  have l1 := r.length
  have l2 := r'.length
  rw [List.size_toArray] at h1 h2
  have hj : j < xs.length := by omega
  obtain ⟨u, hu, ru⟩ := r.get (List.getElem?_eq_getElem hj)
  obtain ⟨v, hv, rv⟩ := r'.get (List.getElem?_eq_getElem hj)
  have fx : flatV xs[j] = true := List.all_eq_true.mp f _ (List.getElem_mem hj)
  have e := eqAt_V (A := A) (s := s) ru rv fx fx
  rw [eqV_self fx] at e
  have eu : us.toArray[j] = u := by
    rw [List.getElem?_eq_getElem (by omega)] at hu
    simpa using hu
  have ev : vs.toArray[j] = v := by
    rw [List.getElem?_eq_getElem (by omega)] at hv
    simpa using hv
  rw [eu, ev]
  exact e
def rEqS (K : PySem.W.Frag) (b : Bool) : R2 := fun x y H Q => ∃ a c xs, x = .ref a ∧ y = .ref c ∧ SqL K H a xs ∧ SqL K H c xs ∧ xs.all flatV = true ∧ Q (.bl b) H
theorem all_true (n : Nat) : (List.range n).all (fun _ => true) = true := by
  rw [List.all_eq_true]
  intro _ _
  rfl
theorem op_eqS {X : Cx} (hu : X.A.units < cLine) : OpR X (compareOp .Eq) (rEqS X.K true) := by
  intro pins s σ H x y v u Q I rx ry h
  obtain ⟨a, b, xs, rfl, rfl, ha, hb, f, q⟩ := h
  cases rx
  cases ry
  obtain ⟨its, r, pl, _⟩ := I.list ha
  obtain ⟨its2, r2, pl2, _⟩ := I.list hb
  have l1 := r.length
  have l2 := r2.length
  refine PySem.SeqAt.RcAt.lists (e := fun _ => true) pl.isList pl2.isList (by rw [List.size_toArray, List.size_toArray]; omega) hu (eqAt_same r r2 f) X.prog X.w X.xe _ ?_
  rw [all_true]
  exact ⟨.bl true, H, I, rfl, q⟩
theorem op_neS {X : Cx} (hu : X.A.units < cLine) : OpR X (compareOp .NotEq) (rEqS X.K false) := by
  intro pins s σ H x y v u Q I rx ry h
  obtain ⟨a, b, xs, rfl, rfl, ha, hb, f, q⟩ := h
  cases rx
  cases ry
  obtain ⟨its, r, pl, _⟩ := I.list ha
  obtain ⟨its2, r2, pl2, _⟩ := I.list hb
  have l1 := r.length
  have l2 := r2.length
  refine PySem.SeqAt.RcNeAt.lists (e := fun _ => true) pl.isList pl2.isList (by rw [List.size_toArray, List.size_toArray]; omega) hu (eqAt_same r r2 f) X.prog X.w X.xe _ ?_
  rw [all_true]
  exact ⟨.bl false, H, I, rfl, q⟩
/-! ### the mixing of a script -/
theorem Walks.bound' {prog : Program} {w : World} {A : Around} {I : Addr} {fp wr : List Addr} {n : Nat} {P : Nat → Value → Prop} {St : Nat → Heap → Prop} (W : Walks prog w A I fp wr n P St) : Walks prog w A I fp wr n (fun i v => P i v ∧ i < n) St where
  sub := W.sub
  frame := W.frame
  item := fun i s Q E hi st hQ => W.item i s Q E hi st fun v h' tk hv => hQ v h' tk ⟨hv, hi⟩
  done := W.done
  self := W.self
section
variable {X : Cx} {pins : List (Addr × Obj)} {σ : St} {H : Hp} {s₂ : Shared}
abbrev eMix (s k : Str) (q : Nat → Pos) (j1 j2 j3 : Nat) : Expr :=
  .BinOp (.BinOp (.BinOp (.Subscript (.Name s (q 0)) (.Name k (q 1)) (q 2)) .Add (.BinOp (.Constant (.int 7919) j1 (q 3)) .Mult (.Name k (q 4)) (q 5)) (q 6)) .Mult (.Constant (.int 48271) j2 (q 7)) (q 8)) .Mod (.Constant (.int 1000003) j3 (q 9)) (q 10)
theorem quiet_mix {k s : Str} {elt : Expr} {p0 p1 p2 p3 p4 p5 p6 p7 p8 p9 p10 : Pos} {j1 j2 j3} {scope : Scope} {it c b : Addr} {its : List Value} {ns : List Int} {n : Nat} (S : CSc scope k s) (hkf : X.env.scope.kind = .function) (hk : X.env.kindOf s = some .cell) (hcv : s₂.heap.IsCell c (some (.ref b)))
    (he : elt = .BinOp (.BinOp (.BinOp (.Subscript (.Name s p0) (.Name k p1) p2) .Add (.BinOp (.Constant (.int 7919) j1 p3) .Mult (.Name k p4) p5) p6) .Mult (.Constant (.int 48271) j2 p7) p8) .Mod (.Constant (.int 1000003) j3 p9) p10)
    (hb : s₂.heap.IsList b its.toArray) (r : Vals (ns.map V.int) its) (hn : n ≤ ns.length) (hsz : ns.length ≤ 1000) (nc : c ≠ it) (nb : b ≠ it) (dk : (k == ("__debug__" : Str)) = false) (ds : (s == ("__debug__" : Str)) = false) :
    QuietOnC X.prog X.w X.A X.env scope [(s, c)] k [] elt [it] (fun i v => (∃ t, v = .int (0 + (i : Int) * 1) t) ∧ i < n) (fun _ => true) (fun _ y => ∃ z t, y = Value.int z t) s₂ where
  tests := by
    intro C i v s₃ m₃ E' hC hP hn hm3 hk3 _
    exact wpAny_tests_nil ⟨rfl, Keeps.refl' _⟩
  elt := by
    subst he
    rintro C i v s₃ m₃ E' hC ⟨⟨t, rfl⟩, hi⟩ hp hns hm3 hk3 _
    have cell3 : s₃.heap.IsCell c (some (.ref b)) := by
      obtain ⟨o, ho, hd⟩ := hcv
      exact ⟨o, hk3 c o (by simpa using nc) ho, hd⟩
    have list3 : s₃.heap.IsList b its.toArray := hb.at fun o e => hk3 b o (by simpa using nb) e
    have hl := r.length
    rw [List.length_map] at hl
    obtain ⟨u, hu⟩ : ∃ u, its.toArray[i]? = some u := ⟨its[i], by rw [List.getElem?_toArray, List.getElem?_eq_getElem (by omega)]⟩
    obtain ⟨tu, rfl⟩ := getD_int r hu
    have ek : (0 + (i : Int) * 1).toNat = i := by omega
    have ldk : ∀ {s' : Shared} {pp : Pos} {Q : Value → Shared → Prop} {E : Value → Shared → Prop} {tk : Nat}, s' = { s₃ with toks := tk } → Q (.int (0 + (i : Int) * 1) t) s' → wpAny (model X.prog X.w) X.A (eval (.Name k pp) (compEnvC scope [(s, c)] C X.env)) Q E s' := by
      intro s' pp Q E tk e h
      subst e
      exact wpAny_Name (wpAny_loadName_local (env := compEnvC scope [(s, c)] C X.env) S.kind S.kx hns hm3 h) dk
    refine wpAny_BinOp (wpAny_BinOp (wpAny_BinOp (PyProof.Rows.Subscript_ ?_)))
    refine wpAny_Name (wpAny_loadName_cell (env := compEnvC scope [(s, c)] C X.env) S.kind (S.ky hkf hk) (by show List.lookup s [(s, c)] = some c; simp [List.lookup_cons]) cell3 ?_) ds
    refine ldk (tk := s₃.toks) rfl ?_
    refine PyProof.Rows.item_listR list3 (by omega) (by omega) (by rw [ek]; exact hu) ?_ rfl
    refine wpAny_BinOp (wpAny_Constant_int ?_)
    refine ldk rfl ?_
    refine PySem.P.mul_int ?_ (CMul.ok (.inl ⟨by decide, by decide⟩))
    refine PySem.P.add_int ?_
    refine wpAny_Constant_int ?_
    refine PySem.P.mul_int ?_ (CMul.ok (.inr ⟨by decide, by decide⟩))
    refine wpAny_Constant_int ?_
    refine PyProof.Rows.mod_int' (by decide) ?_
    exact ⟨⟨_, _, rfl⟩, Keeps.toks _ _⟩
theorem ints_paired : ∀ {vs ys : List Value}, Paired (fun _ y => ∃ z t, y = Value.int z t) vs ys → ∃ ms : List Int, ms.length = vs.length ∧ Vals (ms.map V.int) ys
  | _, _, .nil => ⟨[], rfl, .nil⟩
  | _, _, .cons ⟨z, t, e⟩ h => by
    obtain ⟨ms, h1, h2⟩ := ints_paired h
    exact ⟨z :: ms, by simp [h1], .cons ⟨t, e⟩ h2⟩
def tMixed (K : PySem.W.Frag) (j : Nat) : TE := fun σ H Q => ∃ (a : Addr) (ns : List Int), σ[j]? = some (some (.ref a)) ∧ SqL K H a (ns.map V.int) ∧ ns.length ≤ 1000 ∧ ∀ (p : Addr) (ms : List Int), ms.length = ns.length → H p = none → Q (.ref p) (upd H p (.lst (ms.map V.int)))
theorem pe_mixed {k s : Str} {j : Nat} {elt : Expr} {p0 p1 p2 p3 p4 p5 p6 p7 p8 p9 p10 px pos q1 q2 q3 q4 q5 : Pos} {j1 j2 j3} {scope : Scope} (hcalm : X.calm = true) (S : CSc scope k s) (hj : X.N[j]? = some s) (hk : X.env.kindOf s = some .cell)
    (hgr : Gl X "range") (hmr : X.mg "range" = none) (hgl : Gl X "len") (hml : X.mg "len" = none) (hps : PE X (.Name s q5) (tVar j))
    (hst1 : starEach [.Call (.Name "len" q3) [.Name s q5] [] q4] X.env = [(false, eval (.Call (.Name "len" q3) [.Name s q5] [] q4) X.env)])
    (he : elt = .BinOp (.BinOp (.BinOp (.Subscript (.Name s p0) (.Name k p1) p2) .Add (.BinOp (.Constant (.int 7919) j1 p3) .Mult (.Name k p4) p5) p6) .Mult (.Constant (.int 48271) j2 p7) p8) .Mod (.Constant (.int 1000003) j3 p9) p10)
    (ha : PE X (.Call (.Name "len" q3) [.Name s q5] [] q4) (tCB (fun xs H Q => ∃ p ys, xs = [.ref p] ∧ (SqL X.K H p ys ∨ SqT X.K H p ys) ∧ Q (.int ys.length) H) (tCons (tVar j) tNil)))
    (dk : (k == ("__debug__" : Str)) = false := by decide) (ds : (s == ("__debug__" : Str)) = false := by decide) (hs : ∀ x, foldedSetIterable (.Call (.Name "range" q1) [.Call (.Name "len" q3) [.Name s q5] [] q4] [] q2) X.env x = pure x := by intro _; rfl) :
    PE X (.ListComp elt [⟨.Name k px, .Call (.Name "range" q1) [.Call (.Name "len" q3) [.Name s q5] [] q4] [] q2, [], 0⟩] scope pos) (tMixed X.K j) := by
  intro pins s0 σ H Q I h
  obtain ⟨a, ns, hσ, hq, hsz, q⟩ := h
  obtain ⟨c, hc⟩ := I.ok.has s (.inl hk)
  rw [eval_ListComp]
  refine wpAny_comprehension_free (use := none) rfl hs (S.clos hc) S.kind S.loc ?_
  refine PyProof.Rows.Call_ (ld_blt I hgr hmr PyProof.Rows.boot_range (PyProof.Rows.callWith_type1 (thn (pa_cons ha pa_nil hst1 q2 pins s0 σ H (fun vs H1 => vs = [.int ((ns.map V.int).length : Nat)] ∧ H1 = H) I ⟨_, hσ, a, _, rfl, .inl hq, rfl, rfl⟩) fun us s1 ⟨vs, H1, I1, r1, q1⟩ => ?_) hst1 rfl))
  obtain ⟨rfl, rfl⟩ := q1
  cases r1 with
  | cons r rr =>
    cases rr
    obtain ⟨t, rfl⟩ := r
    rw [List.length_map]
    refine PySem.call_range_1 ?_
    refine wpAny_pyIter_range (PySem.IsRange.new ..) (PySem.small_one (by omega) (by omega) (by omega) (by omega)) ?_
    obtain ⟨its, rx, pl, hz⟩ := I1.list hq
    obtain ⟨oa, hoa, _⟩ := id pl.isList
    obtain ⟨m, hnm, hl⟩ := id I1.loc
    obtain ⟨u, ru, lk⟩ := hl j s (.ref a) hj hσ (.inr (.inl hk))
    cases ru
    obtain ⟨c', hc', oc, hoc, hdc⟩ : ∃ c, X.env.cells.lookup s = some c ∧ s1.heap.IsCell c (some (.ref a)) := by
      rcases lk with ⟨z, _⟩ | ⟨_, c, h1, h2⟩
      · rw [hk] at z; cases z
      · exact ⟨c, h1, h2⟩
    rw [hc] at hc'
    cases hc'
    generalize hG : s1.heap.push { cls := .type "range", data := .fields #[.int 0 s1.toks, .int (ns.length : Int) t, .int 1 (s1.toks + 1)] } = G
    have kG : ∀ b o, s1.heap.get? b = some o → G.get? b = some o := fun b o e => by rw [← hG]; exact Heap.get?_push_of_some _ e
    have nG : ∀ b o, s1.heap.get? b = some o → b ≠ G.objs.size := fun b o e => Nat.ne_of_lt (Heap.lt_size (kG b o e))
    have I2 : Inv X pins σ H1 { s1 with heap := G, toks := s1.toks + 1 + 1 } := I1.kept kG
    have I3 : Inv X pins σ H1 { s1 with heap := G.push { cls := .type "range_iterator", data := .fields #[rawInt 0, rawInt (Builtin.Range.rangeSize 0 (ns.length : Int) 1), rawInt 1] }, toks := s1.toks + 1 + 1 } := I2.kept (t' := s1.toks + 1 + 1) fun b o e => Heap.get?_push_of_some _ e
    have k3 : ∀ b o, s1.heap.get? b = some o → (G.push { cls := .type "range_iterator", data := .fields #[rawInt 0, rawInt (Builtin.Range.rangeSize 0 (ns.length : Int) 1), rawInt 1] }).get? b = some o := fun b o e => Heap.get?_push_of_some _ (kG b o e)
    refine comp_core (R := fun zs => ∃ ms : List Int, zs = ms.map V.int ∧ ms.length = ns.length) I3 (Walks.bound' (Walks.range (prog := X.prog) (w := X.w) (A := X.A) (I.ok.hd hcalm) G.objs.size 0 1 ns.length)) (Nat.le_of_lt (small1000 hsz)) S.cell S.kind S.hx ?_ ?_ (I2.fpOk (Nat.le_refl _) (I2.hok.fresh (Nat.le_refl _)))
      (quiet_mix S I.ok.kind hk ⟨oc, k3 _ _ hoc, hdc⟩ he (pl.isList.at fun o e => k3 _ _ e) rx (Nat.le_refl _) hsz (nG c oc hoc) (nG a oa hoa) dk ds) ?_ ?_
    · have e1 : (0 : Int) + ((0 : Nat) : Int) * 1 = 0 := by simp
      have e2 : (ns.length : Int) - ((0 : Nat) : Int) = Builtin.Range.rangeSize 0 (ns.length : Int) 1 := by rw [rangeSize_one]; split <;> omega
      show IsRangeIter _ _ ((0 : Int) + ((0 : Nat) : Int) * 1) ((ns.length : Int) - ((0 : Nat) : Int)) 1
      rw [e1, e2]
      exact Heap.get?_push_size _ rfl
    · intro b hb
      rw [List.mem_singleton.mp hb]
      show G.objs.size < (G.push _).objs.size
      rw [Heap.size_push]
      exact Nat.lt_succ_self _
    · intro vs ys hlv hP hF
      rw [List.filter_eq_self.mpr fun _ _ => rfl] at hF
      obtain ⟨ms, h1, h2⟩ := ints_paired hF
      exact ⟨_, h2, by rw [List.length_map, h1, hlv]; exact Nat.le_of_lt (small1000 hsz), ms, rfl, h1.trans hlv⟩
    · rintro D C zs s' m' ⟨ms, rfl, hml'⟩ hD J hn hf
      obtain ⟨f0, f1, f2, f3, f4, f5⟩ := hf
      exact ⟨m', hn, fun h' sb => ⟨.ref D, _, J.turned (t' := s'.toks) (fun b o hb e => sb.extBut b o hb e) f0 f1 f3 f4 f5, rfl, q D ms hml' hD⟩⟩
end
end Bw
set_option Elab.async false
set_option linter.all false
set_option maxRecDepth 100000
set_option maxHeartbeats 4000000
namespace Bw
open PySem L2
/-! ### sets of texts -/
abbrev byT (w : World) : Bool := w.params.followText "set-order"
def txt : Value → Str
  | .str z _ => z
  | _ => ⟨#[]⟩
theorem put_flags (t : SetTable) (j : Nat) : (t.put j).1.led = t.led ∧ (t.put j).1.plain = t.plain := ⟨rfl, rfl⟩
theorem lay_flags (t : SetTable) (es : Array (Int × Value)) (h : Int) (x : Value) : (layNew t es h x).2.1.led = t.led ∧ (t.plain = false → (layNew t es h x).2.1.plain = false) := by
  unfold layNew
  split
  · rename_i slot wd _
    show (SetTable.orStandIn (t.put slot).1 (SetTable.insertAt es (t.put slot).2 (h, x)).size).led = t.led ∧ (t.plain = false → (SetTable.orStandIn (t.put slot).1 (SetTable.insertAt es (t.put slot).2 (h, x)).size).plain = false)
    unfold SetTable.orStandIn
    split
    · exact ⟨rfl, fun e => e⟩
    · exact ⟨rfl, fun _ => rfl⟩
  · exact ⟨rfl, fun _ => rfl⟩
theorem relay_flags (t : SetTable) (es : Array (Int × Value)) (n : Nat) : (relayAll t es n).2.1.led = t.led ∧ (t.plain = false → (relayAll t es n).2.1.plain = false) := by
  unfold relayAll
  split
  · rename_i t' order he
    have h2 : t'.led = t.led ∧ t'.plain = t.plain := by
      unfold SetTable.relaid SetTable.laid at he
      cases ho : SetTable.layClean (SetTable.sizeAbove n - 1) (es.map (·.1)) with
      | none => rw [ho] at he; cases he
      | some ow =>
        rw [ho] at he
        have := Prod.mk.inj (Option.some.inj he)
        rw [← this.1]
        exact ⟨rfl, rfl⟩
    dsimp only
    split
    · exact ⟨h2.1, fun e => h2.2.trans e⟩
    · exact ⟨rfl, fun _ => rfl⟩
  · exact ⟨rfl, fun _ => rfl⟩
structure SSt (w : World) (h : Heap) (a : Addr) (es : Array (Int × Value)) (ep : Nat) (t : SetTable) : Prop where
  get : h.get? a = some { cls := .type "set", dict := none, data := .set es ep t }
  el : ∀ e ∈ es.toList, ∃ z tk, e = (hashStr w z, Value.str z tk)
  bd : es.size < scanBound
  fit : t.fits es.size = true
  led : t.led = !byT w
  pln : t.plain = false ∨ es.size = 0
def SSet (w : World) (h : Heap) (a : Addr) (ss : List Str) : Prop := ∃ es ep t, SSt w h a es ep t ∧ es.toList.map (fun e => txt e.2) = ss ∧ ss.Nodup
theorem SSet.at {w : World} {h h' : Heap} {a : Addr} {ss : List Str} (S : SSet w h a ss) (k : ∀ o, h.get? a = some o → h'.get? a = some o) : SSet w h' a ss := by
  obtain ⟨es, ep, t, x, e⟩ := S
  exact ⟨es, ep, t, ⟨k _ x.get, x.el, x.bd, x.fit, x.led, x.pln⟩, e⟩
section
variable {prog : Program} {w : World} {A : Around} {E : Value → Shared → Prop} {s : Shared}
theorem elems_of {es : Array (Int × Value)} (h : ∀ e ∈ es.toList, ∃ z tk, e = (hashStr w z, Value.str z tk)) : ElemsOf (strKind prog w) es.toList := by
  intro e he
  obtain ⟨z, tk, rfl⟩ := h e he
  exact ⟨⟨z, beq_self_eq_true z, rfl⟩, rfl⟩
theorem store_set {a : Addr} {es es1 : Array (Int × Value)} {ep : Nat} {t t1 : SetTable} {Q : Unit → Shared → Prop} (x : SSt w s.heap a es ep t) (el1 : ∀ e ∈ es1.toList, ∃ z tk, e = (hashStr w z, Value.str z tk)) (b1 : es1.size < scanBound) (f1 : t1.fits es1.size = true) (l1 : t1.led = !byT w) (p1 : t1.plain = false)
    (h : ∀ h', Heap.SameBut a s.heap h' → SSt w h' a es1 (ep + 1) t1 → Q () { s with heap := h' }) : wpAny (model prog w) A (storeSet a es1 t1) Q E s := by
  refine wpAny_storeSet_of x.get rfl ?_ (fits_of_scanBound b1)
  refine h _ (Heap.SameBut.update s.heap a (Obj.putSet es1 t1)) ⟨?_, el1, b1, f1, l1, .inl p1⟩
  have g := Heap.get?_update_self (Obj.putSet es1 t1) x.get (by rw [putSet_of es1 t1 rfl]; rfl)
  rw [putSet_of es1 t1 rfl] at g
  exact g
theorem sset_add {a : Addr} {ss : List Str} {z : Str} {tk : Tok} {Q : Bool → Shared → Prop} (S : SSet w s.heap a ss) (hb : ss.length + 1 < scanBound)
    (h : ∀ b h' ss', Heap.SameBut a s.heap h' → SSet w h' a ss' → ss'.Perm (if z ∈ ss then ss else ss ++ [z]) → Q b { s with heap := h' }) : wpAny (model prog w) A (setAddHashed a (.str z tk) (hashStr w z)) Q E s := by
  obtain ⟨es, ep, t, x, ess, nd⟩ := id S
  have hel := elems_of (prog := prog) x.el
  have hlen : es.size = ss.length := by rw [← ess, List.length_map, Array.length_toList]
  have hk : (strKind prog w).is z (.str z tk) = true := beq_self_eq_true z
  unfold setAddHashed setAddHashedIn
  refine wpAny_holding (wpAny_bind (wpAny_setState_of x.get rfl x.fit ?_))
  dsimp only
  rw [byScan_of (knd := strKind prog w) rfl x.bd hel]
  simp only [↓reduceIte]
  unfold setAddByScan
  refine wpAny_bind (wpAny_bind (wpAny_rule (wpAny_bind (wpAny_setScan_of (knd := strKind prog w) hk x.get rfl x.fit hel ?_))))
  cases hr : List.findIdx? (fun e => (strKind prog w).is z e.2) es.toList with
  | some j =>
    dsimp only
    obtain ⟨hj, hp, _⟩ := List.findIdx?_eq_some_iff_getElem.mp hr
    have hz : z ∈ ss := by
      rw [← ess]
      refine List.mem_map.mpr ⟨es.toList[j], List.getElem_mem hj, ?_⟩
      obtain ⟨t', e'⟩ := Value.isStrOf_shape hp
      rw [e']
      rfl
    exact wpAny_pure (wpAny_pure (h false s.heap ss (Heap.SameBut.refl a s.heap) S (by rw [if_pos hz])))
  | none =>
    dsimp only
    have hz : z ∉ ss := fun hz => by
      rw [← ess] at hz
      obtain ⟨e, he, hq⟩ := List.mem_map.mp hz
      have h2 := List.findIdx?_eq_none_iff.mp hr e he
      obtain ⟨z', tk', rfl⟩ := x.el e he
      have h3 : z' = z := hq
      subst h3
      have h4 : (strKind prog w).is z' (Value.str z' tk') = true := beq_self_eq_true z'
      rw [h4] at h2
      cases h2
    have hperm := layNew_perm t es (hashStr w z) (.str z tk)
    have hfits := layNew_fits t es (hashStr w z) (.str z tk)
    have hflag := lay_flags t es (hashStr w z) (.str z tk)
    generalize hL : layNew t es (hashStr w z) (.str z tk) = L at hperm hfits hflag
    obtain ⟨es1, t1, wd, gv⟩ := L
    dsimp only at hperm hfits hflag ⊢
    rw [Array.toList_push] at hperm
    have el1 : ∀ e ∈ es1.toList, ∃ z tk, e = (hashStr w z, Value.str z tk) := fun e he => by
      rcases List.mem_append.mp (hperm.mem_iff.mp he) with q | q
      · exact x.el e q
      · exact ⟨z, tk, by simpa using q⟩
    have sz1 : es1.size = es.size + 1 := by rw [← Array.length_toList, hperm.length_eq, List.length_append, Array.length_toList]; rfl
    have b1 : es1.size < scanBound := by omega
    have pm1 : (es1.toList.map fun e => txt e.2).Perm (ss ++ [z]) := by
      have := hperm.map fun e => txt e.2
      rw [List.map_append, ess] at this
      exact this
    have fin : ∀ h' (es2 : Array (Int × Value)) ep2 t2, Heap.SameBut a s.heap h' → SSt w h' a es2 ep2 t2 → es2.toList.Perm es1.toList → Q true { s with heap := h' } := fun h' es2 ep2 t2 sb x2 pm2 => by
      have pm3 : (es2.toList.map fun e => txt e.2).Perm (ss ++ [z]) := (pm2.map fun e => txt e.2).trans pm1
      refine h true h' _ sb ⟨es2, ep2, t2, x2, rfl, ?_⟩ (by rw [if_neg hz]; exact pm3)
      refine pm3.nodup_iff.mpr ?_
      rw [List.nodup_append]
      refine ⟨nd, by simp, fun u hu v hv e => ?_⟩
      have : v = z := by simpa using hv
      subst this
      subst e
      exact hz hu
    have gw : ∀ (b : Bool) {s₁ : Shared} {Q' : Unit → Shared → Prop}, Q' () s₁ → wpAny (model prog w) A (match b with | true => rule "set.scan.the-table-gave-way" | false => pure ()) Q' E s₁ :=
      fun b s₁ Q' hq => by
        cases b
        · exact wpAny_pure hq
        · exact wpAny_rule hq
    -- behind the choice of plain
    have tail : ∀ t2 : SetTable, t2.fits es1.size = true → t2.led = (!byT w) → t2.plain = false → wpAny (model prog w) A (do
        storeSet a es1 t2
        if (!wd && t2.tooFull) = true then do
            (match (relayAll t2 es1 (SetTable.grown es1.size)).2.2 with | true => rule "set.scan.the-table-gave-way" | false => pure ())
            storeSet a (relayAll t2 es1 (SetTable.grown es1.size)).1 (relayAll t2 es1 (SetTable.grown es1.size)).2.1
            pure (some true)
          else pure (some true)) (fun o s' => ∃ h' es2 ep2 t2, o = some true ∧ s' = { s with heap := h' } ∧ Heap.SameBut a s.heap h' ∧ SSt w h' a es2 ep2 t2 ∧ es2.toList.Perm es1.toList) E s := by
      intro t2 f2 l2 p2
      refine wpAny_bind (store_set x el1 b1 f2 l2 p2 fun h1 sb1 x1 => ?_)
      split
      · have hp := relayAll_perm t2 es1 (SetTable.grown es1.size)
        have hf := relayAll_fits t2 es1 (SetTable.grown es1.size)
        have hg := relay_flags t2 es1 (SetTable.grown es1.size)
        generalize relayAll t2 es1 (SetTable.grown es1.size) = Rl at hp hf hg ⊢
        obtain ⟨es3, t3, g3⟩ := Rl
        dsimp only at hp hf hg ⊢
        have sz3 : es3.size = es1.size := by rw [← Array.length_toList, hp.length_eq, Array.length_toList]
        refine wpAny_bind (gw _ ?_)
        refine wpAny_bind (store_set (s := { s with heap := h1 }) x1 (fun e he => el1 e (hp.mem_iff.mp he)) (by omega) hf (hg.1.trans l2) (hg.2 p2) fun h3 sb3 x3 => ?_)
        exact wpAny_pure ⟨h3, es3, _, t3, rfl, rfl, sb1.trans sb3, x3, hp⟩
      · exact wpAny_pure ⟨h1, es1, _, t2, rfl, rfl, sb1, x1, .rfl⟩
    refine wpAny_bind (gw _ ?_)
    split
    · rw [hashByValue_scannable 8 rfl]
      refine wpAny_bind (wpAny_pure ?_)
      refine wpAny_mono (tail { t1 with plain := false } (SetTable.fits_plain_off hfits) (hflag.1.trans x.led) rfl) (fun o s' z => ?_) fun _ _ e => e
      obtain ⟨h', es2, ep2, t2, rfl, rfl, sb, x2, pm⟩ := z
      exact wpAny_pure (fin h' es2 ep2 t2 sb x2 pm)
    · rename_i hpl
      refine wpAny_bind (wpAny_pure ?_)
      refine wpAny_mono (tail t1 hfits (hflag.1.trans x.led) (by simpa using hpl)) (fun o s' z => ?_) fun _ _ e => e
      obtain ⟨h', es2, ep2, t2, rfl, rfl, sb, x2, pm⟩ := z
      exact wpAny_pure (fin h' es2 ep2 t2 sb x2 pm)
/-! ### set(list of texts) -/
section
variable {R : Result → Shared → Prop} {I : Addr} {fp wr : List Addr} {G : Array GenState → Array GenState → Prop} {n : Nat} {P : Nat → Value → Prop} {St : Nat → Shared → Prop}
def Upto (val : Nat → Str) (i : Nat) (ss : List Str) : Prop := ss.length ≤ i ∧ ∀ z, z ∈ ss ↔ ∃ j, j < i ∧ val j = z
theorem upto_step {val : Nat → Str} {i : Nat} {ss ss' : List Str} (h : Upto val i ss) (p : ss'.Perm (if val i ∈ ss then ss else ss ++ [val i])) : Upto val (i + 1) ss' := by
  refine ⟨?_, fun z => ?_⟩
  · rw [p.length_eq]
    have := h.1
    split
    · omega
    · rw [List.length_append]
      show ss.length + 1 ≤ i + 1
      omega
  · rw [p.mem_iff]
    have hm := h.2 z
    split
    · rename_i hv
      rw [hm]
      constructor
      · rintro ⟨j, hj, e⟩
        exact ⟨j, by omega, e⟩
      · rintro ⟨j, hj, e⟩
        by_cases q : j < i
        · exact ⟨j, q, e⟩
        · have : j = i := by omega
          subst this
          rw [← e]
          exact (h.2 _).mp hv
    · rw [List.mem_append, hm]
      constructor
      · rintro (⟨j, hj, e⟩ | q)
        · exact ⟨j, by omega, e⟩
        · exact ⟨i, by omega, (by simpa using q : z = val i).symm⟩
      · rintro ⟨j, hj, e⟩
        by_cases q : j < i
        · exact .inl ⟨j, q, e⟩
        · have : j = i := by omega
          subst this
          exact .inr (by simp [e])
theorem set_loop (W : WalksS prog w A.in1 I fp wr G n P St) (S : Addr) (nS : S ∉ fp) (val : Nat → Str) (hval : ∀ i v, P i v → ∃ t, v = .str (val i) t) (hb : n + 1 < scanBound) :
    ∀ (k i : Nat) (s : Shared), n - i = k → i ≤ n → St i s → (∃ ss, SSet w s.heap S ss ∧ Upto val i ss) → (∀ s', Moved (S :: wr) G s s' → (∃ ss, SSet w s'.heap S ss ∧ Upto val n ss) → R (.ok (.ret .none)) s') →
      codeAny (model prog w) A (.builtin "set.update.loop" ⟨[.ref S, .ref I], []⟩) R s := by
  have nw : S ∉ wr := fun z => nS (W.sub _ z)
  have sub : ∀ b ∈ wr, b ∈ S :: wr := fun b hb => List.mem_cons_of_mem _ hb
  intro k
  induction k with
  | zero =>
    rintro i s hk hi hst ⟨ss, hS, hU⟩ hR
    have e : i = n := by omega
    subst e
    refine codeAny_builtin PyProof.Rows.F.entry_set_update_loop ?_
    rw [Around.under_plainId PyProof.Rows.F.plain_set_update_loop _]
    show wpAny _ A.in1 (pyNext (.ref I) >>= _) _ _ s
    refine wpAny_bind (W.done s _ _ hst fun s1 hm => ?_)
    show wpAny _ A.in1 (ret Value.none) _ _ s1
    exact wpAny_pure (hR s1 (hm.mono sub) ⟨ss, hS.at fun o e => hm.heap S _ nw e, hU⟩)
  | succ k ih =>
    rintro i s hk hi hst ⟨ss, hS, hU⟩ hR
    have lt : i < n := by omega
    refine codeAny_builtin PyProof.Rows.F.entry_set_update_loop ?_
    rw [Around.under_plainId PyProof.Rows.F.plain_set_update_loop _]
    show wpAny _ A.in1 (pyNext (.ref I) >>= _) _ _ s
    refine wpAny_bind (W.item i s _ _ lt hst fun v s1 hP hst1 hm => ?_)
    obtain ⟨t, rfl⟩ := hval i v hP
    have hS1 : SSet w s1.heap S ss := hS.at fun o e => hm.heap S _ nw e
    show wpAny _ A.in1 (holding [Value.str (val i) t] (setAdd S (.str (val i) t)) >>= _) _ _ s1
    refine wpAny_bind (wpAny_holding ?_)
    unfold setAdd
    refine wpAny_holding (wpAny_bind ((strKind prog w).pyHash (k := val i) (beq_self_eq_true _) ?_))
    have hl := hU.1
    refine sset_add (s := { s1 with toks := s1.toks + 1 }) hS1 (by omega) fun b h1 ss1 sb hS2 pm => ?_
    refine wpAny_pure ⟨plainId_quiet PyProof.Rows.F.plain_set_update_loop _, ih (i + 1) _ (by omega) lt (W.frame _ s1 _ _ hst1 (Nat.le_succ _) fun b hb o e => ?_) ⟨ss1, hS2, upto_step hU pm⟩ fun s2 hm2 h2 => ?_⟩
    · rw [sb.2 b (fun z : b = S => nS (by rw [← z]; exact hb))]
      exact e
    · refine hR s2 (Moved.trans W.gtrans ((hm.mono sub).then_heap (Nat.le_succ _) fun b o hb e => ?_) hm2) h2
      rw [sb.2 b (fun z : b = S => hb (by rw [z]; exact List.mem_cons_self))]
      exact e
end
theorem new_set (a : Value) {Q₁ : Value → Shared → Prop} (h : Q₁ (.ref s.heap.objs.size) { s with heap := s.heap.push { cls := .type "set", dict := none, data := .set #[] 0 (.fresh 0 0 (!byT w)) } }) :
    codeAny (model prog w) A (.call (.builtin "set.__new__") ⟨[.type "set", a], []⟩) (wants Q₁ E) s := by
  refine codeAny_of_tree ?_
  show wpAny _ A.in1 (checkBuiltinCall "set.__new__" ⟨[.type "set", a], []⟩ >>= fun _ => again (.builtin "set.__new__" ⟨[.type "set", a], []⟩)) _ _ s
  refine wpAny_bind (wpAny_of_eq (PySem.F.newCall_set_1 a) (wpAny_pure ⟨plainId_quiet PySem.F.plain_set_new _, codeAny_builtin PySem.F.entry_set_new ?_⟩))
  rw [Around.under_plainId PySem.F.plain_set_new _]
  unfold Builtin.«set.__new__» Builtin.Frozenset.newClass
  have sb := sub_set_self
  obtain ⟨hp, g, d, tk, os⟩ := s
  dsimp only
  wp_walk
  refine wpAny_askSetting (wpAny_pure ?_)
  dsimp only
  simp only [newObj]
  refine wpAny_bind (wpAny_alloc (wpAny_pure ?_))
  exact wpAny_pure h
abbrev setO (led : Bool) : Obj := { cls := .type "set", dict := none, data := .set #[] 0 (.fresh 0 0 led) }
set_option maxRecDepth 100000 in
set_option maxHeartbeats 6400000 in
theorem call_set_strs {l : Addr} {items : Array Value} {val : Nat → Str} {Q : Value → Shared → Prop} (hh : A.handled = none) (hl : s.heap.IsList l items) (hv : ∀ (i : Nat) (v : Value), items[i]? = some v → ∃ t, v = Value.str (val i) t) (hb : items.size + 1 < scanBound)
    (h : ∀ (h' : Heap) (tk : Nat) ss, SSet w h' s.heap.objs.size ss → Upto val items.size ss → (∀ b o, b < s.heap.objs.size → s.heap.get? b = some o → h'.get? b = some o) → Q (.ref s.heap.objs.size) { s with heap := h', toks := tk }) :
    wpAny (model prog w) A (call (.type "set") [.ref l]) Q E s := by
  obtain ⟨c, tl, hmro⟩ := PySem.F.called_set.mro
  have hmade := PySem.F.called_set.made
  have hsub := PySem.F.called_set.sub
  refine wpAny_call (codeAny_of_tree ?_)
  show wpAny _ _ (callAny (.type "set") _) _ _ _
  refine wpAny_pure ⟨Code.quiet_builtin _ (by decide +kernel), codeAny_builtin PySem.F.entry_type_call ?_⟩
  rw [Around.under_plain (weight_type_call_type "set" [.ref l] []) rfl]
  have g1 := PySem.F.called_set.notType
  have g2 := PySem.F.called_set.canCreate
  have g3 := PySem.F.typeCall_set_1 (.ref l)
  repeat (any_goals (first | assumption | wp_step))
  refine codeAny_mono (new_set (.ref l) (E := E) (Q₁ := fun obj s₁ => obj = .ref s.heap.objs.size ∧ s₁ = { s with heap := s.heap.push (setO (!byT w)) }) ⟨rfl, rfl⟩) fun r s₁ hr => ?_
  cases r with
  | error e => exact hr
  | ok fl =>
    cases fl with
    | ret obj =>
      obtain ⟨rfl, rfl⟩ := hr
      have hS : (s.heap.push (setO (!byT w))).get? s.heap.objs.size = some (setO (!byT w)) := Heap.get?_push_size _ rfl
      have hT : Shared.TypeIs { s with heap := s.heap.push (setO (!byT w)) } (.ref s.heap.objs.size) "set" := ⟨_, hS, rfl⟩
      have g4 := PySem.F.called_set.init.lookup
      have g5 := PySem.F.called_set.init.bind (.ref s.heap.objs.size)
      repeat (any_goals (first | assumption | wp_step))
      refine codeAny_mono (codeAny_call_builtin (R := wants (fun r s₂ => r = .none ∧ ∃ h' tk ss, s₂ = { s with heap := h', toks := tk } ∧ SSet w h' s.heap.objs.size ss ∧ Upto val items.size ss ∧
          (∀ b o, b < s.heap.objs.size → s.heap.get? b = some o → h'.get? b = some o)) E) PySem.F.called_set.init.plain PySem.F.entry_set_init (check_set_init_1 hT ?_)) fun r₂ s₂ hr₂ => ?_
      · obtain ⟨ol, hol, hcl, nl, hdl⟩ := hl
        obtain ⟨ocls, odict, odata, oslots⟩ := ol
        simp only at hcl hdl
        subst hcl hdl
        have hol' : (s.heap.push (setO (!byT w))).get? l = some { cls := .type "list", dict := odict, data := .seq items nl, slots := oslots } := Heap.get?_push_of_some _ hol
        have q1 := PySem.F.sub_list_set
        have q2 := PySem.F.sub_list_frozenset
        have q3 : (Value.type "list" == Value.type "dict") = false := by decide
        have hl1 : (s.heap.push (setO (!byT w))).IsList l items := ⟨_, hol', rfl, nl, rfl⟩
        unfold Builtin.«set.__init__» noKeywords Builtin.Frozenset.updateFrom
        generalize hPI : pyIter = PI
        wp_walk
        subst hPI
        refine wpAny_pyIter_list hl1 (wpAny_bind (wpAny_runValue ?_))
        have lt : l < s.heap.objs.size := Heap.lt_size hol
        have h3 : A.in1.in1.in1.handled = none := by simp [hh]
        have sz : (s.heap.push (setO (!byT w))).objs.size = s.heap.objs.size + 1 := Heap.size_push ..
        have neI : l ≠ (s.heap.push (setO (!byT w))).objs.size := by rw [sz]; exact Nat.ne_of_lt (Nat.lt_succ_of_lt lt)
        have nS : s.heap.objs.size ∉ [(s.heap.push (setO (!byT w))).objs.size, l] := by
          rw [sz]
          simp only [List.mem_cons, List.mem_singleton, List.not_mem_nil, or_false, not_or]
          exact ⟨Nat.ne_of_lt (Nat.lt_succ_self _), Nat.ne_of_gt lt⟩
        refine set_loop ((Walks.list h3 _ l neI items).toS) s.heap.objs.size nS val hv hb (items.size - 0) 0 _ (by omega) (Nat.zero_le _) ⟨⟨_, Heap.get?_push_size _ rfl, rfl, rfl⟩, (hl1.push _)⟩ ⟨[], ?_, ?_⟩ ?_
        · exact ⟨#[], 0, .fresh 0 0 (!byT w), ⟨Heap.get?_push_of_some _ hS, fun e he => (by simp at he), by show 0 < scanBound; decide, rfl, rfl, .inr rfl⟩, rfl, List.nodup_nil⟩
        · exact ⟨Nat.le_refl _, fun z => ⟨fun q => (by cases q), fun ⟨j, hj, _⟩ => absurd hj (Nat.not_lt_zero _)⟩⟩
        · rintro ⟨h', g', d', tk', os'⟩ hm ⟨ss, hS', hU⟩
          have eg : g' = s.gens := hm.gens
          have ed : d' = s.drawn := hm.drawn
          have eo : os' = s.os := hm.os
          subst eg ed eo
          show wpAny _ _ _ _ _ _
          refine wpAny_pure ?_
          show wpAny _ _ (ret Value.none) _ _ _
          refine wpAny_pure ⟨rfl, h', tk', ss, rfl, hS', hU, fun b o hb e => ?_⟩
          have n1 : b ≠ s.heap.objs.size := Nat.ne_of_lt hb
          have n2 : b ≠ (s.heap.push (setO (!byT w))).objs.size := by rw [sz]; exact Nat.ne_of_lt (Nat.lt_succ_of_lt hb)
          exact hm.heap b o (by simp only [List.mem_cons, List.mem_singleton, List.not_mem_nil, or_false, not_or]; exact ⟨n1, n2⟩) (Heap.get?_push_of_some _ (Heap.get?_push_of_some _ e))
      · cases r₂ with
        | error e => exact hr₂
        | ok fl₂ =>
          cases fl₂ with
          | ret r =>
            obtain ⟨rfl, h', tk, ss, rfl, hS', hU, hk'⟩ := hr₂
            repeat (any_goals (first | assumption | wp_step))
            exact h _ _ ss hS' hU hk'
          | _ => exact hr₂.elim
    | _ => exact hr.elim
end
end Bw
set_option Elab.async false
set_option linter.all false
set_option maxRecDepth 100000
set_option maxHeartbeats 4000000
namespace Bw
open PySem L2
/-! ### walks over a set of texts -/
theorem slot_sit_next : Slot "set_iterator" "__next__" "set_iterator.__next__" :=
  .of (owner := "set_iterator") (n := "__next__") (by rw [typeLookup_type, builtinLookup_eq_fast]; kernel_rfl) (by decide +kernel) (by decide +kernel) (by decide +kernel)
    (by first | exact .inl (by decide +kernel) | exact .inr (by decide +kernel)) (by rw [isSubtype_type]; kernel_rfl)
theorem entry_sit_next : entryFor table "set_iterator.__next__" = some Builtin.«set_iterator.__next__» := entryFor_of_fast (by kernel_rfl)
theorem args_sit_next (a : Value) : argsOk "set_iterator.__next__" ⟨[a], []⟩ := by unfold argsOk; kernel_rfl
theorem entry_set_iter : entryFor table "set.__iter__" = some Builtin.«frozenset.__iter__» :=
  entryFor_alias (id' := "frozenset.__iter__") (by kernel_rfl) rfl (by decide +kernel) (by kernel_rfl)
theorem slot_sit_iter : Slot "set_iterator" "__iter__" "set_iterator.__iter__" :=
  .of (owner := "set_iterator") (n := "__iter__") (by rw [typeLookup_type, builtinLookup_eq_fast]; kernel_rfl) (by decide +kernel) (by decide +kernel) (by decide +kernel)
    (by first | exact .inl (by decide +kernel) | exact .inr (by decide +kernel)) (by rw [isSubtype_type]; kernel_rfl)
theorem entry_sit_iter : entryFor table "set_iterator.__iter__" = some Builtin.«dict_keyiterator.__iter__» :=
  entryFor_alias (id' := "dict_keyiterator.__iter__") (by kernel_rfl) rfl (by decide +kernel) (by kernel_rfl)
theorem args_sit_iter (a : Value) : argsOk "set_iterator.__iter__" ⟨[a], []⟩ := by unfold argsOk; kernel_rfl
theorem erase_perm {α : Type} : ∀ {l : List α} {n : Nat} (h : n < l.length), (l[n] :: l.eraseIdx n).Perm l
  | [], _, h => absurd h (Nat.not_lt_zero _)
  | x :: xs, 0, _ => .rfl
  | x :: xs, n + 1, h => (List.Perm.swap x _ _).trans (.cons x (erase_perm (l := xs) (n := n) (by simpa using h)))
theorem pick_go {α : Type} (next : Nat → Nat) : ∀ (fuel k : Nat) (left : List α) (out : Array α), fuel = left.length → (pickOrder.go next fuel k left out).toList.Perm (out.toList ++ left)
  | 0, k, left, out, e => by
    have : left = [] := List.length_eq_zero_iff.mp e.symm
    subst this
    unfold pickOrder.go
    simp
  | fuel + 1, k, left, out, e => by
    unfold pickOrder.go
    have hl : next k % left.length < left.length := Nat.mod_lt _ (by omega)
    rw [List.getElem?_eq_getElem hl]
    dsimp only
    have h := pick_go next fuel (k + 1) (left.eraseIdx (next k % left.length)) (out.push left[next k % left.length]) (by rw [List.length_eraseIdx, if_pos hl]; omega)
    refine h.trans ?_
    rw [Array.toList_push, List.append_assoc]
    exact (erase_perm hl).append_left _
theorem pick_perm {α : Type} (next : Nat → Nat) (xs : Array α) : (pickOrder next xs).toList.Perm xs.toList := by
  have := pick_go next xs.size 0 xs.toList #[] (by simp)
  simpa [pickOrder] using this
section
variable {prog : Program} {w : World} {A : Around}
theorem wp_draw {E : Value → Shared → Prop} {s : Shared} {n : Nat} {Q : Nat → Shared → Prop} (hn : n ≠ 0) (h : ∀ i d, i < n → Q i { s with drawn := d }) : wpAny (model prog w) A (choose .order n) Q E s := by
  intro Γ p hΓ
  unfold choose
  rw [Sem.wp_choose]
  exact ⟨hn, h _ _ (Nat.mod_lt _ (Nat.pos_of_ne_zero hn))⟩
theorem draw_order {α : Type} {E : Value → Shared → Prop} : ∀ (n : Nat) (xs : List α) {s : Shared} {Q : List α → Shared → Prop}, n = xs.length → (∀ ys d, ys.Perm xs → Q ys { s with drawn := d }) → wpAny (model prog w) A (drawOrder n xs) Q E s
  | 0, xs, s, Q, e, h => by
    have : xs = [] := List.length_eq_zero_iff.mp e.symm
    subst this
    unfold drawOrder
    exact wpAny_pure (h [] s.drawn .rfl)
  | n + 1, [], s, Q, e, h => by simp at e
  | n + 1, x :: xs, s, Q, e, h => by
    unfold drawOrder
    refine wpAny_bind (wp_draw (by simp) fun i d hi => ?_)
    rw [List.getElem?_eq_getElem hi]
    dsimp only
    refine wpAny_bind (draw_order n ((x :: xs).eraseIdx i) (by rw [List.length_eraseIdx, if_pos hi]; simp at e ⊢; omega) fun ys d' p => wpAny_pure (h _ _ ?_))
    exact (List.Perm.cons _ p).trans (erase_perm hi)
def SIt (h : Heap) (it S : Addr) (f : Value) (i n ep : Nat) : Prop := ∃ o, h.get? it = some o ∧ o.cls = .type "set_iterator" ∧ o.data = .fields #[f, rawInt i, .ref S, rawInt n, rawInt ep]
theorem SIt.typeIs {s : Shared} {it S : Addr} {f : Value} {i n ep : Nat} (x : SIt s.heap it S f i n ep) : s.TypeIs (.ref it) "set_iterator" := let ⟨o, ho, hc, _⟩ := x; ⟨o, ho, hc⟩
theorem SIt.at {h h' : Heap} {it S : Addr} {f : Value} {i n ep : Nat} (x : SIt h it S f i n ep) (k : ∀ o, h.get? it = some o → h'.get? it = some o) : SIt h' it S f i n ep := let ⟨o, ho, r⟩ := x; ⟨o, k o ho, r⟩
theorem SSt.at {h h' : Heap} {a : Addr} {es : Array (Int × Value)} {ep : Nat} {t : SetTable} (x : SSt w h a es ep t) (k : ∀ o, h.get? a = some o → h'.get? a = some o) : SSt w h' a es ep t := ⟨k _ x.get, x.el, x.bd, x.fit, x.led, x.pln⟩
theorem stop_here {α : Type} {E : Value → Shared → Prop} {s : Shared} {Q : α → Shared → Prop} (hh : A.handled = none) (h : ∀ h' e, (∀ b o, s.heap.get? b = some o → h'.get? b = some o) → (∃ o, h'.get? e = some o ∧ o.cls = .type "StopIteration") → E (.ref e) { s with heap := h' }) :
    wpAny (model prog w) A (newExc (.type "StopIteration") [] >>= fun e => (raiseNew e : Sem α)) Q E s := by
  refine wpAny_bind ?_
  simp only [newExc, newTuple]
  refine wpAny_bind (wpAny_newObj_type ?_ (by size_fits))
  refine wpAny_bind (m := firstArgMember _ _) (wpAny_of_eq (a := Value.none) (by first | rfl | (simp only [firstArgMember]; rfl)) ?_)
  refine wpAny_newObj_type ?_ (by size_fits)
  simp only [raiseNew]
  refine wpAny_bind (wpAny_handled ?_)
  rw [hh]
  refine wpAny_bind (wpAny_pure (wpAny_throw ?_))
  exact h _ _ (fun b o e => Heap.get?_push_of_some _ (Heap.get?_push_of_some _ e)) ⟨_, Heap.get?_push_size _ rfl, rfl⟩
theorem sit_next {E : Value → Shared → Prop} {s : Shared} {it : Addr} {Q : Option Value → Shared → Prop} (hT : s.TypeIs (.ref it) "set_iterator")
    (h : wpAny (model prog w) A.in1 (Builtin.«set_iterator.__next__» ⟨[.ref it], []⟩) (fun r s' => ∃ v, r = .done (.ret v) ∧ Q (some v) s') (fun e s' => (∃ x o, e = .ref x ∧ s'.heap.get? x = some o ∧ o.cls = .type "StopIteration") ∧ Q none s') s) :
    wpAny (model prog w) A (pyNext (.ref it)) Q E s := by
  unfold pyNext
  refine wpAny_bind (wpAny_attempt (wpAny_callSpecial?_slot (name := Str.ofString "__next__") hT slot_sit_next (wpAny_call_entry slot_sit_next hT entry_sit_next ?_ (args_sit_next _))))
  refine wpAny_mono h (fun r s' ⟨v, e, q⟩ => ⟨v, e, wpAny_pure q⟩) fun e s' q => ?_
  obtain ⟨⟨x, o, rfl, ho, hc⟩, q⟩ := q
  exact wpAny_bind (wpAny_isInstance (T := "StopIteration") (b := true) ⟨o, ho, hc⟩ isSubtype_stop (wpAny_pure q))
theorem sit_self {E : Value → Shared → Prop} {s : Shared} {it : Addr} {Q : Value → Shared → Prop} (hT : s.TypeIs (.ref it) "set_iterator") (h : Q (.ref it) s) : wpAny (model prog w) A (pyIter (.ref it)) Q E s := by
  refine wpAny_pyIter_slot hT slot_sit_iter (wpAny_call_entry slot_sit_iter hT entry_sit_iter ?_ (args_sit_iter _))
  show wpAny _ _ (ret (.ref it)) _ _ s
  exact wpAny_pure ⟨_, rfl, "set_iterator", _, hT, slot_sit_next.lookup, h⟩

section
variable {E : Value → Shared → Prop} {s : Shared} {I S : Addr} {slot i n ep : Nat} {es : Array (Int × Value)} {t : SetTable}
theorem nx_int {r : Option (Value × Nat)} {Q : Option Value → Shared → Prop} (hh : A.handled = none) (hit : SIt s.heap I S (rawInt slot) i n ep) (hS : SSt w s.heap S es ep t) (hn : es.size = n)
    (hr : ∀ (A' : Around) (E' : Value → Shared → Prop) (Q' : Option (Value × Nat) → Shared → Prop), Q' r s → wpAny (model prog w) A' (setNext S slot i ep) Q' E' s)
    (h1 : ∀ (x : Value) (nx : Nat) h', r = some (x, nx) → SIt h' I S (rawInt nx) (i + 1) n ep → Heap.SameBut I s.heap h' → Q (some x) { s with heap := h' })
    (h2 : ∀ h', r = none → (∀ b o, b ≠ I → s.heap.get? b = some o → h'.get? b = some o) → Q none { s with heap := h' }) :
    wpAny (model prog w) A (pyNext (.ref I)) Q E s := by
  obtain ⟨o, ho, hc, hd⟩ := id hit
  refine sit_next hit.typeIs ?_
  unfold Builtin.«set_iterator.__next__»
  refine wpAny_bind (wpAny_pure ?_)
  refine wpAny_bind (wpAny_fieldsOf ho hd ?_)
  show wpAny _ _ (setEntries S >>= _) _ _ _
  unfold setEntries
  refine wpAny_bind (wpAny_bind (wpAny_setState_of hS.get rfl hS.fit (wpAny_pure ?_)))
  dsimp only
  rw [if_neg (by rw [hn]; simp)]
  show wpAny _ _ (setNext S (Int.toNat (slot : Int)) (Int.toNat (i : Int)) (Int.toNat (ep : Int)) >>= _) _ _ _
  rw [Int.toNat_natCast, Int.toNat_natCast, Int.toNat_natCast]
  refine wpAny_bind (hr _ _ _ ?_)
  cases r with
  | none =>
    dsimp only
    refine wpAny_bind (wpAny_setField ho hd (by simp) ?_)
    refine stop_here hh fun h' e k he => ⟨?_, h2 h' rfl fun b o' hb eo => k b o' ?_⟩
    · obtain ⟨oe, g1, g2⟩ := he
      exact ⟨e, oe, rfl, g1, g2⟩
    · exact (Heap.SameBut.update ..).extBut b o' hb eo
  | some xn =>
    obtain ⟨x, nx⟩ := xn
    dsimp only
    refine wpAny_bind (wpAny_setField ho hd (by simp) ?_)
    have ho1 := Heap.get?_update_self (Obj.mapFields (·.setIfInBounds 0 (rawInt (nx : Int)))) ho (Obj.isFreed_of_fields (Obj.data_mapFields hd _))
    have hd1 := Obj.data_mapFields hd (·.setIfInBounds 0 (rawInt (nx : Int)))
    refine wpAny_bind (wpAny_setField ho1 hd1 (by simp) ?_)
    refine wpAny_pure ⟨_, rfl, h1 x nx _ rfl ?_ ?_⟩
    · refine ⟨_, Heap.get?_update_self _ ho1 (Obj.isFreed_of_fields (Obj.data_mapFields hd1 _)), ?_, ?_⟩
      · rw [Obj.cls_mapFields, Obj.cls_mapFields]; exact hc
      · rw [Obj.data_mapFields hd1]; simp [rawInt]
    · exact (Heap.SameBut.update ..).trans (Heap.SameBut.update ..)
theorem nx_tup {places : List Nat} {tp : Addr} {Q : Option Value → Shared → Prop} (hh : A.handled = none) (hit : SIt s.heap I S (.ref tp) i n ep) (hS : SSt w s.heap S es ep t) (hn : es.size = n) (ht : s.heap.IsTuple tp (places.map fun (j : Nat) => rawInt (j : Int)).toArray)
    (hp : ∀ j ∈ places, j < es.size)
    (h1 : ∀ (j : Nat) (e : Int × Value) h', places[i]? = some j → es[j]? = some e → SIt h' I S (.ref tp) (i + 1) n ep → Heap.SameBut I s.heap h' → Q (some e.2) { s with heap := h' })
    (h2 : ∀ h', places[i]? = none → (∀ b o, b ≠ I → s.heap.get? b = some o → h'.get? b = some o) → Q none { s with heap := h' }) :
    wpAny (model prog w) A (pyNext (.ref I)) Q E s := by
  obtain ⟨o, ho, hc, hd⟩ := id hit
  obtain ⟨ot, hot, hct, nt, hdt⟩ := id ht
  refine sit_next hit.typeIs ?_
  unfold Builtin.«set_iterator.__next__»
  refine wpAny_bind (wpAny_pure ?_)
  refine wpAny_bind (wpAny_fieldsOf ho hd ?_)
  show wpAny _ _ (setEntries S >>= _) _ _ _
  unfold setEntries
  refine wpAny_bind (wpAny_bind (wpAny_setState_of hS.get rfl hS.fit (wpAny_pure ?_)))
  dsimp only
  rw [if_neg (by rw [hn]; simp)]
  show wpAny _ _ (seqItems? (.ref tp) >>= _) _ _ _
  refine wpAny_bind (wpAny_seqItems hot hdt ?_)
  dsimp only
  rw [Int.toNat_natCast, Int.toNat_natCast, List.getElem?_toArray, List.getElem?_map]
  cases hpi : places[i]? with
  | none =>
    dsimp only [Option.map]
    refine wpAny_bind (wpAny_setField ho hd (by simp) ?_)
    have ho1 := Heap.get?_update_self (Obj.mapFields (·.setIfInBounds 0 (rawInt 0))) ho (Obj.isFreed_of_fields (Obj.data_mapFields hd _))
    have hd1 := Obj.data_mapFields hd (·.setIfInBounds 0 (rawInt 0))
    refine wpAny_bind (wpAny_setField ho1 hd1 (by simp) ?_)
    refine stop_here hh fun h' e k he => ⟨?_, h2 h' hpi fun b o' hb eo => k b o' ?_⟩
    · obtain ⟨oe, g1, g2⟩ := he
      exact ⟨e, oe, rfl, g1, g2⟩
    · exact ((Heap.SameBut.update ..).trans (Heap.SameBut.update ..)).extBut b o' hb eo
  | some j =>
    have hj : j < es.size := hp j (List.mem_of_getElem? hpi)
    show wpAny _ _ (setNextDrawn S (Int.toNat (j : Int)) ep >>= _) _ _ _
    rw [Int.toNat_natCast]
    unfold setNextDrawn
    refine wpAny_bind (wpAny_bind (wpAny_setState_of hS.get rfl hS.fit ?_))
    dsimp only
    rw [if_neg (by simp), Array.getElem?_eq_getElem hj]
    refine wpAny_pure ?_
    refine wpAny_bind (wpAny_setField ho hd (by simp) ?_)
    refine wpAny_pure ⟨_, rfl, h1 j es[j] _ hpi (Array.getElem?_eq_getElem hj) ?_ (Heap.SameBut.update ..)⟩
    refine ⟨_, Heap.get?_update_self _ ho (Obj.isFreed_of_fields (Obj.data_mapFields hd _)), ?_, ?_⟩
    · rw [Obj.cls_mapFields]; exact hc
    · rw [Obj.data_mapFields hd]; simp [rawInt]
theorem next_text {Q' : Option (Value × Nat) → Shared → Prop} (hT : byT w = true) (x : SSt w s.heap S es ep t) (h : Q' (((pickOrder (w.params.setOrder S ep) es)[i]?).map fun e => (e.2, slot)) s) : wpAny (model prog w) A (setNext S slot i ep) Q' E s := by
  unfold setNext
  refine wpAny_bind (wpAny_setState_of x.get rfl x.fit ?_)
  dsimp only
  unfold setsByText
  refine wpAny_bind (wpAny_bind (wpAny_askSetting (wpAny_pure ?_)))
  refine wpAny_ite_split (fun _ => ?_) fun hab => absurd hT hab
  rw [if_neg (by simp)]
  unfold setWalk
  refine wpAny_bind (wpAny_bind (wpAny_setState_of x.get rfl x.fit ?_))
  dsimp only
  unfold setsByText
  refine wpAny_bind (wpAny_bind (wpAny_askSetting (wpAny_pure ?_)))
  refine wpAny_ite_split (fun _ => ?_) fun hab => absurd hT hab
  refine wpAny_bind (wpAny_askSetting (wpAny_pure ?_))
  exact wpAny_pure h
theorem next_one {Q' : Option (Value × Nat) → Shared → Prop} (hT : byT w = false) (x : SSt w s.heap S es ep t) (h1 : es.size = 1)
    (h : Q' (match es[SetTable.below t.place slot]?, t.place[SetTable.below t.place slot]? with | some (_, x), some j => some (x, j + 1) | _, _ => none) s) : wpAny (model prog w) A (setNext S slot i ep) Q' E s := by
  unfold setNext
  refine wpAny_bind (wpAny_setState_of x.get rfl x.fit ?_)
  dsimp only
  unfold setsByText
  refine wpAny_bind (wpAny_bind (wpAny_askSetting (wpAny_pure ?_)))
  refine wpAny_ite_split (fun hab => ?_) fun _ => ?_
  · have hab' : byT w = true := hab
    rw [hT] at hab'
    cases hab'
  refine wpAny_ite_split (fun hab => ?_) fun _ => ?_
  · have hab' : (!t.plain && decide (es.size > 1)) = true := hab
    rw [h1] at hab'
    simp at hab'
  have hl : t.led = true := by rw [x.led, hT]; rfl
  refine wpAny_bind ?_
  show wpAny _ _ (if (!t.led && !es.isEmpty) = true then unsupported "set:maker-not-led" else pure ()) _ _ _
  rw [hl]
  exact wpAny_pure (wpAny_pure h)
end
theorem below_one {xs : Array Nat} {j : Nat} (h : xs.size = 1) (hj : xs[0]? = some j) : SetTable.below xs 0 = 0 ∧ SetTable.below xs (j + 1) = 1 := by
  have e : xs = #[j] := by
    apply Array.ext'
    match xs, h, hj with
    | ⟨[a]⟩, _, hj => simp at hj; simp [hj]
  subst e
  constructor
  · rfl
  · unfold SetTable.below
    show SetTable.below.go #[j] (j + 1) 1 0 1 = 1
    unfold SetTable.below.go
    simp
    unfold SetTable.below.go
    rfl
theorem walks_text (hT : byT w = true) (hh : A.handled = none) (I S : Addr) (hne : S ≠ I) {es : Array (Int × Value)} {ep : Nat} {t : SetTable} :
    Walks prog w A I [I, S] [I] es.size (fun i v => ((pickOrder (w.params.setOrder S ep) es).toList.map (·.2))[i]? = some v) (fun i h => SIt h I S (rawInt ((0 : Nat) : Int)) i es.size ep ∧ SSt w h S es ep t) where
  sub := fun b hb => by simp at hb; simp [hb]
  frame := fun _ _ _ st hk => ⟨st.1.at fun o e => hk I (by simp) o e, st.2.at fun o e => hk S (by simp) o e⟩
  item := fun i s Q E hi st hQ => by
    have hl : (pickOrder (w.params.setOrder S ep) es).size = es.size := by
      have := (pick_perm (w.params.setOrder S ep) es).length_eq
      simpa using this
    refine nx_int hh st.1 st.2 rfl (fun A' E' Q' hq => next_text hT st.2 hq) (fun x nx h' hr hit' sb => ?_) fun h' hr k => ?_
    · rw [Array.getElem?_eq_getElem (by omega)] at hr
      have e := Prod.mk.inj (Option.some.inj hr)
      rw [← e.2] at hit'
      exact hQ _ h' s.toks (by rw [← e.1]; simp [hl, hi]) ⟨hit', st.2.at fun o eo => sb.extBut S o hne eo⟩ fun b o hb eo => sb.extBut b o (by simpa using hb) eo
    · rw [Array.getElem?_eq_getElem (by omega)] at hr
      cases hr
  done := fun s Q E st hQ => by
    have hl : (pickOrder (w.params.setOrder S ep) es).size = es.size := by
      have := (pick_perm (w.params.setOrder S ep) es).length_eq
      simpa using this
    refine nx_int hh st.1 st.2 rfl (fun A' E' Q' hq => next_text hT st.2 hq) (fun x nx h' hr hit' sb => ?_) fun h' hr k => ?_
    · rw [Array.getElem?_eq_none (by omega)] at hr
      cases hr
    · exact hQ h' s.toks fun b o hb eo => k b o (by simpa using hb) eo
  self := fun _ _ _ _ st hQ => sit_self st.1.typeIs hQ
theorem walks_one (hT : byT w = false) (hh : A.handled = none) (I S : Addr) (hne : S ≠ I) {es : Array (Int × Value)} {ep j : Nat} {t : SetTable} (h1 : es.size = 1) (hp : t.place.size = 1) (hj : t.place[0]? = some j) :
    Walks prog w A I [I, S] [I] es.size (fun i v => (es.toList.map (·.2))[i]? = some v) (fun i h => SIt h I S (rawInt (((if i = 0 then 0 else j + 1 : Nat)) : Int)) i es.size ep ∧ SSt w h S es ep t) where
  sub := fun b hb => by simp at hb; simp [hb]
  frame := fun _ _ _ st hk => ⟨st.1.at fun o e => hk I (by simp) o e, st.2.at fun o e => hk S (by simp) o e⟩
  item := fun i s Q E hi st hQ => by
    have i0 : i = 0 := by omega
    subst i0
    refine nx_int hh st.1 st.2 rfl (fun A' E' Q' hq => next_one hT st.2 h1 hq) (fun x nx h' hr hit' sb => ?_) fun h' hr k => ?_
    · rw [if_pos rfl, (below_one hp hj).1, hj, Array.getElem?_eq_getElem (by omega)] at hr
      have e := Prod.mk.inj (Option.some.inj hr)
      refine hQ _ h' s.toks (by rw [← e.1]; simp [h1]) ⟨?_, st.2.at fun o eo => sb.extBut S o hne eo⟩ fun b o hb eo => sb.extBut b o (by simpa using hb) eo
      rw [if_neg (by omega), e.2]
      exact hit'
    · rw [if_pos rfl, (below_one hp hj).1, hj, Array.getElem?_eq_getElem (by omega)] at hr
      cases hr
  done := fun s Q E st hQ => by
    refine nx_int hh st.1 st.2 rfl (fun A' E' Q' hq => next_one hT st.2 h1 hq) (fun x nx h' hr hit' sb => ?_) fun h' hr k => ?_
    · rw [if_neg (by omega), (below_one hp hj).2, Array.getElem?_eq_none (by omega)] at hr
      cases hr
    · exact hQ h' s.toks fun b o hb eo => k b o (by simpa using hb) eo
  self := fun _ _ _ _ st hQ => sit_self st.1.typeIs hQ
theorem walks_drawn (hh : A.handled = none) (I S tp : Addr) (hne : S ≠ I) (hnt : tp ≠ I) {es : Array (Int × Value)} {ep : Nat} {t : SetTable} {places : List Nat} (hp : places.Perm (List.range es.size)) :
    Walks prog w A I [I, S, tp] [I] es.size (fun i v => (places.map fun j => (es.toList.map (·.2)).getD j .none)[i]? = some v) (fun i h => SIt h I S (.ref tp) i es.size ep ∧ SSt w h S es ep t ∧ h.IsTuple tp (places.map fun (j : Nat) => rawInt (j : Int)).toArray) where
  sub := fun b hb => by simp at hb; simp [hb]
  frame := fun _ _ _ st hk => ⟨st.1.at fun o e => hk I (by simp) o e, st.2.1.at fun o e => hk S (by simp) o e, st.2.2.at fun o e => hk tp (by simp) o e⟩
  item := fun i s Q E hi st hQ => by
    have hl : places.length = es.size := by rw [hp.length_eq, List.length_range]
    refine nx_tup hh st.1 st.2.1 rfl st.2.2 (fun j hj => List.mem_range.mp (hp.mem_iff.mp hj)) (fun j e h' h1 h2 hit' sb => ?_) fun h' hr k => ?_
    · have hj := (Array.getElem?_eq_some_iff.mp h2)
      refine hQ _ h' s.toks ?_ ⟨hit', st.2.1.at fun o eo => sb.extBut S o hne eo, st.2.2.at fun o eo => sb.extBut tp o hnt eo⟩ fun b o hb eo => sb.extBut b o (by simpa using hb) eo
      rw [List.getElem?_map, h1]
      simp [List.getD_eq_getElem?_getD, h2]
    · rw [List.getElem?_eq_getElem (by omega)] at hr
      cases hr
  done := fun s Q E st hQ => by
    have hl : places.length = es.size := by rw [hp.length_eq, List.length_range]
    refine nx_tup hh st.1 st.2.1 rfl st.2.2 (fun j hj => List.mem_range.mp (hp.mem_iff.mp hj)) (fun j e h' h1 h2 hit' sb => ?_) fun h' hr k => ?_
    · rw [List.getElem?_eq_none (by omega)] at h1
      cases h1
    · exact hQ h' s.toks fun b o hb eo => k b o (by simpa using hb) eo
  self := fun _ _ _ _ st hQ => sit_self st.1.typeIs hQ
theorem getD_range (l : List Value) : (List.range l.length).map (fun j => l.getD j .none) = l := by
  apply List.ext_getElem
  · simp
  · intro i h1 h2
    simp [List.getD_eq_getElem?_getD, h2]
/-- the walk of a set that is not empty -/
theorem iter_set {E : Value → Shared → Prop} {s : Shared} {S : Addr} {es : Array (Int × Value)} {ep : Nat} {t : SetTable} {Q : Value → Shared → Prop} (x : SSt w s.heap S es ep t) (h0 : 0 < es.size) (hh : A.handled = none)
    (h : ∀ (I : Addr) (fp : List Addr) (St : Nat → Heap → Prop) (h' : Heap) d (vs : List Value), Walks prog w A I fp [I] es.size (fun i v => vs[i]? = some v) St → St 0 h' → vs.Perm (es.toList.map (·.2)) → (∀ b ∈ fp, b = S ∨ s.heap.objs.size ≤ b) → s.heap.objs.size ≤ I →
      (∀ b o, s.heap.get? b = some o → h'.get? b = some o) → Q (.ref I) { s with heap := h', drawn := d }) :
    wpAny (model prog w) A (pyIter (.ref S)) Q E s := by
  have hT : s.TypeIs (.ref S) "set" := ⟨_, x.get, rfl⟩
  have lt : S < s.heap.objs.size := Heap.lt_size x.get
  have pl : t.plain = false := by
    rcases x.pln with z | z
    · exact z
    · omega
  refine wpAny_pyIter_slot hT PySem.F.slot_set_iter (wpAny_call_entry PySem.F.slot_set_iter hT entry_set_iter ?_ (PySem.F.args_set_iter_1 _))
  unfold Builtin.«frozenset.__iter__»
  refine wpAny_bind (wpAny_pure ?_)
  unfold Builtin.Frozenset.sizeOf setEntries
  refine wpAny_bind (wpAny_bind (wpAny_bind (wpAny_setState_of x.get rfl x.fit (wpAny_pure (wpAny_pure ?_)))))
  unfold setDrawn
  refine wpAny_bind (wpAny_bind (wpAny_setState_of x.get rfl x.fit ?_))
  dsimp only
  unfold setsByText
  refine wpAny_bind (wpAny_bind (wpAny_askSetting (wpAny_pure (wpAny_pure ?_))))
  have fin : ∀ (f : Value) (s1 : Shared) (Q' : Fin → Shared → Prop), s1.heap.get? S = s.heap.get? S → Q' (.done (.ret (.ref s1.heap.objs.size))) { s1 with heap := s1.heap.push { cls := .type "set_iterator", data := .fields #[f, rawInt 0, .ref S, rawInt (es.size : Int), rawInt (ep : Int)] } } →
      wpAny (model prog w) A.in1 (do let e ← setEpoch S; let v ← newFields "set_iterator" [f, rawInt 0, .ref S, rawInt (es.size : Int), rawInt (e : Int)]; ret v) Q' E s1 := fun f s1 Q' e q => by
    refine wpAny_bind (wpAny_setEpoch_of (e.trans x.get) rfl x.fit ?_)
    unfold newFields
    exact wpAny_bind (wpAny_newObj_type (wpAny_pure q))
  by_cases hb : byT w = true
  · refine wpAny_ite_split (fun hab => ?_) fun _ => wpAny_bind (wpAny_pure ?_)
    · have hab' : (!byT w && (!t.plain && decide (es.size > 1))) = true := hab
      rw [hb] at hab'
      cases hab'
    refine fin _ s _ rfl ⟨_, rfl, "set_iterator", _, ⟨_, Heap.get?_push_size _ rfl, rfl⟩, slot_sit_next.lookup, ?_⟩
    refine h s.heap.objs.size [s.heap.objs.size, S] _ _ s.drawn _ (walks_text hb hh _ S (Nat.ne_of_lt lt)) ⟨⟨_, Heap.get?_push_size _ rfl, rfl, rfl⟩, x.at fun o e => Heap.get?_push_of_some _ e⟩ ((pick_perm _ es).map _) (fun b hb' => ?_) (Nat.le_refl _) fun b o e => Heap.get?_push_of_some _ e
    rcases List.mem_cons.mp hb' with z | z
    · exact .inr (by rw [z]; exact Nat.le_refl _)
    · exact .inl (List.mem_singleton.mp z)
  · have hb' : byT w = false := by simpa using hb
    by_cases h1 : es.size = 1
    · refine wpAny_ite_split (fun hab => ?_) fun _ => wpAny_bind (wpAny_pure ?_)
      · have hab' : (!byT w && (!t.plain && decide (es.size > 1))) = true := hab
        rw [h1] at hab'
        simp at hab'
      have hps : t.place.size = 1 := by
        have := x.fit
        simp only [SetTable.fits, Bool.and_eq_true, beq_iff_eq, decide_eq_true_eq] at this
        rw [this.1, h1]
      obtain ⟨j, hj⟩ : ∃ j, t.place[0]? = some j := ⟨_, Array.getElem?_eq_getElem (by omega)⟩
      refine fin _ s _ rfl ⟨_, rfl, "set_iterator", _, ⟨_, Heap.get?_push_size _ rfl, rfl⟩, slot_sit_next.lookup, ?_⟩
      refine h s.heap.objs.size [s.heap.objs.size, S] _ _ s.drawn _ (walks_one hb' hh _ S (Nat.ne_of_lt lt) h1 hps hj) ⟨⟨_, Heap.get?_push_size _ rfl, rfl, rfl⟩, x.at fun o e => Heap.get?_push_of_some _ e⟩ .rfl (fun b hb' => ?_) (Nat.le_refl _) fun b o e => Heap.get?_push_of_some _ e
      rcases List.mem_cons.mp hb' with z | z
      · exact .inr (by rw [z]; exact Nat.le_refl _)
      · exact .inl (List.mem_singleton.mp z)
    · refine wpAny_ite_split (fun _ => ?_) fun hab => ?_
      · refine wpAny_bind (draw_order es.size (List.range es.size) List.length_range.symm fun places d pp => ?_)
        have hbd := x.bd
        have hpl : places.length = es.size := by rw [pp.length_eq, List.length_range]
        refine wpAny_bind (wpAny_newTuple ?_ (by rw [List.length_map, hpl]; have : scanBound = 4096 := rfl; have := sizeLine_eq; omega))
        dsimp only
        generalize hG : s.heap.push { cls := .type "tuple", data := .seq (places.map fun (i : Nat) => rawInt (i : Int)).toArray } = G
        have hGs : G.objs.size = s.heap.objs.size + 1 := by rw [← hG]; exact Heap.size_push ..
        have kG : ∀ b o, s.heap.get? b = some o → G.get? b = some o := fun b o e => by rw [← hG]; exact Heap.get?_push_of_some _ e
        have tG : G.IsTuple s.heap.objs.size (places.map fun (i : Nat) => rawInt (i : Int)).toArray := by rw [← hG]; exact ⟨_, Heap.get?_push_size _ rfl, rfl, _, rfl⟩
        refine fin _ { s with heap := G, drawn := d } _ ((kG _ _ x.get).trans x.get.symm) ⟨_, rfl, "set_iterator", _, ⟨_, Heap.get?_push_size _ rfl, rfl⟩, slot_sit_next.lookup, ?_⟩
        refine h G.objs.size [G.objs.size, S, s.heap.objs.size] _ _ d _ (walks_drawn hh _ S s.heap.objs.size (by rw [hGs]; exact Nat.ne_of_lt (Nat.lt_succ_of_lt lt)) (by rw [hGs]; exact Nat.ne_of_lt (Nat.lt_succ_self _)) pp)
          ⟨⟨_, Heap.get?_push_size _ rfl, rfl, rfl⟩, x.at fun o e => Heap.get?_push_of_some _ (kG _ _ e), tG.at fun o e => Heap.get?_push_of_some _ e⟩ ?_ (fun b hb' => ?_) (by rw [hGs]; exact Nat.le_succ _) fun b o e => Heap.get?_push_of_some _ (kG b o e)
        · have h5 := pp.map fun j => (es.toList.map (·.2)).getD j .none
          have h6 := getD_range (es.toList.map (·.2))
          rw [List.length_map, Array.length_toList] at h6
          rw [h6] at h5
          exact h5
        · simp only [List.mem_cons, List.not_mem_nil, or_false] at hb'
          rcases hb' with z | z | z
          · exact .inr (by rw [z, hGs]; exact Nat.le_succ _)
          · exact .inl z
          · exact .inr (by rw [z]; exact Nat.le_refl _)
      · refine absurd ?_ hab
        show (!byT w && (!t.plain && decide (es.size > 1))) = true
        rw [hb', pl]
        simp
        omega
end
end Bw
set_option Elab.async false
set_option linter.all false
set_option maxRecDepth 100000
set_option maxHeartbeats 4000000
namespace Bw
open PySem L2
/-! ### sorted of a set and of a dict -/
section
variable {prog : Program} {w : World} {A : Around} {E : Value → Shared → Prop} {s : Shared}
theorem hint_own {T : String} (hT : T = "set" ∨ T = "dict") {a : Addr} {Q : Bool → Shared → Prop} (ty : s.TypeIs (.ref a) T) (h : Q false s) : wpAny (model prog w) A (Builtin.List.listLengthHint (.ref a)) Q E s := by
  rcases hT with rfl | rfl
  · unfold Builtin.List.listLengthHint
    refine wpAny_bind (wpAny_specialOf ty PySem.F.slot_set_len.lookup ?_)
    generalize hid : ("set.__len__" : String) = id0
    wp_delta
    rw [show splitId id0 = some ("set", "__len__") from by subst hid; decide +kernel]
    subst hid
    refine wpAny_bind (wpAny_isInstance (T := "set") (b := true) ty (by rw [isSubtype_type]; kernel_rfl) ?_)
    refine wpAny_ite_split (fun hab => absurd hab (by decide)) (fun _ => ?_)
    refine wpAny_ite_split (fun _ => ?_) (fun hab => absurd (by decide +kernel) hab)
    refine wpAny_bind (wpAny_typeOf ty ?_)
    exact wpAny_pure h
  · unfold Builtin.List.listLengthHint
    refine wpAny_bind (wpAny_specialOf ty PySem.F.slot_dict_len.lookup ?_)
    generalize hid : ("dict.__len__" : String) = id0
    wp_delta
    rw [show splitId id0 = some ("dict", "__len__") from by subst hid; decide +kernel]
    subst hid
    refine wpAny_bind (wpAny_isInstance (T := "dict") (b := true) ty (by rw [isSubtype_type]; kernel_rfl) ?_)
    refine wpAny_ite_split (fun hab => absurd hab (by decide)) (fun _ => ?_)
    refine wpAny_ite_split (fun _ => ?_) (fun hab => absurd (by decide +kernel) hab)
    refine wpAny_bind (wpAny_typeOf ty ?_)
    exact wpAny_pure h
/-- what the walk of an own container gives -/
def Iters (prog : Program) (w : World) (A : Around) (a : Addr) (R : List Value → Prop) (s : Shared) : Prop :=
  ∀ (s1 : Shared) (Q' : Value → Shared → Prop) (E' : Value → Shared → Prop), (∃ h1, s1 = { s with heap := h1 } ∧ s.heap.objs.size ≤ h1.objs.size ∧ ∀ b o, s.heap.get? b = some o → h1.get? b = some o) →
    (∀ (I : Addr) (fp : List Addr) (n : Nat) (P : Nat → Value → Prop) (St : Nat → Heap → Prop) (h' : Heap) d, Walks prog w A I fp [I] n P St → n ≤ sizeLine → St 0 h' → (∀ b ∈ fp, b = a ∨ s1.heap.objs.size ≤ b) → s1.heap.objs.size ≤ I →
      (∀ b o, s1.heap.get? b = some o → h'.get? b = some o) → (∀ acc : Array Value, ItemsOf P acc n → R acc.toList) → Q' (.ref I) { s1 with heap := h', drawn := d }) →
    wpAny (model prog w) A (pyIter (.ref a)) Q' E' s1
theorem collect_own {T : String} (hT : T = "set" ∨ T = "dict") {a : Addr} {R : List Value → Prop} {Q : List Value → Shared → Prop} (ty : s.TypeIs (.ref a) T) (hit : Iters prog w A.in1 a R s)
    (hQ : ∀ vs h' tk d, R vs → s.heap.objs.size ≤ h'.objs.size → (∀ b o, s.heap.get? b = some o → h'.get? b = some o) → Q vs { s with heap := h', toks := tk, drawn := d }) :
    wpAny (model prog w) A (collect (.ref a)) Q E s := by
  have hlt : a < s.heap.objs.size := let ⟨o, ho, _⟩ := ty; Heap.lt_size ho
  unfold collect
  refine wpAny_bind (wpAny_runValue (codeAny_builtin PySem.F.entry_proto_collect ?_))
  rw [Around.under_plainId PySem.F.plain_proto_collect _]
  show wpAny _ A.in1 (newList [] >>= fun l => again (.builtin "list.__iadd__" ⟨[l, .ref a], []⟩)) _ _ s
  refine wpAny_bind (wpAny_newObj_type ?_)
  refine wpAny_pure ⟨plainId_quiet PySem.F.plain_list_iadd _, codeAny_builtin PySem.F.entry_list_iadd ?_⟩
  rw [Around.under_plainId PySem.F.plain_list_iadd _]
  generalize hG : s.heap.push { cls := .type "list", data := .seq ([] : List Value).toArray } = G
  have hGs : G.objs.size = s.heap.objs.size + 1 := by rw [← hG]; exact Heap.size_push ..
  have kG : ∀ b o, s.heap.get? b = some o → G.get? b = some o := fun b o e => by rw [← hG]; exact Heap.get?_push_of_some _ e
  have hS₀ : G.get? s.heap.objs.size = some { cls := .type "list", data := .seq ([] : List Value).toArray } := by rw [← hG]; exact Heap.get?_push_size _ rfl
  have tyG : Shared.TypeIs { s with heap := G } (.ref a) T := let ⟨o, ho, hc⟩ := ty; ⟨o, kG _ _ ho, hc⟩
  show wpAny _ A.in1 (Builtin.List.listExtendWith (.ref s.heap.objs.size) (.ref a) (.ref s.heap.objs.size)) _ _ { s with heap := G }
  unfold Builtin.List.listExtendWith
  refine wpAny_bind (wpAny_typeOf tyG ?_)
  have h1 : Builtin.List.listSameRef (.ref s.heap.objs.size) (.ref a) = false := by simp [Builtin.List.listSameRef, Nat.ne_of_gt hlt]
  rw [if_neg (by rcases hT with rfl | rfl <;> (rw [h1]; decide))]
  refine wpAny_bind (hit _ _ _ ⟨G, rfl, by omega, kG⟩ fun I fp n P St h' d W hn st hfp hI kh hR => ?_)
  have hS₁ := kh _ _ hS₀
  have ty' : Shared.TypeIs { s with heap := h', drawn := d } (.ref a) T := let ⟨o, ho, hc⟩ := tyG; ⟨o, kh _ _ ho, hc⟩
  refine wpAny_bind (wpAny_holding (hint_own hT ty' ?_))
  refine wpAny_ite_split (fun _ => ?_) (fun hab => absurd (by rcases hT with rfl | rfl <;> decide +kernel) hab)
  refine wpAny_bind (wpAny_rule ?_)
  have hSf : s.heap.objs.size ∉ fp := fun hm => by
    rcases hfp _ hm with z | z
    · exact absurd hlt (by rw [← z]; exact Nat.lt_irrefl _)
    · have : G.objs.size ≤ s.heap.objs.size := z
      omega
  have hSI : s.heap.objs.size ≠ I := fun z => by
    have : G.objs.size ≤ I := hI
    omega
  refine wpAny_bind ?_
  show wpAny _ A.in1 (updateSeq s.heap.objs.size (·.push .none) >>= fun _ => updateSeq s.heap.objs.size (·.pop)) _ _ _
  refine wpAny_bind (wpAny_updateSeq hS₁ rfl ?_)
  have hS₂ := Heap.get?_update_self (Obj.mapSeq (·.push Value.none)) hS₁ rfl
  refine wpAny_updateSeq hS₂ rfl ?_
  have hS₃ := Heap.get?_update_self (Obj.mapSeq (·.pop)) hS₂ rfl
  have oth : ∀ b o, b ≠ s.heap.objs.size → h'.get? b = some o → ((h'.update s.heap.objs.size (Obj.mapSeq (·.push Value.none))).update s.heap.objs.size (Obj.mapSeq (·.pop))).get? b = some o :=
    fun b o hb e => (Heap.get?_update_other _ _ (Ne.symm hb)).trans ((Heap.get?_update_other _ _ (Ne.symm hb)).trans e)
  refine wpAny_pure ⟨plainId_quiet PySem.F.plain_extend_loop _, codeAny_extend_loopS W.toS hn _ hSf _ n 0 _ _ _ rfl (Nat.zero_le _) (W.frame _ _ _ st fun b hb o e => oth b o (fun z => hSf (z ▸ hb)) e) hS₃ (ItemsOf.nil P) fun s' acc' c' hm hS' hacc => ?_⟩
  show wpAny _ A (load s.heap.objs.size >>= _) _ _ s'
  refine wpAny_bind (wpAny_load hS' ?_)
  rw [Moved.eq_with hm]
  refine wpAny_pure (hQ _ _ _ _ (hR acc' hacc) (Nat.le_of_lt (Heap.lt_size hS')) fun b o e => hm.heap b o (fun z => ?_) (oth b o (Nat.ne_of_lt (Heap.lt_size e)) (kh _ _ (kG _ _ e))))
  have hb := Heap.lt_size e
  rcases List.mem_cons.mp z with q | q
  · exact absurd hb (by rw [q]; exact Nat.lt_irrefl _)
  · have q' := List.mem_singleton.mp q
    have h9 : s.heap.objs.size + 1 ≤ I := by rw [← hGs]; exact hI
    exact absurd hb (by rw [q']; exact Nat.not_lt.mpr (Nat.le_of_succ_le h9))
theorem sorted_own {T : String} (hT : T = "set" ∨ T = "dict") {a : Addr} {R : List Value → Prop} {RR : List Str → Prop} {Q : Value → Shared → Prop} (ty : s.TypeIs (.ref a) T) (hit : Iters prog w A.in1.in1 a R s)
    (hR : ∀ vs, R vs → ∃ ss, PyProof.Rows.StrsAre vs ss ∧ vs.length < 64 ∧ RR ss)
    (h : ∀ (p : Addr) (e : Nat) (out : Array Value) (ss ss' : List Str) h' tk d, RR ss → PyProof.Rows.StrsAre out.toList ss' → ss'.Perm ss → PyProof.Rows.sortedS ss' = true → s.heap.objs.size ≤ p → h'.get? p = some { cls := .type "list", data := .seq out e } →
      (∀ b o, s.heap.get? b = some o → h'.get? b = some o) → Q (.ref p) { s with heap := h', toks := tk, drawn := d }) :
    wpAny (model prog w) A (call (.builtin "sorted") [.ref a]) Q E s := by
  refine Calls.call_function_entry PyProof.Rows.kind_sorted PyProof.Rows.plain_sorted PyProof.Rows.entry_sorted (PyProof.Rows.args_sorted1 _) ?_
  unfold Builtin.«sorted»
  refine wpAny_bind (m := checkCount "sorted" 1 1 _) (wpAny_pure ?_)
  refine wpAny_bind (collect_own hT ty hit fun vs h1 tk d hr z1 k1 => ?_)
  obtain ⟨ss, hS, h64, hRR⟩ := hR vs hr
  refine wpAny_bind (wpAny_newList ?_ (by have := sizeLine_eq; omega))
  have hoL : (h1.push (PyProof.Rows.seqObj "list" vs.toArray 0)).get? h1.objs.size = some (PyProof.Rows.seqObj "list" vs.toArray 0) := Heap.get?_push_size _ rfl
  refine wpAny_bind (wpAny_holding (wpAny_call_entry PyProof.Rows.slot_list_sort ⟨_, hoL, rfl⟩ PyProof.Rows.entry_list_sort
    (PyProof.Rows.list_sort_treeK PyProof.Rows.strKind_oneLt hoL hS.keysOf (fun v₁ v₂ rest e => PyProof.Rows.keyKind_strs (by rw [← e]; exact hS)) h64 fun st' a1 a2 => ⟨_, rfl, ?_⟩) (PyProof.Rows.args_list_sort _)))
  obtain ⟨ss', b1, b2, b3⟩ := PyProof.Rows.sorted_out_str hS a1 a2
  obtain ⟨e, he⟩ := PyProof.Rows.sortedHeap_at (n := 0) (out := (PyProof.Rows.arrOf st').map (·.2)) (vs := vs) hoL
  exact wpAny_pure ⟨_, rfl, h h1.objs.size e _ ss ss' _ _ _ hRR b1 b2 b3 z1 he fun b o eo => (PyProof.Rows.sortedHeap_old (Nat.ne_of_lt (Heap.lt_size (k1 b o eo))) (Heap.lt_size (Heap.get?_push_of_some _ (k1 b o eo)))).trans (Heap.get?_push_of_some _ (k1 b o eo))⟩
end

/-- new objects laid: none of the old ones changes -/
theorem laidMany {X : Cx} {pins : List (Addr × Obj)} {σ : St} {H H' : Hp} {s : Shared} {h' : Heap} {t' : Nat} {d' : Drawn} (I : Inv X pins σ H s) (k : ∀ b u, s.heap.get? b = some u → h'.get? b = some u) (kH : ∀ b, b < s.heap.objs.size → H' b = H b)
    (new : ∀ b o, s.heap.objs.size ≤ b → H' b = some o → ObjOk X.prog X.w H' h' b o) : Inv X pins σ H' { s with heap := h', drawn := d', toks := t' } := by
  have lt : ∀ b o, H b = some o → b < s.heap.objs.size := fun b o e => by
    rcases Nat.lt_or_ge b s.heap.objs.size with z | z
    · exact z
    · rw [I.hok.fresh z] at e
      cases e
  have kk : ∀ b o, H b = some o → H' b = some o := fun b o e => by rw [kH b (lt b o e)]; exact e
  refine I.step (H' := H') (h' := h') (g' := s.gens) (d' := d') (ch := []) (fun b hb => (by cases hb)) (fun b u _ _ hc e _ => k b u e) (fun b u _ _ hc e _ => ⟨u.slots, k b u e⟩)
    (fun b u _ e n => by rw [kH b (Heap.lt_size e)]; exact n) (fun b u hc e => ⟨u, k b u e⟩) (fun b xs e => kk _ _ e) (fun b u x e => kk _ _ e)
    (fun b ps e => ⟨#[], by rw [kk _ _ e]; simp⟩) (fun m hm => ?_) (fun b u e => ?_) I.bare
  · obtain ⟨ob, es, ep, ho, r⟩ := hm
    exact ⟨ob, es, ep, k _ ob ho, r⟩
  · by_cases hb : b < s.heap.objs.size
    · rw [kH b hb] at e
      exact (I.hok b u e).stay (fun c v _ q => k c v q) (fun c q => kk _ _ q) fun c xs q => kk _ _ q
    · exact new b u (Nat.le_of_not_lt hb) e
def nameOf : Key → Str
  | .inr n => n
  | .inl _ => ⟨#[]⟩
theorem strs_vals : ∀ {vs : List Value} {ss : List Str}, PyProof.Rows.StrsAre vs ss → Vals (ss.map V.str) vs
  | _, _, .nil => .nil
  | _, _, .cons x t h => .cons ⟨t, rfl⟩ (strs_vals h)
theorem vals_strs : ∀ {ss : List Str} {vs : List Value}, Vals (ss.map V.str) vs → PyProof.Rows.StrsAre vs ss
  | [], _, h => by cases h; exact .nil
  | x :: ss, _, h => by
    cases h with
    | cons r t =>
      obtain ⟨tk, rfl⟩ := r
      exact .cons x tk (vals_strs t)
theorem items_eq {vs : List Value} {acc : Array Value} {n : Nat} (hn : n = vs.length) (h : ItemsOf (fun i v => vs[i]? = some v) acc n) : acc.toList = vs := by
  obtain ⟨h1, h2⟩ := h
  apply List.ext_getElem?
  intro i
  by_cases hi : i < acc.size
  · have e1 : acc.toList[i]? = some acc[i] := by simp [hi]
    rw [e1]
    exact (h2 i acc[i] (by simp [hi])).symm
  · rw [List.getElem?_eq_none (by simpa using hi), List.getElem?_eq_none (by omega)]
theorem kv_key : ∀ {kvs : List (Key × V)} {vs : List (Key × Value)} {i : Nat} {a : Key × V} {k : Key} {x : Value}, KV kvs vs → kvs[i]? = some a → vs[i]? = some (k, x) → a.1 = k
  | _, _, 0, _, _, _, .cons r _, e, e' => by
    cases e
    cases e'
    exact r.1
  | _, _, i + 1, _, _, _, .cons _ t, e, e' => kv_key t (by simpa using e) (by simpa using e')
theorem key_str {P : Program} {w : World} {n : Str} {v : Value} (h : (mixKind P w).is (Sum.inr n) v = true) : ∃ t, v = Value.str n t := by
  have h' : keyIs (Sum.inr n) v = true := h
  rcases keyIs_shape h' with ⟨i, t, e, _⟩ | ⟨x, t, e, ev⟩
  · cases e
  · cases e
    exact ⟨t, ev⟩
/-! ### sorted(d) -/
theorem call_sortD {X : Cx} (hc : X.calm = true) : CallR X (.builtin "sorted") (fun xs H Q => ∃ d kvs, xs = [.ref d] ∧ H d = some (.dK kvs) ∧ kvs.length < 64 ∧ (∀ kv ∈ kvs, ∃ n : Str, kv.1 = Sum.inr n) ∧
    ∀ (p : Addr) (rs : List Str), H p = none → rs.Perm (kvs.map fun kv => nameOf kv.1) → PyProof.Rows.sortedS rs = true → Q (.ref p) (upd H p (.lst (rs.map V.str)))) := by
  intro pins s σ H xs us Q I rs h
  obtain ⟨d, kvs, rfl, hd, hl, hk, q⟩ := h
  cases rs with
  | cons r rr =>
    cases rr
    cases (show _ = Value.ref d from r)
    obtain ⟨hsz, hsys, vs, hkv, hdo⟩ := (show ObjOk X.prog X.w H s.heap d (.dK kvs) from I.hok d _ hd)
    obtain ⟨ep, hda⟩ := hdo.dictAt
    have hlen : vs.length = kvs.length := (Paired.length hkv).symm
    refine sorted_own (T := "dict") (.inr rfl) (R := fun us => PyProof.Rows.StrsAre us (kvs.map fun kv => nameOf kv.1)) (RR := fun ss => ss = kvs.map fun kv => nameOf kv.1) hdo.typeIs ?_ (fun us hu => ⟨_, hu, ?_, rfl⟩) ?_
    · rintro s1 Q' E' ⟨h1, rfl, hz, k1⟩ h2
      refine wpAny_pyIter_dict hsys (hda.keep k1) ?_
      have hdl : d < h1.objs.size := (hda.keep k1).lt_size
      refine h2 h1.objs.size [h1.objs.size, d] _ _ _ _ s.drawn (Walks.dictKeys (knd := mixKind X.prog X.w) (A := X.A.in1.in1) (show X.A.in1.in1.handled = none from I.ok.hd hc) h1.objs.size d (Nat.ne_of_lt hdl) vs ep) (by rw [hlen]; exact hsz) ⟨⟨_, Heap.get?_push_size _ rfl, rfl, rfl⟩, (hda.keep k1).push _⟩ ?_ (Nat.le_refl _) (fun b o e => Heap.get?_push_of_some _ e) ?_
      · intro b hb
        rcases List.mem_cons.mp hb with z | z
        · exact .inr (by rw [z]; exact Nat.le_refl _)
        · exact .inl (List.mem_singleton.mp z)
      · intro acc hacc
        obtain ⟨c1, c2⟩ := hacc
        have hat : ∀ i (hi : i < acc.size), ∃ n t, acc[i] = Value.str n t ∧ (kvs.map fun kv => nameOf kv.1)[i]? = some n := fun i hi => by
          obtain ⟨k, x, e1, e2⟩ := c2 i acc[i] (by simp [hi])
          have hik : i < kvs.length := by omega
          obtain ⟨n, en⟩ := hk kvs[i] (List.getElem_mem hik)
          have ek : kvs[i].1 = k := kv_key hkv (List.getElem?_eq_getElem hik) e1
          rw [← ek, en] at e2
          obtain ⟨t, et⟩ := key_str e2
          refine ⟨n, t, et, ?_⟩
          rw [List.getElem?_map, List.getElem?_eq_getElem hik]
          show some (nameOf kvs[i].1) = _
          rw [en]
          rfl
        have hall : ∀ v ∈ acc.toList, ∃ x t, v = Value.str x t := fun v hv => by
          obtain ⟨i, hi, e⟩ := List.getElem_of_mem hv
          obtain ⟨n, t, e1, _⟩ := hat i (by simpa using hi)
          exact ⟨n, t, by rw [← e, Array.getElem_toList, e1]⟩
        have e := PyProof.Rows.strsAre_map acc.toList hall
        have e2 : acc.toList.map PyProof.Rows.strOf = kvs.map fun kv => nameOf kv.1 := by
          apply List.ext_getElem?
          intro i
          by_cases hi : i < acc.size
          · obtain ⟨n, t, e1, e2⟩ := hat i hi
            rw [e2, List.getElem?_map, Array.getElem?_toList, Array.getElem?_eq_getElem hi, e1]
            rfl
          · rw [List.getElem?_eq_none (by simp; omega), List.getElem?_eq_none (by rw [List.length_map]; omega)]
        rw [e2] at e
        exact e
    · have := congrArg List.length hu.strs
      rw [List.length_map, List.length_map] at this
      omega
    · rintro p e out ss ss' h' tk dr rfl hs1 hp hsrt hsz' hg k'
      refine ⟨.ref p, _, laidMany (H' := upd H p (.lst (ss'.map V.str))) I k' (fun b hb => upd_ne (Nat.ne_of_lt (Nat.lt_of_lt_of_le hb hsz'))) (fun b o hb e => ?_), rfl, q p ss' (I.hok.fresh hsz') hp hsrt⟩
      by_cases hbp : b = p
      · subst hbp
        rw [upd_same] at e
        cases e
        refine ⟨?_, out.toList, _, strs_vals hs1, by rw [Array.toArray_toList]; exact hg⟩
        rw [List.length_map, hp.length_eq, List.length_map]
        have := sizeLine_eq
        omega
      · rw [upd_ne hbp, I.hok.fresh hb] at e
        cases e
end Bw
set_option Elab.async false
set_option linter.all false
set_option maxRecDepth 100000
set_option maxHeartbeats 4000000
namespace Bw
open PySem L2
/-! ### a list of pairs -/
def StepsL (H : Hp) (b : Addr) (st : List (Str × Int)) : Prop := ∃ ts : List Addr, H b = some (.lst (ts.map V.ref)) ∧ ts.length = st.length ∧ ∀ (i : Nat) (t : Addr), ts[i]? = some t → ∃ n z, st[i]? = some (n, z) ∧ H t = some (.tup [.str n, .int z])
theorem szN {h : Heap} {a : Addr} {o : Obj} (e : h.get? a = some o) : @LT.lt Nat instLTNat a h.objs.size := Heap.lt_size e
theorem ne_lt {a b : Nat} (h : a < b) : @Ne Addr a b := Nat.ne_of_lt h
theorem ne_gt {a b : Nat} (h : b < a) : @Ne Addr a b := Nat.ne_of_gt h
/-- what a turn lays: a new tuple -/
def TupN (z : Nat) (C I D : Addr) (G : Value → Array Value → Prop) (h : Heap) (v y : Value) : Prop := ∃ T vs, y = .ref T ∧ z ≤ T ∧ T ≠ C ∧ T ≠ I ∧ T ≠ D ∧ h.IsTuple T vs ∧ G v vs
theorem TupN.keep {z : Nat} {C I D : Addr} {G : Value → Array Value → Prop} {h h' : Heap} {v y : Value} (x : TupN z C I D G h v y) (k : ∀ b o, b ≠ C → b ≠ I → b ≠ D → h.get? b = some o → h'.get? b = some o) : TupN z C I D G h' v y := by
  obtain ⟨T, vs, e, z1, z2, z3, z4, ⟨o, ho, r⟩, g⟩ := x
  exact ⟨T, vs, e, z1, z2, z3, z4, ⟨o, k T o z2 z3 z4 ho, r⟩, g⟩
section
variable {prog : Program} {w : World} {A : Around} {R : Result → Shared → Prop} {s : Shared}
theorem loopT {elt iter : Expr} {x : Str} {px pos : Pos} {ifs : List Expr} {scope : Scope} {I ax D : Addr} {cenv : Env} {items : Array Value} {m : Str → Option Value} (z : Nat) (p : Value → Bool) (G : Value → Array Value → Prop) (hz : z ≤ s.heap.objs.size)
    (hh : A.handled = none) (hx : cenv.kindOf x = some .local) (hp : (cenv.scope.kind == .class || (cenv.scope.kind == .module && cenv.locals != cenv.globals)) = false) (hDI : D ≠ I) (hDC : D ≠ cenv.locals) (hIC : I ≠ cenv.locals) (haI : ax ≠ I) (haC : ax ≠ cenv.locals) (haD : ax ≠ D)
    (hit : s.heap.IsListIter I ax 0) (hl : s.heap.IsList ax items) (hacc : s.heap.PlainList D #[]) (hn : s.heap.Ns cenv.locals m)
    (htests : ∀ v s₂ m₂ E', v ∈ items → s₂.heap.Ns cenv.locals m₂ → m₂ x = some v → (∀ b o, b ≠ cenv.locals → b ≠ I → b ≠ D → s.heap.get? b = some o → s₂.heap.get? b = some o) →
      wpAny (model prog w) A (forIn ifs true fun c r => if r = true then do let ok ← isTrue c cenv (eval c cenv); pure (ForInStep.yield ok) else pure (ForInStep.yield r)) (fun ok s₃ => ok = p v ∧ ∃ tk, s₃ = { s₂ with toks := tk }) E' s₂)
    (helt : ∀ v s₂ m₂ E', v ∈ items → p v = true → s₂.heap.Ns cenv.locals m₂ → m₂ x = some v → (∀ b o, b ≠ cenv.locals → b ≠ I → b ≠ D → s.heap.get? b = some o → s₂.heap.get? b = some o) →
      wpAny (model prog w) A (eval elt cenv) (fun y s₃ => ∃ vs tk, y = .ref s₂.heap.objs.size ∧ s₃ = { s₂ with heap := s₂.heap.push { cls := .type "tuple", data := .seq vs }, toks := tk } ∧ G v vs) E' s₂)
    (hR : ∀ h' tk m' ys, h'.Ns cenv.locals m' → h'.PlainList D ys → Paired (TupN z cenv.locals I D G h') (items.toList.filter p) ys.toList → ys.toList.Nodup → (∀ b o, b ≠ cenv.locals → b ≠ I → b ≠ D → s.heap.get? b = some o → h'.get? b = some o) → R (.ok .next) { s with heap := h', toks := tk })
    (hsz : items.size ≤ sizeLine) : codeAny (model prog w) A (.compLoop (.ListComp elt [⟨.Name x px, iter, ifs, 0⟩] scope pos) 0 (.ref I) (.ref D) cenv) R s := by
  refine codeAny_compLoop_tests (fun k s' => ∃ g tk m' ys i, s' = { s with heap := g, toks := tk } ∧ g.IsListIter I ax i ∧ g.IsList ax items ∧ g.PlainList D ys ∧ g.Ns cenv.locals m' ∧ Paired (TupN z cenv.locals I D G g) ((items.toList.take i).filter p) ys.toList ∧
      (ys.toList.Nodup ∧ (∀ T, Value.ref T ∈ ys.toList → T < g.objs.size) ∧ z ≤ g.objs.size) ∧ i ≤ items.size ∧ k = items.size + 1 - i ∧ ∀ b o, b ≠ cenv.locals → b ≠ I → b ≠ D → s.heap.get? b = some o → g.get? b = some o) ?_ (items.size + 1)
    ⟨s.heap, s.toks, m, #[], 0, rfl, hit, hl, hacc, hn, by simpa using Paired.nil, ⟨by simp, fun T hT => (by simp at hT), hz⟩, Nat.zero_le _, rfl, fun _ _ _ _ _ e => e⟩
  rintro k s' ⟨g, tk, m', ys, i, rfl, it1, l1, d1, n1, f1, ⟨nd1, lt1, z1⟩, hi, rfl, k1⟩
  cases hv : items[i]? with
  | none =>
    have hle : items.toList.length ≤ i := by simpa using hv
    refine wpAny_pyNext_list_end hh it1 l1 hv fun h₁ e₁ => ?_
    rw [List.take_of_length_le hle] at f1
    exact hR h₁ tk m' ys (n1.extBut e₁ (Ne.symm hIC)) (d1.at fun o eo => e₁ D o hDI eo) (f1.mono fun _ _ hy => hy.keep fun b o _ hb _ eo => e₁ b o hb eo) nd1 fun b o b1 b2 b3 eo => e₁ b o b2 (k1 b o b1 b2 b3 eo)
  | some v =>
    have hlt : i < items.size := (Array.getElem?_eq_some_iff.mp hv).1
    have hmem : v ∈ items := by obtain ⟨q1, rfl⟩ := Array.getElem?_eq_some_iff.mp hv; exact Array.getElem_mem q1
    have hvl : items.toList[i]? = some v := by simpa using hv
    refine wpAny_pyNext_list_item it1 l1 hv fun h₁ it2 sb1 => ?_
    refine wpAny_assign_Name (wpAny_storeName_local hx (n1.sameBut sb1 (Ne.symm hIC)) (fun h₂ n2 sb2 => ?_) hp)
    have u2 : ∀ b o, b ≠ cenv.locals → b ≠ I → g.get? b = some o → h₂.get? b = some o := fun b o b1 b2 e => sb2.extBut b o b1 (sb1.extBut b o b2 e)
    have sz2 : h₂.objs.size = g.objs.size := sb2.1.trans sb1.1
    have it3 : h₂.IsListIter I ax (i + 1) := it2.extBut sb2.extBut hIC
    have l3 : h₂.IsList ax items := l1.at fun o e => u2 ax o haC haI e
    have d3 : h₂.PlainList D ys := d1.at fun o e => u2 D o hDC hDI e
    have f3 := f1.mono (F' := TupN z cenv.locals I D G h₂) fun _ _ hy => hy.keep fun b o b1 b2 _ e => u2 b o b1 b2 e
    refine wpAny_mono (htests v _ _ _ hmem n2 (by simp) fun b o b1 b2 b3 e => u2 b o b1 b2 (k1 b o b1 b2 b3 e)) (fun ok s₃ q => ?_) fun _ _ e => e
    obtain ⟨rfl, tk₃, rfl⟩ := q
    cases hpv : p v with
    | false =>
      simp only [Bool.false_eq_true, if_false]
      refine ⟨items.size + 1 - (i + 1), by omega, h₂, tk₃, _, ys, i + 1, rfl, it3, l3, d3, n2, ?_, ⟨nd1, fun T hT => by rw [sz2]; exact lt1 T hT, by rw [sz2]; exact z1⟩, hlt, rfl, fun b o b1 b2 b3 e => u2 b o b1 b2 (k1 b o b1 b2 b3 e)⟩
      rw [take_succ_filter p _ i v hvl, hpv]
      simpa using f3
    | true =>
      simp only [if_true]
      refine wpAny_mono (helt v _ _ _ hmem hpv n2 (by simp) fun b o b1 b2 b3 e => u2 b o b1 b2 (k1 b o b1 b2 b3 e)) (fun y s₄ q => ?_) fun _ _ e => e
      obtain ⟨vs, tk₄, rfl, rfl, hG⟩ := q
      have old : ∀ b o, h₂.get? b = some o → (h₂.push { cls := .type "tuple", data := .seq vs }).get? b = some o := fun b o e => Heap.get?_push_of_some _ e
      have lt : ∀ b o, h₂.get? b = some o → b < h₂.objs.size := fun b o e => Heap.lt_size e
      have nC : h₂.objs.size ≠ cenv.locals := by obtain ⟨_, _, _, ho, _⟩ := n2; exact Nat.ne_of_gt (lt _ _ ho)
      have nI : h₂.objs.size ≠ I := by obtain ⟨_, ho, _⟩ := it3; exact Nat.ne_of_gt (lt _ _ ho)
      have nD : h₂.objs.size ≠ D := by obtain ⟨_, ho⟩ := d3; exact Nat.ne_of_gt (lt _ _ ho)
      have hys : ys.size ≤ sizeLine := by
        have e1 := f1.length
        have e2 : ((items.toList.take i).filter p).length ≤ (items.toList.take i).length := List.length_filter_le _ _
        have e3 : (items.toList.take i).length ≤ items.size := by rw [List.length_take]; simp; omega
        have e4 : ys.toList.length = ys.size := by simp
        omega
      refine wpAny_list_append_plain (hsz := hys) (d3.at fun o e => old _ _ e) fun h₅ d5 sb5 => ?_
      have sz5 : h₅.objs.size = h₂.objs.size + 1 := sb5.1.trans (Heap.size_push ..)
      have u5 : ∀ b o, b ≠ D → h₂.get? b = some o → h₅.get? b = some o := fun b o hb e => sb5.extBut b o hb (old b o e)
      refine ⟨items.size + 1 - (i + 1), by omega, h₅, tk₄, _, ys.push (.ref h₂.objs.size), i + 1, rfl, it3.at fun o e => u5 I o (Ne.symm hDI) e, l3.at fun o e => u5 ax o haD e, d5, n2.at' fun o e => u5 _ o (Ne.symm hDC) e, ?_, ⟨?_, ?_, ?_⟩, hlt, rfl,
        fun b o b1 b2 b3 e => u5 b o b3 (u2 b o b1 b2 (k1 b o b1 b2 b3 e))⟩
      · rw [take_succ_filter p _ i v hvl, hpv]
        have f5 := f3.mono (F' := TupN z cenv.locals I D G h₅) fun _ _ hy => hy.keep fun b o _ _ b3 e => u5 b o b3 e
        have y5 : TupN z cenv.locals I D G h₅ v (.ref h₂.objs.size) := ⟨_, vs, rfl, by rw [sz2]; exact z1, nC, nI, nD, ⟨_, sb5.extBut _ _ nD (Heap.get?_push_size _ rfl), rfl, _, rfl⟩, hG⟩
        simpa using Paired.snoc f5 y5
      · rw [Array.toList_push, List.nodup_append]
        refine ⟨nd1, by simp, fun u hu u' hu' e => ?_⟩
        have e' : u' = .ref h₂.objs.size := by simpa using hu'
        subst e'
        subst e
        exact absurd (lt1 _ hu) (by rw [sz2]; exact Nat.lt_irrefl _)
      · intro T hT
        rw [Array.toList_push] at hT
        rcases List.mem_append.mp hT with q | q
        · rw [sz5, sz2]
          exact Nat.lt_succ_of_lt (lt1 T q)
        · have : Value.ref T = .ref h₂.objs.size := by simpa using q
          injection this with e
          rw [e, sz5]
          exact Nat.lt_succ_self _
      · omega
end
/-! ### the pairs of a dict -/
def layT (H : Hp) (D : Addr) (xs : List V) (ps : List (Addr × List V)) : Hp := fun b => if b = D then some (.lst xs) else match ps.lookup b with | some r => some (.tup r) | none => H b
theorem lookup_mem {ps : List (Addr × List V)} {a : Addr} {r : List V} (nd : (ps.map (·.1)).Nodup) (h : (a, r) ∈ ps) : ps.lookup a = some r := by
  induction ps with
  | nil => cases h
  | cons q l ih =>
    rw [List.map_cons, List.nodup_cons] at nd
    rcases List.mem_cons.mp h with rfl | h3
    · simp [List.lookup_cons]
    · have hne : a ≠ q.1 := fun e => nd.1 (by rw [← e]; exact List.mem_map.mpr ⟨_, h3, rfl⟩)
      obtain ⟨q1, q2⟩ := q
      rw [List.lookup_cons]
      have : (a == q1) = false := by simpa using hne
      rw [this]
      exact ih nd.2 h3
theorem lookup_some {ps : List (Addr × List V)} {a : Addr} {r : List V} (h : ps.lookup a = some r) : (a, r) ∈ ps := by
  induction ps with
  | nil => cases h
  | cons q l ih =>
    obtain ⟨q1, q2⟩ := q
    rw [List.lookup_cons] at h
    cases e : a == q1 with
    | true =>
      rw [e] at h
      have e1 : a = q1 := by simpa using e
      have e2 : q2 = r := Option.some.inj h
      rw [e1, e2]
      exact List.mem_cons_self
    | false =>
      rw [e] at h
      exact List.mem_cons_of_mem _ (ih h)
/-- the pairs of the names whose sum is not nought -/
def prs (rs : List Str) (val : Str → Int) : List (Str × Int) := (rs.filter fun n => decide (val n ≠ 0)).map fun n => (n, val n)
def pNz (val : Str → Int) : Value → Bool
  | .str n _ => decide (val n ≠ 0)
  | _ => false
def gPr (val : Str → Int) (v : Value) (vs : Array Value) : Prop := ∃ n t u, v = .str n t ∧ vs = #[.str n t, .int (val n) u]
theorem paired_prs {z : Nat} {C I D : Addr} {val : Str → Int} {h : Heap} : ∀ {rs : List Str} {us ys : List Value}, Vals (rs.map V.str) us → Paired (TupN z C I D (gPr val) h) (us.filter (pNz val)) ys →
    ∃ ps : List (Addr × List V), ys = ps.map (fun q => Value.ref q.1) ∧ ps.map (·.2) = (prs rs val).map (fun q => [V.str q.1, V.int q.2]) ∧ ∀ q ∈ ps, z ≤ q.1 ∧ q.1 ≠ C ∧ q.1 ≠ I ∧ q.1 ≠ D ∧ ∃ its : List Value, Vals q.2 its ∧ h.IsTuple q.1 its.toArray
  | [], _, _, .nil, hp => by cases hp; exact ⟨[], rfl, rfl, fun q hq => by cases hq⟩
  | n :: rs, u :: us, ys, .cons r t, hp => by
    obtain ⟨tk, rfl⟩ := r
    have e : pNz val (.str n tk) = decide (val n ≠ 0) := rfl
    rw [List.filter_cons, e] at hp
    unfold prs
    rw [List.filter_cons]
    by_cases hv : val n ≠ 0
    · rw [decide_eq_true hv, if_pos rfl] at hp
      rw [decide_eq_true hv, if_pos rfl]
      cases hp with
      | cons hy hr =>
        obtain ⟨T, vs, rfl, z1, z2, z3, z4, ht, n', t', u', ev, rfl⟩ := hy
        injection ev with e1 e2
        subst e1 e2
        obtain ⟨ps, q1, q2, q3⟩ := paired_prs t hr
        refine ⟨(T, [V.str n, V.int (val n)]) :: ps, by rw [q1]; rfl, by rw [List.map_cons, q2]; rfl, fun q hq => ?_⟩
        rcases List.mem_cons.mp hq with rfl | hq
        · exact ⟨z1, z2, z3, z4, [.str n tk, .int (val n) u'], .cons ⟨_, rfl⟩ (.cons ⟨_, rfl⟩ .nil), ht⟩
        · exact q3 q hq
    · rw [decide_eq_false hv, if_neg (by decide)] at hp
      rw [decide_eq_false hv, if_neg (by decide)]
      exact paired_prs t hp
section
variable {X : Cx} {pins : List (Addr × Obj)} {σ : St} {H : Hp} {s₂ : Shared}
def tPrs (K : PySem.W.Frag) (ti : TE) (j : Nat) : TE := fun σ H Q => ti σ H fun v H1 => ∃ a d kvs rs, ∃ val : Str → Int, v = .ref a ∧ SqL K H1 a (rs.map V.str) ∧ σ[j]? = some (some (.ref d)) ∧ H1 d = some (.dK kvs) ∧ (∀ n ∈ rs, valV kvs (Sum.inr n : Key) = some (.int (val n))) ∧
  ∀ p H2, H1 p = none → Same H1 H2 → StepsL H2 p (prs rs val) → Q (.ref p) H2
theorem pe_prs {iter : Expr} {ti : TE} {x y : Str} {j : Nat} {p1 p2 p3 p4 p5 q1 q2 q3 q4 q5 px pos : Pos} {k1 k2} {scope : Scope} (hcalm : X.calm = true) (hi : PE X iter ti) (S : CSc scope x y) (hj : X.N[j]? = some y) (hk : X.env.kindOf y = some .cell)
    (hm : behindInMarks .NotEq (.Constant (.int 0) k2 q5) = false) (hns : NoSl (.Name x p3)) (hns2 : NoSl (.Name x q2)) (dx : (x == ("__debug__" : Str)) = false := by decide) (dy : (y == ("__debug__" : Str)) = false := by decide) (hs : ∀ x, foldedSetIterable iter X.env x = pure x := by intro _; rfl) :
    PE X (.ListComp (.Tuple [.Name x p1, .Subscript (.Name y p2) (.Name x p3) p4] k1 p5) [⟨.Name x px, iter, [.Compare (.Subscript (.Name y q1) (.Name x q2) q3) [.NotEq] [.Constant (.int 0) k2 q5] q4], 0⟩] scope pos) (tPrs X.K ti j) := by
  intro pins s σ H0 Q I0 h
  obtain ⟨c, hc⟩ := I0.ok.has y (.inl hk)
  rw [eval_ListComp]
  refine wpAny_comprehension_free (use := none) rfl hs (S.clos hc) S.kind S.loc (thn (hi pins s σ H0 _ I0 h) fun u s₂ ⟨v, H, I, r1, a, d, kvs, rs, val, ev, hq, hσ, hd, hval, q⟩ => ?_)
  subst ev
  cases r1
  obtain ⟨items, rx, pl, hz⟩ := I.list hq
  obtain ⟨oa, hoa, _⟩ := id pl.isList
  have hlen := rx.length
  rw [List.length_map] at hlen hz
  obtain ⟨m, hn, hl⟩ := id I.loc
  obtain ⟨u, ru, lk⟩ := hl j y (.ref d) hj hσ (.inr (.inl hk))
  cases ru
  obtain ⟨c', hc', hcv⟩ : ∃ c, X.env.cells.lookup y = some c ∧ s₂.heap.IsCell c (some (.ref d)) := by
    rcases lk with ⟨z, _⟩ | ⟨_, c, h1, h2⟩
    · rw [hk] at z; cases z
    · exact ⟨c, h1, h2⟩
  rw [hc] at hc'
  cases hc'
  obtain ⟨oc, hoc, hdc⟩ := id hcv
  obtain ⟨zd, hsd, ws, rel, dd⟩ := (show ObjOk X.prog X.w H s₂.heap d (.dK kvs) from I.hok d _ hd)
  refine wpAny_pyIter_list pl.isList ?_
  generalize hG0 : s₂.heap.push { cls := .type "list_iterator", data := .fields #[.ref a, .int 0 0] } = G0
  have k0 : ∀ b o, s₂.heap.get? b = some o → G0.get? b = some o := fun b o e => by rw [← hG0]; exact Heap.get?_push_of_some _ e
  have z0 : G0.objs.size = s₂.heap.objs.size + 1 := by rw [← hG0]; exact Heap.size_push ..
  have it0 : G0.IsListIter s₂.heap.objs.size a 0 := by rw [← hG0]; exact ⟨_, Heap.get?_push_size _ rfl, rfl, rfl⟩
  refine wpAny_newObj_type ?_
  generalize hG1 : Heap.push G0 { cls := .type "list", dict := none, data := .seq ([] : List Value).toArray } = G1
  have k1' : ∀ b o, G0.get? b = some o → G1.get? b = some o := fun b o e => by rw [← hG1]; exact Heap.get?_push_of_some _ e
  have z1 : G1.objs.size = s₂.heap.objs.size + 2 := by rw [← hG1]; exact (Heap.size_push ..).trans (by rw [z0])
  have d1 : G1.get? G0.objs.size = some { cls := .type "list", dict := none, data := .seq ([] : List Value).toArray } := by rw [← hG1]; exact Heap.get?_push_size _ rfl
  refine wpAny_newFunctionEnv S.cell (fun z hz => by cases hz) (fun g hns' hsb => ?_) S.kind
  dsimp only at hns' hsb ⊢
  have keep : ∀ b o, s₂.heap.get? b = some o → g.get? b = some o := fun b o e => hsb.extBut b o (ne_lt (by have := szN e; omega)) (Heap.get?_push_of_some _ (k1' _ _ (k0 _ _ e)))
  have ni : s₂.heap.objs.size ≠ G1.objs.size := by omega
  have nd : G0.objs.size ≠ G1.objs.size := by omega
  have itg : g.IsListIter s₂.heap.objs.size a 0 := it0.at fun o e => hsb.extBut _ o ni (Heap.get?_push_of_some _ (k1' _ _ e))
  have dg : g.PlainList G0.objs.size #[] := ⟨_, hsb.extBut _ _ nd (Heap.get?_push_of_some _ d1)⟩
  have lta : @LT.lt Nat instLTNat a s₂.heap.objs.size := szN hoa
  have zg : g.objs.size = s₂.heap.objs.size + 3 := hsb.1.trans ((Heap.size_push ..).trans (by rw [z1]))
  -- what a turn reads
  have fix : ∀ {s₃ : Shared}, (∀ b o, b ≠ G1.objs.size → b ≠ s₂.heap.objs.size → b ≠ G0.objs.size → g.get? b = some o → s₃.heap.get? b = some o) → (∀ b o, s₂.heap.get? b = some o → s₃.heap.get? b = some o) := fun {s₃} k b o e => by
    have := szN e
    exact k b o (ne_lt (by omega)) (ne_lt (by omega)) (ne_lt (by omega)) (keep b o e)
  have look : ∀ (C : Addr) (s₃ : Shared) (m₃ : Str → Option Value) (n : Str) (t : Tok) (pA pB pC : Pos) (Q' : Value → Shared → Prop) (E' : Value → Shared → Prop), C = G1.objs.size → n ∈ rs → NoSl (.Name x pB) → s₃.heap.Ns C m₃ → m₃ x = some (.str n t) → (∀ b o, s₂.heap.get? b = some o → s₃.heap.get? b = some o) →
      (∀ tu tk, Q' (.int (val n) tu) { s₃ with toks := tk }) → wpAny (model X.prog X.w) X.A (eval (.Subscript (.Name y pA) (.Name x pB) pC) (compEnvC scope [(y, c)] C X.env)) Q' E' s₃ := by
    intro C s₃ m₃ n t pA pB pC Q' E' hC hn' hsl hns₃ hm₃ hk₃ hQ
    have cell3 : s₃.heap.IsCell c (some (.ref d)) := ⟨oc, hk₃ c oc hoc, hdc⟩
    have dd3 : s₃.heap.DictOf (mixKind X.prog X.w) d ws := by
      obtain ⟨o, es, ep, ho, r⟩ := dd
      exact ⟨o, es, ep, hk₃ _ _ ho, r⟩
    refine subD_of PySem.F.slot_dict_getitem.lookup hsl ?_
    refine wpAny_Name (wpAny_loadName_cell (env := compEnvC scope [(y, c)] C X.env) S.kind (S.ky I.ok.kind hk) (by show List.lookup y [(y, c)] = some c; simp [List.lookup_cons]) cell3 ?_) dy
    refine wpAny_Name (wpAny_loadName_local (env := compEnvC scope [(y, c)] C X.env) S.kind S.kx hns₃ hm₃ ?_) dx
    obtain ⟨w', hw, rw'⟩ := RelO.some_of (v := V.int (val n)) (o := valueAt ws (Sum.inr n : Key)) (by rw [← hval n hn']; exact rel.val _)
    obtain ⟨tu, rfl⟩ := rw'
    exact ⟨dd3.typeIs, wpAny_getItem_of (knd := mixKind X.prog X.w) (kV_is (k := Sum.inr n) ⟨t, rfl⟩) dd3.mapOf hw (hQ tu _)⟩
  have main : ∀ s₃ : Shared, s₃ = { s₂ with heap := g, toks := s₂.toks + ([] : List (Str × Value)).length } →
      codeAny (model X.prog X.w) X.A (.compLoop (.ListComp (.Tuple [.Name x p1, .Subscript (.Name y p2) (.Name x p3) p4] k1 p5) [⟨.Name x px, iter, [.Compare (.Subscript (.Name y q1) (.Name x q2) q3) [.NotEq] [.Constant (.int 0) k2 q5] q4], 0⟩] scope pos) 0 (.ref s₂.heap.objs.size) (.ref G0.objs.size) (compEnvC scope [(y, c)] G1.objs.size X.env))
        (compPost (model X.prog X.w) X.A X.xe none (EP X pins σ Q) (.ref G0.objs.size) G1.objs.size) s₃ := by
    intro s₃ e₃
    subst e₃
    have vat : ∀ v ∈ items.toArray, ∃ n t, v = .str n t ∧ n ∈ rs := fun v hv => by
      have hv' : v ∈ items := by simpa using hv
      obtain ⟨i, hi⟩ := List.getElem?_of_mem hv'
      have hil : i < items.length := (List.getElem?_eq_some_iff.mp hi).1
      obtain ⟨u, hu, ru⟩ := rx.get (show (rs.map V.str)[i]? = some (.str rs[i]) by rw [List.getElem?_map, List.getElem?_eq_getElem (by omega)]; rfl)
      rw [hi] at hu
      cases hu
      obtain ⟨t, rfl⟩ := ru
      exact ⟨_, t, rfl, List.getElem_mem _⟩
    refine loopT (cenv := compEnvC scope [(y, c)] G1.objs.size X.env) (items := items.toArray) s₂.heap.objs.size (pNz val) (gPr val) (by show _ ≤ g.objs.size; omega) (I.ok.hd hcalm) S.kx (by simp [compEnvC, relabel, S.kind]) (ne_gt (by omega)) nd ni (Nat.ne_of_lt lta) (ne_lt (b := G1.objs.size) (by omega)) (ne_lt (by omega))
      itg (pl.isList.at fun o e => keep _ _ e) dg hns' ?_ ?_ ?_ (by rw [List.size_toArray, ← hlen]; exact hz)
    · intro v s₃ m₃ E' hv hn₃ hm₃ hk₃
      obtain ⟨n, t, rfl, hnr⟩ := vat v hv
      refine wpAny_tests_one (wpAny_isTrue_Compare1 (look G1.objs.size s₃ m₃ n t q1 q2 q3 _ _ rfl hnr hns2 hn₃ hm₃ (fix hk₃) fun tu tk => ?_) hm)
      refine wpAny_Constant_int (PySem.P.ne_int (wpAny_truthy_bool ⟨?_, _, rfl⟩))
      show (val n != 0) = decide (val n ≠ 0)
      by_cases h0 : val n = 0
      · simp [h0]
      · simp [h0]
    · intro v s₃ m₃ E' hv hp hn₃ hm₃ hk₃
      obtain ⟨n, t, rfl, hnr⟩ := vat v hv
      refine wpAny_Tuple_spliced ?_
      show wpAny _ _ (spliced ((false, eval (.Name x p1) (compEnvC scope [(y, c)] G1.objs.size X.env)) :: backTo p5 (starEach [.Subscript (.Name y p2) (.Name x p3) p4] (compEnvC scope [(y, c)] G1.objs.size X.env)))) _ _ s₃
      refine Calls.spliced_cons ?_
      refine wpAny_Name (wpAny_loadName_local (env := compEnvC scope [(y, c)] G1.objs.size X.env) S.kind S.kx hn₃ hm₃ ?_) dx
      show wpAny _ _ (spliced ((false, eval (.Subscript (.Name y p2) (.Name x p3) p4) (compEnvC scope [(y, c)] G1.objs.size X.env)) :: [])) _ _ s₃
      refine Calls.spliced_cons (look G1.objs.size s₃ m₃ n t p2 p3 p4 _ _ rfl hnr hns hn₃ hm₃ (fix hk₃) fun tu tk => Calls.spliced_nil ⟨(by show 2 ≤ sizeLine; decide), _, tk, rfl, rfl, n, t, tu, rfl, rfl⟩)
    · intro h' tk m' ys hn' hpl hF hnd hk'
      obtain ⟨ps, e1, e2, e3⟩ := paired_prs rx (by simpa using hF)
      have hl' : ps.length = (prs rs val).length := by
        have := congrArg List.length e2
        simpa using this
      have ndp : (ps.map (·.1)).Nodup := by
        rw [e1] at hnd
        have : (ps.map fun q => Value.ref q.1) = (ps.map (·.1)).map Value.ref := by rw [List.map_map]; rfl
        rw [this] at hnd
        exact (List.pairwise_map.mp hnd).imp fun hne e => hne (by rw [e])
      have hle : (prs rs val).length ≤ rs.length := by
        unfold prs
        rw [List.length_map]
        exact List.length_filter_le _ _
      refine ⟨m', hn', fun h'' sb => ?_⟩
      have k'' : ∀ b o, b ≠ G1.objs.size → b ≠ s₂.heap.objs.size → b ≠ G0.objs.size → g.get? b = some o → h''.get? b = some o := fun b o b1 b2 b3 e => sb.extBut b o b1 (hk' b o b1 b2 b3 e)
      refine ⟨.ref G0.objs.size, layT H G0.objs.size ((ps.map (·.1)).map V.ref) ps, ?_, rfl, ?_⟩
      · refine laidMany (s := s₂) (h' := h'') (t' := tk) (d' := s₂.drawn) I (fun b o e => fix (s₃ := { s₂ with heap := h'' }) k'' b o e) (fun b hb => ?_) (fun b o hb e => ?_)
        · unfold layT
          rw [if_neg (ne_lt (by omega))]
          cases el : ps.lookup b with
          | none => rfl
          | some r => exact absurd (e3 _ (lookup_some el)).1 (Nat.not_le.mpr hb)
        · unfold layT at e
          by_cases hbD : b = G0.objs.size
          · rw [if_pos hbD] at e
            cases e
            obtain ⟨nn, en⟩ := hpl
            refine ⟨by rw [List.length_map, List.length_map, hl']; omega, ys.toList, nn, ?_, ?_⟩
            · rw [e1]
              clear e1 e2 e3 ndp hl'
              induction ps with
              | nil => exact .nil
              | cons q l ih => exact .cons rfl ih
            · rw [hbD, Array.toArray_toList]
              exact sb.extBut _ _ nd en
          · rw [if_neg hbD] at e
            cases el : ps.lookup b with
            | none =>
              rw [el] at e
              have e' : H b = some o := e
              rw [I.hok.fresh hb] at e'
              cases e'
            | some r =>
              rw [el] at e
              have e' : some (HO.tup r) = some o := e
              cases e'
              obtain ⟨z1', z2', z3', z4', its, rv, ht⟩ := e3 _ (lookup_some el)
              have lr : r.length ≤ 2 := by
                have hm1 : r ∈ ps.map (·.2) := List.mem_map.mpr ⟨_, lookup_some el, rfl⟩
                rw [e2] at hm1
                obtain ⟨q', _, rfl⟩ := List.mem_map.mp hm1
                exact Nat.le_refl 2
              refine ⟨Nat.le_trans lr (by decide), its, rv, ?_⟩
              obtain ⟨o', ho', rr⟩ := ht
              exact ⟨o', sb.extBut _ _ z2' ho', rr⟩
      · refine q G0.objs.size _ (I.hok.fresh (by omega)) (fun b o e => ?_) ⟨ps.map (·.1), ?_, by rw [List.length_map]; exact hl', fun i t ei => ?_⟩
        · have hb : @LT.lt Nat instLTNat b s₂.heap.objs.size := by
            rcases Nat.lt_or_ge b s₂.heap.objs.size with z | z
            · exact z
            · rw [I.hok.fresh z] at e
              cases e
          unfold layT
          rw [if_neg (ne_lt (by omega))]
          cases el : ps.lookup b with
          | none => exact e
          | some r => exact absurd (e3 _ (lookup_some el)).1 (Nat.not_le.mpr hb)
        · unfold layT
          rw [if_pos rfl]
        · rw [List.getElem?_map] at ei
          obtain ⟨qq, hq1, hq2⟩ := Option.map_eq_some_iff.mp ei
          subst hq2
          have hmem := List.mem_of_getElem? hq1
          have h4 : ((prs rs val).map fun q => [V.str q.1, V.int q.2])[i]? = some qq.2 := by
            rw [← e2, List.getElem?_map, hq1]
            rfl
          rw [List.getElem?_map] at h4
          obtain ⟨q', h5, h6⟩ := Option.map_eq_some_iff.mp h4
          refine ⟨q'.1, q'.2, h5, ?_⟩
          unfold layT
          rw [if_neg (e3 _ hmem).2.2.2.1, lookup_mem ndp hmem]
          show some (HO.tup qq.2) = _
          rw [← h6]
  exact codeAny_compStart_list (main _ rfl) (wpAny_pyIter_listiter itg (main _ rfl))
end
end Bw
set_option Elab.async false
set_option linter.all false
set_option maxRecDepth 100000
set_option maxHeartbeats 4000000
namespace Bw
open PySem L2
/-! ### two lists of the same pairs -/
theorem refs_eq : ∀ {ts : List Addr} {its : List Value}, Vals (ts.map V.ref) its → its = ts.map Value.ref
  | [], _, h => by cases h; rfl
  | t :: r, _, h => by
    cases h with
    | cons q w =>
      cases q
      rw [refs_eq w]
      rfl
theorem StepsL.get {X : Cx} {pins : List (Addr × Obj)} {σ : St} {H : Hp} {s : Shared} {b : Addr} {st : List (Str × Int)} (I : Inv X pins σ H s) (x : StepsL H b st) :
    ∃ ts : List Addr, s.heap.IsList b (ts.map Value.ref).toArray ∧ ts.length = st.length ∧ ∀ (i : Nat) (t : Addr), ts[i]? = some t → ∃ n z tk uk, st[i]? = some (n, z) ∧ s.heap.IsTuple t #[.str n tk, .int z uk] := by
  obtain ⟨ts, h1, h2, h3⟩ := x
  obtain ⟨_, its, n, rv, e⟩ := (show ObjOk X.prog X.w H s.heap b (.lst (ts.map V.ref)) from I.hok b _ h1)
  have ei := refs_eq rv
  subst ei
  refine ⟨ts, ⟨_, e, rfl, n, rfl⟩, h2, fun i t ht => ?_⟩
  obtain ⟨n', z, h4, h5⟩ := h3 i t ht
  obtain ⟨_, its, rv, o, ho, hc, k, hd⟩ := (show ObjOk X.prog X.w H s.heap t (.tup [.str n', .int z]) from I.hok t _ h5)
  obtain ⟨u1, u2, rfl, r1, r2⟩ := Vals.two rv
  obtain ⟨tk, rfl⟩ := r1
  obtain ⟨uk, rfl⟩ := r2
  exact ⟨n', z, tk, uk, h4, o, ho, hc, k, hd⟩
theorem eqAt_pair {A : Around} {s : Shared} {a b : Addr} {n : Str} {z : Int} {t1 t2 u1 u2 : Tok} (hu : A.units < cLine) (ha : s.heap.IsTuple a #[.str n t1, .int z u1]) (hb : s.heap.IsTuple b #[.str n t2, .int z u2]) : SeqAt.EqAt A s (.ref a) (.ref b) true := by
  by_cases e : a = b
  · subst e
    exact SeqAt.EqAt.same _
  · refine SeqAt.EqAt.of_refs e ?_
    have h := SeqAt.RcAt.tuples (e := fun _ => true) ha hb hu (fun j h1 h2 => ?_)
    · exact h
    · match j, h1 with
      | 0, _ =>
        have := SeqAt.EqAt.str_str (A := A.in1) (s := s) n t1 n t2
        rw [beq_self_eq_true] at this
        exact this
      | 1, _ =>
        have := SeqAt.EqAt.int_int (A := A.in1) (s := s) z u1 z u2
        rw [beq_self_eq_true] at this
        exact this
def rEqP (K : PySem.W.Frag) : R2 := fun x y H Q => ∃ a c st, x = .ref a ∧ y = .ref c ∧ StepsL H a st ∧ StepsL H c st ∧ Q (.bl true) H
theorem op_eqP {X : Cx} (hu : X.A.units + 1 < cLine) : OpR X (compareOp .Eq) (rEqP X.K) := by
  intro pins s σ H x y v u Q I rx ry h
  obtain ⟨a, b, st, rfl, rfl, ha, hb, q⟩ := h
  cases rx
  cases ry
  obtain ⟨ts, l1, e1, g1⟩ := ha.get I
  obtain ⟨us, l2, e2, g2⟩ := hb.get I
  refine PySem.SeqAt.RcAt.lists (e := fun _ => true) l1 l2 (by rw [List.size_toArray, List.size_toArray, List.length_map, List.length_map]; omega) (Nat.lt_of_succ_lt hu) (fun j h1 h2 => ?_) X.prog X.w X.xe _ ?_
  · rw [List.size_toArray, List.length_map] at h1 h2
    obtain ⟨n, z, t1, u1, q1, q2⟩ := g1 j ts[j] (List.getElem?_eq_getElem h1)
    obtain ⟨n', z', t2, u2, q3, q4⟩ := g2 j us[j] (List.getElem?_eq_getElem h2)
    rw [q1] at q3
    cases q3
    have e1 : (ts.map Value.ref).toArray[j] = .ref ts[j] := by simp
    have e2 : (us.map Value.ref).toArray[j] = .ref us[j] := by simp
    rw [e1, e2]
    exact eqAt_pair hu q2 q4
  · rw [all_true]
    exact ⟨.bl true, H, I, rfl, q⟩
/-! ### [x[0] for x in ..] -/
structure CS0 (scope : Scope) (x : Str) : Prop where
  kind : scope.kind = .function
  names : scope.names = [((".0" : Str), NameKind.local), (x, NameKind.local)]
  n1 : (x == (".0" : Str)) = false
theorem CS0.cell {scope : Scope} {x : Str} (c : CS0 scope x) : ∀ z ∈ scope.names, z.2 ≠ .cell := by
  rw [c.names]
  intro z hz
  rcases List.mem_cons.mp hz with rfl | hz
  · exact fun z => nomatch z
  rcases List.mem_cons.mp hz with rfl | hz
  · exact fun z => nomatch z
  cases hz
theorem CS0.hx {scope : Scope} {x : Str} (c : CS0 scope x) : scope.names.lookup x = some .local := by
  rw [c.names, List.lookup_cons, c.n1]
  simp [List.lookup_cons]
theorem CS0.loc {scope : Scope} {x : Str} (c : CS0 scope x) : ∀ z ∈ scope.names, z.2 = .local → scope.names.lookup z.1 = some .local := by
  intro z hz hl
  have hz' := hz
  rw [c.names] at hz'
  rcases List.mem_cons.mp hz' with rfl | hz'
  · rw [c.names]
    simp [List.lookup_cons]
  rcases List.mem_cons.mp hz' with rfl | hz'
  · exact c.hx
  cases hz'
theorem CS0.clos {scope : Scope} {x : Str} (c : CS0 scope x) {env : Env} : closureFor scope env = pure [] := by
  unfold closureFor
  rw [c.names]
  simp only [List.forIn_cons, List.forIn_nil]
  rfl
theorem CS0.kx {scope : Scope} {x : Str} (c : CS0 scope x) {env : Env} {cl : List (Str × Addr)} {C : Addr} : (compEnvC scope cl C env).kindOf x = some .local := lookup_relabel_local c.hx
section
variable {X : Cx} {pins : List (Addr × Obj)} {σ : St} {H : Hp} {s₂ : Shared}
theorem quiet_fst {x : Str} {p1 p2 p3 : Pos} {k1} {scope : Scope} {it : Addr} {ts : List Addr} (I : Inv X pins σ H s₂) (S : CS0 scope x) (ht : ∀ t ∈ ts, ∃ n r, H t = some (.tup (.str n :: r))) (nt : ∀ t ∈ ts, t ≠ it) (dx : (x == ("__debug__" : Str)) = false) :
    QuietOnC X.prog X.w X.A X.env scope [] x [] (.Subscript (.Name x p1) (.Constant (.int 0) k1 p2) p3) [it] (fun i v => (ts.map Value.ref).toArray[i]? = some v) (fun _ => true) (fun v y => ∃ t n r tk, v = .ref t ∧ H t = some (.tup (.str n :: r)) ∧ y = Value.str n tk) s₂ where
  tests := by
    intro C i v s₃ m₃ E' hC hP hn hm3 hk3 _
    exact wpAny_tests_nil ⟨rfl, Keeps.refl' _⟩
  elt := by
    intro C i v s₃ m₃ E' hC hP hp hns hm3 hk3 _
    have hP' : v ∈ ts.map Value.ref := List.mem_of_getElem? (by simpa using hP)
    obtain ⟨t, htm, rfl⟩ := List.mem_map.mp hP'
    obtain ⟨n, r, hH⟩ := ht t htm
    obtain ⟨hz, its, rv, o, ho, hc, k, hd⟩ := (show ObjOk X.prog X.w H s₂.heap t (.tup (.str n :: r)) from I.hok t _ hH)
    cases rv with
    | cons q rv' =>
      rename_i u us
      obtain ⟨tk, rfl⟩ := q
      have tup3 : PyProof.Rows.IsTup s₃.heap t (Value.str n tk :: us).toArray := ⟨o, hk3 t o (by simpa using nt t htm) ho, hc, k, hd⟩
      refine PyProof.Rows.Subscript_ ?_
      refine wpAny_Name (wpAny_loadName_local (env := compEnvC scope [] C X.env) S.kind S.kx hns hm3 ?_) dx
      refine wpAny_Constant_int ?_
      have hl := rv'.length
      have tup4 : PyProof.Rows.IsTup ({ s₃ with toks := s₃.toks + 1 } : Shared).heap t (Value.str n tk :: us).toArray := tup3
      exact PyProof.Rows.subscriptTail_builtinR (x := Value.str n tk) tup4.typeIs PyProof.Rows.slot_tuple_getitem.lookup
        (PyProof.Rows.getItem_tuple (j := 0) (Q := fun r s' => r = Value.str n tk ∧ _) tup4 (by decide) (by decide) (by rw [List.size_toArray, List.length_cons]; exact seqIndex_of (by decide) (by omega)) rfl ⟨rfl, ⟨t, n, r, tk, rfl, hH, rfl⟩, Keeps.toks _ _⟩) rfl
def tFirsts (K : PySem.W.Frag) (te : TE) : TE := fun σ H Q => te σ H fun v H1 => ∃ a ts ss, v = .ref a ∧ SqL K H1 a ((ts : List Addr).map V.ref) ∧ ts.length = (ss : List Str).length ∧ (∀ (i : Nat) (t : Addr), ts[i]? = some t → ∃ n r, ss[i]? = some n ∧ H1 t = some (.tup (.str n :: r))) ∧
  ∀ p, H1 p = none → Q (.ref p) (upd H1 p (.lst (ss.map V.str)))
theorem firsts_paired {H : Hp} : ∀ {ts : List Addr} {ss : List Str} {ys : List Value}, ts.length = ss.length → (∀ (i : Nat) (t : Addr), ts[i]? = some t → ∃ n r, ss[i]? = some n ∧ H t = some (.tup (.str n :: r))) → Paired (fun v y => ∃ t n r tk, v = .ref t ∧ H t = some (.tup (.str n :: r)) ∧ y = Value.str n tk) (ts.map Value.ref) ys → Vals (ss.map V.str) ys
  | [], [], _, _, _, h => by cases h; exact .nil
  | t :: ts, z :: ss, _, hl, hi, h => by
    cases h with
    | cons q r =>
      obtain ⟨t', n, rr, tk, e, h1, rfl⟩ := q
      cases e
      obtain ⟨n', r', h2, h3⟩ := hi 0 t rfl
      rw [h1] at h3
      have en : z = n := by
        cases h2
        injection h3 with h4
        injection h4 with h5
        injection h5 with h6
        injection h6 with h7
        exact h7.symm
      subst en
      refine .cons ⟨tk, rfl⟩ (firsts_paired (by simpa using hl) (fun i t e => ?_) r)
      obtain ⟨n, r, g1, g2⟩ := hi (i + 1) t (by simpa using e)
      exact ⟨n, r, by simpa using g1, g2⟩
theorem pe_firsts {e : Expr} {te : TE} {x : Str} {p1 p2 p3 px pos : Pos} {k1} {scope : Scope} (hcalm : X.calm = true) (S : CS0 scope x) (he : PE X e te) (dx : (x == ("__debug__" : Str)) = false := by decide) (hs : ∀ x, foldedSetIterable e X.env x = pure x := by intro _; rfl) :
    PE X (.ListComp (.Subscript (.Name x p1) (.Constant (.int 0) k1 p2) p3) [⟨.Name x px, e, [], 0⟩] scope pos) (tFirsts X.K te) := by
  intro pins s σ H0 Q I0 h
  rw [eval_ListComp]
  refine wpAny_comprehension_free (use := none) rfl hs S.clos S.kind S.loc (thn (he pins s σ H0 _ I0 h) fun u s₂ ⟨v, H, I, r1, a, ts, ss, ev, hq, hl, hi, q⟩ => ?_)
  subst ev
  cases r1
  obtain ⟨items, rx, pl, hz⟩ := I.list hq
  have ei := refs_eq rx
  subst ei
  obtain ⟨oa, hoa, _⟩ := id pl.isList
  refine wpAny_pyIter_list pl.isList ?_
  have I2 : Inv X pins σ H { s₂ with heap := s₂.heap.push { cls := .type "list_iterator", data := .fields #[.ref a, rawInt 0] } } := I.kept (t' := s₂.toks) fun b o e => Heap.get?_push_of_some _ e
  have nsz : ∀ q o, s₂.heap.get? q = some o → q ≠ s₂.heap.objs.size := fun q o e => Nat.ne_of_lt (Heap.lt_size e)
  have hit : FpOk X pins H s₂.heap.objs.size := I.fpOk (Nat.le_refl _) (I.hok.fresh (Nat.le_refl _))
  have W := Walks.list (prog := X.prog) (w := X.w) (A := X.A) (I.ok.hd hcalm) s₂.heap.objs.size a (nsz a oa hoa) (ts.map Value.ref).toArray
  have htt : ∀ t ∈ ts, ∃ n r, H t = some (.tup (.str n :: r)) := fun t ht => by
    obtain ⟨i, hi'⟩ := List.getElem?_of_mem ht
    obtain ⟨n, r, _, g⟩ := hi i t hi'
    exact ⟨n, r, g⟩
  have hnt : ∀ t ∈ ts, t ≠ s₂.heap.objs.size := fun t ht z => by
    obtain ⟨n, r, g⟩ := htt t ht
    rw [z, I.hok.fresh (Nat.le_refl _)] at g
    cases g
  rw [List.length_map] at hz
  refine comp_core (R := fun zs => zs = ss.map V.str) I2 W (by rw [List.size_toArray, List.length_map]; exact hz) S.cell S.kind S.hx ?_ ?_ hit (quiet_fst I2 S htt hnt dx) ?_ ?_
  · exact ⟨⟨_, Heap.get?_push_size _ rfl, rfl, rfl⟩, pl.isList.at fun o e => Heap.get?_push_of_some _ e⟩
  · intro q hq'
    have hsz : (s₂.heap.push { cls := .type "list_iterator", data := .fields #[.ref a, rawInt 0] }).objs.size = s₂.heap.objs.size + 1 := Heap.size_push ..
    show q < (s₂.heap.push { cls := .type "list_iterator", data := .fields #[.ref a, rawInt 0] }).objs.size
    rw [hsz]
    rcases List.mem_cons.mp hq' with e | e
    · rw [e]; exact Nat.lt_succ_self _
    · rw [List.mem_singleton.mp e]; exact Nat.lt_succ_of_lt (Heap.lt_size hoa)
  · intro vs ws hlv hP hF
    have e1 : vs = ts.map Value.ref := by
      have := PyProof.Rows.walked_is hlv hP
      simpa using this
    subst e1
    rw [List.filter_eq_self.mpr fun _ _ => rfl] at hF
    exact ⟨_, firsts_paired hl hi hF, by rw [List.length_map]; omega, rfl⟩
  · intro D C zs s' m' hR hD J hn' hf
    subst hR
    obtain ⟨f0, f1, f2, f3, f4, f5⟩ := hf
    exact ⟨m', hn', fun h' sb => ⟨.ref D, _, J.turned (t' := s'.toks) (fun b o hb e => sb.extBut b o hb e) f0 f1 f3 f4 f5, rfl, q D hD⟩⟩
/-! ### sorted(set(..)) -/
def tSortSet (K : PySem.W.Frag) (te : TE) : TE := fun σ H Q => te σ H fun x H1 => ∃ a ss, x = .ref a ∧ SqL K H1 a ((ss : List Str).map V.str) ∧ 0 < ss.length ∧ ss.length < 64 ∧
  ∀ p rs, H1 p = none → rs.Nodup → rs.length ≤ ss.length → (∀ z, z ∈ rs ↔ z ∈ ss) → PyProof.Rows.sortedS rs = true → Q (.ref p) (upd H1 p (.lst (rs.map V.str)))
theorem pe_sortset {e : Expr} {te : TE} {p1 p2 pos1 pos2 : Pos} (hc : X.calm = true) (hg : Gl X "sorted") (hm : X.mg "sorted" = none) (hg2 : Gl X "set") (hm2 : X.mg "set" = none) (he : PE X e te)
    (hs : starEach [e] X.env = [(false, eval e X.env)] := by rfl)
    (hs2 : starEach [.Call (.Name "set" p2) [e] [] pos2] X.env = [(false, eval (.Call (.Name "set" p2) [e] [] pos2) X.env)] := by rfl) :
    PE X (.Call (.Name "sorted" p1) [.Call (.Name "set" p2) [e] [] pos2] [] pos1) (tSortSet X.K te) := by
  intro pins s σ H Q I h
  refine wpAny_Call_Name_kw (ld_blt I hg hm PyProof.Rows.boot_sorted ?_ (by decide) (by decide))
  refine PyProof.Rows.callWith_builtin1 ?_ hs2 rfl
  rw [hs2]
  refine Calls.spliced_cons ?_
  refine wpAny_Call_Name_kw (ld_blt I hg2 hm2 PyProof.Rows.boot_set ?_ (by decide) (by decide))
  refine PyProof.Rows.callWith_type1 ?_ hs rfl
  rw [hs]
  refine Calls.spliced_cons (thn (he pins s σ H _ I h) fun u s1 ⟨x, H1, I1, r1, a, ss, ex, hS, hpos, hl64, q⟩ => Calls.spliced_nil ?_)
  subst ex
  cases r1
  obtain ⟨its, rv, pl, hz⟩ := I1.list hS
  have hlen := rv.length
  rw [List.length_map] at hlen
  have hval : ∀ (i : Nat) (v : Value), its.toArray[i]? = some v → ∃ t, v = Value.str (ss.getD i ⟨#[]⟩) t := fun i v hv => by
    have hv' : its[i]? = some v := by simpa using hv
    have hi : i < its.length := (List.getElem?_eq_some_iff.mp hv').1
    obtain ⟨u, hu, ru⟩ := rv.get (show (ss.map V.str)[i]? = some (.str ss[i]) by rw [List.getElem?_map, List.getElem?_eq_getElem (by omega)]; rfl)
    rw [hv'] at hu
    cases hu
    obtain ⟨t, rfl⟩ := ru
    refine ⟨t, ?_⟩
    rw [List.getD_eq_getElem?_getD, List.getElem?_eq_getElem (by omega)]
    rfl
  refine call_set_strs (I1.ok.hd hc) pl.isList hval (by rw [List.size_toArray]; have : scanBound = 4096 := rfl; omega) fun h' tk zs hSS hU hk' => Calls.spliced_nil ?_
  have I2 : Inv X pins σ H1 { s1 with heap := h', toks := tk } := I1.kept fun b o e => hk' b o (Heap.lt_size e) e
  obtain ⟨es, ep, tb, hst, hes, hnd⟩ := id hSS
  have hzs : zs.length = es.size := by rw [← hes, List.length_map, Array.length_toList]
  have hmem : ∀ z, z ∈ zs ↔ z ∈ ss := fun z => by
    rw [(hU.2 z)]
    constructor
    · rintro ⟨j, hj, e⟩
      rw [List.size_toArray] at hj
      dsimp only at e
      rw [List.getD_eq_getElem?_getD, List.getElem?_eq_getElem (by omega)] at e
      rw [← e]
      exact List.getElem_mem _
    · intro hz'
      obtain ⟨j, hj, e⟩ := List.getElem_of_mem hz'
      refine ⟨j, by rw [List.size_toArray]; omega, ?_⟩
      dsimp only
      rw [List.getD_eq_getElem?_getD, List.getElem?_eq_getElem hj]
      exact e
  have hz0 : 0 < es.size := by
    rw [← hzs]
    have : ss[0]'hpos ∈ zs := (hmem _).mpr (List.getElem_mem _)
    exact List.length_pos_of_mem this
  have hz64 : es.size < 64 := by
    have := hU.1
    rw [List.size_toArray] at this
    omega
  refine sorted_own (T := "set") (.inl rfl) (R := fun us => us.Perm (es.toList.map (·.2))) (RR := fun rs => rs.Perm zs) ⟨_, hst.get, rfl⟩ ?_ (fun us hu => ?_) ?_
  · rintro s3 Q' E' ⟨h1, rfl, hz', k1⟩ h2
    refine iter_set (hst.at fun o e => k1 _ _ e) hz0 (I1.ok.hd hc) fun I' fp St h'' d vs W st pm hfp hI kk => ?_
    refine h2 I' fp es.size _ St h'' d W (by have := sizeLine_eq; omega) st hfp hI kk fun acc hacc => ?_
    rw [items_eq (by rw [pm.length_eq, List.length_map, Array.length_toList]) hacc]
    exact pm
  · have hall : ∀ v ∈ us, ∃ x t, v = Value.str x t := fun v hv => by
      obtain ⟨e', he', rfl⟩ := List.mem_map.mp (hu.mem_iff.mp hv)
      obtain ⟨z', t', rfl⟩ := hst.el e' he'
      exact ⟨z', t', rfl⟩
    refine ⟨us.map PyProof.Rows.strOf, PyProof.Rows.strsAre_map us hall, by rw [hu.length_eq, List.length_map, Array.length_toList]; exact hz64, ?_⟩
    have h5 := hu.map PyProof.Rows.strOf
    rw [List.map_map] at h5
    refine h5.trans ?_
    rw [← hes]
    refine .of_eq (List.map_congr_left fun e' he' => ?_)
    obtain ⟨z', t', rfl⟩ := hst.el e' he'
    rfl
  · rintro p e out rs rs' h'' tk' d hRR hs1 hp hsrt hsz' hg k'
    refine ⟨.ref p, _, laidMany (H' := upd H1 p (.lst (rs'.map V.str))) I2 k' (fun b hb => upd_ne (Nat.ne_of_lt (Nat.lt_of_lt_of_le hb hsz'))) (fun b o hb eb => ?_), rfl, q p rs' (I2.hok.fresh hsz') ?_ ?_ (fun z => ?_) hsrt⟩
    · by_cases hbp : b = p
      · subst hbp
        rw [upd_same] at eb
        cases eb
        refine ⟨?_, out.toList, e, strs_vals hs1, by rw [Array.toArray_toList]; exact hg⟩
        rw [List.length_map, hp.length_eq, hRR.length_eq, hzs]
        have := sizeLine_eq
        omega
      · rw [upd_ne hbp, I2.hok.fresh hb] at eb
        cases eb
    · exact (hp.trans hRR).nodup_iff.mpr hnd
    · rw [(hp.trans hRR).length_eq]
      have := hU.1
      rw [List.size_toArray] at this
      omega
    · rw [(hp.trans hRR).mem_iff]
      exact hmem z
end
end Bw
set_option Elab.async false
set_option linter.all false
set_option maxRecDepth 100000
set_option maxHeartbeats 4000000
namespace Bw
open PySem L2
def top (i : Nat) : Stmt := PySem.Challenge.pw_branchway_k06_whole_there_and_back.main.body.getD i (.Pass ⟨0, 0, 0, 0⟩)
abbrev sCheckTree : Stmt := top 5
abbrev sCheckState : Stmt := top 6
abbrev sCheckStates : Stmt := top 7
abbrev sMeeting : Stmt := top 8
abbrev sBeneath : Stmt := top 9
abbrev sNearest : Stmt := top 10
abbrev sWay : Stmt := top 11
abbrev sBehind : Stmt := top 14
abbrev sWhole : Stmt := top 16
abbrev sAt : Stmt := top 17
abbrev sUp : Stmt := top 18
abbrev sSameTree : Stmt := top 19
abbrev sDeeds : Stmt := top 20
abbrev sHad : Stmt := top 21
abbrev sArePairs : Stmt := top 22
abbrev sAsDue : Stmt := top 23
abbrev sMixed : Stmt := top 24
abbrev sWas : Stmt := top 25
abbrev sLaw : Stmt := top 26
abbrev sInit : Stmt := inClass (top 13) 0
abbrev sStep : Stmt := inClass (top 13) 1
abbrev sGo : Stmt := inClass (top 13) 2
abbrev sVal : Stmt := inClass (top 13) 3
abbrev sCom : Stmt := inClass (top 13) 4
abbrev sDo : Stmt := inClass (top 13) 5
abbrev sPairs : Stmt := inClass (top 13) 6
abbrev lawK : Nat := 7
/-! ## check_tree, check_state, check_states, meeting_state: where all is as it should be -/
section
variable {P : Program} {w : World} {K : PySem.W.Frag} {mg : Str → Option Value} {base : Heap} {f : Addr} {fd : FuncData}
theorem scCheckTree : FnScope ["parents", "child", "parent"] ["parents"] (defScope sCheckTree) := ⟨rfl, rfl, rfl, by decide +kernel, rfl, by decide +kernel, by decide +kernel⟩
theorem okCheckTree (B : Blt mg) (F : Fn K mg "check_tree" sCheckTree ["parents"] f fd) : FnOk P w K mg base CX0 1 f fd ["parents"] (spTree K) := by
  refine F.fn.ok scCheckTree (fun vs H Q E h => ?_) (fun cdv A outer s H vs Q E hr h => ?_)
  · obtain ⟨a, ps, rfl, _⟩ := h
    rfl
  · obtain ⟨a, ps, rfl, t, q⟩ := h
    have hl := vT_len ps
    have hle := t.le
    refine ⟨_, pss_cons (ps_if (pt_cmpR op_eq (pe_callB call_len_seq (by rfl) B.len PySem.boot_len (pa_cons (pv 0) pa_nil)) pe_int (nomark _)) pss_never pss_nil)
      (pss_cons (ps_if (pt_cmp (pc_notN (pe_ix ix_list (pv 0) pe_int (fun _ _ => rfl)))) pss_never pss_nil)
      (pss_one (ps_for PassesOwn.never rfl (pi_range2 (by rfl) B.rng (pa_cons pe_int (pa_cons (pe_callB call_len_seq (by rfl) B.len PySem.boot_len (pa_cons (pv 0) pa_nil)) pa_nil))) (pg_name (i := 1) scCheckTree.nd rfl (Or.inl rfl))
        (pss_cons (ps_set (i := 2) scCheckTree.nd rfl (Or.inl rfl) (pe_ix ix_list (pv 0) (pv 1) (fun _ _ => rfl)))
        (pss_one (ps_if (pw_or (pt_cmp (pc_isN (pv 2))) (pw_or (pt_cmpR op_lt (pv 2) pe_int (nomark _)) (pw_or1 (pt_cmpR op_ge (pv 2) (pv 1) (nomark _))))).pt pss_never pss_nil)))))), ?_⟩
    refine ⟨_, rfl, a, vT ps, rfl, .inl t.sq, rfl, _, rfl, ?_⟩
    refine iteN (fun e => ?_) ?_
    · have := V.int.inj e
      omega
    refine ⟨_, rfl, a, vT ps, _, _, rfl, rfl, t.sq, vT_at0 ps rfl, _, rfl, ?_⟩
    refine iteNS rfl ?_
    refine ⟨_, rfl, a, vT ps, rfl, .inl t.sq, _, _, rfl, by omega, ?_⟩
    refine for_range (fun i σ H1 => ∃ x y, σ = [some (.ref a), x, y] ∧ H1 = H) ⟨_, _, rfl, rfl⟩ ?_ ?_
    · rintro i σ H1 hi ⟨x, y, rfl, rfl⟩
      have hi' : i + 1 ≤ ps.length := by omega
      have hp := par_lt ps i
      refine ⟨_, rfl, _, rfl, a, vT ps, _, _, rfl, rfl, t.sq, vT_at t.gd (n := i + 1) (by omega) (by omega) hi', ?_⟩
      refine ⟨_, rfl, _, rfl, iteN (fun e => nomatch e) ?_⟩
      refine ⟨_, rfl, _, _, rfl, rfl, _, rfl, iteN (by omega) ?_⟩
      refine ⟨_, rfl, _, rfl, _, _, rfl, rfl, _, rfl, iteN (by omega) ?_⟩
      exact ⟨_, _, rfl, rfl⟩
    · rintro σ H1 ⟨x, y, rfl, rfl⟩
      exact q
theorem scCheckState : FnScope ["parents", "state"] ["parents", "state"] (defScope sCheckState) := ⟨rfl, rfl, rfl, by decide +kernel, rfl, by decide +kernel, by decide +kernel⟩
theorem okCheckState (B : Blt mg) (F : Fn K mg "check_state" sCheckState ["parents", "state"] f fd) : FnOk P w K mg base CX0 1 f fd ["parents", "state"] (spState K) := by
  refine F.fn.ok scCheckState (fun vs H Q E h => ?_) (fun cdv A outer s H vs Q E hr h => ?_)
  · obtain ⟨a, ps, n, rfl, _⟩ := h
    rfl
  · obtain ⟨a, ps, n, rfl, t, hn, q⟩ := h
    have hl := vT_len ps
    refine ⟨_, pss_one (ps_if (pw_or (pt_cmpR op_lt (pv 1) pe_int (nomark _)) (pw_or1 (pt_cmpR op_ge (pv 1) (pe_callB call_len_seq (by rfl) B.len PySem.boot_len (pa_cons (pv 0) pa_nil)) (nomark _)))).pt pss_never pss_nil), ?_⟩
    refine ⟨_, rfl, _, _, rfl, rfl, _, rfl, iteN (by omega) ?_⟩
    refine ⟨_, rfl, _, rfl, a, vT ps, rfl, .inl t.sq, _, _, rfl, rfl, _, rfl, iteN (by omega) ?_⟩
    exact q
theorem scCheckStates : FnScope ["parents", "one", "two"] ["parents", "one", "two"] (defScope sCheckStates) := ⟨rfl, rfl, rfl, by decide +kernel, rfl, by decide +kernel, by decide +kernel⟩
theorem okCheckStates {f1 f2 : Addr} {fd1 fd2 : FuncData} (B : Blt mg) (F : Fn K mg "check_states" sCheckStates ["parents", "one", "two"] f fd) (F1 : Fn K mg "check_tree" sCheckTree ["parents"] f1 fd1)
    (F2 : Fn K mg "check_state" sCheckState ["parents", "state"] f2 fd2) : FnOk P w K mg base CX0 2 f fd ["parents", "one", "two"] (spStates K) := by
  have G1 : FnOk P w K mg base CX0 1 f1 fd1 ["parents"] (spTree K) := okCheckTree B F1
  have G2 : FnOk P w K mg base CX0 1 f2 fd2 ["parents", "state"] (spState K) := okCheckState B F2
  refine F.fn.ok scCheckStates (fun vs H Q E h => ?_) (fun cdv A outer s H vs Q E hr h => ?_)
  · obtain ⟨a, ps, m, n, rfl, _⟩ := h
    rfl
  · obtain ⟨a, ps, m, n, rfl, t, hm, hn, q⟩ := h
    refine ⟨_, pss_cons (ps_expr (pe_call G1 hr (by rfl) F1.mx F1.fn.kp F1.bd .nil pass0 (pa_cons (pv 0) pa_nil)))
      (pss_cons (ps_expr (pe_call G2 hr (by rfl) F2.mx F2.fn.kp F2.bd .nil pass0 (pa_cons (pv 0) (pa_cons (pv 1) pa_nil))))
      (pss_one (ps_expr (pe_call G2 hr (by rfl) F2.mx F2.fn.kp F2.bd .nil pass0 (pa_cons (pv 0) (pa_cons (pv 2) pa_nil)))))), ?_⟩
    refine ⟨_, rfl, a, ps, rfl, t, ?_⟩
    refine ⟨_, rfl, _, rfl, a, ps, m, rfl, t, hm, ?_⟩
    exact ⟨_, rfl, _, rfl, a, ps, n, rfl, t, hn, q⟩
theorem scMeeting : FnScope ["parents", "one", "two", "left", "right"] ["parents", "one", "two"] (defScope sMeeting) := ⟨rfl, rfl, rfl, by decide +kernel, rfl, by decide +kernel, by decide +kernel⟩
theorem okMeeting (F : Fn K mg "meeting_state" sMeeting ["parents", "one", "two"] f fd) : FnOk P w K mg base CX0 1 f fd ["parents", "one", "two"] (spMeet K) := by
  refine F.fn.ok scMeeting (fun vs H Q E h => ?_) (fun cdv A outer s H vs Q E hr h => ?_)
  · obtain ⟨a, ps, m, n, rfl, _⟩ := h
    rfl
  · obtain ⟨a, ps, m, n, rfl, t, hm, hn, q⟩ := h
    refine ⟨_, pss_cons (ps_set (i := 3) scMeeting.nd rfl (Or.inl rfl) (pv 1))
      (pss_cons (ps_set (i := 4) scMeeting.nd rfl (Or.inl rfl) (pv 2))
      (pss_cons (ps_while PassesOwn.never (pt_cmpR op_ne (pv 3) (pv 4) (nomark _))
        (pss_one (ps_if (pt_cmpR op_gt (pv 3) (pv 4) (nomark _)) (pss_one (ps_set (i := 3) scMeeting.nd rfl (Or.inl rfl) (pe_ix ix_list (pv 0) (pv 3) (fun _ _ => rfl))))
          (pss_one (ps_set (i := 4) scMeeting.nd rfl (Or.inl rfl) (pe_ix ix_list (pv 0) (pv 4) (fun _ _ => rfl)))))))
      (pss_one (ps_ret (pv 3))))), ?_⟩
    refine ⟨_, rfl, _, rfl, ?_⟩
    refine ⟨fun k σ H1 => ∃ l r : Nat, k = l + r ∧ σ = [some (.ref a), some (.int m), some (.int n), some (.int l), some (.int r)] ∧ l ≤ ps.length ∧ r ≤ ps.length ∧ meet ps l r = meet ps m n ∧ H1 = H,
      ⟨_, m, n, rfl, rfl, hm, hn, rfl, rfl⟩, ?_⟩
    rintro k σ H1 ⟨l, r, rfl, rfl, hl, hr', he, rfl⟩
    refine ⟨_, rfl, _, rfl, rfl, _, rfl, iteND (fun e => ?_) (fun e => ?_)⟩
    · have e' : l ≠ r := fun z => e (by rw [z])
      refine ⟨fun σ' H' => ∃ m', m' < l + r ∧ ∃ l' r' : Nat, m' = l' + r' ∧ σ' = [some (.ref a), some (.int m), some (.int n), some (.int l'), some (.int r')] ∧ l' ≤ ps.length ∧ r' ≤ ps.length ∧ meet ps l' r' = meet ps m n ∧ H' = H1, fun σ' H' z => z, ?_⟩
      refine ⟨_, rfl, _, rfl, _, _, rfl, rfl, _, rfl, iteD (fun g => ?_) (fun g => ?_)⟩
      · have hp := par_lt' ps (n := l) (by omega)
        refine ⟨_, rfl, _, rfl, a, vT ps, _, _, rfl, rfl, t.sq, vT_at t.gd rfl (by omega) hl, ?_⟩
        exact ⟨par ps l + r, by omega, par ps l, r, rfl, rfl, by omega, hr', (meet_l ps (show r < l by omega)).symm.trans he, rfl⟩
      · have hp := par_lt' ps (n := r) (by omega)
        refine ⟨_, rfl, _, rfl, a, vT ps, _, _, rfl, rfl, t.sq, vT_at t.gd rfl (by omega) hr', ?_⟩
        exact ⟨l + par ps r, by omega, l, par ps r, rfl, rfl, hl, by omega, (meet_r ps (show l < r by omega)).symm.trans he, rfl⟩
    · have e' : l = r := by have := V.int.inj e; omega
      subst e'
      rw [meet_same] at he
      refine ⟨_, rfl, ?_⟩
      rw [he]
      exact q
end
section
variable {P : Program} {w : World} {K : PySem.W.Frag} {mg : Str → Option Value} {base : Heap} {f : Addr} {fd : FuncData}
theorem scBeneath : FnScope ["parents", "top", "state", "passed", "at"] ["parents", "top", "state"] (defScope sBeneath) := ⟨rfl, rfl, rfl, by decide +kernel, rfl, by decide +kernel, by decide +kernel⟩
theorem okBeneath (F : Fn K mg "states_beneath" sBeneath ["parents", "top", "state"] f fd) : FnOk P w K mg base CX0 1 f fd ["parents", "top", "state"] (spBel K) := by
  refine F.fn.ok scBeneath (fun vs H Q E h => ?_) (fun cdv A outer s H vs Q E hr h => ?_)
  · obtain ⟨a, ps, t, n, rfl, _⟩ := h
    rfl
  · obtain ⟨a, ps, t, n, rfl, tr, hn, hu, q⟩ := h
    have hle := tr.le
    refine ⟨_, pss_cons (ps_set (i := 3) scBeneath.nd rfl (Or.inl rfl) (pe_lst pa_nil))
      (pss_cons (ps_set (i := 4) scBeneath.nd rfl (Or.inl rfl) (pv 2))
      (pss_cons (ps_while PassesOwn.never (pt_cmpR op_ne (pv 4) (pv 1) (nomark _))
        (pss_cons (ps_expr (pe_bm PySem.F.plainAttrs_list PySem.F.slot_list_append PySem.F.type_list_append mt_append (pv 3) (pa_cons (pv 4) pa_nil)))
        (pss_one (ps_set (i := 4) scBeneath.nd rfl (Or.inl rfl) (pe_ix ix_list (pv 0) (pv 4) (fun _ _ => rfl))))))
      (pss_one (ps_ret (pv 3))))), ?_⟩
    refine ⟨Nat.zero_le _, fun p hp => ?_⟩
    refine ⟨_, rfl, ?_⟩
    refine ⟨fun k σ H1 => ∃ (l : List Nat), σ = [some (.ref a), some (.int t), some (.int n), some (.ref p), some (.int k)] ∧ k ≤ n ∧ t ∈ up ps k ∧ l ++ bel ps t k = bel ps t n ∧ Same H H1 ∧ H1 p = some (.lst (vN l)),
      ⟨n, [], rfl, Nat.le_refl _, hu, rfl, same_upd hp, upd_same⟩, ?_⟩
    rintro k σ H1 ⟨l, rfl, hk, hu1, hl, sm, hp1⟩
    have hlen : l.length ≤ n := by
      have h1 := bel_len ps t n
      rw [← hl, List.length_append] at h1
      omega
    refine ⟨_, rfl, _, rfl, rfl, _, rfl, iteND (fun e => ?_) (fun e => ?_)⟩
    · have e' : k ≠ t := fun z => e (by rw [z])
      have h0 : 0 < k := by
        rcases Nat.eq_zero_or_pos k with z | z
        · subst z
          rw [up_zero] at hu1
          simp at hu1
          omega
        · exact z
      have hpl := par_lt' ps h0
      refine ⟨fun σ' H' => ∃ m', m' < k ∧ ∃ (l : List Nat), σ' = [some (.ref a), some (.int t), some (.int n), some (.ref p), some (.int m')] ∧ m' ≤ n ∧ t ∈ up ps m' ∧ l ++ bel ps t m' = bel ps t n ∧ Same H H' ∧ H' p = some (.lst (vN l)), fun σ' H' z => z, ?_⟩
      refine ⟨_, rfl, .inl ⟨rfl, _, SqL.of hp1⟩, _, rfl, p, vN l, _, rfl, rfl, hp1, by rw [vN_len]; exact small1000 (by omega), ?_⟩
      have sm2 : Same H (upd H1 p (.lst (vN l ++ [V.int k]))) := Same.upd sm hp
      refine ⟨_, rfl, _, rfl, a, vT ps, _, _, rfl, rfl, sm2.seq tr.sq, vT_at tr.gd rfl h0 (by omega), ?_⟩
      refine ⟨par ps k, hpl, l ++ [k], rfl, by omega, ?_, ?_, sm2, ?_⟩
      · rw [up_pos ps h0] at hu1
        rcases List.mem_cons.mp hu1 with z | z
        · omega
        · exact z
      · rw [← hl, bel_step ps h0 e', List.append_assoc]
        rfl
      · rw [upd_same, vN_append]
        rfl
    · have e' : k = t := by have := V.int.inj e; omega
      subst e'
      rw [bel_self, List.append_nil] at hl
      subst hl
      exact ⟨_, rfl, q p H1 ⟨hp, sm, hp1⟩⟩
end
section
variable {P : Program} {w : World} {K : PySem.W.Frag} {mg : Str → Option Value} {base : Heap} {f : Addr} {fd : FuncData}
theorem scNearest : FnScope ["parents", "one", "two"] ["parents", "one", "two"] (defScope sNearest) := ⟨rfl, rfl, rfl, by decide +kernel, rfl, by decide +kernel, by decide +kernel⟩
theorem okNearest {f1 f2 : Addr} {fd1 fd2 : FuncData} (F : Fn K mg "nearest" sNearest ["parents", "one", "two"] f fd) (F1 : Fn K mg "check_states" sCheckStates ["parents", "one", "two"] f1 fd1)
    (F2 : Fn K mg "meeting_state" sMeeting ["parents", "one", "two"] f2 fd2) (G1 : FnOk P w K mg base CX0 2 f1 fd1 ["parents", "one", "two"] (spStates K)) : FnOk P w K mg base CX0 3 f fd ["parents", "one", "two"] (spNearest K) := by
  have G2 : FnOk P w K mg base CX0 1 f2 fd2 ["parents", "one", "two"] (spMeet K) := okMeeting F2
  refine F.fn.ok scNearest (fun vs H Q E h => ?_) (fun cdv A outer s H vs Q E hr h => ?_)
  · obtain ⟨a, ps, m, n, rfl, _⟩ := h
    rfl
  · obtain ⟨a, ps, m, n, rfl, t, hm, hn, q⟩ := h
    refine ⟨_, pss_cons (ps_expr (pe_call G1 hr (by rfl) F1.mx F1.fn.kp F1.bd .nil pass0 (pa_cons (pv 0) (pa_cons (pv 1) (pa_cons (pv 2) pa_nil)))))
      (pss_one (ps_ret (pe_call G2 (hr.mono (by decide)) (by rfl) F2.mx F2.fn.kp F2.bd .nil pass0 (pa_cons (pv 0) (pa_cons (pv 1) (pa_cons (pv 2) pa_nil)))))), ?_⟩
    refine ⟨_, rfl, _, rfl, _, rfl, a, ps, m, n, rfl, t, hm, hn, ?_⟩
    exact ⟨_, rfl, _, rfl, _, rfl, a, ps, m, n, rfl, t, hm, hn, q⟩
end
section
variable {P : Program} {w : World} {K : PySem.W.Frag} {mg : Str → Option Value} {base : Heap} {f : Addr} {fd : FuncData}
theorem scWay : FnScope ["parents", "one", "two", "top", "left", "entered"] ["parents", "one", "two"] (defScope sWay) := ⟨rfl, rfl, rfl, by decide +kernel, rfl, by decide +kernel, by decide +kernel⟩
theorem okWay {f1 f2 f3 : Addr} {fd1 fd2 fd3 : FuncData} (B : Blt mg) (B2 : Blt2 mg) (F : Fn K mg "way" sWay ["parents", "one", "two"] f fd) (F1 : Fn K mg "check_states" sCheckStates ["parents", "one", "two"] f1 fd1)
    (F2 : Fn K mg "meeting_state" sMeeting ["parents", "one", "two"] f2 fd2) (F3 : Fn K mg "states_beneath" sBeneath ["parents", "top", "state"] f3 fd3) (G1 : FnOk P w K mg base CX0 2 f1 fd1 ["parents", "one", "two"] (spStates K)) : FnOk P w K mg base CX0 3 f fd ["parents", "one", "two"] (spWay K) := by
  have G2 : FnOk P w K mg base CX0 1 f2 fd2 ["parents", "one", "two"] (spMeet K) := okMeeting F2
  have G3 : FnOk P w K mg base CX0 1 f3 fd3 ["parents", "top", "state"] (spBel K) := okBeneath F3
  refine F.fn.ok scWay (fun vs H Q E h => ?_) (fun cdv A outer s H vs Q E hr h => ?_)
  · obtain ⟨a, ps, m, n, rfl, _⟩ := h
    rfl
  · obtain ⟨a, ps, m, n, rfl, t, hm, hn, q⟩ := h
    have hr1 : Room 1 _ := hr.mono (by decide)
    refine ⟨_, pss_cons (ps_expr (pe_call G1 hr (by rfl) F1.mx F1.fn.kp F1.bd .nil pass0 (pa_cons (pv 0) (pa_cons (pv 1) (pa_cons (pv 2) pa_nil)))))
      (pss_cons (ps_set (i := 3) scWay.nd rfl (Or.inl rfl) (pe_call G2 hr1 (by rfl) F2.mx F2.fn.kp F2.bd .nil pass0 (pa_cons (pv 0) (pa_cons (pv 1) (pa_cons (pv 2) pa_nil)))))
      (pss_cons (ps_set (i := 4) scWay.nd rfl (Or.inl rfl) (pe_call G3 hr1 (by rfl) F3.mx F3.fn.kp F3.bd .nil pass0 (pa_cons (pv 0) (pa_cons (pv 3) (pa_cons (pv 1) pa_nil)))))
      (pss_cons (ps_set (i := 5) scWay.nd rfl (Or.inl rfl) (pe_call G3 hr1 (by rfl) F3.mx F3.fn.kp F3.bd .nil pass0 (pa_cons (pv 0) (pa_cons (pv 3) (pa_cons (pv 2) pa_nil)))))
      (pss_one (ps_ret (pe_tup (pa_cons (pv 4) (pa_cons (pe_listrev rfl (by rfl) B.list (by rfl) B2.rev (pv 5)) pa_nil)))))))), ?_⟩
    refine ⟨_, rfl, _, rfl, _, rfl, a, ps, m, n, rfl, t, hm, hn, ?_⟩
    refine ⟨_, rfl, _, rfl, _, rfl, a, ps, m, n, rfl, t, hm, hn, ?_⟩
    refine ⟨_, rfl, _, rfl, _, rfl, a, ps, meet ps m n, m, rfl, t, hm, meet_up1 ps m n, fun p1 H1 ⟨hp1, s1, g1⟩ => ?_⟩
    refine ⟨_, rfl, _, rfl, _, rfl, a, ps, meet ps m n, n, rfl, t.same s1, hn, meet_up2 ps m n, fun p2 H2 ⟨hp2, s2, g2⟩ => ?_⟩
    refine ⟨_, rfl, _, rfl, p2, _, rfl, SqL.of g2, fun p3 hp3 => ?_⟩
    refine ⟨(by show 2 ≤ sizeLine; decide), fun p4 hp4 => ?_⟩
    have s12 : Same H H2 := s1.trans s2
    have s3 : Same H (upd H2 p3 (.lst (vN (bel ps (meet ps m n) n)).reverse)) := Same.upd s12 (s12.free hp3)
    have g1' : (upd H2 p3 (.lst (vN (bel ps (meet ps m n) n)).reverse)) p1 = some (.lst (vN (bel ps (meet ps m n) m))) := by
      have e := s2 _ _ g1
      rw [upd_ne (ne_of_none e hp3)]
      exact e
    have e4 := ne_of_none g1' hp4
    have h34 : p3 ≠ p4 := fun z => by
      rw [z, upd_same] at hp4
      cases hp4
    refine q p4 p1 p3 _ ⟨Same.upd s3 (s3.free hp4), s3.free hp4, upd_same, hp1, ?_, s12.free hp3, ?_⟩
    · rw [upd_ne e4]
      exact g1'
    · rw [upd_ne h34, upd_same, vN_rev]
end
/-! ## the refusals -/
/-- what check_tree refuses at the i-th place -/
def BadAt (xs : List V) (i : Nat) : Prop := xs[i]? = some .non ∨ ∃ z : Int, xs[i]? = some (.int z) ∧ (z < 0 ∨ (i : Int) ≤ z)
def NumN (xs : List V) : Prop := ∀ x ∈ xs, x = .non ∨ ∃ z, x = .int z
/-- no tree -/
def BadT (xs : List V) : Prop := xs = [] ∨ (∃ z r, xs = .int z :: r) ∨ (xs[0]? = some .non ∧ ∃ i, 1 ≤ i ∧ i < xs.length ∧ BadAt xs i)
structure BadAtA (K : PySem.W.Frag) (H : Hp) (a : Addr) (xs : List V) : Prop where
  sq : SqL K H a xs
  nn : NumN xs
  bd : BadT xs
  le : xs.length ≤ 600
def spTreeF (K : PySem.W.Frag) (CT : Addr) : Sp := fun vs H _ E => ∃ a xs, vs = [.ref a] ∧ BadAtA K H a xs ∧ E (.ref CT) none H
def OutN (ps : List Nat) (z : Int) : Prop := z < 0 ∨ (ps.length : Int) < z
def spStateF (K : PySem.W.Frag) (CS : Addr) : Sp := fun vs H _ E => ∃ a ps z, vs = [.ref a, .int z] ∧ TreeAt K H a ps ∧ OutN ps z ∧ E (.ref CS) none H
/-- what two numbers and a list are refused for -/
def Ref2 (K : PySem.W.Frag) (CT CS : Addr) (a : Addr) (y z : Int) (H : Hp) (E : XK) : Prop := (∃ xs, BadAtA K H a xs ∧ E (.ref CT) none H) ∨ ∃ ps, TreeAt K H a ps ∧ (OutN ps y ∨ ((∃ m : Nat, y = m ∧ m ≤ ps.length) ∧ OutN ps z)) ∧ E (.ref CS) none H
def spRef2 (K : PySem.W.Frag) (CT CS : Addr) : Sp := fun vs H _ E => ∃ a y z, vs = [.ref a, .int y, .int z] ∧ Ref2 K CT CS a y z H E
def spRef1 (K : PySem.W.Frag) (CT CS : Addr) : Sp := fun vs H _ E => ∃ a y, vs = [.ref a, .int y] ∧ ((∃ xs, BadAtA K H a xs ∧ E (.ref CT) none H) ∨ ∃ ps, TreeAt K H a ps ∧ OutN ps y ∧ E (.ref CS) none H)
section
variable {P : Program} {w : World} {K : PySem.W.Frag} {mg : Str → Option Value} {base : Heap} {f : Addr} {fd : FuncData} {CT CS : Addr}
theorem okCheckTreeF (B : Blt mg) (XT : ExcC K mg "BadTree" CT) (F : Fn K mg "check_tree" sCheckTree ["parents"] f fd) : FnOk P w K mg base (CXF P w) 1 f fd ["parents"] (spTreeF K CT) := by
  refine funOkF F.fn scCheckTree (fun vs H Q E h => ?_) (fun cdv A outer s H vs Q E hr h => ?_)
  · obtain ⟨a, xs, rfl, _⟩ := h
    rfl
  · obtain ⟨a, xs, rfl, t, q⟩ := h
    have hle := t.le
    have hh : A.handled = none := hr.hd
    refine ⟨_, pss_cons (ps_if (pt_cmpR op_eq (pe_callB call_len_seq (by rfl) B.len PySem.boot_len (pa_cons (pv 0) pa_nil)) pe_int (nomark _)) (pss_one (ps_raise XT (by rfl) (by decide) hh)) pss_nil)
      (pss_cons (ps_if (pt_cmp (pc_notN (pe_ix ix_list (pv 0) pe_int (fun _ _ => rfl)))) (pss_one (ps_raise XT (by rfl) (by decide) hh)) pss_nil)
      (pss_one (ps_for (ownPass rfl) rfl (pi_range2 (by rfl) B.rng (pa_cons pe_int (pa_cons (pe_callB call_len_seq (by rfl) B.len PySem.boot_len (pa_cons (pv 0) pa_nil)) pa_nil))) (pg_name (i := 1) scCheckTree.nd rfl (Or.inl rfl))
        (pss_cons (ps_set (i := 2) scCheckTree.nd rfl (Or.inl rfl) (pe_ix ix_list (pv 0) (pv 1) (fun _ _ => rfl)))
        (pss_one (ps_if (pw_or (pt_cmp (pc_isN (pv 2))) (pw_or (pt_cmpR op_lt (pv 2) pe_int (nomark _)) (pw_or1 (pt_cmpR op_ge (pv 2) (pv 1) (nomark _))))).pt (pss_one (ps_raise XT (by rfl) (by decide) hh)) pss_nil)))))), ?_⟩
    refine ⟨_, rfl, a, xs, rfl, .inl t.sq, rfl, _, rfl, ?_⟩
    refine iteD (fun e => q) (fun e => ?_)
    have hne : xs ≠ [] := fun z => e (by rw [z]; rfl)
    obtain ⟨x0, r, rfl⟩ : ∃ x0 r, xs = x0 :: r := by
      cases xs with
      | nil => exact absurd rfl hne
      | cons x r => exact ⟨x, r, rfl⟩
    refine ⟨_, rfl, a, _, _, _, rfl, rfl, t.sq, at_nat (i := 0) rfl rfl, _, rfl, ?_⟩
    refine iteND (fun _ => q) (fun e0 => ?_)
    subst e0
    obtain ⟨i0, hi1, hi2, hb⟩ : ∃ i, 1 ≤ i ∧ i < (V.non :: r).length ∧ BadAt (.non :: r) i := by
      rcases t.bd with z | ⟨z, r', e'⟩ | ⟨_, z⟩
      · cases z
      · cases e'
      · exact z
    refine ⟨_, rfl, a, _, rfl, .inl t.sq, _, _, rfl, by simp only [List.length_cons] at *; omega, ?_⟩
    refine for_range (fun i σ H1 => ∃ x y, σ = [some (.ref a), x, y] ∧ H1 = H ∧ ∀ j, 1 ≤ j → j < i + 1 → ¬ BadAt (.non :: r) j) ⟨_, _, rfl, rfl, fun j h1 h2 => by omega⟩ ?_ ?_
    · rintro i σ H1 hi ⟨x, y, rfl, rfl, hp⟩
      obtain ⟨v, hv⟩ : ∃ v, (V.non :: r)[i + 1]? = some v := ⟨_, List.getElem?_eq_getElem (by simp only [List.length_cons] at *; omega)⟩
      refine ⟨_, rfl, _, rfl, a, _, _, _, rfl, rfl, t.sq, at_nat (i := i + 1) (by omega) hv, ?_⟩
      rcases t.nn v (List.mem_of_getElem? hv) with rfl | ⟨z, rfl⟩
      · exact ⟨_, rfl, _, rfl, iteP rfl (iteT q)⟩
      · refine ⟨_, rfl, _, rfl, iteN (fun e => nomatch e) ?_⟩
        refine ⟨_, rfl, _, _, rfl, rfl, _, rfl, iteD (fun _ => iteT q) (fun e1 => ?_)⟩
        refine ⟨_, rfl, _, rfl, _, _, rfl, rfl, _, rfl, iteD (fun _ => q) (fun e2 => ?_)⟩
        refine ⟨_, _, rfl, rfl, fun j h1 h2 hb => ?_⟩
        by_cases hj : j < i + 1
        · exact hp j h1 hj hb
        · obtain rfl : j = i + 1 := by omega
          rcases hb with hb | ⟨z', hb, hz⟩
          · rw [hv] at hb; cases hb
          · rw [hv] at hb
            cases hb
            omega
    · rintro σ H1 ⟨x, y, rfl, rfl, hp⟩
      exact absurd hb (hp i0 hi1 (by simp only [List.length_cons] at *; omega))
theorem okCheckStateF (B : Blt mg) (XS : ExcC K mg "BadState" CS) (F : Fn K mg "check_state" sCheckState ["parents", "state"] f fd) : FnOk P w K mg base (CXF P w) 1 f fd ["parents", "state"] (spStateF K CS) := by
  refine funOkF F.fn scCheckState (fun vs H Q E h => ?_) (fun cdv A outer s H vs Q E hr h => ?_)
  · obtain ⟨a, ps, z, rfl, _⟩ := h
    rfl
  · obtain ⟨a, ps, z, rfl, t, ho, q⟩ := h
    have hl := vT_len ps
    refine ⟨_, pss_one (ps_if (pw_or (pt_cmpR op_lt (pv 1) pe_int (nomark _)) (pw_or1 (pt_cmpR op_ge (pv 1) (pe_callB call_len_seq (by rfl) B.len PySem.boot_len (pa_cons (pv 0) pa_nil)) (nomark _)))).pt (pss_one (ps_raise XS (by rfl) (by decide) hr.hd)) pss_nil), ?_⟩
    refine ⟨_, rfl, _, _, rfl, rfl, _, rfl, iteD (fun _ => iteT q) (fun e => ?_)⟩
    refine ⟨_, rfl, _, rfl, a, vT ps, rfl, .inl t.sq, _, _, rfl, rfl, _, rfl, iteP ?_ q⟩
    unfold OutN at ho
    omega
theorem okCheckStatesF {f1 f2 : Addr} {fd1 fd2 : FuncData} (B : Blt mg) (XT : ExcC K mg "BadTree" CT) (XS : ExcC K mg "BadState" CS) (F : Fn K mg "check_states" sCheckStates ["parents", "one", "two"] f fd) (F1 : Fn K mg "check_tree" sCheckTree ["parents"] f1 fd1)
    (F2 : Fn K mg "check_state" sCheckState ["parents", "state"] f2 fd2) : FnOk P w K mg base (CXF P w) 2 f fd ["parents", "one", "two"] (spRef2 K CT CS) := by
  have G1 : FnOk P w K mg base CX0 1 f1 fd1 ["parents"] (spTree K) := okCheckTree B F1
  have G2 : FnOk P w K mg base CX0 1 f2 fd2 ["parents", "state"] (spState K) := okCheckState B F2
  have G1' : FnOk P w K mg base (CXF P w) 1 f1 fd1 ["parents"] (spTreeF K CT) := okCheckTreeF B XT F1
  have G2' : FnOk P w K mg base (CXF P w) 1 f2 fd2 ["parents", "state"] (spStateF K CS) := okCheckStateF B XS F2
  refine funOkF F.fn scCheckStates (fun vs H Q E h => ?_) (fun cdv A outer s H vs Q E hr h => ?_)
  · obtain ⟨a, y, z, rfl, _⟩ := h
    rfl
  · obtain ⟨a, y, z, rfl, h⟩ := h
    rcases h with ⟨xs, t, q⟩ | ⟨ps, t, ho | ⟨⟨m, rfl, hm⟩, ho⟩, q⟩
    · refine ⟨_, pss_cons (ps_expr (pe_call G1' hr (by rfl) F1.mx F1.fn.kp F1.bd .nil (passF fun _ _ _ z => z) (pa_cons (pv 0) pa_nil))) pss_never, ?_⟩
      exact ⟨_, rfl, a, xs, rfl, t, q⟩
    · refine ⟨_, pss_cons (ps_expr (pe_call G1 hr (by rfl) F1.mx F1.fn.kp F1.bd .nil pass0 (pa_cons (pv 0) pa_nil)))
        (pss_cons (ps_expr (pe_call G2' hr (by rfl) F2.mx F2.fn.kp F2.bd .nil (passF fun _ _ _ z => z) (pa_cons (pv 0) (pa_cons (pv 1) pa_nil)))) pss_never), ?_⟩
      refine ⟨_, rfl, a, ps, rfl, t, ?_⟩
      exact ⟨_, rfl, _, rfl, a, ps, y, rfl, t, ho, q⟩
    · refine ⟨_, pss_cons (ps_expr (pe_call G1 hr (by rfl) F1.mx F1.fn.kp F1.bd .nil pass0 (pa_cons (pv 0) pa_nil)))
        (pss_cons (ps_expr (pe_call G2 hr (by rfl) F2.mx F2.fn.kp F2.bd .nil pass0 (pa_cons (pv 0) (pa_cons (pv 1) pa_nil))))
        (pss_one (ps_expr (pe_call G2' hr (by rfl) F2.mx F2.fn.kp F2.bd .nil (passF fun _ _ _ z => z) (pa_cons (pv 0) (pa_cons (pv 2) pa_nil)))))), ?_⟩
      refine ⟨_, rfl, a, ps, rfl, t, ?_⟩
      refine ⟨_, rfl, _, rfl, a, ps, m, rfl, t, hm, ?_⟩
      exact ⟨_, rfl, _, rfl, a, ps, z, rfl, t, ho, q⟩
end
section
variable {P : Program} {w : World} {K : PySem.W.Frag} {mg : Str → Option Value} {base : Heap} {f : Addr} {fd : FuncData} {CT CS : Addr}
theorem okNearestF {f1 : Addr} {fd1 : FuncData} (F : Fn K mg "nearest" sNearest ["parents", "one", "two"] f fd) (F1 : Fn K mg "check_states" sCheckStates ["parents", "one", "two"] f1 fd1)
    (G1 : FnOk P w K mg base (CXF P w) 2 f1 fd1 ["parents", "one", "two"] (spRef2 K CT CS)) : FnOk P w K mg base (CXF P w) 3 f fd ["parents", "one", "two"] (spRef2 K CT CS) := by
  refine funOkF F.fn scNearest (fun vs H Q E h => ?_) (fun cdv A outer s H vs Q E hr h => ?_)
  · obtain ⟨a, y, z, rfl, _⟩ := h
    rfl
  · obtain ⟨a, y, z, rfl, h⟩ := h
    refine ⟨_, pss_cons (ps_expr (pe_call G1 hr (by rfl) F1.mx F1.fn.kp F1.bd .nil (passF fun _ _ _ z => z) (pa_cons (pv 0) (pa_cons (pv 1) (pa_cons (pv 2) pa_nil))))) pss_never, ?_⟩
    exact ⟨_, rfl, _, rfl, _, rfl, a, y, z, rfl, h⟩
theorem okWayF {f1 : Addr} {fd1 : FuncData} (F : Fn K mg "way" sWay ["parents", "one", "two"] f fd) (F1 : Fn K mg "check_states" sCheckStates ["parents", "one", "two"] f1 fd1)
    (G1 : FnOk P w K mg base (CXF P w) 2 f1 fd1 ["parents", "one", "two"] (spRef2 K CT CS)) : FnOk P w K mg base (CXF P w) 3 f fd ["parents", "one", "two"] (spRef2 K CT CS) := by
  refine funOkF F.fn scWay (fun vs H Q E h => ?_) (fun cdv A outer s H vs Q E hr h => ?_)
  · obtain ⟨a, y, z, rfl, _⟩ := h
    rfl
  · obtain ⟨a, y, z, rfl, h⟩ := h
    refine ⟨_, pss_cons (ps_expr (pe_call G1 hr (by rfl) F1.mx F1.fn.kp F1.bd .nil (passF fun _ _ _ z => z) (pa_cons (pv 0) (pa_cons (pv 1) (pa_cons (pv 2) pa_nil))))) pss_never, ?_⟩
    exact ⟨_, rfl, _, rfl, _, rfl, a, y, z, rfl, h⟩
end
/-! ## the day -/
def spInit (C : Addr) : Sp := fun vs H Q _ => ∃ (p dx : Addr), vs = [.ref p] ∧ H p = some (.ins C dx []) ∧ ∀ (a b : Addr) (H' : Hp), H a = none → H b = none → DayAt C H' p a b day0 → (∀ c o, H c = some o → c ≠ p → H' c = some o) → Q .non H'
def spStep (C : Addr) : Sp := fun vs H Q _ => ∃ (p a b : Addr) (D : DayS Str) (n : Str) (z : Int), vs = [.ref p, .str n, .int z] ∧ DayAt C H p a b D ∧ D.ps.length < 600 ∧
  ∀ (u : V) (H' : Hp), DayAt C H' p a b (D.next (.step n z)) → Kp H H' p a b → AnsNew H H' D (.step n z) u → Q u H'
def spGo (C : Addr) : Sp := fun vs H Q _ => ∃ (p a b : Addr) (D : DayS Str) (z : Int), vs = [.ref p, .int z] ∧ DayAt C H p a b D ∧
  ∀ (u : V) (H' : Hp), DayAt C H' p a b (D.next (.go z)) → Kp H H' p a b → AnsNew H H' D (.go z) u → Q u H'
def spVal (C : Addr) : Sp := fun vs H Q _ => ∃ (p a b : Addr) (D : DayS Str) (n : Str), vs = [.ref p, .str n] ∧ DayAt C H p a b D ∧ Q (.int (amt D.ps D.st n D.hd)) H
def spCom (C : Addr) : Sp := fun vs H Q _ => ∃ (p a b : Addr) (D : DayS Str) (y z : Int), vs = [.ref p, .int y, .int z] ∧ DayAt C H p a b D ∧ ∀ (u : V), AnsAt [] H D (.com y z) u → Q u H
def spDo (C : Addr) : Sp := fun vs H Q _ => ∃ (p a b : Addr) (D : DayS Str) (v : V) (d : Deed Str), vs = [.ref p, v] ∧ DeedAt H v d ∧ DayAt C H p a b D ∧ D.ps.length < 600 ∧
  ∀ (u : V) (H' : Hp), DayAt C H' p a b (D.next d) → Kp H H' p a b → AnsNew H H' D d u → Q u H'
def spAnswers (K : PySem.W.Frag) : Sp := fun vs H Q _ => ∃ (l : Addr) (xs : List V) (ds : List (Deed Str)), vs = [.ref l] ∧ SqL K H l xs ∧ DeedsAt H xs ds ∧ ds.length ≤ 500 ∧
  ∀ (q : Addr) (ys : List V) (H' : Hp), Same H H' → H q = none → H' q = some (.lst ys) → ys.length = ds.length → (∀ (i : Nat) (d : Deed Str) (y : V), ds[i]? = some d → ys[i]? = some y → AnsAt [] H' (run ds i) d y) → Q (.ref q) H'
structure DayT (K : PySem.W.Frag) (mg : Str → Option Value) (C : Addr) : Prop where
  cl : Cls K C
  nP : NoAttr K C "parents"
  nA : NoAttr K C "amounts"
  nH : NoAttr K C "hand"
  mgC : mg "Day" = some (.ref C)
structure ExcD (K : PySem.W.Frag) (mg : Str → Option Value) (CT CS : Addr) : Prop where
  XT : ExcC K mg "BadTree" CT
  XS : ExcC K mg "BadState" CS
  ss : PySem.W.exmOne K (.ref CS) (.ref CS) = some true
section
variable {P : Program} {w : World} {K : PySem.W.Frag} {mg : Str → Option Value} {base : Heap} {f C CT CS : Addr} {fd : FuncData}
theorem scInit : FnScope ["self"] ["self"] (defScope sInit) := ⟨rfl, rfl, rfl, by decide +kernel, rfl, by decide +kernel, by decide +kernel⟩
theorem okInit (T : DayT K mg C) (F : Mt K C "__init__" "Day.__init__" sInit ["self"] f fd) : FnOk P w K mg base CX0 1 f fd ["self"] (spInit C) := by
  refine F.fn.ok scInit (fun vs H Q E h => ?_) (fun cdv A outer s H vs Q E hr h => ?_)
  · obtain ⟨p, dx, rfl, _⟩ := h
    rfl
  · obtain ⟨p, dx, rfl, hp, k⟩ := h
    refine ⟨_, pss_cons (ps_fld (pv 0) (pe_lst (pa_cons pe_non pa_nil)) rfl) (pss_cons (ps_fld (pv 0) (pe_lst (pa_cons pe_dnewK pa_nil)) rfl) (pss_one (ps_fld (pv 0) pe_int rfl))), ?_⟩
    refine ⟨(by show 1 ≤ sizeLine; decide), fun a ha => ?_⟩
    have npa : p ≠ a := ne_of_none hp ha
    refine ⟨_, rfl, p, C, dx, [], rfl, (by rw [upd_ne npa]; exact hp), T.cl, T.nP, (by show 0 < 1000; decide), ?_⟩
    intro d hd
    refine ⟨(by show 1 ≤ sizeLine; decide), fun b hb => ?_⟩
    have npd : p ≠ d := fun z => by rw [z, upd_same] at hd; cases hd
    have nad : a ≠ d := fun z => by rw [z, upd_ne (by rw [← z]; exact npa.symm), upd_same] at hd; cases hd
    have hd0 : H d = none := by
      rw [upd_ne npd.symm, upd_ne nad.symm] at hd
      exact hd
    have ndb : d ≠ b := fun z => by rw [z, upd_same] at hb; cases hb
    have npb : p ≠ b := fun z => by rw [z, upd_ne (by rw [← z]; exact npd), upd_same] at hb; cases hb
    have nab : a ≠ b := fun z => by rw [z, upd_ne (by rw [← z]; exact nad), upd_ne (by rw [← z]; exact npa.symm), upd_same] at hb; cases hb
    have hb0 : H b = none := by
      rw [upd_ne ndb.symm, upd_ne npb.symm, upd_ne nab.symm] at hb
      exact hb
    refine ⟨_, rfl, p, C, dx, _, rfl, (by rw [upd_ne npb, upd_ne npd, upd_same]), T.cl, T.nA, (by show 1 < 1000; decide), ?_⟩
    refine ⟨_, rfl, p, C, dx, _, rfl, upd_same, T.cl, T.nH, (by rw [show putF "amounts" (V.ref b) (putF "parents" (V.ref a) []) = ([("parents", V.ref a), ("amounts", V.ref b)] : List (Str × V)) from by simp only [putF, if_neg n_pa]]; show 2 < 1000; decide), ?_⟩
    refine k a b _ ha hb0 ⟨⟨dx, upd_same⟩, ?_, ⟨[d], ?_, rfl, fun i e he => ?_⟩, day0_ok, by show 0 ≤ 600; decide⟩ fun c o e hc => ?_
    · rw [upd_ne npa.symm, upd_ne npa.symm, upd_ne nab, upd_ne nad, upd_ne npa.symm, upd_same]
      rfl
    · rw [upd_ne npb.symm, upd_ne npb.symm, upd_same]
      rfl
    · cases i with
      | succ j => cases he
      | zero =>
        cases he
        refine ⟨[], ?_, Nat.le_refl _, List.nodup_nil, fun kv hkv => (by cases hkv), fun n => ?_⟩
        · rw [upd_ne npd.symm, upd_ne npd.symm, upd_ne ndb, upd_same]
        · show V.int 0 = V.int (amt [] [(("" : Str), 0)] n 0)
          unfold amt
          rw [up_zero]
          congr 1
          show (0 : Int) = (if ("" : Str) = n then (0 : Int) else 0) + 0
          split <;> rfl
    · rw [upd_ne hc, upd_ne hc, upd_ne (ne_of_none e hb0), upd_ne (ne_of_none e hd0), upd_ne hc, upd_ne (ne_of_none e ha)]
      exact e
theorem scStep : FnScope ["self", "name", "amount", "held", "state"] ["self", "name", "amount"] (defScope sStep) := ⟨rfl, rfl, rfl, by decide +kernel, rfl, by decide +kernel, by decide +kernel⟩
theorem okStep (B : Blt mg) (B3 : Blt3 mg) (T : DayT K mg C) (F : Mt K C "make_step" "Day.make_step" sStep ["self", "name", "amount"] f fd) : FnOk P w K mg base CX0 1 f fd ["self", "name", "amount"] (spStep C) := by
  refine F.fn.ok scStep (fun vs H Q E h => ?_) (fun cdv A outer s H vs Q E hr h => ?_)
  · obtain ⟨p, a, b, D, n, z, rfl, _⟩ := h
    rfl
  · obtain ⟨p, a, b, D, n, z, rfl, S, hlt, k⟩ := h
    have hu := hu_of hr
    have npa := S.pna
    have npb := S.pnb
    have nab := S.ab
    obtain ⟨⟨dx, h1⟩, ha, ⟨ds, hb, hdl, hds⟩, hok, hle⟩ := id S
    refine ⟨_, pss_cons (ps_set (i := 3) scStep.nd rfl (Or.inl rfl) (pe_callTy call_dictK (by rfl) B3.dict PyProof.Rows.boot_dict (pa_cons (pe_ix ix_list (pe_fld (pv 0) rfl) (pe_fld (pv 0) rfl) (fun _ _ => rfl)) pa_nil)))
      (pss_cons (ps_dput hu (pv 3) (pv 1) (pe_op op_add (pe_dget2 hu (pv 3) (pv 1) pe_int ⟨rfl, rfl, rfl, rfl⟩) (pv 2)) rfl)
      (pss_cons (ps_set (i := 4) scStep.nd rfl (Or.inl rfl) (pe_callB call_len_seq (by rfl) B.len PySem.boot_len (pa_cons (pe_fld (pv 0) rfl) pa_nil)))
      (pss_cons (ps_expr (pe_bm PySem.F.plainAttrs_list PySem.F.slot_list_append PySem.F.type_list_append mt_append (pe_fld (pv 0) rfl) (pa_cons (pe_fld (pv 0) rfl) pa_nil)))
      (pss_cons (ps_expr (pe_bm PySem.F.plainAttrs_list PySem.F.slot_list_append PySem.F.type_list_append mt_append (pe_fld (pv 0) rfl) (pa_cons (pv 3) pa_nil)))
      (pss_cons (ps_fld (pv 0) (pv 4) rfl)
      (pss_one (ps_ret (pv 4)))))))), ?_⟩
    have hhl := hok.hl
    obtain ⟨d, hd⟩ : ∃ d, ds[D.hd]? = some d := ⟨_, List.getElem?_eq_getElem (by omega)⟩
    obtain ⟨kvs, hkv, hkl, hnd, hks, hvs⟩ := hds D.hd d hd
    refine ⟨_, rfl, p, C, dx, _, _, rfl, h1, T.cl, T.nA, flds_a _ _ _, _, rfl, p, C, dx, _, _, rfl, h1, T.cl, T.nH, flds_h _ _ _, b, _, _, _, rfl, rfl, SqL.of hb, at_nat (i := D.hd) rfl (by rw [List.getElem?_map, hd]; rfl), d, kvs, rfl, hkv, fun e he => ?_⟩
    have nae : a ≠ e := ne_of_none ha he
    have nbe : b ≠ e := ne_of_none hb he
    have npe : p ≠ e := ne_of_none h1 he
    refine ⟨_, rfl, e, rfl, .inl ⟨kvs, .inl upd_same⟩, _, rfl, _, DGet.k (k := Sum.inr n) upd_same, _, rfl, _, _, hvs n, rfl, _, rfl, _, rfl, e, _, rfl, DPut.k (k := Sum.inr n) upd_same (small1000 (by omega)), ?_⟩
    generalize hH2 : upd (upd H e (.dK kvs)) e (.dK (putK kvs (Sum.inr n : Key) (V.int (amt D.ps D.st n D.hd + z)))) = H2
    have g1 : ∀ c, c ≠ e → H2 c = H c := fun c hc => by rw [← hH2, upd_ne hc, upd_ne hc]
    have ge : H2 e = some (.dK (putK kvs (Sum.inr n : Key) (V.int (amt D.ps D.st n D.hd + z)))) := by rw [← hH2, upd_same]
    have hp2 : H2 p = some (.ins C dx (flds a b (D.hd : Nat))) := by rw [g1 p npe]; exact h1
    have ha2 : H2 a = some (.lst (vT D.ps)) := by rw [g1 a nae]; exact ha
    have hb2 : H2 b = some (.lst (ds.map V.ref)) := by rw [g1 b nbe]; exact hb
    have hvl := vT_len D.ps
    refine ⟨_, rfl, p, C, dx, _, _, rfl, hp2, T.cl, T.nP, flds_p _ _ _, a, _, rfl, .inl (SqL.of ha2), ?_⟩
    refine ⟨_, rfl, p, C, dx, _, _, rfl, hp2, T.cl, T.nP, flds_p _ _ _, .inl ⟨rfl, _, SqL.of ha2⟩, _, rfl, p, C, dx, _, _, rfl, hp2, T.cl, T.nH, flds_h _ _ _, a, _, _, rfl, rfl, ha2, small1000 (by omega), ?_⟩
    have hp3 : ∀ o, (upd H2 a o) p = some (.ins C dx (flds a b (D.hd : Nat))) := fun o => by rw [upd_ne npa]; exact hp2
    have hb3 : ∀ o, (upd H2 a o) b = some (.lst (ds.map V.ref)) := fun o => by rw [upd_ne nab.symm]; exact hb2
    refine ⟨_, rfl, p, C, dx, _, _, rfl, hp3 _, T.cl, T.nA, flds_a _ _ _, .inl ⟨rfl, _, SqL.of (hb3 _)⟩, _, rfl, b, _, _, rfl, rfl, hb3 _, small1000 (by rw [List.length_map]; omega), ?_⟩
    refine ⟨_, rfl, _, rfl, p, C, dx, _, rfl, (by rw [upd_ne npb]; exact hp3 _), T.cl, T.nH, flds_few _ _ _, ?_⟩
    refine ⟨_, rfl, ?_⟩
    have e1 : putF "hand" (V.int ((vT D.ps).length : Int)) (flds a b (D.hd : Nat)) = flds a b ((D.ps.length + 1 : Nat) : Int) := by
      rw [flds_put, hvl]
    refine k _ _ ⟨⟨dx, Eq.trans upd_same (congrArg (fun l => some (HO.ins C dx l)) e1)⟩, ?_, ⟨ds ++ [e], ?_, ?_, fun i c hc => ?_⟩, hok.next (.step n z), ?_⟩ (fun c o hc n1 n2 n3 => ?_) ?_
    · show _ = some (HO.lst (vT (D.ps ++ [D.hd])))
      rw [upd_ne npa.symm, upd_ne nab, upd_same, vT_append]
    · rw [upd_ne npb.symm, upd_same, List.map_append]
      rfl
    · show (ds ++ [e]).length = (D.ps ++ [D.hd]).length + 1
      rw [List.length_append, List.length_append, hdl]
      rfl
    · show DictAt _ c (D.ps ++ [D.hd]) (D.st ++ [(n, z)]) i
      by_cases hi : i < ds.length
      · rw [List.getElem?_append_left hi] at hc
        have x := hds i c hc
        obtain ⟨kvs', hc', _⟩ := id x
        have ncp : c ≠ p := ne_of hc' h1 (by intro z; cases z)
        have nca : c ≠ a := ne_of hc' ha (by intro z; cases z)
        have ncb : c ≠ b := ne_of hc' hb (by intro z; cases z)
        have nce : c ≠ e := ne_of_none hc' he
        refine (x.to fun o ho => ?_).snoc hok (by omega)
        rw [upd_ne ncp, upd_ne ncb, upd_ne nca, g1 c nce]
        exact ho
      · have hi' : i = D.ps.length + 1 := by
          have := (List.getElem?_eq_some_iff.mp hc).1
          rw [List.length_append] at this
          simp at this
          omega
        subst hi'
        rw [List.getElem?_append_right (by omega), hdl, Nat.sub_self] at hc
        have hce : e = c := Option.some.inj hc
        subst hce
        exact DictAt.step (H := H) (d := d) hok hkl hnd hks hvs (by rw [upd_ne npe.symm, upd_ne nbe.symm, upd_ne nae.symm]; exact ge)
    · show (D.ps ++ [D.hd]).length ≤ 600
      rw [List.length_append]
      exact hlt
    · rw [upd_ne n1, upd_ne n3, upd_ne n2, g1 c (ne_of_none hc he)]
      exact hc
    · intro ex _
      show V.int _ = V.int _
      rw [hvl]
theorem scVal : FnScope ["self", "name"] ["self", "name"] (defScope sVal) := ⟨rfl, rfl, rfl, by decide +kernel, rfl, by decide +kernel, by decide +kernel⟩
theorem okVal (T : DayT K mg C) (F : Mt K C "value_of" "Day.value_of" sVal ["self", "name"] f fd) : FnOk P w K mg base CX0 1 f fd ["self", "name"] (spVal C) := by
  refine F.fn.ok scVal (fun vs H Q E h => ?_) (fun cdv A outer s H vs Q E hr h => ?_)
  · obtain ⟨p, a, b, D, n, rfl, _⟩ := h
    rfl
  · obtain ⟨p, a, b, D, n, rfl, S, q⟩ := h
    have hu := hu_of hr
    obtain ⟨⟨dx, h1⟩, ha, ⟨ds, hb, hdl, hds⟩, hok, hle⟩ := id S
    refine ⟨_, pss_one (ps_ret (pe_dget2 hu (pe_ix ix_list (pe_fld (pv 0) rfl) (pe_fld (pv 0) rfl) (fun _ _ => rfl)) (pv 1) pe_int ⟨rfl, rfl, rfl, rfl⟩)), ?_⟩
    have hhl := hok.hl
    obtain ⟨d, hd⟩ : ∃ d, ds[D.hd]? = some d := ⟨_, List.getElem?_eq_getElem (by omega)⟩
    obtain ⟨kvs, hkv, hkl, hnd, hks, hvs⟩ := hds D.hd d hd
    refine ⟨_, rfl, p, C, dx, _, _, rfl, h1, T.cl, T.nA, flds_a _ _ _, _, rfl, p, C, dx, _, _, rfl, h1, T.cl, T.nH, flds_h _ _ _, b, _, _, _, rfl, rfl, SqL.of hb, at_nat (i := D.hd) rfl (by rw [List.getElem?_map, hd]; rfl), d, rfl, .inl ⟨kvs, .inl hkv⟩, _, rfl, _, DGet.k (k := Sum.inr n) hkv, ?_⟩
    rw [hvs n]
    exact q
end
section
variable {P : Program} {w : World} {K : PySem.W.Frag} {mg : Str → Option Value} {base : Heap} {f C CT CS : Addr} {fd : FuncData}
theorem pe_fldK {X : Cx} {K : PySem.W.Frag} {e : Expr} {f : Str} {ta : TE} {pos : Pos} (hK : X.K = K) (he : PE X e ta) (hb : attributeBase e f X.env (eval e X.env) = eval e X.env) : PE X (.Attribute e f pos) (tFld K ta f) := by
  subst hK
  exact pe_fld he hb
theorem out_of {D : DayS Str} {z : Int} (h : ¬ InS D z) : OutN D.ps z := by
  unfold InS at h
  unfold OutN
  omega
theorem in_of {D : DayS Str} {z : Int} (h : InS D z) : ∃ n : Nat, z = n ∧ n ≤ D.ps.length := by
  unfold InS at h
  exact ⟨z.toNat, by omega, by omega⟩
theorem scGo : FnScope ["self", "state", "gone"] ["self", "state"] (defScope sGo) := ⟨rfl, rfl, rfl, by decide +kernel, rfl, by decide +kernel, by decide +kernel⟩
theorem okGo {f1 : Addr} {fd1 : FuncData} (T : DayT K mg C) (XD : ExcD K mg CT CS) (F : Mt K C "go_to" "Day.go_to" sGo ["self", "state"] f fd)
    (F1 : Fn K mg "way" sWay ["parents", "one", "two"] f1 fd1) (G1 : FnOk P w K mg base CX0 3 f1 fd1 ["parents", "one", "two"] (spWay K)) (G1' : FnOk P w K mg base (CXF P w) 3 f1 fd1 ["parents", "one", "two"] (spRef2 K CT CS)) : FnOk P w K mg base CX0 4 f fd ["self", "state"] (spGo C) := by
  refine F.fn.ok scGo (fun vs H Q E h => ?_) (fun cdv A outer s H vs Q E hr h => ?_)
  · obtain ⟨p, a, b, D, z, rfl, _⟩ := h
    rfl
  · obtain ⟨p, a, b, D, z, rfl, S, k⟩ := h
    have hhl := S.ok.hl
    obtain ⟨dx, h1⟩ := S.ob
    by_cases hi : InS D z
    · obtain ⟨n, rfl, hn⟩ := in_of hi
      refine ⟨_, pss_cons (ps_try1 (X := (cxOf CX0 P w K mg base _ _ (defScope sGo) f cdv A outer s H E).nox) (D1 := CS) ⟨rfl, rfl, rfl⟩ (fun σ0 E' pins Ex hp => (pss_one (ps_set (i := 2) scGo.nd rfl (Or.inl rfl) (pe_call G1 hr (by rfl) F1.mx F1.fn.kp F1.bd .nil pass0 (pa_cons (pe_fldK (K := K) rfl (pv 0) (by rfl)) (pa_cons (pe_fldK (K := K) rfl (pv 0) (by rfl)) (pa_cons (pv 1) pa_nil))))))) (by rfl) XD.XS.mx (fun ea => (pss_one (ps_ret pe_non))))
        (pss_cons (ps_fld (pv 0) (pv 1) rfl) (pss_one (ps_ret (pv 2)))), ?_⟩
      refine ⟨_, rfl, p, C, dx, _, _, rfl, h1, T.cl, T.nP, flds_p _ _ _, _, rfl, p, C, dx, _, _, rfl, h1, T.cl, T.nH, flds_h _ _ _, _, rfl, a, D.ps, D.hd, n, rfl, S.tree, hhl, hn, fun q l r H1 N => ?_⟩
      have S1 := S.same N.sm
      have hp1 := N.sm _ _ h1
      refine ⟨_, rfl, _, rfl, p, C, dx, _, rfl, hp1, T.cl, T.nH, flds_few _ _ _, ?_⟩
      rw [flds_put]
      have en : D.next (.go (n : Int)) = ⟨D.ps, D.st, n⟩ := by
        show (if InS D (n : Int) then (⟨D.ps, D.st, (n : Int).toNat⟩ : DayS Str) else D) = _
        rw [if_pos hi]
        rfl
      have nq : q ≠ p := fun z => by rw [z] at N; rw [N.np] at h1; cases h1
      have nl : l ≠ p := fun z => by rw [z] at N; rw [N.nl] at h1; cases h1
      have nr : r ≠ p := fun z => by rw [z] at N; rw [N.nr] at h1; cases h1
      refine ⟨_, rfl, k _ _ ?_ (fun c o e n1 _ _ => by rw [upd_ne n1]; exact N.sm _ _ e) fun ex hex => .inr ⟨hi, q, l, r, rfl, ?_, ?_, ?_, fun z => ?_, fun z => ?_, fun z => ?_⟩⟩
      · rw [en]
        exact S1.go hn ⟨dx, upd_same⟩ fun c o e hc => by rw [upd_ne hc]; exact e
      · rw [upd_ne nq]; exact N.tp
      · rw [upd_ne nl]; exact N.ll
      · rw [upd_ne nr]; exact N.lr
      · obtain ⟨o, e⟩ := hex _ z
        rw [N.np] at e; cases e
      · obtain ⟨o, e⟩ := hex _ z
        rw [N.nl] at e; cases e
      · obtain ⟨o, e⟩ := hex _ z
        rw [N.nr] at e; cases e
    · refine ⟨_, pss_cons (ps_try1 (X := (cxOf CX0 P w K mg base _ _ (defScope sGo) f cdv A outer s H E).nox) (D1 := CS) ⟨rfl, rfl, rfl⟩ (fun σ0 E' pins Ex hp => (pss_one (ps_set (i := 2) scGo.nd rfl (Or.inl rfl) (pe_callAt G1' hr (by rfl) F1.mx F1.fn.kp F1.bd hp (pa_cons (pe_fldK (K := K) rfl (pv 0) (by rfl)) (pa_cons (pe_fldK (K := K) rfl (pv 0) (by rfl)) (pa_cons (pv 1) pa_nil))))))) (by rfl) XD.XS.mx (fun ea => (pss_one (ps_ret pe_non))))
        (pss_cons (ps_fld (pv 0) (pv 1) rfl) (pss_one (ps_ret (pv 2)))), ?_⟩
      refine ⟨rfl, _, rfl, p, C, dx, _, _, rfl, h1, T.cl, T.nP, flds_p _ _ _, _, rfl, p, C, dx, _, _, rfl, h1, T.cl, T.nH, flds_h _ _ _, _, rfl, a, _, z, rfl, .inr ⟨D.ps, S.tree, .inr ⟨⟨D.hd, rfl, hhl⟩, out_of hi⟩, CS, rfl, XD.ss, ?_⟩⟩
      have en : D.next (.go z) = D := by
        show (if InS D z then (⟨D.ps, D.st, z.toNat⟩ : DayS Str) else D) = _
        rw [if_neg hi]
      exact k _ _ (by rw [en]; exact S) (fun c o e _ _ _ => e) fun ex hex => .inl ⟨hi, rfl⟩
theorem scCom : FnScope ["self", "one", "two"] ["self", "one", "two"] (defScope sCom) := ⟨rfl, rfl, rfl, by decide +kernel, rfl, by decide +kernel, by decide +kernel⟩
theorem okCom {f1 : Addr} {fd1 : FuncData} (T : DayT K mg C) (XD : ExcD K mg CT CS) (F : Mt K C "common_elder" "Day.common_elder" sCom ["self", "one", "two"] f fd)
    (F1 : Fn K mg "nearest" sNearest ["parents", "one", "two"] f1 fd1) (G1 : FnOk P w K mg base CX0 3 f1 fd1 ["parents", "one", "two"] (spNearest K)) (G1' : FnOk P w K mg base (CXF P w) 3 f1 fd1 ["parents", "one", "two"] (spRef2 K CT CS)) : FnOk P w K mg base CX0 4 f fd ["self", "one", "two"] (spCom C) := by
  refine F.fn.ok scCom (fun vs H Q E h => ?_) (fun cdv A outer s H vs Q E hr h => ?_)
  · obtain ⟨p, a, b, D, y, z, rfl, _⟩ := h
    rfl
  · obtain ⟨p, a, b, D, y, z, rfl, S, k⟩ := h
    obtain ⟨dx, h1⟩ := S.ob
    by_cases hi : InS D y ∧ InS D z
    · obtain ⟨m, rfl, hm⟩ := in_of hi.1
      obtain ⟨n, rfl, hn⟩ := in_of hi.2
      refine ⟨_, pss_one (ps_try1 (X := (cxOf CX0 P w K mg base _ _ (defScope sCom) f cdv A outer s H E).nox) (D1 := CS) ⟨rfl, rfl, rfl⟩ (fun σ0 E' pins Ex hp => (pss_one (ps_ret (pe_call G1 hr (by rfl) F1.mx F1.fn.kp F1.bd .nil pass0 (pa_cons (pe_fldK (K := K) rfl (pv 0) (by rfl)) (pa_cons (pv 1) (pa_cons (pv 2) pa_nil))))))) (by rfl) XD.XS.mx (fun ea => (pss_one (ps_ret pe_non)))), ?_⟩
      exact ⟨_, rfl, p, C, dx, _, _, rfl, h1, T.cl, T.nP, flds_p _ _ _, _, rfl, _, rfl, a, D.ps, m, n, rfl, S.tree, hm, hn, k _ (.inr ⟨hi, rfl⟩)⟩
    · refine ⟨_, pss_one (ps_try1 (X := (cxOf CX0 P w K mg base _ _ (defScope sCom) f cdv A outer s H E).nox) (D1 := CS) ⟨rfl, rfl, rfl⟩ (fun σ0 E' pins Ex hp => (pss_one (ps_ret (pe_callAt G1' hr (by rfl) F1.mx F1.fn.kp F1.bd hp (pa_cons (pe_fldK (K := K) rfl (pv 0) (by rfl)) (pa_cons (pv 1) (pa_cons (pv 2) pa_nil))))))) (by rfl) XD.XS.mx (fun ea => (pss_one (ps_ret pe_non)))), ?_⟩
      refine ⟨rfl, _, rfl, p, C, dx, _, _, rfl, h1, T.cl, T.nP, flds_p _ _ _, _, rfl, _, rfl, a, y, z, rfl, .inr ⟨D.ps, S.tree, ?_, CS, rfl, XD.ss, k _ (.inl ⟨hi, rfl⟩)⟩⟩
      by_cases hy : InS D y
      · exact .inr ⟨in_of hy, out_of fun hz => hi ⟨hy, hz⟩⟩
      · exact .inl (out_of hy)
theorem scDo : FnScope ["self", "deed", "kind"] ["self", "deed"] (defScope sDo) := ⟨rfl, rfl, rfl, by decide +kernel, rfl, by decide +kernel, by decide +kernel⟩
theorem s_gs : ¬ (V.str "go" = V.str "step") := fun z => absurd (V.str.inj z) (by decide +kernel)
theorem s_gv : ¬ (V.str "go" = V.str "value") := fun z => absurd (V.str.inj z) (by decide +kernel)
theorem s_vs : ¬ (V.str "value" = V.str "step") := fun z => absurd (V.str.inj z) (by decide +kernel)
theorem s_vg : ¬ (V.str "value" = V.str "go") := fun z => absurd (V.str.inj z) (by decide +kernel)
theorem s_cs : ¬ (V.str "common" = V.str "step") := fun z => absurd (V.str.inj z) (by decide +kernel)
theorem s_cg : ¬ (V.str "common" = V.str "go") := fun z => absurd (V.str.inj z) (by decide +kernel)
theorem s_cv : ¬ (V.str "common" = V.str "value") := fun z => absurd (V.str.inj z) (by decide +kernel)
theorem okDo {f1 f2 f3 f4 : Addr} {fd1 fd2 fd3 fd4 : FuncData} (T : DayT K mg C) (F : Mt K C "do_deed" "Day.do_deed" sDo ["self", "deed"] f fd)
    (F1 : Mt K C "make_step" "Day.make_step" sStep ["self", "name", "amount"] f1 fd1) (G1 : FnOk P w K mg base CX0 1 f1 fd1 ["self", "name", "amount"] (spStep C))
    (F2 : Mt K C "go_to" "Day.go_to" sGo ["self", "state"] f2 fd2) (G2 : FnOk P w K mg base CX0 4 f2 fd2 ["self", "state"] (spGo C))
    (F3 : Mt K C "value_of" "Day.value_of" sVal ["self", "name"] f3 fd3) (G3 : FnOk P w K mg base CX0 1 f3 fd3 ["self", "name"] (spVal C))
    (F4 : Mt K C "common_elder" "Day.common_elder" sCom ["self", "one", "two"] f4 fd4) (G4 : FnOk P w K mg base CX0 4 f4 fd4 ["self", "one", "two"] (spCom C)) : FnOk P w K mg base CX0 5 f fd ["self", "deed"] (spDo C) := by
  refine F.fn.ok scDo (fun vs H Q E h => ?_) (fun cdv A outer s H vs Q E hr h => ?_)
  · obtain ⟨p, a, b, D, v, d, rfl, _⟩ := h
    rfl
  · obtain ⟨p, a, b, D, v, d, rfl, ⟨t, rfl, ht⟩, S, hlt, k⟩ := h
    have hr1 : Room 1 _ := hr.mono (by decide)
    obtain ⟨dx, h1⟩ := S.ob
    refine ⟨_, pss_cons (ps_set (i := 2) scDo.nd rfl (Or.inl rfl) (pe_ix ix_tup (pv 1) pe_int (fun _ _ => rfl)))
      (pss_cons (ps_if (pt_cmpR op_eq (pv 2) pe_str (nomark _)) (pss_one (ps_ret (pe_meth (pv 0) T.cl F1.mt G1 hr1 F1.bd .nil pass0 (pa_cons (pe_ix ix_tup (pv 1) pe_int (fun _ _ => rfl)) (pa_cons (pe_ix ix_tup (pv 1) pe_int (fun _ _ => rfl)) pa_nil))))) pss_nil)
      (pss_cons (ps_if (pt_cmpR op_eq (pv 2) pe_str (nomark _)) (pss_one (ps_ret (pe_meth (pv 0) T.cl F2.mt G2 hr F2.bd .nil pass0 (pa_cons (pe_ix ix_tup (pv 1) pe_int (fun _ _ => rfl)) pa_nil)))) pss_nil)
      (pss_cons (ps_if (pt_cmpR op_eq (pv 2) pe_str (nomark _)) (pss_one (ps_ret (pe_meth (pv 0) T.cl F3.mt G3 hr1 F3.bd .nil pass0 (pa_cons (pe_ix ix_tup (pv 1) pe_int (fun _ _ => rfl)) pa_nil)))) pss_nil)
      (pss_one (ps_ret (pe_meth (pv 0) T.cl F4.mt G4 hr F4.bd .nil pass0 (pa_cons (pe_ix ix_tup (pv 1) pe_int (fun _ _ => rfl)) (pa_cons (pe_ix ix_tup (pv 1) pe_int (fun _ _ => rfl)) pa_nil)))))))), ?_⟩
    cases d with
    | step n z =>
      refine ⟨_, rfl, t, _, _, _, rfl, rfl, SqT.of ht, at_nat (i := 0) rfl rfl, ?_⟩
      refine ⟨_, rfl, rfl, _, rfl, iteP rfl ?_⟩
      exact ⟨_, rfl, p, dx, _, rfl, h1, flds_no _ _ _ (by decide +kernel) (by decide +kernel) (by decide +kernel), _, rfl, t, _, _, _, rfl, rfl, SqT.of ht, at_nat (i := 1) rfl rfl, _, rfl, t, _, _, _, rfl, rfl, SqT.of ht, at_nat (i := 2) rfl rfl,
        p, a, b, D, n, z, rfl, S, hlt, k⟩
    | go z =>
      refine ⟨_, rfl, t, _, _, _, rfl, rfl, SqT.of ht, at_nat (i := 0) rfl rfl, ?_⟩
      refine ⟨_, rfl, rfl, _, rfl, iteN s_gs ?_⟩
      refine ⟨_, rfl, rfl, _, rfl, iteP rfl ?_⟩
      exact ⟨_, rfl, p, dx, _, rfl, h1, flds_no _ _ _ (by decide +kernel) (by decide +kernel) (by decide +kernel), _, rfl, t, _, _, _, rfl, rfl, SqT.of ht, at_nat (i := 1) rfl rfl,
        p, a, b, D, z, rfl, S, k⟩
    | val n =>
      refine ⟨_, rfl, t, _, _, _, rfl, rfl, SqT.of ht, at_nat (i := 0) rfl rfl, ?_⟩
      refine ⟨_, rfl, rfl, _, rfl, iteN s_vs ?_⟩
      refine ⟨_, rfl, rfl, _, rfl, iteN s_vg ?_⟩
      refine ⟨_, rfl, rfl, _, rfl, iteP rfl ?_⟩
      exact ⟨_, rfl, p, dx, _, rfl, h1, flds_no _ _ _ (by decide +kernel) (by decide +kernel) (by decide +kernel), _, rfl, t, _, _, _, rfl, rfl, SqT.of ht, at_nat (i := 1) rfl rfl,
        p, a, b, D, n, rfl, S, k _ _ S (fun c o e _ _ _ => e) fun ex _ => rfl⟩
    | com y z =>
      refine ⟨_, rfl, t, _, _, _, rfl, rfl, SqT.of ht, at_nat (i := 0) rfl rfl, ?_⟩
      refine ⟨_, rfl, rfl, _, rfl, iteN s_cs ?_⟩
      refine ⟨_, rfl, rfl, _, rfl, iteN s_cg ?_⟩
      refine ⟨_, rfl, rfl, _, rfl, iteN s_cv ?_⟩
      exact ⟨_, rfl, p, dx, _, rfl, h1, flds_no _ _ _ (by decide +kernel) (by decide +kernel) (by decide +kernel), _, rfl, t, _, _, _, rfl, rfl, SqT.of ht, at_nat (i := 1) rfl rfl, _, rfl, t, _, _, _, rfl, rfl, SqT.of ht, at_nat (i := 2) rfl rfl,
        p, a, b, D, y, z, rfl, S, fun u hu => k _ _ S (fun c o e _ _ _ => e) fun ex _ => hu⟩
end
/-! ## what is behind a day -/
/-- the names that have something, in order, with what they have -/
def HeldAt (D : DayS Str) (qs : List (Str × Int)) : Prop := ∃ rs : List Str, rs.Nodup ∧ PyProof.Rows.sortedS rs = true ∧ (∀ n, amt D.ps D.st n D.hd ≠ 0 → n ∈ rs) ∧ qs = prs rs (fun n => amt D.ps D.st n D.hd)
def spPairs (C : Addr) : Sp := fun vs H Q _ => ∃ (p a b : Addr) (D : DayS Str), vs = [.ref p] ∧ DayAt C H p a b D ∧ D.hd < 64 ∧ ∀ (q : Addr) (qs : List (Str × Int)) (H' : Hp), Same H H' → StepsL H' q qs → HeldAt D qs → Q (.ref q) H'
def spBehind (K : PySem.W.Frag) : Sp := fun vs H Q _ => ∃ (l : Addr) (xs : List V) (ds : List (Deed Str)), vs = [.ref l] ∧ SqL K H l xs ∧ DeedsAt H xs ds ∧ ds.length ≤ 500 ∧ (run ds ds.length).hd < 64 ∧
  ∀ (t a q : Addr) (qs : List (Str × Int)) (H' : Hp), Same H H' → H' t = some (.tup [.ref a, .int ((run ds ds.length).hd : Nat), .ref q]) → H' a = some (.lst (vT (run ds ds.length).ps)) → StepsL H' q qs → HeldAt (run ds ds.length) qs → Q (.ref t) H'
structure Blt6 (mg : Str → Option Value) : Prop where
  sorted : mg "sorted" = none
  set : mg "set" = none
theorem key_val {kvs : List (Key × V)} {n : Str} {z : Int} (nd : (kvs.map (·.1)).Nodup) (h : (Sum.inr n, V.int z) ∈ kvs) : valV kvs (Sum.inr n : Key) = some (.int z) := by
  induction kvs with
  | nil => cases h
  | cons q l ih =>
    rw [List.map_cons, List.nodup_cons] at nd
    rcases List.mem_cons.mp h with rfl | h
    · exact valV_pos rfl
    · rw [valV_neg fun e => nd.1 (by rw [e]; exact List.mem_map.mpr ⟨_, h, rfl⟩)]
      exact ih nd.2 h
section
variable {P : Program} {w : World} {K : PySem.W.Frag} {mg : Str → Option Value} {base : Heap} {f C : Addr} {fd : FuncData}
theorem scPairs : FnScope ["self", "held"] ["self"] (defScope sPairs) := ⟨rfl, rfl, rfl, by decide +kernel, rfl, by decide +kernel, by decide +kernel⟩
theorem okPairs (B6 : Blt6 mg) (T : DayT K mg C) (F : Mt K C "pairs_at_hand" "Day.pairs_at_hand" sPairs ["self"] f fd) : FnOk P w K mg base CX0 1 f fd ["self"] (spPairs C) := by
  refine F.fn.ok scPairs (fun vs H Q E h => ?_) (fun cdv A outer s H vs Q E hr h => ?_)
  · obtain ⟨p, a, b, D, rfl, _⟩ := h
    rfl
  · obtain ⟨p, a, b, D, rfl, S, hlt, k⟩ := h
    obtain ⟨⟨dx, h1⟩, ha, ⟨ds, hb, hdl, hds⟩, hok, hle⟩ := id S
    refine ⟨_, pss_cons (ps_set (i := 1) scPairs.nd rfl (Or.inr rfl) (pe_ix ix_list (pe_fld (pv 0) rfl) (pe_fld (pv 0) rfl) (fun _ _ => rfl)))
      (pss_one (ps_ret (pe_prs (j := 1) rfl (pe_callB (call_sortD rfl) (by rfl) B6.sorted PyProof.Rows.boot_sorted (pa_cons (pv 1) pa_nil)) ⟨rfl, rfl, by decide +kernel, by decide +kernel, by decide +kernel⟩ rfl rfl rfl (fun _ _ => rfl) (fun _ _ => rfl)))), ?_⟩
    have hhl := hok.hl
    obtain ⟨d, hd⟩ : ∃ d, ds[D.hd]? = some d := ⟨_, List.getElem?_eq_getElem (by omega)⟩
    obtain ⟨kvs, hkv, hkl, hnd, hks, hvs⟩ := hds D.hd d hd
    refine ⟨_, rfl, p, C, dx, _, _, rfl, h1, T.cl, T.nA, flds_a _ _ _, _, rfl, p, C, dx, _, _, rfl, h1, T.cl, T.nH, flds_h _ _ _, b, _, _, _, rfl, rfl, SqL.of hb, at_nat (i := D.hd) rfl (by rw [List.getElem?_map, hd]; rfl), ?_⟩
    refine ⟨_, rfl, d, kvs, rfl, hkv, by omega, fun kv hq => ?_, fun p1 rs hp1 hpm hsrt => ?_⟩
    · obtain ⟨n, z, rfl⟩ := hks kv hq
      exact ⟨n, rfl⟩
    have nmem : ∀ n : Str, n ∈ rs ↔ (Sum.inr n : Key) ∈ kvs.map (·.1) := fun n => by
      rw [hpm.mem_iff]
      constructor
      · intro hn
        obtain ⟨kv, h2, e⟩ := List.mem_map.mp hn
        obtain ⟨n', z, rfl⟩ := hks kv h2
        cases e
        exact List.mem_map.mpr ⟨_, h2, rfl⟩
      · intro hn
        obtain ⟨kv, h2, e⟩ := List.mem_map.mp hn
        obtain ⟨n', z, rfl⟩ := hks kv h2
        cases e
        exact List.mem_map.mpr ⟨_, h2, rfl⟩
    have hva : ∀ n ∈ rs, valV kvs (Sum.inr n : Key) = some (.int (amt D.ps D.st n D.hd)) := fun n hn => by
      obtain ⟨kv, h2, e⟩ := List.mem_map.mp ((nmem n).mp hn)
      obtain ⟨n', z, rfl⟩ := hks kv h2
      cases e
      have h3 := key_val hnd h2
      have h4 := hvs n
      rw [h3] at h4 ⊢
      exact congrArg some h4
    have sm := same_upd (o := .lst (rs.map V.str)) hp1
    refine ⟨p1, d, kvs, rs, fun n => amt D.ps D.st n D.hd, rfl, SqL.of upd_same, rfl, sm _ _ hkv, hva, fun p2 H2 hp2 s2 hS2 => ?_⟩
    refine k p2 _ H2 (sm.trans s2) hS2 ⟨rs, ?_, hsrt, fun n hn => ?_, rfl⟩
    · refine hpm.nodup_iff.mpr ?_
      have e1 : (kvs.map fun kv => nameOf kv.1) = (kvs.map (·.1)).map nameOf := by rw [List.map_map]; rfl
      rw [e1]
      refine List.pairwise_map.mpr (hnd.imp_of_mem fun {x y} hx hy hne e => hne ?_)
      obtain ⟨kv, h2, rfl⟩ := List.mem_map.mp hx
      obtain ⟨kv', h3, rfl⟩ := List.mem_map.mp hy
      obtain ⟨n, z, rfl⟩ := hks kv h2
      obtain ⟨n', z', rfl⟩ := hks kv' h3
      have e' : n = n' := e
      rw [e']
    · rw [nmem]
      have h5 := hvs n
      cases hv : valV kvs (Sum.inr n : Key) with
      | none =>
        rw [hv] at h5
        have h6 : (0 : Int) = amt D.ps D.st n D.hd := V.int.inj h5
        exact absurd h6.symm hn
      | some v =>
        have h7 := valV_any (Sum.inr n : Key) kvs
        rw [hv] at h7
        obtain ⟨kv, h8, h9⟩ := List.any_eq_true.mp h7
        exact List.mem_map.mpr ⟨kv, h8, of_decide_eq_true h9⟩
theorem scBehind : FnScope ["deeds", "day", "deed"] ["deeds"] (defScope sBehind) := ⟨rfl, rfl, rfl, by decide +kernel, rfl, by decide +kernel, by decide +kernel⟩
theorem okBehind {f1 f2 f3 : Addr} {fd1 fd2 fd3 : FuncData} (T : DayT K mg C) (F : Fn K mg "behind" sBehind ["deeds"] f fd) (M : Mk K C f1)
    (F1 : Mt K C "__init__" "Day.__init__" sInit ["self"] f1 fd1) (F2 : Mt K C "do_deed" "Day.do_deed" sDo ["self", "deed"] f2 fd2) (G2 : FnOk P w K mg base CX0 5 f2 fd2 ["self", "deed"] (spDo C))
    (F3 : Mt K C "pairs_at_hand" "Day.pairs_at_hand" sPairs ["self"] f3 fd3) (G3 : FnOk P w K mg base CX0 1 f3 fd3 ["self"] (spPairs C)) : FnOk P w K mg base CX0 6 f fd ["deeds"] (spBehind K) := by
  have G1 : FnOk P w K mg base CX0 1 f1 fd1 ["self"] (spInit C) := okInit T F1
  refine F.fn.ok scBehind (fun vs H Q E h => ?_) (fun cdv A outer s H vs Q E hr h => ?_)
  · obtain ⟨l, xs, ds, rfl, _⟩ := h
    rfl
  · obtain ⟨l, xs, ds, rfl, hS, hD, hlen, hh64, k⟩ := h
    have hr2 : Room 2 _ := hr.mono (by decide)
    have hr1 : Room 1 _ := hr.mono (by decide)
    refine ⟨_, pss_cons (ps_set (i := 1) scBehind.nd rfl (Or.inl rfl) (pe_make0 M G1 hr2 rfl T.mgC F1.bd .nil pass0))
      (pss_cons (ps_for PassesOwn.never rfl (pi_list (pv 0)) (pg_name (i := 2) scBehind.nd rfl (Or.inl rfl))
        (pss_one (ps_expr (pe_meth (pv 1) T.cl F2.mt G2 hr F2.bd .nil pass0 (pa_cons (pv 2) pa_nil)))))
      (pss_one (ps_ret (pe_tup (pa_cons (pe_fld (pv 1) rfl) (pa_cons (pe_fld (pv 1) rfl) (pa_cons (pe_meth0 (pv 1) T.cl F3.mt G3 hr1 F3.bd .nil pass0) pa_nil))))))), ?_⟩
    intro x dx nx ndx nex
    refine ⟨x, dx, rfl, upd_same, fun a b H1 na nb D1 kp => ⟨rfl, ?_⟩⟩
    have s0 : Same H (upd (upd H dx (.own x)) x (.ins C dx [])) := fun c o e => by
      rw [upd_ne (ne_of_none e nx), upd_ne (ne_of_none e ndx)]
      exact e
    have s1 : Same H H1 := fun c o e => kp c o (s0 c o e) (ne_of_none e nx)
    have na0 : H a = none := s0.free na
    have nb0 : H b = none := s0.free nb
    have hxl := hD.1
    refine ⟨_, rfl, l, rfl, ⟨_, s1.seq hS⟩, for_list (K := K) (a := l) (xs := xs) (fun i σ H2 => ∃ v : Option V, σ = [some (.ref l), some (.ref x), v] ∧ Same H H2 ∧ DayAt C H2 x a b (run ds i))
      ⟨none, rfl, s1, D1⟩ (fun i σ H2 _ ⟨_, _, s2, _⟩ => s2.seq hS) ?_ ?_⟩
    · rintro i v σ H2 hi ⟨v', rfl, s2, D2⟩
      have hil : i < xs.length := (List.getElem?_eq_some_iff.mp hi).1
      obtain ⟨d, hd⟩ : ∃ d, ds[i]? = some d := ⟨_, List.getElem?_eq_getElem (by omega)⟩
      obtain ⟨dz, ho2⟩ := D2.ob
      have hrl := run_len ds i
      refine ⟨_, rfl, x, dz, _, rfl, ho2, flds_no _ _ _ (by decide +kernel) (by decide +kernel) (by decide +kernel), _, rfl, x, a, b, run ds i, v, d, rfl, (hD.2 i v d hi hd).same s2, D2, by omega, fun u H3 D3 kp3 hN => ?_⟩
      refine ⟨_, rfl, fun c o e => ?_, ?_⟩
      · exact kp3 c o (s2 c o e) (ne_of_none e nx) (ne_of_none e na0) (ne_of_none e nb0)
      · rw [run_succ hd]
        exact D3
    · rintro σ H2 ⟨v, rfl, s2, D2⟩
      rw [hxl] at D2
      obtain ⟨dz, ho2⟩ := D2.ob
      refine ⟨_, rfl, x, C, dz, _, _, rfl, ho2, T.cl, T.nP, flds_p _ _ _, _, rfl, x, C, dz, _, _, rfl, ho2, T.cl, T.nH, flds_h _ _ _, _, rfl, x, dz, _, rfl, ho2, flds_no _ _ _ (by decide +kernel) (by decide +kernel) (by decide +kernel), x, a, b, _, rfl, D2, hh64, fun q qs H3 s3 hS3 hH3 => ?_⟩
      refine ⟨(by show 3 ≤ sizeLine; decide), fun t ht => ?_⟩
      have s4 := same_upd (o := .tup [V.ref a, V.int ((run ds ds.length).hd : Nat), V.ref q]) ht
      refine k t a q qs _ ((s2.trans s3).trans s4) upd_same (s4 _ _ (s3 _ _ D2.pa)) ?_ hH3
      obtain ⟨ts, g1, g2, g3⟩ := hS3
      refine ⟨ts, s4 _ _ g1, g2, fun i t' e => ?_⟩
      obtain ⟨n, z, g4, g5⟩ := g3 i t' e
      exact ⟨n, z, g4, s4 _ _ g5⟩
end
section
variable {P : Program} {w : World} {K : PySem.W.Frag} {mg : Str → Option Value} {base : Heap} {f : Addr} {fd : FuncData}
theorem scWhole : FnScope ["_law_found"] ["_law_found"] (defScope sWhole) := ⟨rfl, rfl, rfl, by decide +kernel, rfl, by decide +kernel, by decide +kernel⟩
theorem okWhole (B : Blt mg) (F : Fn K mg "_law_whole" sWhole ["_law_found"] f fd) : FnOk P w K mg base CX0 1 f fd ["_law_found"] spWhole := by
  refine F.fn.ok scWhole (fun vs H Q E h => ?_) (fun cdv A outer s H vs Q E hr h => ?_)
  · obtain ⟨z, rfl, _⟩ := h
    rfl
  · obtain ⟨z, rfl, q⟩ := h
    refine ⟨_, pss_one (ps_ret (pe_and (pe_callB (call_isi "int") (by rfl) B.isi PyProof.Rows.boot_isinstance (pa_cons (pv 0) (pa_cons (pe_bltn (v := .ty "int") (by rfl) B.int PyProof.Rows.boot_int rfl) pa_nil)))
      (pe_one (pe_not (pe_callB (call_isi "bool") (by rfl) B.isi PyProof.Rows.boot_isinstance (pa_cons (pv 0) (pa_cons (pe_bltn (v := .ty "bool") (by rfl) B.bool PyProof.Rows.boot_bool rfl) pa_nil))))))), ?_⟩
    refine ⟨_, rfl, .int z, "int", true, rfl, .int z, kii, true, rfl, iteT ?_⟩
    exact ⟨_, rfl, .int z, "int", false, rfl, .int z, kib, false, rfl, q⟩
end
section
variable {P : Program} {w : World} {K : PySem.W.Frag} {mg : Str → Option Value} {base : Heap} {f : Addr} {fd : FuncData}
theorem scAt : FnScope ["_law_script", "_law_k"] ["_law_script", "_law_k"] (defScope sAt) := ⟨rfl, rfl, rfl, by decide +kernel, rfl, by decide +kernel, by decide +kernel⟩
theorem okAt (B : Blt mg) (F : Fn K mg "_law_at" sAt ["_law_script", "_law_k"] f fd) : FnOk P w K mg base CX0 1 f fd ["_law_script", "_law_k"] (spAt K) := by
  refine F.fn.ok scAt (fun vs H Q E h => ?_) (fun cdv A outer s H vs Q E hr h => ?_)
  · obtain ⟨a, ns, k, rfl, _⟩ := h
    rfl
  · obtain ⟨a, ns, k, rfl, hS, hl, q⟩ := h
    refine ⟨_, pss_cons (ps_if (pt_cmpR op_lt (pv 1) (pe_callB call_len_seq (by rfl) B.len PySem.boot_len (pa_cons (pv 0) pa_nil)) (nomark _)) (pss_one (ps_ret (pe_ix ix_list (pv 0) (pv 1) (fun _ _ => rfl)))) pss_nil)
      (pss_one (ps_ret pe_int)), ?_⟩
    refine ⟨_, rfl, _, rfl, a, ns.map V.int, rfl, .inl hS, _, _, rfl, rfl, _, rfl, iteD (fun e => ?_) (fun e => ?_)⟩
    · rw [List.length_map] at e
      obtain ⟨z, hz⟩ := map_get' (ns := ns) (i := k) (by omega)
      exact ⟨_, rfl, _, rfl, a, _, _, _, rfl, rfl, hS, at_nat rfl hz, q z⟩
    · exact q 0
end
section
variable {P : Program} {w : World} {K : PySem.W.Frag} {mg : Str → Option Value} {base : Heap} {f : Addr} {fd : FuncData}
theorem scUp : FnScope ["_law_parents", "_law_state", "_law_found"] ["_law_parents", "_law_state"] (defScope sUp) := ⟨rfl, rfl, rfl, by decide +kernel, rfl, by decide +kernel, by decide +kernel⟩
theorem okUp (F : Fn K mg "_law_up" sUp ["_law_parents", "_law_state"] f fd) : FnOk P w K mg base CX0 1 f fd ["_law_parents", "_law_state"] (spUp K) := by
  refine F.fn.ok scUp (fun vs H Q E h => ?_) (fun cdv A outer s H vs Q E hr h => ?_)
  · obtain ⟨a, ps, n, rfl, _⟩ := h
    rfl
  · obtain ⟨a, ps, n, rfl, t, hn, q⟩ := h
    have hle := t.le
    refine ⟨_, pss_cons (ps_set (i := 2) scUp.nd rfl (Or.inl rfl) (pe_lst (pa_cons (pv 1) pa_nil)))
      (pss_cons (ps_while PassesOwn.never (pt_cmp (pc_notN (pe_ix ix_list (pv 0) (pe_ix ix_list (pv 2) (pe_un un_neg pe_int) (fun _ _ => rfl)) (fun _ _ => rfl))))
        (pss_one (ps_expr (pe_bm PySem.F.plainAttrs_list PySem.F.slot_list_append PySem.F.type_list_append mt_append (pv 2) (pa_cons (pe_ix ix_list (pv 0) (pe_ix ix_list (pv 2) (pe_un un_neg pe_int) (fun _ _ => rfl)) (fun _ _ => rfl)) pa_nil)))))
      (pss_one (ps_ret (pv 2)))), ?_⟩
    refine ⟨_, rfl, by show 1 ≤ sizeLine; decide, fun p hp => ?_⟩
    refine ⟨fun k σ H1 => ∃ (l : List Nat), σ = [some (.ref a), some (.int n), some (.ref p)] ∧ k ≤ n ∧ l ++ up ps k = up ps n ∧ Same H H1 ∧ H1 p = some (.lst (vN (l ++ [k]))),
      ⟨n, [], rfl, Nat.le_refl _, rfl, same_upd hp, upd_same⟩, ?_⟩
    rintro k σ H1 ⟨l, rfl, hk, hl, sm, hp1⟩
    have hlen : l.length ≤ n := by
      have h1 := up_len ps n
      rw [← hl, List.length_append] at h1
      have h2 : 0 < (up ps k).length := List.length_pos_of_mem (up_self ps k)
      omega
    have hat : atI (vN (l ++ [k])) (-1) = some (.int (k : Nat)) := by
      rw [vN_append]
      exact atI_last (vN l) _
    rcases Nat.eq_zero_or_pos k with z | z
    · subst z
      refine ⟨_, rfl, _, rfl, _, rfl, p, _, _, _, rfl, rfl, SqL.of hp1, hat, a, vT ps, _, _, rfl, rfl, sm.seq t.sq, vT_at0 ps rfl, _, rfl, iteNS rfl ?_⟩
      rw [up_zero] at hl
      rw [hl] at hp1
      exact ⟨_, rfl, q p H1 ⟨hp, sm, hp1⟩⟩
    · refine ⟨_, rfl, _, rfl, _, rfl, p, _, _, _, rfl, rfl, SqL.of hp1, hat, a, vT ps, _, _, rfl, rfl, sm.seq t.sq, vT_at t.gd rfl z (by omega), _, rfl, iteNP (fun e => nomatch e) ?_⟩
      have hpl := par_lt' ps z
      refine ⟨fun σ' H' => ∃ m', m' < k ∧ ∃ (l : List Nat), σ' = [some (.ref a), some (.int n), some (.ref p)] ∧ m' ≤ n ∧ l ++ up ps m' = up ps n ∧ Same H H' ∧ H' p = some (.lst (vN (l ++ [m']))), fun σ' H' z => z, ?_⟩
      refine ⟨_, rfl, .inl ⟨rfl, _, SqL.of hp1⟩, _, rfl, _, rfl, _, rfl, p, _, _, _, rfl, rfl, SqL.of hp1, hat, a, vT ps, _, _, rfl, rfl, sm.seq t.sq, vT_at t.gd rfl z (by omega), p, _, _, rfl, rfl, hp1, ?_, ?_⟩
      · rw [vN_len, List.length_append]
        exact small1000 (by show l.length + 1 ≤ 1000; omega)
      · refine ⟨par ps k, hpl, l ++ [k], rfl, by omega, ?_, Same.upd sm hp, ?_⟩
        · rw [← hl, up_pos ps z, List.append_assoc]
          rfl
        · rw [upd_same, vN_append (l ++ [k])]
          rfl
end
section
variable {P : Program} {w : World} {K : PySem.W.Frag} {mg : Str → Option Value} {base : Heap} {f : Addr} {fd : FuncData}
theorem scSameTree : FnScope ["_law_handed", "_law_parents", "_law_k"] ["_law_handed", "_law_parents"] (defScope sSameTree) := ⟨rfl, rfl, rfl, by decide +kernel, rfl, by decide +kernel, by decide +kernel⟩
theorem okSameTree {f1 : Addr} {fd1 : FuncData} (B : Blt mg) (F : Fn K mg "_law_same_tree" sSameTree ["_law_handed", "_law_parents"] f fd) (F1 : Fn K mg "_law_whole" sWhole ["_law_found"] f1 fd1) : FnOk P w K mg base CX0 2 f fd ["_law_handed", "_law_parents"] (spSameTree K) := by
  have G1 : FnOk P w K mg base CX0 1 f1 fd1 ["_law_found"] spWhole := okWhole B F1
  refine F.fn.ok scSameTree (fun vs H Q E h => ?_) (fun cdv A outer s H vs Q E hr h => ?_)
  · obtain ⟨a, b, ps, rfl, _⟩ := h
    rfl
  · obtain ⟨a, b, ps, rfl, t, hB, q⟩ := h
    have hle := t.le
    have hlen := vT_len ps
    refine ⟨_, pss_cons (ps_if (pt_cmpR op_ne (pe_callB call_len_seq (by rfl) B.len PySem.boot_len (pa_cons (pv 0) pa_nil)) (pe_callB call_len_seq (by rfl) B.len PySem.boot_len (pa_cons (pv 1) pa_nil)) (nomark _)) (pss_one (ps_ret pe_bl)) pss_nil)
      (pss_cons (ps_for PassesOwn.never rfl (pi_range2 (by rfl) B.rng (pa_cons pe_int (pa_cons (pe_callB call_len_seq (by rfl) B.len PySem.boot_len (pa_cons (pv 1) pa_nil)) pa_nil))) (pg_name (i := 2) scSameTree.nd rfl (Or.inl rfl))
        (pss_one (ps_if (pw_or (pt_not (pt_val (pe_call G1 hr (by rfl) F1.mx F1.fn.kp F1.bd .nil pass0 (pa_cons (pe_ix ix_list (pv 0) (pv 2) (fun _ _ => rfl)) pa_nil))))
          (pw_or1 (pt_cmpR op_ne (pe_ix ix_list (pv 0) (pv 2) (fun _ _ => rfl)) (pe_ix ix_list (pv 1) (pv 2) (fun _ _ => rfl)) (nomark _)))).pt (pss_one (ps_ret pe_bl)) pss_nil)))
      (pss_one (ps_ret (pe_cmp (pc_isN (pe_ix ix_list (pv 0) pe_int (fun _ _ => rfl))))))), ?_⟩
    refine ⟨_, rfl, a, vT ps, rfl, .inl t.sq, _, rfl, b, vT ps, rfl, .inl hB, rfl, _, rfl, iteNS rfl ?_⟩
    refine ⟨_, rfl, b, vT ps, rfl, .inl hB, _, _, rfl, by omega, ?_⟩
    refine for_range (fun i σ H1 => ∃ x, σ = [some (.ref a), some (.ref b), x] ∧ H1 = H) ⟨_, rfl, rfl⟩ ?_ ?_
    · rintro i σ H1 hi ⟨x, rfl, rfl⟩
      have hv : ∀ k : Int, k = ((i + 1 : Nat) : Int) → atI (vT ps) k = some (.int (par ps (i + 1) : Nat)) := fun k e => vT_at t.gd e (by omega) (by omega)
      refine ⟨_, rfl, _, rfl, a, _, _, _, rfl, rfl, t.sq, hv _ (by omega), _, rfl, ?_⟩
      refine ⟨true, rfl, iteF ?_⟩
      refine ⟨_, rfl, _, rfl, a, _, _, _, rfl, rfl, t.sq, hv _ (by omega), _, rfl, _, rfl, b, _, _, _, rfl, rfl, hB, hv _ (by omega), rfl, _, rfl, iteNS rfl ?_⟩
      exact ⟨_, rfl, rfl⟩
    · rintro σ H1 ⟨x, rfl, rfl⟩
      exact ⟨_, rfl, a, _, _, _, rfl, rfl, t.sq, vT_at0 ps rfl, q⟩
end
/-! ## the law's helpers -/
theorem vN_int (ns : List Nat) : AllI (vN ns) := by
  intro x hx
  obtain ⟨n, _, rfl⟩ := List.mem_map.mp hx
  exact ⟨_, rfl⟩
theorem filt_in (ns ms : List Nat) : (vN ns).filter (qIn false (vN ms)) = vN (ns.filter fun c => decide (c ∈ ms)) := by
  induction ns with
  | nil => rfl
  | cons n r ih =>
    have e : qIn false (vN ms) (.int (n : Nat)) = decide (n ∈ ms) := vN_in n ms
    show List.filter _ (V.int (n : Nat) :: vN r) = _
    rw [List.filter_cons, List.filter_cons, e, ih]
    by_cases h : n ∈ ms
    · rw [decide_eq_true h, if_pos rfl, if_pos rfl]; rfl
    · rw [decide_eq_false h, if_neg (by decide), if_neg (by decide)]
theorem filt_out (ns ms : List Nat) : (vN ns).filter (qIn true (vN ms)) = vN (ns.filter fun c => decide (c ∉ ms)) := by
  induction ns with
  | nil => rfl
  | cons n r ih =>
    have e : qIn true (vN ms) (.int (n : Nat)) = decide (n ∉ ms) := by
      show (!inV (.int (n : Nat)) (vN ms)) = _
      rw [vN_in]
      simp
    show List.filter _ (V.int (n : Nat) :: vN r) = _
    rw [List.filter_cons, List.filter_cons, e, ih]
    by_cases h : n ∉ ms
    · rw [decide_eq_true h, if_pos rfl, if_pos rfl]; rfl
    · rw [decide_eq_false h, if_neg (by decide), if_neg (by decide)]
def spMixed (K : PySem.W.Frag) : Sp := fun vs H Q _ => ∃ (a : Addr) (ns : List Int), vs = [.ref a] ∧ SqL K H a (ns.map V.int) ∧ ns.length ≤ 1000 ∧ ∀ (p : Addr) (ms : List Int) (H' : Hp), ms.length = ns.length → NewL H H' p (ms.map V.int) → Q (.ref p) H'
def StepsAt (K : PySem.W.Frag) (H : Hp) (b : Addr) (st : List (Str × Int)) : Prop := ∃ ts : List Addr, SqL K H b (ts.map V.ref) ∧ ts.length = st.length ∧ ∀ (i : Nat) (t : Addr), ts[i]? = some t → ∃ n z, st[i]? = some (n, z) ∧ H t = some (.tup [.str n, .int z])
theorem StepsAt.same {K : PySem.W.Frag} {H H' : Hp} {b : Addr} {st : List (Str × Int)} (x : StepsAt K H b st) (s : Same H H') : StepsAt K H' b st := by
  obtain ⟨ts, h1, h2, h3⟩ := x
  refine ⟨ts, s.seq h1, h2, fun i t e => ?_⟩
  obtain ⟨n, z, h4, h5⟩ := h3 i t e
  exact ⟨n, z, h4, s _ _ h5⟩
def spHad (K : PySem.W.Frag) : Sp := fun vs H Q _ => ∃ (a b : Addr) (ps : List Nat) (st : List (Str × Int)) (m : Nat) (n : Str), vs = [.ref a, .ref b, .int m, .str n] ∧ TreeAt K H a ps ∧ StepsAt K H b st ∧ st.length = ps.length + 1 ∧ m ≤ ps.length ∧ ∀ H', Same H H' → Q (.int (amt ps st n m)) H'
def spWent (K : PySem.W.Frag) : Sp := fun vs H Q _ => ∃ (q l r a : Addr) (ps : List Nat) (m n : Nat), vs = [.ref q, .ref a, .int m, .int n] ∧ H q = some (.tup [.ref l, .ref r]) ∧ H l = some (.lst (vN (bel ps (meet ps m n) m))) ∧ H r = some (.lst (vN (bel ps (meet ps m n) n).reverse)) ∧
  TreeAt K H a ps ∧ m ≤ ps.length ∧ n ≤ ps.length ∧ ∀ H', Same H H' → Q (.bl true) H'
def spMet (K : PySem.W.Frag) : Sp := fun vs H Q _ => ∃ (a : Addr) (ps : List Nat) (m n : Nat), vs = [.int ((meet ps m n : Nat) : Int), .ref a, .int m, .int n] ∧ TreeAt K H a ps ∧ m ≤ ps.length ∧ n ≤ ps.length ∧ ∀ H', Same H H' → Q (.bl true) H'
section
variable {P : Program} {w : World} {K : PySem.W.Frag} {mg : Str → Option Value} {base : Heap} {f : Addr} {fd : FuncData}
theorem scMixed : FnScope ["_law_script"] ["_law_script"] (defScope sMixed) := ⟨rfl, rfl, rfl, by decide +kernel, rfl, by decide +kernel, by decide +kernel⟩
theorem okMixed (B : Blt mg) (F : Fn K mg "_law_mixed" sMixed ["_law_script"] f fd) : FnOk P w K mg base CX0 1 f fd ["_law_script"] (spMixed K) := by
  refine F.fn.ok scMixed (fun vs H Q E h => ?_) (fun cdv A outer s H vs Q E hr h => ?_)
  · obtain ⟨a, ns, rfl, _⟩ := h
    rfl
  · obtain ⟨a, ns, rfl, hS, hlen, q⟩ := h
    refine ⟨_, pss_one (ps_ret (pe_mixed (j := 0) rfl ⟨rfl, rfl, by decide +kernel, by decide +kernel, by decide +kernel⟩ rfl rfl (by rfl) B.rng (by rfl) B.len (pv 0) (by rfl) rfl (pe_callB call_len_seq (by rfl) B.len PySem.boot_len (pa_cons (pv 0) pa_nil)))), ?_⟩
    exact ⟨a, ns, rfl, hS, hlen, fun p ms hm hp => q p ms _ hm ⟨hp, same_upd hp, upd_same⟩⟩
theorem scHad : FnScope ["_law_parents", "_law_steps", "_law_state", "_law_name", "_law_total", "_law_one"] ["_law_parents", "_law_steps", "_law_state", "_law_name"] (defScope sHad) := ⟨rfl, rfl, rfl, by decide +kernel, rfl, by decide +kernel, by decide +kernel⟩
theorem okHad {f1 : Addr} {fd1 : FuncData} (F : Fn K mg "_law_had" sHad ["_law_parents", "_law_steps", "_law_state", "_law_name"] f fd) (F1 : Fn K mg "_law_up" sUp ["_law_parents", "_law_state"] f1 fd1) : FnOk P w K mg base CX0 2 f fd ["_law_parents", "_law_steps", "_law_state", "_law_name"] (spHad K) := by
  have G1 : FnOk P w K mg base CX0 1 f1 fd1 ["_law_parents", "_law_state"] (spUp K) := okUp F1
  refine F.fn.ok scHad (fun vs H Q E h => ?_) (fun cdv A outer s H vs Q E hr h => ?_)
  · obtain ⟨a, b, ps, st, m, n, rfl, _⟩ := h
    rfl
  · obtain ⟨a, b, ps, st, m, n, rfl, t, S, hst, hm, q⟩ := h
    refine ⟨_, pss_cons (ps_set (i := 4) scHad.nd rfl (Or.inl rfl) pe_int)
      (pss_cons (ps_for PassesOwn.never rfl (pi_list (pe_call G1 hr (by rfl) F1.mx F1.fn.kp F1.bd .nil pass0 (pa_cons (pv 0) (pa_cons (pv 2) pa_nil)))) (pg_name (i := 5) scHad.nd rfl (Or.inl rfl))
        (pss_one (ps_if (pt_cmpR op_eq (pe_ix ix_tup (pe_ix ix_list (pv 1) (pv 5) (fun _ _ => rfl)) pe_int (fun _ _ => rfl)) (pv 3) (nomark _))
          (pss_one (ps_set (i := 4) scHad.nd rfl (Or.inl rfl) (pe_op op_add (pv 4) (pe_ix ix_tup (pe_ix ix_list (pv 1) (pv 5) (fun _ _ => rfl)) pe_int (fun _ _ => rfl)))))
          pss_nil)))
      (pss_one (ps_ret (pv 4)))), ?_⟩
    refine ⟨_, rfl, _, rfl, a, ps, m, rfl, t, hm, fun p H1 ⟨hp, s1, h1⟩ => ?_⟩
    refine ⟨p, rfl, ⟨_, SqL.of h1⟩, for_list (K := K) (a := p) (xs := vN (up ps m)) (fun i σ H2 => ∃ x, σ = [some (.ref a), some (.ref b), some (.int m), some (.str n), some (.int ((((up ps m).take i).map (gain st n)).sum)), x] ∧ H2 = H1)
      ⟨_, rfl, rfl⟩ (fun i σ H2 _ ⟨_, _, e⟩ => by rw [e]; exact SqL.of h1) ?_ ?_⟩
    · rintro i x σ H2 hi ⟨x', rfl, rfl⟩
      obtain ⟨c, hc, rfl⟩ := vN_get' hi
      have hcm := up_le ps m c (List.mem_of_getElem? hc)
      obtain ⟨ts, g1, g2, g3⟩ := S.same s1
      obtain ⟨tt, ht⟩ : ∃ tt, ts[c]? = some tt := ⟨_, List.getElem?_eq_getElem (by omega)⟩
      obtain ⟨n', z, e1, e2⟩ := g3 c tt ht
      have eg : gain st n c = if n' = n then z else 0 := by
        unfold gain
        rw [e1]
      have es : (((up ps m).take (i + 1)).map (gain st n)).sum = (((up ps m).take i).map (gain st n)).sum + gain st n c := by
        rw [List.take_add_one, hc, List.map_append, List.sum_append]
        simp
      refine ⟨_, rfl, _, rfl, b, _, _, _, rfl, rfl, g1, at_nat (i := c) rfl (by rw [List.getElem?_map, ht]; rfl), tt, _, _, _, rfl, rfl, SqT.of e2, at_nat (i := 0) rfl rfl, _, rfl, rfl, _, rfl, iteD (fun e => ?_) (fun e => ?_)⟩
      · have en : n' = n := V.str.inj e
        refine ⟨_, rfl, _, rfl, _, rfl, b, _, _, _, rfl, rfl, g1, at_nat (i := c) rfl (by rw [List.getElem?_map, ht]; rfl), tt, _, _, _, rfl, rfl, SqT.of e2, at_nat (i := 1) rfl rfl, _, _, rfl, rfl, some (.int (c : Nat)), ?_, rfl⟩
        rw [es, eg, if_pos en]
        rfl
      · have en : ¬ n' = n := fun z => e (by rw [z])
        refine ⟨some (.int (c : Nat)), ?_, rfl⟩
        rw [es, eg, if_neg en, Int.add_zero]
        rfl
    · rintro σ H2 ⟨x, rfl, rfl⟩
      refine ⟨_, rfl, ?_⟩
      rw [vN_len, List.take_of_length_le (Nat.le_refl _)]
      exact q _ s1
end
/-! ## the deeds that the law draws -/
theorem mod_at {xs : List V} {n : Int} (hn : (xs.length : Int) = n) (h0 : 0 < n) (z : Int) : ∃ v, atI xs (z % n) = some v ∧ v ∈ xs := by
  have h1 := Int.emod_nonneg z (show n ≠ 0 by omega)
  have h2 := Int.emod_lt_of_pos z h0
  have h3 : (z % n).toNat < xs.length := by omega
  exact ⟨xs[(z % n).toNat], at_nat (i := (z % n).toNat) (by omega) (List.getElem?_eq_getElem h3), List.getElem_mem h3⟩
theorem mod_ix2 (z : Int) : ∃ j, ixN 2 (z % 2) = some j ∧ j < 2 := by
  rcases (show z % 2 = 0 ∨ z % 2 = 1 by omega) with e | e
  · exact ⟨0, by rw [e]; rfl, by decide⟩
  · exact ⟨1, by rw [e]; rfl, by decide⟩
def DJ (H : Hp) (p : Addr) (i : Nat) (H' : Hp) : Prop := Same H H' ∧ ∃ xs ds, H' p = some (.lst xs) ∧ DeedsAt H' xs ds ∧ xs.length = i
theorem DeedsAt.same {H H' : Hp} {xs : List V} {ds : List (Deed Str)} (d : DeedsAt H xs ds) (s : ∀ t ys, H t = some (.tup ys) → H' t = some (.tup ys)) : DeedsAt H' xs ds := by
  refine ⟨d.1, fun i x e h1 h2 => ?_⟩
  obtain ⟨t, h3, h4⟩ := d.2 i x e h1 h2
  exact ⟨t, h3, s _ _ h4⟩
theorem DJ.new {H H' : Hp} {p q : Addr} {i : Nat} {o : HO} (j : DJ H p i H') (hq : H' q = none) : DJ H p i (upd H' q o) := by
  obtain ⟨s, xs, ds, h1, h2, h3⟩ := j
  refine ⟨Same.upd s (s.free hq), xs, ds, by rw [upd_ne (ne_of_none h1 hq)]; exact h1, h2.same fun t ys e => ?_, h3⟩
  rw [upd_ne (ne_of_none e hq)]
  exact e
theorem DJ.put {H H' : Hp} {p q : Addr} {i : Nat} {ys zs : List V} (j : DJ H p i H') (hq : H q = none) (hqp : q ≠ p) (hy : H' q = some (.lst ys)) : DJ H p i (upd H' q (.lst zs)) := by
  obtain ⟨s, xs, ds, h1, h2, h3⟩ := j
  refine ⟨Same.upd s hq, xs, ds, by rw [upd_ne hqp.symm]; exact h1, h2.same fun t ys' e => ?_, h3⟩
  rw [upd_ne (ne_of e hy (by intro z; cases z))]
  exact e
theorem DJ.app {H H' : Hp} {p t : Addr} {i : Nat} {d : Deed Str} {xs : List V} (hp : H p = none) (j : DJ H p i H') (ht : H' t = some (.tup (deedV d))) (hx : H' p = some (.lst xs)) : DJ H p (i + 1) (upd H' p (.lst (xs ++ [.ref t]))) := by
  obtain ⟨s, xs', ds, h1, h2, h3⟩ := j
  have e0 : xs = xs' := HO.lst.inj (Option.some.inj (hx.symm.trans h1))
  subst e0
  have h2' : DeedsAt (upd H' p (.lst (xs ++ [.ref t]))) xs ds := h2.same fun u ys e => by
    rw [upd_ne (ne_of e h1 (by intro z; cases z))]
    exact e
  refine ⟨Same.upd s hp, xs ++ [.ref t], ds ++ [d], upd_same, ⟨by rw [List.length_append, List.length_append, h2.1]; rfl, fun k x e g1 g2 => ?_⟩, by rw [List.length_append, h3]; rfl⟩
  by_cases hk : k < xs.length
  · rw [List.getElem?_append_left hk] at g1
    rw [List.getElem?_append_left (by rw [← h2.1]; exact hk)] at g2
    exact h2'.2 k x e g1 g2
  · have hk' : k = xs.length := by
      have := (List.getElem?_eq_some_iff.mp g1).1
      rw [List.length_append] at this
      simp at this
      omega
    subst hk'
    rw [List.getElem?_append_right (Nat.le_refl _), Nat.sub_self] at g1
    rw [h2.1, List.getElem?_append_right (Nat.le_refl _), Nat.sub_self] at g2
    cases g1
    cases g2
    exact ⟨t, rfl, by rw [upd_ne (ne_of ht h1 (by intro z; cases z))]; exact ht⟩
theorem DJ.at {H H' : Hp} {p : Addr} {i : Nat} (j : DJ H p i H') : ∃ xs, H' p = some (.lst xs) ∧ xs.length = i := by
  obtain ⟨s, xs, ds, h1, h2, h3⟩ := j
  exact ⟨xs, h1, h3⟩
def spDeeds (K : PySem.W.Frag) : Sp := fun vs H Q _ => ∃ (a : Addr) (ns : List Int), vs = [.ref a] ∧ SqL K H a (ns.map V.int) ∧ ns.length ≤ 500 ∧ ∀ (p : Addr) (xs : List V) (ds : List (Deed Str)) (H' : Hp), ds.length = ns.length → DeedsAt H' xs ds → NewL H H' p xs → Q (.ref p) H'
section
variable {P : Program} {w : World} {K : PySem.W.Frag} {mg : Str → Option Value} {base : Heap} {f : Addr} {fd : FuncData}
theorem scDeeds : FnScope ["_law_cells", "_law_made", "_law_count", "_law_k", "_law_turn", "_law_seed", "_law_spot", "_law_far", "_law_name", "_law_amount", "_law_state", "_law_pair", "_law_menu", "_law_odd"] ["_law_cells"] (defScope sDeeds) := ⟨rfl, rfl, rfl, by decide +kernel, rfl, by decide +kernel, by decide +kernel⟩
theorem okDeeds (B : Blt mg) (F : Fn K mg "_law_deeds" sDeeds ["_law_cells"] f fd) : FnOk P w K mg base CX0 1 f fd ["_law_cells"] (spDeeds K) := by
  refine F.fn.ok scDeeds (fun vs H Q E h => ?_) (fun cdv A outer s H vs Q E hr h => ?_)
  · obtain ⟨a, ns, rfl, _⟩ := h
    rfl
  · obtain ⟨a, ns, rfl, hS, hlen, q⟩ := h
    refine ⟨_, (pss_cons (ps_set (i := 1) scDeeds.nd rfl (Or.inl rfl) (pe_lst pa_nil)) (pss_cons (ps_set (i := 2) scDeeds.nd rfl (Or.inl rfl) pe_int) (pss_cons (ps_for PassesOwn.never rfl (pi_range1 (by rfl) B.rng (pa_cons (pe_callB call_len_seq (by rfl) B.len PySem.boot_len (pa_cons (pv 0) pa_nil)) pa_nil)) (pg_name (i := 3) scDeeds.nd rfl (Or.inl rfl)) (pss_cons (ps_set (i := 4) scDeeds.nd rfl (Or.inl rfl) (pe_op op_mod (pe_op op_add (pe_ix ix_list (pv 0) (pv 3) (fun _ _ => rfl)) (pe_op op_mul pe_int (pv 3))) pe_int)) (pss_cons (ps_set (i := 5) scDeeds.nd rfl (Or.inl rfl) (pe_op op_add (pe_op op_fdiv (pe_ix ix_list (pv 0) (pv 3) (fun _ _ => rfl)) pe_int) (pv 3))) (pss_cons (ps_set (i := 6) scDeeds.nd rfl (Or.inl rfl) (pe_op op_mod (pe_op op_fdiv (pv 5) pe_int) pe_int)) (pss_cons (ps_set (i := 7) scDeeds.nd rfl (Or.inl rfl) pe_str) (pss_cons (ps_set (i := 7) scDeeds.nd rfl (Or.inl rfl) (pe_op op_add_str (pe_op op_add_str (pe_slice sl_str (pv 7) po_none (po_some (pv 6))) (pe_ix ix_list (pe_lst (pa_cons pe_str (pa_cons pe_str pa_nil))) (pe_op op_mod (pe_op op_fdiv (pv 5) pe_int) pe_int) (fun _ _ => rfl))) (pe_slice sl_str (pv 7) (po_some (pe_op op_add (pv 6) pe_int)) po_none))) (pss_cons (ps_set (i := 8) scDeeds.nd rfl (Or.inl rfl) (pe_ix ix_list (pe_lst (pa_cons pe_str (pa_cons pe_str (pa_cons pe_str (pa_cons (pv 7) pa_nil))))) (pe_op op_mod (pe_op op_mod (pv 5) pe_int) pe_int) (fun _ _ => rfl))) (pss_one (ps_if (pt_cmpR op_lt (pv 4) pe_int (nomark _)) (pss_cons (ps_set (i := 9) scDeeds.nd rfl (Or.inl rfl) (pe_op op_sub (pe_op op_mod (pe_op op_fdiv (pv 5) pe_int) pe_int) pe_int)) (pss_cons (ps_if (pt_cmpR op_eq (pv 9) pe_int (nomark _)) (pss_one (ps_set (i := 9) scDeeds.nd rfl (Or.inl rfl) (pe_op op_mul (pe_op op_sub (pe_op op_mod (pe_op op_fdiv (pv 5) pe_int) pe_int) pe_int) pe_int))) pss_nil) (pss_cons (ps_expr (pe_bm PySem.F.plainAttrs_list PySem.F.slot_list_append PySem.F.type_list_append mt_append (pv 1) (pa_cons (pe_tup (pa_cons pe_str (pa_cons (pv 8) (pa_cons (pv 9) pa_nil)))) pa_nil))) (pss_one (ps_set (i := 2) scDeeds.nd rfl (Or.inl rfl) (pe_op op_add (pv 2) pe_int)))))) (pss_one (ps_if (pt_cmpR op_lt (pv 4) pe_int (nomark _)) (pss_cons (ps_set (i := 10) scDeeds.nd rfl (Or.inl rfl) (pe_op op_sub (pe_op op_mod (pe_op op_mul (pv 5) pe_int) (pe_op op_add (pv 2) pe_int)) pe_int)) (pss_cons (ps_if (pt_cmpR op_eq (pe_op op_mod (pv 5) pe_int) pe_int (nomark _)) (pss_one (ps_set (i := 10) scDeeds.nd rfl (Or.inl rfl) (pe_ix ix_list (pe_lst (pa_cons (pe_op op_pow pe_int pe_int) (pa_cons (pe_op op_sub (pe_un un_neg pe_int) (pe_op op_mod (pe_op op_fdiv (pv 5) pe_int) (pe_op op_add (pv 2) pe_int))) (pa_cons (pe_op op_add (pv 2) pe_int) pa_nil)))) (pe_op op_mod (pe_op op_fdiv (pv 5) pe_int) pe_int) (fun _ _ => rfl)))) pss_nil) (pss_one (ps_expr (pe_bm PySem.F.plainAttrs_list PySem.F.slot_list_append PySem.F.type_list_append mt_append (pv 1) (pa_cons (pe_tup (pa_cons pe_str (pa_cons (pv 10) pa_nil))) pa_nil)))))) (pss_one (ps_if (pt_cmpR op_eq (pv 4) pe_int (nomark _)) (pss_one (ps_expr (pe_bm PySem.F.plainAttrs_list PySem.F.slot_list_append PySem.F.type_list_append mt_append (pv 1) (pa_cons (pe_tup (pa_cons pe_str (pa_cons (pe_ix ix_list (pe_lst (pa_cons (pv 8) (pa_cons (pe_op op_add_str (pv 8) pe_str) pa_nil))) (pe_op op_mod (pe_op op_fdiv (pv 5) pe_int) pe_int) (fun _ _ => rfl)) pa_nil))) pa_nil)))) (pss_cons (ps_set (i := 11) scDeeds.nd rfl (Or.inl rfl) (pe_lst (pa_cons (pe_op op_mod (pv 5) (pv 2)) (pa_cons (pe_op op_mod (pe_ix ix_list (pv 0) (pe_op op_mod (pe_op op_add (pv 3) pe_int) (pe_callB call_len_seq (by rfl) B.len PySem.boot_len (pa_cons (pv 0) pa_nil))) (fun _ _ => rfl)) (pv 2)) pa_nil)))) (pss_cons (ps_set (i := 12) scDeeds.nd rfl (Or.inl rfl) (pe_lst (pa_cons (pe_un un_neg pe_int) (pa_cons (pv 2) (pa_cons (pe_op op_sub (pe_un un_neg pe_int) (pe_op op_mod (pv 5) (pe_op op_add (pv 2) pe_int))) (pa_cons (pe_op op_add (pv 2) pe_int) (pa_cons (pe_op op_pow pe_int pe_int) pa_nil))))))) (pss_cons (ps_set (i := 13) scDeeds.nd rfl (Or.inl rfl) (pe_ix ix_list (pv 12) (pe_op op_mod (pe_op op_fdiv (pv 5) pe_int) pe_int) (fun _ _ => rfl))) (pss_cons (ps_if (pt_cmpR op_eq (pe_op op_mod (pv 5) pe_int) pe_int (nomark _)) (pss_one (ps_asg (pv 13) (pg_sub (pv 11) (pe_op op_mod (pe_op op_fdiv (pv 5) pe_int) pe_int) set_list))) pss_nil) (pss_cons (ps_if (pt_cmpR op_eq (pe_op op_mod (pv 5) pe_int) pe_int (nomark _)) (pss_one (ps_set (i := 11) scDeeds.nd rfl (Or.inl rfl) (pe_lst (pa_cons (pv 13) (pa_cons (pv 13) pa_nil))))) pss_nil) (pss_one (ps_expr (pe_bm PySem.F.plainAttrs_list PySem.F.slot_list_append PySem.F.type_list_append mt_append (pv 1) (pa_cons (pe_tup (pa_cons pe_str (pa_cons (pe_ix ix_list (pv 11) pe_int (fun _ _ => rfl)) (pa_cons (pe_ix ix_list (pv 11) pe_int (fun _ _ => rfl)) pa_nil)))) pa_nil)))))))))))))))))))))) (pss_one (ps_ret (pv 1)))))), ?_⟩
    refine ⟨(by show 0 ≤ sizeLine; decide), fun p hp => ?_⟩
    have s0 : Same H (upd H p (.lst [])) := same_upd hp
    have hml := List.length_map (as := ns) V.int
    refine ⟨_, rfl, a, _, rfl, .inl (s0.seq hS), _, rfl, by omega, by omega, ?_⟩
    refine for_range (fun i σ H1 => ∃ (c : Int) (x3 x4 x5 x6 x7 x8 x9 x10 x11 x12 x13 : Option V), σ = [some (.ref a), some (.ref p), some (.int c), x3, x4, x5, x6, x7, x8, x9, x10, x11, x12, x13] ∧ 0 < c ∧ DJ H p i H1)
      ⟨1, _, _, _, _, _, _, _, _, _, _, _, rfl, by decide, s0, [], [], upd_same, ⟨rfl, fun i x d e _ => (by cases e)⟩, rfl⟩ ?_ ?_
    · rintro i σ H1 hi ⟨c, x3, x4, x5, x6, x7, x8, x9, x10, x11, x12, x13, rfl, hc, J1⟩
      have hi' : i < ns.length := by omega
      obtain ⟨z, hz⟩ := map_get' (ns := ns) (i := i) hi'
      have hz' : ∀ k : Int, k = (i : Int) → atI (ns.map V.int) k = some (.int z) := fun k e => at_nat e hz
      have sq : ∀ {H' : Hp}, DJ H p i H' → SqL K H' a (ns.map V.int) := fun j => j.1.seq hS
      -- turn, seed, spot
      refine ⟨_, rfl, _, rfl, a, _, _, _, rfl, rfl, sq J1, hz' _ (by omega), _, rfl, _, _, rfl, rfl, .inl ⟨by decide, by decide⟩, _, _, rfl, rfl, _, _, rfl, rfl, (by show (0 : Int) < 8; decide), ?_⟩
      refine ⟨_, rfl, _, rfl, a, _, _, _, rfl, rfl, sq J1, hz' _ (by omega), _, _, rfl, rfl, ⟨by decide, by decide⟩, _, rfl, _, _, rfl, rfl, ?_⟩
      obtain ⟨turn, hturn⟩ : ∃ turn : Int, (z + 3 * (0 + (i : Int))) % 8 = turn := ⟨_, rfl⟩
      obtain ⟨seed, hseed⟩ : ∃ seed : Int, z / 8 + (0 + (i : Int)) = seed := ⟨_, rfl⟩
      rw [show (fun (i j : Int) => V.int (i % j)) (z + 3 * (0 + (i : Int))) 8 = V.int turn from congrArg V.int hturn, show (fun (i j : Int) => V.int (i + j)) (z / 8) (0 + (i : Int)) = V.int seed from congrArg V.int hseed]
      refine ⟨_, rfl, _, _, rfl, rfl, ⟨by decide, by decide⟩, _, _, rfl, rfl, (by show (0 : Int) < 18; decide), ?_⟩
      -- the far name
      refine ⟨_, rfl, _, rfl, _, rfl, _, rfl, (by show (18 : Nat) ≤ sizeLine; decide), fun z1 l1 => ?_⟩
      refine ⟨(by show 2 ≤ sizeLine; decide), fun p2 hp2 => ?_⟩
      obtain ⟨v2, hv2, hm2⟩ := mod_at (xs := [V.str "x", V.str "y"]) (n := 2) rfl (by decide) (seed / 90)
      obtain ⟨z2, rfl, l2⟩ : ∃ z2 : Str, v2 = .str z2 ∧ z2.length ≤ 1 := by
        simp only [List.mem_cons, List.not_mem_nil, or_false] at hm2
        rcases hm2 with e | e
        · exact ⟨_, e, by decide⟩
        · exact ⟨_, e, by decide⟩
      have J2 := J1.new (o := .lst [V.str "x", V.str "y"]) hp2
      have l1' : z1.length ≤ 18 := l1
      have big : 1000 ≤ sizeLine := by decide
      refine ⟨_, rfl, _, _, rfl, rfl, ⟨by decide, by decide⟩, _, _, rfl, rfl, (by show (0 : Int) < 2; decide), p2, _, _, _, rfl, rfl, SqL.of upd_same, hv2, _, _, rfl, rfl, by omega, ?_⟩
      refine ⟨_, rfl, _, rfl, _, _, rfl, rfl, _, rfl, _, rfl, (by show (18 : Nat) ≤ sizeLine; decide), fun z3 l3 => ?_⟩
      have l3' : z3.length ≤ 18 := l3
      have l12 : (z1 ++ z2).length = z1.length + z2.length := by
        show (z1.cps ++ z2.cps).size = _
        exact Array.size_append
      refine ⟨_, _, rfl, rfl, by omega, ?_⟩
      have l123 : (z1 ++ z2 ++ z3).length ≤ 37 := by
        have : (z1 ++ z2 ++ z3).length = (z1 ++ z2).length + z3.length := by
          show ((z1 ++ z2).cps ++ z3.cps).size = _
          exact Array.size_append
        omega
      generalize z1 ++ z2 ++ z3 = far at l123
      -- the name
      refine ⟨_, rfl, (by show 4 ≤ sizeLine; decide), fun p3 hp3 => ?_⟩
      obtain ⟨v4, hv4, hm4⟩ := mod_at (xs := [V.str "a", V.str "", V.str "bell", V.str far]) (n := 4) rfl (by decide) (seed % 5)
      obtain ⟨nm, rfl, lnm⟩ : ∃ nm : Str, v4 = .str nm ∧ nm.length ≤ 37 := by
        simp only [List.mem_cons, List.not_mem_nil, or_false] at hm4
        rcases hm4 with e | e | e | e
        · exact ⟨_, e, by decide⟩
        · exact ⟨_, e, by decide⟩
        · exact ⟨_, e, by decide⟩
        · exact ⟨_, e, l123⟩
      have J3 := J2.new (o := .lst [V.str "a", V.str "", V.str "bell", V.str far]) hp3
      refine ⟨_, rfl, _, _, rfl, rfl, (by show (0 : Int) < 5; decide), _, _, rfl, rfl, (by show (0 : Int) < 4; decide), p3, _, _, _, rfl, rfl, SqL.of upd_same, hv4, ?_⟩
      generalize upd (upd H1 p2 (.lst [V.str "x", V.str "y"])) p3 (.lst [V.str "a", V.str "", V.str "bell", V.str far]) = H3 at J3
      obtain ⟨xs, hx, hxl⟩ := J3.at
      refine ⟨_, rfl, _, _, rfl, rfl, _, rfl, iteD (fun _ => ?_) (fun _ => ?_)⟩
      · -- a step
        refine ⟨_, rfl, _, _, rfl, rfl, ⟨by decide, by decide⟩, _, _, rfl, rfl, (by show (0 : Int) < 9; decide), _, _, rfl, rfl, ?_⟩
        refine ⟨_, rfl, rfl, _, rfl, iteD (fun _ => ?_) (fun _ => ?_)⟩
        · refine ⟨_, rfl, _, _, rfl, rfl, ⟨by decide, by decide⟩, _, _, rfl, rfl, (by show (0 : Int) < 2000; decide), _, _, rfl, rfl, _, _, rfl, rfl, .inl ⟨by omega, by omega⟩, ?_⟩
          refine ⟨_, rfl, .inl ⟨rfl, _, SqL.of hx⟩, _, rfl, _, rfl, (by show 3 ≤ sizeLine; decide), fun t ht => ?_⟩
          have hx' := (J3.new (o := .tup (deedV (.step nm ((seed / 27 % 2000 - 1000) * 1000000000000000000000000000)))) ht)
          refine ⟨p, xs, _, rfl, rfl, (by rw [upd_ne (ne_of_none hx ht)]; exact hx), small1000 (by omega), ?_⟩
          refine ⟨_, rfl, _, _, rfl, rfl, ?_⟩
          exact ⟨c + 1, _, _, _, _, _, _, _, _, _, _, _, rfl, by omega, hx'.app (d := .step nm ((seed / 27 % 2000 - 1000) * 1000000000000000000000000000)) hp upd_same (by rw [upd_ne (ne_of_none hx ht)]; exact hx)⟩
        · refine ⟨_, rfl, .inl ⟨rfl, _, SqL.of hx⟩, _, rfl, _, rfl, (by show 3 ≤ sizeLine; decide), fun t ht => ?_⟩
          have hx' := (J3.new (o := .tup (deedV (.step nm (seed / 3 % 9 - 4)))) ht)
          refine ⟨p, xs, _, rfl, rfl, (by rw [upd_ne (ne_of_none hx ht)]; exact hx), small1000 (by omega), ?_⟩
          refine ⟨_, rfl, _, _, rfl, rfl, ?_⟩
          exact ⟨c + 1, _, _, _, _, _, _, _, _, _, _, _, rfl, by omega, hx'.app (d := .step nm (seed / 3 % 9 - 4)) hp upd_same (by rw [upd_ne (ne_of_none hx ht)]; exact hx)⟩
      refine ⟨_, rfl, _, _, rfl, rfl, _, rfl, iteD (fun _ => ?_) (fun _ => ?_)⟩
      · -- a going
        refine ⟨_, rfl, _, _, rfl, rfl, .inr ⟨by decide, by decide⟩, _, rfl, _, _, rfl, rfl, _, _, rfl, rfl, (by show (0 : Int) < c + 2; omega), _, _, rfl, rfl, ?_⟩
        refine ⟨_, rfl, _, _, rfl, rfl, (by show (0 : Int) < 19; decide), rfl, _, rfl, iteD (fun _ => ?_) (fun _ => ?_)⟩
        · refine ⟨_, _, rfl, rfl, ⟨by decide, by decide, by decide⟩, _, rfl, _, rfl, _, _, rfl, rfl, ⟨by decide, by decide⟩, _, rfl, _, _, rfl, rfl, _, _, rfl, rfl, (by show (0 : Int) < c + 2; omega), _, _, rfl, rfl, _, rfl, _, _, rfl, rfl, (by show 3 ≤ sizeLine; decide), fun p4 hp4 => ?_⟩
          obtain ⟨v5, hv5, hm5⟩ := mod_at (xs := [V.int (10 ^ (30 : Int).toNat), V.int (-2 - seed / 57 % (c + 2)), V.int (c + 1)]) (n := 3) rfl (by decide) (seed / 19)
          obtain ⟨st, rfl⟩ : ∃ st : Int, v5 = .int st := by
            simp only [List.mem_cons, List.not_mem_nil, or_false] at hm5
            rcases hm5 with e | e | e
            · exact ⟨_, e⟩
            · exact ⟨_, e⟩
            · exact ⟨_, e⟩
          have J4 := J3.new (o := .lst [V.int (10 ^ (30 : Int).toNat), V.int (-2 - seed / 57 % (c + 2)), V.int (c + 1)]) hp4
          refine ⟨_, rfl, _, _, rfl, rfl, ⟨by decide, by decide⟩, _, _, rfl, rfl, (by show (0 : Int) < 3; decide), p4, _, _, _, rfl, rfl, SqL.of upd_same, hv5, ?_⟩
          obtain ⟨ys, hy, hyl⟩ := J4.at
          refine ⟨_, rfl, .inl ⟨rfl, _, SqL.of hy⟩, _, rfl, (by show 2 ≤ sizeLine; decide), fun t ht => ?_⟩
          have J5 := J4.new (o := .tup (deedV (.go st))) ht
          refine ⟨p, ys, _, rfl, rfl, (by rw [upd_ne (ne_of_none hy ht)]; exact hy), small1000 (by omega), ?_⟩
          exact ⟨c, _, _, _, _, _, _, _, _, _, _, _, rfl, hc, J5.app (d := .go st) hp upd_same (by rw [upd_ne (ne_of_none hy ht)]; exact hy)⟩
        · refine ⟨_, rfl, .inl ⟨rfl, _, SqL.of hx⟩, _, rfl, (by show 2 ≤ sizeLine; decide), fun t ht => ?_⟩
          have J5 := J3.new (o := .tup (deedV (.go (seed * 5 % (c + 2) - 1)))) ht
          refine ⟨p, xs, _, rfl, rfl, (by rw [upd_ne (ne_of_none hx ht)]; exact hx), small1000 (by omega), ?_⟩
          exact ⟨c, _, _, _, _, _, _, _, _, _, _, _, rfl, hc, J5.app (d := .go (seed * 5 % (c + 2) - 1)) hp upd_same (by rw [upd_ne (ne_of_none hx ht)]; exact hx)⟩
      refine ⟨_, rfl, rfl, _, rfl, iteD (fun _ => ?_) (fun _ => ?_)⟩
      · -- a value asked
        have lx : (nm ++ ("x" : Str)).length = nm.length + 1 := by
          show (nm.cps ++ ("x" : Str).cps).size = _
          exact Array.size_append
        refine ⟨_, rfl, .inl ⟨rfl, _, SqL.of hx⟩, _, rfl, _, rfl, _, _, rfl, rfl, (by show nm.length + 1 ≤ sizeLine; omega), (by show 2 ≤ sizeLine; decide), fun p4 hp4 => ?_⟩
        obtain ⟨v5, hv5, hm5⟩ := mod_at (xs := [V.str nm, V.str (nm ++ ("x" : Str))]) (n := 2) rfl (by decide) (seed / 3)
        obtain ⟨nn, rfl⟩ : ∃ nn : Str, v5 = .str nn := by
          simp only [List.mem_cons, List.not_mem_nil, or_false] at hm5
          rcases hm5 with e | e
          · exact ⟨_, e⟩
          · exact ⟨_, e⟩
        have J4 := J3.new (o := .lst [V.str nm, V.str (nm ++ ("x" : Str))]) hp4
        refine ⟨_, rfl, _, _, rfl, rfl, ⟨by decide, by decide⟩, _, _, rfl, rfl, (by show (0 : Int) < 2; decide), p4, _, _, _, rfl, rfl, SqL.of upd_same, hv5, (by show 2 ≤ sizeLine; decide), fun t ht => ?_⟩
        obtain ⟨ys, hy, hyl⟩ := J4.at
        have J5 := J4.new (o := .tup (deedV (.val nn))) ht
        refine ⟨p, ys, _, rfl, rfl, (by rw [upd_ne (ne_of_none hy ht)]; exact hy), small1000 (by omega), ?_⟩
        exact ⟨c, _, _, _, _, _, _, _, _, _, _, _, rfl, hc, J5.app (d := .val nn) hp upd_same (by rw [upd_ne (ne_of_none hy ht)]; exact hy)⟩
      · -- a common elder
        obtain ⟨v5, hv5, hm5⟩ := mod_at (xs := ns.map V.int) (n := ((ns.map V.int).length : Nat)) rfl (by omega) ((0 + (i : Int)) + 1)
        obtain ⟨z5, rfl⟩ : ∃ z5 : Int, v5 = .int z5 := by
          obtain ⟨z5, _, e⟩ := List.mem_map.mp hm5
          exact ⟨z5, e.symm⟩
        refine ⟨_, rfl, _, rfl, _, _, rfl, rfl, hc, _, rfl, _, rfl, _, _, rfl, rfl, _, rfl, a, _, rfl, .inl (sq J3), _, _, rfl, rfl, (by show (0 : Int) < ((ns.map V.int).length : Nat); omega), a, _, _, _, rfl, rfl, sq J3, hv5, _, rfl, _, _, rfl, rfl, hc, (by show 2 ≤ sizeLine; decide), fun p4 hp4 => ?_⟩
        have J4 := J3.new (o := .lst [V.int (seed % c), V.int (z5 % c)]) hp4
        have hp40 : H p4 = none := J3.1.free hp4
        have np4 : p4 ≠ p := fun e => by rw [e, hx] at hp4; cases hp4
        refine ⟨_, rfl, _, rfl, _, rfl, _, rfl, _, rfl, _, _, rfl, rfl, _, _, rfl, rfl, (by show (0 : Int) < c + 2; omega), _, _, rfl, rfl, _, rfl, _, _, rfl, rfl, _, _, rfl, rfl, ⟨by decide, by decide, by decide⟩, (by show 5 ≤ sizeLine; decide), fun p5 hp5 => ?_⟩
        obtain ⟨v6, hv6, hm6⟩ := mod_at (xs := [V.int (-1), V.int c, V.int (-2 - seed % (c + 2)), V.int (c + 1), V.int (10 ^ (30 : Int).toNat)]) (n := 5) rfl (by decide) (seed / 23)
        obtain ⟨od, rfl⟩ : ∃ od : Int, v6 = .int od := by
          simp only [List.mem_cons, List.not_mem_nil, or_false] at hm6
          rcases hm6 with e | e | e | e | e
          · exact ⟨_, e⟩
          · exact ⟨_, e⟩
          · exact ⟨_, e⟩
          · exact ⟨_, e⟩
          · exact ⟨_, e⟩
        have J5 := J4.new (o := .lst [V.int (-1), V.int c, V.int (-2 - seed % (c + 2)), V.int (c + 1), V.int (10 ^ (30 : Int).toNat)]) hp5
        have hq5 : ∀ o, (upd (upd H3 p4 (.lst [V.int (seed % c), V.int (z5 % c)])) p5 o) p4 = some (.lst [V.int (seed % c), V.int (z5 % c)]) := fun o => by
          have e : (upd H3 p4 (.lst [V.int (seed % c), V.int (z5 % c)])) p4 = some (.lst [V.int (seed % c), V.int (z5 % c)]) := upd_same
          rw [upd_ne (ne_of_none e hp5)]
          exact e
        refine ⟨_, rfl, _, rfl, _, _, rfl, rfl, ⟨by decide, by decide⟩, _, _, rfl, rfl, (by show (0 : Int) < 5; decide), p5, _, _, _, rfl, rfl, SqL.of upd_same, hv6, ?_⟩
        have hq5' := hq5 (.lst [V.int (-1), V.int c, V.int (-2 - seed % (c + 2)), V.int (c + 1), V.int (10 ^ (30 : Int).toNat)])
        generalize upd (upd H3 p4 (.lst [V.int (seed % c), V.int (z5 % c)])) p5 (.lst [V.int (-1), V.int c, V.int (-2 - seed % (c + 2)), V.int (c + 1), V.int (10 ^ (30 : Int).toNat)]) = H5 at J5 hq5'
        clear hq5
        refine ⟨_, rfl, _, _, rfl, rfl, (by show (0 : Int) < 5; decide), rfl, _, rfl, iteD (fun _ => ?_) (fun _ => ?_)⟩
        · obtain ⟨jx, hjx, hj2⟩ := mod_ix2 (seed / 5)
          refine ⟨_, rfl, _, rfl, _, rfl, _, _, rfl, rfl, ⟨by decide, by decide⟩, _, _, rfl, rfl, (by show (0 : Int) < 2; decide), p4, _, _, jx, rfl, rfl, hq5', hjx, ?_⟩
          obtain ⟨u1, u2, hu⟩ : ∃ u1 u2 : Int, [V.int (seed % c), V.int (z5 % c)].set jx (V.int od) = [V.int u1, V.int u2] := by
            match jx, hj2 with
            | 0, _ => exact ⟨_, _, rfl⟩
            | 1, _ => exact ⟨_, _, rfl⟩
          rw [hu]
          have J6 := J5.put (zs := [V.int u1, V.int u2]) hp40 np4 hq5'
          have hq6 : (upd H5 p4 (.lst [V.int u1, V.int u2])) p4 = some (.lst [V.int u1, V.int u2]) := upd_same
          generalize upd H5 p4 (.lst [V.int u1, V.int u2]) = H6 at J6 hq6
          refine ⟨_, rfl, _, _, rfl, rfl, (by show (0 : Int) < 15; decide), rfl, _, rfl, iteD (fun _ => ?_) (fun _ => ?_)⟩
          · refine ⟨_, rfl, _, rfl, (by show 2 ≤ sizeLine; decide), fun p6 hp6 => ?_⟩
            have J7 := J6.new (o := .lst [V.int od, V.int od]) hp6
            have hq7 : (upd H6 p6 (.lst [V.int od, V.int od])) p6 = some (.lst [V.int od, V.int od]) := upd_same
            obtain ⟨ys, hy, hyl⟩ := J7.at
            refine ⟨_, rfl, .inl ⟨rfl, _, SqL.of hy⟩, _, rfl, p6, _, _, _, rfl, rfl, SqL.of hq7, at_nat (i := 0) rfl rfl, _, rfl, p6, _, _, _, rfl, rfl, SqL.of hq7, at_nat (i := 1) rfl rfl, (by show 3 ≤ sizeLine; decide), fun t ht => ?_⟩
            have J8 := J7.new (o := .tup (deedV (.com od od))) ht
            refine ⟨p, ys, _, rfl, rfl, (by rw [upd_ne (ne_of_none hy ht)]; exact hy), small1000 (by omega), ?_⟩
            exact ⟨c, _, _, _, _, _, _, _, _, _, _, _, rfl, hc, J8.app (d := .com od od) hp upd_same (by rw [upd_ne (ne_of_none hy ht)]; exact hy)⟩
          · obtain ⟨ys, hy, hyl⟩ := J6.at
            refine ⟨_, rfl, .inl ⟨rfl, _, SqL.of hy⟩, _, rfl, p4, _, _, _, rfl, rfl, SqL.of hq6, at_nat (i := 0) rfl rfl, _, rfl, p4, _, _, _, rfl, rfl, SqL.of hq6, at_nat (i := 1) rfl rfl, (by show 3 ≤ sizeLine; decide), fun t ht => ?_⟩
            have J8 := J6.new (o := .tup (deedV (.com u1 u2))) ht
            refine ⟨p, ys, _, rfl, rfl, (by rw [upd_ne (ne_of_none hy ht)]; exact hy), small1000 (by omega), ?_⟩
            exact ⟨c, _, _, _, _, _, _, _, _, _, _, _, rfl, hc, J8.app (d := .com u1 u2) hp upd_same (by rw [upd_ne (ne_of_none hy ht)]; exact hy)⟩
        · refine ⟨_, rfl, _, _, rfl, rfl, (by show (0 : Int) < 15; decide), rfl, _, rfl, iteD (fun _ => ?_) (fun _ => ?_)⟩
          · refine ⟨_, rfl, _, rfl, (by show 2 ≤ sizeLine; decide), fun p6 hp6 => ?_⟩
            have J7 := J5.new (o := .lst [V.int od, V.int od]) hp6
            have hq7 : (upd H5 p6 (.lst [V.int od, V.int od])) p6 = some (.lst [V.int od, V.int od]) := upd_same
            obtain ⟨ys, hy, hyl⟩ := J7.at
            refine ⟨_, rfl, .inl ⟨rfl, _, SqL.of hy⟩, _, rfl, p6, _, _, _, rfl, rfl, SqL.of hq7, at_nat (i := 0) rfl rfl, _, rfl, p6, _, _, _, rfl, rfl, SqL.of hq7, at_nat (i := 1) rfl rfl, (by show 3 ≤ sizeLine; decide), fun t ht => ?_⟩
            have J8 := J7.new (o := .tup (deedV (.com od od))) ht
            refine ⟨p, ys, _, rfl, rfl, (by rw [upd_ne (ne_of_none hy ht)]; exact hy), small1000 (by omega), ?_⟩
            exact ⟨c, _, _, _, _, _, _, _, _, _, _, _, rfl, hc, J8.app (d := .com od od) hp upd_same (by rw [upd_ne (ne_of_none hy ht)]; exact hy)⟩
          · obtain ⟨ys, hy, hyl⟩ := J5.at
            refine ⟨_, rfl, .inl ⟨rfl, _, SqL.of hy⟩, _, rfl, p4, _, _, _, rfl, rfl, SqL.of hq5', at_nat (i := 0) rfl rfl, _, rfl, p4, _, _, _, rfl, rfl, SqL.of hq5', at_nat (i := 1) rfl rfl, (by show 3 ≤ sizeLine; decide), fun t ht => ?_⟩
            have J8 := J5.new (o := .tup (deedV (.com (seed % c) (z5 % c)))) ht
            refine ⟨p, ys, _, rfl, rfl, (by rw [upd_ne (ne_of_none hy ht)]; exact hy), small1000 (by omega), ?_⟩
            exact ⟨c, _, _, _, _, _, _, _, _, _, _, _, rfl, hc, J8.app (d := .com (seed % c) (z5 % c)) hp upd_same (by rw [upd_ne (ne_of_none hy ht)]; exact hy)⟩
    · rintro σ H2 ⟨c, x3, x4, x5, x6, x7, x8, x9, x10, x11, x12, x13, rfl, hc, J2⟩
      obtain ⟨s2, xs, ds, h1, h2, h3⟩ := J2
      exact ⟨_, rfl, q p xs ds H2 (by rw [← h2.1, h3]; omega) h2 ⟨hp, s2, h1⟩⟩
end
theorem deedV_flat (d : Deed Str) : (∀ x ∈ deedV d, Flat2 x x) ∧ (deedV d).length ≤ 3 := by
  cases d with
  | step n a =>
    refine ⟨fun x hx => ?_, by show _ ≤ 3; simp [deedV]⟩
    simp only [deedV, List.mem_cons, List.not_mem_nil, or_false] at hx
    rcases hx with rfl | rfl | rfl
    · exact .inr (.inr ⟨_, rfl, rfl⟩)
    · exact .inr (.inr ⟨_, rfl, rfl⟩)
    · exact .inr (.inl ⟨_, rfl, rfl⟩)
  | go z =>
    refine ⟨fun x hx => ?_, by show _ ≤ 3; simp [deedV]⟩
    simp only [deedV, List.mem_cons, List.not_mem_nil, or_false] at hx
    rcases hx with rfl | rfl
    · exact .inr (.inr ⟨_, rfl, rfl⟩)
    · exact .inr (.inl ⟨_, rfl, rfl⟩)
  | val n =>
    refine ⟨fun x hx => ?_, by show _ ≤ 3; simp [deedV]⟩
    simp only [deedV, List.mem_cons, List.not_mem_nil, or_false] at hx
    rcases hx with rfl | rfl
    · exact .inr (.inr ⟨_, rfl, rfl⟩)
    · exact .inr (.inr ⟨_, rfl, rfl⟩)
  | com y z =>
    refine ⟨fun x hx => ?_, by show _ ≤ 3; simp [deedV]⟩
    simp only [deedV, List.mem_cons, List.not_mem_nil, or_false] at hx
    rcases hx with rfl | rfl | rfl
    · exact .inr (.inr ⟨_, rfl, rfl⟩)
    · exact .inr (.inl ⟨_, rfl, rfl⟩)
    · exact .inr (.inl ⟨_, rfl, rfl⟩)
theorem deeds_sd {H : Hp} : ∀ {xs : List V}, (∀ x ∈ xs, ∃ d, DeedAt H x d) → ∃ m, SDs (SD 1 H) xs xs m ∧ m ≤ 4 * xs.length
  | [], _ => ⟨0, rfl, Nat.le_refl _⟩
  | x :: xs, h => by
    obtain ⟨m, h1, h2⟩ := deeds_sd (H := H) fun y hy => h y (List.mem_cons_of_mem _ hy)
    obtain ⟨d, t, rfl, ht⟩ := h x List.mem_cons_self
    obtain ⟨h3, h4⟩ := deedV_flat d
    exact ⟨(deedV d).length + 1 + m, ⟨_, _, .inr ⟨t, t, _, _, _, rfl, rfl, .inr ⟨ht, ht⟩, SDs.flat h3, rfl⟩, h1, rfl⟩, by rw [List.length_cons]; omega⟩
theorem DeedsAt.all {H : Hp} {xs : List V} {ds : List (Deed Str)} (h : DeedsAt H xs ds) : ∀ x ∈ xs, ∃ d, DeedAt H x d := by
  intro x hx
  obtain ⟨i, hi⟩ := List.getElem?_of_mem hx
  have hl : i < xs.length := (List.getElem?_eq_some_iff.mp hi).1
  have hl2 : i < ds.length := by rw [← h.1]; exact hl
  exact ⟨ds[i], h.2 i x ds[i] hi (List.getElem?_eq_getElem hl2)⟩
theorem StepsL.at {H : Hp} {b : Addr} {st : List (Str × Int)} {K : PySem.W.Frag} (x : StepsL H b st) : StepsAt K H b st := by
  obtain ⟨ts, h1, h2, h3⟩ := x
  exact ⟨ts, SqL.of h1, h2, h3⟩
theorem StepsL.to {H H' : Hp} {b : Addr} {st : List (Str × Int)} (x : StepsL H b st) (kb : ∀ o, H b = some o → H' b = some o) (kt : ∀ t xs, H t = some (.tup xs) → H' t = some (.tup xs)) : StepsL H' b st := by
  obtain ⟨ts, h1, h2, h3⟩ := x
  refine ⟨ts, kb _ h1, h2, fun i t e => ?_⟩
  obtain ⟨n, z, h4, h5⟩ := h3 i t e
  exact ⟨n, z, h4, kt _ _ h5⟩
theorem StepsL.same {H H' : Hp} {b : Addr} {st : List (Str × Int)} (x : StepsL H b st) (s : Same H H') : StepsL H' b st := x.to (fun o e => s _ _ e) fun t xs e => s _ _ e
theorem StepsL.app {H : Hp} {b t : Addr} {st : List (Str × Int)} {n : Str} {z : Int} {ts : List Addr} (h1 : H b = some (.lst (ts.map V.ref))) (h2 : ts.length = st.length) (h3 : ∀ (i : Nat) (t : Addr), ts[i]? = some t → ∃ n z, st[i]? = some (n, z) ∧ H t = some (.tup [.str n, .int z]))
    (ht : H t = some (.tup [.str n, .int z])) : StepsL (upd H b (.lst (ts.map V.ref ++ [.ref t]))) b (st ++ [(n, z)]) := by
  have kt : ∀ u xs, H u = some (.tup xs) → (upd H b (.lst (ts.map V.ref ++ [.ref t]))) u = some (.tup xs) := fun u xs e => by
    rw [upd_ne (ne_of e h1 (by intro z; cases z))]
    exact e
  refine ⟨ts ++ [t], by rw [upd_same, List.map_append]; rfl, by rw [List.length_append, List.length_append, h2]; rfl, fun i u e => ?_⟩
  by_cases hi : i < ts.length
  · rw [List.getElem?_append_left hi] at e
    obtain ⟨n', z', g1, g2⟩ := h3 i u e
    exact ⟨n', z', by rw [List.getElem?_append_left (by omega)]; exact g1, kt _ _ g2⟩
  · have hi' : i = ts.length := by
      have := (List.getElem?_eq_some_iff.mp e).1
      rw [List.length_append] at this
      simp at this
      omega
    subst hi'
    rw [List.getElem?_append_right (Nat.le_refl _), Nat.sub_self] at e
    cases e
    exact ⟨n, z, by rw [h2, List.getElem?_append_right (Nat.le_refl _), Nat.sub_self]; rfl, kt _ _ ht⟩
section
variable {P : Program} {w : World} {K : PySem.W.Frag} {mg : Str → Option Value} {base : Heap} {f : Addr} {fd : FuncData}
theorem scWas : FnScope ["_law_handed", "_law_own", "_law_left", "_law_right", "_law_one", "_law_two"] ["_law_handed", "_law_own"] (defScope sWas) := ⟨rfl, rfl, rfl, by decide +kernel, rfl, by decide +kernel, by decide +kernel⟩
theorem okWas (B : Blt mg) (B2 : Blt2 mg) (F : Fn K mg "_law_as_it_was" sWas ["_law_handed", "_law_own"] f fd) : FnOk P w K mg base CX0 1 f fd ["_law_handed", "_law_own"] spStays := by
  refine F.fn.ok scWas (fun vs H Q E h => ?_) (fun cdv A outer s H vs Q E hr h => ?_)
  · obtain ⟨x, y, d, m, rfl, _⟩ := h
    rfl
  · obtain ⟨x, y, d, m, rfl, hxy, hm, q⟩ := h
    have hu : A.units + 3 < cLine := by
      have := hr.units0
      exact this
    refine ⟨_, (pss_cons (ps_set (i := 2) scWas.nd rfl (Or.inl rfl) (pe_lst (pa_cons (pv 0) pa_nil)))
        (pss_cons (ps_set (i := 3) scWas.nd rfl (Or.inl rfl) (pe_lst (pa_cons (pv 1) pa_nil)))
        (pss_cons (ps_while PassesOwn.never (pt_cmpR op_gt (pe_callB call_len_seq (by rfl) B.len PySem.boot_len (pa_cons (pv 3) pa_nil)) pe_int (nomark _))
        (pss_cons (ps_set (i := 4) scWas.nd rfl (Or.inl rfl) (pe_bm0 PySem.F.plainAttrs_list PySem.F.slot_list_pop PySem.F.type_list_pop mt_pop (pv 2)))
        (pss_cons (ps_set (i := 5) scWas.nd rfl (Or.inl rfl) (pe_bm0 PySem.F.plainAttrs_list PySem.F.slot_list_pop PySem.F.type_list_pop mt_pop (pv 3)))
        (pss_one (ps_if (pt_val (pe_callB call_isi2 (by rfl) B.isi PyProof.Rows.boot_isinstance (pa_cons (pv 5) (pa_cons (pe_tup (pa_cons (pe_bltn (v := .ty "list") (by rfl) B.list PyProof.Rows.boot_list rfl) (pa_cons (pe_bltn (v := .ty "tuple") (by rfl) B2.tup PyProof.Rows.boot_tuple rfl) pa_nil))) pa_nil))))
          (pss_cons (ps_if (pt_cmpR op_ne (pe_callB (call_isi "list") (by rfl) B.isi PyProof.Rows.boot_isinstance (pa_cons (pv 4) (pa_cons (pe_bltn (v := .ty "list") (by rfl) B.list PyProof.Rows.boot_list rfl) pa_nil))) (pe_callB (call_isi "list") (by rfl) B.isi PyProof.Rows.boot_isinstance (pa_cons (pv 5) (pa_cons (pe_bltn (v := .ty "list") (by rfl) B.list PyProof.Rows.boot_list rfl) pa_nil))) (nomark _))
          (pss_one (ps_ret pe_bl))
          pss_nil)
        (pss_cons (ps_if (pw_or (pt_cmpR op_ne (pe_callB (call_isi "tuple") (by rfl) B.isi PyProof.Rows.boot_isinstance (pa_cons (pv 4) (pa_cons (pe_bltn (v := .ty "tuple") (by rfl) B2.tup PyProof.Rows.boot_tuple rfl) pa_nil))) (pe_callB (call_isi "tuple") (by rfl) B.isi PyProof.Rows.boot_isinstance (pa_cons (pv 5) (pa_cons (pe_bltn (v := .ty "tuple") (by rfl) B2.tup PyProof.Rows.boot_tuple rfl) pa_nil))) (nomark _)) (pw_or1 (pt_cmpR op_ne (pe_callB call_len_seq (by rfl) B.len PySem.boot_len (pa_cons (pv 4) pa_nil)) (pe_callB call_len_seq (by rfl) B.len PySem.boot_len (pa_cons (pv 5) pa_nil)) (nomark _)))).pt
          (pss_one (ps_ret pe_bl))
          pss_nil)
        (pss_cons (ps_expr (pe_bm PySem.F.plainAttrs_list PySem.F.slot_list_extend PySem.F.type_list_extend mt_extend (pv 2) (pa_cons (pe_callTy call_list_of (by rfl) B.list PyProof.Rows.boot_list (pa_cons (pv 4) pa_nil)) pa_nil)))
        (pss_one (ps_expr (pe_bm PySem.F.plainAttrs_list PySem.F.slot_list_extend PySem.F.type_list_extend mt_extend (pv 3) (pa_cons (pe_callTy call_list_of (by rfl) B.list PyProof.Rows.boot_list (pa_cons (pv 5) pa_nil)) pa_nil)))))))
          (pss_one (ps_if (pt_cmp (pc_isN (pv 5)))
          (pss_one (ps_if (pt_cmp (pc_notN (pv 4)))
          (pss_one (ps_ret pe_bl))
          pss_nil))
          (pss_one (ps_if (pt_val (pe_callB (call_isi "bool") (by rfl) B.isi PyProof.Rows.boot_isinstance (pa_cons (pv 5) (pa_cons (pe_bltn (v := .ty "bool") (by rfl) B.bool PyProof.Rows.boot_bool rfl) pa_nil))))
          (pss_one (ps_if (pw_or (pt_not (pt_val (pe_callB (call_isi "bool") (by rfl) B.isi PyProof.Rows.boot_isinstance (pa_cons (pv 4) (pa_cons (pe_bltn (v := .ty "bool") (by rfl) B.bool PyProof.Rows.boot_bool rfl) pa_nil))))) (pw_or1 (pt_cmpR op_ne (pv 4) (pv 5) (nomark _)))).pt
          (pss_one (ps_ret pe_bl))
          pss_nil))
          (pss_one (ps_if (pt_val (pe_callB (call_isi "str") (by rfl) B.isi PyProof.Rows.boot_isinstance (pa_cons (pv 5) (pa_cons (pe_bltn (v := .ty "str") (by rfl) B2.str PyProof.Rows.boot_str rfl) pa_nil))))
          (pss_one (ps_if (pw_or (pt_not (pt_val (pe_callB (call_isi "str") (by rfl) B.isi PyProof.Rows.boot_isinstance (pa_cons (pv 4) (pa_cons (pe_bltn (v := .ty "str") (by rfl) B2.str PyProof.Rows.boot_str rfl) pa_nil))))) (pw_or1 (pt_cmpR op_ne (pv 4) (pv 5) (nomark _)))).pt
          (pss_one (ps_ret pe_bl))
          pss_nil))
          (pss_one (ps_if (pw_or (pt_not (pt_val (pe_callB (call_isi "int") (by rfl) B.isi PyProof.Rows.boot_isinstance (pa_cons (pv 4) (pa_cons (pe_bltn (v := .ty "int") (by rfl) B.int PyProof.Rows.boot_int rfl) pa_nil))))) (pw_or (pt_val (pe_callB (call_isi "bool") (by rfl) B.isi PyProof.Rows.boot_isinstance (pa_cons (pv 4) (pa_cons (pe_bltn (v := .ty "bool") (by rfl) B.bool PyProof.Rows.boot_bool rfl) pa_nil)))) (pw_or1 (pt_cmpR op_ne (pv 4) (pv 5) (nomark _))))).pt
          (pss_one (ps_ret pe_bl))
          pss_nil)))))))))))))
        (pss_one (ps_ret pe_bl))))), ?_⟩
    refine ⟨_, rfl, (by show 1 ≤ sizeLine; decide), fun pl hpl => ?_⟩
    refine ⟨_, rfl, (by show 1 ≤ sizeLine; decide), fun pr hpr => ?_⟩
    have nlr : pl ≠ pr := fun z => by rw [← z, upd_same] at hpr; cases hpr
    have hpr0 : H pr = none := (same_upd hpl).free hpr
    refine ⟨fun k σ H1 => ∃ L R u v, σ = [some x, some y, some (.ref pl), some (.ref pr), u, v] ∧ SDs (SD d H) L R k ∧ k ≤ m ∧ Same H H1 ∧ H1 pl = some (.lst L) ∧ H1 pr = some (.lst R),
      ⟨m, [x], [y], none, none, rfl, ?_, Nat.le_refl _, Same.upd (same_upd hpl) hpr0, by rw [upd_ne nlr, upd_same], upd_same⟩, ?_⟩
    · exact ⟨m, 0, hxy, rfl, rfl⟩
    rintro k σ H1 ⟨L, R, u, v, rfl, sd, hk, sm, hL, hR⟩
    refine ⟨_, rfl, pr, R, rfl, .inl (SqL.of hR), _, _, rfl, rfl, _, rfl, iteD (fun e0 => ?_) (fun e0 => ?_)⟩
    · -- a turn
      have e : R ≠ [] := fun z => by rw [z] at e0; exact absurd e0 (by decide)
      obtain ⟨L', R', a, b, na, nb, rfl, rfl, hab, hrest, rfl⟩ := SDs.last sd e
      have sm1 : Same H H1 := sm
      have hL1 := hL
      have hR1 := hR
      refine ⟨fun σ' H' => ∃ m', m' < nb + na ∧ ∃ L R u v, σ' = [some x, some y, some (.ref pl), some (.ref pr), u, v] ∧ SDs (SD d H) L R m' ∧ m' ≤ m ∧ Same H H' ∧ H' pl = some (.lst L) ∧ H' pr = some (.lst R), fun σ' H' z => z, ?_⟩
      refine ⟨_, rfl, .inl ⟨rfl, _, SqL.of hL1⟩, pl, _, a, rfl, rfl, hL1, by simp, ?_⟩
      rw [List.dropLast_concat]
      generalize hH2 : upd H1 pl (.lst L') = H2
      have sm2 : Same H H2 := by rw [← hH2]; exact Same.upd sm1 hpl
      have hL2 : H2 pl = some (.lst L') := by rw [← hH2, upd_same]
      have hR2 : H2 pr = some (.lst (R' ++ [b])) := by rw [← hH2, upd_ne nlr.symm]; exact hR1
      refine ⟨_, rfl, .inl ⟨rfl, _, SqL.of hR2⟩, pr, _, b, rfl, rfl, hR2, by simp, ?_⟩
      rw [List.dropLast_concat]
      generalize hH3 : upd H2 pr (.lst R') = H3
      have sm3 : Same H H3 := by rw [← hH3]; exact Same.upd sm2 hpr0
      have hR3 : H3 pr = some (.lst R') := by rw [← hH3, upd_same]
      have hL3 : H3 pl = some (.lst L') := by rw [← hH3, upd_ne nlr]; exact hL2
      refine ⟨_, rfl, (by show 2 ≤ sizeLine; decide), fun pt hpt => ?_⟩
      generalize hH4 : upd H3 pt (.tup [.ty "list", .ty "tuple"]) = H4
      have s34 : Same H3 H4 := by rw [← hH4]; exact same_upd hpt
      have sm4 : Same H H4 := sm3.trans s34
      have hR4 := s34 _ _ hR3
      have hL4 := s34 _ _ hL3
      have hT4 : H4 pt = some (.tup [.ty "list", .ty "tuple"]) := by rw [← hH4, upd_same]
      have hpos := hab.pos
      have nxt : ∃ m', m' < nb + na ∧ ∃ L R u v, [some x, some y, some (.ref pl), some (.ref pr), some a, some b] = [some x, some y, some (.ref pl), some (.ref pr), u, v] ∧ SDs (SD d H) L R m' ∧ m' ≤ m ∧ Same H H4 ∧ H4 pl = some (.lst L) ∧ H4 pr = some (.lst R) :=
        ⟨nb, by omega, L', R', _, _, rfl, hrest, by omega, sm4, hL4, hR4⟩
      rcases hab.cases with hf | ⟨a1, b1, xs, ys, n1, ea, eb, hc, hs, hn⟩
      · -- a flat one
        rcases hf with ⟨rfl, rfl⟩ | ⟨i, rfl, rfl⟩ | ⟨z, rfl, rfl⟩
        · refine ⟨.non, pt, "NoneType", false, rfl, hT4, .non, k2n, false, rfl, iteF ?_⟩
          refine ⟨_, rfl, _, rfl, iteP rfl ?_⟩
          exact ⟨_, rfl, _, rfl, iteNS rfl nxt⟩
        · refine ⟨.int i, pt, "int", false, rfl, hT4, .int i, k2i, false, rfl, iteF ?_⟩
          refine ⟨_, rfl, _, rfl, iteN (fun e => nomatch e) ?_⟩
          refine ⟨_, rfl, .int i, "int", false, rfl, .int i, kib, false, rfl, iteF ?_⟩
          refine ⟨_, rfl, .int i, "int", false, rfl, .int i, kis, false, rfl, iteF ?_⟩
          refine ⟨_, rfl, .int i, "int", true, rfl, .int i, kii, true, rfl, iteF ?_⟩
          refine ⟨_, rfl, .int i, "int", false, rfl, .int i, kib, false, rfl, iteF ?_⟩
          exact ⟨_, rfl, _, rfl, rfl, _, rfl, iteNS rfl nxt⟩
        · refine ⟨.str z, pt, "str", false, rfl, hT4, .str z, k2s, false, rfl, iteF ?_⟩
          refine ⟨_, rfl, _, rfl, iteN (fun e => nomatch e) ?_⟩
          refine ⟨_, rfl, .str z, "str", false, rfl, .str z, ksb, false, rfl, iteF ?_⟩
          refine ⟨_, rfl, .str z, "str", true, rfl, .str z, kss, true, rfl, iteT ?_⟩
          refine ⟨_, rfl, .str z, "str", true, rfl, .str z, kss, true, rfl, iteF ?_⟩
          exact ⟨_, rfl, _, rfl, rfl, _, rfl, iteNS rfl nxt⟩
      · -- two lists, two tuples
        subst ea eb
        have hlen := hs.len
        have hle := SDs.le (fun _ _ _ z => SD.pos z) hs
        have hle2 := SDs.le (fun _ _ _ z => SD.pos z) hrest
        have hlen2 := hrest.len
        have hz : sizeLine = 16777216 := sizeLine_eq
        -- the last rows: both extended
        have fin : ∀ (SQ : Hp → Addr → List V → Prop), (∀ H1 H2 p zs, Same H1 H2 → SQ H1 p zs → SQ H2 p zs) → SQ H4 a1 xs → SQ H4 b1 ys → (∀ H p zs, SQ H p zs → SqL K H p zs ∨ SqT K H p zs) →
            ∀ (D : Ends), (∀ σ' H', (∃ m', m' < nb + na ∧ ∃ L R u v, σ' = [some x, some y, some (.ref pl), some (.ref pr), u, v] ∧ SDs (SD d H) L R m' ∧ m' ≤ m ∧ Same H H' ∧ H' pl = some (.lst L) ∧ H' pr = some (.lst R)) → D.nx σ' H') →
            tSeq (tDrop (tBM K "list" rExtend (tVar 2) (tCons (tCB (fun xs H Q => ∃ p ys, xs = [.ref p] ∧ (SqL K H p ys ∨ SqT K H p ys) ∧ ∀ l, H l = none → Q (.ref l) (upd H l (.lst ys))) (tCons (tVar 4) tNil)) tNil)))
              (tDrop (tBM K "list" rExtend (tVar 3) (tCons (tCB (fun xs H Q => ∃ p ys, xs = [.ref p] ∧ (SqL K H p ys ∨ SqT K H p ys) ∧ ∀ l, H l = none → Q (.ref l) (upd H l (.lst ys))) (tCons (tVar 5) tNil)) tNil))) D [some x, some y, some (.ref pl), some (.ref pr), some (.ref a1), some (.ref b1)] H4 := by
          intro SQ mono q1 q2 sq D hD
          refine ⟨_, rfl, .inl ⟨rfl, _, SqL.of hL4⟩, _, rfl, a1, xs, rfl, sq _ _ _ q1, fun p5 hp5 => ?_⟩
          generalize hH5 : upd H4 p5 (.lst xs) = H5
          have s45 : Same H4 H5 := by rw [← hH5]; exact same_upd hp5
          have hN5 : H5 p5 = some (.lst xs) := by rw [← hH5, upd_same]
          refine ⟨pl, p5, L', xs, rfl, rfl, s45 _ _ hL4, hN5, by omega, ?_⟩
          generalize hH6 : upd H5 pl (.lst (L' ++ xs)) = H6
          have sm6 : Same H H6 := by rw [← hH6]; exact Same.upd (sm4.trans s45) hpl
          have hL6 : H6 pl = some (.lst (L' ++ xs)) := by rw [← hH6, upd_same]
          have hR6 : H6 pr = some (.lst R') := by rw [← hH6, upd_ne nlr.symm]; exact s45 _ _ hR4
          have q6 : SqL K H6 b1 ys ∨ SqT K H6 b1 ys := by
            rcases hc with ⟨_, hb⟩ | ⟨_, hb⟩
            · exact .inl (SqL.of (sm6 _ _ hb))
            · exact .inr (SqT.of (sm6 _ _ hb))
          refine ⟨_, rfl, .inl ⟨rfl, _, SqL.of hR6⟩, _, rfl, b1, ys, rfl, q6, fun p7 hp7 => ?_⟩
          generalize hH7 : upd H6 p7 (.lst ys) = H7
          have s67 : Same H6 H7 := by rw [← hH7]; exact same_upd hp7
          have hN7 : H7 p7 = some (.lst ys) := by rw [← hH7, upd_same]
          refine ⟨pr, p7, R', ys, rfl, rfl, s67 _ _ hR6, hN7, by omega, ?_⟩
          refine hD _ _ ⟨nb + n1, by omega, L' ++ xs, R' ++ ys, _, _, rfl, hrest.append hs, by omega, Same.upd (sm6.trans s67) hpr0, ?_, upd_same⟩
          rw [upd_ne nlr]
          exact s67 _ _ hL6
        rcases hc with ⟨ha, hb⟩ | ⟨ha, hb⟩
        · have ha4 := sm4 _ _ ha
          have hb4 := sm4 _ _ hb
          refine ⟨.ref b1, pt, "list", true, rfl, hT4, .lst hb4, k2l, true, rfl, iteT ?_⟩
          refine ⟨_, rfl, .ref a1, "list", true, rfl, .lst ha4, kll, _, rfl, .ref b1, "list", true, rfl, .lst hb4, kll, rfl, _, rfl, iteNS rfl ?_⟩
          refine ⟨_, rfl, .ref a1, "list", false, rfl, .lst ha4, klt, _, rfl, .ref b1, "list", false, rfl, .lst hb4, klt, rfl, _, rfl, iteNS rfl ?_⟩
          refine ⟨_, rfl, a1, xs, rfl, .inl (SqL.of ha4), _, rfl, b1, ys, rfl, .inl (SqL.of hb4), rfl, _, rfl, iteNS (by rw [hlen]) ?_⟩
          exact fin (fun H p zs => H p = some (.lst zs)) (fun _ _ _ _ s z => s _ _ z) ha4 hb4 (fun _ _ _ z => .inl (SqL.of z)) _ fun _ _ z => z
        · have ha4 := sm4 _ _ ha
          have hb4 := sm4 _ _ hb
          refine ⟨.ref b1, pt, "tuple", true, rfl, hT4, .tup hb4, k2t, true, rfl, iteT ?_⟩
          refine ⟨_, rfl, .ref a1, "tuple", false, rfl, .tup ha4, ktl, _, rfl, .ref b1, "tuple", false, rfl, .tup hb4, ktl, rfl, _, rfl, iteNS rfl ?_⟩
          refine ⟨_, rfl, .ref a1, "tuple", true, rfl, .tup ha4, ktt, _, rfl, .ref b1, "tuple", true, rfl, .tup hb4, ktt, rfl, _, rfl, iteNS rfl ?_⟩
          refine ⟨_, rfl, a1, xs, rfl, .inr (SqT.of ha4), _, rfl, b1, ys, rfl, .inr (SqT.of hb4), rfl, _, rfl, iteNS (by rw [hlen]) ?_⟩
          exact fin (fun H p zs => H p = some (.tup zs)) (fun _ _ _ _ s z => s _ _ z) ha4 hb4 (fun _ _ _ z => .inr (SqT.of z)) _ fun _ _ z => z
    · -- the end
      have e : R = [] := List.length_eq_zero_iff.mp (by omega)
      subst e
      exact q _ sm
end
def spArePairs : Sp := fun vs H Q _ => ∃ (a : Addr) (st : List (Str × Int)), vs = [.ref a] ∧ StepsL H a st ∧ Q (.bl true) H
def spAsDue (K : PySem.W.Frag) : Sp := fun vs H Q _ => ∃ (t a b h r : Addr) (ps : List Nat) (m : Nat) (st : List (Str × Int)), vs = [.ref t, .ref b, .int m, .ref h] ∧ H t = some (.tup [.ref a, .int m, .ref r]) ∧ H a = some (.lst (vT ps)) ∧ Good ps ∧ ps.length ≤ 600 ∧ SqL K H b (vT ps) ∧ StepsL H r st ∧ StepsL H h st ∧ Q (.bl true) H
section
variable {P : Program} {w : World} {K : PySem.W.Frag} {mg : Str → Option Value} {base : Heap} {f : Addr} {fd : FuncData}
theorem scArePairs : FnScope ["_law_found", "_law_pair"] ["_law_found"] (defScope sArePairs) := ⟨rfl, rfl, rfl, by decide +kernel, rfl, by decide +kernel, by decide +kernel⟩
theorem okArePairs {f1 : Addr} {fd1 : FuncData} (B : Blt mg) (B2 : Blt2 mg) (F : Fn K mg "_law_are_pairs" sArePairs ["_law_found"] f fd) (F1 : Fn K mg "_law_whole" sWhole ["_law_found"] f1 fd1) : FnOk P w K mg base CX0 2 f fd ["_law_found"] spArePairs := by
  have G1 : FnOk P w K mg base CX0 1 f1 fd1 ["_law_found"] spWhole := okWhole B F1
  refine F.fn.ok scArePairs (fun vs H Q E h => ?_) (fun cdv A outer s H vs Q E hr h => ?_)
  · obtain ⟨a, st, rfl, _⟩ := h
    rfl
  · obtain ⟨a, st, rfl, S, k⟩ := h
    refine ⟨_, (pss_cons (ps_if (pt_not (pt_val (pe_callB (call_isi "list") (by rfl) B.isi PyProof.Rows.boot_isinstance (pa_cons (pv 0) (pa_cons (pe_bltn (v := .ty "list") (by rfl) B.list PyProof.Rows.boot_list rfl) pa_nil)))))
          (pss_one (ps_ret pe_bl))
          pss_nil)
        (pss_cons (ps_for PassesOwn.never rfl (pi_list (pv 0)) (pg_name (i := 1) scArePairs.nd rfl (Or.inl rfl))
          (pss_cons (ps_if (pw_or (pt_not (pt_val (pe_callB (call_isi "tuple") (by rfl) B.isi PyProof.Rows.boot_isinstance (pa_cons (pv 1) (pa_cons (pe_bltn (v := .ty "tuple") (by rfl) B2.tup PyProof.Rows.boot_tuple rfl) pa_nil))))) (pw_or (pt_cmpR op_ne (pe_callB call_len_seq (by rfl) B.len PySem.boot_len (pa_cons (pv 1) pa_nil)) pe_int (nomark _)) (pw_or1 (pt_not (pt_val (pe_callB (call_isi "str") (by rfl) B.isi PyProof.Rows.boot_isinstance (pa_cons (pe_ix ix_tup (pv 1) pe_int (fun _ _ => rfl)) (pa_cons (pe_bltn (v := .ty "str") (by rfl) B2.str PyProof.Rows.boot_str rfl) pa_nil)))))))).pt
          (pss_one (ps_ret pe_bl))
          pss_nil)
        (pss_one (ps_if (pt_not (pt_val (pe_call G1 hr (by rfl) F1.mx F1.fn.kp F1.bd .nil pass0 (pa_cons (pe_ix ix_tup (pv 1) pe_int (fun _ _ => rfl)) pa_nil))))
          (pss_one (ps_ret pe_bl))
          pss_nil))))
        (pss_one (ps_ret pe_bl)))), ?_⟩
    obtain ⟨ts, g1, g2, g3⟩ := S
    refine ⟨_, rfl, .ref a, "list", true, rfl, .lst g1, kll, true, rfl, iteF ?_⟩
    refine ⟨_, rfl, a, rfl, ⟨_, SqL.of g1⟩, for_list (K := K) (a := a) (xs := ts.map V.ref) (fun i σ H2 => ∃ x, σ = [some (.ref a), x] ∧ H2 = H)
      ⟨_, rfl, rfl⟩ (fun i σ H2 _ ⟨_, _, e⟩ => by rw [e]; exact SqL.of g1) ?_ ?_⟩
    · rintro i x σ H2 hi ⟨x', rfl, rfl⟩
      rw [List.getElem?_map] at hi
      obtain ⟨t, ht, rfl⟩ := Option.map_eq_some_iff.mp hi
      obtain ⟨n, z, _, h5⟩ := g3 i t ht
      refine ⟨_, rfl, .ref t, "tuple", true, rfl, .tup h5, ktt, true, rfl, iteF ?_⟩
      refine ⟨_, rfl, t, _, rfl, .inr (SqT.of h5), rfl, _, rfl, iteNS rfl ?_⟩
      refine ⟨_, rfl, t, _, _, _, rfl, rfl, SqT.of h5, at_nat (i := 0) rfl rfl, .str n, "str", true, rfl, .str n, kss, true, rfl, iteF ?_⟩
      refine ⟨_, rfl, t, _, _, _, rfl, rfl, SqT.of h5, at_nat (i := 1) rfl rfl, z, rfl, true, rfl, iteF ?_⟩
      exact ⟨_, rfl, rfl⟩
    · rintro σ H2 ⟨x, rfl, rfl⟩
      exact k
theorem scAsDue : FnScope ["_law_found", "_law_parents", "_law_here", "_law_held"] ["_law_found", "_law_parents", "_law_here", "_law_held"] (defScope sAsDue) := ⟨rfl, rfl, rfl, by decide +kernel, rfl, by decide +kernel, by decide +kernel⟩
theorem okAsDue {f1 f2 f3 : Addr} {fd1 fd2 fd3 : FuncData} (B : Blt mg) (B2 : Blt2 mg) (F : Fn K mg "_law_as_due" sAsDue ["_law_found", "_law_parents", "_law_here", "_law_held"] f fd) (F1 : Fn K mg "_law_same_tree" sSameTree ["_law_handed", "_law_parents"] f1 fd1)
    (F2 : Fn K mg "_law_whole" sWhole ["_law_found"] f2 fd2) (F3 : Fn K mg "_law_are_pairs" sArePairs ["_law_found"] f3 fd3) : FnOk P w K mg base CX0 3 f fd ["_law_found", "_law_parents", "_law_here", "_law_held"] (spAsDue K) := by
  have G1 : FnOk P w K mg base CX0 2 f1 fd1 ["_law_handed", "_law_parents"] (spSameTree K) := okSameTree B F1 F2
  have G2 : FnOk P w K mg base CX0 1 f2 fd2 ["_law_found"] spWhole := okWhole B F2
  have G3 : FnOk P w K mg base CX0 2 f3 fd3 ["_law_found"] spArePairs := okArePairs B B2 F3 F2
  refine F.fn.ok scAsDue (fun vs H Q E h => ?_) (fun cdv A outer s H vs Q E hr h => ?_)
  · obtain ⟨t, a, b, h, r, ps, m, st, rfl, _⟩ := h
    rfl
  · obtain ⟨t, a, b, h, r, ps, m, st, rfl, ht, ha, gd, hle, hb, hS, hS2, k⟩ := h
    have hr1 : Room 1 _ := hr.mono (by decide)
    have hu0 := hu_of hr
    have hu : (A.deeper (PyProof.Rows.envOfC "_law_as_due" (defScope sAsDue) s.heap.objs.size f cdv)).units + 1 < PySem.cLine := hu0
    refine ⟨_, (pss_cons (ps_if (pw_or (pt_not (pt_val (pe_callB (call_isi "tuple") (by rfl) B.isi PyProof.Rows.boot_isinstance (pa_cons (pv 0) (pa_cons (pe_bltn (v := .ty "tuple") (by rfl) B2.tup PyProof.Rows.boot_tuple rfl) pa_nil))))) (pw_or (pt_cmpR op_ne (pe_callB call_len_seq (by rfl) B.len PySem.boot_len (pa_cons (pv 0) pa_nil)) pe_int (nomark _)) (pw_or1 (pt_not (pt_val (pe_callB (call_isi "list") (by rfl) B.isi PyProof.Rows.boot_isinstance (pa_cons (pe_ix ix_tup (pv 0) pe_int (fun _ _ => rfl)) (pa_cons (pe_bltn (v := .ty "list") (by rfl) B.list PyProof.Rows.boot_list rfl) pa_nil)))))))).pt
          (pss_one (ps_ret pe_bl))
          pss_nil)
        (pss_cons (ps_if (pw_or (pt_not (pt_val (pe_call G1 hr (by rfl) F1.mx F1.fn.kp F1.bd .nil pass0 (pa_cons (pe_ix ix_tup (pv 0) pe_int (fun _ _ => rfl)) (pa_cons (pv 1) pa_nil))))) (pw_or (pt_not (pt_val (pe_call G2 hr1 (by rfl) F2.mx F2.fn.kp F2.bd .nil pass0 (pa_cons (pe_ix ix_tup (pv 0) pe_int (fun _ _ => rfl)) pa_nil)))) (pw_or1 (pt_cmpR op_ne (pe_ix ix_tup (pv 0) pe_int (fun _ _ => rfl)) (pv 2) (nomark _))))).pt
          (pss_one (ps_ret pe_bl))
          pss_nil)
        (pss_one (ps_ret (pe_and (pe_call G3 hr (by rfl) F3.mx F3.fn.kp F3.bd .nil pass0 (pa_cons (pe_ix ix_tup (pv 0) pe_int (fun _ _ => rfl)) pa_nil)) (pe_one (pe_cmpR (op_eqP hu) (pe_ix ix_tup (pv 0) pe_int (fun _ _ => rfl)) (pv 3) (nomark _)))))))), ?_⟩
    refine ⟨_, rfl, .ref t, "tuple", true, rfl, .tup ht, ktt, true, rfl, iteF ?_⟩
    refine ⟨_, rfl, t, _, rfl, .inr (SqT.of ht), rfl, _, rfl, iteNS rfl ?_⟩
    refine ⟨_, rfl, t, _, _, _, rfl, rfl, SqT.of ht, at_nat (i := 0) rfl rfl, .ref a, "list", true, rfl, .lst ha, kll, true, rfl, iteF ?_⟩
    refine ⟨_, rfl, t, _, _, _, rfl, rfl, SqT.of ht, at_nat (i := 0) rfl rfl, _, rfl, a, b, ps, rfl, ⟨SqL.of ha, gd, hle⟩, hb, true, rfl, iteF ?_⟩
    refine ⟨_, rfl, t, _, _, _, rfl, rfl, SqT.of ht, at_nat (i := 1) rfl rfl, _, rfl, true, rfl, iteF ?_⟩
    refine ⟨_, rfl, t, _, _, _, rfl, rfl, SqT.of ht, at_nat (i := 1) rfl rfl, _, rfl, rfl, _, rfl, iteNS rfl ?_⟩
    refine ⟨_, rfl, t, _, _, _, rfl, rfl, SqT.of ht, at_nat (i := 2) rfl rfl, r, st, rfl, hS, true, rfl, iteT ?_⟩
    exact ⟨_, rfl, t, _, _, _, rfl, rfl, SqT.of ht, at_nat (i := 2) rfl rfl, _, rfl, r, h, st, rfl, rfl, hS, hS2, k⟩
end
/-! ## the law -/
def spLaw (K : PySem.W.Frag) : Sp := fun vs H Q _ => ∃ (a : Addr) (ns : List Int), vs = [.ref a] ∧ SqL K H a (ns.map V.int) ∧ ns.length ≤ 63 ∧ ∀ H', Q (.bl true) H'
def leS (a b : Str) : Prop := a.cps.toList ≤ b.cps.toList
theorem leS_trans {a b c : Str} (h : leS a b) (h' : leS b c) : leS a c := List.le_trans h h'
theorem leS_anti {a b : Str} (h : leS a b) (h' : leS b a) : a = b := by
  have e := List.le_antisymm h h'
  obtain ⟨⟨x⟩⟩ := a
  obtain ⟨⟨y⟩⟩ := b
  simp at e
  subst e
  rfl
theorem leS_of {a b : Str} (h : Spec.ltCps b.cps.toList a.cps.toList = false) : leS a b := by
  rw [PyProof.Rows.ltCps_eq] at h
  exact of_decide_eq_false h
theorem rising_pair : ∀ (l : List Str) (p : Str), PyProof.Rows.risingS p l = true → (∀ x ∈ l, leS p x) ∧ l.Pairwise leS
  | [], p, _ => ⟨fun x hx => (by cases hx), List.Pairwise.nil⟩
  | x :: r, p, h => by
    have h' : (!Spec.ltCps x.cps.toList p.cps.toList && PyProof.Rows.risingS x r) = true := h
    rw [Bool.and_eq_true] at h'
    have h1 : leS p x := leS_of (by simpa using h'.1)
    obtain ⟨h2, h3⟩ := rising_pair r x h'.2
    refine ⟨fun y hy => ?_, .cons h2 h3⟩
    rcases List.mem_cons.mp hy with rfl | hy
    · exact h1
    · exact leS_trans h1 (h2 y hy)
theorem sorted_pair : ∀ {l : List Str}, PyProof.Rows.sortedS l = true → l.Pairwise leS
  | [], _ => .nil
  | x :: r, h => .cons (rising_pair r x h).1 (rising_pair r x h).2
theorem perm_sorted : ∀ {l l' : List Str}, l.Perm l' → l.Pairwise leS → l'.Pairwise leS → l = l'
  | [], l', p, _, _ => by rw [List.nil_perm.mp p]
  | x :: r, l', p, h, h' => by
    cases l' with
    | nil => exact absurd p.length_eq (by simp)
    | cons y r' =>
      have e : x = y := by
        have m1 : y ∈ x :: r := p.mem_iff.mpr List.mem_cons_self
        have m2 : x ∈ y :: r' := p.mem_iff.mp List.mem_cons_self
        rcases List.mem_cons.mp m1 with z | z
        · exact z.symm
        · rcases List.mem_cons.mp m2 with z' | z'
          · exact z'
          · exact leS_anti (List.rel_of_pairwise_cons h z) (List.rel_of_pairwise_cons h' z')
      subst e
      rw [perm_sorted ((List.perm_cons x).mp p) h.of_cons h'.of_cons]
theorem filter_nodup {l : List Str} {p : Str → Bool} (h : l.Nodup) : (l.filter p).Nodup := List.Pairwise.filter _ h
theorem held_eq {D : DayS Str} {qs qs' : List (Str × Int)} (h : HeldAt D qs) (h' : HeldAt D qs') : qs = qs' := by
  obtain ⟨rs, a1, a2, a3, rfl⟩ := h
  obtain ⟨rs', b1, b2, b3, rfl⟩ := h'
  unfold prs
  congr 1
  refine perm_sorted ((List.perm_ext_iff_of_nodup (filter_nodup a1) (filter_nodup b1)).mpr fun n => ?_) (List.Pairwise.filter _ (sorted_pair a2)) (List.Pairwise.filter _ (sorted_pair b2))
  rw [List.mem_filter, List.mem_filter, decide_eq_true_eq]
  exact ⟨fun z => ⟨b3 n z.2, z.2⟩, fun z => ⟨a3 n z.2, z.2⟩⟩
theorem sum_zero : ∀ {l : List Int}, (∀ x ∈ l, x = 0) → l.sum = 0
  | [], _ => rfl
  | x :: r, h => by
    rw [List.sum_cons, h x List.mem_cons_self, sum_zero fun y hy => h y (List.mem_cons_of_mem _ hy)]
    rfl
theorem amt_named {ps : List Nat} {st : List (Str × Int)} {n : Str} {m : Nat} (h : amt ps st n m ≠ 0) : n ∈ st.map (·.1) := by
  refine Classical.byContradiction fun hn => h ?_
  unfold amt
  refine sum_zero fun x hx => ?_
  obtain ⟨c, _, rfl⟩ := List.mem_map.mp hx
  unfold gain
  split
  · rename_i m' a e
    rw [if_neg]
    intro z
    exact hn (by rw [← z]; exact List.mem_map.mpr ⟨_, List.mem_of_getElem? e, rfl⟩)
  · rfl
theorem prs_take {rs : List Str} {val : Str → Int} {i : Nat} {n : Str} (h : rs[i]? = some n) : prs (rs.take (i + 1)) val = prs (rs.take i) val ++ (if val n ≠ 0 then [(n, val n)] else []) := by
  unfold prs
  rw [List.take_add_one, h, List.filter_append, List.map_append]
  congr 1
  by_cases hv : val n ≠ 0
  · rw [if_pos hv]
    simp [hv]
  · rw [if_neg hv]
    simp at hv
    simp [hv]
theorem cut1 (ns : List Int) : ∃ ms : List Int, cutV (ns.map V.int) (some 1) none = ms.map V.int ∧ ms.length ≤ ns.length - 1 := by
  refine ⟨(ns.drop (HT.sIx (ns.map V.int).length 0 (some 1))).take (HT.sIx (ns.map V.int).length (ns.map V.int).length none - HT.sIx (ns.map V.int).length 0 (some 1)), ?_, ?_⟩
  · unfold cutV
    rw [List.map_take, List.map_drop]
  · rw [List.length_take, List.length_drop, HT.sIx_none, show HT.sIx (ns.map V.int).length 0 (some 1) = min 1 (ns.map V.int).length from HT.sIx_nat _ _ 1, List.length_map]
    omega
theorem deeds_two {H : Hp} {xs : List V} {ds : List (Deed Str)} {x y : V} {d e : Deed Str} (h : DeedsAt H xs ds) (hx : DeedAt H x d) (hy : DeedAt H y e) : DeedsAt H (xs ++ [x, y]) (ds ++ [d, e]) := by
  obtain ⟨h1, h2⟩ := h
  refine ⟨by rw [List.length_append, List.length_append, h1]; rfl, fun i u v hu hv => ?_⟩
  by_cases hi : i < xs.length
  · rw [List.getElem?_append_left hi] at hu
    rw [List.getElem?_append_left (by omega)] at hv
    exact h2 i u v hu hv
  · rw [List.getElem?_append_right (by omega)] at hu
    rw [List.getElem?_append_right (by omega), ← h1] at hv
    generalize i - xs.length = j at hu hv
    match j, hu, hv with
    | 0, hu, hv =>
      cases hu
      cases hv
      exact hx
    | 1, hu, hv =>
      cases hu
      cases hv
      exact hy
/-- there and back -/
theorem run_back (ds : List (Deed Str)) {y : Int} (hy : InS (run ds ds.length) y) : run (ds ++ [.go y, .go ((run ds ds.length).hd : Nat)]) (ds ++ [Deed.go y, .go ((run ds ds.length).hd : Nat)]).length = run ds ds.length := by
  have hok := (run_ok ds ds.length).hl
  unfold run at hy hok ⊢
  rw [List.take_of_length_le (Nat.le_refl _), List.take_of_length_le (Nat.le_refl _)] at *
  rw [List.foldl_append]
  generalize List.foldl DayS.next day0 ds = D at *
  show DayS.next (DayS.next D (.go y)) (.go (D.hd : Nat)) = D
  have e1 : DayS.next D (.go y) = ⟨D.ps, D.st, y.toNat⟩ := by
    show (if InS D y then (⟨D.ps, D.st, y.toNat⟩ : DayS Str) else D) = _
    rw [if_pos hy]
  rw [e1]
  show (if InS (⟨D.ps, D.st, y.toNat⟩ : DayS Str) (D.hd : Nat) then (⟨D.ps, D.st, ((D.hd : Nat) : Int).toNat⟩ : DayS Str) else _) = D
  rw [if_pos (by unfold InS; show (0 : Int) ≤ D.hd ∧ (D.hd : Int) ≤ D.ps.length; omega)]
  rfl
/-- between two turns of the first loop -/
def LI (p1 p2 pa pb : Addr) (H5 : Hp) (D : DayS Str) (σ : St) (H6 : Hp) : Prop := ∃ x5 : Option V, σ = [some (.ref p1), some (.ref p2), some (.ref pa), some (.ref pb), some (.int (D.hd : Nat)), x5, none, none, none, none, none, none] ∧ Same H5 H6 ∧ H6 pa = some (.lst (vT D.ps)) ∧ StepsL H6 pb D.st
section
variable {P : Program} {w : World} {K : PySem.W.Frag} {mg : Str → Option Value} {base : Heap} {f : Addr} {fd : FuncData}
theorem scLaw : FnScope ["_law_script", "_law_asked", "_law_parents", "_law_steps", "_law_here", "_law_deed", "_law_held", "_law_name", "_law_total", "_law_handed", "_law_there", "_law_longer"] ["_law_script"] (defScope sLaw) := ⟨rfl, rfl, rfl, by decide +kernel, rfl, by decide +kernel, by decide +kernel⟩
theorem okLaw {f1 f2 f3 f4 f5 f6 f7 : Addr} {fd1 fd2 fd3 fd4 fd5 fd6 fd7 : FuncData} (B : Blt mg) (B6 : Blt6 mg) (F : Fn K mg "law" sLaw ["_law_script"] f fd)
    (F1 : Fn K mg "_law_mixed" sMixed ["_law_script"] f1 fd1) (G1 : FnOk P w K mg base CX0 1 f1 fd1 ["_law_script"] (spMixed K))
    (F2 : Fn K mg "_law_deeds" sDeeds ["_law_cells"] f2 fd2) (G2 : FnOk P w K mg base CX0 1 f2 fd2 ["_law_cells"] (spDeeds K))
    (F3 : Fn K mg "_law_had" sHad ["_law_parents", "_law_steps", "_law_state", "_law_name"] f3 fd3) (G3 : FnOk P w K mg base CX0 2 f3 fd3 ["_law_parents", "_law_steps", "_law_state", "_law_name"] (spHad K))
    (F4 : Fn K mg "behind" sBehind ["deeds"] f4 fd4) (G4 : FnOk P w K mg base CX0 6 f4 fd4 ["deeds"] (spBehind K))
    (F5 : Fn K mg "_law_as_due" sAsDue ["_law_found", "_law_parents", "_law_here", "_law_held"] f5 fd5) (G5 : FnOk P w K mg base CX0 3 f5 fd5 ["_law_found", "_law_parents", "_law_here", "_law_held"] (spAsDue K))
    (F6 : Fn K mg "_law_as_it_was" sWas ["_law_handed", "_law_own"] f6 fd6) (G6 : FnOk P w K mg base CX0 1 f6 fd6 ["_law_handed", "_law_own"] spStays)
    (F7 : Fn K mg "_law_at" sAt ["_law_script", "_law_k"] f7 fd7) (G7 : FnOk P w K mg base CX0 1 f7 fd7 ["_law_script", "_law_k"] (spAt K)) :
    FnOk P w K mg base CX0 7 f fd ["_law_script"] (spLaw K) := by
  refine F.fn.ok scLaw (fun vs H Q E h => ?_) (fun cdv A outer s H vs Q E hr h => ?_)
  · obtain ⟨a, ns, rfl, _⟩ := h
    rfl
  · obtain ⟨a, ns, rfl, hS, hlen, q⟩ := h
    have h1 : Room 1 _ := hr.mono (by decide)
    have h2 : Room 1 _ := hr.mono (by decide)
    have h3 : Room 2 _ := hr.mono (by decide)
    have h4 : Room 6 _ := hr.mono (by decide)
    have h5 : Room 3 _ := hr.mono (by decide)
    have h6 : Room 1 _ := hr.mono (by decide)
    have h7 : Room 1 _ := hr.mono (by decide)
    refine ⟨_, (pss_cons (ps_set (i := 0) scLaw.nd rfl (Or.inl rfl) (pe_slice sl_list (pv 0) po_none (po_some pe_int)))
        (pss_cons (ps_set (i := 0) scLaw.nd rfl (Or.inl rfl) (pe_call G1 h1 (by rfl) F1.mx F1.fn.kp F1.bd .nil pass0 (pa_cons (pv 0) pa_nil)))
        (pss_cons (ps_set (i := 1) scLaw.nd rfl (Or.inl rfl) (pe_call G2 h2 (by rfl) F2.mx F2.fn.kp F2.bd .nil pass0 (pa_cons (pe_slice sl_list (pv 0) (po_some pe_int) po_none) pa_nil)))
        (pss_cons (ps_set (i := 2) scLaw.nd rfl (Or.inl rfl) (pe_lst (pa_cons pe_non pa_nil)))
        (pss_cons (ps_set (i := 3) scLaw.nd rfl (Or.inl rfl) (pe_lst (pa_cons (pe_tup (pa_cons pe_str (pa_cons pe_int pa_nil))) pa_nil)))
        (pss_cons (ps_set (i := 4) scLaw.nd rfl (Or.inl rfl) pe_int)
        (pss_cons (ps_for PassesOwn.never rfl (pi_list (pv 1)) (pg_name (i := 5) scLaw.nd rfl (Or.inl rfl))
          (pss_one (ps_if (pt_cmpR op_eq (pe_ix ix_tup (pv 5) pe_int (fun _ _ => rfl)) pe_str (nomark _))
          (pss_cons (ps_expr (pe_bm PySem.F.plainAttrs_list PySem.F.slot_list_append PySem.F.type_list_append mt_append (pv 2) (pa_cons (pv 4) pa_nil)))
        (pss_cons (ps_expr (pe_bm PySem.F.plainAttrs_list PySem.F.slot_list_append PySem.F.type_list_append mt_append (pv 3) (pa_cons (pe_tup (pa_cons (pe_ix ix_tup (pv 5) pe_int (fun _ _ => rfl)) (pa_cons (pe_ix ix_tup (pv 5) pe_int (fun _ _ => rfl)) pa_nil))) pa_nil)))
        (pss_one (ps_set (i := 4) scLaw.nd rfl (Or.inl rfl) (pe_op op_sub (pe_callB call_len_seq (by rfl) B.len PySem.boot_len (pa_cons (pv 2) pa_nil)) pe_int)))))
          (pss_one (ps_if (pw_and (pt_cmpR op_eq (pe_ix ix_tup (pv 5) pe_int (fun _ _ => rfl)) pe_str (nomark _)) (pw_and (pt_cmpR op_le pe_int (pe_ix ix_tup (pv 5) pe_int (fun _ _ => rfl)) (nomark _)) (pw_and1 (pt_cmpR op_lt (pe_ix ix_tup (pv 5) pe_int (fun _ _ => rfl)) (pe_callB call_len_seq (by rfl) B.len PySem.boot_len (pa_cons (pv 2) pa_nil)) (nomark _))))).pt
          (pss_one (ps_set (i := 4) scLaw.nd rfl (Or.inl rfl) (pe_ix ix_tup (pv 5) pe_int (fun _ _ => rfl))))
          pss_nil)))))
        (pss_cons (ps_set (i := 6) scLaw.nd rfl (Or.inl rfl) (pe_lst pa_nil))
        (pss_cons (ps_for PassesOwn.never rfl (pi_list (pe_sortset rfl (by rfl) B6.sorted (by rfl) B6.set (pe_firsts rfl ⟨rfl, rfl, by decide +kernel⟩ (pv 3)))) (pg_name (i := 7) scLaw.nd rfl (Or.inl rfl))
          (pss_cons (ps_set (i := 8) scLaw.nd rfl (Or.inl rfl) (pe_call G3 h3 (by rfl) F3.mx F3.fn.kp F3.bd .nil pass0 (pa_cons (pv 2) (pa_cons (pv 3) (pa_cons (pv 4) (pa_cons (pv 7) pa_nil))))))
        (pss_one (ps_if (pt_cmpR op_ne (pv 8) pe_int (nomark _))
          (pss_one (ps_expr (pe_bm PySem.F.plainAttrs_list PySem.F.slot_list_append PySem.F.type_list_append mt_append (pv 6) (pa_cons (pe_tup (pa_cons (pv 7) (pa_cons (pv 8) pa_nil))) pa_nil))))
          pss_nil))))
        (pss_cons (ps_set (i := 9) scLaw.nd rfl (Or.inl rfl) (pe_callTy call_list_of (by rfl) B.list PyProof.Rows.boot_list (pa_cons (pv 1) pa_nil)))
        (pss_cons (ps_if (pt_not (pt_val (pe_call G5 h5 (by rfl) F5.mx F5.fn.kp F5.bd .nil pass0 (pa_cons (pe_call G4 h4 (by rfl) F4.mx F4.fn.kp F4.bd .nil pass0 (pa_cons (pv 9) pa_nil)) (pa_cons (pv 2) (pa_cons (pv 4) (pa_cons (pv 6) pa_nil)))))))
          (pss_one (ps_ret pe_bl))
          pss_nil)
        (pss_cons (ps_if (pt_not (pt_val (pe_call G6 h6 (by rfl) F6.mx F6.fn.kp F6.bd .nil pass0 (pa_cons (pv 9) (pa_cons (pv 1) pa_nil)))))
          (pss_one (ps_ret pe_bl))
          pss_nil)
        (pss_cons (ps_set (i := 10) scLaw.nd rfl (Or.inl rfl) (pe_op op_mod (pe_call G7 h7 (by rfl) F7.mx F7.fn.kp F7.bd .nil pass0 (pa_cons (pv 0) (pa_cons pe_int pa_nil))) (pe_callB call_len_seq (by rfl) B.len PySem.boot_len (pa_cons (pv 2) pa_nil))))
        (pss_cons (ps_set (i := 11) scLaw.nd rfl (Or.inl rfl) (pe_op op_cat (pv 1) (pe_lst (pa_cons (pe_tup (pa_cons pe_str (pa_cons (pv 10) pa_nil))) (pa_cons (pe_tup (pa_cons pe_str (pa_cons (pv 4) pa_nil))) pa_nil)))))
        (pss_one (ps_ret (pe_call G5 h5 (by rfl) F5.mx F5.fn.kp F5.bd .nil pass0 (pa_cons (pe_call G4 h4 (by rfl) F4.mx F4.fn.kp F4.bd .nil pass0 (pa_cons (pv 11) pa_nil)) (pa_cons (pv 2) (pa_cons (pv 4) (pa_cons (pv 6) pa_nil))))))))))))))))))))), ?_⟩
    -- script[:498], mixed, deeds
    refine ⟨_, rfl, _, rfl, a, _, rfl, hS, fun p0 hp0 => ?_⟩
    obtain ⟨ms, hms, hml⟩ := cutV_map ns none (some 498)
    rw [hms]
    refine ⟨_, rfl, p0, ms, rfl, SqL.of upd_same, by omega, fun p1 ms1 H1 hl1 N1 => ?_⟩
    refine ⟨_, rfl, _, rfl, p1, _, rfl, SqL.of N1.2.2, fun pk hpk => ?_⟩
    obtain ⟨ks, hks, hkl⟩ := cut1 ms1
    rw [hks]
    have s1k : Same H1 (upd H1 pk (.lst (ks.map V.int))) := same_upd hpk
    refine ⟨pk, ks, rfl, SqL.of upd_same, by omega, fun p2 xs ds H2 hl2 hD N2 => ?_⟩
    have hxl := hD.1
    have hp1 : H2 p1 = some (.lst (ms1.map V.int)) := N2.2.1 _ _ (s1k _ _ N1.2.2)
    have hp2 := N2.2.2
    have hds : ds.length ≤ 62 := by omega
    refine ⟨(by show 1 ≤ sizeLine; decide), fun pa ha => ?_⟩
    refine ⟨(by show 2 ≤ sizeLine; decide), fun pt ht => ⟨(by show 1 ≤ sizeLine; decide), fun pb hb => ?_⟩⟩
    have ha0 : (upd H2 pa (.lst [V.non])) pa = some (.lst (vT [])) := upd_same
    have st1 := same_upd (o := .tup [V.str "", V.int 0]) ht
    have st2 := same_upd (o := .lst [V.ref pt]) hb
    have nab : pa ≠ pb := ne_of_none (st1 _ _ ha0) hb
    have sa : Same H2 (upd H2 pa (.lst [V.non])) := same_upd ha
    have hb2 : H2 pb = none := (sa.trans st1).free hb
    refine ⟨_, rfl, p2, rfl, ⟨_, SqL.of (((sa.trans st1).trans st2) _ _ hp2)⟩, for_list (K := K) (a := p2) (xs := xs) (fun i σ H6 => LI p1 p2 pa pb H2 (run ds i) σ H6)
      ⟨none, rfl, (sa.trans st1).trans st2, st2 _ _ (st1 _ _ ha0), ⟨[pt], upd_same, rfl, fun i t e => ?_⟩⟩ (fun i σ H6 _ ⟨_, _, s6, _⟩ => SqL.of (s6 _ _ hp2)) ?_ ?_⟩
    · cases i with
      | succ j => cases e
      | zero =>
        cases e
        exact ⟨"", 0, rfl, st2 _ _ upd_same⟩
    · rintro i x σ H6 hx ⟨x5, rfl, s6, ha6, hb6⟩
      have hi' : i < xs.length := (List.getElem?_eq_some_iff.mp hx).1
      obtain ⟨d, hd⟩ : ∃ d, ds[i]? = some d := ⟨_, List.getElem?_eq_getElem (by omega)⟩
      obtain ⟨t, rfl, ht2⟩ := hD.2 i x d hx hd
      have ht6 := s6 _ _ ht2
      have hok := run_ok ds i
      have hrl := run_len ds i
      have hrs := run_succ hd
      have hhl := hok.hl
      have hln := hok.ln
      generalize run ds i = D at *
      have hvl := vT_len D.ps
      cases d with
      | step n z =>
        refine ⟨_, rfl, t, _, _, _, rfl, rfl, SqT.of ht6, at_nat (i := 0) rfl rfl, rfl, _, rfl, iteP rfl ?_⟩
        refine ⟨_, rfl, .inl ⟨rfl, _, SqL.of ha6⟩, _, rfl, pa, _, _, rfl, rfl, ha6, small1000 (by omega), ?_⟩
        obtain ⟨ts, g1, g2, g3⟩ := hb6
        have g1' : (upd H6 pa (.lst (vT D.ps ++ [V.int (D.hd : Nat)]))) pb = some (.lst (ts.map V.ref)) := by rw [upd_ne nab.symm]; exact g1
        have kt : ∀ u vs, H6 u = some (.tup vs) → (upd H6 pa (.lst (vT D.ps ++ [V.int (D.hd : Nat)]))) u = some (.tup vs) := fun u vs e => by
          rw [upd_ne (ne_of e ha6 (by intro z; cases z))]
          exact e
        refine ⟨_, rfl, .inl ⟨rfl, _, SqL.of g1'⟩, _, rfl, t, _, _, _, rfl, rfl, SqT.of (kt _ _ ht6), at_nat (i := 1) rfl rfl, _, rfl, t, _, _, _, rfl, rfl, SqT.of (kt _ _ ht6), at_nat (i := 2) rfl rfl, (by show 2 ≤ sizeLine; decide), fun pu hu => ?_⟩
        have su := same_upd (o := .tup [V.str n, V.int z]) hu
        have g1u := su _ _ g1'
        refine ⟨pb, _, _, rfl, rfl, g1u, small1000 (by rw [List.length_map]; omega), ?_⟩
        have hpa : (upd (upd (upd H6 pa (.lst (vT D.ps ++ [V.int (D.hd : Nat)]))) pu (.tup [V.str n, V.int z])) pb (.lst (ts.map V.ref ++ [V.ref pu]))) pa = some (.lst (vT (D.ps ++ [D.hd]))) := by
          rw [upd_ne nab]
          refine su _ _ ?_
          rw [upd_same, vT_append]
        refine ⟨_, rfl, pa, _, rfl, .inl (SqL.of hpa), _, _, rfl, rfl, ?_⟩
        show LI p1 p2 pa pb H2 (run ds (i + 1)) _ _
        rw [hrs, vT_len, List.length_append]
        refine ⟨some (.ref t), ?_, fun c o e => ?_, hpa, ?_⟩
        · have e : (fun (i j : Int) => V.int (i - j)) ((D.ps.length + [D.hd].length + 1 : Nat) : Int) 1 = V.int ((D.ps.length + 1 : Nat) : Int) := congrArg V.int (by show ((D.ps.length + 1 + 1 : Nat) : Int) - 1 = _; omega)
          rw [e]
          rfl
        · rw [upd_ne (ne_of_none e hb2)]
          refine su _ _ ?_
          rw [upd_ne (ne_of_none e ha)]
          exact s6 _ _ e
        · exact StepsL.app g1u g2 (fun j u e => by
            obtain ⟨n', z', e1, e2⟩ := g3 j u e
            exact ⟨n', z', e1, su _ _ (kt _ _ e2)⟩) upd_same
      | val n =>
        refine ⟨_, rfl, t, _, _, _, rfl, rfl, SqT.of ht6, at_nat (i := 0) rfl rfl, rfl, _, rfl, iteN s_vs ?_⟩
        refine ⟨_, rfl, t, _, _, _, rfl, rfl, SqT.of ht6, at_nat (i := 0) rfl rfl, rfl, _, rfl, iteN s_vg ?_⟩
        show LI p1 p2 pa pb H2 (run ds (i + 1)) _ _
        rw [hrs]
        exact ⟨_, rfl, s6, ha6, hb6⟩
      | com u v =>
        refine ⟨_, rfl, t, _, _, _, rfl, rfl, SqT.of ht6, at_nat (i := 0) rfl rfl, rfl, _, rfl, iteN s_cs ?_⟩
        refine ⟨_, rfl, t, _, _, _, rfl, rfl, SqT.of ht6, at_nat (i := 0) rfl rfl, rfl, _, rfl, iteN s_cg ?_⟩
        show LI p1 p2 pa pb H2 (run ds (i + 1)) _ _
        rw [hrs]
        exact ⟨_, rfl, s6, ha6, hb6⟩
      | go z =>
        refine ⟨_, rfl, t, _, _, _, rfl, rfl, SqT.of ht6, at_nat (i := 0) rfl rfl, rfl, _, rfl, iteN s_gs ?_⟩
        refine ⟨_, rfl, t, _, _, _, rfl, rfl, SqT.of ht6, at_nat (i := 0) rfl rfl, rfl, _, rfl, iteP rfl ?_⟩
        have hnx : D.next (.go z) = if InS D z then (⟨D.ps, D.st, z.toNat⟩ : DayS Str) else D := rfl
        refine ⟨_, rfl, t, _, _, _, rfl, rfl, SqT.of ht6, at_nat (i := 1) rfl rfl, _, _, rfl, rfl, _, rfl, iteD (fun e1 => ?_) (fun e1 => ?_)⟩
        · refine ⟨_, rfl, t, _, _, _, rfl, rfl, SqT.of ht6, at_nat (i := 1) rfl rfl, _, rfl, pa, _, rfl, .inl (SqL.of ha6), _, _, rfl, rfl, _, rfl, ?_⟩
          rw [hvl]
          refine iteD (fun e2 => ?_) (fun e2 => ?_)
          · refine ⟨_, rfl, t, _, _, _, rfl, rfl, SqT.of ht6, at_nat (i := 1) rfl rfl, ?_⟩
            show LI p1 p2 pa pb H2 (run ds (i + 1)) _ _
            rw [hrs, hnx, if_pos (by unfold InS; omega)]
            obtain ⟨nz, rfl⟩ : ∃ nz : Nat, z = nz := ⟨z.toNat, by omega⟩
            exact ⟨_, rfl, s6, ha6, hb6⟩
          · show LI p1 p2 pa pb H2 (run ds (i + 1)) _ _
            rw [hrs, hnx, if_neg (by unfold InS; omega)]
            exact ⟨_, rfl, s6, ha6, hb6⟩
        · show LI p1 p2 pa pb H2 (run ds (i + 1)) _ _
          rw [hrs, hnx, if_neg (by unfold InS; omega)]
          exact ⟨_, rfl, s6, ha6, hb6⟩
    · rintro σ H6 ⟨x5, rfl, s6, ha6, hb6⟩
      rw [hxl] at ha6 hb6
      have hok := run_ok ds ds.length
      have hrl := run_len ds ds.length
      rw [hxl]
      generalize hDD : run ds ds.length = D at *
      have hhl := hok.hl
      have hln := hok.ln
      have hvl := vT_len D.ps
      refine ⟨(by show 0 ≤ sizeLine; decide), fun ph hph => ?_⟩
      have sh : Same H6 (upd H6 ph (.lst [])) := same_upd hph
      have hh6 : H6 ph = none := hph
      obtain ⟨ts, g1, g2, g3⟩ := hb6
      refine ⟨_, rfl, pb, ts, D.st.map (·.1), rfl, SqL.of (sh _ _ g1), by rw [List.length_map]; exact g2, fun i t e => ?_, fun pf hpf => ?_⟩
      · obtain ⟨n, z, g4, g5⟩ := g3 i t e
        exact ⟨n, [.int z], by rw [List.getElem?_map, g4]; rfl, sh _ _ g5⟩
      have sf : Same (upd H6 ph (.lst [])) (upd (upd H6 ph (.lst [])) pf (.lst ((D.st.map (·.1)).map V.str))) := same_upd hpf
      refine ⟨pf, D.st.map (·.1), rfl, SqL.of upd_same, by rw [List.length_map]; omega, by rw [List.length_map]; omega, fun pz rs hpz hnd hrl2 hmem hsrt => ?_⟩
      have sz := same_upd (o := .lst (rs.map V.str)) hpz
      have s7 : Same H6 (upd (upd (upd H6 ph (.lst [])) pf (.lst ((D.st.map (·.1)).map V.str))) pz (.lst (rs.map V.str))) := (sh.trans sf).trans sz
      have hph7 : (upd (upd (upd H6 ph (.lst [])) pf (.lst ((D.st.map (·.1)).map V.str))) pz (.lst (rs.map V.str))) ph = some (.lst []) := sz _ _ (sf _ _ upd_same)
      have hpz7 : (upd (upd (upd H6 ph (.lst [])) pf (.lst ((D.st.map (·.1)).map V.str))) pz (.lst (rs.map V.str))) pz = some (.lst (rs.map V.str)) := upd_same
      have nzh : pz ≠ ph := fun z => by rw [z] at hpz; rw [sf _ _ upd_same] at hpz; cases hpz
      generalize hH7 : (upd (upd (upd H6 ph (.lst [])) pf (.lst ((D.st.map (·.1)).map V.str))) pz (.lst (rs.map V.str))) = H7 at s7 hph7 hpz7
      have hrsl : rs.length ≤ 63 := by
        rw [List.length_map] at hrl2
        omega
      refine ⟨pz, rfl, ⟨_, SqL.of hpz7⟩, for_list (K := K) (a := pz) (xs := rs.map V.str) (fun i σ H8 => ∃ (x7 x8 : Option V), σ = [some (.ref p1), some (.ref p2), some (.ref pa), some (.ref pb), some (.int (D.hd : Nat)), x5, some (.ref ph), x7, x8, none, none, none] ∧ Same H6 H8 ∧ H8 pz = some (.lst (rs.map V.str)) ∧ StepsL H8 ph (prs (rs.take i) fun n => amt D.ps D.st n D.hd))
        ⟨none, none, rfl, s7, hpz7, ⟨[], hph7, rfl, fun i t e => (by cases e)⟩⟩ (fun i σ H8 _ ⟨_, _, _, _, h8, _⟩ => SqL.of h8) ?_ ?_⟩
      · rintro i x σ H8 hx ⟨x7, x8, rfl, s8, hz8, hp8⟩
        rw [List.getElem?_map] at hx
        obtain ⟨n, hn, rfl⟩ := Option.map_eq_some_iff.mp hx
        have hb8 : StepsL H8 pb D.st := ⟨ts, s8 _ _ g1, g2, fun i t e => by
          obtain ⟨n, z, g4, g5⟩ := g3 i t e
          exact ⟨n, z, g4, s8 _ _ g5⟩⟩
        refine ⟨_, rfl, _, rfl, _, rfl, _, rfl, pa, pb, D.ps, D.st, D.hd, n, rfl, ⟨SqL.of (s8 _ _ ha6), hok.gd, by omega⟩, hb8.at, hln, hhl, fun H9 s9 => ?_⟩
        have hst9 := hp8.same s9
        have hz9 := s9 _ _ hz8
        have hpt := prs_take (val := fun n => amt D.ps D.st n D.hd) hn
        refine ⟨_, rfl, rfl, _, rfl, iteND (fun e => ?_) (fun e => ?_)⟩
        · have hne : amt D.ps D.st n D.hd ≠ 0 := fun z => e (by rw [z])
          rw [if_pos hne] at hpt
          obtain ⟨us, q1, q2, q3⟩ := hst9
          refine ⟨_, rfl, .inl ⟨rfl, _, SqL.of q1⟩, _, rfl, _, rfl, (by show 2 ≤ sizeLine; decide), fun pu hu => ?_⟩
          have su := same_upd (o := .tup [V.str n, V.int (amt D.ps D.st n D.hd)]) hu
          have hus : us.length ≤ 63 := by
            have h5 : (prs (rs.take i) fun n => amt D.ps D.st n D.hd).length ≤ (rs.take i).length := by
              unfold prs
              rw [List.length_map]
              exact List.length_filter_le _ _
            have h6 : (rs.take i).length ≤ rs.length := by rw [List.length_take]; omega
            omega
          refine ⟨ph, _, _, rfl, rfl, su _ _ q1, small1000 (by rw [List.length_map]; omega), ?_⟩
          refine ⟨_, _, rfl, fun c o ec => ?_, ?_, ?_⟩
          · rw [upd_ne (ne_of_none ec hh6)]
            exact su _ _ (s9 _ _ (s8 _ _ ec))
          · rw [upd_ne nzh]
            exact su _ _ hz9
          · rw [hpt]
            exact StepsL.app (su _ _ q1) q2 (fun j u e => by
              obtain ⟨n', z', e1, e2⟩ := q3 j u e
              exact ⟨n', z', e1, su _ _ e2⟩) upd_same
        · have hze : amt D.ps D.st n D.hd = 0 := V.int.inj e
          rw [if_neg (fun z => z hze), List.append_nil] at hpt
          refine ⟨_, _, rfl, s8.trans s9, hz9, ?_⟩
          rw [hpt]
          exact hst9
      · rintro σ H8 ⟨x7, x8, rfl, s8, hz8, hp8⟩
        rw [List.length_map, List.take_of_length_le (Nat.le_refl _)] at hp8
        have hHeld : HeldAt D (prs rs fun n => amt D.ps D.st n D.hd) := ⟨rs, hnd, hsrt, fun n hn => (hmem n).mpr (amt_named hn), rfl⟩
        generalize prs rs (fun n => amt D.ps D.st n D.hd) = hq at hp8 hHeld
        have s28 : Same H2 H8 := s6.trans s8
        refine ⟨_, rfl, p2, xs, rfl, .inl (SqL.of (s28 _ _ hp2)), fun p9 hp9 => ?_⟩
        have s9 := same_upd (o := .lst xs) hp9
        have s29 := s28.trans s9
        -- ahead
        refine ⟨_, rfl, p9, xs, ds, rfl, SqL.of upd_same, hD.same fun t ys e => s29 _ _ e, by omega, by rw [hDD]; omega, fun t2 a2 r2 qs H10 s10 ht2 ha2 hr2 hq2 => ?_⟩
        rw [hDD] at ht2 ha2 hq2
        have eq2 := held_eq hq2 hHeld
        subst eq2
        have s89 := s9.trans s10
        refine ⟨_, rfl, _, rfl, _, rfl, t2, a2, pa, ph, r2, D.ps, D.hd, qs, rfl, ht2, ha2, hok.gd, by omega, SqL.of (s89 _ _ (s8 _ _ ha6)), hr2, hp8.same s89, true, rfl, iteF ?_⟩
        have hp9' := s10 _ _ (show (upd H8 p9 (.lst xs)) p9 = some (.lst xs) from upd_same)
        have hp2' := s89 _ _ (s28 _ _ hp2)
        have hD10 : DeedsAt H10 xs ds := hD.same fun t ys e => s89 _ _ (s28 _ _ e)
        obtain ⟨m, hsd, hm4⟩ := deeds_sd hD10.all
        refine ⟨_, rfl, _, rfl, _, _, 2, _, rfl, .inr ⟨p9, p2, xs, xs, m, rfl, rfl, .inl ⟨hp9', hp2'⟩, hsd, rfl⟩, by omega, fun H11 s11 => ⟨true, rfl, iteF ?_⟩⟩
        -- there and back
        have s8B := s89.trans s11
        have s2B := s28.trans s8B
        refine ⟨_, rfl, p1, ms1, 0, rfl, SqL.of (s2B _ _ hp1), by omega, fun z => ?_⟩
        refine ⟨_, rfl, pa, _, rfl, .inl (SqL.of (s8B _ _ (s8 _ _ ha6))), _, _, rfl, rfl, by rw [hvl]; omega, ?_⟩
        rw [hvl]
        rw [show (fun (i j : Int) => V.int (i % j)) z ((D.ps.length + 1 : Nat) : Int) = V.int (z % ((D.ps.length + 1 : Nat) : Int)) from rfl]
        generalize hyy : z % ((D.ps.length + 1 : Nat) : Int) = y
        have hy0 : InS D y := by
          have h1 := Int.emod_nonneg z (show ((D.ps.length + 1 : Nat) : Int) ≠ 0 by omega)
          have h2 := Int.emod_lt_of_pos z (show (0 : Int) < ((D.ps.length + 1 : Nat) : Int) by omega)
          unfold InS
          omega
        refine ⟨_, rfl, _, rfl, (by show 2 ≤ sizeLine; decide), fun u1 hu1 => ⟨_, rfl, (by show 2 ≤ sizeLine; decide), fun u2 hu2 => ⟨(by show 2 ≤ sizeLine; decide), fun u3 hu3 => ?_⟩⟩⟩
        have t1 := same_upd (o := .tup [V.str "go", V.int y]) hu1
        have t2' := same_upd (o := .tup [V.str "go", V.int (D.hd : Nat)]) hu2
        have t3 := same_upd (o := .lst [V.ref u1, V.ref u2]) hu3
        have s8C := ((s8B.trans t1).trans t2').trans t3
        have s2C := s28.trans s8C
        refine ⟨p2, u3, xs, _, rfl, rfl, s2C _ _ hp2, upd_same, Nat.le_of_lt (small1000 (by show xs.length + 2 ≤ 1000; omega)), fun p12 hp12 => ?_⟩
        have t4 := same_upd (o := .lst (xs ++ [V.ref u1, V.ref u2])) hp12
        have s8D := s8C.trans t4
        have s2D := s28.trans s8D
        have hrb := run_back ds (y := y) (by rw [hDD]; exact hy0)
        rw [hDD] at hrb
        have hDl := deeds_two (hD.same fun t ys e => s2D _ _ e) (x := .ref u1) (y := .ref u2) (d := .go y) (e := .go (D.hd : Nat)) ⟨u1, rfl, t4 _ _ (t3 _ _ (t2' _ _ upd_same))⟩ ⟨u2, rfl, t4 _ _ (t3 _ _ upd_same)⟩
        refine ⟨_, rfl, p12, _, _, rfl, SqL.of upd_same, hDl, by rw [List.length_append]; show ds.length + 2 ≤ 500; omega, by rw [hrb]; omega, fun t5 a5 r5 qs5 H15 s15 ht5 ha5 hr5 hq5 => ?_⟩
        rw [hrb] at ht5 ha5 hq5
        have eq5 := held_eq hq5 hHeld
        subst eq5
        have s8E := s8D.trans s15
        exact ⟨_, rfl, _, rfl, _, rfl, t5, a5, pa, ph, r5, D.ps, D.hd, qs5, rfl, ht5, ha5, hok.gd, by omega, SqL.of (s8E _ _ (s8 _ _ ha6)), hr5, hp8.same s8E, q _⟩
end
abbrev vErr : List Value := [.type "ValueError", .type "Exception", .type "BaseException", .type "object"]
section
variable {K : PySem.W.Frag} {C D CB CT CS : Addr} {b : Bool}
theorem look_exc (o : PySem.W.excIn K C vErr "ValueError.__new__" = true) : ∃ odd cd osl bm, K.lookup C = some ⟨.type "type", odd, .cls cd, osl⟩ ∧ cd.mro = .ref C :: bm := by
  unfold PySem.W.excIn at o
  split at o
  case h_1 odd cd osl look =>
    split at o
    case h_1 C' bm k0 k1 k2 k3 n k5 e1 e2 =>
      simp only [Bool.and_eq_true, beq_iff_eq, Bool.not_eq_true'] at o
      obtain ⟨⟨⟨⟨⟨q1, q2⟩, q3⟩, q4⟩, q5⟩, q6⟩ := o
      subst q1
      exact ⟨odd, cd, osl, bm, look, e1⟩
    case h_2 => cases o
  case h_2 => cases o
theorem cls_exc (o : PySem.W.excIn K C vErr "ValueError.__new__" = true) : (PySem.W.clsIn K C).isSome = true ∧ PySem.W.typeIn K (.ref C) = some (.type "type") := by
  obtain ⟨odd, cd, osl, bm, look, _⟩ := look_exc o
  constructor
  · unfold PySem.W.clsIn
    rw [look]
    rfl
  · show (K.lookup C).map (·.cls) = some (.type "type")
    rw [look]
    rfl
theorem kitCls_exc (o : PySem.W.excIn K D vErr "ValueError.__new__" = true) (m : PySem.W.mroIn K C (.ref D) = some b) : PySem.W.kitCls K (.ref C) (.ref D) = some b := by
  obtain ⟨h1, h2⟩ := cls_exc o
  show (if ((PySem.W.clsIn K D).isSome && PySem.W.typeIn K (.ref D) == some (.type "type")) = true then PySem.W.mroIn K C (.ref D) else none) = some b
  rw [if_pos (by rw [h1, h2]; rfl)]
  exact m
theorem exm_exc (o : PySem.W.excIn K D vErr "ValueError.__new__" = true) (e : PySem.W.mroIn K D (.type "BaseException") = some true) (m : PySem.W.mroIn K C (.ref D) = some b) : PySem.W.exmOne K (.ref C) (.ref D) = some b := by
  unfold PySem.W.exmOne
  rw [if_pos (by show (PySem.W.mroIn K D (.type "BaseException") == some true) = true; rw [e]; rfl)]
  exact kitCls_exc o m
theorem excD_mk {h : Heap} {mg : Str → Option Value} (X : K.In h) (G : h.Ns mainGlobals mg) (n2 : PySem.W.nsIn K mainGlobals "BadTree" = some (some (.ref CT))) (n3 : PySem.W.nsIn K mainGlobals "BadState" = some (some (.ref CS)))
    (o2 : PySem.W.excIn K CT vErr "ValueError.__new__" = true) (o3 : PySem.W.excIn K CS vErr "ValueError.__new__" = true) (eS : PySem.W.mroIn K CS (.type "BaseException") = some true) (ss : PySem.W.mroIn K CS (.ref CS) = some true) : ∃ CT CS, ExcD K mg CT CS :=
  ⟨CT, CS, ⟨PySem.W.mg_of X G n2, o2⟩, ⟨PySem.W.mg_of X G n3, o3⟩, exm_exc o3 eS ss⟩
end
section
variable {K : PySem.W.Frag} {C : Addr}
theorem day_mk {h : Heap} {mg : Str → Option Value} (X : K.In h) (G : h.Ns mainGlobals mg)
    {f0 : Addr} {oc0 kV0 dc0 pm0 cd0 ct0 : Value} {od0 an0 : Option Addr} {sl0 : Array (Option Value)}
    {f1 : Addr} {oc1 kV1 dc1 pm1 cd1 ct1 : Value} {od1 an1 : Option Addr} {sl1 : Array (Option Value)}
    {f2 : Addr} {oc2 kV2 dc2 pm2 cd2 ct2 : Value} {od2 an2 : Option Addr} {sl2 : Array (Option Value)}
    {f3 : Addr} {oc3 kV3 dc3 pm3 cd3 ct3 : Value} {od3 an3 : Option Addr} {sl3 : Array (Option Value)}
    {f4 : Addr} {oc4 kV4 dc4 pm4 cd4 ct4 : Value} {od4 an4 : Option Addr} {sl4 : Array (Option Value)}
    {f5 : Addr} {oc5 kV5 dc5 pm5 cd5 ct5 : Value} {od5 an5 : Option Addr} {sl5 : Array (Option Value)}
    {f6 : Addr} {oc6 kV6 dc6 pm6 cd6 ct6 : Value} {od6 an6 : Option Addr} {sl6 : Array (Option Value)}
    (aC : PySem.W.nsIn K mainGlobals "Day" = some (some (.ref C)))
    (a0 : PySem.W.findIn K (.ref C) "__init__" = some (some (.ref f0))) (i0 : PySem.W.isFn K (.ref f0) = true) (l0 : K.lookup f0 = some ⟨oc0, od0, .func (PySem.W.fnOf "__init__" "Day.__init__" (defArgs sInit) (defBody sInit) (defScope sInit) .none kV0 dc0 pm0 an0 cd0 ct0), sl0⟩) (c0 : PySem.W.codeIn K cd0 "Day.__init__" = true) (k0 : PySem.W.keepIn K (.ref f0) = true)
    (a1 : PySem.W.findIn K (.ref C) "make_step" = some (some (.ref f1))) (i1 : PySem.W.isFn K (.ref f1) = true) (l1 : K.lookup f1 = some ⟨oc1, od1, .func (PySem.W.fnOf "make_step" "Day.make_step" (defArgs sStep) (defBody sStep) (defScope sStep) .none kV1 dc1 pm1 an1 cd1 ct1), sl1⟩) (c1 : PySem.W.codeIn K cd1 "Day.make_step" = true) (k1 : PySem.W.keepIn K (.ref f1) = true)
    (a2 : PySem.W.findIn K (.ref C) "go_to" = some (some (.ref f2))) (i2 : PySem.W.isFn K (.ref f2) = true) (l2 : K.lookup f2 = some ⟨oc2, od2, .func (PySem.W.fnOf "go_to" "Day.go_to" (defArgs sGo) (defBody sGo) (defScope sGo) .none kV2 dc2 pm2 an2 cd2 ct2), sl2⟩) (c2 : PySem.W.codeIn K cd2 "Day.go_to" = true) (k2 : PySem.W.keepIn K (.ref f2) = true)
    (a3 : PySem.W.findIn K (.ref C) "value_of" = some (some (.ref f3))) (i3 : PySem.W.isFn K (.ref f3) = true) (l3 : K.lookup f3 = some ⟨oc3, od3, .func (PySem.W.fnOf "value_of" "Day.value_of" (defArgs sVal) (defBody sVal) (defScope sVal) .none kV3 dc3 pm3 an3 cd3 ct3), sl3⟩) (c3 : PySem.W.codeIn K cd3 "Day.value_of" = true) (k3 : PySem.W.keepIn K (.ref f3) = true)
    (a4 : PySem.W.findIn K (.ref C) "common_elder" = some (some (.ref f4))) (i4 : PySem.W.isFn K (.ref f4) = true) (l4 : K.lookup f4 = some ⟨oc4, od4, .func (PySem.W.fnOf "common_elder" "Day.common_elder" (defArgs sCom) (defBody sCom) (defScope sCom) .none kV4 dc4 pm4 an4 cd4 ct4), sl4⟩) (c4 : PySem.W.codeIn K cd4 "Day.common_elder" = true) (k4 : PySem.W.keepIn K (.ref f4) = true)
    (a5 : PySem.W.findIn K (.ref C) "do_deed" = some (some (.ref f5))) (i5 : PySem.W.isFn K (.ref f5) = true) (l5 : K.lookup f5 = some ⟨oc5, od5, .func (PySem.W.fnOf "do_deed" "Day.do_deed" (defArgs sDo) (defBody sDo) (defScope sDo) .none kV5 dc5 pm5 an5 cd5 ct5), sl5⟩) (c5 : PySem.W.codeIn K cd5 "Day.do_deed" = true) (k5 : PySem.W.keepIn K (.ref f5) = true)
    (a6 : PySem.W.findIn K (.ref C) "pairs_at_hand" = some (some (.ref f6))) (i6 : PySem.W.isFn K (.ref f6) = true) (l6 : K.lookup f6 = some ⟨oc6, od6, .func (PySem.W.fnOf "pairs_at_hand" "Day.pairs_at_hand" (defArgs sPairs) (defBody sPairs) (defScope sPairs) .none kV6 dc6 pm6 an6 cd6 ct6), sl6⟩) (c6 : PySem.W.codeIn K cd6 "Day.pairs_at_hand" = true) (k6 : PySem.W.keepIn K (.ref f6) = true)
    (pg : PySem.W.plainGet K C Str.empty = true) (hd : PySem.W.hasDictIn K C = true) (po : PySem.W.plainOver K C = true) (sa : PySem.W.findIn K (.ref C) "__setattr__" = some (some (.builtin "object.__setattr__"))) (mk : PySem.W.makesIn K C = true) (kc : PySem.W.keepIn K (.ref C) = true)
    (nP : PySem.W.findIn K (.ref C) "parents" = some none) (nA : PySem.W.findIn K (.ref C) "amounts" = some none) (nH : PySem.W.findIn K (.ref C) "hand" = some none) :
    ∃ (C : Addr) (f0 f1 f2 f3 f4 f5 f6 : Addr) (fd0 fd1 fd2 fd3 fd4 fd5 fd6 : FuncData), DayT K mg C ∧ Mk K C f0 ∧ Mt K C "__init__" "Day.__init__" sInit ["self"] f0 fd0 ∧ Mt K C "make_step" "Day.make_step" sStep ["self", "name", "amount"] f1 fd1 ∧ Mt K C "go_to" "Day.go_to" sGo ["self", "state"] f2 fd2 ∧ Mt K C "value_of" "Day.value_of" sVal ["self", "name"] f3 fd3 ∧ Mt K C "common_elder" "Day.common_elder" sCom ["self", "one", "two"] f4 fd4 ∧ Mt K C "do_deed" "Day.do_deed" sDo ["self", "deed"] f5 fd5 ∧ Mt K C "pairs_at_hand" "Day.pairs_at_hand" sPairs ["self"] f6 fd6 := by
  have F0 := fun_mk (st := sInit) l0 c0 k0
  have b0 := F0.binds (ps := ["self"]) fun _ _ _ _ _ _ us hl => match us, hl with | [_], _ => rfl
  have F1 := fun_mk (st := sStep) l1 c1 k1
  have b1 := F1.binds (ps := ["self", "name", "amount"]) fun _ _ _ _ _ _ us hl => match us, hl with | [_, _, _], _ => rfl
  have F2 := fun_mk (st := sGo) l2 c2 k2
  have b2 := F2.binds (ps := ["self", "state"]) fun _ _ _ _ _ _ us hl => match us, hl with | [_, _], _ => rfl
  have F3 := fun_mk (st := sVal) l3 c3 k3
  have b3 := F3.binds (ps := ["self", "name"]) fun _ _ _ _ _ _ us hl => match us, hl with | [_, _], _ => rfl
  have F4 := fun_mk (st := sCom) l4 c4 k4
  have b4 := F4.binds (ps := ["self", "one", "two"]) fun _ _ _ _ _ _ us hl => match us, hl with | [_, _, _], _ => rfl
  have F5 := fun_mk (st := sDo) l5 c5 k5
  have b5 := F5.binds (ps := ["self", "deed"]) fun _ _ _ _ _ _ us hl => match us, hl with | [_, _], _ => rfl
  have F6 := fun_mk (st := sPairs) l6 c6 k6
  have b6 := F6.binds (ps := ["self"]) fun _ _ _ _ _ _ us hl => match us, hl with | [_], _ => rfl
  exact ⟨C, f0, f1, f2, f3, f4, f5, f6, _, _, _, _, _, _, _, ⟨⟨pg, hd, po, sa⟩, nP, nA, nH, PySem.W.mg_of X G aC⟩, ⟨mk, a0, i0, kc⟩, ⟨F0, ⟨a0, i0, k0⟩, b0⟩, ⟨F1, ⟨a1, i1, k1⟩, b1⟩, ⟨F2, ⟨a2, i2, k2⟩, b2⟩, ⟨F3, ⟨a3, i3, k3⟩, b3⟩, ⟨F4, ⟨a4, i4, k4⟩, b4⟩, ⟨F5, ⟨a5, i5, k5⟩, b5⟩, ⟨F6, ⟨a6, i6, k6⟩, b6⟩⟩
end
theorem walk {l : PySem.W.OpenLaw} {q : Program} {loose : List Str} {XP : (Str → Option Value) → Heap → Prop} {YP : World → Heap → Prop} {d : DefRec} {K : Params → PySem.W.Frag} (hn : l.most = some 63) (hdf : d.params.defaults = [])
    (hY : ∀ (w : World) (h : Heap), YP w h → (K w.params).In h)
    (F : ∀ (w : World) (mg : Str → Option Value) (fa : Addr) (h : Heap), (K w.params).In h → h.Ns mainGlobals mg → mg d.name = some (.ref fa) →
      ∃ fd : FuncData, (∀ (s : Shared) (u : Value), BindsTo s fd ⟨[u], []⟩ [("_law_script", u)]) ∧ ∀ base : Heap, (K w.params).In base → base.Ns mainGlobals mg → FnOk l.prog w (K w.params) mg base CX0 lawK fa fd ["_law_script"] (spLaw (K w.params))) :
    PySem.W.WalkO q loose XP YP l.row.toRowW d [] (fun f vs => PySem.call f vs) :=
  L2.walk_of (n := 63) (k := lawK) (x := "_law_script") (CX := fun _ => CX0) (sp := fun w => spLaw (K w.params)) hn (by decide) hdf ⟨rfl, by decide, by decide⟩ hY F (fun _ _ a ns hl _ hS => ⟨a, ns, rfl, hS, hl, fun _ => rfl⟩) fun _ _ _ _ _ z => z
end Bw
open PySem PySem.W PyProof.Rows
set_option maxRecDepth 100000 in
set_option maxHeartbeats 0 in
theorem PySem.Challenge.cw_branchway_k06_whole_there_and_back_holds : PySem.Challenge.rw_branchway_k06_whole_there_and_back.Holds := by
  w_on; o_law; k_head; (case hw => w_witness2)
  k_fill
  refine Bw.walk (l := PySem.Challenge.rw_branchway_k06_whole_there_and_back) rfl rfl (fun w h Y => PySem.W.kIn_of Y) ?F
  case F =>
    intro w mg fa h KX G hmg
    have EsCheckTree : ∃ (f : Addr) (fd : FuncData), Bw.Fn (L2.KOf KX) mg "check_tree" Bw.sCheckTree ["parents"] f fd := by
      dsimp only [L2.KOf]
      refine' Bw.fn_mk KX G (fun _ _ _ _ _ _ us hl => match us, hl with | [_], _ => rfl) ?a ?l ?c ?k
      (case a => k_is); (case l => k_is); (case c => k_is); (case k => k_is)
    have EsCheckState : ∃ (f : Addr) (fd : FuncData), Bw.Fn (L2.KOf KX) mg "check_state" Bw.sCheckState ["parents", "state"] f fd := by
      dsimp only [L2.KOf]
      refine' Bw.fn_mk KX G (fun _ _ _ _ _ _ us hl => match us, hl with | [_, _], _ => rfl) ?a ?l ?c ?k
      (case a => k_is); (case l => k_is); (case c => k_is); (case k => k_is)
    have EsCheckStates : ∃ (f : Addr) (fd : FuncData), Bw.Fn (L2.KOf KX) mg "check_states" Bw.sCheckStates ["parents", "one", "two"] f fd := by
      dsimp only [L2.KOf]
      refine' Bw.fn_mk KX G (fun _ _ _ _ _ _ us hl => match us, hl with | [_, _, _], _ => rfl) ?a ?l ?c ?k
      (case a => k_is); (case l => k_is); (case c => k_is); (case k => k_is)
    have EsMeeting : ∃ (f : Addr) (fd : FuncData), Bw.Fn (L2.KOf KX) mg "meeting_state" Bw.sMeeting ["parents", "one", "two"] f fd := by
      dsimp only [L2.KOf]
      refine' Bw.fn_mk KX G (fun _ _ _ _ _ _ us hl => match us, hl with | [_, _, _], _ => rfl) ?a ?l ?c ?k
      (case a => k_is); (case l => k_is); (case c => k_is); (case k => k_is)
    have EsBeneath : ∃ (f : Addr) (fd : FuncData), Bw.Fn (L2.KOf KX) mg "states_beneath" Bw.sBeneath ["parents", "top", "state"] f fd := by
      dsimp only [L2.KOf]
      refine' Bw.fn_mk KX G (fun _ _ _ _ _ _ us hl => match us, hl with | [_, _, _], _ => rfl) ?a ?l ?c ?k
      (case a => k_is); (case l => k_is); (case c => k_is); (case k => k_is)
    have EsNearest : ∃ (f : Addr) (fd : FuncData), Bw.Fn (L2.KOf KX) mg "nearest" Bw.sNearest ["parents", "one", "two"] f fd := by
      dsimp only [L2.KOf]
      refine' Bw.fn_mk KX G (fun _ _ _ _ _ _ us hl => match us, hl with | [_, _, _], _ => rfl) ?a ?l ?c ?k
      (case a => k_is); (case l => k_is); (case c => k_is); (case k => k_is)
    have EsWay : ∃ (f : Addr) (fd : FuncData), Bw.Fn (L2.KOf KX) mg "way" Bw.sWay ["parents", "one", "two"] f fd := by
      dsimp only [L2.KOf]
      refine' Bw.fn_mk KX G (fun _ _ _ _ _ _ us hl => match us, hl with | [_, _, _], _ => rfl) ?a ?l ?c ?k
      (case a => k_is); (case l => k_is); (case c => k_is); (case k => k_is)
    have EsBehind : ∃ (f : Addr) (fd : FuncData), Bw.Fn (L2.KOf KX) mg "behind" Bw.sBehind ["deeds"] f fd := by
      dsimp only [L2.KOf]
      refine' Bw.fn_mk KX G (fun _ _ _ _ _ _ us hl => match us, hl with | [_], _ => rfl) ?a ?l ?c ?k
      (case a => k_is); (case l => k_is); (case c => k_is); (case k => k_is)
    have EsWhole : ∃ (f : Addr) (fd : FuncData), Bw.Fn (L2.KOf KX) mg "_law_whole" Bw.sWhole ["_law_found"] f fd := by
      dsimp only [L2.KOf]
      refine' Bw.fn_mk KX G (fun _ _ _ _ _ _ us hl => match us, hl with | [_], _ => rfl) ?a ?l ?c ?k
      (case a => k_is); (case l => k_is); (case c => k_is); (case k => k_is)
    have EsAt : ∃ (f : Addr) (fd : FuncData), Bw.Fn (L2.KOf KX) mg "_law_at" Bw.sAt ["_law_script", "_law_k"] f fd := by
      dsimp only [L2.KOf]
      refine' Bw.fn_mk KX G (fun _ _ _ _ _ _ us hl => match us, hl with | [_, _], _ => rfl) ?a ?l ?c ?k
      (case a => k_is); (case l => k_is); (case c => k_is); (case k => k_is)
    have EsUp : ∃ (f : Addr) (fd : FuncData), Bw.Fn (L2.KOf KX) mg "_law_up" Bw.sUp ["_law_parents", "_law_state"] f fd := by
      dsimp only [L2.KOf]
      refine' Bw.fn_mk KX G (fun _ _ _ _ _ _ us hl => match us, hl with | [_, _], _ => rfl) ?a ?l ?c ?k
      (case a => k_is); (case l => k_is); (case c => k_is); (case k => k_is)
    have EsSameTree : ∃ (f : Addr) (fd : FuncData), Bw.Fn (L2.KOf KX) mg "_law_same_tree" Bw.sSameTree ["_law_handed", "_law_parents"] f fd := by
      dsimp only [L2.KOf]
      refine' Bw.fn_mk KX G (fun _ _ _ _ _ _ us hl => match us, hl with | [_, _], _ => rfl) ?a ?l ?c ?k
      (case a => k_is); (case l => k_is); (case c => k_is); (case k => k_is)
    have EsDeeds : ∃ (f : Addr) (fd : FuncData), Bw.Fn (L2.KOf KX) mg "_law_deeds" Bw.sDeeds ["_law_cells"] f fd := by
      dsimp only [L2.KOf]
      refine' Bw.fn_mk KX G (fun _ _ _ _ _ _ us hl => match us, hl with | [_], _ => rfl) ?a ?l ?c ?k
      (case a => k_is); (case l => k_is); (case c => k_is); (case k => k_is)
    have EsHad : ∃ (f : Addr) (fd : FuncData), Bw.Fn (L2.KOf KX) mg "_law_had" Bw.sHad ["_law_parents", "_law_steps", "_law_state", "_law_name"] f fd := by
      dsimp only [L2.KOf]
      refine' Bw.fn_mk KX G (fun _ _ _ _ _ _ us hl => match us, hl with | [_, _, _, _], _ => rfl) ?a ?l ?c ?k
      (case a => k_is); (case l => k_is); (case c => k_is); (case k => k_is)
    have EsArePairs : ∃ (f : Addr) (fd : FuncData), Bw.Fn (L2.KOf KX) mg "_law_are_pairs" Bw.sArePairs ["_law_found"] f fd := by
      dsimp only [L2.KOf]
      refine' Bw.fn_mk KX G (fun _ _ _ _ _ _ us hl => match us, hl with | [_], _ => rfl) ?a ?l ?c ?k
      (case a => k_is); (case l => k_is); (case c => k_is); (case k => k_is)
    have EsAsDue : ∃ (f : Addr) (fd : FuncData), Bw.Fn (L2.KOf KX) mg "_law_as_due" Bw.sAsDue ["_law_found", "_law_parents", "_law_here", "_law_held"] f fd := by
      dsimp only [L2.KOf]
      refine' Bw.fn_mk KX G (fun _ _ _ _ _ _ us hl => match us, hl with | [_, _, _, _], _ => rfl) ?a ?l ?c ?k
      (case a => k_is); (case l => k_is); (case c => k_is); (case k => k_is)
    have EsMixed : ∃ (f : Addr) (fd : FuncData), Bw.Fn (L2.KOf KX) mg "_law_mixed" Bw.sMixed ["_law_script"] f fd := by
      dsimp only [L2.KOf]
      refine' Bw.fn_mk KX G (fun _ _ _ _ _ _ us hl => match us, hl with | [_], _ => rfl) ?a ?l ?c ?k
      (case a => k_is); (case l => k_is); (case c => k_is); (case k => k_is)
    have EsWas : ∃ (f : Addr) (fd : FuncData), Bw.Fn (L2.KOf KX) mg "_law_as_it_was" Bw.sWas ["_law_handed", "_law_own"] f fd := by
      dsimp only [L2.KOf]
      refine' Bw.fn_mk KX G (fun _ _ _ _ _ _ us hl => match us, hl with | [_, _], _ => rfl) ?a ?l ?c ?k
      (case a => k_is); (case l => k_is); (case c => k_is); (case k => k_is)
    have EsLaw : ∃ (f : Addr) (fd : FuncData), Bw.Fn (L2.KOf KX) mg "law" Bw.sLaw ["_law_script"] f fd := by
      dsimp only [L2.KOf]
      refine' Bw.fn_mk KX G (fun _ _ _ _ _ _ us hl => match us, hl with | [_], _ => rfl) ?a ?l ?c ?k
      (case a => k_is); (case l => k_is); (case c => k_is); (case k => k_is)
    obtain ⟨fsCheckTree, fdsCheckTree, FsCheckTree⟩ := EsCheckTree
    obtain ⟨fsCheckState, fdsCheckState, FsCheckState⟩ := EsCheckState
    obtain ⟨fsCheckStates, fdsCheckStates, FsCheckStates⟩ := EsCheckStates
    obtain ⟨fsMeeting, fdsMeeting, FsMeeting⟩ := EsMeeting
    obtain ⟨fsBeneath, fdsBeneath, FsBeneath⟩ := EsBeneath
    obtain ⟨fsNearest, fdsNearest, FsNearest⟩ := EsNearest
    obtain ⟨fsWay, fdsWay, FsWay⟩ := EsWay
    obtain ⟨fsBehind, fdsBehind, FsBehind⟩ := EsBehind
    obtain ⟨fsWhole, fdsWhole, FsWhole⟩ := EsWhole
    obtain ⟨fsAt, fdsAt, FsAt⟩ := EsAt
    obtain ⟨fsUp, fdsUp, FsUp⟩ := EsUp
    obtain ⟨fsSameTree, fdsSameTree, FsSameTree⟩ := EsSameTree
    obtain ⟨fsDeeds, fdsDeeds, FsDeeds⟩ := EsDeeds
    obtain ⟨fsHad, fdsHad, FsHad⟩ := EsHad
    obtain ⟨fsArePairs, fdsArePairs, FsArePairs⟩ := EsArePairs
    obtain ⟨fsAsDue, fdsAsDue, FsAsDue⟩ := EsAsDue
    obtain ⟨fsMixed, fdsMixed, FsMixed⟩ := EsMixed
    obtain ⟨fsWas, fdsWas, FsWas⟩ := EsWas
    obtain ⟨fsLaw, fdsLaw, FsLaw⟩ := EsLaw
    have B : Bw.Blt mg := by
      have z : ∀ x : Str, PySem.W.nsIn (L2.KOf KX) mainGlobals x = some none → mg x = none := fun x e => PySem.W.mg_none_of KX G e
      dsimp only [L2.KOf] at z
      refine ⟨z _ ?a, z _ ?b, z _ ?c, z _ ?d, z _ ?e, z _ ?f, z _ ?g⟩
      (case a => k_is); (case b => k_is); (case c => k_is); (case d => k_is); (case e => k_is); (case f => k_is); (case g => k_is)
    have B2 : Bw.Blt2 mg := by
      have z : ∀ x : Str, PySem.W.nsIn (L2.KOf KX) mainGlobals x = some none → mg x = none := fun x e => PySem.W.mg_none_of KX G e
      dsimp only [L2.KOf] at z
      refine ⟨z _ ?a, z _ ?b, z _ ?c⟩
      (case a => k_is); (case b => k_is); (case c => k_is)
    have B3 : Bw.Blt3 mg := by
      have z : ∀ x : Str, PySem.W.nsIn (L2.KOf KX) mainGlobals x = some none → mg x = none := fun x e => PySem.W.mg_none_of KX G e
      dsimp only [L2.KOf] at z
      refine ⟨z _ ?a, z _ ?b⟩
      (case a => k_is); (case b => k_is)
    have B6 : Bw.Blt6 mg := by
      have z : ∀ x : Str, PySem.W.nsIn (L2.KOf KX) mainGlobals x = some none → mg x = none := fun x e => PySem.W.mg_none_of KX G e
      dsimp only [L2.KOf] at z
      refine ⟨z _ ?a, z _ ?b⟩
      (case a => k_is); (case b => k_is)
    have EX : ∃ CT CS, Bw.ExcD (L2.KOf KX) mg CT CS := by
      dsimp only [L2.KOf]
      refine' Bw.excD_mk KX G ?n2 ?n3 ?o2 ?o3 ?eS ?ss
      (case n2 => k_is); (case n3 => k_is)
      (case o2 => first | k_is | k_exc); (case o3 => first | k_is | k_exc)
      (case eS => k_is); (case ss => k_is)
    obtain ⟨CT, CS, XD⟩ := EX
    have ED : ∃ (C : Addr) (g0 g1 g2 g3 g4 g5 g6 : Addr) (gd0 gd1 gd2 gd3 gd4 gd5 gd6 : FuncData), Bw.DayT (L2.KOf KX) mg C ∧ L2.Mk (L2.KOf KX) C g0 ∧ Bw.Mt (L2.KOf KX) C "__init__" "Day.__init__" Bw.sInit ["self"] g0 gd0 ∧ Bw.Mt (L2.KOf KX) C "make_step" "Day.make_step" Bw.sStep ["self", "name", "amount"] g1 gd1 ∧ Bw.Mt (L2.KOf KX) C "go_to" "Day.go_to" Bw.sGo ["self", "state"] g2 gd2 ∧ Bw.Mt (L2.KOf KX) C "value_of" "Day.value_of" Bw.sVal ["self", "name"] g3 gd3 ∧ Bw.Mt (L2.KOf KX) C "common_elder" "Day.common_elder" Bw.sCom ["self", "one", "two"] g4 gd4 ∧ Bw.Mt (L2.KOf KX) C "do_deed" "Day.do_deed" Bw.sDo ["self", "deed"] g5 gd5 ∧ Bw.Mt (L2.KOf KX) C "pairs_at_hand" "Day.pairs_at_hand" Bw.sPairs ["self"] g6 gd6 := by
      dsimp only [L2.KOf]
      refine' Bw.day_mk KX G ?aC ?a0 ?i0 ?l0 ?c0 ?k0 ?a1 ?i1 ?l1 ?c1 ?k1 ?a2 ?i2 ?l2 ?c2 ?k2 ?a3 ?i3 ?l3 ?c3 ?k3 ?a4 ?i4 ?l4 ?c4 ?k4 ?a5 ?i5 ?l5 ?c5 ?k5 ?a6 ?i6 ?l6 ?c6 ?k6 ?pg ?hd ?po ?sa ?mk ?kc ?nP ?nA ?nH
      (case aC => k_is)
      (case a0 => k_is)
      (case i0 => k_is)
      (case l0 => k_is)
      (case c0 => k_is)
      (case k0 => k_is)
      (case a1 => k_is)
      (case i1 => k_is)
      (case l1 => k_is)
      (case c1 => k_is)
      (case k1 => k_is)
      (case a2 => k_is)
      (case i2 => k_is)
      (case l2 => k_is)
      (case c2 => k_is)
      (case k2 => k_is)
      (case a3 => k_is)
      (case i3 => k_is)
      (case l3 => k_is)
      (case c3 => k_is)
      (case k3 => k_is)
      (case a4 => k_is)
      (case i4 => k_is)
      (case l4 => k_is)
      (case c4 => k_is)
      (case k4 => k_is)
      (case a5 => k_is)
      (case i5 => k_is)
      (case l5 => k_is)
      (case c5 => k_is)
      (case k5 => k_is)
      (case a6 => k_is)
      (case i6 => k_is)
      (case l6 => k_is)
      (case c6 => k_is)
      (case k6 => k_is)
      (case pg => k_is)
      (case hd => k_is)
      (case po => k_is)
      (case sa => k_is)
      (case mk => k_is)
      (case kc => k_is)
      (case nP => k_is)
      (case nA => k_is)
      (case nH => k_is)
    obtain ⟨C, g0, g1, g2, g3, g4, g5, g6, gd0, gd1, gd2, gd3, gd4, gd5, gd6, T, MK, M0, M1, M2, M3, M4, M5, M6⟩ := ED
    have e0 := hmg.symm.trans FsLaw.mx
    cases e0
    refine ⟨fdsLaw, fun s u => .of_eq (FsLaw.ba [u] rfl), fun base _ _ => ?_⟩
    have CS0 := Bw.okCheckStates (P := PySem.Challenge.rw_branchway_k06_whole_there_and_back.prog) (w := w) (base := base) B FsCheckStates FsCheckTree FsCheckState
    have CSF := Bw.okCheckStatesF (P := PySem.Challenge.rw_branchway_k06_whole_there_and_back.prog) (w := w) (base := base) B XD.XT XD.XS FsCheckStates FsCheckTree FsCheckState
    have g2 := Bw.okNearest FsNearest FsCheckStates FsMeeting CS0
    have g2' := Bw.okNearestF FsNearest FsCheckStates CSF
    have g4 := Bw.okWay B B2 FsWay FsCheckStates FsMeeting FsBeneath CS0
    have g4' := Bw.okWayF FsWay FsCheckStates CSF
    have gg := Bw.okGo T XD M2 FsWay g4 g4'
    have gc := Bw.okCom T XD M4 FsNearest g2 g2'
    have gd := Bw.okDo T M5 M1 (Bw.okStep B B3 T M1) M2 gg M3 (Bw.okVal T M3) M4 gc
    exact Bw.okLaw B B6 FsLaw FsMixed (Bw.okMixed B FsMixed) FsDeeds (Bw.okDeeds B FsDeeds) FsHad (Bw.okHad FsHad FsUp) FsBehind (Bw.okBehind T FsBehind MK M0 M5 gd M6 (Bw.okPairs B6 T M6)) FsAsDue (Bw.okAsDue B B2 FsAsDue FsSameTree FsWhole FsArePairs) FsWas (Bw.okWas B B2 FsWas) FsAt (Bw.okAt B FsAt)
#print axioms PySem.Challenge.cw_branchway_k06_whole_there_and_back_holds
