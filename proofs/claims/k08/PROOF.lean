import PyProof.Rows.All
import Wide.All
import OpenK.AllK
import Wide.FinOn
import Lean
import PyProof.EqAt
import PyProof.EqKinds
import PyProof.TupleCall
import PyProof.SetKind
import PyProof.DictStraight
import PyProof.WalksS
import PyProof.WalksMore
import PyProof.Seq
import PyProof.FactsAll.set_1
import PyProof.Rows.SetFrom
import KE.KDictSum
import KE.KRevIter
import PyProof.ListRange
import PyProof.NeKinds
import KE.KListLetter
import PyProof.CompFree
import OpenK.KOwn
import KE.KTryMore
import PyProof.StationsW
import PyProof.Rows.Own
import PyProof.RulesAs
import PyProof.NsDelKeeps
import PyProof.CompMap
import PySem.Challenge.RW_leafsheet_k08_whole_day
set_option Elab.async false
set_option linter.all false
set_option maxRecDepth 100000
namespace L2
open PySem PySem.Spec PyProof.Rows

/-- a key: an int or a str -/
abbrev Key := Sum Int Str
def keyIs : Key → Value → Bool
  | .inl k, v => Value.isInt k v
  | .inr x, v => Value.isStrOf x v
def keyH (w : World) : Key → Int
  | .inl k => hashInt k
  | .inr x => hashStr w x
theorem keyIs_shape : ∀ {k : Key} {v : Value}, keyIs k v = true → (∃ i t, k = Sum.inl i ∧ v = Value.int i t) ∨ (∃ x t, k = Sum.inr x ∧ v = Value.str x t)
  | .inl i, v, h => by
    obtain ⟨t, e⟩ := Value.isInt_shape (k := i) (v := v) h
    exact .inl ⟨i, t, rfl, e⟩
  | .inr x, v, h => by
    obtain ⟨t, e⟩ := Value.isStrOf_shape (x := x) (v := v) h
    exact .inr ⟨x, t, rfl, e⟩
theorem keyIs_int (i : Int) (t : Tok) : keyIs (.inl i) (.int i t) = true := by simp [keyIs, Value.isInt]
theorem keyIs_str (x : Str) (t : Tok) : keyIs (.inr x) (.str x t) = true := by simp [keyIs, Value.isStrOf]
theorem key_ll (a b : Int) : decide ((Sum.inl a : Key) = Sum.inl b) = (a == b) := by
  by_cases e : a = b
  · subst e; simp
  · have h : ¬ (Sum.inl a : Key) = Sum.inl b := fun q => e (Sum.inl.inj q)
    rw [decide_eq_false h]
    exact (beq_eq_false_iff_ne.mpr e).symm
theorem key_rr (a b : Str) : decide ((Sum.inr a : Key) = Sum.inr b) = decide (a = b) := by
  by_cases e : a = b
  · subst e; simp
  · have h : ¬ (Sum.inr a : Key) = Sum.inr b := fun q => e (Sum.inr.inj q)
    rw [decide_eq_false h, decide_eq_false e]
theorem key_lr (a : Int) (b : Str) : decide ((Sum.inl a : Key) = Sum.inr b) = false := decide_eq_false (fun q => nomatch q)
theorem key_rl (a : Str) (b : Int) : decide ((Sum.inr a : Key) = Sum.inl b) = false := decide_eq_false (fun q => nomatch q)

def mixKind (prog : Program) (w : World) : PySem.KeyKind prog w Key where
  is := keyIs
  hash := keyH w
  inj := fun v a b ha hb => by
    rcases keyIs_shape ha with ⟨i, t, rfl, rfl⟩ | ⟨x, t, rfl, rfl⟩
    · rcases keyIs_shape hb with ⟨j, u, rfl, e⟩ | ⟨y, u, rfl, e⟩
      · injection e with e1 _; rw [e1]
      · exact nomatch e
    · rcases keyIs_shape hb with ⟨j, u, rfl, e⟩ | ⟨y, u, rfl, e⟩
      · exact nomatch e
      · injection e with e1 _; rw [e1]
  byValue := fun k v h => by
    rcases keyIs_shape h with ⟨i, t, rfl, rfl⟩ | ⟨x, t, rfl, rfl⟩ <;> rfl
  pyHash := fun hv h => by
    rcases keyIs_shape hv with ⟨i, t, rfl, rfl⟩ | ⟨x, t, rfl, rfl⟩
    · exact wpAny_pyHash_int h
    · exact wpAny_pyHash_str h
  eqBool := fun hu hv h => by
    rcases keyIs_shape hu with ⟨i, t, rfl, rfl⟩ | ⟨x, t, rfl, rfl⟩
    · rcases keyIs_shape hv with ⟨j, u, rfl, rfl⟩ | ⟨y, u, rfl, rfl⟩
      · rw [key_ll] at h; exact wpAny_eqBool_int h
      · rw [key_lr] at h; exact SeqAt.EqAt.int_str i t y u _ _ _ _ h
    · rcases keyIs_shape hv with ⟨j, u, rfl, rfl⟩ | ⟨y, u, rfl, rfl⟩
      · rw [key_rl] at h; exact SeqAt.EqAt.str_int x t j u _ _ _ _ h
      · rw [key_rr] at h; exact wpAny_eqBool_str h
  «strs» := fun k x t v h => by
    rcases keyIs_shape h with ⟨i, u, rfl, e⟩ | ⟨y, u, rfl, e⟩
    · exact nomatch e
    · injection e with e1 _
      subst e1
      cases v <;> rfl

theorem mixKind_is (prog : Program) (w : World) (k : Key) (v : Value) : (mixKind prog w).is k v = keyIs k v := rfl
theorem mixKind_int (prog : Program) (w : World) (i : Int) (t : Tok) : (mixKind prog w).is (.inl i) (.int i t) = true := keyIs_int i t
theorem mixKind_str (prog : Program) (w : World) (x : Str) (t : Tok) : (mixKind prog w).is (.inr x) (.str x t) = true := keyIs_str x t
end L2

namespace L2
open PySem PySem.Spec PyProof.Rows

/-- a value, without the heap -/
inductive V where
  | non | bl (b : Bool) | int (i : Int) | str (x : Str) | byt (b : Array UInt8) | flt (b : UInt64) | ref (a : Addr) | ty (n : String)
  deriving DecidableEq

def RelV : V → Value → Prop
  | .non, u => u = Value.none
  | .bl b, u => u = Value.bool b
  | .int i, u => ∃ t, u = Value.int i t
  | .str x, u => ∃ t, u = Value.str x t
  | .byt b, u => ∃ t, u = Value.bytes b t
  | .flt b, u => ∃ t, u = Value.float b t
  | .ref a, u => u = Value.ref a
  | .ty n, u => u = Value.type n

abbrev Vals : List V → List Value → Prop := Paired RelV
theorem Vals.length {xs : List V} {us : List Value} (r : Vals xs us) : xs.length = us.length := Paired.length r
theorem Vals.get : ∀ {xs : List V} {us : List Value} {i : Nat} {x : V}, Vals xs us → xs[i]? = some x → ∃ u, us[i]? = some u ∧ RelV x u
  | _, _, _, _, .nil, e => by simp at e
  | _, _, 0, _, .cons r _, e => by simp at e; subst e; exact ⟨_, rfl, r⟩
  | _, _, i + 1, x, .cons _ t, e => by
    obtain ⟨u, h1, h2⟩ := Vals.get (i := i) (x := x) t (by simpa using e)
    exact ⟨u, by simpa using h1, h2⟩
theorem Vals.set {x : V} {u : Value} (r : RelV x u) : ∀ {xs : List V} {us : List Value} (i : Nat), Vals xs us → Vals (xs.set i x) (us.set i u)
  | _, _, _, .nil => .nil
  | _, _, 0, .cons _ t => .cons r t
  | _, _, i + 1, .cons q t => .cons q (Vals.set r i t)
theorem Vals.append : ∀ {xs ys : List V} {us ws : List Value}, Vals xs us → Vals ys ws → Vals (xs ++ ys) (us ++ ws)
  | _, _, _, _, .nil, s => s
  | _, _, _, _, .cons r t, s => .cons r (Vals.append t s)
theorem Vals.take : ∀ {xs : List V} {us : List Value} (n : Nat), Vals xs us → Vals (xs.take n) (us.take n)
  | _, _, 0, _ => .nil
  | _, _, _ + 1, .nil => .nil
  | _, _, n + 1, .cons r t => .cons r (Vals.take n t)
theorem Vals.drop : ∀ {xs : List V} {us : List Value} (n : Nat), Vals xs us → Vals (xs.drop n) (us.drop n)
  | _, _, 0, r => r
  | _, _, _ + 1, .nil => .nil
  | _, _, n + 1, .cons _ t => Vals.drop n t
theorem Vals.none_of : ∀ {xs : List V} {us : List Value} {i : Nat}, Vals xs us → xs[i]? = none → us[i]? = none := fun {xs us i} r e => by
  have h1 := r.length
  have h2 : xs.length ≤ i := List.getElem?_eq_none_iff.mp e
  exact List.getElem?_eq_none_iff.mpr (by omega)

def RelO : Option V → Option Value → Prop
  | some v, some u => RelV v u
  | none, none => True
  | _, _ => False
def KV {κ : Type} : List (κ × V) → List (κ × Value) → Prop := Paired fun (p : κ × V) (q : κ × Value) => p.1 = q.1 ∧ RelV p.2 q.2

/-- a key of a dict (00_mix): an int or a text -/
def kV : Key → V
  | .inl i => .int i
  | .inr x => .str x

/-- what stands at a tracked address -/
inductive HO where
  /-- a list -/
  | lst (xs : List V)
  /-- a tuple (never changes) -/
  | tup (xs : List V)
  /-- a dict whose keys are ints and texts; one whose keys are tuples of ints and texts (the empty one is both) -/
  | dK (kvs : List (Key × V)) | dT (kvs : List (List Key × V))
  /-- a set of ints: its members, its size -/
  | set (S : Int → Bool) (n : Nat)
  /-- an instance of the class at C, its dict at dx, its attributes -/
  | ins (C dx : Addr) (fs : List (Str × V))
  /-- the dict of the instance at x -/
  | own (x : Addr)
  /-- the dict of an exception -/
  | xd (fs : List (Str × V))
  /-- a bound method, f of x -/
  | met (f x : Addr)
  /-- a range object lo, lo + 1, .. below hi -/
  | rng (lo hi : Int)
  /-- a thing that is known to the object (the script; a dict while a loop walks it): read, never written while it is so -/
  | frz (o : Obj) (u : HO)
  /-- a code object's table -/
  | tbl (ps : Array Value)
  /-- any other thing, by what is true of its one object (a def of one's own: SetO a S n := HO.ext fun h => ..) -/
  | ext (φ : Heap → Prop)

abbrev Hp := Addr → Option HO
def upd (H : Hp) (a : Addr) (o : HO) : Hp := fun b => if b = a then some o else H b
theorem upd_same {H : Hp} {a : Addr} {o : HO} : upd H a o a = some o := by unfold upd; rw [if_pos rfl]
theorem upd_ne {H : Hp} {a b : Addr} {o : HO} (h : b ≠ a) : upd H a o b = H b := by unfold upd; rw [if_neg h]
theorem upd_upd {H : Hp} {a : Addr} {o u : HO} : upd (upd H a o) a u = upd H a u := by
  funext b; unfold upd; split <;> rfl
/-- two objects of different content stand apart -/
theorem ne_of {H : Hp} {a b : Addr} {o u : HO} (h : H a = some o) (h' : H b = some u) (d : o ≠ u) : a ≠ b := by
  intro e; subst e; rw [h] at h'; exact d (Option.some.inj h')
theorem ne_of_none {H : Hp} {a b : Addr} {o : HO} (h : H a = some o) (h' : H b = none) : a ≠ b := by
  intro e; subst e; rw [h] at h'; cases h'

section
variable (P : Program) (w : World)
def ObjOk (H : Hp) (h : Heap) (a : Addr) : HO → Prop
  | .lst xs => xs.length ≤ sizeLine ∧ ∃ (its : List Value) (n : Nat), Vals xs its ∧ h.get? a = some { cls := .type "list", data := .seq its.toArray n }
  | .tup xs => xs.length ≤ sizeLine ∧ ∃ its : List Value, Vals xs its ∧ IsTup h a its.toArray
  | .dK kvs => kvs.length ≤ sizeLine ∧ (a == sysModules) = false ∧ ∃ vs, KV kvs vs ∧ h.DictOf (mixKind P w) a vs
  | .dT kvs => kvs.length ≤ sizeLine ∧ (a == sysModules) = false ∧ ∃ xs : List (List Key × Addr × Value),
      Paired (fun (p : List Key × V) (q : List Key × Addr × Value) => p.1 = q.1 ∧ H q.2.1 = some (.tup (p.1.map kV)) ∧ RelV p.2 q.2.2) kvs xs ∧
      ∃ o es ep, h.get? a = some o ∧ o.ExactDict ∧ o.data = .dict es ep ∧ es.toList = xs.map (entryOfKey (tupleKind (mixKind P w))) ∧ (xs.map (·.1)).Nodup
  | .set S n => h.SetOf (intKind P w) a S n
  | .ins C dx fs => H dx = some (.own a) ∧ fs.length ≤ 1000 ∧ dx ≠ a ∧ h.get? a = some (PySem.W.instObj C dx) ∧
      ∃ mA, h.Ns1 dx mA ∧ (∀ f, RelO (fs.lookup f) (mA f)) ∧ PySem.Within mA (fs.map (·.1))
  | .own _ => ∃ o, h.get? a = some o
  | .xd fs => ∃ mA, h.Ns1 a mA ∧ ∀ f, RelO (fs.lookup f) (mA f)
  | .rng lo hi => ∃ t u v, h.get? a = some { cls := .type "range", data := .fields #[.int lo t, .int hi u, .int 1 v] }
  | .frz o u => h.get? a = some o ∧ ObjOk H h a u
  | .tbl ps => h.get? a = some { cls := .none, data := .fields ps }
  | .met f x => h.get? a = some (PySem.W.methodObj (.ref f) (.ref x))
  | .ext φ => φ h ∧ (∃ o, h.get? a = some o) ∧ ∀ h1 h2 : Heap, φ h1 → (∀ o, h1.get? a = some o → h2.get? a = some o) → φ h2
/-- the abstract heap is held -/
def HOk (H : Hp) (h : Heap) : Prop := ∀ a o, H a = some o → ObjOk P w H h a o
end

section
variable {P : Program} {w : World} {H H' : Hp} {h h' : Heap} {a : Addr} {o : HO}
theorem ObjOk.lt (x : ObjOk P w H h a o) : a < h.objs.size := by
  cases o with
  | lst xs => obtain ⟨_, _, _, _, e⟩ := x; exact Heap.lt_size e
  | tup xs => obtain ⟨_, _, _, p⟩ := x; exact p.lt
  | dK kvs => obtain ⟨_, _, _, _, o, _, _, e, _⟩ := x; exact Heap.lt_size e
  | dT kvs => obtain ⟨_, _, _, _, o, _, _, e, _⟩ := x; exact Heap.lt_size e
  | set S n => obtain ⟨o, _, _, _, e, _⟩ := x; exact Heap.lt_size e
  | ins C dx fs => obtain ⟨_, _, _, e, _⟩ := x; exact Heap.lt_size e
  | own y => obtain ⟨_, e⟩ := x; exact Heap.lt_size e
  | xd fs => obtain ⟨_, ⟨_, _, _, e, _⟩, _⟩ := x; exact Heap.lt_size e
  | rng lo hi => obtain ⟨_, _, _, e⟩ := x; exact Heap.lt_size e
  | frz ob u => obtain ⟨e, _⟩ := x; exact Heap.lt_size e
  | tbl ps => exact Heap.lt_size (show h.get? a = some _ from x)
  | met f y => exact Heap.lt_size (show h.get? a = some _ from x)
  | ext φ => obtain ⟨_, ⟨_, e⟩, _⟩ := x; exact Heap.lt_size e
theorem Paired.mapP {α β : Type} {F G : α → β → Prop} : ∀ {l₁ : List α} {l₂ : List β}, Paired F l₁ l₂ → (∀ a b, F a b → G a b) → Paired G l₁ l₂
  | _, _, .nil, _ => .nil
  | _, _, .cons r t, f => .cons (f _ _ r) (Paired.mapP t f)
theorem Paired.imp' {α β : Type} {F G : α → β → Prop} (f : ∀ a b, F a b → G a b) {l₁ : List α} {l₂ : List β} (r : Paired F l₁ l₂) : Paired G l₁ l₂ := Paired.mapP r f
/-- what an object's description leans on: its own object, its own dict, the tuples -/
theorem ObjOk.stay (x : ObjOk P w H h a o) (k : ∀ b u, (b = a ∨ H b = some (.own a)) → h.get? b = some u → h'.get? b = some u)
    (ho : ∀ b, H b = some (.own a) → H' b = some (.own a)) (ht : ∀ b xs, H b = some (.tup xs) → H' b = some (.tup xs)) : ObjOk P w H' h' a o := by
  induction o with
  | lst xs => obtain ⟨z, its, n, r, e⟩ := x; exact ⟨z, its, n, r, k _ _ (.inl rfl) e⟩
  | tup xs => obtain ⟨z, its, r, ob, e, c⟩ := x; exact ⟨z, its, r, ob, k _ _ (.inl rfl) e, c⟩
  | dK kvs => obtain ⟨z, y, vs, r, ob, es, ep, e, c⟩ := x; exact ⟨z, y, vs, r, ob, es, ep, k _ _ (.inl rfl) e, c⟩
  | dT kvs =>
    obtain ⟨z, y, xs, r, ob, es, ep, e, c⟩ := x
    exact ⟨z, y, xs, Paired.mapP r fun p q z => ⟨z.1, ht _ _ z.2.1, z.2.2⟩, ob, es, ep, k _ _ (.inl rfl) e, c⟩
  | set S n => obtain ⟨ob, es, ep, t, e, c⟩ := x; exact ⟨ob, es, ep, t, k _ _ (.inl rfl) e, c⟩
  | ins C dx fs =>
    obtain ⟨d, z, ne, e, mA, ⟨od, es, ep, e2, c⟩, r⟩ := x
    exact ⟨ho _ d, z, ne, k _ _ (.inl rfl) e, mA, ⟨od, es, ep, k _ _ (.inr d) e2, c⟩, r⟩
  | own y => obtain ⟨ob, e⟩ := x; exact ⟨ob, k _ _ (.inl rfl) e⟩
  | xd fs => obtain ⟨mA, ⟨od, es, ep, e, c⟩, r⟩ := x; exact ⟨mA, ⟨od, es, ep, k _ _ (.inl rfl) e, c⟩, r⟩
  | rng lo hi => obtain ⟨t, u, v, e⟩ := x; exact ⟨t, u, v, k _ _ (.inl rfl) e⟩
  | frz ob u ih => obtain ⟨e, q⟩ := x; exact ⟨k _ _ (.inl rfl) e, ih q⟩
  | tbl ps =>
    have e : h.get? a = some { cls := .none, data := .fields ps } := x
    show h'.get? a = some { cls := .none, data := .fields ps }
    exact k a _ (.inl rfl) e
  | met f y =>
    have e : h.get? a = some (PySem.W.methodObj (.ref f) (.ref y)) := x
    show h'.get? a = some (PySem.W.methodObj (.ref f) (.ref y))
    exact k a _ (.inl rfl) e
  | ext φ => obtain ⟨p, ⟨o, e⟩, st⟩ := x; exact ⟨st _ _ p fun o q => k _ _ (.inl rfl) q, ⟨o, k _ _ (.inl rfl) e⟩, st⟩
theorem HOk.lt (x : HOk P w H h) (e : H a = some o) : a < h.objs.size := (x a o e).lt
theorem HOk.fresh (x : HOk P w H h) (e : h.objs.size ≤ a) : H a = none := by
  cases q : H a with
  | none => rfl
  | some u => exact absurd (Nat.lt_of_lt_of_le (x.lt q) e) (Nat.lt_irrefl _)
/-- every object of the heap is kept -/
theorem HOk.kept (x : HOk P w H h) (k : ∀ b u, h.get? b = some u → h'.get? b = some u) : HOk P w H h' := fun a o e =>
  (x a o e).stay (fun b u _ q => k b u q) (fun _ q => q) fun _ _ q => q
/-- a new object is laid and tracked -/
theorem HOk.laid (x : HOk P w H h) (k : ∀ b u, h.get? b = some u → h'.get? b = some u) (hp : h.objs.size ≤ a) (new : ObjOk P w (upd H a o) h' a o) : HOk P w (upd H a o) h' := fun b u e => by
  have hn := x.fresh hp
  by_cases hb : b = a
  · subst hb; rw [upd_same] at e; cases e; exact new
  · rw [upd_ne hb] at e
    exact (x b u e).stay (fun c v _ q => k c v q) (fun c q => by rw [upd_ne (ne_of_none q hn)]; exact q) fun c xs q => by rw [upd_ne (ne_of_none q hn)]; exact q
end

/-- what may be read as u: it is u, or a known u -/
def Rd (H : Hp) (a : Addr) (u : HO) : Prop := H a = some u ∨ ∃ o, H a = some (.frz o u)
theorem Rd.of {H : Hp} {a : Addr} {u : HO} (h : H a = some u) : Rd H a u := .inl h
theorem Rd.ok {P : Program} {w : World} {H : Hp} {h : Heap} {a : Addr} {u : HO} (r : Rd H a u) (x : HOk P w H h) : ObjOk P w H h a u := by
  rcases r with r | ⟨o, r⟩
  · exact x a u r
  · obtain ⟨_, q⟩ := x a _ r
    exact q
/-- what may be written -/
def Mut : Option HO → Prop
  | some (.lst _) => True
  | some (.dK _) => True
  | some (.dT _) => True
  | some (.set _ _) => True
  | some (.ins _ _ _) => True
  | some (.ext _) => True
  | _ => False
section
variable {P : Program} {w : World} {H : Hp} {h h' : Heap} {x e : Addr} {o' : HO}
/-- the object at e is changed: x itself, or the dict of the instance x -/
theorem HOk.write (ok : HOk P w H h) (mu : Mut (H x)) (he : e = x ∨ H e = some (.own x)) (k : ∀ b u, b ≠ e → h.get? b = some u → h'.get? b = some u) (heo : ∃ u, h'.get? e = some u)
    (new : ObjOk P w (upd H x o') h' x o') : HOk P w (upd H x o') h' := fun b u q => by
  have nown : ∀ c y, H c = some (.own y) → c ≠ x := fun c y r z => by subst z; rw [r] at mu; exact mu
  have ntup : ∀ c xs, H c = some (.tup xs) → c ≠ x := fun c xs r z => by subst z; rw [r] at mu; exact mu
  by_cases hb : b = x
  · subst hb; rw [upd_same] at q; cases q; exact new
  · rw [upd_ne hb] at q
    by_cases hbe : b = e
    · have q' : H b = some (.own x) := by
        rcases he with z | z
        · exact absurd (hbe.trans z) hb
        · rw [hbe]; exact z
      rw [q] at q'; cases q'
      obtain ⟨v, hv⟩ := heo
      exact ⟨v, by rw [hbe]; exact hv⟩
    · refine (ok b u q).stay (fun c v hc r => k c v ?_ r) (fun c r => by rw [upd_ne (nown c b r)]; exact r) fun c xs r => by rw [upd_ne (ntup c xs r)]; exact r
      rcases hc with rfl | hc
      · exact hbe
      · rintro rfl
        rcases he with z | z
        · exact nown c b hc z
        · rw [hc] at z; cases z; exact hb rfl
end

/-! ### kept unless tracked; of the frames at fs (the callers') the slots may change (an exception that passes writes there); of the records at ex (iterators) nothing is said -/
structure Un (fs ex : List Addr) (H H' : Hp) (h h' : Heap) : Prop where
  keep : ∀ b o, h.get? b = some o → H b = none → b ∉ fs → b ∉ ex → h'.get? b = some o
  slot : ∀ b o, h.get? b = some o → H b = none → b ∈ fs → b ∉ ex → ∃ sl, h'.get? b = some { o with slots := sl }
  free : ∀ b o, h.get? b = some o → H b = none → b ∉ ex → H' b = none
  there : ∀ b o, h.get? b = some o → b ∉ ex → ∃ o', h'.get? b = some o'
  tups : ∀ b xs, H b = some (.tup xs) → H' b = some (.tup xs)
  frzs : ∀ b o u, H b = some (.frz o u) → H' b = some (.frz o u)
  tbls : ∀ b ps, H b = some (.tbl ps) → ∃ more, H' b = some (.tbl (ps ++ more))
section
variable {fs fs' ex ex' : List Addr} {H H1 H2 : Hp} {h h1 h2 h' : Heap} {a x e : Addr} {o : HO}
theorem Un.any (u : Un fs ex H H1 h h1) {b : Addr} {ob : Obj} (q : h.get? b = some ob) (n : H b = none) (hx : b ∉ ex) : ∃ sl, h1.get? b = some { ob with slots := sl } := by
  by_cases hb : b ∈ fs
  · exact u.slot b ob q n hb hx
  · exact ⟨ob.slots, u.keep b ob q n hb hx⟩
theorem Un.trans (a : Un fs ex H H1 h h1) (b : Un fs ex H1 H2 h1 h2) : Un fs ex H H2 h h2 where
  keep := fun c ob q n hc hx => b.keep c ob (a.keep c ob q n hc hx) (a.free c ob q n hx) hc hx
  slot := fun c ob q n hc hx => by
    obtain ⟨sl, e1⟩ := a.slot c ob q n hc hx
    obtain ⟨sl', e2⟩ := b.slot c _ e1 (a.free c ob q n hx) hc hx
    exact ⟨sl', e2⟩
  free := fun c ob q n hx => by
    obtain ⟨o', e1⟩ := a.there c ob q hx
    exact b.free c o' e1 (a.free c ob q n hx) hx
  there := fun c ob q hx => by
    obtain ⟨o', e1⟩ := a.there c ob q hx
    exact b.there c o' e1 hx
  tups := fun c xs q => b.tups c xs (a.tups c xs q)
  frzs := fun c ob xs q => b.frzs c ob xs (a.frzs c ob xs q)
  tbls := fun c ps q => by
    obtain ⟨m1, e1⟩ := a.tbls c ps q
    obtain ⟨m2, e2⟩ := b.tbls c _ e1
    exact ⟨m1 ++ m2, by rw [e2, Array.append_assoc]⟩
theorem Un.kept (k : ∀ b u, h.get? b = some u → h'.get? b = some u) : Un fs ex H H h h' :=
  ⟨fun b ob q _ _ _ => k b ob q, fun b ob q _ _ _ => ⟨ob.slots, k b ob q⟩, fun _ _ _ n _ => n, fun b ob q _ => ⟨ob, k b ob q⟩, fun _ _ q => q, fun _ _ _ q => q, fun _ ps q => ⟨#[], by rw [q]; simp⟩⟩
theorem Un.refl : Un fs ex H H h h := Un.kept fun _ _ q => q
theorem Un.laid (k : ∀ b u, h.get? b = some u → h'.get? b = some u) (hp : h.objs.size ≤ a) (hn : H a = none) : Un fs ex H (upd H a o) h h' where
  keep := fun b u q _ _ _ => k b u q
  slot := fun b u q _ _ _ => ⟨u.slots, k b u q⟩
  free := fun b u q n _ => by rw [upd_ne (Nat.ne_of_lt (Nat.lt_of_lt_of_le (Heap.lt_size q) hp))]; exact n
  there := fun b u q _ => ⟨u, k b u q⟩
  tups := fun b xs q => by rw [upd_ne (ne_of_none q hn)]; exact q
  frzs := fun b u xs q => by rw [upd_ne (ne_of_none q hn)]; exact q
  tbls := fun b ps q => ⟨#[], by rw [upd_ne (ne_of_none q hn), q]; simp⟩
theorem Un.write (mu : Mut (H x)) (he : e = x ∨ H e = some (.own x)) (k : ∀ b u, b ≠ e → h.get? b = some u → h'.get? b = some u) (heo : ∃ u, h'.get? e = some u) : Un fs ex H (upd H x o) h h' := by
  have hx : ∀ b, H b = none → b ≠ x := fun b n z => by subst z; rw [n] at mu; exact mu
  have hb : ∀ b, H b = none → b ≠ e := fun b n z => by
    subst z
    rcases he with r | r
    · exact hx b n r
    · rw [n] at r; cases r
  have hm : ∀ b u, H b = some u → ¬ Mut (some u) → b ≠ x := fun b u q nm z => by subst z; rw [q] at mu; exact nm mu
  refine ⟨fun b u q n _ _ => k b u (hb b n) q, fun b u q n _ _ => ⟨u.slots, k b u (hb b n) q⟩, fun b u q n _ => by rw [upd_ne (hx b n)]; exact n, fun b u q _ => ?_,
    fun b xs q => by rw [upd_ne (hm b _ q fun z => z)]; exact q, fun b u xs q => by rw [upd_ne (hm b _ q fun z => z)]; exact q, fun b ps q => ⟨#[], by rw [upd_ne (hm b _ q fun z => z), q]; simp⟩⟩
  by_cases hbe : b = e
  · subst hbe; exact heo
  · exact ⟨u, k b u hbe q⟩
theorem Un.mono (u : Un fs ex H H1 h h1) (hs : ∀ b ∈ fs, b ∈ fs') (hx : ∀ b ∈ ex, b ∈ ex') : Un fs' ex' H H1 h h1 :=
  ⟨fun b ob q n hb he => u.keep b ob q n (fun z => hb (hs b z)) fun z => he (hx b z), fun _ _ q n _ he => u.any q n fun z => he (hx _ z), fun b ob q n he => u.free b ob q n fun z => he (hx b z), fun b ob q he => u.there b ob q fun z => he (hx b z), u.tups, u.frzs, u.tbls⟩
end

/-! ### the heap without what is tracked -/
def trk (h : Heap) (H : Hp) : List Addr := (List.range h.objs.size).filter fun a => (H a).isSome
def hidT (h : Heap) (H : Hp) : Heap := PySem.W.hideAll h (trk h H)
theorem hidT_size (h : Heap) (H : Hp) : (hidT h H).objs.size = h.objs.size := PySem.W.hideAll_size _ _
theorem hidT_get {h : Heap} {H : Hp} {b : Addr} {o : Obj} (e : h.get? b = some o) (n : H b = none) : (hidT h H).get? b = some o :=
  PySem.W.hideAll_get _ e fun hm => by
    have q : (H b).isSome = true := (List.mem_filter.mp hm).2
    rw [n] at q; simp at q
theorem of_hidT {h : Heap} {H : Hp} {b : Addr} {o : Obj} (e : (hidT h H).get? b = some o) : h.get? b = some o ∧ H b = none := by
  have e' : h.get? b = some o := PySem.W.of_hideAll (trk h H) e
  refine ⟨e', ?_⟩
  cases q : H b with
  | none => rfl
  | some x =>
    have hm : b ∈ trk h H := List.mem_filter.mpr ⟨List.mem_range.mpr (Heap.lt_size e'), by simp [q]⟩
    have z : (hidT h H).get? b = none := PySem.W.hideAll_none (trk h H) hm
    rw [z] at e; cases e

/-! ### OpenK's ledger, filled with every new object but one -/
def allNews (g h : Heap) (L : Addr) : List (Addr × Obj) := (List.range h.objs.size).filterMap fun a => if a = L ∨ (g.get? a).isSome = true then none else (h.get? a).map fun o => (a, o)
theorem mem_allNews {g h : Heap} {L a : Addr} {o : Obj} (h1 : a ≠ L) (h2 : g.get? a = none) (h3 : h.get? a = some o) : (a, o) ∈ allNews g h L :=
  List.mem_filterMap.mpr ⟨a, List.mem_range.mpr (Heap.lt_size h3), by simp [h1, h2, h3]⟩
theorem of_mem_allNews {g h : Heap} {L : Addr} {p : Addr × Obj} (hp : p ∈ allNews g h L) : p.1 ≠ L ∧ g.get? p.1 = none ∧ h.get? p.1 = some p.2 := by
  obtain ⟨b, _, e⟩ := List.mem_filterMap.mp hp
  split at e
  · cases e
  · rename_i hn
    cases q : h.get? b with
    | none => rw [q] at e; simp at e
    | some u =>
      rw [q] at e
      simp only [Option.map_some, Option.some.injEq] at e
      subst e
      refine ⟨fun z => hn (.inl z), ?_, q⟩
      show g.get? b = none
      cases r : g.get? b with
      | none => rfl
      | some v => exact (hn (.inr (by simp [r]))).elim
def rest (g h : Heap) (L d : Addr) : List (Addr × Obj) := (allNews g h L).filter fun p => decide (p.1 ≠ d)
theorem rest_ne {g h : Heap} {L d : Addr} : ∀ p ∈ rest g h L d, p.1 ≠ d := fun p hp => of_decide_eq_true (List.mem_filter.mp hp).2
theorem mem_rest {g h : Heap} {L d a : Addr} {o : Obj} (h1 : a ≠ L) (h2 : g.get? a = none) (h3 : h.get? a = some o) (h4 : a ≠ d) : (a, o) ∈ rest g h L d :=
  List.mem_filter.mpr ⟨mem_allNews h1 h2 h3, decide_eq_true h4⟩
theorem news_all {g h : Heap} {L : Addr} : News g L h (allNews g h L) := fun p hp => let ⟨a, b, c⟩ := of_mem_allNews hp; ⟨c, a, b⟩
theorem news_at {g h : Heap} {L d : Addr} {o : Obj} (h1 : d ≠ L) (h2 : g.get? d = none) (h3 : h.get? d = some o) : News g L h ((d, o) :: rest g h L d) := fun p hp => by
  rcases List.mem_cons.mp hp with rfl | hp
  · exact ⟨h3, h1, h2⟩
  · exact news_all p (List.mem_filter.mp hp).1
/-- behind a rule that changed d alone: all else but the frame is kept -/
theorem kept_of_news {g h h' : Heap} {L d : Addr} {m : Str → Option Value} (k : ∀ b o, g.get? b = some o → h.get? b = some o) (F : Fr g L h' m) (N : News g L h' (rest g h L d)) :
    ∀ b o, b ≠ L → b ≠ d → h.get? b = some o → h'.get? b = some o := fun b o h1 h2 e => by
  cases q : g.get? b with
  | some u =>
    have := k b u q
    rw [e] at this; cases this
    exact F.keep b _ q
  | none => exact (N (b, o) (mem_rest h1 q e h2)).1
end L2

namespace L2
open PySem PySem.Spec PyProof.Rows

/-- the module's facts, over the base: the heap at the law's entry without what is tracked there -/
structure Mod (K : PySem.W.Frag) (mg : Str → Option Value) (base : Heap) : Prop where
  kin : K.In base
  glob : base.Ns mainGlobals mg
  blt : ∃ mb, base.Ns builtinsNs mb ∧ ∀ x : Str, x ≠ "__name__" → mb x = bootBuiltins x
  nolimit : base.NoLimit

/-- the context: a def's body (or a comprehension's block) running. base: fixed through the whole law; s₀, H₀: the entry; outer: the frames whose slots others may change (a def's callers); stack: all frames that run;
   ex: iterators that were made ahead of the entry and are walked here (a comprehension's); fn: the names whose cells were made at the entry (a def: all; a comprehension's block: its own); calm: not within an except suite; pn: pins that every state bears; xe: what is wanted of an exception that leaves the code -/
structure Cx where
  prog : Program
  w : World
  K : PySem.W.Frag
  mg : Str → Option Value
  base : Heap
  A : Around
  N : List Str
  s₀ : Shared
  H₀ : Hp
  env : Env
  outer : List Env
  stack : List Env
  ex : List Addr
  fn : Str → Bool
  calm : Bool
  pn : List (Addr × Obj)
  xe : Value → Shared → Prop
/-- the callers' frames -/
def frs (l : List Env) : List Addr := l.filterMap (·.frame)
abbrev Cx.fs (X : Cx) : List Addr := frs X.outer

def Vis (sc : Scope) (x : Str) : Prop := sc.names.lookup x = some .local ∨ sc.names.lookup x = some .cell ∨ sc.names.lookup x = some .free
def Loc (sc : Scope) (x : Str) : Prop := sc.names.lookup x = some .local ∨ sc.names.lookup x = some .cell
def Look (env : Env) (h : Heap) (m : Str → Option Value) (x : Str) (u : Value) : Prop :=
  (env.kindOf x = some .local ∧ m x = some u) ∨ ((env.kindOf x = some .cell ∨ env.kindOf x = some .free) ∧ ∃ c, env.cells.lookup x = some c ∧ h.IsCell c (some u))

structure Cx.Ok (X : Cx) : Prop where
  mod : Mod X.K X.mg X.base
  kind : X.env.scope.kind = .function
  glob : X.env.globals = mainGlobals
  blt : X.env.builtins = builtinsNs
  above : X.s₀.heap.objs.size ≤ X.env.locals
  inj : ∀ x y c, X.env.cells.lookup x = some c → X.env.cells.lookup y = some c → x = y
  has : ∀ x, (X.env.kindOf x = some .cell ∨ X.env.kindOf x = some .free) → ∃ c, X.env.cells.lookup x = some c
  cab : ∀ x c, X.fn x = true → X.env.cells.lookup x = some c → X.s₀.heap.objs.size ≤ c
  hd : X.calm = true → X.A.handled = none
  frames : X.A.frames = some X.stack
  stk : X.stack = X.outer ∨ (X.stack = X.env :: X.outer ∧ X.env.frame = some X.env.locals)
  exf : ∀ b ∈ X.ex, b ≠ X.env.locals ∧ ∀ x c, X.env.cells.lookup x = some c → c ≠ b
  bs : ∀ b o, X.base.get? b = some o → X.s₀.heap.get? b = some o ∧ X.H₀ b = none
  bsz : X.base.objs.size ≤ X.s₀.heap.objs.size
  noex : ∀ b o, X.base.get? b = some o → b ∉ X.ex
  exfs : ∀ b ∈ X.ex, b ∉ X.fs
  funs : X.s₀.heap.FunFrames X.base X.outer
  frf : ∀ b ∈ X.fs, X.H₀ b = none

structure Inv (X : Cx) (pins : List (Addr × Obj)) (σ : List (Option V)) (H : Hp) (s : Shared) : Prop where
  ok : X.Ok
  os : s.os = X.s₀.os
  bare : AllBare s.gens
  base : Un X.fs X.ex X.H₀ H X.s₀.heap s.heap
  loc : ∃ m, s.heap.Ns X.env.locals m ∧ ∀ (i : Nat) (x : Str) (v : V), X.N[i]? = some x → σ[i]? = some (some v) → Vis X.env.scope x → ∃ u, RelV v u ∧ Look X.env s.heap m x u
  cell : ∀ x c, X.env.cells.lookup x = some c → ∃ v, s.heap.IsCell c v
  free : H X.env.locals = none
  freeC : ∀ x c, X.env.cells.lookup x = some c → H c = none
  pin : ∀ p ∈ X.pn ++ pins, s.heap.get? p.1 = some p.2 ∧ H p.1 = none ∧ p.1 ≠ X.env.locals ∧ p.1 ∉ X.fs ∧ ∀ v, p.2.data ≠ .cell v
  hok : HOk X.prog X.w H s.heap
  len : σ.length = X.N.length

section
variable {X : Cx} {pins : List (Addr × Obj)} {σ : List (Option V)} {H H' : Hp} {s : Shared} {h' : Heap}

theorem Cx.Ok.nofr (ok : X.Ok) {b : Addr} {o : Obj} (e : X.base.get? b = some o) : b ∉ X.fs := fun hb => by
  have := (ok.funs.mem hb).1
  rw [e] at this; cases this
theorem Inv.bs (I : Inv X pins σ H s) : ∀ b o, X.base.get? b = some o → s.heap.get? b = some o ∧ H b = none := fun b o e =>
  ⟨I.base.keep b o (I.ok.bs b o e).1 (I.ok.bs b o e).2 (I.ok.nofr e) (I.ok.noex b o e), I.base.free b o (I.ok.bs b o e).1 (I.ok.bs b o e).2 (I.ok.noex b o e)⟩
theorem Inv.bk (I : Inv X pins σ H s) : ∀ b o, X.base.get? b = some o → s.heap.get? b = some o := fun b o e => (I.bs b o e).1
theorem Inv.mod (I : Inv X pins σ H s) : Mod X.K X.mg X.base := I.ok.mod
theorem Inv.kIn (I : Inv X pins σ H s) : X.K.In s.heap := I.ok.mod.kin.keeps I.bk
theorem Inv.nolimit (I : Inv X pins σ H s) : s.heap.NoLimit := I.ok.mod.nolimit.keeps I.bk
/-- the frame over the base: for OpenK's rules (K.In X.base is I.mod.kin) -/
theorem Inv.fr (I : Inv X pins σ H s) : ∃ m, Fr X.base X.env.locals s.heap m :=
  let ⟨m, hn, _⟩ := I.loc
  ⟨m, hn, I.bk, Nat.le_trans I.ok.bsz I.ok.above⟩
theorem Inv.lt (I : Inv X pins σ H s) : X.env.locals < s.heap.objs.size := let ⟨_, hn, _⟩ := I.loc; hn.lt
theorem Inv.sz (I : Inv X pins σ H s) : X.s₀.heap.objs.size ≤ s.heap.objs.size := Nat.le_trans I.ok.above (Nat.le_of_lt I.lt)
theorem Inv.nofs (I : Inv X pins σ H s) {a : Addr} (h : s.heap.objs.size ≤ a) : a ∉ X.fs := fun hb => by
  obtain ⟨_, o, ho, _⟩ := I.ok.funs.mem hb
  exact absurd (Nat.lt_of_lt_of_le (Heap.lt_size ho) (Nat.le_trans I.sz h)) (Nat.lt_irrefl _)
theorem Inv.cne (I : Inv X pins σ H s) : ∀ x c, X.env.cells.lookup x = some c → c ≠ X.env.locals := fun x c e z => by
  obtain ⟨v, o, ho, hd⟩ := I.cell x c e
  obtain ⟨m, ⟨o', es, ep, ho', hd', _⟩, _⟩ := I.loc
  rw [z, ho'] at ho; cases ho; rw [hd'] at hd; cases hd
theorem Inv.funs (I : Inv X pins σ H s) : s.heap.FunFrames X.base X.outer := by
  have all : ∀ (l : List Env), (∀ b ∈ frs l, b ∈ X.fs) → X.s₀.heap.FunFrames X.base l → s.heap.FunFrames X.base l := by
    intro l
    induction l with
    | nil => intro _ _; trivial
    | cons env r ih =>
      intro hs hl
      obtain ⟨hk, ⟨L, o, hf, hn, ho, hd⟩, hr⟩ := hl
      have hL : L ∈ X.fs := hs L (by unfold frs; rw [List.filterMap_cons, hf]; exact List.mem_cons_self)
      obtain ⟨sl, e⟩ := I.base.slot L o ho (I.ok.frf L hL) hL fun z => I.ok.exfs L z hL
      exact ⟨hk, ⟨L, _, hf, hn, e, hd⟩, ih (fun b hb => hs b (by unfold frs; rw [List.filterMap_cons, hf]; exact List.mem_cons_of_mem _ hb)) hr⟩
  exact all X.outer (fun _ hb => hb) I.ok.funs

/-- the frames that run, for a call -/
theorem Inv.stack (I : Inv X pins σ H s) : s.heap.FunFrames X.base X.stack := by
  rcases I.ok.stk with e | ⟨e, hf⟩
  · rw [e]; exact I.funs
  · rw [e]
    obtain ⟨m, hn, _⟩ := I.loc
    refine .cons (by rw [I.ok.kind]; decide) hf hn ?_ I.funs
    exact Heap.get?_none_of_le (Nat.le_trans I.ok.bsz I.ok.above)
theorem Inv.stkSub (I : Inv X pins σ H s) : ∀ b ∈ frs X.stack, b ∈ X.env.locals :: X.fs := fun b hb => by
  rcases I.ok.stk with e | ⟨e, hf⟩
  · rw [e] at hb; exact List.mem_cons_of_mem _ hb
  · rw [e] at hb
    unfold frs at hb
    rw [List.filterMap_cons, hf] at hb
    exact hb
theorem Inv.stkFree (I : Inv X pins σ H s) : ∀ b ∈ frs X.stack, H b = none := fun b hb => by
  rcases List.mem_cons.mp (I.stkSub b hb) with e | hb
  · rw [e]; exact I.free
  · obtain ⟨_, o, ho, _⟩ := I.ok.funs.mem hb
    exact I.base.free b o ho (I.ok.frf b hb) fun z => I.ok.exfs b z hb

/-- THE STEP: the untracked objects but the frame and the records at ch are kept (the callers' frames up to slots), the frame's map is kept, the new abstract heap is held -/
theorem Inv.step {g' : Array GenState} {t' : Nat} {d' : Drawn} {ch : List Addr} (I : Inv X pins σ H s)
    (hch : ∀ b ∈ ch, (b ∈ X.ex ∨ X.s₀.heap.objs.size ≤ b) ∧ b ≠ X.env.locals ∧ (∀ x c, X.env.cells.lookup x = some c → c ≠ b) ∧ ∀ p ∈ X.pn ++ pins, p.1 ≠ b)
    (keep : ∀ b o, b ≠ X.env.locals → b ∉ X.fs → b ∉ ch → s.heap.get? b = some o → H b = none → h'.get? b = some o)
    (slot : ∀ b o, b ≠ X.env.locals → b ∈ X.fs → b ∉ ch → s.heap.get? b = some o → H b = none → ∃ sl, h'.get? b = some { o with slots := sl }) (free : ∀ b o, b ∉ ch → s.heap.get? b = some o → H b = none → H' b = none)
    (there : ∀ b o, b ∉ ch → s.heap.get? b = some o → ∃ o', h'.get? b = some o')
    (tups : ∀ b xs, H b = some (.tup xs) → H' b = some (.tup xs)) (frzs : ∀ b o u, H b = some (.frz o u) → H' b = some (.frz o u)) (tbls : ∀ b ps, H b = some (.tbl ps) → ∃ more, H' b = some (.tbl (ps ++ more)))
    (ns : ∀ m, s.heap.Ns X.env.locals m → h'.Ns X.env.locals m) (hok : HOk X.prog X.w H' h') (hg : AllBare g') :
    Inv X pins σ H' { s with heap := h', gens := g', drawn := d', toks := t' } := by
  have neL : ∀ b o, X.s₀.heap.get? b = some o → b ≠ X.env.locals := fun b o e => Nat.ne_of_lt (Nat.lt_of_lt_of_le (Heap.lt_size e) I.ok.above)
  have neC : ∀ b o, X.s₀.heap.get? b = some o → b ∉ X.ex → b ∉ ch := fun b o e hx hb => by
    rcases (hch b hb).1 with z | z
    · exact hx z
    · exact absurd (Nat.lt_of_lt_of_le (Heap.lt_size e) z) (Nat.lt_irrefl _)
  have cellK : ∀ x c, X.env.cells.lookup x = some c → ∀ v, s.heap.IsCell c v → h'.IsCell c v := fun x c e v ⟨o, ho, hd⟩ => by
    have nch : c ∉ ch := fun z => (hch c z).2.2.1 x c e rfl
    by_cases hc : c ∈ X.fs
    · obtain ⟨sl, q⟩ := slot c o (I.cne x c e) hc nch ho (I.freeC x c e)
      exact ⟨_, q, hd⟩
    · exact ⟨o, keep c o (I.cne x c e) hc nch ho (I.freeC x c e), hd⟩
  refine ⟨I.ok, I.os, hg, ⟨fun b o e n hb hx => ?_, fun b o e n hb hx => ?_, fun b o e n hx => ?_, fun b o e hx => ?_, fun b xs e => tups b xs (I.base.tups b xs e), fun b o xs e => frzs b o xs (I.base.frzs b o xs e), fun b ps e => ?_⟩, ?_, fun x c e => ?_, ?_, fun x c e => ?_, fun p hp => ?_, hok, I.len⟩
  · exact keep b o (neL b o e) hb (neC b o e hx) (I.base.keep b o e n hb hx) (I.base.free b o e n hx)
  · obtain ⟨sl, e1⟩ := I.base.slot b o e n hb hx
    obtain ⟨sl', e2⟩ := slot b _ (neL b o e) hb (neC b o e hx) e1 (I.base.free b o e n hx)
    exact ⟨sl', e2⟩
  · obtain ⟨o', e1⟩ := I.base.there b o e hx
    exact free b o' (neC b o e hx) e1 (I.base.free b o e n hx)
  · obtain ⟨o', e1⟩ := I.base.there b o e hx
    exact there b o' (neC b o e hx) e1
  · obtain ⟨m1, e1⟩ := I.base.tbls b ps e
    obtain ⟨m2, e2⟩ := tbls b _ e1
    exact ⟨m1 ++ m2, by rw [e2, Array.append_assoc]⟩
  · obtain ⟨m, hn, hl⟩ := I.loc
    refine ⟨m, ns m hn, fun i x v e1 e2 e3 => ?_⟩
    obtain ⟨u, r, l⟩ := hl i x v e1 e2 e3
    refine ⟨u, r, ?_⟩
    rcases l with l | ⟨k, c, e, z⟩
    · exact .inl l
    · exact .inr ⟨k, c, e, cellK x c e _ z⟩
  · obtain ⟨v, z⟩ := I.cell x c e
    exact ⟨v, cellK x c e v z⟩
  · obtain ⟨m, ⟨o, _, _, ho, _⟩, _⟩ := I.loc
    exact free _ o (fun z => (hch _ z).2.1 rfl) ho I.free
  · obtain ⟨v, o, ho, hd⟩ := I.cell x c e
    exact free c o (fun z => (hch c z).2.2.1 x c e rfl) ho (I.freeC x c e)
  · obtain ⟨e, n, ne, nf, d⟩ := I.pin p hp
    have nch : p.1 ∉ ch := fun z => (hch p.1 z).2.2.2 p hp rfl
    exact ⟨keep p.1 p.2 ne nf nch e n, free p.1 p.2 nch e n, ne, nf, d⟩
/-- .. where the frame's own object is kept too -/
theorem Inv.un {t' : Nat} (I : Inv X pins σ H s) (u : Un X.fs [] H H' s.heap h') (hok : HOk X.prog X.w H' h') : Inv X pins σ H' { s with heap := h', toks := t' } := by
  obtain ⟨m, ⟨o, es, ep, ho, r⟩, _⟩ := id I.loc
  obtain ⟨sl, hL⟩ := u.any ho I.free (by simp)
  exact I.step (g' := s.gens) (d' := s.drawn) (ch := []) (fun _ z => nomatch z) (fun b o _ hb _ e n => u.keep b o e n hb (by simp)) (fun b o _ hb _ e n => u.slot b o e n hb (by simp)) (fun b o _ e n => u.free b o e n (by simp)) (fun b o _ e => u.there b o e (by simp)) u.tups u.frzs u.tbls (fun m' hm => by
    obtain ⟨o', es', ep', ho', r'⟩ := hm
    rw [ho] at ho'; cases ho'
    exact ⟨_, es', ep', hL, r'⟩) hok I.bare
/-- behind a call (or a comprehension's block): the slots of this frame may have changed too, the records at ch may have turned -/
theorem Inv.call {g' : Array GenState} {t' : Nat} {d' : Drawn} {ch : List Addr} (I : Inv X pins σ H s) (u : Un (frs X.stack) ch H H' s.heap h') (hok : HOk X.prog X.w H' h') (hg : AllBare g')
    (hch : ∀ b ∈ ch, (b ∈ X.ex ∨ X.s₀.heap.objs.size ≤ b) ∧ b ≠ X.env.locals ∧ (∀ x c, X.env.cells.lookup x = some c → c ≠ b) ∧ ∀ p ∈ X.pn ++ pins, p.1 ≠ b) :
    Inv X pins σ H' { s with heap := h', gens := g', drawn := d', toks := t' } := by
  obtain ⟨m, ⟨o, es, ep, ho, r⟩, _⟩ := id I.loc
  obtain ⟨sl, hL⟩ := u.any ho I.free fun z => (hch _ z).2.1 rfl
  exact I.step (ch := ch) hch (fun b o hL hb hc e n => u.keep b o e n (fun z => (List.mem_cons.mp (I.stkSub b z)).elim hL hb) hc) (fun b o _ _ hc e n => u.any e n hc) (fun b o hc e n => u.free b o e n hc) (fun b o hc e => u.there b o e hc) u.tups u.frzs u.tbls (fun m' hm => by
    obtain ⟨o', es', ep', ho', r'⟩ := hm
    rw [ho] at ho'; cases ho'
    exact ⟨_, es', ep', hL, r'⟩) hok hg
/-- an untracked record of ours (an iterator) has turned -/
theorem Inv.turned {t' : Nat} {it : Addr} (I : Inv X pins σ H s) (k : ∀ b o, b ≠ it → s.heap.get? b = some o → h'.get? b = some o) (hn : H it = none) (hL : it ≠ X.env.locals)
    (h1 : it ∈ X.ex ∨ X.s₀.heap.objs.size ≤ it) (h2 : ∀ x c, X.env.cells.lookup x = some c → c ≠ it) (h3 : ∀ p ∈ X.pn ++ pins, p.1 ≠ it) : Inv X pins σ H { s with heap := h', toks := t' } := by
  have nit : ∀ b u, H b = some u → b ≠ it := fun b u e z => by rw [z, hn] at e; cases e
  refine I.step (g' := s.gens) (d' := s.drawn) (ch := [it]) (fun b hb => ?_) (fun b o _ _ hc e _ => k b o (fun z => hc (by simp [z])) e) (fun b o _ _ hc e _ => ⟨o.slots, k b o (fun z => hc (by simp [z])) e⟩) (fun _ _ _ _ n => n)
    (fun b o hc e => ⟨o, k b o (fun z => hc (by simp [z])) e⟩) (fun _ _ e => e) (fun _ _ _ e => e) (fun b ps e => ⟨#[], by rw [e]; simp⟩) (fun m hm => ?_) (fun b u e => ?_) I.bare
  · have e : b = it := by simpa using hb
    subst e
    exact ⟨h1, hL, h2, h3⟩
  · obtain ⟨o, es, ep, ho, r⟩ := hm
    exact ⟨o, es, ep, k _ o (Ne.symm hL) ho, r⟩
  · refine (I.hok b u e).stay (fun c v hc q => k c v ?_ q) (fun _ q => q) fun _ _ q => q
    rcases hc with z | z
    · rw [z]; exact nit b u e
    · exact nit c _ z
theorem Inv.tok (I : Inv X pins σ H s) (t : Nat) : Inv X pins σ H { s with toks := t } := I.un (h' := s.heap) (t' := t) Un.refl I.hok
/-- all objects kept -/
theorem Inv.kept {t' : Nat} (I : Inv X pins σ H s) (k : ∀ b u, s.heap.get? b = some u → h'.get? b = some u) : Inv X pins σ H { s with heap := h', toks := t' } := I.un (Un.kept k) (I.hok.kept k)
/-- a new object laid and tracked -/
theorem Inv.laid {a : Addr} {o : HO} {t' : Nat} (I : Inv X pins σ H s) (k : ∀ b u, s.heap.get? b = some u → h'.get? b = some u) (hp : s.heap.objs.size ≤ a) (new : ObjOk X.prog X.w (upd H a o) h' a o) :
    Inv X pins σ (upd H a o) { s with heap := h', toks := t' } := I.un (Un.laid k hp (I.hok.fresh hp)) (I.hok.laid k hp new)
/-- an object written -/
theorem Inv.write {x e : Addr} {o : HO} {t' : Nat} (I : Inv X pins σ H s) (mu : Mut (H x)) (he : e = x ∨ H e = some (.own x)) (k : ∀ b u, b ≠ e → s.heap.get? b = some u → h'.get? b = some u) (heo : ∃ u, h'.get? e = some u)
    (new : ObjOk X.prog X.w (upd H x o) h' x o) : Inv X pins σ (upd H x o) { s with heap := h', toks := t' } := I.un (Un.write mu he k heo) (I.hok.write mu he k heo new)
/-- forgetting slots, pins -/
theorem Inv.weak {σ' : List (Option V)} (I : Inv X pins σ H s) (hl : σ'.length = σ.length) (w : ∀ (i : Nat) v, σ'[i]? = some (some v) → σ[i]? = some (some v)) : Inv X pins σ' H s :=
  ⟨I.ok, I.os, I.bare, I.base, let ⟨m, hn, hl'⟩ := I.loc; ⟨m, hn, fun i x v e1 e2 e3 => hl' i x v e1 (w i v e2) e3⟩, I.cell, I.free, I.freeC, I.pin, I.hok, hl.trans I.len⟩
theorem Inv.pins_of {pins' : List (Addr × Obj)} (I : Inv X pins σ H s) (h : ∀ p ∈ pins', s.heap.get? p.1 = some p.2 ∧ H p.1 = none ∧ p.1 ≠ X.env.locals ∧ p.1 ∉ X.fs ∧ ∀ v, p.2.data ≠ .cell v) : Inv X pins' σ H s :=
  ⟨I.ok, I.os, I.bare, I.base, I.loc, I.cell, I.free, I.freeC, fun p hp => (List.mem_append.mp hp).elim (fun z => I.pin p (List.mem_append_left _ z)) (h p), I.hok, I.len⟩

theorem nodup_ix {N : List Str} (hN : N.Nodup) {i j : Nat} {x : Str} (a : N[i]? = some x) (b : N[j]? = some x) : i = j := by
  obtain ⟨h1, e1⟩ := List.getElem?_eq_some_iff.mp a
  obtain ⟨h2, e2⟩ := List.getElem?_eq_some_iff.mp b
  exact (List.getElem_inj hN).mp (e1.trans e2.symm)

/-- a name is stored; what changed -/
theorem store_ok2 {M : Model} {A : Around} {E : Value → Shared → Prop} {i : Nat} {x : Str} {v : V} {u : Value} {Q : Unit → Shared → Prop} (I : Inv X pins σ H s) (hN : X.N.Nodup) (hi : X.N[i]? = some x) (hx : Loc X.env.scope x) (r : RelV v u)
    (h : ∀ s', Inv X pins (σ.set i (some v)) H s' → (∃ a, Heap.SameBut a s.heap s'.heap ∧ (a = X.env.locals ∨ X.env.cells.lookup x = some a)) → Q () s') (hf : X.fn x = true ∨ X.env.scope.names.lookup x = some .local := by first | exact .inl rfl | exact .inr rfl | assumption) : wpAny M A (storeName X.env x u) Q E s := by
  obtain ⟨m, hn, hl⟩ := id I.loc
  have hcls : (X.env.scope.kind == .class || (X.env.scope.kind == .module && X.env.locals != X.env.globals)) = false := by rw [I.ok.kind]; rfl
  have hiσ : i < σ.length := by rw [I.len]; exact (List.getElem?_eq_some_iff.mp hi).1
  have cne := I.cne
  have tracked : ∀ {a : Addr} {h' : Heap}, (∃ o, s.heap.get? a = some o ∧ H a = none) → Heap.SameBut a s.heap h' → HOk X.prog X.w H h' := fun {a h'} ha hs b ob e => by
    obtain ⟨_, _, hfree⟩ := ha
    refine (I.hok b ob e).stay (fun c w' hc q => (hs.2 c ?_).trans q) (fun _ q => q) fun _ _ q => q
    rintro rfl
    rcases hc with rfl | hc
    · rw [hfree] at e; cases e
    · rw [hfree] at hc; cases hc
  rcases hx with hk | hk
  · refine wpAny_storeName_local hk hn (fun h' hn' hs => ?_) hcls
    obtain ⟨oL, _, _, hoL, _⟩ := id hn
    refine h _ ⟨I.ok, I.os, I.bare, ⟨fun b o e n hb hx => ?_, fun b o e n hb hx => ?_, I.base.free, fun b o e hx => ?_, I.base.tups, I.base.frzs, I.base.tbls⟩, ⟨_, hn', fun j y v' e1 e2 e3 => ?_⟩, fun y c e => ?_, I.free, I.freeC, fun p hp => ?_, tracked ⟨oL, hoL, I.free⟩ hs, by simpa using I.len⟩ ⟨_, hs, .inl rfl⟩
    · exact (hs.2 b (Nat.ne_of_lt (Nat.lt_of_lt_of_le (Heap.lt_size e) I.ok.above))).trans (I.base.keep b o e n hb hx)
    · obtain ⟨sl, e1⟩ := I.base.slot b o e n hb hx
      exact ⟨sl, (hs.2 b (Nat.ne_of_lt (Nat.lt_of_lt_of_le (Heap.lt_size e) I.ok.above))).trans e1⟩
    · obtain ⟨o', e1⟩ := I.base.there b o e hx
      exact ⟨o', (hs.2 b (Nat.ne_of_lt (Nat.lt_of_lt_of_le (Heap.lt_size e) I.ok.above))).trans e1⟩
    · by_cases hj : j = i
      · subst hj
        rw [hi] at e1; cases e1
        rw [List.getElem?_set_self hiσ] at e2
        cases e2
        exact ⟨u, r, .inl ⟨hk, by simp⟩⟩
      · rw [List.getElem?_set_ne (Ne.symm hj)] at e2
        obtain ⟨u', r', q⟩ := hl j y v' e1 e2 e3
        refine ⟨u', r', ?_⟩
        rcases q with ⟨k, e⟩ | ⟨k, c, e, z⟩
        · refine .inl ⟨k, ?_⟩
          have : y ≠ x := fun e => hj (nodup_ix hN e1 (e ▸ hi))
          simp [this, e]
        · exact .inr ⟨k, c, e, z.sameBut hs (cne y c e)⟩
    · obtain ⟨w', z⟩ := I.cell y c e
      exact ⟨w', z.sameBut hs (cne y c e)⟩
    · obtain ⟨e, n, ne, nf, d⟩ := I.pin p hp
      exact ⟨(hs.2 p.1 ne).trans e, n, ne, nf, d⟩
  · have hfn : X.fn x = true := by
      rcases hf with z | z
      · exact z
      · rw [z] at hk; cases hk
    obtain ⟨c, hc⟩ := I.ok.has x (.inl hk)
    obtain ⟨w', z⟩ := I.cell x c hc
    refine wpAny_storeName_cell I.ok.kind hk hc z (fun h' hc' hs => ?_)
    obtain ⟨oc, hoc, hocd⟩ := id z
    refine h { s with heap := h' } ⟨I.ok, I.os, I.bare, ⟨fun b o e n hb hx => ?_, fun b o e n hb hx => ?_, I.base.free, fun b o e hx => ?_, I.base.tups, I.base.frzs, I.base.tbls⟩, ⟨m, hn.sameBut hs (Ne.symm (cne x c hc)), fun j y v' e1 e2 e3 => ?_⟩, fun y c' e => ?_, I.free, I.freeC, fun p hp => ?_, tracked ⟨oc, hoc, I.freeC x c hc⟩ hs, by simpa using I.len⟩ ⟨c, hs, .inr hc⟩
    · exact (hs.2 b (Nat.ne_of_lt (Nat.lt_of_lt_of_le (Heap.lt_size e) (I.ok.cab x c hfn hc)))).trans (I.base.keep b o e n hb hx)
    · obtain ⟨sl, e1⟩ := I.base.slot b o e n hb hx
      exact ⟨sl, (hs.2 b (Nat.ne_of_lt (Nat.lt_of_lt_of_le (Heap.lt_size e) (I.ok.cab x c hfn hc)))).trans e1⟩
    · obtain ⟨o', e1⟩ := I.base.there b o e hx
      exact ⟨o', (hs.2 b (Nat.ne_of_lt (Nat.lt_of_lt_of_le (Heap.lt_size e) (I.ok.cab x c hfn hc)))).trans e1⟩
    · by_cases hj : j = i
      · subst hj
        rw [hi] at e1; cases e1
        rw [List.getElem?_set_self hiσ] at e2
        cases e2
        exact ⟨u, r, .inr ⟨.inl hk, c, hc, hc'⟩⟩
      · rw [List.getElem?_set_ne (Ne.symm hj)] at e2
        obtain ⟨u', r', q⟩ := hl j y v' e1 e2 e3
        refine ⟨u', r', ?_⟩
        rcases q with q | ⟨k, c', e, z'⟩
        · exact .inl q
        · refine .inr ⟨k, c', e, z'.sameBut hs ?_⟩
          rintro rfl
          exact hj (nodup_ix hN e1 (I.ok.inj _ _ _ e hc ▸ hi))
    · by_cases hcc : c' = c
      · subst hcc; exact ⟨_, hc'⟩
      · obtain ⟨w2, z2⟩ := I.cell y c' e
        exact ⟨w2, z2.sameBut hs hcc⟩
    · obtain ⟨e, n, ne, nf, d⟩ := I.pin p hp
      refine ⟨(hs.2 p.1 ?_).trans e, n, ne, nf, d⟩
      intro q
      rw [q, hoc] at e
      have q' : oc = p.2 := Option.some.inj e
      exact d w' (by rw [← q']; exact hocd)
theorem store_ok {M : Model} {A : Around} {E : Value → Shared → Prop} {i : Nat} {x : Str} {v : V} {u : Value} {Q : Unit → Shared → Prop} (I : Inv X pins σ H s) (hN : X.N.Nodup) (hi : X.N[i]? = some x) (hx : Loc X.env.scope x) (r : RelV v u)
    (h : ∀ s', Inv X pins (σ.set i (some v)) H s' → Q () s') (hf : X.fn x = true ∨ X.env.scope.names.lookup x = some .local := by first | exact .inl rfl | exact .inr rfl | assumption) : wpAny M A (storeName X.env x u) Q E s :=
  store_ok2 I hN hi hx r (fun s' I' _ => h s' I') hf
/-- behind a call or a block, the state as it is -/
theorem Inv.call' {s' : Shared} {ch : List Addr} (I : Inv X pins σ H s) (ho : s'.os = s.os) (u : Un (frs X.stack) ch H H' s.heap s'.heap) (hok : HOk X.prog X.w H' s'.heap) (hg : AllBare s'.gens)
    (hch : ∀ b ∈ ch, (b ∈ X.ex ∨ X.s₀.heap.objs.size ≤ b) ∧ b ≠ X.env.locals ∧ (∀ x c, X.env.cells.lookup x = some c → c ≠ b) ∧ ∀ p ∈ X.pn ++ pins, p.1 ≠ b) : Inv X pins σ H' s' := by
  obtain ⟨h', g', d', t', o'⟩ := s'
  have e : o' = s.os := ho
  subst e
  exact I.call (g' := g') (t' := t') (d' := d') u hok hg hch
end

/-! ### the judgements -/
/-- an exception: its class, its own dict's address (where it has one), the abstract heap behind it -/
abbrev XK := Value → Option Addr → Hp → Prop
abbrev St := List (Option V)
abbrev VK := V → Hp → Prop
/-- an expression's reading; a test's; an argument list's -/
abbrev TE := St → Hp → VK → Prop
abbrev TT := St → Hp → (Bool → Hp → Prop) → Prop
abbrev TA := St → Hp → (List V → Hp → Prop) → Prop
/-- what is wanted behind a statement -/
structure Ends where
  nx : St → Hp → Prop
  rt : VK
  bk : St → Hp → Prop := fun _ _ => False
  ct : St → Hp → Prop := fun _ _ => False
abbrev TS := Ends → St → Hp → Prop

def EP (X : Cx) (pins : List (Addr × Obj)) (σ : St) (Q : VK) (u : Value) (s' : Shared) : Prop := ∃ v H', Inv X pins σ H' s' ∧ RelV v u ∧ Q v H'
def TP (X : Cx) (pins : List (Addr × Obj)) (σ : St) (Q : Bool → Hp → Prop) (b : Bool) (s' : Shared) : Prop := ∃ H', Inv X pins σ H' s' ∧ Q b H'
def AP (X : Cx) (pins : List (Addr × Obj)) (σ : St) (Q : List V → Hp → Prop) (us : List Value) (s' : Shared) : Prop := ∃ vs H', Inv X pins σ H' s' ∧ Vals vs us ∧ Q vs H'
def SP (X : Cx) (pins : List (Addr × Obj)) (D : Ends) (f : Flow) (s' : Shared) : Prop :=
  match f with
  | .next => ∃ σ' H', Inv X pins σ' H' s' ∧ D.nx σ' H'
  | .brk => ∃ σ' H', Inv X pins σ' H' s' ∧ D.bk σ' H'
  | .cont => ∃ σ' H', Inv X pins σ' H' s' ∧ D.ct σ' H'
  | .ret u => ∃ v σ' H', Inv X pins σ' H' s' ∧ RelV v u ∧ D.rt v H'

def PE (X : Cx) (e : Expr) (t : TE) : Prop :=
  ∀ (pins : List (Addr × Obj)) (s : Shared) (σ : St) (H : Hp) (Q : VK), Inv X pins σ H s → t σ H Q → wpAny (model X.prog X.w) X.A (eval e X.env) (EP X pins σ Q) X.xe s
def PT (X : Cx) (e : Expr) (t : TT) : Prop :=
  ∀ (pins : List (Addr × Obj)) (s : Shared) (σ : St) (H : Hp) (Q : Bool → Hp → Prop), Inv X pins σ H s → t σ H Q → wpAny (model X.prog X.w) X.A (isTrue e X.env (eval e X.env)) (TP X pins σ Q) X.xe s
/-- a test whatever its 'whole' is (and, or) -/
def PW (X : Cx) (e : Expr) (t : TT) : Prop :=
  ∀ (whole : Sem Value) (pins : List (Addr × Obj)) (s : Shared) (σ : St) (H : Hp) (Q : Bool → Hp → Prop), Inv X pins σ H s → t σ H Q → wpAny (model X.prog X.w) X.A (isTrue e X.env whole) (TP X pins σ Q) X.xe s
theorem PW.pt {X : Cx} {e : Expr} {t : TT} (h : PW X e t) : PT X e t := h _
/-- an argument list (no star), from the left -/
def PA (X : Cx) (es : List Expr) (t : TA) : Prop :=
  ∀ (pos : Pos) (pins : List (Addr × Obj)) (s : Shared) (σ : St) (H : Hp) (Q : List V → Hp → Prop), Inv X pins σ H s → t σ H Q → wpAny (model X.prog X.w) X.A (spliced (backTo pos (starEach es X.env))) (AP X pins σ Q) X.xe s
def PS (X : Cx) (st : Stmt) (t : TS) : Prop :=
  ∀ (pins : List (Addr × Obj)) (s : Shared) (σ : St) (H : Hp) (D : Ends), Inv X pins σ H s → t D σ H → wpAny (model X.prog X.w) X.A (exec st X.env) (SP X pins D) X.xe s
def PSs (X : Cx) (st : List Stmt) (t : TS) : Prop :=
  ∀ (pins : List (Addr × Obj)) (s : Shared) (σ : St) (H : Hp) (D : Ends), Inv X pins σ H s → t D σ H → wpAny (model X.prog X.w) X.A (execs st X.env) (SP X pins D) X.xe s
/-- weaken the end -/
theorem thn {α : Type} {t : Sem α} {Q Q' : α → Shared → Prop} {M : Model} {A : Around} {E : Value → Shared → Prop} {s : Shared} (h : wpAny M A t Q E s) (hQ : ∀ a s, Q a s → Q' a s) : wpAny M A t Q' E s := wpAny_mono h hQ fun _ _ x => x
end L2

namespace L2
open PySem PySem.Spec PyProof.Rows
section
variable {X : Cx}

/-- two expressions in a row -/
theorem bin {a b : Expr} {ta tb : TE} (ha : PE X a ta) (hb : PE X b tb) {pins : List (Addr × Obj)} {s : Shared} {σ : St} {H : Hp} {R : V → V → Hp → Prop} (I : Inv X pins σ H s) (h : ta σ H fun x H1 => tb σ H1 fun y H2 => R x y H2)
    {α : Type} {Q : α → Shared → Prop} {f : Value → Value → Sem α}
    (hf : ∀ v u s2 x y H2, Inv X pins σ H2 s2 → RelV x v → RelV y u → R x y H2 → wpAny (model X.prog X.w) X.A (f v u) Q X.xe s2) :
    wpAny (model X.prog X.w) X.A (eval a X.env) (fun v s₁ => wpAny (model X.prog X.w) X.A (eval b X.env) (fun u s₂ => wpAny (model X.prog X.w) X.A (f v u) Q X.xe s₂) X.xe s₁) X.xe s := by
  refine thn (ha pins s σ H _ I h) fun v s1 ⟨x, H1, I1, r1, q1⟩ => ?_
  refine thn (hb pins s1 σ H1 _ I1 q1) fun u s2 ⟨y, H2, I2, r2, q2⟩ => ?_
  exact hf v u s2 x y H2 I2 r1 r2 q2

/-! ### names and constants -/
def tVar (i : Nat) : TE := fun σ H Q => ∃ v, σ[i]? = some (some v) ∧ Q v H
def tC (v : V) : TE := fun _ H Q => Q v H
theorem pe_var {i : Nat} {x : Str} {pos : Pos} (hN : X.N[i]? = some x) (hv : Vis X.env.scope x) (hd : (x == ("__debug__" : Str)) = false := by decide) (hcd : (x == ("__classdict__" : Str)) = false := by decide) : PE X (.Name x pos) (tVar i) := by
  intro pins s σ H Q I h
  obtain ⟨v, e, h⟩ := h
  obtain ⟨m, hn, hl⟩ := I.loc
  obtain ⟨u, r, l⟩ := hl i x v hN e hv
  have fin : EP X pins σ Q u s := ⟨v, H, I, r, h⟩
  rcases l with ⟨hk, hm⟩ | ⟨hk, c, hc, hcell⟩
  · exact wpAny_Name (wpAny_loadName_local I.ok.kind hk hn hm fin) hd
  · rcases hk with hk | hk
    · exact wpAny_Name (wpAny_loadName_cell I.ok.kind hk hc hcell fin) hd
    · exact wpAny_Name (wpAny_loadName_free I.ok.kind hk hc hcell fin hcd) hd
theorem pe_int {i j pos} : PE X (.Constant (.int i) j pos) (tC (.int i)) := fun _ _ _ H _ I h => wpAny_Constant_int ⟨.int i, H, I.tok _, ⟨_, rfl⟩, h⟩
theorem pe_bl {b j pos} : PE X (.Constant (.bool b) j pos) (tC (.bl b)) := fun _ _ _ H _ I h => Constant_bool ⟨.bl b, H, I, rfl, h⟩
theorem pe_non {j pos} : PE X (.Constant .none j pos) (tC .non) := fun _ _ _ H _ I h => Constant_none ⟨.non, H, I, rfl, h⟩
theorem pe_str {x j pos} : PE X (.Constant (.str x) j pos) (tC (.str x)) := fun _ _ _ H _ I h => Calls.Constant_str ⟨.str x, H, I.tok _, ⟨_, rfl⟩, h⟩

/-- a global name of the def -/
def Gl (X : Cx) (x : Str) : Prop := X.env.kindOf x = some .globalImplicit
theorem ld_glob {E : Value → Shared → Prop} {pins : List (Addr × Obj)} {s : Shared} {σ : St} {H : Hp} {x : Str} {u : Value} {pos : Pos} {Q : Value → Shared → Prop} (I : Inv X pins σ H s) (hg : Gl X x) (hm : X.mg x = some u) (h : Q u s)
    (hd : (x == ("__debug__" : Str)) = false := by decide) : wpAny (model X.prog X.w) X.A (eval (.Name x pos) X.env) Q E s :=
  Calls.Name_function_global I.ok.kind hg (Calls.loadGlobal_global (by rw [I.ok.glob]; exact I.mod.glob.keeps I.bk) hm h) hd
theorem ld_blt {E : Value → Shared → Prop} {pins : List (Addr × Obj)} {s : Shared} {σ : St} {H : Hp} {x : Str} {u : Value} {pos : Pos} {Q : Value → Shared → Prop} (I : Inv X pins σ H s) (hg : Gl X x) (hm : X.mg x = none) (hv : bootBuiltins x = some u) (h : Q u s)
    (hn : x ≠ "__name__" := by decide) (hd : (x == ("__debug__" : Str)) = false := by decide) : wpAny (model X.prog X.w) X.A (eval (.Name x pos) X.env) Q E s := by
  obtain ⟨mb, h1, h2⟩ := I.mod.blt
  exact Calls.Name_function_global I.ok.kind hg (Calls.loadGlobal_builtin (by rw [I.ok.glob]; exact I.mod.glob.keeps I.bk) hm (by rw [I.ok.blt]; exact h1.keeps I.bk) ((h2 x hn).trans hv) h) hd
/-- a module's constant, a class, a function, as a value -/
theorem pe_glob {x : Str} {v : V} {u : Value} {pos : Pos} (hg : Gl X x) (hm : X.mg x = some u) (r : RelV v u) (hd : (x == ("__debug__" : Str)) = false := by decide) : PE X (.Name x pos) (tC v) :=
  fun _ _ _ H _ I h => ld_glob I hg hm ⟨v, H, I, r, h⟩ hd
theorem pe_bltn {x : Str} {v : V} {u : Value} {pos : Pos} (hg : Gl X x) (hm : X.mg x = none) (hv : bootBuiltins x = some u) (r : RelV v u) (hn : x ≠ "__name__" := by decide) (hd : (x == ("__debug__" : Str)) = false := by decide) : PE X (.Name x pos) (tC v) :=
  fun _ _ _ H _ I h => ld_blt I hg hm hv ⟨v, H, I, r, h⟩ hn hd

/-! ### arithmetic -/
/-- two ints -/
def t2I (ta tb : TE) (k : Int → Int → Hp → Prop) : St → Hp → Prop := fun σ H => ta σ H fun x H1 => tb σ H1 fun y H2 => ∃ i j, x = .int i ∧ y = .int j ∧ k i j H2
def tAdd (ta tb : TE) : TE := fun σ H Q => t2I ta tb (fun i j H2 => Q (.int (i + j)) H2) σ H
def tSub (ta tb : TE) : TE := fun σ H Q => t2I ta tb (fun i j H2 => Q (.int (i - j)) H2) σ H
/-- the left factor below 2^64 -/
def tMul (ta tb : TE) : TE := fun σ H Q => t2I ta tb (fun i j H2 => (-(2 ^ 64) < i ∧ i < 2 ^ 64) ∧ Q (.int (i * j)) H2) σ H
variable {a b : Expr} {ta tb : TE} {pos : Pos}
theorem pe_add (ha : PE X a ta) (hb : PE X b tb) : PE X (.BinOp a .Add b pos) (tAdd ta tb) := by
  intro pins s σ H Q I h
  refine wpAny_BinOp (bin ha hb I h fun v u s2 x y H2 I2 rx ry q => ?_)
  obtain ⟨i, j, rfl, rfl, q⟩ := q
  obtain ⟨t, rfl⟩ := rx
  obtain ⟨t', rfl⟩ := ry
  exact add_int ⟨.int _, H2, I2.tok _, ⟨_, rfl⟩, q⟩
theorem pe_sub (ha : PE X a ta) (hb : PE X b tb) : PE X (.BinOp a .Sub b pos) (tSub ta tb) := by
  intro pins s σ H Q I h
  refine wpAny_BinOp (bin ha hb I h fun v u s2 x y H2 I2 rx ry q => ?_)
  obtain ⟨i, j, rfl, rfl, q⟩ := q
  obtain ⟨t, rfl⟩ := rx
  obtain ⟨t', rfl⟩ := ry
  exact sub_int ⟨.int _, H2, I2.tok _, ⟨_, rfl⟩, q⟩
theorem pe_mul (ha : PE X a ta) (hb : PE X b tb) : PE X (.BinOp a .Mult b pos) (tMul ta tb) := by
  intro pins s σ H Q I h
  refine wpAny_BinOp (bin ha hb I h fun v u s2 x y H2 I2 rx ry q => ?_)
  obtain ⟨i, j, rfl, rfl, ⟨q1, q2⟩, q⟩ := q
  obtain ⟨t, rfl⟩ := rx
  obtain ⟨t', rfl⟩ := ry
  exact mul_int ⟨.int _, H2, I2.tok _, ⟨_, rfl⟩, q⟩ (.of_left (intBits_le_64 q1 q2))

/-! ### comparisons -/
def PC (X : Cx) (op : CmpOp) (a b : Expr) (t : TE) : Prop :=
  ∀ (pins : List (Addr × Obj)) (s : Shared) (σ : St) (H : Hp) (Q : VK), Inv X pins σ H s → t σ H Q →
    wpAny (model X.prog X.w) X.A (eval a X.env) (fun v s₁ => wpAny (model X.prog X.w) X.A (eval b X.env) (fun u s₂ => wpAny (model X.prog X.w) X.A (compareOp op v u) (EP X pins σ Q) X.xe s₂) X.xe s₁) X.xe s
theorem nobehind (b : Expr) {op : CmpOp} (h : op ≠ .In) (h2 : op ≠ .NotIn) : behindInMarks op b = false := by
  have e1 : (op == CmpOp.In) = false := by cases op <;> first | rfl | exact absurd rfl h
  have e2 : (op == CmpOp.NotIn) = false := by cases op <;> first | rfl | exact absurd rfl h2
  cases b <;> simp [behindInMarks, e1, e2]
def tCmp (p : Int → Int → Bool) (ta tb : TE) : TE := fun σ H Q => t2I ta tb (fun i j H2 => Q (.bl (p i j)) H2) σ H
abbrev tLt : TE → TE → TE := tCmp fun i j => decide (i < j)
abbrev tLe : TE → TE → TE := tCmp fun i j => decide (i ≤ j)
abbrev tGt : TE → TE → TE := tCmp fun i j => decide (j < i)
abbrev tGe : TE → TE → TE := tCmp fun i j => decide (j ≤ i)
abbrev tEqI : TE → TE → TE := tCmp fun i j => decide (i = j)
abbrev tNeI : TE → TE → TE := tCmp fun i j => !decide (i = j)
/-- a comparison of two ints, by its rule -/
theorem pc_int {op : CmpOp} {p : Int → Int → Bool} (ha : PE X a ta) (hb : PE X b tb)
    (rule : ∀ (i j : Int) (t u : Tok) (Q : Value → Shared → Prop) (s : Shared), Q (.bool (p i j)) s → wpAny (model X.prog X.w) X.A (compareOp op (.int i t) (.int j u)) Q X.xe s) : PC X op a b (tCmp p ta tb) := by
  intro pins s σ H Q I h
  refine bin ha hb I h fun v u s2 x y H2 I2 rx ry q => ?_
  obtain ⟨i, j, rfl, rfl, q⟩ := q
  obtain ⟨t, rfl⟩ := rx
  obtain ⟨t', rfl⟩ := ry
  exact rule i j t t' _ s2 ⟨.bl _, H2, I2, rfl, q⟩
theorem pc_lt (ha : PE X a ta) (hb : PE X b tb) : PC X .Lt a b (tLt ta tb) := pc_int ha hb fun _ _ _ _ _ _ h => lt_int h
theorem pc_le (ha : PE X a ta) (hb : PE X b tb) : PC X .LtE a b (tLe ta tb) := pc_int ha hb fun _ _ _ _ _ _ h => le_int h
theorem pc_gt (ha : PE X a ta) (hb : PE X b tb) : PC X .Gt a b (tGt ta tb) := pc_int ha hb fun _ _ _ _ _ _ h => gt_int h
theorem pc_ge (ha : PE X a ta) (hb : PE X b tb) : PC X .GtE a b (tGe ta tb) := pc_int ha hb fun _ _ _ _ _ _ h => ge_int h
theorem pc_eqI (ha : PE X a ta) (hb : PE X b tb) : PC X .Eq a b (tEqI ta tb) := pc_int ha hb fun _ _ _ _ _ _ h => eq_int (by rw [Bool.beq_eq_decide_eq]; exact h)
theorem pc_neI (ha : PE X a ta) (hb : PE X b tb) : PC X .NotEq a b (tNeI ta tb) := pc_int ha hb fun _ _ _ _ _ _ h => ne_int (by rw [bne, Bool.beq_eq_decide_eq]; exact h)
/-- is None -/
def tIsN (ta : TE) : TE := fun σ H Q => ta σ H fun x H1 => Q (.bl (decide (x = .non))) H1
def tNotN (ta : TE) : TE := fun σ H Q => ta σ H fun x H1 => Q (.bl (!decide (x = .non))) H1
theorem RelV.none_iff {x : V} {v : Value} (r : RelV x v) : (v == Value.none) = decide (x = .non) := by
  cases x with
  | non => cases r; rfl
  | bl _ => cases r; rfl
  | int _ => obtain ⟨t, rfl⟩ := r; rfl
  | str _ => obtain ⟨t, rfl⟩ := r; rfl
  | byt _ => obtain ⟨t, rfl⟩ := r; rfl
  | flt _ => obtain ⟨t, rfl⟩ := r; rfl
  | ref _ => cases r; rfl
  | ty _ => cases r; rfl
theorem pc_isN {j pos'} (ha : PE X a ta) : PC X .Is a (.Constant .none j pos') (tIsN ta) := by
  intro pins s σ H Q I h
  refine thn (ha pins s σ H _ I h) fun v s1 ⟨x, H1, I1, r1, q1⟩ => ?_
  exact Constant_none (is_none_gen ⟨.bl _, H1, I1, by rw [r1.none_iff]; rfl, q1⟩)
theorem pc_notN {j pos'} (ha : PE X a ta) : PC X .IsNot a (.Constant .none j pos') (tNotN ta) := by
  intro pins s σ H Q I h
  refine thn (ha pins s σ H _ I h) fun v s1 ⟨x, H1, I1, r1, q1⟩ => ?_
  exact Constant_none (isnot_none_gen ⟨.bl _, H1, I1, by rw [r1.none_iff]; rfl, q1⟩)
/-- a comparison as a value, as a test -/
def tB (t : TE) : TT := fun σ H Q => t σ H fun x H1 => ∃ c, x = .bl c ∧ Q c H1
theorem pe_cmp {op : CmpOp} {t : TE} (h : PC X op a b t) (h1 : behindInMarks op b = false := by first | exact nobehind _ (by decide) (by decide) | rfl) : PE X (.Compare a [op] [b] pos) t := fun pins s σ H Q I hw => wpAny_Compare1 (h pins s σ H Q I hw) h1
theorem pt_cmp {op : CmpOp} {t : TE} (h : PC X op a b t) (h1 : behindInMarks op b = false := by first | exact nobehind _ (by decide) (by decide) | rfl) : PT X (.Compare a [op] [b] pos) (tB t) := by
  intro pins s σ H Q I hw
  refine wpAny_isTrue_Compare1 (thn (h pins s σ H _ I hw) fun v s1 h1 => thn h1 fun u s2 h2 => thn h2 fun c s3 ⟨x, H1, I1, r1, q1⟩ => ?_) h1
  obtain ⟨d, rfl, q⟩ := q1
  cases r1
  exact wpAny_truthy_bool ⟨H1, I1, q⟩
/-- an expression whose value is a bool, as a test -/
theorem pt_val {e : Expr} {t : TE} (h : PE X e t) (he : ∀ whole, isTrue e X.env whole = (do let v ← whole; standAt e.pos; holding [v] (truthy v)) := by intro _; rfl) : PT X e (tB t) := by
  intro pins s σ H Q I hw
  refine isTrue_plain (thn (h pins s σ H _ I hw) fun v s1 ⟨x, H1, I1, r1, q1⟩ => ?_) (he _)
  obtain ⟨d, rfl, q⟩ := q1
  cases r1
  exact wpAny_truthy_bool ⟨H1, I1, q⟩

/-! ### and, or, not -/
variable {tA tB' : TT} {rest : List Expr}
def tAnd (t u : TT) : TT := fun σ H Q => t σ H fun c H1 => if c = true then u σ H1 Q else Q false H1
def tOr (t u : TT) : TT := fun σ H Q => t σ H fun c H1 => if c = true then Q true H1 else u σ H1 Q
def tNot (t : TT) : TT := fun σ H Q => t σ H fun c H1 => Q (!c) H1
theorem pw_and1 (ha : PT X a tA) : PW X (.BoolOp .And [a] pos) tA := by
  intro wh pins s σ H Q I h
  refine isTrue_and (thn (ha pins s σ H Q I h) fun c s1 e => ?_)
  cases c with
  | true => exact isTrue_and_nil e
  | false => exact e
theorem pw_or1 (ha : PT X a tA) : PW X (.BoolOp .Or [a] pos) tA := by
  intro wh pins s σ H Q I h
  refine isTrue_or (thn (ha pins s σ H Q I h) fun c s1 e => ?_)
  cases c with
  | false => exact isTrue_or_nil e
  | true => exact e
theorem pw_and (ha : PT X a tA) (hb : PW X (.BoolOp .And (b :: rest) pos) tB') : PW X (.BoolOp .And (a :: b :: rest) pos) (tAnd tA tB') := by
  intro wh pins s σ H Q I h
  refine isTrue_and (thn (ha pins s σ H _ I h) fun c s1 ⟨H1, I1, q1⟩ => ?_)
  cases c with
  | true => exact hb wh pins s1 σ H1 Q I1 q1
  | false => exact ⟨H1, I1, q1⟩
theorem pw_or (ha : PT X a tA) (hb : PW X (.BoolOp .Or (b :: rest) pos) tB') : PW X (.BoolOp .Or (a :: b :: rest) pos) (tOr tA tB') := by
  intro wh pins s σ H Q I h
  refine isTrue_or (thn (ha pins s σ H _ I h) fun c s1 ⟨H1, I1, q1⟩ => ?_)
  cases c with
  | true => exact ⟨H1, I1, q1⟩
  | false => exact hb wh pins s1 σ H1 Q I1 q1
theorem pt_not (ha : PT X a tA) : PT X (.UnaryOp .Not a pos) (tNot tA) := by
  intro pins s σ H Q I h
  exact isTrue_not (ha pins s σ H (fun c H1 => Q (!c) H1) I h)
/-- .. as values (bools) -/
def tAndV (ta tb : TE) : TE := fun σ H Q => ta σ H fun x H1 => ∃ c, x = .bl c ∧ if c = true then tb σ H1 Q else Q (.bl false) H1
def tOrV (ta tb : TE) : TE := fun σ H Q => ta σ H fun x H1 => ∃ c, x = .bl c ∧ if c = true then Q (.bl true) H1 else tb σ H1 Q
def tNotV (ta : TE) : TE := fun σ H Q => ta σ H fun x H1 => ∃ c, x = .bl c ∧ Q (.bl (!c)) H1
theorem pe_one {op} {t : TE} (h : PE X a t) : PE X (.BoolOp op [a] pos) t := fun pins s σ H Q I hw => BoolOp_one (h pins s σ H Q I hw)
theorem pe_and (ha : PE X a ta) (hb : PE X (.BoolOp .And (b :: rest) pos) tb) : PE X (.BoolOp .And (a :: b :: rest) pos) (tAndV ta tb) := by
  intro pins s σ H Q I h
  refine BoolOp_and (thn (ha pins s σ H _ I h) fun v s1 ⟨x, H1, I1, r1, q1⟩ => ?_)
  obtain ⟨c, rfl, q1⟩ := q1
  cases r1
  refine wpAny_truthy_bool ?_
  cases c with
  | true => exact hb pins s1 σ H1 Q I1 q1
  | false => exact ⟨.bl false, H1, I1, rfl, q1⟩
theorem pe_or (ha : PE X a ta) (hb : PE X (.BoolOp .Or (b :: rest) pos) tb) : PE X (.BoolOp .Or (a :: b :: rest) pos) (tOrV ta tb) := by
  intro pins s σ H Q I h
  refine BoolOp_or (thn (ha pins s σ H _ I h) fun v s1 ⟨x, H1, I1, r1, q1⟩ => ?_)
  obtain ⟨c, rfl, q1⟩ := q1
  cases r1
  refine wpAny_truthy_bool ?_
  cases c with
  | false => exact hb pins s1 σ H1 Q I1 q1
  | true => exact ⟨.bl true, H1, I1, rfl, q1⟩
theorem pe_not (ha : PE X a ta) : PE X (.UnaryOp .Not a pos) (tNotV ta) := by
  intro pins s σ H Q I h
  refine UnaryOp_ (thn (ha pins s σ H _ I h) fun v s1 ⟨x, H1, I1, r1, q1⟩ => ?_)
  obtain ⟨c, rfl, q1⟩ := q1
  cases r1
  exact not_of (wpAny_truthy_bool ⟨.bl (!c), H1, I1, rfl, q1⟩)
/-- a if t else b -/
def tIf (t : TT) (ta tb : TE) : TE := fun σ H Q => t σ H fun c H1 => if c = true then ta σ H1 Q else tb σ H1 Q
theorem pe_ifExp {c : Expr} (hc : PT X c tA) (ha : PE X a ta) (hb : PE X b tb) : PE X (.IfExp c a b pos) (tIf tA ta tb) := by
  intro pins s σ H Q I h
  refine wpAny_IfExp (thn (hc pins s σ H _ I h) fun d s1 ⟨H1, I1, q1⟩ => ?_)
  cases d with
  | true => exact ha pins s1 σ H1 Q I1 q1
  | false => exact hb pins s1 σ H1 Q I1 q1
end
end L2

namespace L2
open PySem PySem.Spec PyProof.Rows

/-! ### a list, a tuple that is read: tracked, frozen, or an object of the module -/
def SqL (K : PySem.W.Frag) (H : Hp) (a : Addr) (xs : List V) : Prop :=
  Rd H a (.lst xs) ∨
    ∃ (o : Obj) (its : Array Value) (n : Nat), K.lookup a = some o ∧ o.cls = .type "list" ∧ o.dict = none ∧ o.data = .seq its n ∧ its.size ≤ sizeLine ∧ Vals xs its.toList
def SqT (K : PySem.W.Frag) (H : Hp) (a : Addr) (xs : List V) : Prop :=
  Rd H a (.tup xs) ∨
    ∃ (o : Obj) (its : Array Value) (n : Nat), K.lookup a = some o ∧ o.cls = .type "tuple" ∧ o.data = .seq its n ∧ its.size ≤ sizeLine ∧ Vals xs its.toList
def absV : Value → Option V
  | .none => some .non
  | .bool b => some (.bl b)
  | .int i _ => some (.int i)
  | .str x _ => some (.str x)
  | .bytes b _ => some (.byt b)
  | .float b _ => some (.flt b)
  | .ref a => some (.ref a)
  | .type n => some (.ty n)
  | _ => none
theorem RelV.abs {x : V} {u : Value} (r : RelV x u) : absV u = some x := by
  cases x with
  | non => cases r; rfl
  | bl _ => cases r; rfl
  | int _ => obtain ⟨t, rfl⟩ := r; rfl
  | str _ => obtain ⟨t, rfl⟩ := r; rfl
  | byt _ => obtain ⟨t, rfl⟩ := r; rfl
  | flt _ => obtain ⟨t, rfl⟩ := r; rfl
  | ref _ => cases r; rfl
  | ty _ => cases r; rfl
theorem RelV.inj {x y : V} {u : Value} (r : RelV x u) (q : RelV y u) : x = y := Option.some.inj (r.abs.symm.trans q.abs)
theorem Vals.inj : ∀ {xs ys : List V} {us : List Value}, Vals xs us → Vals ys us → xs = ys
  | _, _, _, .nil, .nil => rfl
  | _, _, _, .cons r t, .cons r' t' => by rw [r.inj r', Vals.inj t t']
section
variable {X : Cx} {pins : List (Addr × Obj)} {σ : St} {H : Hp} {s : Shared} {a : Addr} {xs ys : List V}
theorem SqL.of {K : PySem.W.Frag} (h : H a = some (.lst xs)) : SqL K H a xs := .inl (.inl h)
theorem SqT.of {K : PySem.W.Frag} (h : H a = some (.tup xs)) : SqT K H a xs := .inl (.inl h)
theorem Inv.list (I : Inv X pins σ H s) (h : SqL X.K H a xs) : ∃ its : List Value, Vals xs its ∧ PlainL s.heap a its.toArray ∧ xs.length ≤ sizeLine := by
  rcases h with h | ⟨o, its, n, hk, hc, hd, hs, hz, r⟩
  · obtain ⟨z, its, n, r, e⟩ := h.ok I.hok
    exact ⟨its, r, ⟨_, n, e, rfl, rfl, rfl⟩, z⟩
  · refine ⟨its.toList, r, ⟨o, n, I.kIn a o hk, hc, hd, by simpa using hs⟩, ?_⟩
    have e := r.length
    simp only [Array.length_toList] at e
    omega
theorem Inv.tuple (I : Inv X pins σ H s) (h : SqT X.K H a xs) : ∃ its : List Value, Vals xs its ∧ IsTup s.heap a its.toArray ∧ xs.length ≤ sizeLine := by
  rcases h with h | ⟨o, its, n, hk, hc, hs, hz, r⟩
  · obtain ⟨z, its, r, p⟩ := h.ok I.hok
    exact ⟨its, r, p, z⟩
  · refine ⟨its.toList, r, ⟨o, I.kIn a o hk, hc, n, by simpa using hs⟩, ?_⟩
    have e := r.length
    simp only [Array.length_toList] at e
    omega
theorem Inv.list_inj (I : Inv X pins σ H s) (h : SqL X.K H a xs) (h' : SqL X.K H a ys) : xs = ys := by
  obtain ⟨its, r, ⟨o, n, e, _, _, d⟩, _⟩ := I.list h
  obtain ⟨its', r', ⟨o', n', e', _, _, d'⟩, _⟩ := I.list h'
  rw [e] at e'; cases e'
  rw [d] at d'
  injection d' with d1 _
  have : its = its' := by simpa using congrArg Array.toList d1
  subst this
  exact r.inj r'
theorem Inv.tuple_inj (I : Inv X pins σ H s) (h : SqT X.K H a xs) (h' : SqT X.K H a ys) : xs = ys := by
  obtain ⟨its, r, ⟨o, e, _, n, d⟩, _⟩ := I.tuple h
  obtain ⟨its', r', ⟨o', e', _, n', d'⟩, _⟩ := I.tuple h'
  rw [e] at e'; cases e'
  rw [d] at d'
  injection d' with d1 _
  have : its = its' := by simpa using congrArg Array.toList d1
  subst this
  exact r.inj r'
end

/-! ### another wish about exceptions -/
abbrev Cx.wish (X : Cx) (E : Value → Shared → Prop) : Cx := { X with xe := E }
/-- no exception leaves -/
abbrev Cx.nox (X : Cx) : Cx := X.wish fun _ _ => False
theorem Cx.Ok.wish {X : Cx} (ok : X.Ok) (E : Value → Shared → Prop) : (X.wish E).Ok :=
  ⟨ok.mod, ok.kind, ok.glob, ok.blt, ok.above, ok.inj, ok.has, ok.cab, ok.hd, ok.frames, ok.stk, ok.exf, ok.bs, ok.bsz, ok.noex, ok.exfs, ok.funs, ok.frf⟩
theorem Cx.Ok.unwish {X : Cx} {E : Value → Shared → Prop} (ok : (X.wish E).Ok) : X.Ok :=
  ⟨ok.mod, ok.kind, ok.glob, ok.blt, ok.above, ok.inj, ok.has, ok.cab, ok.hd, ok.frames, ok.stk, ok.exf, ok.bs, ok.bsz, ok.noex, ok.exfs, ok.funs, ok.frf⟩
section
variable {X : Cx} {pins : List (Addr × Obj)} {σ : St} {H : Hp} {s : Shared} {E : Value → Shared → Prop}
theorem Inv.wish (I : Inv X pins σ H s) (E : Value → Shared → Prop) : Inv (X.wish E) pins σ H s := ⟨I.ok.wish E, I.os, I.bare, I.base, I.loc, I.cell, I.free, I.freeC, I.pin, I.hok, I.len⟩
theorem Inv.unwish (I : Inv (X.wish E) pins σ H s) : Inv X pins σ H s := ⟨I.ok.unwish, I.os, I.bare, I.base, I.loc, I.cell, I.free, I.freeC, I.pin, I.hok, I.len⟩
theorem SP.unwish {D : Ends} {f : Flow} {s' : Shared} (h : SP (X.wish E) pins D f s') : SP X pins D f s' := by
  cases f with
  | next => obtain ⟨σ', H', I, q⟩ := h; exact ⟨σ', H', I.unwish, q⟩
  | brk => obtain ⟨σ', H', I, q⟩ := h; exact ⟨σ', H', I.unwish, q⟩
  | cont => obtain ⟨σ', H', I, q⟩ := h; exact ⟨σ', H', I.unwish, q⟩
  | ret u => obtain ⟨v, σ', H', I, r, q⟩ := h; exact ⟨v, σ', H', I.unwish, r, q⟩
theorem PE.nox {e : Expr} {t : TE} (h : PE X.nox e t) : PE X e t := fun pins s σ H Q I hw =>
  wpAny_mono (h pins s σ H Q (I.wish _) hw) (fun _ _ ⟨v, H', I', r, q⟩ => ⟨v, H', I'.unwish, r, q⟩) fun _ _ z => False.elim z
theorem PT.nox {e : Expr} {t : TT} (h : PT X.nox e t) : PT X e t := fun pins s σ H Q I hw =>
  wpAny_mono (h pins s σ H Q (I.wish _) hw) (fun _ _ ⟨H', I', q⟩ => ⟨H', I'.unwish, q⟩) fun _ _ z => False.elim z
theorem PSs.nox {st : List Stmt} {t : TS} (h : PSs X.nox st t) : PSs X st t := fun pins s σ H D I hw =>
  wpAny_mono (h pins s σ H D (I.wish _) hw) (fun _ _ q => q.unwish) fun _ _ z => False.elim z
end

/-! ### blocks and small statements -/
section
variable {X : Cx} {st : Stmt} {rest : List Stmt} {t u : TS} {e : Expr} {te : TE} {pos : Pos}
def tNext : TS := fun D σ H => D.nx σ H
def tSeq (t u : TS) : TS := fun D σ H => t { D with nx := u D } σ H
theorem pss_nil : PSs X [] tNext := fun _ _ σ H _ I h => wpAny_execs_nil ⟨σ, H, I, h⟩
theorem pss_cons (h1 : PS X st t) (h2 : PSs X rest u) : PSs X (st :: rest) (tSeq t u) := by
  intro pins s σ H D I h
  refine wpAny_execs_cons (thn (h1 pins s σ H { D with nx := u D } I h) fun f s1 q => ?_)
  cases f with
  | next =>
    obtain ⟨σ', H', I', q⟩ := q
    exact h2 pins s1 σ' H' D I' q
  | ret v => exact q
  | brk => exact q
  | cont => exact q
theorem pss_one (h1 : PS X st t) : PSs X [st] t := by
  intro pins s σ H D I h
  refine wpAny_execs_cons (thn (h1 pins s σ H D I h) fun f s1 q => ?_)
  cases f with
  | next => exact wpAny_execs_nil q
  | ret v => exact q
  | brk => exact q
  | cont => exact q
def tBreak : TS := fun D σ H => D.bk σ H
def tCont : TS := fun D σ H => D.ct σ H
theorem ps_pass : PS X (.Pass pos) tNext := fun _ _ σ H _ I h => wpAny_Pass ⟨σ, H, I, h⟩
theorem ps_break : PS X (.Break pos) tBreak := fun _ _ σ H _ I h => wpAny_Break ⟨σ, H, I, h⟩
theorem ps_continue : PS X (.Continue pos) tCont := fun _ _ σ H _ I h => wpAny_Continue ⟨σ, H, I, h⟩
/-- in a def's body nothing is shown -/
theorem Inv.quiet {pins : List (Addr × Obj)} {σ : St} {H : Hp} {s : Shared} (I : Inv X pins σ H s) : interactive X.env = false := by simp [interactive, I.ok.kind]
/-- a docstring -/
theorem ps_doc {x j pos pos'} : PS X (.Expr (.Constant (.str x) j pos) pos') tNext := fun _ s σ H _ I h => wpAny_Expr (Calls.Constant_str (show SP X _ _ .next { s with toks := s.toks + 1 } from ⟨σ, H, I.tok _, h⟩)) I.quiet
/-- an expression whose value is dropped -/
def tDrop (te : TE) : TS := fun D σ H => te σ H fun _ H1 => D.nx σ H1
theorem ps_expr (he : PE X e te) (hs : swapsWith e none pos.line X.env = pure false := by rfl) : PS X (.Expr e pos) (tDrop te) := by
  intro pins s σ H D I h
  exact wpAny_Expr_any (thn (he pins s σ H _ I h) fun v s1 ⟨x, H1, I1, r1, q1⟩ => ⟨σ, H1, I1, q1⟩) I.quiet hs
def tRet (te : TE) : TS := fun D σ H => te σ H D.rt
theorem ps_ret (he : PE X e te) : PS X (.Return (some e) pos) (tRet te) := by
  intro pins s σ H D I h
  exact wpAny_Return_some (thn (he pins s σ H _ I h) fun v s1 ⟨x, H1, I1, r1, q1⟩ => ⟨x, σ, H1, I1, r1, q1⟩)
def tRetN : TS := fun D _ H => D.rt .non H
theorem ps_retN : PS X (.Return none pos) tRetN := fun _ _ σ H _ I h => wpAny_Return_none ⟨.non, σ, H, I, rfl, h⟩
def tIfS (c : TT) (t u : TS) : TS := fun D σ H => c σ H fun b H1 => if b = true then t D σ H1 else u D σ H1
theorem ps_if {c : Expr} {a b : List Stmt} {tc : TT} (hc : PT X c tc) (ha : PSs X a t) (hb : PSs X b u) : PS X (.If c a b pos) (tIfS tc t u) := by
  intro pins s σ H D I h
  refine wpAny_If (thn (hc pins s σ H _ I h) fun d s1 ⟨H1, I1, q1⟩ => ?_)
  cases d with
  | true => exact ha pins s1 σ H1 D I1 q1
  | false => exact hb pins s1 σ H1 D I1 q1
/-- code that the proof never comes to -/
def tNever : TS := fun _ _ _ => False
theorem ps_never : PS X st tNever := fun _ _ _ _ _ _ h => h.elim
theorem pss_never {sts : List Stmt} : PSs X sts tNever := fun _ _ _ _ _ _ h => h.elim
end

/-! ### targets -/
abbrev TG := V → St → Hp → (St → Hp → Prop) → Prop
abbrev TGs := List V → St → Hp → (St → Hp → Prop) → Prop
def PG (X : Cx) (target : Expr) (t : TG) : Prop :=
  ∀ (pins : List (Addr × Obj)) (s : Shared) (σ : St) (H : Hp) (v : V) (u : Value) (Q : St → Hp → Prop), Inv X pins σ H s → RelV v u → t v σ H Q →
    wpAny (model X.prog X.w) X.A (assign target X.env u) (fun _ s' => ∃ σ' H', Inv X pins σ' H' s' ∧ Q σ' H') X.xe s
/-- several targets, one after another -/
def PGs (X : Cx) (ts : List Expr) (t : TGs) : Prop :=
  ∀ (pins : List (Addr × Obj)) (s : Shared) (σ : St) (H : Hp) (vs : List V) (us : List Value) (Q : St → Hp → Prop), Inv X pins σ H s → Vals vs us → t vs σ H Q →
    wpAny (model X.prog X.w) X.A (assignInOrder ((assignEach ts X.env).map (·.2)) us) (fun _ s' => ∃ σ' H', Inv X pins σ' H' s' ∧ Q σ' H') X.xe s
/-- o[i] = v, by values -/
abbrev TSet := V → V → V → Hp → (Hp → Prop) → Prop
def PSet (X : Cx) (t : TSet) : Prop :=
  ∀ (pins : List (Addr × Obj)) (s : Shared) (σ : St) (H : Hp) (o i v : V) (ov iv u : Value) (Q : Hp → Prop), Inv X pins σ H s → RelV o ov → RelV i iv → RelV v u → t o i v H Q →
    wpAny (model X.prog X.w) X.A (setItem ov iv u) (fun _ s' => ∃ H', Inv X pins σ H' s' ∧ Q H') X.xe s
/-- a op= b, by values -/
abbrev TIp := V → V → Hp → VK → Prop
def PIp (X : Cx) (op : Operator) (t : TIp) : Prop :=
  ∀ (pins : List (Addr × Obj)) (s : Shared) (σ : St) (H : Hp) (x y : V) (v u : Value) (Q : VK), Inv X pins σ H s → RelV x v → RelV y u → t x y H Q →
    wpAny (model X.prog X.w) X.A (inplaceOp op v u) (EP X pins σ Q) X.xe s
section
variable {X : Cx} {pos : Pos}
def gName (i : Nat) : TG := fun v σ H Q => Q (σ.set i (some v)) H
theorem pg_name {i : Nat} {x : Str} (hN : X.N.Nodup) (hi : X.N[i]? = some x) (hx : Loc X.env.scope x) (hf : X.fn x = true ∨ X.env.scope.names.lookup x = some .local := by first | exact .inl rfl | exact .inr rfl | assumption) : PG X (.Name x pos) (gName i) := by
  intro pins s σ H v u Q I r h
  exact wpAny_assign_Name (store_ok I hN hi hx r (fun s' I' => ⟨_, H, I', h⟩) hf)
def gNil : TGs := fun vs σ H Q => vs = [] ∧ Q σ H
def gCons (t : TG) (u : TGs) : TGs := fun vs σ H Q => ∃ v r, vs = v :: r ∧ t v σ H fun σ' H' => u r σ' H' Q
theorem pgs_nil : PGs X [] gNil := by
  intro pins s σ H vs us Q I r h
  obtain ⟨e, h⟩ := h
  subst e
  cases r
  exact assignInOrder_nil ⟨σ, H, I, h⟩
theorem pgs_cons {e : Expr} {es : List Expr} {t : TG} {u : TGs} (h1 : PG X e t) (h2 : PGs X es u)
    (hs : (assignEach (e :: es) X.env).map (·.2) = assign e X.env :: (assignEach es X.env).map (·.2) := by rfl) : PGs X (e :: es) (gCons t u) := by
  intro pins s σ H vs us Q I r h
  obtain ⟨v, vr, e1, h⟩ := h
  subst e1
  cases r with
  | cons r rr =>
    rw [hs]
    refine assignInOrder_cons (thn (h1 pins s σ H _ _ _ I r h) fun _ s1 ⟨σ1, H1, I1, q1⟩ => ?_)
    exact h2 pins s1 σ1 H1 _ _ Q I1 rr q1
/-- (a, b, ..) = a tuple of that length -/
def gTup (K : PySem.W.Frag) (n : Nat) (t : TGs) : TG := fun v σ H Q => ∃ a xs, v = .ref a ∧ SqT K H a xs ∧ xs.length = n ∧ t xs σ H Q
theorem pg_tup {es : List Expr} {k : Nat} {t : TGs} {n : Nat} (hc : X.calm = true) (h : PGs X es t)
    (hn : (assignEach es X.env).length = n := by rfl) (hst : (assignEach es X.env).findIdx? (·.1) = none := by rfl) : PG X (.Tuple es k pos) (gTup X.K n t) := by
  intro pins s σ H v u Q I r hw
  obtain ⟨a, xs, e1, hq, hl, hw⟩ := hw
  subst e1
  cases r
  obtain ⟨its, rv, ht, hz⟩ := I.tuple hq
  refine assign_Tuple_tuple (I.ok.hd hc) ht (by simp [hn, ← hl, rv.length]) hst fun h' hx => ?_
  have I1 : Inv X pins σ H { s with heap := h' } := I.kept (t' := s.toks) fun b o e => hx b o (Nat.ne_of_lt (Heap.lt_size e)) e
  exact h pins _ σ H xs _ Q I1 (by simpa using rv) hw
/-- o[i] = .. -/
def gSub (to ti : TE) (t : TSet) : TG := fun v σ H Q => to σ H fun o H1 => ti σ H1 fun i H2 => t o i v H2 fun H3 => Q σ H3
theorem pg_sub {o i : Expr} {to ti : TE} {t : TSet} (ho : PE X o to) (hi : PE X i ti) (hs : PSet X t)
    (ha : ∀ v, assign (.Subscript o i pos) X.env v = (do
      let ov ← holding [v] (eval o X.env)
      let iv ← holding [v, ov] (eval i X.env)
      standAt pos
      holding [v, ov, iv] (setItem ov iv v)
      release [v, ov, iv] []) := by intro _; rfl) : PG X (.Subscript o i pos) (gSub to ti t) := by
  intro pins s σ H v u Q I r h
  rw [ha]
  refine wpAny_bind (wpAny_holding (thn (ho pins s σ H _ I h) fun ov s1 ⟨x, H1, I1, r1, q1⟩ => ?_))
  refine wpAny_bind (wpAny_holding (thn (hi pins s1 σ H1 _ I1 q1) fun iv s2 ⟨y, H2, I2, r2, q2⟩ => ?_))
  refine wpAny_bind (wpAny_standAt (wpAny_bind (wpAny_holding (thn (hs pins s2 σ H2 x y v ov iv u _ I2 r1 r2 r q2) fun _ s3 ⟨H3, I3, q3⟩ => ?_))))
  exact wpAny_release ⟨σ, H3, I3, q3⟩
/-- target = value -/
def tAsg (te : TE) (g : TG) : TS := fun D σ H => te σ H fun x H1 => g x σ H1 D.nx
theorem ps_asg {tg e : Expr} {te : TE} {g : TG} (he : PE X e te) (hg : PG X tg g) (hs : swapsWithSole [tg] e pos.line X.env = pure false := by rfl) (hw : swappedStores [tg] e X.env = pure none := by rfl)
    (h1 : (assignEach [tg] X.env).map (·.2) = [assign tg X.env] := by rfl) : PS X (.Assign [tg] e pos) (tAsg te g) := by
  intro pins s σ H D I h
  refine wpAny_Assign_stores (thn (he pins s σ H _ I h) fun v s1 ⟨x, H1, I1, r1, q1⟩ => ?_) hs hw
  rw [h1]
  exact thn (hg pins s1 σ H1 x v _ I1 r1 q1) fun _ s2 q => q
/-- name = value -/
theorem ps_set {i : Nat} {x : Str} {e : Expr} {te : TE} {pos' : Pos} (hN : X.N.Nodup) (hi : X.N[i]? = some x) (hx : Loc X.env.scope x) (he : PE X e te) (hs : swapsWith e (some (.Name x pos')) pos.line X.env = pure false := by rfl) (hf : X.fn x = true ∨ X.env.scope.names.lookup x = some .local := by first | exact .inl rfl | exact .inr rfl | assumption) :
    PS X (.Assign [.Name x pos'] e pos) (tAsg te (gName i)) := by
  intro pins s σ H D I h
  refine wpAny_Assign_Name (thn (he pins s σ H _ I h) fun v s1 ⟨y, H1, I1, r1, q1⟩ => ?_) hs
  exact store_ok I1 hN hi hx r1 (fun s2 I2 => ⟨_, H1, I2, q1⟩) hf
/-- a, b = x, y with plain local names: stored from the right; the pair itself is not tracked (the opening rows as in PyProof/Rows/TupAssign.lean:23) -/
def tPar (i j : Nat) (ta : TA) : TS := fun D σ H => ta σ H fun vs H1 => ∃ v w, vs = [v, w] ∧ D.nx ((σ.set i (some v)).set j (some w)) H1
theorem ps_par {i j : Nat} {x y : Str} {a b : Expr} {ta : TA} {px py pt : Pos} {kt k2 pt2} (hc : X.calm = true) (hN : X.N.Nodup) (hi : X.N[i]? = some x) (hj : X.N[j]? = some y) (hij : i ≠ j)
    (hx : X.env.scope.names.lookup x = some .local) (hy : X.env.scope.names.lookup y = some .local) (ha : PA X [a, b] ta)
    (hw : swappedStores [.Tuple [.Name x px, .Name y py] kt pt] (.Tuple [a, b] k2 pt2) X.env = pure (some [x, y]))
    (hs : swapsWithSole [.Tuple [.Name x px, .Name y py] kt pt] (.Tuple [a, b] k2 pt2) pos.line X.env = pure false := by rfl) :
    PS X (.Assign [.Tuple [.Name x px, .Name y py] kt pt] (.Tuple [a, b] k2 pt2) pos) (tPar i j ta) := by
  intro pins s σ H D I h
  rw [exec_Assign_arm]
  refine wpAny_bind (wpAny_standAt ?_)
  rw [hs]
  refine wpAny_bind (wpAny_pure ?_)
  rw [if_neg (by decide)]
  refine wpAny_bind (Tuple_ (thn (ha _ pins s σ H _ I h) fun us s1 ⟨vs, H1, I1, r1, q1⟩ => ?_))
  obtain ⟨v, w, e1, q1⟩ := q1
  subst e1
  obtain ⟨u1, u2, rfl, rv, rw'⟩ : ∃ u1 u2, us = [u1, u2] ∧ RelV v u1 ∧ RelV w u2 := by
    cases r1 with
    | cons p q =>
      cases q with
      | cons p' q' =>
        cases q'
        exact ⟨_, _, rfl, p, p'⟩
  refine wpAny_newObj_type ?_ (by show 2 ≤ sizeLine; decide)
  have I2 : Inv X pins σ H1 { s1 with heap := s1.heap.push { cls := .type "tuple", data := .seq [u1, u2].toArray } } := I1.kept (t' := s1.toks) fun b o e => Heap.get?_push_of_some _ e
  rw [hw]
  refine wpAny_bind (wpAny_pure ?_)
  show wpAny (model X.prog X.w) X.A (do rule "assign.swapped-stores"; let items ← unpackItems (.ref s1.heap.objs.size) 2 none; assignInOrder [fun v => bindName X.env y v, fun v => bindName X.env x v] items.reverse; pure Flow.next) _ _ _
  refine wpAny_bind (wpAny_rule (wpAny_bind (unpackItems_tuple (items := #[u1, u2]) (I.ok.hd hc) (IsTup.new s1.heap _) fun h' hx' => ?_)))
  have I3 := I2.kept (h' := h') (t' := s1.toks) fun b o e => hx' b o (Nat.ne_of_lt (Heap.lt_size e)) e
  show wpAny _ _ (assignInOrder [fun v => bindName X.env y v, fun v => bindName X.env x v] [u2, u1] >>= fun _ => pure Flow.next) _ _ _
  refine wpAny_bind (assignInOrder_cons (wpAny_bindName (store_ok I3 hN hj (.inl hy) rw' (fun s2 I4 => ?_) (.inr hy))))
  refine assignInOrder_cons (wpAny_bindName (store_ok I4 hN hi (.inl hx) rv (fun s3 I5 => assignInOrder_nil (wpAny_pure ?_)) (.inr hx)))
  rw [List.set_comm _ _ (Ne.symm hij)] at I5
  exact ⟨_, H1, I5, q1⟩
/-- name op= e -/
def tAug (i : Nat) (te : TE) (ti : TIp) : TS := fun D σ H => ∃ x, σ[i]? = some (some x) ∧ te σ H fun y H1 => ti x y H1 fun z H2 => D.nx (σ.set i (some z)) H2
theorem ps_aug {i : Nat} {x : Str} {e : Expr} {te : TE} {op : Operator} {ti : TIp} {pos' : Pos} (hN : X.N.Nodup) (hi : X.N[i]? = some x) (hx : Loc X.env.scope x) (he : PE X e te) (ho : PIp X op ti) (hf : X.fn x = true ∨ X.env.scope.names.lookup x = some .local := by first | exact .inl rfl | exact .inr rfl | assumption) :
    PS X (.AugAssign (.Name x pos') op e pos) (tAug i te ti) := by
  intro pins s σ H D I h
  obtain ⟨v, e1, h⟩ := h
  obtain ⟨m, hn, hl⟩ := I.loc
  have vis : Vis X.env.scope x := by rcases hx with k | k; exact .inl k; exact .inr (.inl k)
  obtain ⟨u, r, l⟩ := hl i x v hi e1 vis
  refine wpAny_AugAssign_Name ?_
  have go : wpAny (model X.prog X.w) X.A (eval e X.env) (fun w s₂ => wpAny (model X.prog X.w) X.A (inplaceOp op u w) (fun r s₃ => wpAny (model X.prog X.w) X.A (storeName X.env x r) (fun _ => SP X pins D .next) X.xe s₃) X.xe s₂) X.xe s := by
    refine thn (he pins s σ H _ I h) fun w s1 ⟨y, H1, I1, r1, q1⟩ => ?_
    refine thn (ho pins s1 σ H1 v y u w _ I1 r r1 q1) fun z s2 ⟨zv, H2, I2, r2, q2⟩ => ?_
    exact store_ok I2 hN hi hx r2 (fun s3 I3 => ⟨_, H2, I3, q2⟩) hf
  rcases l with ⟨hk, hm⟩ | ⟨hk, c, hc, hcell⟩
  · exact wpAny_loadName_local I.ok.kind hk hn hm go
  · rcases hk with hk | hk
    · exact wpAny_loadName_cell I.ok.kind hk hc hcell go
    · rcases hx with k | k
      · have : X.env.scope.names.lookup x = some .free := hk
        rw [k] at this; cases this
      · have : X.env.scope.names.lookup x = some .free := hk
        rw [k] at this; cases this
/-- o[i] op= e -/
def tAugS (to ti te : TE) (tget : V → V → Hp → VK → Prop) (tip : TIp) (tset : TSet) : TS := fun D σ H => to σ H fun o H1 => ti σ H1 fun i H2 => tget o i H2 fun x H3 => te σ H3 fun y H4 => tip x y H4 fun z H5 => tset o i z H5 fun H6 => D.nx σ H6
/-- o[i], by values -/
def PGet (X : Cx) (t : V → V → Hp → VK → Prop) : Prop :=
  ∀ (pins : List (Addr × Obj)) (s : Shared) (σ : St) (H : Hp) (o i : V) (ov iv : Value) (Q : VK), Inv X pins σ H s → RelV o ov → RelV i iv → t o i H Q →
    wpAny (model X.prog X.w) X.A (getItem ov iv) (EP X pins σ Q) X.xe s
theorem ps_augS {o i e : Expr} {to ti te : TE} {tget : V → V → Hp → VK → Prop} {tip : TIp} {tset : TSet} {op : Operator} {tpos : Pos} (ho : PE X o to) (hi : PE X i ti) (hg : PGet X tget) (he : PE X e te) (hp : PIp X op tip) (hs : PSet X tset)
    (ha : ∀ ov iv new, augStore i ov iv new = (do holding [new, ov, iv] (setItem ov iv new); release [new, ov, iv] []; pure .next) := by intros; rfl) : PS X (.AugAssign (.Subscript o i tpos) op e pos) (tAugS to ti te tget tip tset) := by
  intro pins s σ H D I h
  refine wpAny_AugAssign_SubscriptAny (thn (ho pins s σ H _ I h) fun ov s1 ⟨x1, H1, I1, r1, q1⟩ => ?_) ha
  refine thn (hi pins s1 σ H1 _ I1 q1) fun iv s2 ⟨x2, H2, I2, r2, q2⟩ => ?_
  refine thn (hg pins s2 σ H2 x1 x2 ov iv _ I2 r1 r2 q2) fun old s3 ⟨x3, H3, I3, r3, q3⟩ => ?_
  refine thn (he pins s3 σ H3 _ I3 q3) fun v s4 ⟨x4, H4, I4, r4, q4⟩ => ?_
  refine thn (hp pins s4 σ H4 x3 x4 old v _ I4 r3 r4 q4) fun new s5 ⟨x5, H5, I5, r5, q5⟩ => ?_
  exact thn (hs pins s5 σ H5 x1 x2 x5 ov iv new _ I5 r1 r2 r5 q5) fun _ s6 ⟨H6, I6, q6⟩ => ⟨σ, H6, I6, q6⟩
/-- ints -/
def ipI (f : Int → Int → Int) : TIp := fun x y H Q => ∃ i j, x = .int i ∧ y = .int j ∧ Q (.int (f i j)) H
theorem ip_add : PIp X .Add (ipI fun i j => i + j) := by
  intro pins s σ H x y v u Q I r1 r2 h
  obtain ⟨i, j, e1, e2, q⟩ := h
  subst e1; subst e2
  obtain ⟨t, rfl⟩ := r1
  obtain ⟨t', rfl⟩ := r2
  exact iadd_int ⟨.int _, H, I.tok _, ⟨_, rfl⟩, q⟩
theorem ip_sub : PIp X .Sub (ipI fun i j => i - j) := by
  intro pins s σ H x y v u Q I r1 r2 h
  obtain ⟨i, j, e1, e2, q⟩ := h
  subst e1; subst e2
  obtain ⟨t, rfl⟩ := r1
  obtain ⟨t', rfl⟩ := r2
  exact isub_int ⟨.int _, H, I.tok _, ⟨_, rfl⟩, q⟩
end

/-! ### while -/
section
variable {X : Cx} {pos : Pos}
/-- the invariant W with its measure -/
def tWhile (c : TT) (tb : TS) : TS := fun D σ H => ∃ W : Nat → St → Hp → Prop, (∃ m, W m σ H) ∧ ∀ m σ H, W m σ H →
  c σ H fun b H1 => if b = true then ∃ N : St → Hp → Prop, (∀ σ' H', N σ' H' → ∃ m', m' < m ∧ W m' σ' H') ∧ tb { D with nx := N, ct := N, bk := D.nx } σ H1 else D.nx σ H1
theorem ps_while {c : Expr} {body : List Stmt} {tc : TT} {tb : TS} (hp : PassesOwn (model X.prog X.w) X.A X.env X.xe) (hc : PT X c tc) (hb : PSs X body tb) : PS X (.While c body [] pos) (tWhile tc tb) := by
  intro pins s σ H D I h
  obtain ⟨W, ⟨m0, w0⟩, turn⟩ := h
  refine wpAny_While (codeAny_whileLoop (fun n s' => ∃ σ' H', Inv X pins σ' H' s' ∧ W n σ' H') ?_ m0 ⟨σ, H, I, w0⟩)
  rintro n s1 ⟨σ1, H1, I1, w1⟩
  refine wpAny_passesOwn hp (thn (hc pins s1 σ1 H1 _ I1 (turn n σ1 H1 w1)) fun b s2 ⟨H2, I2, q2⟩ => ?_)
  cases b with
  | true =>
    obtain ⟨N, hN, q2⟩ := q2
    rw [if_pos rfl]
    refine wpAny_passesOwn hp (thn (hb pins s2 σ1 H2 _ I2 q2) fun f s3 q3 => ?_)
    cases f with
    | next =>
      obtain ⟨σ3, H3, I3, n3⟩ := q3
      obtain ⟨m', hm, w3⟩ := hN σ3 H3 n3
      exact ⟨m', hm, σ3, H3, I3, w3⟩
    | cont =>
      obtain ⟨σ3, H3, I3, n3⟩ := q3
      obtain ⟨m', hm, w3⟩ := hN σ3 H3 n3
      exact ⟨m', hm, σ3, H3, I3, w3⟩
    | brk => exact q3
    | ret v => exact q3
  | false =>
    rw [if_neg Bool.false_ne_true]
    exact wpAny_execs_nil ⟨σ1, H2, I2, q2⟩
end

/-! ### what a loop or a comprehension walks -/
/-- at turn i: it yields x (the heap may grow), or it stops -/
structure It where
  go : Nat → Hp → Prop
  yld : Nat → Hp → V → Hp → Prop
  stop : Nat → Hp → Prop
/-- the iterator's own objects may turn: they are not the frame's, not pinned, younger than the entry (or a comprehension's own) -/
def FpOk (X : Cx) (pins : List (Addr × Obj)) (H : Hp) (b : Addr) : Prop :=
  H b = none ∧ b ≠ X.env.locals ∧ b ∉ X.fs ∧ (b ∈ X.ex ∨ X.s₀.heap.objs.size ≤ b) ∧ (∀ x c, X.env.cells.lookup x = some c → c ≠ b) ∧ ∀ p ∈ X.pn ++ pins, p.1 ≠ b
theorem Inv.fpOk {X : Cx} {pins : List (Addr × Obj)} {σ : St} {H H' : Hp} {s : Shared} {b : Addr} (I : Inv X pins σ H s) (hb : s.heap.objs.size ≤ b) (hn : H' b = none) : FpOk X pins H' b := by
  refine ⟨hn, Nat.ne_of_gt (Nat.lt_of_lt_of_le I.lt hb), I.nofs hb, .inr (Nat.le_trans I.sz hb), fun x c e z => ?_, fun p hp z => ?_⟩
  · obtain ⟨v, q⟩ := I.cell x c e
    exact absurd (Nat.lt_of_lt_of_le q.lt (by rw [z]; exact hb)) (Nat.lt_irrefl _)
  · exact absurd (Nat.lt_of_lt_of_le (Heap.lt_size (I.pin p hp).1) (by rw [z]; exact hb)) (Nat.lt_irrefl _)
structure Turn (P : Program) (w : World) (K : PySem.W.Frag) (tg : Expr) (J : It) (fp : List Addr) (it : Addr) (tn : Nat → Heap → Prop) : Prop where
  mem : it ∈ fp
  obj : ∀ i h, tn i h → ∀ b ∈ fp, ∃ o, h.get? b = some o ∧ ∀ v, o.data ≠ .cell v
  keep : ∀ i h h', tn i h → (∀ b ∈ fp, ∀ o, h.get? b = some o → h'.get? b = some o) → tn i h'
  item : ∀ (X : Cx), X.prog = P → X.w = w → X.K = K → X.calm = true → ∀ (i : Nat) (pins : List (Addr × Obj)) (s : Shared) (σ : St) (H : Hp) (E : Value → Shared → Prop), Inv X pins σ H s → (∀ b ∈ fp, FpOk X pins H b) → tn i s.heap → J.go i H →
    wpAny (model P w) X.A (pyNext (.ref it)) (fun r s1 => ∃ u, r = some u ∧
      wpAny (model P w) X.A (letOwnedTupleGo tg (.ref it) u) (fun _ s2 => ∃ x H', Inv X pins σ H' s2 ∧ RelV x u ∧ J.yld i H x H' ∧ tn (i + 1) s2.heap ∧ ∀ b ∈ fp, H' b = none) E s1) E s
  done : ∀ (X : Cx), X.prog = P → X.w = w → X.K = K → X.calm = true → ∀ (i : Nat) (pins : List (Addr × Obj)) (s : Shared) (σ : St) (H : Hp) (E : Value → Shared → Prop), Inv X pins σ H s → (∀ b ∈ fp, FpOk X pins H b) → tn i s.heap → J.stop i H →
    wpAny (model P w) X.A (pyNext (.ref it)) (fun r s1 => r = none ∧ Inv X pins σ H s1) E s
  self : ∀ (A : Around) (i : Nat) (s : Shared) (Q : Value → Shared → Prop) (E : Value → Shared → Prop), tn i s.heap → Q (.ref it) s → wpAny (model P w) A (pyIter (.ref it)) Q E s
abbrev TI := St → Hp → (It → Hp → Prop) → Prop
/-- an iterator has come -/
def PIE (X : Cx) (pins : List (Addr × Obj)) (σ : St) (tg : Expr) (R : It → Hp → Prop) (itv : Value) (s2 : Shared) : Prop :=
  ∃ (it : Addr) (fp : List Addr) (tn : Nat → Heap → Prop) (J : It) (H' : Hp), itv = .ref it ∧ Inv X pins σ H' s2 ∧ Turn X.prog X.w X.K tg J fp it tn ∧ tn 0 s2.heap ∧ (∀ b ∈ fp, FpOk X pins H' b) ∧ R J H'
def PI (X : Cx) (tg iter : Expr) (wi : TI) : Prop :=
  ∀ (pins : List (Addr × Obj)) (s : Shared) (σ : St) (H : Hp) (R : It → Hp → Prop), Inv X pins σ H s → wi σ H R →
    wpAny (model X.prog X.w) X.A (eval iter X.env) (fun v s1 => wpAny (model X.prog X.w) X.A (pyIter v) (PIE X pins σ tg R) X.xe s1) X.xe s

/-- the step ahead of the store is nothing for an iterator that keeps no tuple -/
theorem go_of {M : Model} {A : Around} {E : Value → Shared → Prop} {s : Shared} {tg : Expr} {it : Addr} {u : Value} {o : Obj} {n : String} {vs : Array Value} {Q : Unit → Shared → Prop} (ho : s.heap.get? it = some o) (hc : o.cls = .type n) (hd : o.data = .fields vs)
    (hn : ["enumerate", "zip", "dict_itemiterator", "dict_reverseitemiterator", "odict_iterator", "itertools.zip_longest", "itertools.pairwise"].contains n = false) (hQ : Q () s) : wpAny M A (letOwnedTupleGo tg (.ref it) u) Q E s := by
  unfold letOwnedTupleGo
  cases tg <;> first
    | exact wpAny_pure hQ
    | (cases u <;> first
        | exact wpAny_pure hQ
        | (refine wpAny_bind (wpAny_load ho ?_)
           rw [hc, hd]
           show wpAny M A (if (["enumerate", "zip", "dict_itemiterator", "dict_reverseitemiterator", "odict_iterator", "itertools.zip_longest", "itertools.pairwise"].contains n && vs[0]? == some (rawInt _)) = true then _ else _) Q E s
           rw [if_neg (by intro h; rw [hn, Bool.false_and] at h; cases h)]
           exact wpAny_pure hQ))

/-- the list at a, as it stands at each turn (a loop may append to it) -/
def Itl (K : PySem.W.Frag) (a : Addr) : It :=
  ⟨fun i H => ∃ xs x, SqL K H a xs ∧ xs[i]? = some x, fun i H x H' => H' = H ∧ ∀ xs, SqL K H a xs → xs[i]? = some x, fun i H => ∃ xs, SqL K H a xs ∧ xs.length ≤ i⟩
def Itt (K : PySem.W.Frag) (a : Addr) : It :=
  ⟨fun i H => ∃ xs x, SqT K H a xs ∧ xs[i]? = some x, fun i H x H' => H' = H ∧ ∀ xs, SqT K H a xs → xs[i]? = some x, fun i H => ∃ xs, SqT K H a xs ∧ xs.length ≤ i⟩
/-- lo, lo + 1, .. (n of them) -/
def Itr (lo : Int) (n : Nat) : It := ⟨fun i _ => i < n, fun i H x H' => H' = H ∧ x = .int (lo + i), fun i _ => n ≤ i⟩
theorem turn_list {P : Program} {w : World} {K : PySem.W.Frag} {tg : Expr} (a it : Addr) : Turn P w K tg (Itl K a) [it] it (fun i h => h.IsListIter it a i) where
  mem := by simp
  obj := fun i h st b hb => by
    have e : b = it := by simpa using hb
    subst e
    obtain ⟨o, e, c, d⟩ := st
    exact ⟨o, e, fun v z => by rw [d] at z; cases z⟩
  keep := fun i h h' st k => st.at fun o e => k it (by simp) o e
  item := by
    intro X hP hw hK hc i pins s σ H E I hf st hg
    subst hP hw hK
    obtain ⟨xs, x, hq, hx⟩ := hg
    obtain ⟨its, rv, p, hz⟩ := I.list hq
    obtain ⟨u, hu, ru⟩ := rv.get hx
    obtain ⟨f0, f1, f2, f3, f4, f5⟩ := hf it (by simp)
    refine wpAny_pyNext_list_item st p.isList (x := u) (by simpa using hu) fun h' st' sb => ?_
    have I1 : Inv X pins σ H { s with heap := h' } := I.turned (t' := s.toks) (fun b o hb e => (sb.2 b hb).trans e) f0 f1 f3 f4 f5
    obtain ⟨o, e, c, d⟩ := id st'
    exact ⟨u, rfl, go_of (s := { s with heap := h' }) e c d (by decide) ⟨x, H, I1, ru, ⟨rfl, fun ys hy => by rw [I.list_inj hy hq]; exact hx⟩, st', fun b hb => (hf b hb).1⟩⟩
  done := by
    intro X hP hw hK hc i pins s σ H E I hf st hg
    subst hP hw hK
    obtain ⟨xs, hq, hx⟩ := hg
    obtain ⟨its, rv, p, hz⟩ := I.list hq
    obtain ⟨f0, f1, f2, f3, f4, f5⟩ := hf it (by simp)
    have hl := rv.length
    exact wpAny_pyNext_list_end (I.ok.hd hc) st p.isList (by simp; omega) fun h' eb => ⟨rfl, I.turned (t' := s.toks) (fun b o hb e => eb b o hb e) f0 f1 f3 f4 f5⟩
  self := fun _ _ _ _ _ st h => wpAny_pyIter_listiter st h
theorem turn_tuple {P : Program} {w : World} {K : PySem.W.Frag} {tg : Expr} (a it : Addr) : Turn P w K tg (Itt K a) [it] it (fun i h => h.IsTupleIter it a i) where
  mem := by simp
  obj := fun i h st b hb => by
    have e : b = it := by simpa using hb
    subst e
    obtain ⟨o, e, c, d⟩ := st
    exact ⟨o, e, fun v z => by rw [d] at z; cases z⟩
  keep := fun i h h' st k => st.at fun o e => k it (by simp) o e
  item := by
    intro X hP hw hK hc i pins s σ H E I hf st hg
    subst hP hw hK
    obtain ⟨xs, x, hq, hx⟩ := hg
    obtain ⟨its, rv, p, hz⟩ := I.tuple hq
    obtain ⟨u, hu, ru⟩ := rv.get hx
    obtain ⟨f0, f1, f2, f3, f4, f5⟩ := hf it (by simp)
    refine wpAny_pyNext_tuple_item st (show s.heap.IsTuple a its.toArray from p) (x := u) (by simpa using hu) fun h' st' sb => ?_
    have I1 : Inv X pins σ H { s with heap := h' } := I.turned (t' := s.toks) (fun b o hb e => (sb.2 b hb).trans e) f0 f1 f3 f4 f5
    obtain ⟨o, e, c, d⟩ := id st'
    exact ⟨u, rfl, go_of (s := { s with heap := h' }) e c d (by decide) ⟨x, H, I1, ru, ⟨rfl, fun ys hy => by rw [I.tuple_inj hy hq]; exact hx⟩, st', fun b hb => (hf b hb).1⟩⟩
  done := by
    intro X hP hw hK hc i pins s σ H E I hf st hg
    subst hP hw hK
    obtain ⟨xs, hq, hx⟩ := hg
    obtain ⟨its, rv, p, hz⟩ := I.tuple hq
    obtain ⟨f0, f1, f2, f3, f4, f5⟩ := hf it (by simp)
    have hl := rv.length
    exact wpAny_pyNext_tuple_end (I.ok.hd hc) st (show s.heap.IsTuple a its.toArray from p) (by simp; omega) fun h' eb => ⟨rfl, I.turned (t' := s.toks) (fun b o hb e => eb b o hb e) f0 f1 f3 f4 f5⟩
  self := fun _ _ _ _ _ st h => wpAny_pyIter_tupleiter st h
theorem turn_range {P : Program} {w : World} {K : PySem.W.Frag} {tg : Expr} (it : Addr) (lo : Int) (n : Nat) : Turn P w K tg (Itr lo n) [it] it (fun i h => IsRangeIter h it (lo + (i : Nat) * 1) ((n : Int) - (i : Nat)) 1) where
  mem := by simp
  obj := fun i h st b hb => by
    have e : b = it := by simpa using hb
    subst e
    exact ⟨_, st, fun v z => by
      have z' : Data.fields _ = Data.cell v := z
      cases z'⟩
  keep := fun i h h' st k => k it (by simp) _ st
  item := by
    intro X hP hw hK hc i pins s σ H E I hf st hg
    subst hP hw hK
    obtain ⟨f0, f1, f2, f3, f4, f5⟩ := hf it (by simp)
    have W := Walks.range (prog := X.prog) (w := X.w) (I.ok.hd hc) it lo 1 n
    refine W.item i s _ _ hg st fun v h' tk hv st' kk => ?_
    obtain ⟨t, rfl⟩ := hv
    have I1 : Inv X pins σ H { s with heap := h', toks := tk } := I.turned (fun b o hb e => kk b o (by simpa using hb) e) f0 f1 f3 f4 f5
    refine ⟨_, rfl, go_of (s := { s with heap := h', toks := tk }) (n := "range_iterator") st' rfl rfl (by decide) ⟨.int (lo + i), H, I1, ⟨t, ?_⟩, ⟨rfl, rfl⟩, st', fun b hb => (hf b hb).1⟩⟩
    rw [Int.mul_one]
  done := by
    intro X hP hw hK hc i pins s σ H E I hf st hg
    subst hP hw hK
    obtain ⟨f0, f1, f2, f3, f4, f5⟩ := hf it (by simp)
    exact wpAny_pyNext_range_end (I.ok.hd hc) st (by have : n ≤ i := hg; omega) fun h' eb => ⟨rfl, I.turned (t' := s.toks) (fun b o hb e => eb b o hb e) f0 f1 f3 f4 f5⟩
  self := fun _ _ _ _ _ st h => wpAny_pyIter_rangeiter st h
end L2

namespace L2
open PySem PySem.Spec PyProof.Rows
section
variable {X : Cx} {tg : Expr}
def iList (K : PySem.W.Frag) (tl : TE) : TI := fun σ H R => tl σ H fun x H1 => ∃ a, x = .ref a ∧ (∃ xs, SqL K H1 a xs) ∧ R (Itl K a) H1
def iTup (K : PySem.W.Frag) (tl : TE) : TI := fun σ H R => tl σ H fun x H1 => ∃ a, x = .ref a ∧ (∃ xs, SqT K H1 a xs) ∧ R (Itt K a) H1
theorem pi_list {l : Expr} {tl : TE} (hl : PE X l tl) : PI X tg l (iList X.K tl) := by
  intro pins s σ H R I h
  refine thn (hl pins s σ H _ I h) fun v s1 ⟨x, H1, I1, r1, q1⟩ => ?_
  obtain ⟨a, e, ⟨xs, hq⟩, q⟩ := q1
  subst e
  cases r1
  obtain ⟨its, rv, p, hz⟩ := I1.list hq
  refine wpAny_pyIter_list p.isList ?_
  refine ⟨s1.heap.objs.size, [s1.heap.objs.size], _, _, H1, rfl, I1.kept (t' := s1.toks) fun b o e => Heap.get?_push_of_some _ e, turn_list a _, ⟨_, Heap.get?_push_size _ rfl, rfl, rfl⟩, fun b hb => ?_, q⟩
  have e : b = s1.heap.objs.size := by simpa using hb
  subst e
  exact I1.fpOk (Nat.le_refl _) (I1.hok.fresh (Nat.le_refl _))
theorem pi_tup {l : Expr} {tl : TE} (hl : PE X l tl) : PI X tg l (iTup X.K tl) := by
  intro pins s σ H R I h
  refine thn (hl pins s σ H _ I h) fun v s1 ⟨x, H1, I1, r1, q1⟩ => ?_
  obtain ⟨a, e, ⟨xs, hq⟩, q⟩ := q1
  subst e
  cases r1
  obtain ⟨its, rv, p, hz⟩ := I1.tuple hq
  refine wpAny_pyIter_tuple (show s1.heap.IsTuple a its.toArray from p) ?_
  refine ⟨s1.heap.objs.size, [s1.heap.objs.size], _, _, H1, rfl, I1.kept (t' := s1.toks) fun b o e => Heap.get?_push_of_some _ e, turn_tuple a _, ⟨_, Heap.get?_push_size _ rfl, rfl, rfl⟩, fun b hb => ?_, q⟩
  have e : b = s1.heap.objs.size := by simpa using hb
  subst e
  exact I1.fpOk (Nat.le_refl _) (I1.hok.fresh (Nat.le_refl _))
/-- a range object just made, walked -/
theorem range_it {pins : List (Addr × Obj)} {σ : St} {H : Hp} {s : Shared} {R : It → Hp → Prop} {E : Value → Shared → Prop} {lo hi : Int} {t u v : Tok} {tk : Nat} (I : Inv X pins σ H s) (h1 : -(2 ^ 62) ≤ lo) (h2 : lo < 2 ^ 62) (h3 : -(2 ^ 62) ≤ hi) (h4 : hi < 2 ^ 62)
    (q : R (Itr lo (hi - lo).toNat) H) : wpAny (model X.prog X.w) X.A (pyIter (.ref s.heap.objs.size)) (PIE X pins σ tg R) E { s with heap := s.heap.push { cls := .type "range", data := .fields #[.int lo t, .int hi u, .int 1 v] }, toks := tk } := by
  refine wpAny_pyIter_range (IsRange.new ..) (small_one h1 h2 h3 h4) ?_
  have I1 : Inv X pins σ H { s with heap := s.heap.push { cls := .type "range", data := .fields #[.int lo t, .int hi u, .int 1 v] }, toks := tk } := I.kept fun b o e => Heap.get?_push_of_some _ e
  refine ⟨(s.heap.push { cls := .type "range", data := .fields #[.int lo t, .int hi u, .int 1 v] }).objs.size, [(s.heap.push { cls := .type "range", data := .fields #[.int lo t, .int hi u, .int 1 v] }).objs.size], _, _, H, rfl,
    I1.kept (t' := tk) fun b o e => Heap.get?_push_of_some _ e, turn_range _ lo (hi - lo).toNat, ?_, fun b hb => ?_, q⟩
  · have e1 : lo + ((0 : Nat) : Int) * 1 = lo := by simp
    have e2 : (((hi - lo).toNat : Nat) : Int) - ((0 : Nat) : Int) = Builtin.Range.rangeSize lo hi 1 := by rw [rangeSize_one]; split <;> omega
    show IsRangeIter _ _ (lo + ((0 : Nat) : Int) * 1) ((((hi - lo).toNat : Nat) : Int) - ((0 : Nat) : Int)) 1
    rw [e1, e2]
    exact Heap.get?_push_size _ rfl
  · have e : b = (s.heap.push { cls := .type "range", data := .fields #[.int lo t, .int hi u, .int 1 v] }).objs.size := by simpa using hb
    subst e
    exact I1.fpOk (Nat.le_refl _) (I1.hok.fresh (Nat.le_refl _))
def iRng1 (ta : TA) : TI := fun σ H R => ta σ H fun vs H1 => ∃ j : Int, vs = [.int j] ∧ -(2 ^ 62) ≤ j ∧ j < 2 ^ 62 ∧ R (Itr 0 j.toNat) H1
def iRng2 (ta : TA) : TI := fun σ H R => ta σ H fun vs H1 => ∃ i j : Int, vs = [.int i, .int j] ∧ (-(2 ^ 62) ≤ i ∧ i < 2 ^ 62 ∧ -(2 ^ 62) ≤ j ∧ j < 2 ^ 62) ∧ R (Itr i (j - i).toNat) H1
theorem pi_range1 {a : Expr} {ta : TA} {p pos : Pos} (hg : Gl X "range") (hm : X.mg "range" = none) (ha : PA X [a] ta) (hs : starEach [a] X.env = [(false, eval a X.env)] := by rfl) : PI X tg (.Call (.Name "range" p) [a] [] pos) (iRng1 ta) := by
  intro pins s σ H R I h
  refine Call_ (ld_blt I hg hm boot_range (PyProof.Rows.callWith_type1 (thn (ha pos pins s σ H _ I h) fun us s1 ⟨vs, H1, I1, r1, q1⟩ => ?_) hs rfl))
  obtain ⟨j, e, q1, q2, q⟩ := q1
  subst e
  cases r1 with
  | cons r rr =>
    cases rr
    obtain ⟨t, rfl⟩ := r
    exact call_range_1 (range_it I1 (by omega) (by omega) q1 q2 (by simpa using q))
theorem pi_range2 {a b : Expr} {ta : TA} {p pos : Pos} (hg : Gl X "range") (hm : X.mg "range" = none) (ha : PA X [a, b] ta) (hs : starEach [a, b] X.env = [(false, eval a X.env), (false, eval b X.env)] := by rfl) (hs2 : starEach [b] X.env = [(false, eval b X.env)] := by rfl) :
    PI X tg (.Call (.Name "range" p) [a, b] [] pos) (iRng2 ta) := by
  intro pins s σ H R I h
  refine Call_ (ld_blt I hg hm boot_range (PyProof.Rows.callWith_type1 (thn (ha pos pins s σ H _ I h) fun us s1 ⟨vs, H1, I1, r1, q1⟩ => ?_) (by rw [hs, hs2]) (by rw [hs2]; rfl)))
  obtain ⟨i, j, e, ⟨q1, q2, q3, q4⟩, q⟩ := q1
  subst e
  cases r1 with
  | cons r rr =>
    cases rr with
    | cons r' rr =>
      cases rr
      obtain ⟨t, rfl⟩ := r
      obtain ⟨t', rfl⟩ := r'
      exact call_range_2 (range_it I1 q1 q2 q3 q4 q)

/-! ### for -/
/-- W: the invariant by the turn and a measure; N: what the body is to reach -/
def tFor (wi : TI) (g : TG) (tb : TS) : TS := fun D σ H => wi σ H fun J H1 => ∃ W : Nat → Nat → St → Hp → Prop, (∃ m, W 0 m σ H1) ∧ ∀ i m σ H, W i m σ H →
  (J.stop i H ∧ D.nx σ H) ∨ (J.go i H ∧ ∃ N : St → Hp → Prop, (∀ σ' H', N σ' H' → ∃ m', m' < m ∧ W (i + 1) m' σ' H') ∧ ∀ x H', J.yld i H x H' → g x σ H' fun σ2 H2 => tb { D with nx := N, ct := N, bk := D.nx } σ2 H2)
/-- the records at fp as they stand -/
def pinsAt (fp : List Addr) (h : Heap) : List (Addr × Obj) := fp.filterMap fun b => (h.get? b).map fun o => (b, o)
theorem mem_pinsAt {fp : List Addr} {h : Heap} {b : Addr} {o : Obj} (hb : b ∈ fp) (e : h.get? b = some o) : (b, o) ∈ pinsAt fp h := List.mem_filterMap.mpr ⟨b, hb, by rw [e]; rfl⟩
theorem of_pinsAt {fp : List Addr} {h : Heap} {p : Addr × Obj} (hp : p ∈ pinsAt fp h) : p.1 ∈ fp ∧ h.get? p.1 = some p.2 := by
  obtain ⟨b, hb, e⟩ := List.mem_filterMap.mp hp
  cases q : h.get? b with
  | none => rw [q] at e; cases e
  | some o =>
    rw [q] at e
    have e' : (b, o) = p := Option.some.inj e
    subst e'
    exact ⟨hb, q⟩
theorem Inv.pinned {pins : List (Addr × Obj)} {σ : St} {H : Hp} {s : Shared} {fp : List Addr} (I : Inv X pins σ H s) (hf : ∀ b ∈ fp, FpOk X pins H b) (ho : ∀ b ∈ fp, ∃ o, s.heap.get? b = some o ∧ ∀ v, o.data ≠ .cell v) : Inv X (pins ++ pinsAt fp s.heap) σ H s :=
  I.pins_of fun p hp => (List.mem_append.mp hp).elim (fun z => I.pin p (List.mem_append_right _ z)) fun z => by
    obtain ⟨hb, e⟩ := of_pinsAt z
    obtain ⟨f0, f1, f2, _⟩ := hf p.1 hb
    obtain ⟨o, e', d⟩ := ho p.1 hb
    rw [e] at e'; cases e'
    exact ⟨e, f0, f1, f2, d⟩
theorem Inv.unpinned {pins pl : List (Addr × Obj)} {σ : St} {H : Hp} {s : Shared} (I : Inv X (pins ++ pl) σ H s) : Inv X pins σ H s := I.pins_of fun p hp => I.pin p (List.mem_append_right _ (List.mem_append_left _ hp))
theorem ps_for {iter : Expr} {body : List Stmt} {wi : TI} {g : TG} {tb : TS} {pos : Pos} (hp : PassesOwn (model X.prog X.w) X.A X.env X.xe) (hc : X.calm = true) (hi : PI X tg iter wi) (hg : PG X tg g) (hb : PSs X body tb)
    (hs : ∀ x, foldedSetIterable iter X.env x = pure x := by intro _; rfl) : PS X (.For tg iter body [] pos) (tFor wi g tb) := by
  intro pins s σ H D I h
  refine wpAny_For (thn (hi pins s σ H _ I h) fun v s1 h1 => thn h1 fun itv s2 h2 => ?_) hs
  obtain ⟨it, fp, tn, J, H2, e, I2, T, st2, f2, W, ⟨m0, w0⟩, turn⟩ := h2
  subst e
  -- what stays true of the iterator's objects through the loop
  have stat : ∀ {H' : Hp}, (∀ b ∈ fp, H' b = none) → ∀ b ∈ fp, FpOk X pins H' b := fun hn b hb => ⟨hn b hb, (f2 b hb).2⟩
  refine codeAny_forLoop_any (fun n s' => ∃ i σ' H', Inv X pins σ' H' s' ∧ tn i s'.heap ∧ (∀ b ∈ fp, H' b = none) ∧ W i n σ' H') ?_ m0 ⟨0, σ, H2, I2, st2, fun b hb => (f2 b hb).1, w0⟩
  rintro n s3 ⟨i, σ3, H3, I3, st3, fr3, w3⟩
  rcases turn i n σ3 H3 w3 with ⟨stop, qn⟩ | ⟨go, N, hN, step⟩
  · refine wpAny_passesOwn hp (thn (T.done X rfl rfl rfl hc i pins s3 σ3 H3 X.xe I3 (stat fr3) st3 stop) fun r s4 ⟨hr, I4⟩ => ?_)
    subst hr
    exact wpAny_execs_nil ⟨σ3, H3, I4, qn⟩
  · refine wpAny_passesOwn hp (thn (T.item X rfl rfl rfl hc i pins s3 σ3 H3 X.xe I3 (stat fr3) st3 go) fun r s4 ⟨u, hr, h4⟩ => ?_)
    subst hr
    refine wpAny_passesOwn hp (thn h4 fun _ s5 ⟨x, H5, I5, r5, y5, st5, fr5⟩ => ?_)
    have I5' := I5.pinned (stat fr5) (T.obj _ _ st5)
    refine wpAny_passesOwn hp (thn (hg _ s5 σ3 H5 x u _ I5' r5 (step x H5 y5)) fun _ s6 ⟨σ6, H6, I6, q6⟩ => ?_)
    refine wpAny_passesOwn hp (thn (hb _ s6 σ6 H6 _ I6 q6) fun f s7 q7 => ?_)
    have again : ∀ {σ7 : St} {H7 : Hp}, Inv X (pins ++ pinsAt fp s5.heap) σ7 H7 s7 → N σ7 H7 → ∃ m, m < n ∧ ∃ i σ' H', Inv X pins σ' H' s7 ∧ tn i s7.heap ∧ (∀ b ∈ fp, H' b = none) ∧ W i m σ' H' := fun {σ7 H7} I7 n7 => by
      obtain ⟨m', hm, w7⟩ := hN σ7 H7 n7
      refine ⟨m', hm, i + 1, σ7, H7, I7.unpinned, T.keep _ _ _ st5 fun b hb o e => (I7.pin (b, o) (List.mem_append_right _ (List.mem_append_right _ (mem_pinsAt hb e)))).1, fun b hb => ?_, w7⟩
      obtain ⟨o, e, d⟩ := T.obj _ _ st5 b hb
      exact (I7.pin (b, o) (List.mem_append_right _ (List.mem_append_right _ (mem_pinsAt hb e)))).2.1
    cases f with
    | next => obtain ⟨σ7, H7, I7, n7⟩ := q7; exact again I7 n7
    | cont => obtain ⟨σ7, H7, I7, n7⟩ := q7; exact again I7 n7
    | brk => obtain ⟨σ7, H7, I7, q7⟩ := q7; exact ⟨σ7, H7, I7.unpinned, q7⟩
    | ret v => obtain ⟨x7, σ7, H7, I7, r7, q7⟩ := q7; exact ⟨x7, σ7, H7, I7.unpinned, r7, q7⟩
end

/-! ### the forms one uses -/
/-- over a list that the body leaves as it is -/
theorem for_list {K : PySem.W.Frag} {a : Addr} {xs : List V} {g : TG} {tb : TS} {D : Ends} {σ : St} {H : Hp} (Pv : Nat → St → Hp → Prop) (h0 : Pv 0 σ H) (hl : ∀ i σ H, i ≤ xs.length → Pv i σ H → SqL K H a xs)
    (hs : ∀ i x σ H, xs[i]? = some x → Pv i σ H → g x σ H fun σ2 H2 => tb { D with nx := Pv (i + 1), ct := Pv (i + 1), bk := D.nx } σ2 H2) (hd : ∀ σ H, Pv xs.length σ H → D.nx σ H) :
    ∃ W : Nat → Nat → St → Hp → Prop, (∃ m, W 0 m σ H) ∧ ∀ i m σ H, W i m σ H →
      ((Itl K a).stop i H ∧ D.nx σ H) ∨ ((Itl K a).go i H ∧ ∃ N : St → Hp → Prop, (∀ σ' H', N σ' H' → ∃ m', m' < m ∧ W (i + 1) m' σ' H') ∧ ∀ x H', (Itl K a).yld i H x H' → g x σ H' fun σ2 H2 => tb { D with nx := N, ct := N, bk := D.nx } σ2 H2) := by
  refine ⟨fun i m σ H => m = xs.length - i ∧ i ≤ xs.length ∧ Pv i σ H, ⟨xs.length, by simp, Nat.zero_le _, h0⟩, ?_⟩
  rintro i m σ H ⟨rfl, hi, p⟩
  have q := hl i σ H hi p
  by_cases hlt : i < xs.length
  · refine .inr ⟨⟨xs, xs[i], q, by simp [hlt]⟩, Pv (i + 1), fun σ' H' p' => ⟨xs.length - (i + 1), by omega, rfl, hlt, p'⟩, fun x H' y => ?_⟩
    obtain ⟨e, y⟩ := y
    subst e
    exact hs i x σ _ (y xs q) p
  · have e : i = xs.length := by omega
    subst e
    exact .inl ⟨⟨xs, q, Nat.le_refl _⟩, hd σ H p⟩
theorem for_tup {K : PySem.W.Frag} {a : Addr} {xs : List V} {g : TG} {tb : TS} {D : Ends} {σ : St} {H : Hp} (Pv : Nat → St → Hp → Prop) (h0 : Pv 0 σ H) (hl : ∀ i σ H, i ≤ xs.length → Pv i σ H → SqT K H a xs)
    (hs : ∀ i x σ H, xs[i]? = some x → Pv i σ H → g x σ H fun σ2 H2 => tb { D with nx := Pv (i + 1), ct := Pv (i + 1), bk := D.nx } σ2 H2) (hd : ∀ σ H, Pv xs.length σ H → D.nx σ H) :
    ∃ W : Nat → Nat → St → Hp → Prop, (∃ m, W 0 m σ H) ∧ ∀ i m σ H, W i m σ H →
      ((Itt K a).stop i H ∧ D.nx σ H) ∨ ((Itt K a).go i H ∧ ∃ N : St → Hp → Prop, (∀ σ' H', N σ' H' → ∃ m', m' < m ∧ W (i + 1) m' σ' H') ∧ ∀ x H', (Itt K a).yld i H x H' → g x σ H' fun σ2 H2 => tb { D with nx := N, ct := N, bk := D.nx } σ2 H2) := by
  refine ⟨fun i m σ H => m = xs.length - i ∧ i ≤ xs.length ∧ Pv i σ H, ⟨xs.length, by simp, Nat.zero_le _, h0⟩, ?_⟩
  rintro i m σ H ⟨rfl, hi, p⟩
  have q := hl i σ H hi p
  by_cases hlt : i < xs.length
  · refine .inr ⟨⟨xs, xs[i], q, by simp [hlt]⟩, Pv (i + 1), fun σ' H' p' => ⟨xs.length - (i + 1), by omega, rfl, hlt, p'⟩, fun x H' y => ?_⟩
    obtain ⟨e, y⟩ := y
    subst e
    exact hs i x σ _ (y xs q) p
  · have e : i = xs.length := by omega
    subst e
    exact .inl ⟨⟨xs, q, Nat.le_refl _⟩, hd σ H p⟩
theorem for_range {lo : Int} {n : Nat} {g : TG} {tb : TS} {D : Ends} {σ : St} {H : Hp} (Pv : Nat → St → Hp → Prop) (h0 : Pv 0 σ H)
    (hs : ∀ i σ H, i < n → Pv i σ H → g (.int (lo + i)) σ H fun σ2 H2 => tb { D with nx := Pv (i + 1), ct := Pv (i + 1), bk := D.nx } σ2 H2) (hd : ∀ σ H, Pv n σ H → D.nx σ H) :
    ∃ W : Nat → Nat → St → Hp → Prop, (∃ m, W 0 m σ H) ∧ ∀ i m σ H, W i m σ H →
      ((Itr lo n).stop i H ∧ D.nx σ H) ∨ ((Itr lo n).go i H ∧ ∃ N : St → Hp → Prop, (∀ σ' H', N σ' H' → ∃ m', m' < m ∧ W (i + 1) m' σ' H') ∧ ∀ x H', (Itr lo n).yld i H x H' → g x σ H' fun σ2 H2 => tb { D with nx := N, ct := N, bk := D.nx } σ2 H2) := by
  refine ⟨fun i m σ H => m = n - i ∧ i ≤ n ∧ Pv i σ H, ⟨n, by simp, Nat.zero_le _, h0⟩, ?_⟩
  rintro i m σ H ⟨rfl, hi, p⟩
  by_cases hlt : i < n
  · refine .inr ⟨hlt, Pv (i + 1), fun σ' H' p' => ⟨n - (i + 1), by omega, rfl, hlt, p'⟩, fun x H' y => ?_⟩
    obtain ⟨e, y⟩ := y
    subst e y
    exact hs i σ _ hlt p
  · have e : i = n := by omega
    subst e
    exact .inl ⟨Nat.le_refl _, hd σ H p⟩
/-- while, by a word and a measure of the state -/
theorem while_by {c : TT} {tb : TS} {D : Ends} {σ : St} {H : Hp} (Pv : St → Hp → Prop) (μ : St → Hp → Nat) (h0 : Pv σ H)
    (hs : ∀ σ H, Pv σ H → c σ H fun b H1 => if b = true then tb { D with nx := fun σ' H' => Pv σ' H' ∧ μ σ' H' < μ σ H, ct := fun σ' H' => Pv σ' H' ∧ μ σ' H' < μ σ H, bk := D.nx } σ H1 else D.nx σ H1)
    (mono : ∀ σ H Q Q', (∀ b H1, Q b H1 → Q' b H1) → c σ H Q → c σ H Q') : tWhile c tb D σ H := by
  refine ⟨fun m σ H => m = μ σ H ∧ Pv σ H, ⟨_, rfl, h0⟩, ?_⟩
  rintro m σ H ⟨rfl, p⟩
  refine mono σ H _ _ (fun b H1 q => ?_) (hs σ H p)
  cases b with
  | true => exact ⟨_, fun σ' H' ⟨p', l⟩ => ⟨_, l, rfl, p'⟩, q⟩
  | false => exact q
end L2

namespace L2
open PySem PySem.Spec PyProof.Rows

abbrev R2 := V → V → Hp → VK → Prop
/-- a two-place operation on values: f is binaryOp op, inplaceOp op or compareOp op -/
def OpR (X : Cx) (f : Value → Value → Sem Value) (r : R2) : Prop :=
  ∀ (pins : List (Addr × Obj)) (s : Shared) (σ : St) (H : Hp) (x y : V) (v u : Value) (Q : VK), Inv X pins σ H s → RelV x v → RelV y u → r x y H Q →
    wpAny (model X.prog X.w) X.A (f v u) (EP X pins σ Q) X.xe s
/-- a one-place operation -/
def UnR (X : Cx) (f : Value → Sem Value) (r : V → Hp → VK → Prop) : Prop :=
  ∀ (pins : List (Addr × Obj)) (s : Shared) (σ : St) (H : Hp) (x : V) (v : Value) (Q : VK), Inv X pins σ H s → RelV x v → r x H Q →
    wpAny (model X.prog X.w) X.A (f v) (EP X pins σ Q) X.xe s
/-- a call of a value that is known (a builtin, a type) with values -/
def CallR (X : Cx) (f : Value) (r : List V → Hp → VK → Prop) : Prop :=
  ∀ (pins : List (Addr × Obj)) (s : Shared) (σ : St) (H : Hp) (xs : List V) (us : List Value) (Q : VK), Inv X pins σ H s → Vals xs us → r xs H Q →
    wpAny (model X.prog X.w) X.A (call f us) (EP X pins σ Q) X.xe s
/-- a value's truth -/
def TruR (X : Cx) (r : V → Hp → (Bool → Hp → Prop) → Prop) : Prop :=
  ∀ (pins : List (Addr × Obj)) (s : Shared) (σ : St) (H : Hp) (x : V) (v : Value) (Q : Bool → Hp → Prop), Inv X pins σ H s → RelV x v → r x H Q →
    wpAny (model X.prog X.w) X.A (truthy v) (TP X pins σ Q) X.xe s

def tOp (r : R2) (ta tb : TE) : TE := fun σ H Q => ta σ H fun x H1 => tb σ H1 fun y H2 => r x y H2 Q
def tUn (r : V → Hp → VK → Prop) (ta : TE) : TE := fun σ H Q => ta σ H fun x H1 => r x H1 Q
/-- ints in, under C, and a value out -/
def rI (C : Int → Int → Prop) (g : Int → Int → V) : R2 := fun x y H Q => ∃ i j, x = .int i ∧ y = .int j ∧ C i j ∧ Q (g i j) H
def rI0 (g : Int → Int → V) : R2 := fun x y H Q => ∃ i j, x = .int i ∧ y = .int j ∧ Q (g i j) H
def rU (g : Int → V) : V → Hp → VK → Prop := fun x H Q => ∃ i, x = .int i ∧ Q (g i) H

section
variable {X : Cx} {a b c : Expr} {ta tb tc : TE} {pos : Pos}

theorem binT (ha : PE X a ta) (hb : PE X b tb) {pins : List (Addr × Obj)} {s : Shared} {σ : St} {H : Hp} {R : V → V → Hp → Prop} (I : Inv X pins σ H s)
    (h : ta σ H fun x H1 => tb σ H1 fun y H2 => R x y H2) {Q : Value → Shared → Prop} {f : Value → Value → Sem Value}
    (hf : ∀ v u s2 x y H2, Inv X pins σ H2 s2 → RelV x v → RelV y u → R x y H2 → wpAny (model X.prog X.w) X.A (f v u) Q X.xe s2) :
    wpAny (model X.prog X.w) X.A (eval a X.env) (fun v s₁ => wpAny (model X.prog X.w) X.A (eval b X.env) (fun u s₂ => wpAny (model X.prog X.w) X.A (f v u) Q X.xe s₂) X.xe s₁) X.xe s := by
  refine thn (ha pins s σ H _ I h) fun v s1 ⟨x, H1, I1, r1, q1⟩ => ?_
  refine thn (hb pins s1 σ H1 _ I1 q1) fun u s2 ⟨y, H2, I2, r2, q2⟩ => ?_
  exact hf v u s2 x y H2 I2 r1 r2 q2

theorem pe_op {op : Operator} {r : R2} (ho : OpR X (binaryOp op) r) (ha : PE X a ta) (hb : PE X b tb) : PE X (.BinOp a op b pos) (tOp r ta tb) := by
  intro pins s σ H Q I h
  exact wpAny_BinOp (binT ha hb I h fun v u s2 x y H2 I2 rx ry q => ho pins s2 σ H2 x y v u Q I2 rx ry q)
theorem pe_un {op : UnaryOp} {r : V → Hp → VK → Prop} (ho : UnR X (unaryOp op) r) (ha : PE X a ta) : PE X (.UnaryOp op a pos) (tUn r ta) := by
  intro pins s σ H Q I h
  exact UnaryOp_ (thn (ha pins s σ H _ I h) fun v s1 ⟨x, H1, I1, r1, q1⟩ => ho pins s1 σ H1 x v Q I1 r1 q1)
/-- a op= e at a name: the name's slot i -/
theorem augR {op : Operator} {r : R2} (ho : OpR X (inplaceOp op) r) {pins : List (Addr × Obj)} {s : Shared} {σ : St} {H : Hp} {x y : V} {v u : Value} {Q : VK} (I : Inv X pins σ H s)
    (rx : RelV x v) (ry : RelV y u) (q : r x y H Q) : wpAny (model X.prog X.w) X.A (inplaceOp op v u) (EP X pins σ Q) X.xe s := ho pins s σ H x y v u Q I rx ry q

/-! ### ints -/
theorem opI {f : Value → Value → Sem Value} {C : Int → Int → Prop} {g : Int → Int → Int}
    (rule : ∀ (i j : Int) (t u : Tok) (s : Shared) (Q : Value → Shared → Prop) (E : Value → Shared → Prop), C i j → Q (.int (g i j) s.toks) { s with toks := s.toks + 1 } → wpAny (model X.prog X.w) X.A (f (.int i t) (.int j u)) Q E s) :
    OpR X f (rI C fun i j => .int (g i j)) := by
  intro pins s σ H x y v u Q I rx ry h
  obtain ⟨i, j, rfl, rfl, hc, q⟩ := h
  obtain ⟨t, rfl⟩ := rx
  obtain ⟨t', rfl⟩ := ry
  exact rule i j t t' s _ _ hc ⟨.int (g i j), H, I.tok _, ⟨_, rfl⟩, q⟩
theorem opI0 {f : Value → Value → Sem Value} {g : Int → Int → Int}
    (rule : ∀ (i j : Int) (t u : Tok) (s : Shared) (Q : Value → Shared → Prop) (E : Value → Shared → Prop), Q (.int (g i j) s.toks) { s with toks := s.toks + 1 } → wpAny (model X.prog X.w) X.A (f (.int i t) (.int j u)) Q E s) :
    OpR X f (rI0 fun i j => .int (g i j)) := by
  intro pins s σ H x y v u Q I rx ry h
  obtain ⟨i, j, rfl, rfl, q⟩ := h
  obtain ⟨t, rfl⟩ := rx
  obtain ⟨t', rfl⟩ := ry
  exact rule i j t t' s _ _ ⟨.int (g i j), H, I.tok _, ⟨_, rfl⟩, q⟩
theorem opB0 {f : Value → Value → Sem Value} {g : Int → Int → Bool}
    (rule : ∀ (i j : Int) (t u : Tok) (s : Shared) (Q : Value → Shared → Prop) (E : Value → Shared → Prop), Q (.bool (g i j)) s → wpAny (model X.prog X.w) X.A (f (.int i t) (.int j u)) Q E s) :
    OpR X f (rI0 fun i j => .bl (g i j)) := by
  intro pins s σ H x y v u Q I rx ry h
  obtain ⟨i, j, rfl, rfl, q⟩ := h
  obtain ⟨t, rfl⟩ := rx
  obtain ⟨t', rfl⟩ := ry
  exact rule i j t t' s _ _ ⟨.bl (g i j), H, I, rfl, q⟩

def CDiv (i j : Int) : Prop := 0 < j ∧ j < 1073741824
def CDivN (i j : Int) : Prop := j ≠ 0 ∧ j.natAbs < 1073741824
def CPow (i j : Int) : Prop := 0 ≤ j ∧ j ≤ 1000000 ∧ i.natAbs < 2 ^ 64
def CMul (i j : Int) : Prop := (-(2 ^ 64) < i ∧ i < 2 ^ 64) ∨ (-(2 ^ 64) < j ∧ j < 2 ^ 64)
theorem CMul.ok {i j : Int} (h : CMul i j) : IntMulOk i j := by
  rcases h with ⟨h1, h2⟩ | ⟨h1, h2⟩
  · exact .of_left (intBits_le_64 h1 h2)
  · exact .of_right (intBits_le_64 h1 h2)
theorem two_pow_nn (k : Nat) : (0 : Int) ≤ 2 ^ k := by
  rw [two_pow_cast]
  exact Int.natCast_nonneg _

theorem op_add : OpR X (binaryOp .Add) (rI0 fun i j => .int (i + j)) := opI0 fun _ _ _ _ _ _ _ q => add_int q
theorem op_sub : OpR X (binaryOp .Sub) (rI0 fun i j => .int (i - j)) := opI0 fun _ _ _ _ _ _ _ q => sub_int q
theorem op_mul : OpR X (binaryOp .Mult) (rI CMul fun i j => .int (i * j)) := opI fun _ _ _ _ _ _ _ hc q => mul_int q hc.ok
/-- // by a positive divisor -/
theorem op_fdiv : OpR X (binaryOp .FloorDiv) (rI CDiv fun i j => .int (i / j)) := opI fun i j _ _ _ _ _ hc q => by
  have h1 : (0 : Int) < j := hc.1
  have h2 : j < 1073741824 := hc.2
  exact floordiv_int (by omega) (by rw [Int.fdiv_eq_ediv_of_nonneg i (by omega)]; exact q) (.inl (PyProof.noPylong_small (by omega)))
theorem op_fdivN : OpR X (binaryOp .FloorDiv) (rI CDivN fun i j => .int (i.fdiv j)) := opI fun _ _ _ _ _ _ _ hc q => floordiv_int hc.1 q (.inl (PyProof.noPylong_small hc.2))
/-- % by a positive divisor of any size -/
theorem op_mod : OpR X (binaryOp .Mod) (rI (fun _ j => 0 < j) fun i j => .int (i % j)) := opI fun i j _ _ _ _ _ hc q => by
  have h1 : (0 : Int) < j := hc
  exact mod_int' (by omega) (by rw [Int.fmod_eq_emod_of_nonneg i (by omega)]; exact q)
theorem op_modN : OpR X (binaryOp .Mod) (rI (fun _ j => j ≠ 0) fun i j => .int (i.fmod j)) := opI fun _ _ _ _ _ _ _ hc q => mod_int' hc q
theorem op_pow : OpR X (binaryOp .Pow) (rI CPow fun i j => .int (i ^ j.toNat)) := opI fun _ _ _ _ _ _ _ hc q => pow_int_small hc.1 hc.2.1 hc.2.2 q
theorem op_shl : OpR X (binaryOp .LShift) (rI CPow fun i j => .int (i * 2 ^ j.toNat)) := opI fun _ _ _ _ _ _ _ hc q => lshift_int_small hc.1 hc.2.1 hc.2.2 q
theorem op_shr : OpR X (binaryOp .RShift) (rI (fun _ j => 0 ≤ j) fun i j => .int (i / 2 ^ j.toNat)) := opI fun i j _ _ _ _ _ hc q =>
  rshift_int hc (by rw [Int.fdiv_eq_ediv_of_nonneg i (two_pow_nn _)]; exact q)
theorem op_and : OpR X (binaryOp .BitAnd) (rI0 fun i j => .int (Builtin.bitAnd i j)) := opI0 fun _ _ _ _ _ _ _ q => and_int q
theorem op_or : OpR X (binaryOp .BitOr) (rI0 fun i j => .int (Builtin.bitOr i j)) := opI0 fun _ _ _ _ _ _ _ q => or_int q
theorem op_xor : OpR X (binaryOp .BitXor) (rI0 fun i j => .int (Builtin.bitXor i j)) := opI0 fun _ _ _ _ _ _ _ q => xor_int q

theorem iop_add : OpR X (inplaceOp .Add) (rI0 fun i j => .int (i + j)) := opI0 fun _ _ _ _ _ _ _ q => iadd_int q
theorem iop_sub : OpR X (inplaceOp .Sub) (rI0 fun i j => .int (i - j)) := opI0 fun _ _ _ _ _ _ _ q => isub_int q
theorem iop_mul : OpR X (inplaceOp .Mult) (rI CMul fun i j => .int (i * j)) := opI fun _ _ _ _ _ _ _ hc q => imul_int q hc.ok
theorem iop_fdiv : OpR X (inplaceOp .FloorDiv) (rI CDiv fun i j => .int (i / j)) := opI fun i j _ _ _ _ _ hc q => by
  have h1 : (0 : Int) < j := hc.1
  have h2 : j < 1073741824 := hc.2
  exact ifloordiv_int (by omega) (by rw [Int.fdiv_eq_ediv_of_nonneg i (by omega)]; exact q) (.inl (PyProof.noPylong_small (by omega)))
theorem iop_mod : OpR X (inplaceOp .Mod) (rI (fun _ j => 0 < j) fun i j => .int (i % j)) := opI fun i j _ _ _ _ _ hc q => by
  have h1 : (0 : Int) < j := hc
  exact imod_int (by omega) (by rw [Int.fmod_eq_emod_of_nonneg i (by omega)]; exact q)
theorem iop_shl : OpR X (inplaceOp .LShift) (rI CPow fun i j => .int (i * 2 ^ j.toNat)) := opI fun _ _ _ _ _ _ _ hc q => ilshift_int_small hc.1 hc.2.1 hc.2.2 q
theorem iop_shr : OpR X (inplaceOp .RShift) (rI (fun _ j => 0 ≤ j) fun i j => .int (i / 2 ^ j.toNat)) := opI fun i j _ _ _ _ _ hc q =>
  irshift_int hc (by rw [Int.fdiv_eq_ediv_of_nonneg i (two_pow_nn _)]; exact q)
theorem iop_and : OpR X (inplaceOp .BitAnd) (rI0 fun i j => .int (Builtin.bitAnd i j)) := opI0 fun _ _ _ _ _ _ _ q => iand_int q
theorem iop_or : OpR X (inplaceOp .BitOr) (rI0 fun i j => .int (Builtin.bitOr i j)) := opI0 fun _ _ _ _ _ _ _ q => ior_int q
theorem iop_xor : OpR X (inplaceOp .BitXor) (rI0 fun i j => .int (Builtin.bitXor i j)) := opI0 fun _ _ _ _ _ _ _ q => ixor_int q

theorem unI {f : Value → Sem Value} {g : Int → Int}
    (rule : ∀ (i : Int) (t : Tok) (s : Shared) (Q : Value → Shared → Prop) (E : Value → Shared → Prop), Q (.int (g i) s.toks) { s with toks := s.toks + 1 } → wpAny (model X.prog X.w) X.A (f (.int i t)) Q E s) :
    UnR X f (rU fun i => .int (g i)) := by
  intro pins s σ H x v Q I rx h
  obtain ⟨i, rfl, q⟩ := h
  obtain ⟨t, rfl⟩ := rx
  exact rule i t s _ _ ⟨.int (g i), H, I.tok _, ⟨_, rfl⟩, q⟩
theorem un_neg : UnR X (unaryOp .USub) (rU fun i => .int (-i)) := unI fun _ _ _ _ _ q => neg_int q
theorem un_inv : UnR X (unaryOp .Invert) (rU fun i => .int (Builtin.bitNot i)) := unI fun _ _ _ _ _ q => invert_int q

/-! ### bools among ints: n += (a < b) -/
theorem op_add_ib : OpR X (binaryOp .Add) (fun x y H Q => ∃ i k, x = .int i ∧ y = .bl k ∧ Q (.int (i + b2i k)) H) := by
  intro pins s σ H x y v u Q I rx ry h
  obtain ⟨i, k, rfl, rfl, q⟩ := h
  obtain ⟨t, rfl⟩ := rx
  cases ry
  exact add_int_bool ⟨.int (i + b2i k), H, I.tok _, ⟨_, rfl⟩, q⟩
end

/-! ### comparisons -/
/-- the scalars that == tells apart as data does -/
def scal : V → V → Bool
  | .non, .non => true | .non, .int _ => true | .int _, .non => true | .non, .bl _ => true | .bl _, .non => true | .non, .str _ => true | .str _, .non => true
  | .int _, .int _ => true | .bl _, .bl _ => true | .str _, .str _ => true | .byt _, .byt _ => true
  | .int _, .str _ => true | .str _, .int _ => true | .bl _, .str _ => true | .str _, .bl _ => true
  | _, _ => false
def rEq : R2 := fun x y H Q => scal x y = true ∧ Q (.bl (decide (x = y))) H
def rNe : R2 := fun x y H Q => scal x y = true ∧ Q (.bl (!decide (x = y))) H

theorem dec_int {i j : Int} : decide (V.int i = V.int j) = (i == j) := by
  rw [Bool.eq_iff_iff]
  simp
theorem dec_bl {i j : Bool} : decide (V.bl i = V.bl j) = (i == j) := by
  rw [Bool.eq_iff_iff]
  simp
theorem dec_str {i j : Str} : decide (V.str i = V.str j) = (i == j) := by
  rw [Bool.eq_iff_iff]
  simp
theorem dec_byt {i j : Array UInt8} : decide (V.byt i = V.byt j) = (i.toList == j.toList) := by
  rw [Bool.eq_iff_iff]
  cases i
  cases j
  simp

section
variable {X : Cx} {a b c : Expr} {ta tb tc : TE} {pos : Pos}
theorem fin_bl {pins : List (Addr × Obj)} {σ : St} {H : Hp} {s : Shared} {Q : VK} {k k' : Bool} (I : Inv X pins σ H s) (q : Q (.bl k) H) (e : k = k') : EP X pins σ Q (.bool k') s := by
  subst e
  exact ⟨.bl k, H, I, rfl, q⟩
theorem op_eq : OpR X (compareOp .Eq) rEq := by
  intro pins s σ H x y v u Q I rx ry h
  obtain ⟨hs, q⟩ := h
  cases x with
  | non =>
    cases rx
    cases y with
    | non => cases ry; exact PySem.EqNone.eq_none_none (fin_bl I q (by simp))
    | bl j => cases ry; exact PySem.EqNone.eq_none_bool (fin_bl I q (by simp))
    | int j => obtain ⟨t', rfl⟩ := ry; exact PySem.EqNone.eq_none_int (fin_bl I q (by simp))
    | str j => obtain ⟨t', rfl⟩ := ry; exact PySem.EqNone.eq_none_str (fin_bl I q (by simp))
    | _ => exact absurd (show false = true from hs) Bool.false_ne_true
  | bl i =>
    cases rx
    cases y with
    | non => cases ry; exact PySem.EqNone.eq_bool_none (fin_bl I q (by simp))
    | bl j => cases ry; exact eq_bool (fin_bl I q dec_bl)
    | str j => obtain ⟨t', rfl⟩ := ry; exact PySem.EqMixed.eq_bool_str (fin_bl I q (by simp))
    | _ => exact absurd (show false = true from hs) Bool.false_ne_true
  | int i =>
    obtain ⟨t, rfl⟩ := rx
    cases y with
    | non => cases ry; exact PySem.EqNone.eq_int_none (fin_bl I q (by simp))
    | int j => obtain ⟨t', rfl⟩ := ry; exact eq_int (fin_bl I q dec_int)
    | str j => obtain ⟨t', rfl⟩ := ry; exact PySem.EqMixed.eq_int_str (fin_bl I q (by simp))
    | _ => exact absurd (show false = true from hs) Bool.false_ne_true
  | str i =>
    obtain ⟨t, rfl⟩ := rx
    cases y with
    | non => cases ry; exact PySem.EqNone.eq_str_none (fin_bl I q (by simp))
    | bl j => cases ry; exact PySem.EqMixed.eq_str_bool (fin_bl I q (by simp))
    | int j => obtain ⟨t', rfl⟩ := ry; exact PySem.EqMixed.eq_str_int (fin_bl I q (by simp))
    | str j => obtain ⟨t', rfl⟩ := ry; exact eq_str (fin_bl I q dec_str)
    | _ => exact absurd (show false = true from hs) Bool.false_ne_true
  | byt i =>
    obtain ⟨t, rfl⟩ := rx
    cases y with
    | byt j => obtain ⟨t', rfl⟩ := ry; exact PySem.W.eq_bytes (fin_bl I q dec_byt)
    | _ => exact absurd (show false = true from hs) Bool.false_ne_true
  | _ => cases y <;> exact absurd (show false = true from hs) Bool.false_ne_true
theorem op_ne : OpR X (compareOp .NotEq) rNe := by
  intro pins s σ H x y v u Q I rx ry h
  obtain ⟨hs, q⟩ := h
  cases x with
  | non =>
    cases rx
    cases y with
    | non => cases ry; exact PySem.EqNone.ne_none_none (fin_bl I q (by simp))
    | bl j => cases ry; exact PySem.EqNone.ne_none_bool (fin_bl I q (by simp))
    | int j => obtain ⟨t', rfl⟩ := ry; exact PySem.EqNone.ne_none_int (fin_bl I q (by simp))
    | str j => obtain ⟨t', rfl⟩ := ry; exact PySem.EqNone.ne_none_str (fin_bl I q (by simp))
    | _ => exact absurd (show false = true from hs) Bool.false_ne_true
  | bl i =>
    cases rx
    cases y with
    | non => cases ry; exact PySem.EqNone.ne_bool_none (fin_bl I q (by simp))
    | bl j => cases ry; exact ne_bool (fin_bl I q (congrArg not dec_bl))
    | str j => obtain ⟨t', rfl⟩ := ry; exact PySem.EqMixed.ne_bool_str (fin_bl I q (by simp))
    | _ => exact absurd (show false = true from hs) Bool.false_ne_true
  | int i =>
    obtain ⟨t, rfl⟩ := rx
    cases y with
    | non => cases ry; exact PySem.EqNone.ne_int_none (fin_bl I q (by simp))
    | int j => obtain ⟨t', rfl⟩ := ry; exact ne_int (fin_bl I q (congrArg not dec_int))
    | str j => obtain ⟨t', rfl⟩ := ry; exact PySem.EqMixed.ne_int_str (fin_bl I q (by simp))
    | _ => exact absurd (show false = true from hs) Bool.false_ne_true
  | str i =>
    obtain ⟨t, rfl⟩ := rx
    cases y with
    | non => cases ry; exact PySem.EqNone.ne_str_none (fin_bl I q (by simp))
    | bl j => cases ry; exact PySem.EqMixed.ne_str_bool (fin_bl I q (by simp))
    | int j => obtain ⟨t', rfl⟩ := ry; exact PySem.EqMixed.ne_str_int (fin_bl I q (by simp))
    | str j => obtain ⟨t', rfl⟩ := ry; exact ne_str (fin_bl I q (congrArg not dec_str))
    | _ => exact absurd (show false = true from hs) Bool.false_ne_true
  | byt i =>
    obtain ⟨t, rfl⟩ := rx
    cases y with
    | byt j => obtain ⟨t', rfl⟩ := ry; exact PySem.W.ne_bytes (fin_bl I q (congrArg not dec_byt))
    | _ => exact absurd (show false = true from hs) Bool.false_ne_true
  | _ => cases y <;> exact absurd (show false = true from hs) Bool.false_ne_true

theorem op_lt : OpR X (compareOp .Lt) (rI0 fun i j => .bl (decide (i < j))) := opB0 fun _ _ _ _ _ _ _ q => lt_int q
theorem op_le : OpR X (compareOp .LtE) (rI0 fun i j => .bl (decide (i ≤ j))) := opB0 fun _ _ _ _ _ _ _ q => le_int q
theorem op_gt : OpR X (compareOp .Gt) (rI0 fun i j => .bl (decide (j < i))) := opB0 fun _ _ _ _ _ _ _ q => gt_int q
theorem op_ge : OpR X (compareOp .GtE) (rI0 fun i j => .bl (decide (j ≤ i))) := opB0 fun _ _ _ _ _ _ _ q => ge_int q
theorem op_lt_str : OpR X (compareOp .Lt) (fun x y H Q => ∃ i j, x = .str i ∧ y = .str j ∧ Q (.bl (decide (i.cps.toList < j.cps.toList))) H) := by
  intro pins s σ H x y v u Q I rx ry h
  obtain ⟨i, j, rfl, rfl, q⟩ := h
  obtain ⟨t, rfl⟩ := rx
  obtain ⟨t', rfl⟩ := ry
  exact lt_str (fin_bl I q rfl)
/-- the one string within the other -/
theorem op_in_str : OpR X (compareOp .In) (fun x y H Q => ∃ i j, x = .str i ∧ y = .str j ∧ Q (.bl (!(Builtin.Str.occurrences j i 0 j.length 1).isEmpty)) H) := by
  intro pins s σ H x y v u Q I rx ry h
  obtain ⟨i, j, rfl, rfl, q⟩ := h
  obtain ⟨t, rfl⟩ := rx
  obtain ⟨t', rfl⟩ := ry
  exact in_str (fin_bl I q rfl)

/-- is None, is not None: the right side a value none -/
theorem op_isN : OpR X (compareOp .Is) (fun x y H Q => y = .non ∧ Q (.bl (decide (x = .non))) H) := by
  intro pins s σ H x y v u Q I rx ry h
  obtain ⟨rfl, q⟩ := h
  cases ry
  refine is_none_gen (fin_bl I q ?_)
  cases x <;> first
    | (cases rx; rfl)
    | (obtain ⟨t, rfl⟩ := rx; rfl)
theorem op_notN : OpR X (compareOp .IsNot) (fun x y H Q => y = .non ∧ Q (.bl (!decide (x = .non))) H) := by
  intro pins s σ H x y v u Q I rx ry h
  obtain ⟨rfl, q⟩ := h
  cases ry
  refine isnot_none_gen (fin_bl I q ?_)
  cases x <;> first
    | (cases rx; rfl)
    | (obtain ⟨t, rfl⟩ := rx; rfl)

theorem op_notin_str : OpR X (compareOp .NotIn) (fun x y H Q => ∃ i j, x = .str i ∧ y = .str j ∧ Q (.bl (!(!(Builtin.Str.occurrences j i 0 j.length 1).isEmpty))) H) := by
  intro pins s σ H x y v u Q I rx ry h
  obtain ⟨i, j, rfl, rfl, q⟩ := h
  obtain ⟨t, rfl⟩ := rx
  obtain ⟨t', rfl⟩ := ry
  exact notIn_str (fin_bl I q rfl)
/-- is, is not of two objects that are tracked lists or instances -/
def isObj : HO → Bool
  | .lst _ => true
  | .ins _ _ _ => true
  | _ => false
theorem obj_there {pins : List (Addr × Obj)} {s : Shared} {σ : St} {H : Hp} {a : Addr} {o : HO} (I : Inv X pins σ H s) (h : H a = some o) (p : isObj o = true) : ∃ ob, s.heap.get? a = some ob ∧ ob.cls ≠ .type "tuple" := by
  cases o with
  | lst xs =>
    obtain ⟨_, its, n, _, e⟩ : xs.length ≤ sizeLine ∧ ∃ (its : List Value) (n : Nat), Vals xs its ∧ s.heap.get? a = some { cls := .type "list", data := .seq its.toArray n } := I.hok a _ h
    exact ⟨_, e, (by show Value.type "list" ≠ .type "tuple"; decide +kernel)⟩
  | ins C dx fs =>
    have x := I.hok a _ h
    obtain ⟨_, _, _, e, _⟩ := x
    exact ⟨_, e, (by show Value.ref C ≠ .type "tuple"; exact fun z => by cases z)⟩
  | _ => exact absurd (show false = true from p) Bool.false_ne_true
theorem op_is_ref : OpR X (compareOp .Is) (fun x y H Q => ∃ a b oa ob, x = .ref a ∧ y = .ref b ∧ H a = some oa ∧ isObj oa = true ∧ H b = some ob ∧ isObj ob = true ∧ Q (.bl (decide (a = b))) H) := by
  intro pins s σ H x y v u Q I rx ry h
  obtain ⟨a, b, oa, ob, rfl, rfl, ha, pa, hb, pb, q⟩ := h
  cases rx
  cases ry
  obtain ⟨o1, e1, n1⟩ := obj_there I ha pa
  obtain ⟨o2, e2, _⟩ := obj_there I hb pb
  by_cases z : a = b
  · subst z
    exact wpAny_is_ref_self (fin_bl I q (by simp))
  · exact wpAny_is_ref_other z e1 e2 n1 (fin_bl I q (by simp [z]))
theorem op_isnot_ref : OpR X (compareOp .IsNot) (fun x y H Q => ∃ a b oa ob, x = .ref a ∧ y = .ref b ∧ H a = some oa ∧ isObj oa = true ∧ H b = some ob ∧ isObj ob = true ∧ Q (.bl (!decide (a = b))) H) := by
  intro pins s σ H x y v u Q I rx ry h
  obtain ⟨a, b, oa, ob, rfl, rfl, ha, pa, hb, pb, q⟩ := h
  cases rx
  cases ry
  obtain ⟨o1, e1, n1⟩ := obj_there I ha pa
  obtain ⟨o2, e2, _⟩ := obj_there I hb pb
  by_cases z : a = b
  · subst z
    exact wpAny_isNot_ref_self (fin_bl I q (by simp))
  · exact wpAny_isNot_ref_other z e1 e2 n1 (fin_bl I q (by simp [z]))

/-- two rules for one operation: by cases -/
theorem OpR.or {f : Value → Value → Sem Value} {r r' : R2} (h : OpR X f r) (h' : OpR X f r') : OpR X f (fun x y H Q => r x y H Q ∨ r' x y H Q) := by
  intro pins s σ H x y v u Q I rx ry q
  rcases q with q | q
  · exact h pins s σ H x y v u Q I rx ry q
  · exact h' pins s σ H x y v u Q I rx ry q

theorem nomark (b : Expr) {op : CmpOp} (h : op ≠ .In := by decide) (h2 : op ≠ .NotIn := by decide) : behindInMarks op b = false := by
  have e1 : (op == CmpOp.In) = false := by cases op <;> first | rfl | exact absurd rfl h
  have e2 : (op == CmpOp.NotIn) = false := by cases op <;> first | rfl | exact absurd rfl h2
  cases b <;> simp [behindInMarks, e1, e2]
/-- a comparison as a value; hm: nomark b, or (for in, not in) by with_unfolding_all rfl -/
theorem pe_cmpR {op : CmpOp} {r : R2} (ho : OpR X (compareOp op) r) (ha : PE X a ta) (hb : PE X b tb) (hm : behindInMarks op b = false) : PE X (.Compare a [op] [b] pos) (tOp r ta tb) := by
  intro pins s σ H Q I h
  exact wpAny_Compare1 (binT ha hb I h fun v u s2 x y H2 I2 rx ry q => ho pins s2 σ H2 x y v u Q I2 rx ry q) hm
/-- a reading of a value as a test -/
def tTest (t : TE) : TT := fun σ H Q => t σ H fun x H' => ∃ k, x = .bl k ∧ Q k H'
theorem pt_cmpR {op : CmpOp} {r : R2} (ho : OpR X (compareOp op) r) (ha : PE X a ta) (hb : PE X b tb) (hm : behindInMarks op b = false) : PT X (.Compare a [op] [b] pos) (tTest (tOp r ta tb)) := by
  intro pins s σ H Q I h
  refine wpAny_isTrue_Compare1 (thn (ha pins s σ H _ I h) fun v s1 ⟨x, H1, I1, r1, q1⟩ => thn (hb pins s1 σ H1 _ I1 q1) fun u s2 ⟨y, H2, I2, r2, q2⟩ =>
    thn (ho pins s2 σ H2 x y v u _ I2 r1 r2 q2) fun c s3 ⟨z, H3, I3, r3, k, e, q3⟩ => ?_) hm
  subst e
  cases r3
  exact wpAny_truthy_bool ⟨H3, I3, q3⟩
/-- a op1 b op2 c -/
def tChain (r r' : R2) (ta tb tc : TE) : TE := fun σ H Q => ta σ H fun x H1 => tb σ H1 fun y H2 => r x y H2 fun z H3 => ∃ k, z = .bl k ∧
  (if k = true then tc σ H3 fun w' H4 => r' y w' H4 Q else Q (.bl false) H3)
theorem pe_chain {op op' : CmpOp} {r r' : R2} (ho : OpR X (compareOp op) r) (ho' : OpR X (compareOp op') r') (ha : PE X a ta) (hb : PE X b tb) (hc : PE X c tc)
    (hm : lastMarks [op, op'] [b, c] = false := by with_unfolding_all rfl) : PE X (.Compare a [op, op'] [b, c] pos) (tChain r r' ta tb tc) := by
  intro pins s σ H Q I h
  refine Compare_chain (thn (ha pins s σ H _ I h) fun v s1 ⟨x, H1, I1, r1, q1⟩ => chain_link (thn (hb pins s1 σ H1 _ I1 q1) fun u s2 ⟨y, H2, I2, r2, q2⟩ =>
    thn (ho pins s2 σ H2 x y v u _ I2 r1 r2 q2) fun d s3 ⟨z, H3, I3, r3, k, e, q3⟩ => ?_)) hm
  subst e
  cases r3
  refine wpAny_truthy_bool ?_
  cases k with
  | false => exact ite_ff ⟨.bl false, H3, I3, rfl, q3⟩
  | true => exact ite_tt (chain_last (thn (hc pins s3 σ H3 _ I3 q3) fun w' s4 ⟨z', H4, I4, r4, q4⟩ => ho' pins s4 σ H4 y z' u w' Q I4 r2 r4 q4))
theorem pt_chain {op op' : CmpOp} {r r' : R2} (ho : OpR X (compareOp op) r) (ho' : OpR X (compareOp op') r') (ha : PE X a ta) (hb : PE X b tb) (hc : PE X c tc)
    (hm : lastMarks [op, op'] [b, c] = false := by with_unfolding_all rfl) : PT X (.Compare a [op, op'] [b, c] pos) (tTest (tChain r r' ta tb tc)) := by
  intro pins s σ H Q I h
  refine isTrue_chain (thn (ha pins s σ H _ I h) fun v s1 ⟨x, H1, I1, r1, q1⟩ => test_link (thn (hb pins s1 σ H1 _ I1 q1) fun u s2 ⟨y, H2, I2, r2, q2⟩ =>
    thn (ho pins s2 σ H2 x y v u _ I2 r1 r2 q2) fun d s3 ⟨z, H3, I3, r3, k, e, q3⟩ => ?_)) hm
  subst e
  cases r3
  refine wpAny_truthy_bool ?_
  cases k with
  | false =>
    obtain ⟨k', e', q'⟩ := q3
    cases e'
    exact ite_ff ⟨H3, I3, q'⟩
  | true =>
    refine ite_tt (test_last (thn (hc pins s3 σ H3 _ I3 q3) fun w' s4 ⟨z', H4, I4, r4, q4⟩ => thn (ho' pins s4 σ H4 y z' u w' _ I4 r2 r4 q4) fun d' s5 ⟨z2, H5, I5, r5, k2, e2, q5⟩ => ?_))
    subst e2
    cases r5
    exact wpAny_truthy_bool ⟨H5, I5, q5⟩

/-! ### truth -/
/-- a value's truth by the abstract heap -/
def TruV (K : PySem.W.Frag) (x : V) (H : Hp) (k : Bool) : Prop :=
  match x with
  | .non => k = false
  | .bl b => k = b
  | .int i => k = (i != 0)
  | .str y => y.length ≤ sizeLine ∧ k = ((y.length : Int) != 0)
  | .byt y => y.size ≤ sizeLine ∧ k = ((y.size : Int) != 0)
  | .ref p => (∃ xs, SqL K H p xs ∧ k = !xs.isEmpty) ∨ (∃ xs, SqT K H p xs ∧ k = !xs.isEmpty) ∨ ∃ kvs, H p = some (.dK kvs) ∧ k = !kvs.isEmpty
  | _ => False
theorem isEmpty_kv {κ : Type} {kvs : List (κ × V)} {vs : List (κ × Value)} (r : KV kvs vs) : (!vs.isEmpty) = !kvs.isEmpty := by
  cases r <;> rfl
theorem isEmpty_of {xs : List V} {its : List Value} (r : Vals xs its) : (!its.toArray.isEmpty) = !xs.isEmpty := by
  cases r <;> simp
theorem line63 : (sizeLine : Nat) < 2 ^ 63 := by rw [sizeLine_eq]; decide
theorem tru_ok : TruR X (fun x H Q => ∃ k, TruV X.K x H k ∧ Q k H) := by
  intro pins s σ H x v Q I rx h
  obtain ⟨k, e, q⟩ := h
  have hl := line63
  have hs : sizeLine = 16777216 := sizeLine_eq
  cases x with
  | non =>
    cases rx
    have e' : k = false := e
    subst e'
    exact truthy_none ⟨H, I, q⟩
  | bl b =>
    cases rx
    have e' : k = b := e
    subst e'
    exact wpAny_truthy_bool ⟨H, I, q⟩
  | int i =>
    obtain ⟨t, rfl⟩ := rx
    have e' : k = (i != 0) := e
    subst e'
    exact PySem.P.truthy_int ⟨H, I, q⟩
  | str y =>
    obtain ⟨t, rfl⟩ := rx
    obtain ⟨hy, e'⟩ : y.length ≤ sizeLine ∧ k = ((y.length : Int) != 0) := e
    subst e'
    exact PySem.P.truthy_str (by omega) ⟨H, I.tok _, q⟩
  | byt y =>
    obtain ⟨t, rfl⟩ := rx
    obtain ⟨hy, e'⟩ : y.size ≤ sizeLine ∧ k = ((y.size : Int) != 0) := e
    subst e'
    exact PySem.W.truthy_bytes (by omega) ⟨H, I.tok _, q⟩
  | ref p =>
    cases rx
    have e' : (∃ xs, SqL X.K H p xs ∧ k = !xs.isEmpty) ∨ (∃ xs, SqT X.K H p xs ∧ k = !xs.isEmpty) ∨ ∃ kvs, H p = some (.dK kvs) ∧ k = !kvs.isEmpty := e
    rcases e' with ⟨xs, hx, e'⟩ | ⟨xs, hx, e'⟩ | ⟨kvs, hx, e'⟩
    · subst e'
      obtain ⟨its, r, pl, hz⟩ := I.list hx
      have hlen := r.length
      exact wpAny_truthy_list pl.isList (by simp only [List.size_toArray]; omega) ⟨H, I.tok _, by rw [isEmpty_of r]; exact q⟩
    · subst e'
      obtain ⟨its, r, pl, hz⟩ := I.tuple hx
      have hlen := r.length
      exact truthy_tuple pl (by simp only [List.size_toArray]; omega) ⟨H, I.tok _, by rw [isEmpty_of r]; exact q⟩
    · subst e'
      obtain ⟨hz, hS, vs, r, m⟩ : kvs.length ≤ sizeLine ∧ (p == sysModules) = false ∧ ∃ vs, KV kvs vs ∧ s.heap.DictOf (mixKind X.prog X.w) p vs := I.hok p _ hx
      have hlen : kvs.length = vs.length := Paired.length r
      exact wpAny_truthy_dict hS m (by omega) ⟨H, I.tok _, by rw [isEmpty_kv r]; exact q⟩
  | _ => exact (show False from e).elim
/-- any expression whose test is its value's truth (a name, a call, a subscript, a field ..: he by fun _ => rfl) -/
theorem pt_truth (ha : PE X a ta) (he : ∀ whole, isTrue a X.env whole = (do let v ← whole; standAt a.pos; holding [v] (truthy v))) :
    PT X a (fun σ H Q => ta σ H fun x H' => ∃ k, TruV X.K x H' k ∧ Q k H') := by
  intro pins s σ H Q I h
  exact isTrue_plain (thn (ha pins s σ H _ I h) fun v s1 ⟨x, H1, I1, r1, q1⟩ => tru_ok pins s1 σ H1 x v Q I1 r1 q1) (he _)

/-! ### strs and bytes -/
theorem pe_byt {x : List UInt8} {k : Nat} : PE X (.Constant (.bytes x) k pos) (fun _ H Q => Q (.byt x.toArray) H) := fun _ _ _ H _ I h => PySem.W.Constant_bytes ⟨.byt x.toArray, H, I.tok _, ⟨_, rfl⟩, h⟩
theorem op_add_str : OpR X (binaryOp .Add) (fun x y H Q => ∃ i j, x = .str i ∧ y = .str j ∧ i.length + j.length ≤ sizeLine ∧ Q (.str (i ++ j)) H) := by
  intro pins s σ H x y v u Q I rx ry h
  obtain ⟨i, j, rfl, rfl, hz, q⟩ := h
  obtain ⟨t, rfl⟩ := rx
  obtain ⟨t', rfl⟩ := ry
  exact add_str (fun t' tk => ⟨.str (i ++ j), H, I.tok _, ⟨_, rfl⟩, q⟩) hz
theorem iop_add_str : OpR X (inplaceOp .Add) (fun x y H Q => ∃ i j, x = .str i ∧ y = .str j ∧ i.length + j.length ≤ sizeLine ∧ Q (.str (i ++ j)) H) := by
  intro pins s σ H x y v u Q I rx ry h
  obtain ⟨i, j, rfl, rfl, hz, q⟩ := h
  obtain ⟨t, rfl⟩ := rx
  obtain ⟨t', rfl⟩ := ry
  exact iadd_str (fun t' tk => ⟨.str (i ++ j), H, I.tok _, ⟨_, rfl⟩, q⟩) hz
theorem op_add_byt : OpR X (binaryOp .Add) (fun x y H Q => ∃ i j, x = .byt i ∧ y = .byt j ∧ i.size + j.size ≤ 16777216 ∧ Q (.byt (i ++ j)) H) := by
  intro pins s σ H x y v u Q I rx ry h
  obtain ⟨i, j, rfl, rfl, hz, q⟩ := h
  obtain ⟨t, rfl⟩ := rx
  obtain ⟨t', rfl⟩ := ry
  exact PySem.W.KBy.add_bytes hz (fun t' tk => ⟨.byt (i ++ j), H, I.tok _, ⟨_, rfl⟩, q⟩)

def PlainIxT (b : Expr) : Prop := ∀ o i, subscripted b false o i = operate [o, i] (getItem o i)
/-- s[i], 0 ≤ i < len -/
theorem pe_item_str (ha : PE X a ta) (hb : PE X b tb) (hs : PlainIxT b) :
    PE X (.Subscript a b pos) (tOp (fun x y H Q => ∃ z i c, x = .str z ∧ y = .int i ∧ 0 ≤ i ∧ i < 2 ^ 63 ∧ i < z.length ∧ z.cps[i.toNat]? = some c ∧ Q (.str ⟨#[c]⟩) H) ta tb) := by
  intro pins s σ H Q I h
  refine Subscript_ (binT ha hb I h fun v u s2 x y H2 I2 rx ry q => ?_)
  obtain ⟨z, i, c, rfl, rfl, h0, h63, h1, hc, q⟩ := q
  obtain ⟨t, rfl⟩ := rx
  obtain ⟨t', rfl⟩ := ry
  have e : seqIndex? i z.length = some i.toNat := PySem.StrLaws.seqIndex_nonneg h0 h1
  exact tail_any (typeIs_str s2 z t) slot_str_getitem.lookup (getItem_str (c := c) (by
    have e1 : decide (i < -(2 ^ 63 : Int)) = false := decide_eq_false (by omega)
    have e2 : decide (i ≥ 2 ^ 63) = false := decide_eq_false (by omega)
    rw [e1, e2] <;> rfl) (by rw [e]; exact hc) ⟨.str ⟨#[c]⟩, H2, I2.tok _, ⟨_, rfl⟩, q⟩) (hs _ _)
/-- b[i], 0 ≤ i < len -/
theorem pe_item_byt (ha : PE X a ta) (hb : PE X b tb) (hs : PlainIxT b) :
    PE X (.Subscript a b pos) (tOp (fun x y H Q => ∃ (z : List UInt8) (i : Int), x = .byt z.toArray ∧ y = .int i ∧ z.length ≤ sizeLine ∧ 0 ≤ i ∧ i < z.length ∧ Q (.int ((z.getD i.toNat 0).toNat : Nat)) H) ta tb) := by
  intro pins s σ H Q I h
  refine Subscript_ (binT ha hb I h fun v u s2 x y H2 I2 rx ry q => ?_)
  obtain ⟨z, i, rfl, rfl, hz, h0, h1, q⟩ := q
  obtain ⟨t, rfl⟩ := rx
  obtain ⟨t', rfl⟩ := ry
  have hl : sizeLine = 16777216 := sizeLine_eq
  exact tail_any (PySem.W.typeIs_bytes s2 z.toArray t) PySem.W.FB.slot_bytes_getitem.lookup (PySem.W.getItem_bytes (by omega) h0 h1 ⟨.int ((z.getD i.toNat 0).toNat : Nat), H2, I2.tok _, ⟨_, rfl⟩, q⟩) (hs _ _)

/-! ### scalar builtins, by CallR -/
theorem vals1 {x : V} {us : List Value} (r : Vals [x] us) : ∃ u, us = [u] ∧ RelV x u := by
  cases r with
  | cons r1 r2 => cases r2; exact ⟨_, rfl, r1⟩
theorem vals2 {x y : V} {us : List Value} (r : Vals [x, y] us) : ∃ u w', us = [u, w'] ∧ RelV x u ∧ RelV y w' := by
  cases r with
  | cons r1 r2 =>
    cases r2 with
    | cons r3 r4 => cases r4; exact ⟨_, _, rfl, r1, r3⟩
theorem call_abs : CallR X (.builtin "abs") (fun xs H Q => ∃ i, xs = [.int i] ∧ Q (.int (if i < 0 then -i else i)) H) := by
  intro pins s σ H xs us Q I r h
  obtain ⟨i, rfl, q⟩ := h
  obtain ⟨u, rfl, t, rfl⟩ := vals1 r
  exact call_abs_int fun u tk => ⟨.int (if i < 0 then -i else i), H, I.tok _, ⟨_, rfl⟩, q⟩
theorem call_max2 (hc : X.calm = true) : CallR X (.builtin "max") (fun xs H Q => ∃ i j, xs = [.int i, .int j] ∧ Q (.int (if j > i then j else i)) H) := by
  intro pins s σ H xs us Q I r h
  obtain ⟨i, j, rfl, q⟩ := h
  obtain ⟨u, w', rfl, ⟨t, rfl⟩, ⟨t', rfl⟩⟩ := vals2 r
  refine max_two_ints (I.ok.hd hc) fun h' tk k => ⟨_, H, I.kept k, ?_, q⟩
  by_cases hj : j > i
  · rw [if_pos hj, if_pos hj]; exact ⟨_, rfl⟩
  · rw [if_neg hj, if_neg hj]; exact ⟨_, rfl⟩
theorem call_min2 (hc : X.calm = true) : CallR X (.builtin "min") (fun xs H Q => ∃ i j, xs = [.int i, .int j] ∧ Q (.int (if j < i then j else i)) H) := by
  intro pins s σ H xs us Q I r h
  obtain ⟨i, j, rfl, q⟩ := h
  obtain ⟨u, w', rfl, ⟨t, rfl⟩, ⟨t', rfl⟩⟩ := vals2 r
  refine min_two_ints (I.ok.hd hc) fun h' tk k => ⟨_, H, I.kept k, ?_, q⟩
  by_cases hj : j < i
  · rw [if_pos hj, if_pos hj]; exact ⟨_, rfl⟩
  · rw [if_neg hj, if_neg hj]; exact ⟨_, rfl⟩
theorem call_int1 : CallR X (.type "int") (fun xs H Q => (∃ i, xs = [.int i] ∧ Q (.int i) H) ∨ ∃ k, xs = [.bl k] ∧ Q (.int (if k then 1 else 0)) H) := by
  intro pins s σ H xs us Q I r h
  rcases h with ⟨i, rfl, q⟩ | ⟨k, rfl, q⟩
  · obtain ⟨u, rfl, t, rfl⟩ := vals1 r
    exact call_int_int ⟨.int i, H, I, ⟨_, rfl⟩, q⟩
  · obtain ⟨u, rfl, r1⟩ := vals1 r
    cases r1
    exact call_int_bool ⟨.int (if k then 1 else 0), H, I.tok _, ⟨_, rfl⟩, q⟩
theorem call_bool1 : CallR X (.type "bool") (fun xs H Q => (∃ i, xs = [.int i] ∧ Q (.bl (i != 0)) H) ∨ ∃ k, xs = [.bl k] ∧ Q (.bl k) H) := by
  intro pins s σ H xs us Q I r h
  rcases h with ⟨i, rfl, q⟩ | ⟨k, rfl, q⟩
  · obtain ⟨u, rfl, t, rfl⟩ := vals1 r
    exact call_bool_int ⟨.bl (i != 0), H, I, rfl, q⟩
  · obtain ⟨u, rfl, r1⟩ := vals1 r
    cases r1
    exact call_bool_bool ⟨.bl k, H, I, rfl, q⟩
theorem call_str_int : CallR X (.type "str") (fun xs H Q => ∃ i, xs = [.int i] ∧ i.natAbs.log2 < 1920 ∧ Q (.str (toString i)) H) := by
  intro pins s σ H xs us Q I r h
  obtain ⟨i, rfl, hz, q⟩ := h
  obtain ⟨u, rfl, t, rfl⟩ := vals1 r
  exact PySem.P.str_of_int hz ⟨.str _, H, I.tok _, ⟨_, rfl⟩, q⟩
theorem call_ord : CallR X (.builtin "ord") (fun xs H Q => ∃ x, xs = [.str x] ∧ x.length = 1 ∧ Q (.int (x.cps.getD 0 0 : Nat)) H) := by
  intro pins s σ H xs us Q I r h
  obtain ⟨x, rfl, hz, q⟩ := h
  obtain ⟨u, rfl, t, rfl⟩ := vals1 r
  exact ord_of_one hz ⟨.int _, H, I.tok _, ⟨_, rfl⟩, q⟩
theorem call_chr : CallR X (.builtin "chr") (fun xs H Q => ∃ i, xs = [.int i] ∧ 0 ≤ i ∧ i ≤ 1114111 ∧ Q (.str ⟨#[i.toNat]⟩) H) := by
  intro pins s σ H xs us Q I r h
  obtain ⟨i, rfl, h0, h1, q⟩ := h
  obtain ⟨u, rfl, t, rfl⟩ := vals1 r
  exact chr_of_range h0 h1 ⟨.str _, H, I.tok _, ⟨_, rfl⟩, q⟩
/-- len of a str, a bytes, a list, a tuple -/
def LenV (K : PySem.W.Frag) (x : V) (H : Hp) (n : Nat) : Prop :=
  match x with
  | .str y => y.length ≤ sizeLine ∧ n = y.length
  | .byt y => y.size ≤ sizeLine ∧ n = y.size
  | .ref p => (∃ xs, SqL K H p xs ∧ n = xs.length) ∨ ∃ xs, SqT K H p xs ∧ n = xs.length
  | _ => False
theorem call_len : CallR X (.builtin "len") (fun xs H Q => ∃ x n, xs = [x] ∧ LenV X.K x H n ∧ Q (.int n) H) := by
  intro pins s σ H xs us Q I r h
  obtain ⟨x, n, rfl, e, q⟩ := h
  obtain ⟨u, rfl, rx⟩ := vals1 r
  have hl := line63
  have hs : sizeLine = 16777216 := sizeLine_eq
  cases x with
  | str y =>
    obtain ⟨t, rfl⟩ := rx
    obtain ⟨hy, e'⟩ : y.length ≤ sizeLine ∧ n = y.length := e
    subst e'
    exact len_str (by omega) ⟨.int _, H, I.tok _, ⟨_, rfl⟩, q⟩
  | byt y =>
    obtain ⟨t, rfl⟩ := rx
    obtain ⟨hy, e'⟩ : y.size ≤ sizeLine ∧ n = y.size := e
    subst e'
    exact PySem.W.len_bytes (by omega) ⟨.int _, H, I.tok _, ⟨_, rfl⟩, q⟩
  | ref p =>
    cases rx
    have e' : (∃ xs, SqL X.K H p xs ∧ n = xs.length) ∨ ∃ xs, SqT X.K H p xs ∧ n = xs.length := e
    rcases e' with ⟨xs, hx, e'⟩ | ⟨xs, hx, e'⟩
    · subst e'
      obtain ⟨its, r', pl, hz⟩ := I.list hx
      have hlen := r'.length
      exact Calls.call_len_list pl.isList (by simp only [List.size_toArray]; omega) ⟨.int xs.length, H, I.tok _, ⟨_, by simp only [List.size_toArray]; rw [hlen]⟩, q⟩
    · subst e'
      obtain ⟨its, r', pl, hz⟩ := I.tuple hx
      have hlen := r'.length
      exact len_tuple pl (by simp only [List.size_toArray]; omega) ⟨.int xs.length, H, I.tok _, ⟨_, by simp only [List.size_toArray]; rw [hlen]⟩, q⟩
  | _ => exact (show False from e).elim
/-- divmod: a new tuple -/
theorem call_divmod : CallR X (.builtin "divmod") (fun xs H Q => ∃ i j, xs = [.int i, .int j] ∧ CDiv i j ∧ ∀ p, H p = none → Q (.ref p) (upd H p (.tup [.int (i / j), .int (i % j)]))) := by
  intro pins s σ H xs us Q I r h
  obtain ⟨i, j, rfl, ⟨h1, h2⟩, q⟩ := h
  obtain ⟨u, w', rfl, ⟨t, rfl⟩, ⟨t', rfl⟩⟩ := vals2 r
  refine divmod_int (by omega) ?_ (.inl (PyProof.noPylong_small (by omega)))
  rw [Int.fdiv_eq_ediv_of_nonneg i (by omega), Int.fmod_eq_emod_of_nonneg i (by omega)]
  have hn : H s.heap.objs.size = none := I.hok.fresh (Nat.le_refl _)
  refine ⟨.ref s.heap.objs.size, _, ?_, rfl, q _ hn⟩
  refine I.laid (fun b o e => Heap.get?_push_of_some _ e) (Nat.le_refl _) ⟨by simp only [List.length_cons, List.length_nil]; rw [sizeLine_eq]; decide, [.int (i / j) s.toks, .int (i % j) (s.toks + 1)], .cons ⟨_, rfl⟩ (.cons ⟨_, rfl⟩ .nil), ?_⟩
  exact ⟨_, Heap.get?_push_size s.heap rfl, rfl, 0, rfl⟩
end
end L2

namespace L2
open PySem PySem.Spec PyProof.Rows

/-! ### an instance, its attributes a map -/
structure ObjM (h : Heap) (x dx C : Addr) (mA : Str → Option Value) : Prop where
  obj : h.get? x = some (PySem.W.instObj C dx)
  ns : h.Ns1 dx mA
  ne : dx ≠ x

theorem lookIn_ns {h : Heap} {dx : Addr} {mA : Str → Option Value} (n : h.Ns1 dx mA) : ∃ od, h.get? dx = some od ∧ ∀ name, PySem.W.lookIn name od = some (mA name) := by
  obtain ⟨o, es, ep, ho, hd, hk, _, hm⟩ := n
  refine ⟨o, ho, fun name => ?_⟩
  have e := hm name
  unfold nsFind findBy at e
  rw [← Array.find?_toList] at e
  unfold PySem.W.lookIn
  rw [hd]
  dsimp only
  split
  · rename_i y q
    rw [q] at e
    exact congrArg some e
  · rename_i q
    rw [q] at e
    have a : es.toList.any (·.refKey) = false := by
      rw [List.any_eq_false]
      intro y hy
      obtain ⟨z, t, hkey⟩ := hk y (Array.mem_toList_iff.mp hy)
      simp [DictEntry.refKey, hkey]
    have a' : ¬ es.toList.any (·.refKey) = true := by rw [a]; exact Bool.false_ne_true
    rw [if_neg a']
    exact congrArg some e

theorem ObjM.look {h : Heap} {x dx C : Addr} {mA : Str → Option Value} (I : ObjM h x dx C mA) : ∃ od, PySem.W.InstAt h x (PySem.W.instObj C dx) C (some od) ∧ ∀ name, PySem.W.lookIn name od = some (mA name) :=
  let ⟨od, ho, hl⟩ := lookIn_ns I.ns
  ⟨od, ⟨I.obj, rfl, rfl, ho⟩, hl⟩

section
variable {prog : Program} {w : World} {A : Around} {E : Value → Shared → Prop} {s : Shared} {K : PySem.W.Frag} {x dx C f : Addr} {mA : Str → Option Value} {name : Str} {v : Value}

theorem get_map {expr : Bool} {Q : Value → Shared → Prop} (X : K.In s.heap) (I : ObjM s.heap x dx C mA) (hg : PySem.W.plainGet K C name = true) (hh : PySem.W.hasDictIn K C = true)
    (ha : PySem.W.findIn K (.ref C) name = some none) (hv : mA name = some v) (hv' : PySem.W.handedIn v = true) (h : Q v { s with toks := s.toks + 1 }) :
    wpAny (model prog w) A (getAttr (.ref x) name expr) Q E s := by
  obtain ⟨od, J, hl⟩ := I.look
  exact PySem.W.get_value X J (PySem.W.plainGet_of hg).1 (PySem.W.findObj_own hh ha rfl (by rw [hl, hv])) hv' h

theorem get_const {expr : Bool} {a : Value} {Q : Value → Shared → Prop} (X : K.In s.heap) (I : ObjM s.heap x dx C mA) (hg : PySem.W.plainGet K C name = true) (hh : PySem.W.hasDictIn K C = true)
    (ha : PySem.W.findIn K (.ref C) name = some (some a)) (hn : PySem.W.specialIn K a "__get__" = some none) (hc : PySem.W.copiedNames.contains name = false) (hv : mA name = none) (hv' : PySem.W.handedIn a = true)
    (h : Q a { s with toks := s.toks + 1 }) : wpAny (model prog w) A (getAttr (.ref x) name expr) Q E s := by
  obtain ⟨od, J, hl⟩ := I.look
  exact PySem.W.get_value X J (PySem.W.plainGet_of hg).1 (PySem.W.findObj_cls hh ha hn hv' hc (by rw [hl, hv])) hv' h

theorem get_meth {pl : Sem Bool} {Q : Value × List Value → Shared → Prop} (X : K.In s.heap) (I : ObjM s.heap x dx C mA) (hg : PySem.W.plainGet K C name = true)
    (hf : PySem.W.findIn K (.ref C) name = some (some (.ref f))) (ht : PySem.W.isFn K (.ref f) = true) (hv : mA name = none) (h : Q (.ref f, [.ref x]) s) :
    wpAny (model prog w) A (getMethod (.ref x) name pl) Q E s := by
  obtain ⟨od, J, hl⟩ := I.look
  exact PySem.W.method_fn X J (PySem.W.plainGet_of hg).1 (PySem.W.plainGet_of hg).2 hf (beq_iff_eq.mp ht) (by show (PySem.W.lookIn name od).map (·.isSome) = some false; rw [hl, hv]; rfl) h

theorem set_map {ns : List Str} {Q : Unit → Shared → Prop} (X : K.In s.heap) (I : ObjM s.heap x dx C mA)
    (hs : PySem.W.findIn K (.ref C) "__setattr__" = some (some (.builtin "object.__setattr__"))) (hp : PySem.W.plainOver K C = true) (ht : PySem.W.takerIn K C name = some none) (hh : PySem.W.hasDictIn K C = true)
    (hw : PySem.Within mA ns) (hsz : ns.length ≤ sizeLine)
    (h : ∀ h', ObjM h' x dx C (fun y => if y = name then some v else mA y) → Heap.SameBut dx s.heap h' → Q () { s with heap := h', toks := s.toks + 2 }) :
    wpAny (model prog w) A (setAttr (.ref x) name v) Q E s := by
  obtain ⟨od, J, hl⟩ := I.look
  refine PySem.W.set_plain X J hs (PySem.W.osa_open (s := { s with toks := s.toks + 1 }) (r := none) X J hp ht fun b => ?_)
  obtain ⟨cd, hc, hd'⟩ := PySem.W.any_some hh
  have hx : s.heap.get? x = some ⟨.ref C, some dx, .plain, #[]⟩ := I.obj
  refine wpAny_bind (wpAny_pure (wpAny_bind (wpAny_bind (wpAny_loadPart hx (wpAny_bind (PySem.W.Looks.here (s := { s with toks := s.toks + 1 }) (PySem.W.looks_clsIn X hc) ?_))))))
  rw [hd']
  refine wpAny_pure (a := some dx) (wpAny_bind (wpAny_pure (wpAny_bind ?_)))
  refine wpAny_nsSet1 (s := { s with toks := s.toks + 1 }) I.ns fun h' hn2 hs2 => ?_
  obtain ⟨oD, esD, epD, hoD, hdD, hcD⟩ := hn2.count (PySem.Within.cons name v hw)
  refine wpAny_bind (wpAny_lookBehind hoD (by rw [hdD]; exact pastItsLine_dict (Nat.le_trans hcD (by rw [List.length_cons]; omega))) ?_)
  exact wpAny_pure (h _ ⟨(hs2.2 _ (Ne.symm I.ne)).trans I.obj, hn2, I.ne⟩ hs2)

/-- C(..): the dict at the heap's end, the instance behind it; then its __init__ -/
theorem make_map {R : Result → Shared → Prop} {vs : List Value} {kw : List (Str × Value)} (X : K.In s.heap) (hm : PySem.W.makesIn K C = true)
    (hi : PySem.W.findIn K (.ref C) "__init__" = some (some (.ref f))) (hf : PySem.W.typeIn K (.ref f) = some (.type "function"))
    (h : codeAny (model prog w) (A.under (.builtin "type.__call__" ⟨.ref C :: vs, kw⟩)) (.call (.ref f) ⟨.ref (s.heap.objs.size + 1) :: vs, kw⟩) (PySem.W.InitBack (s.heap.objs.size + 1) R)
      { s with heap := (s.heap.push PySem.W.emptyDict).push (PySem.W.instObj C s.heap.objs.size) }) :
    codeAny (model prog w) A (.call (.ref C) ⟨vs, kw⟩) R s := by
  obtain ⟨hh, g, d, t, os⟩ := s
  exact PySem.W.make_core (PySem.W.makes_of X hm) (PySem.W.looks_findIn X hi) (fun self => PySem.W.bind_fn X self hf) (.inl rfl) h
/-- C() where there is no __init__ but object's -/
theorem make_map0 {R : Result → Shared → Prop} (X : K.In s.heap) (hm : PySem.W.makesIn K C = true)
    (hi : PySem.W.findIn K (.ref C) "__init__" = some (some (.builtin "object.__init__")))
    (hb : ∀ self, PySem.W.Looks (model prog w) s.heap (bindSpecial (.builtin "object.__init__") self) (.builtin "object.__init__", [self]))
    (h : codeAny (model prog w) (A.under (.builtin "type.__call__" ⟨[.ref C], []⟩)) (.call (.builtin "object.__init__") ⟨[.ref (s.heap.objs.size + 1)], []⟩) (PySem.W.InitBack (s.heap.objs.size + 1) R)
      { s with heap := (s.heap.push PySem.W.emptyDict).push (PySem.W.instObj C s.heap.objs.size) }) :
    codeAny (model prog w) A (.call (.ref C) ⟨[], []⟩) R s := by
  obtain ⟨hh, g, d, t, os⟩ := s
  exact PySem.W.make_core (PySem.W.makes_of X hm) (PySem.W.looks_findIn X hi) hb (.inr ⟨rfl, rfl⟩) h
end

/-! ### the attributes as a list of pairs -/
def putF (f : Str) (v : V) : List (Str × V) → List (Str × V)
  | [] => [(f, v)]
  | (g, x) :: r => if g = f then (g, v) :: r else (g, x) :: putF f v r
theorem lookup_putF (f g : Str) (v : V) : ∀ fs : List (Str × V), (putF f v fs).lookup g = if g = f then some v else fs.lookup g
  | [] => by
    show List.lookup g [(f, v)] = _
    by_cases h : g = f
    · have hb : (g == f) = true := beq_iff_eq.mpr h
      simp only [List.lookup, hb, if_pos h]
    · have hb : (g == f) = false := beq_eq_false_iff_ne.mpr h
      simp only [List.lookup, hb, if_neg h]
  | (k, x) :: r => by
    have ih := lookup_putF f g v r
    rw [show putF f v ((k, x) :: r) = (if k = f then (k, v) :: r else (k, x) :: putF f v r) from rfl]
    by_cases hk : k = f
    · rw [if_pos hk]
      by_cases h : g = k
      · have hb : (g == k) = true := beq_iff_eq.mpr h
        simp only [List.lookup, hb, if_pos (h.trans hk)]
      · have hb : (g == k) = false := beq_eq_false_iff_ne.mpr h
        simp only [List.lookup, hb, if_neg (fun e : g = f => h (e.trans hk.symm))]
    · rw [if_neg hk]
      by_cases h : g = k
      · have hb : (g == k) = true := beq_iff_eq.mpr h
        simp only [List.lookup, hb, if_neg (fun e : g = f => hk (h.symm.trans e))]
      · have hb : (g == k) = false := beq_eq_false_iff_ne.mpr h
        simp only [List.lookup, hb]
        exact ih
theorem keys_putF (f : Str) (v : V) : ∀ fs : List (Str × V), f ∈ (putF f v fs).map (·.1) ∧ ∀ g, g ∈ fs.map (·.1) → g ∈ (putF f v fs).map (·.1)
  | [] => ⟨by simp [putF], fun g h => by simp at h⟩
  | (k, x) :: r => by
    obtain ⟨i1, i2⟩ := keys_putF f v r
    rw [show putF f v ((k, x) :: r) = (if k = f then (k, v) :: r else (k, x) :: putF f v r) from rfl]
    by_cases hk : k = f
    · rw [if_pos hk]
      subst hk
      exact ⟨by simp, fun g h => by simpa using h⟩
    · rw [if_neg hk]
      refine ⟨?_, fun g h => ?_⟩
      · rw [List.map_cons]
        exact List.mem_cons_of_mem _ i1
      · rw [List.map_cons] at h ⊢
        rcases List.mem_cons.mp h with e | e
        · exact List.mem_cons.mpr (.inl e)
        · exact List.mem_cons_of_mem _ (i2 g e)
theorem length_putF (f : Str) (v : V) : ∀ fs : List (Str × V), (putF f v fs).length ≤ fs.length + 1
  | [] => by simp [putF]
  | (k, x) :: r => by
    have ih := length_putF f v r
    rw [show putF f v ((k, x) :: r) = (if k = f then (k, v) :: r else (k, x) :: putF f v r) from rfl]
    by_cases hk : k = f
    · rw [if_pos hk, List.length_cons, List.length_cons]; omega
    · rw [if_neg hk, List.length_cons, List.length_cons]; omega

theorem RelO.some_of {v : V} {o : Option Value} (r : RelO (some v) o) : ∃ u, o = some u ∧ RelV v u := by
  cases o with
  | none => exact (show False from r).elim
  | some u => exact ⟨u, rfl, r⟩
theorem RelO.none_of {o : Option Value} (r : RelO none o) : o = none := by
  cases o with
  | none => rfl
  | some u => exact (show False from r).elim
theorem handed_of {v : V} {u : Value} (r : RelV v u) : PySem.W.handedIn u = true := by
  cases v with
  | non => cases (show u = Value.none from r); rfl
  | bl b => cases (show u = Value.bool b from r); rfl
  | int i => obtain ⟨t, e⟩ := (show ∃ t, u = Value.int i t from r); cases e; rfl
  | str x => obtain ⟨t, e⟩ := (show ∃ t, u = Value.str x t from r); cases e; rfl
  | byt b => obtain ⟨t, e⟩ := (show ∃ t, u = Value.bytes b t from r); cases e; rfl
  | flt b => obtain ⟨t, e⟩ := (show ∃ t, u = Value.float b t from r); cases e; rfl
  | ref a => cases (show u = Value.ref a from r); rfl
  | ty n => cases (show u = Value.type n from r); rfl

section
variable {P : Program} {w : World} {H H' : Hp} {h h' : Heap} {a C dx : Addr} {fs fs' : List (Str × V)}
theorem ins_get (hok : HOk P w H h) (e : H a = some (.ins C dx fs)) : ∃ mA, ObjM h a dx C mA ∧ (∀ f, RelO (fs.lookup f) (mA f)) ∧ PySem.Within mA (fs.map (·.1)) ∧ fs.length ≤ 1000 ∧ H dx = some (.own a) := by
  obtain ⟨d, z, ne, ob, mA, n, r, q⟩ := (show ObjOk P w H h a (.ins C dx fs) from hok a _ e)
  exact ⟨mA, ⟨ob, n, ne⟩, r, q, z, d⟩
end

/-! ### what of the text a class must have -/
structure Cls (K : PySem.W.Frag) (C : Addr) : Prop where
  pg : PySem.W.plainGet K C Str.empty = true
  hd : PySem.W.hasDictIn K C = true
  po : PySem.W.plainOver K C = true
  sa : PySem.W.findIn K (.ref C) "__setattr__" = some (some (.builtin "object.__setattr__"))
theorem Cls.get {K : PySem.W.Frag} {C : Addr} (c : Cls K C) (f : Str) : PySem.W.plainGet K C f = true := c.pg
/-- no class of it has the name -/
def NoAttr (K : PySem.W.Frag) (C : Addr) (f : Str) : Prop := PySem.W.findIn K (.ref C) f = some none
theorem NoAttr.taker {K : PySem.W.Frag} {C : Addr} {f : Str} (n : NoAttr K C f) : PySem.W.takerIn K C f = some none := by
  unfold PySem.W.takerIn
  rw [show PySem.W.findIn K (.ref C) f = some none from n]
  rfl
/-- a constant of the class -/
structure Con (K : PySem.W.Frag) (C : Addr) (f : Str) (v : V) (u : Value) : Prop where
  at_ : PySem.W.findIn K (.ref C) f = some (some u)
  rel : RelV v u
  get : PySem.W.specialIn K u "__get__" = some none
  cp : PySem.W.copiedNames.contains f = false
/-- a method: a plain def of the class or of one above it -/
structure Meth (K : PySem.W.Frag) (C : Addr) (m : Str) (f : Addr) : Prop where
  at_ : PySem.W.findIn K (.ref C) m = some (some (.ref f))
  fn : PySem.W.isFn K (.ref f) = true
  kp : PySem.W.keepIn K (.ref f) = true

section
variable {X : Cx} {pins : List (Addr × Obj)} {σ : St} {H : Hp} {s : Shared} {a C dx : Addr} {fs : List (Str × V)} {f : Str} {v : V} {A : Around} {E : Value → Shared → Prop}

theorem getattr_ok {b : Bool} {Q : Value → Shared → Prop} (I : Inv X pins σ H s) (e : H a = some (.ins C dx fs)) (c : Cls X.K C) (n : NoAttr X.K C f) (l : fs.lookup f = some v)
    (h : ∀ u s', Inv X pins σ H s' → RelV v u → Q u s') : wpAny (model X.prog X.w) A (getAttr (.ref a) f b) Q E s := by
  obtain ⟨mA, O, r, _, _, _⟩ := ins_get I.hok e
  obtain ⟨u, hu, ru⟩ := RelO.some_of (v := v) (o := mA f) (by rw [← l]; exact r f)
  exact get_map I.kIn O (c.get f) c.hd n hu (handed_of ru) (h u _ (I.tok _) ru)

theorem getcon_ok {b : Bool} {u : Value} {Q : Value → Shared → Prop} (I : Inv X pins σ H s) (e : H a = some (.ins C dx fs)) (c : Cls X.K C) (k : Con X.K C f v u) (l : fs.lookup f = none)
    (h : ∀ s', Inv X pins σ H s' → Q u s') : wpAny (model X.prog X.w) A (getAttr (.ref a) f b) Q E s := by
  obtain ⟨mA, O, r, _, _, _⟩ := ins_get I.hok e
  have hn : mA f = none := RelO.none_of (by rw [← l]; exact r f)
  exact get_const I.kIn O (c.get f) c.hd k.at_ k.get k.cp hn (handed_of k.rel) (h _ (I.tok _))

theorem getmeth_ok {m : Str} {g : Addr} {pl : Sem Bool} {Q : Value × List Value → Shared → Prop} (I : Inv X pins σ H s) (e : H a = some (.ins C dx fs)) (c : Cls X.K C) (k : Meth X.K C m g) (l : fs.lookup m = none)
    (h : Q (.ref g, [.ref a]) s) : wpAny (model X.prog X.w) A (getMethod (.ref a) m pl) Q E s := by
  obtain ⟨mA, O, r, _, _, _⟩ := ins_get I.hok e
  have hn : mA m = none := RelO.none_of (by rw [← l]; exact r m)
  exact get_meth I.kIn O (c.get m) k.at_ k.fn hn h

theorem setattr_ok {y : V} {u : Value} {Q : Unit → Shared → Prop} (I : Inv X pins σ H s) (e : H a = some (.ins C dx fs)) (c : Cls X.K C) (n : NoAttr X.K C f) (hl : fs.length < 1000) (ry : RelV y u)
    (h : ∀ s', Inv X pins σ (upd H a (.ins C dx (putF f y fs))) s' → Q () s') : wpAny (model X.prog X.w) A (setAttr (.ref a) f u) Q E s := by
  obtain ⟨mA, O, r, wi, _, ho⟩ := ins_get I.hok e
  have hz : (fs.map (·.1)).length ≤ sizeLine := by rw [List.length_map, sizeLine_eq]; omega
  refine set_map I.kIn O c.sa c.po n.taker c.hd wi hz fun h' O' sb => h _ ?_
  have hd : ∃ o, h'.get? dx = some o := let ⟨o, _, _, e', _⟩ := O'.ns; ⟨o, e'⟩
  refine I.write (x := a) (e := dx) (by rw [e]; exact True.intro) (.inr ho) (fun b q hb z => (sb.2 b hb).trans z) hd ?_
  refine ⟨by rw [upd_ne O.ne]; exact ho, ?_, O.ne, O'.obj, _, O'.ns, fun g => ?_, fun g hg => ?_⟩
  · have := length_putF f y fs; omega
  · show RelO ((putF f y fs).lookup g) (if g = f then some u else mA g)
    rw [lookup_putF]
    by_cases q : g = f
    · rw [if_pos q, if_pos q]; exact ry
    · rw [if_neg q, if_neg q]; exact r g
  · by_cases q : g = f
    · rw [q]; exact (keys_putF f y fs).1
    · refine (keys_putF f y fs).2 g (wi g fun z => hg ?_)
      show (if g = f then some u else mA g) = none
      rw [if_neg q]; exact z

/-- a new instance, tracked, without attributes -/
theorem Inv.made (I : Inv X pins σ H s) : Inv X pins σ (upd (upd H s.heap.objs.size (.own (s.heap.objs.size + 1))) (s.heap.objs.size + 1) (.ins C s.heap.objs.size []))
    { s with heap := (s.heap.push PySem.W.emptyDict).push (PySem.W.instObj C s.heap.objs.size) } := by
  have e1 : (s.heap.push PySem.W.emptyDict).get? s.heap.objs.size = some PySem.W.emptyDict := Heap.get?_push_size s.heap rfl
  have e2 : ((s.heap.push PySem.W.emptyDict).push (PySem.W.instObj C s.heap.objs.size)).get? (s.heap.objs.size + 1) = some (PySem.W.instObj C s.heap.objs.size) := by
    have := Heap.get?_push_size (s.heap.push PySem.W.emptyDict) (o := PySem.W.instObj C s.heap.objs.size) rfl
    rwa [Heap.size_push] at this
  have e3 : (s.heap.push PySem.W.emptyDict).Ns s.heap.objs.size (fun _ => none) := ⟨PySem.W.emptyDict, #[], _, e1, rfl, (fun e he => absurd he (by simp)), fun _ => rfl⟩
  have I1 := I.laid (a := s.heap.objs.size) (o := .own (s.heap.objs.size + 1)) (h' := s.heap.push PySem.W.emptyDict) (t' := s.toks) (fun b u q => Heap.get?_push_of_some _ q) (Nat.le_refl _) ⟨_, e1⟩
  refine I1.laid (a := s.heap.objs.size + 1) (o := .ins C s.heap.objs.size []) (t' := s.toks) (fun b u q => Heap.get?_push_of_some _ q) (Nat.le_of_eq (Heap.size_push _ _)) ?_
  have ne : s.heap.objs.size ≠ s.heap.objs.size + 1 := Nat.ne_of_lt (Nat.lt_succ_self _)
  refine ⟨by rw [upd_ne ne, upd_same], Nat.zero_le _, ne, e2, fun _ => none, (Heap.Ns1.of_empty e3).at fun o q => Heap.get?_push_of_some _ q, fun _ => True.intro, fun y hy => absurd rfl hy⟩

/-- e.f where nothing but the object is asked: through attributeBase (super) and the last hold -/
theorem attr_of {prog : Program} {w : World} {env : Env} {e : Expr} {f : Str} {pos : Pos} {s : Shared} {Q : Value → Shared → Prop} (hb : attributeBase e f env (eval e env) = eval e env)
    (h : wpAny (model prog w) A (eval e env) (fun o s₁ => wpAny (model prog w) A (getAttr o f true) Q E s₁) E s) : wpAny (model prog w) A (eval (.Attribute e f pos) env) Q E s :=
  Attribute_any_ h (by rw [arm_eval_Attribute, hb])
end

/-! ### readings and rules -/
/-- e.f, an attribute of the instance -/
def tFld (K : PySem.W.Frag) (ta : TE) (f : Str) : TE := fun σ H Q => ta σ H fun x H1 => ∃ a C dx fs v, x = .ref a ∧ H1 a = some (.ins C dx fs) ∧ Cls K C ∧ NoAttr K C f ∧ fs.lookup f = some v ∧ Q v H1
/-- e.f, a constant of the class -/
def tCon (K : PySem.W.Frag) (ta : TE) (f : Str) : TE := fun σ H Q => ta σ H fun x H1 => ∃ a C dx fs v u, x = .ref a ∧ H1 a = some (.ins C dx fs) ∧ Cls K C ∧ Con K C f v u ∧ fs.lookup f = none ∧ Q v H1
/-- e.f = value -/
def sFld (K : PySem.W.Frag) (ta tv : TE) (f : Str) : TS := fun D σ H => tv σ H fun y H1 => ta σ H1 fun x H2 => ∃ a C dx fs, x = .ref a ∧ H2 a = some (.ins C dx fs) ∧ Cls K C ∧ NoAttr K C f ∧ fs.length < 1000 ∧
  D.nx σ (upd H2 a (.ins C dx (putF f y fs)))
/-- an augmented operator on two values -/
def InOp (X : Cx) (op : Operator) (rd : V → V → Hp → VK → Prop) : Prop :=
  ∀ (pins : List (Addr × Obj)) (s : Shared) (σ : St) (H : Hp) (x y : V) (u v : Value) (Q : VK), Inv X pins σ H s → RelV x u → RelV y v → rd x y H Q → wpAny (model X.prog X.w) X.A (inplaceOp op u v) (EP X pins σ Q) X.xe s
/-- e.f op= value -/
def sFldAug (K : PySem.W.Frag) (ta tv : TE) (rd : V → V → Hp → VK → Prop) (f : Str) : TS := fun D σ H => ta σ H fun x H1 => ∃ a C dx fs v, x = .ref a ∧ H1 a = some (.ins C dx fs) ∧ Cls K C ∧ NoAttr K C f ∧ fs.lookup f = some v ∧
  tv σ H1 fun y H2 => rd v y H2 fun z H3 => ∃ dx' fs', H3 a = some (.ins C dx' fs') ∧ fs'.length < 1000 ∧ D.nx σ (upd H3 a (.ins C dx' (putF f z fs')))

section
variable {X : Cx} {o e value : Expr} {f : Str} {pos pos' tpos : Pos} {ta tv : TE}
theorem pe_fld (he : PE X e ta) (hb : attributeBase e f X.env (eval e X.env) = eval e X.env) : PE X (.Attribute e f pos) (tFld X.K ta f) := by
  intro pins s σ H Q I h
  refine attr_of hb (thn (he pins s σ H _ I h) fun u s1 ⟨x, H1, I1, rx, a, C, dx, fs, v, ex, ea, c, n, l, q⟩ => ?_)
  subst ex
  obtain rfl : u = Value.ref a := rx
  exact getattr_ok I1 ea c n l fun u' s2 I2 ru => ⟨v, H1, I2, ru, q⟩
theorem pe_con (he : PE X e ta) (hb : attributeBase e f X.env (eval e X.env) = eval e X.env) : PE X (.Attribute e f pos) (tCon X.K ta f) := by
  intro pins s σ H Q I h
  refine attr_of hb (thn (he pins s σ H _ I h) fun u s1 ⟨x, H1, I1, rx, a, C, dx, fs, v, u0, ex, ea, c, k, l, q⟩ => ?_)
  subst ex
  obtain rfl : u = Value.ref a := rx
  exact getcon_ok I1 ea c k l fun s2 I2 => ⟨v, H1, I2, k.rel, q⟩
theorem ps_fld (ha : PE X o ta) (hv : PE X value tv) (hs : swapsWith value (some (.Attribute o f pos')) pos.line X.env = pure false) : PS X (.Assign [.Attribute o f pos'] value pos) (sFld X.K ta tv f) := by
  intro pins s σ H D I h
  refine plainObj_wpAny_Assign_Attribute (thn (hv pins s σ H _ I h) fun u s1 ⟨y, H1, I1, ry, q⟩ => thn (ha pins s1 σ H1 _ I1 q) fun ov s2 ⟨x, H2, I2, rx, a, C, dx, fs, ex, ea, c, n, l, q2⟩ => ?_) hs
  subst ex
  obtain rfl : ov = Value.ref a := rx
  exact setattr_ok I2 ea c n l ry fun s3 I3 => ⟨σ, _, I3, q2⟩
theorem ps_fldaug {op : Operator} {rd : V → V → Hp → VK → Prop} (ha : PE X o ta) (hv : PE X value tv) (hop : InOp X op rd) : PS X (.AugAssign (.Attribute o f tpos) op value pos) (sFldAug X.K ta tv rd f) := by
  intro pins s σ H D I h
  refine wpAny_AugAssign_AttributeAny (thn (ha pins s σ H _ I h) fun ov s1 ⟨x, H1, I1, rx, a, C, dx, fs, v, ex, ea, c, n, l, q⟩ => ?_)
  subst ex
  obtain rfl : ov = Value.ref a := rx
  refine getattr_ok I1 ea c n l fun u s2 I2 ru => thn (hv pins s2 σ H1 _ I2 q) fun w3 s3 ⟨y, H2, I3, ry, q3⟩ => thn (hop pins s3 σ H2 v y u w3 _ I3 ru ry q3) fun w4 s4 ⟨z, H3, I4, rz, dx', fs', ea', l', q4⟩ => ?_
  exact setattr_ok I4 ea' c n l' rz fun s5 I5 => ⟨σ, _, I5, q4⟩
def rAdd : V → V → Hp → VK → Prop := fun x y H Q => ∃ i j, x = .int i ∧ y = .int j ∧ Q (.int (i + j)) H
def rSub : V → V → Hp → VK → Prop := fun x y H Q => ∃ i j, x = .int i ∧ y = .int j ∧ Q (.int (i - j)) H
theorem in_add : InOp X .Add rAdd := by
  rintro pins s σ H x y u v Q I rx ry ⟨i, j, rfl, rfl, q⟩
  obtain ⟨t, rfl⟩ := (show ∃ t, u = Value.int i t from rx)
  obtain ⟨t', rfl⟩ := (show ∃ t', v = Value.int j t' from ry)
  exact PyProof.Rows.iadd_int ⟨.int (i + j), H, I.tok _, ⟨_, rfl⟩, q⟩
theorem in_sub : InOp X .Sub rSub := by
  rintro pins s σ H x y u v Q I rx ry ⟨i, j, rfl, rfl, q⟩
  obtain ⟨t, rfl⟩ := (show ∃ t, u = Value.int i t from rx)
  obtain ⟨t', rfl⟩ := (show ∃ t', v = Value.int j t' from ry)
  exact PyProof.Rows.isub_int ⟨.int (i - j), H, I.tok _, ⟨_, rfl⟩, q⟩

/-- what is between an instance and its method: the tree of a method call -/
theorem methcall_of {pl : Sem Bool} {m : Str} {apos : Pos} {args : List Expr} {pins : List (Addr × Obj)} {s : Shared} {σ : St} {H : Hp} {Q : Value → Shared → Prop} {te : TE} (he : PE X e te) (I : Inv X pins σ H s)
    (h : te σ H fun x H1 => ∃ a C dx fs g, x = .ref a ∧ H1 a = some (.ins C dx fs) ∧ Cls X.K C ∧ Meth X.K C m g ∧ fs.lookup m = none ∧
      ∀ s1, Inv X pins σ H1 s1 → wpAny (model X.prog X.w) X.A (callWith pos (.ref g) [.ref a] (backTo pos (starEach args X.env)) (backToKw pos (keywordEach [] X.env))) Q X.xe s1)
    (ht : eval (.Call (.Attribute e m apos) args [] pos) X.env = (do
      let ov ← eval e X.env
      standAt apos.atName
      let (f, first) ← holding [ov] (getMethod ov m pl)
      callWith pos f first (backTo pos (starEach args X.env)) (backToKw pos (keywordEach [] X.env)))) :
    wpAny (model X.prog X.w) X.A (eval (.Call (.Attribute e m apos) args [] pos) X.env) Q X.xe s := by
  refine PySem.W.methodCall_KW (pl := pl) (thn (he pins s σ H _ I h) fun u s1 ⟨x, H1, I1, rx, a, C, dx, fs, g, ex, ea, c, k, l, q⟩ => ?_) ht
  subst ex
  obtain rfl : u = Value.ref a := rx
  exact getmeth_ok I1 ea c k l (q s1 I1)
end

/-! ### isinstance -/
section
variable {X : Cx} {pins : List (Addr × Obj)} {σ : St} {H : Hp} {s : Shared} {A : Around} {E : Value → Shared → Prop} {Q : Value → Shared → Prop} {c : Value} {b : Bool}
/-- the type of a value, as the fragment's deciders take it; for an instance its class -/
inductive TyOf (K : PySem.W.Frag) (H : Hp) : V → Value → Prop where
  | non : TyOf K H .non (.type "NoneType")
  | bl (x : Bool) : TyOf K H (.bl x) (.type "bool")
  | int (i : Int) : TyOf K H (.int i) (.type "int")
  | str (x : Str) : TyOf K H (.str x) (.type "str")
  | flt (x : UInt64) : TyOf K H (.flt x) (.type "float")
  | lst {a : Addr} {xs : List V} (e : H a = some (.lst xs)) : TyOf K H (.ref a) (.type "list")
  | frz {a : Addr} {o : Obj} {xs : List V} (e : H a = some (.frz o (.lst xs))) : TyOf K H (.ref a) (.type "list")
  | tup {a : Addr} {xs : List V} (e : H a = some (.tup xs)) : TyOf K H (.ref a) (.type "tuple")
  | dK {a : Addr} {kvs : List (Key × V)} (e : H a = some (.dK kvs)) : TyOf K H (.ref a) (.type "dict")
  | dT {a : Addr} {kvs : List (List Key × V)} (e : H a = some (.dT kvs)) : TyOf K H (.ref a) (.type "dict")
  | ins {a C dx : Addr} {fs : List (Str × V)} (e : H a = some (.ins C dx fs)) (cl : Cls K C) (ha : PySem.W.findIn K (.ref C) "__class__" = some (some (.builtin "object.__class__")))
      (hn : PySem.W.specialIn K (.builtin "object.__class__") "__get__" = some (some (.builtin "getset_descriptor.__get__"))) (htk : PySem.W.takesIn K (.builtin "object.__class__") = some true)
      (hm : PySem.W.mroIn K C (.type "object") = some true) : TyOf K H (.ref a) (.ref C)
/-- isinstance(x, c) for one class c, a built-in or an own one: kitOne's answer -/
theorem isinst_ok {x : V} {u t : Value} (I : Inv X pins σ H s) (rx : RelV x u) (ty : TyOf X.K H x t) (e : PySem.W.kitOne X.K t c = some b) (h : ∀ tk, Q (.bool b) { s with toks := tk }) :
    wpAny (model X.prog X.w) A (call (.builtin "isinstance") [u, c]) Q E s := by
  cases ty with
  | non => cases (show u = Value.none from rx); exact PySem.W.kia_one PySem.W.kitx_none I.kIn True.intro e (fun z => nomatch z) h
  | bl y => cases (show u = Value.bool y from rx); exact PySem.W.kia_one PySem.W.kitx_bool I.kIn True.intro e (fun z => nomatch z) h
  | int i => obtain ⟨t, q⟩ := (show ∃ t, u = Value.int i t from rx); cases q; exact PySem.W.kia_one PySem.W.kitx_int I.kIn True.intro e (fun z => nomatch z) h
  | str y => obtain ⟨t, q⟩ := (show ∃ t, u = Value.str y t from rx); cases q; exact PySem.W.kia_one PySem.W.kitx_str I.kIn True.intro e (fun z => nomatch z) h
  | flt y => obtain ⟨t, q⟩ := (show ∃ t, u = Value.float y t from rx); cases q; exact PySem.W.kia_one PySem.W.kitx_float I.kIn True.intro e (fun z => nomatch z) h
  | @lst a xs ea =>
    cases (show u = Value.ref a from rx)
    obtain ⟨_, _, n, _, h1⟩ := (show ObjOk X.prog X.w H s.heap a (.lst xs) from I.hok a _ ea)
    exact PySem.W.kia_one PySem.W.kitx_list I.kIn ⟨_, h1, rfl⟩ e (fun z => nomatch z) h
  | @frz a ob xs ea =>
    cases (show u = Value.ref a from rx)
    obtain ⟨_, _, _, n, _, h1⟩ := (show ObjOk X.prog X.w H s.heap a (.frz ob (.lst xs)) from I.hok a _ ea)
    exact PySem.W.kia_one PySem.W.kitx_list I.kIn ⟨_, h1, rfl⟩ e (fun z => nomatch z) h
  | @tup a xs ea =>
    cases (show u = Value.ref a from rx)
    obtain ⟨_, _, _, p⟩ := (show ObjOk X.prog X.w H s.heap a (.tup xs) from I.hok a _ ea)
    obtain ⟨o, h1, h2, _⟩ := p
    exact PySem.W.kia_one PySem.W.kitx_tuple I.kIn ⟨o, h1, h2⟩ e (fun z => nomatch z) h
  | @dK a kvs ea =>
    cases (show u = Value.ref a from rx)
    obtain ⟨_, _, vs, _, p⟩ := (show ObjOk X.prog X.w H s.heap a (.dK kvs) from I.hok a _ ea)
    obtain ⟨o, es, ep, h1, h2, _⟩ := p
    exact PySem.W.kia_one PySem.W.kitx_dict I.kIn ⟨o, h1, h2.1⟩ e (fun z => nomatch z) h
  | @dT a kvs ea =>
    cases (show u = Value.ref a from rx)
    obtain ⟨_, _, xs, _, o, es, ep, h1, h2, _⟩ := (show ObjOk X.prog X.w H s.heap a (.dT kvs) from I.hok a _ ea)
    exact PySem.W.kia_one PySem.W.kitx_dict I.kIn ⟨o, h1, h2.1⟩ e (fun z => nomatch z) h
  | @ins a C dx fs ea cl ha hn htk hm =>
    cases (show u = Value.ref a from rx)
    obtain ⟨mA, O, _⟩ := ins_get I.hok ea
    obtain ⟨od, J, _⟩ := O.look
    exact PySem.W.kia_one (PySem.W.kitx_own (cl.get _) cl.hd ha hn htk hm) I.kIn J e (fun z => nomatch z) h
end
end L2

namespace L2
open PySem PySem.Spec PyProof.Rows

/-! ### room -/
structure Room (k : Nat) (A : Around) : Prop where
  hd : A.handled = none
  dp : A.depth + 3 * k + 5 < recursionLimit
  un : A.units + 16 * k + 200 < cLine
theorem Room.mono {j k : Nat} {A : Around} (r : Room k A) (h : j ≤ k) : Room j A := ⟨r.hd, by have := r.dp; omega, by have := r.un; omega⟩
theorem Room.deeper {k : Nat} {A : Around} (r : Room (k + 1) A) (env : Env) : Room k (A.deeper env) :=
  ⟨r.hd, by have := r.dp; show A.depth + 1 + 3 * k + 5 < _; omega, by have := r.un; show A.units + 3 + 16 * k + 200 < _; omega⟩
theorem Room.in1 {k : Nat} {A : Around} (r : Room (k + 1) A) : Room k A.in1 :=
  ⟨r.hd, by have := r.dp; show A.depth + 3 * k + 5 < _; omega, by have := r.un; show A.units + 1 + 16 * k + 200 < _; omega⟩
theorem make_depth {A : Around} {C : Addr} {us : List Value} {kw : List (Str × Value)} : (A.under (.builtin "type.__call__" ⟨.ref C :: us, kw⟩)).depth = A.depth + 1 := by
  first | rfl | simp [Around.under, Code.weight, Code.isCreation, Code.isGuard, Code.isCaller, Code.frames, Code.isFrame, guardIds]
theorem make_units {A : Around} {C : Addr} {us : List Value} {kw : List (Str × Value)} : (A.under (.builtin "type.__call__" ⟨.ref C :: us, kw⟩)).units = A.units + 1 := by
  first | rfl | simp [Around.under, Code.cUnits, Code.frames, Code.isFrame]
theorem Room.make {k : Nat} {A : Around} (r : Room (k + 1) A) (C : Addr) (us : List Value) (kw : List (Str × Value)) : Room k (A.under (.builtin "type.__call__" ⟨.ref C :: us, kw⟩)) :=
  ⟨r.hd, by have := r.dp; rw [make_depth]; omega, by have := r.un; rw [make_units]; omega⟩
theorem Room.depth {k : Nat} {A : Around} (r : Room k A) : A.depth < recursionLimit := by have := r.dp; omega
theorem Room.units {k : Nat} {A : Around} (r : Room k A) : A.units + 64 < cLine := by have := r.un; omega
theorem Room.units0 {k : Nat} {A : Around} (r : Room k A) : A.units < cLine := by have := r.un; omega

/-! ### argument lists and displays -/
def tNil : TA := fun _ H Q => Q [] H
def tCons (ta : TE) (tr : TA) : TA := fun σ H Q => ta σ H fun x H1 => tr σ H1 fun xs H2 => Q (x :: xs) H2
section
variable {X : Cx} {e : Expr} {es : List Expr} {te : TE} {t : TA} {pos : Pos}
theorem pa_nil : PA X [] tNil := fun _ _ _ _ H Q I h => Calls.spliced_nil ⟨[], H, I, .nil, h⟩
theorem pa_cons (ha : PE X e te) (hr : PA X es t) (hs : starEach (e :: es) X.env = (false, eval e X.env) :: starEach es X.env := by rfl) : PA X (e :: es) (tCons te t) := by
  intro pos pins s σ H Q I h
  rw [hs]
  show wpAny _ _ (spliced ((false, eval e X.env) :: backTo pos (starEach es X.env))) _ _ s
  refine Calls.spliced_cons (thn (ha pins s σ H _ I h) fun u s1 ⟨x, H1, I1, r1, q1⟩ => ?_)
  exact thn (hr pos pins s1 σ H1 _ I1 q1) fun us s2 ⟨xs, H2, I2, r2, q2⟩ => ⟨x :: xs, H2, I2, .cons r1 r2, q2⟩

/-- a tuple, a list of written items -/
def tTup (t : TA) : TE := fun σ H Q => t σ H fun xs H1 => xs.length ≤ sizeLine ∧ ∀ p, H1 p = none → Q (.ref p) (upd H1 p (.tup xs))
def tLst (t : TA) : TE := fun σ H Q => t σ H fun xs H1 => xs.length ≤ sizeLine ∧ ∀ p, H1 p = none → Q (.ref p) (upd H1 p (.lst xs))
theorem pe_tup {x1} (h : PA X es t) : PE X (.Tuple es x1 pos) (tTup t) := by
  intro pins s σ H Q I hq
  refine wpAny_Tuple_spliced (thn (h pos pins s σ H _ I hq) fun us s1 ⟨xs, H1, I1, r, z, q⟩ => ⟨by rw [← r.length]; exact z, ?_⟩)
  have hf : H1 s1.heap.objs.size = none := I1.hok.fresh (Nat.le_refl _)
  refine ⟨.ref s1.heap.objs.size, upd H1 s1.heap.objs.size (.tup xs), I1.laid (t' := s1.toks) (fun b u e => Heap.get?_push_of_some _ e) (Nat.le_refl _) ?_, rfl, q _ hf⟩
  exact ⟨z, us, r, ⟨_, Heap.get?_push_size _ rfl, rfl, _, rfl⟩⟩
theorem pe_lst (h : PA X es t) : PE X (.List es pos) (tLst t) := by
  intro pins s σ H Q I hq
  refine wpAny_List_spliced (thn (h pos pins s σ H _ I hq) fun us s1 ⟨xs, H1, I1, r, z, q⟩ => ⟨by rw [← r.length]; exact z, ?_⟩)
  have hf : H1 s1.heap.objs.size = none := I1.hok.fresh (Nat.le_refl _)
  refine ⟨.ref s1.heap.objs.size, upd H1 s1.heap.objs.size (.lst xs), I1.laid (t' := s1.toks) (fun b u e => Heap.get?_push_of_some _ e) (Nat.le_refl _) ?_, rfl, q _ hf⟩
  exact ⟨z, us, 0, r, Heap.get?_push_size _ rfl⟩
end

/-! ### what a def promises -/
/-- a def's promise: the bound arguments in the parameters' order, the heap, the wanted end, the wanted exception -/
abbrev Sp := List V → Hp → VK → XK → Prop
/-- how an exception lies behind a call (file 08 gives it): the callers' frames, abstract heap and state ahead of the call, the wish, the exception, the state -/
abbrev CXT := List Env → Hp → Shared → XK → Value → Shared → Prop

/-- the state at a call -/
structure Env0 (P : Program) (w : World) (K : PySem.W.Frag) (mg : Str → Option Value) (base : Heap) (A : Around) (outer : List Env) (s : Shared) (H : Hp) : Prop where
  frames : A.frames = some outer
  mod : Mod K mg base
  bs : ∀ b o, base.get? b = some o → s.heap.get? b = some o ∧ H b = none
  bsz : base.objs.size ≤ s.heap.objs.size
  funs : s.heap.FunFrames base outer
  frf : ∀ b ∈ frs outer, H b = none
  hok : HOk P w H s.heap
  bare : AllBare s.gens
/-- a call's end -/
def CE (outer : List Env) (P : Program) (w : World) (H : Hp) (s : Shared) (Q : VK) (u : Value) (s' : Shared) : Prop :=
  ∃ v H', s'.os = s.os ∧ AllBare s'.gens ∧ Un (frs outer) [] H H' s.heap s'.heap ∧ HOk P w H' s'.heap ∧ RelV v u ∧ Q v H'
def CR (CX : CXT) (outer : List Env) (P : Program) (w : World) (H : Hp) (s : Shared) (Q : VK) (E : XK) (r : Result) (s' : Shared) : Prop :=
  match r with
  | .ok (.ret u) => CE outer P w H s Q u s'
  | .ok _ => False
  | .error e => CX outer H s E e s'
structure FnOk (P : Program) (w : World) (K : PySem.W.Frag) (mg : Str → Option Value) (base : Heap) (CX : CXT) (k : Nat) (f : Addr) (fd : FuncData) (ps : List Str) (sp : Sp) : Prop where
  len : ∀ vs H Q E, sp vs H Q E → vs.length = ps.length
  run : ∀ (A : Around) (outer : List Env) (s : Shared) (H : Hp) (args : Args) (us : List Value) (vs : List V) (Q : VK) (E : XK), Room k A → Env0 P w K mg base A outer s H → BindsTo s fd args (ps.zip us) → Vals vs us → sp vs H Q E →
    codeAny (model P w) A (.call (.ref f) args) (CR CX outer P w H s Q E) s
theorem FnOk.mono {P : Program} {w : World} {K : PySem.W.Frag} {mg : Str → Option Value} {base : Heap} {CX : CXT} {j k : Nat} {f : Addr} {fd : FuncData} {ps : List Str} {sp : Sp} (F : FnOk P w K mg base CX j f fd ps sp) (h : j ≤ k) :
    FnOk P w K mg base CX k f fd ps sp := ⟨F.len, fun A outer s H args us vs Q E hr => F.run A outer s H args us vs Q E (hr.mono h)⟩
/-- a weaker promise -/
theorem FnOk.imp {P : Program} {w : World} {K : PySem.W.Frag} {mg : Str → Option Value} {base : Heap} {CX : CXT} {k : Nat} {f : Addr} {fd : FuncData} {ps : List Str} {sp sp' : Sp} (F : FnOk P w K mg base CX k f fd ps sp)
    (h : ∀ vs H Q E, sp' vs H Q E → sp vs H Q E) : FnOk P w K mg base CX k f fd ps sp' :=
  ⟨fun vs H Q E q => F.len vs H Q E (h _ _ _ _ q), fun A outer s H args us vs Q E hr he hb hv hs => F.run A outer s H args us vs Q E hr he hb hv (h _ _ _ _ hs)⟩

theorem Env0.make {P : Program} {w : World} {K : PySem.W.Frag} {mg : Str → Option Value} {base : Heap} {A : Around} {outer : List Env} {s : Shared} {H : Hp} (e : Env0 P w K mg base A outer s H) (C : Addr) (us : List Value) (kw : List (Str × Value)) :
    Env0 P w K mg base (A.under (.builtin "type.__call__" ⟨.ref C :: us, kw⟩)) outer s H := ⟨by first | exact e.frames | (simpa [Around.under, Code.envs, Code.isFrame, pushEnvs] using e.frames), e.mod, e.bs, e.bsz, e.funs, e.frf, e.hok, e.bare⟩
theorem Env0.in1 {P : Program} {w : World} {K : PySem.W.Frag} {mg : Str → Option Value} {base : Heap} {A : Around} {outer : List Env} {s : Shared} {H : Hp} (e : Env0 P w K mg base A outer s H) :
    Env0 P w K mg base A.in1 outer s H := ⟨e.frames, e.mod, e.bs, e.bsz, e.funs, e.frf, e.hok, e.bare⟩

section
variable {X : Cx} {pins : List (Addr × Obj)} {σ : St} {H : Hp} {s s' : Shared}
/-- from a body: what a callee wants -/
theorem Inv.env0 (I : Inv X pins σ H s) : Env0 X.prog X.w X.K X.mg X.base X.A X.stack s H :=
  ⟨I.ok.frames, I.ok.mod, I.bs, Nat.le_trans I.ok.bsz I.sz, I.stack, I.stkFree, I.hok, I.bare⟩
/-- behind a call -/
theorem Inv.after {Q : VK} {u : Value} (I : Inv X pins σ H s) (h : CE X.stack X.prog X.w H s Q u s') : EP X pins σ Q u s' := by
  obtain ⟨v, H', os, bare, un, hok, r, q⟩ := h
  obtain ⟨hh, g, d, t, os'⟩ := s'
  obtain rfl : os' = s.os := os
  exact ⟨v, H', I.call (h' := hh) (g' := g) (d' := d) (t' := t) (ch := []) un hok bare (fun b z => absurd z (by simp)), r, q⟩
end

/-! ### calls -/
/-- f(..): the written arguments, then the defaults dvs; E: what is wanted of an exception -/
def tCall (sp : Sp) (dvs : List V) (E : XK) (t : TA) : TE := fun σ H Q => t σ H fun vs H1 => sp (vs ++ dvs) H1 Q E
/-- o.m(..) of an instance of the class at C -/
def tMeth (C : Addr) (m : Str) (sp : Sp) (dvs : List V) (E : XK) (ta : TE) (t : TA) : TE := fun σ H Q => ta σ H fun x H1 => ∃ a dx fs, x = .ref a ∧ H1 a = some (.ins C dx fs) ∧ fs.lookup m = none ∧
  t σ H1 fun vs H2 => sp (x :: (vs ++ dvs)) H2 Q E
/-- C(..): a new instance and its dict, then __init__ -/
def tMake (C : Addr) (sp : Sp) (dvs : List V) (E : XK) (t : TA) : TE := fun σ H Q => t σ H fun vs H1 => ∀ x dx, H1 x = none → H1 dx = none → dx ≠ x →
  sp (.ref x :: (vs ++ dvs)) (upd (upd H1 dx (.own x)) x (.ins C dx [])) (fun v H2 => v = .non ∧ Q (.ref x) H2) E

/-- how the parameters are bound: us the positional arguments, kw the keywords' values by name, ds the defaults that fill up -/
def Binds (K : PySem.W.Frag) (fd : FuncData) (ps : List Str) (ds : List Value) : Prop :=
  ∀ (s : Shared) (us : List Value), K.In s.heap → (us ++ ds).length = ps.length → BindsTo s fd ⟨us, []⟩ (ps.zip (us ++ ds))
/-- every parameter is given -/
theorem Binds.all {K : PySem.W.Frag} {fd : FuncData} {ps : List Str} (h : ∀ us : List Value, us.length = ps.length → bindArgs fd ⟨us, []⟩ = pure (ps.zip us)) : Binds K fd ps [] := fun s us _ hl => by
  rw [List.append_nil] at hl ⊢
  exact .of_eq (h us hl)

/-- an exception of a callee reaches what this body wants of exceptions -/
def Passes (CX : CXT) (X : Cx) (E : XK) : Prop := ∀ (pins : List (Addr × Obj)) (σ : St) (H : Hp) (s : Shared) (e : Value) (s' : Shared), Inv X pins σ H s → CX X.stack H s E e s' → X.xe e s'

section
variable {X : Cx} {CX : CXT} {k : Nat} {f C : Addr} {fd : FuncData} {ps : List Str} {sp : Sp} {dvs : List V} {ds : List Value} {E : XK} {x m : Str} {p pos apos : Pos} {e o : Expr} {es : List Expr} {ta : TE} {t : TA}

/-- the callee runs -/
theorem run_fn {pins : List (Addr × Obj)} {σ : St} {H : Hp} {s : Shared} {Q : VK} {us : List Value} {vs : List V} (F : FnOk X.prog X.w X.K X.mg X.base CX k f fd ps sp) (hr : Room k X.A) (hb : Binds X.K fd ps ds) (hd : Vals dvs ds) (hx : Passes CX X E)
    (I : Inv X pins σ H s) (r : Vals vs us) (h : sp (vs ++ dvs) H Q E) : wpAny (model X.prog X.w) X.A (call (.ref f) us) (EP X pins σ Q) X.xe s := by
  have r2 : Vals (vs ++ dvs) (us ++ ds) := r.append hd
  have hl : (us ++ ds).length = ps.length := by rw [← r2.length]; exact F.len _ _ _ _ h
  refine wpAny_call (codeAny_mono (F.run X.A X.stack s H ⟨us, []⟩ (us ++ ds) (vs ++ dvs) Q E hr I.env0 (hb s us I.kIn hl) r2 h) fun r s' hq => ?_)
  cases r with
  | error e => exact hx pins σ H s e s' I hq
  | ok fl =>
    cases fl with
    | ret u => exact I.after hq
    | next => exact False.elim hq
    | brk => exact False.elim hq
    | cont => exact False.elim hq

theorem pe_call (F : FnOk X.prog X.w X.K X.mg X.base CX k f fd ps sp) (hr : Room k X.A) (hg : Gl X x) (hm : X.mg x = some (.ref f)) (hk : PySem.W.keepIn X.K (.ref f) = true) (hb : Binds X.K fd ps ds) (hd : Vals dvs ds) (hx : Passes CX X E)
    (ha : PA X (e :: es) t) (hdb : (x == ("__debug__" : Str)) = false := by decide) (he : starEach (e :: es) X.env = (false, eval e X.env) :: starEach es X.env := by rfl) (hpl : (backTo pos (starEach es X.env)).any (·.1) = false := by rfl) :
    PE X (.Call (.Name x p) (e :: es) [] pos) (tCall sp dvs E t) := by
  intro pins s σ H Q I h
  refine wpAny_Call_Name_kw (ld_glob I hg hm ?_ hdb)
  refine PySem.W.callWith_K (h₀ := X.base) I.ok.mod.kin hk (thn (ha pos pins s σ H _ I h) fun us s1 ⟨vs, H1, I1, r, q⟩ => ⟨I1.kIn, ?_⟩) he hpl
  exact run_fn F hr hb hd hx I1 r q
theorem pe_call0 (F : FnOk X.prog X.w X.K X.mg X.base CX k f fd ps sp) (hr : Room k X.A) (hg : Gl X x) (hm : X.mg x = some (.ref f)) (hk : PySem.W.keepIn X.K (.ref f) = true) (hb : Binds X.K fd ps ds) (hd : Vals dvs ds) (hx : Passes CX X E)
    (hdb : (x == ("__debug__" : Str)) = false := by decide) : PE X (.Call (.Name x p) [] [] pos) (tCall sp dvs E tNil) := by
  intro pins s σ H Q I h
  refine wpAny_Call_Name_kw (ld_glob I hg hm ?_ hdb)
  exact PySem.W.callWith_K0 I.kIn hk (run_fn (us := []) F hr hb hd hx I .nil h)

/-- o.m(e, ..) -/
theorem pe_meth {pl : Sem Bool} (he : PE X o ta) (c : Cls X.K C) (hm : Meth X.K C m f) (F : FnOk X.prog X.w X.K X.mg X.base CX k f fd ps sp) (hr : Room k X.A) (hb : Binds X.K fd ps ds) (hd : Vals dvs ds) (hx : Passes CX X E) (ha : PA X (e :: es) t)
    (hst : starEach (e :: es) X.env = (false, eval e X.env) :: starEach es X.env := by rfl) (hpl : (backTo pos (starEach es X.env)).any (·.1) = false := by rfl)
    (ht : eval (.Call (.Attribute o m apos) (e :: es) [] pos) X.env = (do
      let ov ← eval o X.env
      standAt apos.atName
      let (f, first) ← holding [ov] (getMethod ov m pl)
      callWith pos f first (backTo pos (starEach (e :: es) X.env)) (backToKw pos (keywordEach [] X.env))) := by rfl) :
    PE X (.Call (.Attribute o m apos) (e :: es) [] pos) (tMeth C m sp dvs E ta t) := by
  intro pins s σ H Q I h
  refine PySem.W.methodCall_KW (pl := pl) (thn (he pins s σ H _ I h) fun u s1 ⟨x, H1, I1, rx, a, dx, fs, ex, ea, l, q⟩ => ?_) ht
  subst ex
  obtain rfl : u = Value.ref a := rx
  refine getmeth_ok I1 ea c hm l ?_
  refine PySem.W.callWith_K (first := [.ref a]) (h₀ := X.base) I.ok.mod.kin hm.kp (thn (ha pos pins s1 σ H1 _ I1 q) fun us s2 ⟨vs, H2, I2, r, q2⟩ => ⟨I2.kIn, ?_⟩) hst hpl
  exact run_fn (us := .ref a :: us) (vs := .ref a :: vs) F hr hb hd hx I2 (.cons rfl r) q2
/-- o.m() -/
theorem pe_meth0 {pl : Sem Bool} (he : PE X o ta) (c : Cls X.K C) (hm : Meth X.K C m f) (F : FnOk X.prog X.w X.K X.mg X.base CX k f fd ps sp) (hr : Room k X.A) (hb : Binds X.K fd ps ds) (hd : Vals dvs ds) (hx : Passes CX X E)
    (ht : eval (.Call (.Attribute o m apos) [] [] pos) X.env = (do
      let ov ← eval o X.env
      standAt apos.atName
      let (f, first) ← holding [ov] (getMethod ov m pl)
      callWith pos f first (backTo pos (starEach [] X.env)) (backToKw pos (keywordEach [] X.env))) := by rfl) :
    PE X (.Call (.Attribute o m apos) [] [] pos) (tMeth C m sp dvs E ta tNil) := by
  intro pins s σ H Q I h
  refine PySem.W.methodCall_KW (pl := pl) (thn (he pins s σ H _ I h) fun u s1 ⟨x, H1, I1, rx, a, dx, fs, ex, ea, l, q⟩ => ?_) ht
  subst ex
  obtain rfl : u = Value.ref a := rx
  refine getmeth_ok I1 ea c hm l ?_
  exact PySem.W.callWith_K0 (first := [.ref a]) I1.kIn hm.kp (run_fn (us := [.ref a]) (vs := [.ref a]) F hr hb hd hx I1 (.cons rfl .nil) q)

/-- what a class must have to be made -/
structure Mk (K : PySem.W.Frag) (C f : Addr) : Prop where
  makes : PySem.W.makesIn K C = true
  init : PySem.W.findIn K (.ref C) "__init__" = some (some (.ref f))
  fn : PySem.W.isFn K (.ref f) = true
  kp : PySem.W.keepIn K (.ref C) = true

theorem run_make {pins : List (Addr × Obj)} {σ : St} {H : Hp} {s : Shared} {Q : VK} {us : List Value} {vs : List V} (M : Mk X.K C f) (F : FnOk X.prog X.w X.K X.mg X.base CX k f fd ps sp) (hr : Room (k + 1) X.A) (hb : Binds X.K fd ps ds) (hd : Vals dvs ds)
    (hx : Passes CX X E) (I : Inv X pins σ H s) (r : Vals vs us)
    (h : ∀ x dx, H x = none → H dx = none → dx ≠ x → sp (.ref x :: (vs ++ dvs)) (upd (upd H dx (.own x)) x (.ins C dx [])) (fun v H2 => v = .non ∧ Q (.ref x) H2) E) :
    wpAny (model X.prog X.w) X.A (call (.ref C) us) (EP X pins σ Q) X.xe s := by
  have hq := h (s.heap.objs.size + 1) s.heap.objs.size (I.hok.fresh (Nat.le_succ _)) (I.hok.fresh (Nat.le_refl _)) (Nat.ne_of_lt (Nat.lt_succ_self _))
  have I2 := Inv.made (C := C) I
  have r2 : Vals (V.ref (s.heap.objs.size + 1) :: (vs ++ dvs)) (Value.ref (s.heap.objs.size + 1) :: (us ++ ds)) := .cons rfl (r.append hd)
  have hl : (Value.ref (s.heap.objs.size + 1) :: us ++ ds).length = ps.length := by
    have e := r2.length
    rw [F.len _ _ _ _ hq] at e
    exact e.symm
  refine wpAny_call (make_map (f := f) I.kIn M.makes M.init (beq_iff_eq.mp M.fn) (codeAny_mono (F.run _ X.stack _ _ ⟨Value.ref (s.heap.objs.size + 1) :: us, []⟩ (Value.ref (s.heap.objs.size + 1) :: (us ++ ds)) _ _ E (hr.make C us [])
    (I2.env0.make C us []) (hb _ (Value.ref (s.heap.objs.size + 1) :: us) I2.kIn hl) r2 hq) fun r s' hq' => ?_))
  cases r with
  | error e => exact hx pins σ _ _ e s' I2 hq'
  | ok fl =>
    cases fl with
    | ret u =>
      obtain ⟨v, H', I3, rv, ev, q3⟩ := I2.after hq'
      subst ev
      exact ⟨rv, ⟨V.ref (s.heap.objs.size + 1), H', I3, rfl, q3⟩⟩
    | next => exact False.elim hq'
    | brk => exact False.elim hq'
    | cont => exact False.elim hq'
theorem pe_make (M : Mk X.K C f) (F : FnOk X.prog X.w X.K X.mg X.base CX k f fd ps sp) (hr : Room (k + 1) X.A) (hg : Gl X x) (hm : X.mg x = some (.ref C)) (hb : Binds X.K fd ps ds) (hd : Vals dvs ds) (hx : Passes CX X E)
    (ha : PA X (e :: es) t) (hdb : (x == ("__debug__" : Str)) = false := by decide) (he : starEach (e :: es) X.env = (false, eval e X.env) :: starEach es X.env := by rfl) (hpl : (backTo pos (starEach es X.env)).any (·.1) = false := by rfl) :
    PE X (.Call (.Name x p) (e :: es) [] pos) (tMake C sp dvs E t) := by
  intro pins s σ H Q I h
  refine wpAny_Call_Name_kw (ld_glob I hg hm ?_ hdb)
  refine PySem.W.callWith_K (h₀ := X.base) I.ok.mod.kin M.kp (thn (ha pos pins s σ H _ I h) fun us s1 ⟨vs, H1, I1, r, q⟩ => ⟨I1.kIn, ?_⟩) he hpl
  exact run_make M F hr hb hd hx I1 r q
theorem pe_make0 (M : Mk X.K C f) (F : FnOk X.prog X.w X.K X.mg X.base CX k f fd ps sp) (hr : Room (k + 1) X.A) (hg : Gl X x) (hm : X.mg x = some (.ref C)) (hb : Binds X.K fd ps ds) (hd : Vals dvs ds) (hx : Passes CX X E)
    (hdb : (x == ("__debug__" : Str)) = false := by decide) : PE X (.Call (.Name x p) [] [] pos) (tMake C sp dvs E tNil) := by
  intro pins s σ H Q I h
  refine wpAny_Call_Name_kw (ld_glob I hg hm ?_ hdb)
  exact PySem.W.callWith_K0 I.kIn M.kp (run_make (us := []) M F hr hb hd hx I .nil h)
end

/-! ### keywords -/
/-- the values of the keywords, from the left -/
def PK (X : Cx) (kws : List Keyword) (t : TA) : Prop :=
  ∀ (pos : Pos) (pins : List (Addr × Obj)) (s : Shared) (σ : St) (H : Hp) (Q : List V → Hp → Prop), Inv X pins σ H s → t σ H Q → wpAny (model X.prog X.w) X.A (evalAll ((backToKw pos (keywordEach kws X.env)).map (·.2))) (AP X pins σ Q) X.xe s
section
variable {X : Cx} {CX : CXT} {k : Nat} {f C : Addr} {fd : FuncData} {ps ks : List Str} {sp : Sp} {E : XK} {x m : Str} {p pos apos kpos : Pos} {e o : Expr} {es : List Expr} {kws : List Keyword} {te ta : TE} {t tk : TA} {nm : Option Str}
theorem pk_nil : PK X [] tNil := fun _ _ _ _ H Q I h => wpAny_evalAll_nil ⟨[], H, I, .nil, h⟩
theorem pk_cons (ha : PE X e te) (hr : PK X kws t) : PK X (⟨nm, e, kpos⟩ :: kws) (tCons te t) := by
  intro pos pins s σ H Q I h
  show wpAny _ _ (evalAll ((do let v ← eval e X.env; standAt pos; pure v) :: (backToKw pos (keywordEach kws X.env)).map (·.2))) _ _ s
  refine wpAny_evalAll_cons (wpAny_bind (thn (ha pins s σ H _ I h) fun u s1 ⟨x, H1, I1, r1, q1⟩ => wpAny_bind (wpAny_standAt (wpAny_pure ?_))))
  exact thn (hr pos pins s1 σ H1 _ I1 q1) fun us s2 ⟨xs, H2, I2, r2, q2⟩ => ⟨x :: xs, H2, I2, .cons r1 r2, q2⟩

/-- how a call with keywords binds: g puts the positional values us and the keywords' values ws (names ks) in the parameters' order, defaults among them -/
structure KBinds (K : PySem.W.Frag) (fd : FuncData) (ps ks : List Str) (g : List Value → List Value → List Value) (gV : List V → List V → List V) : Prop where
  to : ∀ (s : Shared) (us ws : List Value), K.In s.heap → (g us ws).length = ps.length → BindsTo s fd ⟨us, ks.zip ws⟩ (ps.zip (g us ws))
  rel : ∀ {vs : List V} {us : List Value} {zs : List V} {ws : List Value}, Vals vs us → Vals zs ws → Vals (gV vs zs) (g us ws)
def tCallK (sp : Sp) (gV : List V → List V → List V) (E : XK) (t tk : TA) : TE := fun σ H Q => t σ H fun vs H1 => tk σ H1 fun zs H2 => sp (gV vs zs) H2 Q E
variable {g : List Value → List Value → List Value} {gV : List V → List V → List V}
theorem run_fnk {pins : List (Addr × Obj)} {σ : St} {H : Hp} {s : Shared} {Q : VK} {us ws : List Value} {vs zs : List V} (F : FnOk X.prog X.w X.K X.mg X.base CX k f fd ps sp) (hr : Room k X.A) (hb : KBinds X.K fd ps ks g gV) (hx : Passes CX X E)
    (I : Inv X pins σ H s) (r : Vals vs us) (rz : Vals zs ws) (h : sp (gV vs zs) H Q E) : wpAny (model X.prog X.w) X.A (call (.ref f) us (ks.zip ws)) (EP X pins σ Q) X.xe s := by
  have r2 := hb.rel r rz
  have hl : (g us ws).length = ps.length := by rw [← r2.length]; exact F.len _ _ _ _ h
  refine wpAny_call (codeAny_mono (F.run X.A X.stack s H ⟨us, ks.zip ws⟩ (g us ws) (gV vs zs) Q E hr I.env0 (hb.to s us ws I.kIn hl) r2 h) fun r s' hq => ?_)
  cases r with
  | error e => exact hx pins σ H s e s' I hq
  | ok fl =>
    cases fl with
    | ret u => exact I.after hq
    | next => exact False.elim hq
    | brk => exact False.elim hq
    | cont => exact False.elim hq
/-- f(e, .., k = v, ..) -/
theorem pe_callK (F : FnOk X.prog X.w X.K X.mg X.base CX k f fd ps sp) (hr : Room k X.A) (hg : Gl X x) (hm : X.mg x = some (.ref f)) (hk : PySem.W.keepIn X.K (.ref f) = true) (hb : KBinds X.K fd ps ks g gV) (hx : Passes CX X E)
    (ha : PA X (e :: es) t) (hkw : PK X kws tk) (hall : (backToKw pos (keywordEach kws X.env)).all (·.1.isSome) = true := by rfl) (hks : (backToKw pos (keywordEach kws X.env)).filterMap (·.1) = ks := by rfl)
    (hdb : (x == ("__debug__" : Str)) = false := by decide) (he : starEach (e :: es) X.env = (false, eval e X.env) :: starEach es X.env := by rfl)
    (hpl : ((backTo pos (starEach (e :: es) X.env)).any (·.1) || (backToKw pos (keywordEach kws X.env)).any (·.1.isNone)) = false := by rfl) :
    PE X (.Call (.Name x p) (e :: es) kws pos) (tCallK sp gV E t tk) := by
  intro pins s σ H Q I h
  refine wpAny_Call_Name_kw (ld_glob I hg hm ?_ hdb)
  refine PySem.W.callWith_KW (h₀ := X.base) I.ok.mod.kin hk hall (thn (ha pos pins s σ H _ I h) fun us s1 ⟨vs, H1, I1, r, q⟩ => ?_) hpl he
  refine thn (hkw pos pins s1 σ H1 _ I1 q) fun ws s2 ⟨zs, H2, I2, rz, q2⟩ => ⟨I2.kIn, ?_⟩
  rw [hks]
  exact run_fnk F hr hb hx I2 r rz q2
end

/-! ### a def's body keeps its promise -/
/-- names: the parameters first -/
structure FnScope (N P : List Str) (sc : Scope) : Prop where
  kind : sc.kind = .function
  co : sc.isCoroutine = false
  gen : sc.isGenerator = false
  nd : N.Nodup
  pre : N.take P.length = P
  par : ∀ x ∈ P, sc.names.lookup x = some .local ∨ sc.names.lookup x = some .cell
  nofree : ∀ y ∈ sc.names, y.2 ≠ .free

theorem bindL_out {kindOf : Str → Option NameKind} {x : Str} : ∀ {binds : List (Str × Value)} {m : Str → Option Value}, (∀ v, (x, v) ∉ binds) → bindL kindOf binds m x = m x
  | [], _, _ => rfl
  | (n, v) :: r, m, h => by
    unfold bindL
    rw [bindL_out fun w hw => h w (List.mem_cons_of_mem _ hw)]
    split
    · have : x ≠ n := by rintro rfl; exact h v List.mem_cons_self
      simp [this]
    · rfl
theorem bindC_out {kindOf : Str → Option NameKind} {x : Str} : ∀ {binds : List (Str × Value)} {m : Str → Option Value}, (∀ v, (x, v) ∉ binds) → bindC kindOf binds m x = m x
  | [], _, _ => rfl
  | (n, v) :: r, m, h => by
    unfold bindC
    rw [bindC_out fun w hw => h w (List.mem_cons_of_mem _ hw)]
    split
    · rfl
    · have : x ≠ n := by rintro rfl; exact h v List.mem_cons_self
      simp [this]
theorem bindL_get {kindOf : Str → Option NameKind} {x : Str} {v : Value} : ∀ {P : List Str} {vs : List Value} {i : Nat} {m : Str → Option Value}, P.Nodup → P[i]? = some x → vs[i]? = some v → kindOf x = some .local →
    bindL kindOf (P.zip vs) m x = some v
  | [], _, _, _, _, h, _, _ => by simp at h
  | _ :: _, [], _, _, _, _, h, _ => by simp at h
  | p :: P, w :: vs, 0, m, nd, h1, h2, hk => by
    simp at h1 h2; subst h1; subst h2
    show bindL kindOf ((p, w) :: P.zip vs) m p = _
    unfold bindL
    rw [bindL_out fun v hv => (List.nodup_cons.mp nd).1 (List.of_mem_zip hv).1, if_pos hk]
    simp
  | p :: P, w :: vs, i + 1, m, nd, h1, h2, hk => by
    show bindL kindOf ((p, w) :: P.zip vs) m x = _
    unfold bindL
    exact bindL_get (i := i) (List.nodup_cons.mp nd).2 (by simpa using h1) (by simpa using h2) hk
theorem bindC_get {kindOf : Str → Option NameKind} {x : Str} {v : Value} : ∀ {P : List Str} {vs : List Value} {i : Nat} {m : Str → Option Value}, P.Nodup → P[i]? = some x → vs[i]? = some v → kindOf x ≠ some .local →
    bindC kindOf (P.zip vs) m x = some v
  | [], _, _, _, _, h, _, _ => by simp at h
  | _ :: _, [], _, _, _, _, h, _ => by simp at h
  | p :: P, w :: vs, 0, m, nd, h1, h2, hk => by
    simp at h1 h2; subst h1; subst h2
    show bindC kindOf ((p, w) :: P.zip vs) m p = _
    unfold bindC
    rw [bindC_out fun v hv => (List.nodup_cons.mp nd).1 (List.of_mem_zip hv).1, if_neg hk]
    simp
  | p :: P, w :: vs, i + 1, m, nd, h1, h2, hk => by
    show bindC kindOf ((p, w) :: P.zip vs) m x = _
    unfold bindC
    exact bindC_get (i := i) (List.nodup_cons.mp nd).2 (by simpa using h1) (by simpa using h2) hk

/-- the names' values at the entry -/
def start (N : List Str) (vs : List V) : St := vs.map some ++ List.replicate (N.length - vs.length) none

/-- the context of a def's body, at its entry; an exception leaves the frame, then lies as CX says -/
def cxOf (CX : CXT) (P : Program) (w : World) (K : PySem.W.Frag) (mg : Str → Option Value) (base : Heap) (N : List Str) (qual : Str) (scope : Scope) (f : Addr) (cd : Value) (A : Around) (outer : List Env) (s : Shared) (H : Hp) (E : XK) : Cx where
  prog := P
  w := w
  K := K
  mg := mg
  base := base
  A := A.deeper (envOfC qual scope s.heap.objs.size f cd)
  N := N
  s₀ := s
  H₀ := H
  env := envOfC qual scope s.heap.objs.size f cd
  outer := outer
  stack := envOfC qual scope s.heap.objs.size f cd :: outer
  ex := []
  calm := true
  fn := fun _ => true
  pn := []
  xe := fun e s' => wpAny (model P w) (A.deeper (envOfC qual scope s.heap.objs.size f cd)) (leaving (envOfC qual scope s.heap.objs.size f cd) e) (fun _ s'' => CX outer H s E e s'') (fun e' s'' => CX outer H s E e' s'') s'

theorem cell_has {sc : Scope} {n : Nat} {x : Str} (h : sc.names.lookup x = some .cell) : ∃ c, (cellsFrom n sc.names []).lookup x = some c := by
  have q := PySem.W.cellsFrom_some sc.names n [] (.inl h)
  exact Option.isSome_iff_exists.mp q

theorem inv_start {CX : CXT} {P : Program} {w : World} {K : PySem.W.Frag} {mg : Str → Option Value} {base : Heap} {N ps : List Str} {qual : Str} {scope : Scope} {f : Addr} {cd : Value} {A : Around} {outer : List Env} {s s1 : Shared} {H : Hp} {E : XK} {us : List Value} {vs : List V}
    (S : FnScope N ps scope) (hd : A.handled = none) (e0 : Env0 P w K mg base A outer s H) (hl : vs.length = ps.length) (r : Vals vs us)
    (x : InCallC s s.heap.objs.size (bindL (envOfC qual scope s.heap.objs.size f cd).kindOf (ps.zip us) fun _ => none) (cellsFrom (s.heap.objs.size + 1) scope.names []) (bindC (envOfC qual scope s.heap.objs.size f cd).kindOf (ps.zip us) fun _ => none) s1) :
    Inv (cxOf CX P w K mg base N qual scope f cd A outer s H E) [] (start N vs) H s1 := by
  have hpl : ps.length ≤ N.length := by have := congrArg List.length S.pre; rw [List.length_take] at this; omega
  obtain ⟨h1, tk, rfl, hk⟩ := x.done
  have noA : ∀ b : Addr, b ∉ (cxOf CX P w K mg base N qual scope f cd A outer s H E).ex := fun b z => absurd (show b ∈ ([] : List Addr) from z) (by simp)
  refine ⟨⟨e0.mod, S.kind, rfl, rfl, Nat.le_refl _, fun y z c h1 h2 => ?_, fun y hy => ?_, fun y c _ h => ?_, fun _ => hd, Around.frames_deeper e0.frames, .inr ⟨rfl, rfl⟩, fun b z => absurd z (noA b), e0.bs, e0.bsz, fun b _ _ => noA b, fun b z => absurd z (noA b), e0.funs, e0.frf⟩,
    rfl, e0.bare, Un.kept hk, ⟨_, x.toInCall.ns, fun i y v h1 h2 h3 => ?_⟩, fun y c h => ⟨_, x.cell y c h⟩, e0.hok.fresh (Nat.le_refl _), fun y c h => ?_, fun p hp => absurd (show p ∈ ([] : List (Addr × Obj)) from hp) (by simp), e0.hok.kept hk, ?_⟩
  · exact name_of_addr x.apart (PySem.mem_of_lookup h1) (PySem.mem_of_lookup h2)
  · have hy : scope.names.lookup y = some .cell ∨ scope.names.lookup y = some .free := hy
    rcases hy with hy | hy
    · exact cell_has hy
    · exact absurd rfl (S.nofree _ (PySem.mem_of_lookup hy))
  · exact Nat.le_of_lt (x.above y c (PySem.mem_of_lookup h))
  · have hi : i < vs.length := by
      unfold start at h2
      by_cases hi : i < vs.length
      · exact hi
      · rw [List.getElem?_append_right (by simpa using hi)] at h2
        rw [List.getElem?_replicate] at h2
        split at h2 <;> cases h2
    have ha : vs[i]? = some v := by
      unfold start at h2
      rw [List.getElem?_append_left (by simpa using hi), List.getElem?_map] at h2
      cases e : vs[i]? with
      | none => rw [e] at h2; cases h2
      | some a => rw [e] at h2; cases h2; rfl
    obtain ⟨u, hu, rv⟩ := r.get ha
    have hp : ps[i]? = some y := by
      rw [← S.pre, List.getElem?_take_of_lt (by omega)]; exact h1
    have ndP : ps.Nodup := by rw [← S.pre]; exact S.nd.sublist (List.take_sublist _ _)
    refine ⟨u, rv, ?_⟩
    rcases S.par y (List.mem_of_getElem? hp) with k | k
    · exact .inl ⟨k, bindL_get ndP hp hu k⟩
    · obtain ⟨c, e⟩ := cell_has (n := s.heap.objs.size + 1) k
      refine .inr ⟨.inl k, c, e, ?_⟩
      have q := x.cell y c e
      rw [bindC_get ndP hp hu (by show scope.names.lookup y ≠ _; rw [k]; decide)] at q
      exact q
  · exact e0.hok.fresh (Nat.le_of_lt (x.above y c (PySem.mem_of_lookup h)))
  · unfold start
    show _ = N.length
    rw [List.length_append, List.length_map, List.length_replicate]
    omega

/-- THE RULE: a def (or a method) of the text, by its body. The body's reading t is chosen for each entry; it is run at the parameters' values -/
theorem fn_of {CX : CXT} {P : Program} {w : World} {K : PySem.W.Frag} {mg : Str → Option Value} {base : Heap} {k : Nat} {f : Addr} {name qual : Str} {params : Arguments} {body : List Stmt} {scope : Scope} {dV kV doc pm cdv ct oc : Value} {an od : Option Addr}
    {osl : Array (Option Value)} {N ps : List Str} {sp : Sp} (lk : K.lookup f = some ⟨oc, od, .func (PySem.W.fnOf name qual params body scope dV kV doc pm an cdv ct), osl⟩) (hcd : PySem.W.codeIn K cdv qual = true) (S : FnScope N ps scope)
    (len : ∀ vs H Q E, sp vs H Q E → vs.length = ps.length)
    (hbody : ∀ (A : Around) (outer : List Env) (s : Shared) (H : Hp) (vs : List V) (Q : VK) (E : XK), Room k (A.deeper (envOfC qual scope s.heap.objs.size f cdv)) → sp vs H Q E →
      ∃ t, PSs (cxOf CX P w K mg base N qual scope f cdv A outer s H E) body t ∧ t { nx := fun _ H' => Q .non H', rt := Q } (start N vs) H) :
    FnOk P w K mg base CX (k + 1) f (PySem.W.fnOf name qual params body scope dV kV doc pm an cdv ct) ps sp := by
  refine ⟨len, fun A outer s H args us vs Q E hr e0 hb r hsp => ?_⟩
  have hl := len _ _ _ _ hsp
  have KX : K.In s.heap := e0.mod.kin.keeps fun b o e => (e0.bs b o e).1
  have lim : s.heap.NoLimit := e0.mod.nolimit.keeps fun b o e => (e0.bs b o e).1
  have hkind : ∀ y ∈ ps.zip us, scope.names.lookup y.1 = some .local ∨ (scope.names.lookup y.1 = some .cell ∧ ((cellsFrom (s.heap.objs.size + 1) scope.names []).lookup y.1).isSome = true) := fun ⟨n, v⟩ hy => by
    rcases S.par n (List.of_mem_zip hy).1 with q | q
    · exact .inl q
    · exact .inr ⟨q, PySem.W.cellsFrom_some _ _ _ (.inl q)⟩
  refine codeAny_call_function hr.depth (KX _ _ lk) rfl S.co S.gen rfl (PySem.W.codeRec_of KX hcd) (hb _ _ _ _ ?_)
  refine wpAny_newFunctionEnv_cells S.kind hkind fun env he s1 x => ?_
  subst he
  refine ⟨lim.keeps x.toInCall.keep, codeAny_func ?_⟩
  obtain ⟨t, ht, hq⟩ := hbody A outer s H vs Q E (hr.deeper _) hsp
  have I : Inv (cxOf CX P w K mg base N qual scope f cdv A outer s H E) [] (start N vs) H s1 := inv_start S hr.hd e0 hl r x
  refine wpAny_mono (ht [] s1 (start N vs) H _ I hq) (fun fl s' hs => ?_) fun e s' hs => hs
  have fin : ∀ {σ' : St} {H' : Hp} {v : V} {u : Value}, Inv (cxOf CX P w K mg base N qual scope f cdv A outer s H E) [] σ' H' s' → RelV v u → Q v H' → CE outer P w H s Q u s' :=
    fun {σ' H' v u} J rv q => ⟨v, H', J.os, J.bare, J.base, J.hok, rv, q⟩
  cases fl with
  | ret u =>
    obtain ⟨v, σ', H', J, rv, q⟩ := hs
    exact fin J rv q
  | next =>
    obtain ⟨σ', H', J, q⟩ := hs
    exact fin (v := V.non) (u := Value.none) J rfl q
  | brk =>
    obtain ⟨_, _, _, q⟩ := hs
    exact False.elim q
  | cont =>
    obtain ⟨_, _, _, q⟩ := hs
    exact False.elim q
end L2

namespace L2
open PySem PySem.Spec PyProof.Rows
section
variable {X : Cx} {x : Str} {p pos : Pos} {e : Expr} {es : List Expr} {t : TA} {id T : String} {r : List V → Hp → VK → Prop}

def tCB (r : List V → Hp → VK → Prop) (t : TA) : TE := fun σ H Q => t σ H fun vs H1 => r vs H1 Q
/-- f(e, ..), f a built-in function -/
theorem pe_callB (hc : CallR X (.builtin id) r) (hg : Gl X x) (hm : X.mg x = none) (hv : bootBuiltins x = some (.builtin id)) (ha : PA X (e :: es) t) (hn : x ≠ "__name__" := by decide) (hdb : (x == ("__debug__" : Str)) = false := by decide)
    (he : starEach (e :: es) X.env = (false, eval e X.env) :: starEach es X.env := by rfl) (hpl : (backTo pos (starEach es X.env)).any (·.1) = false := by rfl) : PE X (.Call (.Name x p) (e :: es) [] pos) (tCB r t) := by
  intro pins s σ H Q I h
  refine wpAny_Call_Name_kw (ld_blt I hg hm hv ?_ hn hdb)
  exact PyProof.Rows.callWith_builtin1 (thn (ha pos pins s σ H _ I h) fun us s1 ⟨vs, H1, I1, r1, q1⟩ => hc pins s1 σ H1 vs us Q I1 r1 q1) he hpl
/-- T(e, ..), T a built-in type -/
theorem pe_callTy (hc : CallR X (.type T) r) (hg : Gl X x) (hm : X.mg x = none) (hv : bootBuiltins x = some (.type T)) (ha : PA X (e :: es) t) (hn : x ≠ "__name__" := by decide) (hdb : (x == ("__debug__" : Str)) = false := by decide)
    (he : starEach (e :: es) X.env = (false, eval e X.env) :: starEach es X.env := by rfl) (hpl : (backTo pos (starEach es X.env)).any (·.1) = false := by rfl) : PE X (.Call (.Name x p) (e :: es) [] pos) (tCB r t) := by
  intro pins s σ H Q I h
  refine wpAny_Call_Name_kw (ld_blt I hg hm hv ?_ hn hdb)
  exact PyProof.Rows.callWith_type1 (thn (ha pos pins s σ H _ I h) fun us s1 ⟨vs, H1, I1, r1, q1⟩ => hc pins s1 σ H1 vs us Q I1 r1 q1) he hpl
/-- T() -/
theorem pe_callTy0 (hc : CallR X (.type T) r) (hg : Gl X x) (hm : X.mg x = none) (hv : bootBuiltins x = some (.type T)) (hn : x ≠ "__name__" := by decide) (hdb : (x == ("__debug__" : Str)) = false := by decide) :
    PE X (.Call (.Name x p) [] [] pos) (tCB r tNil) := by
  intro pins s σ H Q I h
  refine wpAny_Call_Name_kw (ld_blt I hg hm hv ?_ hn hdb)
  exact PyProof.Rows.callWith_type0 (hc pins s σ H [] [] Q I .nil h)
end
end L2

namespace HT
open PySem PyProof.Rows

/-- t < u of tuples of ints -/
def lexLt : List Int → List Int → Bool
  | [], [] => false
  | [], _ :: _ => true
  | _ :: _, [] => false
  | x :: xs, y :: ys => if x = y then lexLt xs ys else decide (x < y)
theorem lexLt_cons (x y : Int) (xs ys : List Int) : lexLt (x :: xs) (y :: ys) = if x = y then lexLt xs ys else decide (x < y) := rfl
theorem lexLt_nil_nil : lexLt [] [] = false := rfl
theorem lexLt_nil_cons (y : Int) (ys : List Int) : lexLt [] (y :: ys) = true := rfl
theorem lexLt_cons_nil (x : Int) (xs : List Int) : lexLt (x :: xs) [] = false := rfl

theorem eqAt_int (A : Around) (s : Shared) (a : Int) (t : Tok) (c : Int) (u : Tok) : ∃ e, SeqAt.EqAt A s (.int a t) (.int c u) e ∧ (e = true ↔ a = c) :=
  ⟨(a == c), SeqAt.EqAt.int_int a t c u, by simp⟩
theorem rcLt_int (A : Around) (s : Shared) (a : Int) (t : Tok) (c : Int) (u : Tok) (prog : Program) (w : World) (E : Value → Shared → Prop) (Q : Value → Shared → Prop) (h : Q (.bool (decide (a < c))) s) :
    wpAny (model prog w) A (richCompare .Lt (.int a t) (.int c u)) Q E s :=
  (PyProof.Rows.lt_int h : wpAny (model prog w) A (compareOp .Lt (.int a t) (.int c u)) Q E s)

section
open PySem.SeqAt
open PySem.AutoSeq1 (wpAny_loadPart')
open PySem.MeetsSeq PySem.MeetsSeq2 PySem.MeetsSeq3

theorem tuple_lt_ints (l b : Addr) (items items2 : Array Value) (n n2 : Nat) (dd dd2 : Option Addr) (sl sl2 : Array (Option Value)) (ns ms : List Int) (hi : IntsAre items.toList ns) (hj : IntsAre items2.toList ms) :
    Meets (Builtin.«tuple.__lt__» ⟨[.ref l, .ref b], []⟩)
      (fun _ R s => s.heap.get? l = some { cls := .type "tuple", dict := dd, data := .seq items n, slots := sl } ∧ s.heap.get? b = some { cls := .type "tuple", dict := dd2, data := .seq items2 n2, slots := sl2 } ∧
        R (.ok (.ret (.bool (lexLt ns ms)))) s) :=
  .of_wp fun prog w A R s h => by
    obtain ⟨hp, g, d, tk, os⟩ := s; obtain ⟨hl, hb, h⟩ := h
    have f2 := AutoSeq1.sub_tuple_tuple
    have z1 : items.size = ns.length := by rw [← hi.length]; simp
    have z2 : items2.size = ms.length := by rw [← hj.length]; simp
    wp_walk using wpAny_loadPart' hl, wpAny_loadPart' hb, wpAny_forIn_list _ (fun rest b s' => b.1 = none ∧ s' = ⟨hp, g, d, tk, os⟩ ∧ ∃ (vs ws : List Value) (ns' ms' : List Int), rest = vs.zip ws ∧
      IntsAre vs ns' ∧ IntsAre ws ms' ∧ ns'.length + items2.size = ms'.length + items.size ∧ R (.ok (.ret (.bool (lexLt ns' ms')))) ⟨hp, g, d, tk, os⟩) _
    case turn =>
      rintro ⟨y, x⟩ rest b s' ⟨hb', rfl, vs, ws, ns', ms', hz, hvi, hwi, hlen, hR⟩
      cases hvi with
      | nil => rw [List.zip_nil_left] at hz; cases hz
      | cons a t hvi' =>
        cases hwi with
        | nil => rw [List.zip_nil_right] at hz; cases hz
        | cons c u hwi' =>
          rw [List.zip_cons_cons] at hz
          injection hz with hyx hrest
          injection hyx with hy hx
          subst hy hx
          rw [lexLt_cons] at hR
          simp only [List.length_cons] at hlen
          obtain ⟨e, he, hiff⟩ := eqAt_int A.in1 ⟨hp, g, d, tk, os⟩ a t c u
          refine wpAny_bind (he prog w _ _ ?_)
          cases e with
          | true =>
            rw [if_pos (hiff.mp rfl)] at hR
            wp_walk
            exact ⟨rfl, rfl, _, _, _, _, hrest, hvi', hwi', by omega, hR⟩
          | false =>
            rw [if_neg (fun q => absurd (hiff.mpr q) Bool.false_ne_true)] at hR
            have hri := rcLt_int A.in1 ⟨hp, g, d, tk, os⟩ a t c u prog w
            wp_walk using hri
            exact ⟨_, rfl, by simpa using hR⟩
    case fin =>
      rintro ⟨b1, b2⟩ s' ⟨hb', rfl, vs, ws, ns', ms', hz, hvi, hwi, hlen, hR⟩
      simp only at hb'
      subst hb'
      have hv : lexLt ns' ms' = decide (items.size < items2.size) := by
        cases hvi with
        | nil =>
          cases hwi with
          | nil =>
            simp only [List.length_nil] at hlen
            rw [lexLt_nil_nil]
            exact (decide_eq_false (by omega)).symm
          | cons c u hw =>
            simp only [List.length_nil, List.length_cons] at hlen
            rw [lexLt_nil_cons]
            exact (decide_eq_true (by omega)).symm
        | cons a t hv =>
          cases hwi with
          | nil =>
            simp only [List.length_nil, List.length_cons] at hlen
            rw [lexLt_cons_nil]
            exact (decide_eq_false (by omega)).symm
          | cons c u hw =>
            rw [List.zip_cons_cons] at hz
            cases hz
      rw [hv] at hR
      wp_walk
      exact ⟨_, rfl, by simpa [Builtin.Tuple.tupleCompareSizes] using hR⟩
    case h =>
      exact ⟨rfl, rfl, items.toList, items2.toList, ns, ms, rfl, hi, hj, by omega, h⟩
end

section
variable {prog : Program} {w : World} {A : Around} {E : Value → Shared → Prop} {s : Shared}

theorem lt_tupInts {l b : Addr} {items items2 : Array Value} {ns ms : List Int} {Q : Value → Shared → Prop} (hl : IsTup s.heap l items) (hb : IsTup s.heap b items2) (hi : IntsAre items.toList ns) (hj : IntsAre items2.toList ms)
    (hu : A.units < cLine) (h : Q (.bool (lexLt ns ms)) s) : wpAny (model prog w) A (compareOp .Lt (.ref l) (.ref b)) Q E s := by
  obtain ⟨⟨cls, dd, data, sl⟩, ho, hc, n, hd⟩ := id hl
  obtain ⟨⟨cls2, dd2, data2, sl2⟩, ho2, hc2, n2, hd2⟩ := id hb
  simp only at hc hd hc2 hd2
  subst hc hd hc2 hd2
  exact richCompare_meets_room (op := .Lt) ⟨_, ho, rfl⟩ ⟨_, ho2, rfl⟩ PySem.F.slot_tuple_lt PySem.F.entry_tuple_lt (PySem.F.args_tuple_lt_2 _ _) (tuple_lt_ints l b items items2 n n2 dd dd2 sl sl2 ns ms hi hj)
    ⟨ho, ho2, show Value.bool (lexLt ns ms) ≠ Value.notImplemented ∧ Q (.bool (lexLt ns ms)) s from ⟨(fun x => nomatch x), h⟩⟩ hu

/-- t + u, t not empty -/
theorem cat_tup {t b : Addr} {vs ws : List Value} {Q : Value → Shared → Prop} (ht : IsTup s.heap t vs.toArray) (hb : IsTup s.heap b ws.toArray) (hv : vs ≠ [])
    (h1 : ws = [] → Q (.ref t) s) (h2 : ws ≠ [] → Q (.ref s.heap.objs.size) { s with heap := s.heap.push { cls := .type "tuple", data := .seq (vs ++ ws).toArray } })
    (hsz : vs.length + ws.length ≤ sizeLine) : wpAny (model prog w) A (binaryOp .Add (.ref t) (.ref b)) Q E s := by
  obtain ⟨⟨cls, dd, data, sl⟩, ho, hc, n, hd⟩ := id ht
  obtain ⟨⟨cls2, dd2, data2, sl2⟩, ho2, hc2, n2, hd2⟩ := id hb
  simp only at hc hd hc2 hd2
  subst hc hd hc2 hd2
  have e : vs.toArray ++ ws.toArray = (vs ++ ws).toArray := by simp
  by_cases hw : ws = []
  · exact concat_meets ⟨_, ho, rfl⟩ ⟨_, ho2, rfl⟩ noFill_tuple_add seq_tuple_add PySem.F.slot_tuple_add PySem.F.entry_tuple_add (PySem.F.args_tuple_add_2 _ _)
      (tuple_addW1 t b vs.toArray ws.toArray n n2 dd dd2 sl sl2 (by simpa using hv) (by simp [hw])) ⟨ho, ho2, h1 hw⟩
  · refine concat_meets ⟨_, ho, rfl⟩ ⟨_, ho2, rfl⟩ noFill_tuple_add seq_tuple_add PySem.F.slot_tuple_add PySem.F.entry_tuple_add (PySem.F.args_tuple_add_2 _ _)
      (tuple_addW2 t b vs.toArray ws.toArray n n2 dd dd2 sl sl2 (by simpa using hv) (by simpa using hw) (by rw [List.size_toArray, List.size_toArray]; exact hsz)) ⟨ho, ho2, ?_⟩
    rw [e]
    exact h2 hw

/-! ### t[a:b], not the whole -/
/-- a slice's bound as a place among n (d where it is left out) -/
def sIx (n d : Nat) : Option Int → Nat
  | none => d
  | some v => if v < 0 then (v + (n : Int)).toNat else min v.toNat n
theorem sIx_none (n d : Nat) : sIx n d none = d := rfl
theorem sIx_nat (n d k : Nat) : sIx n d (some (k : Int)) = min k n := by
  show (if (k : Int) < 0 then ((k : Int) + (n : Int)).toNat else min (k : Int).toNat n) = min k n
  rw [if_neg (by omega), Int.toNat_natCast]
theorem sIx_le (n d : Nat) (hd : d ≤ n) (o : Option Int) : sIx n d o ≤ n := by
  cases o with
  | none => exact hd
  | some v =>
    show (if v < 0 then (v + (n : Int)).toNat else min v.toNat n) ≤ n
    by_cases hv : v < 0
    · rw [if_pos hv]; omega
    · rw [if_neg hv]; exact Nat.min_le_right _ _
theorem clip_eq (v : Int) (n d : Nat) : (if v < 0 then max (v + (n : Int)) 0 else min v (n : Int)) = ((sIx n d (some v) : Nat) : Int) := by
  show (if v < 0 then max (v + (n : Int)) 0 else min v (n : Int)) = (((if v < 0 then (v + (n : Int)).toNat else min v.toNat n) : Nat) : Int)
  by_cases hv : v < 0
  · simp only [if_pos hv]; omega
  · simp only [if_neg hv]; omega
theorem adjust_gen (lo hi : Option Int) (n : Nat) : Builtin.Slice.sliceAdjust lo hi 1 (n : Int) = (((sIx n 0 lo : Nat) : Int), ((sIx n n hi : Nat) : Int)) := by
  have h1 : ¬ ((1 : Int) < 0) := by omega
  unfold Builtin.Slice.sliceAdjust
  simp only [h1, if_false]
  refine Prod.ext ?_ ?_
  · cases lo with
    | none => rfl
    | some v => exact clip_eq v n 0
  · cases hi with
    | none => rfl
    | some v => exact clip_eq v n n
theorem places_gen (i j : Nat) : Builtin.Slice.slicePlaces (i : Int) (j : Int) 1 = j - i := by
  unfold Builtin.Slice.slicePlaces
  have h1 : (1 : Int) > 0 := by omega
  simp only [h1, if_true, Int.ediv_one]
  split <;> omega
theorem slicePart_ {v : Value} {o : Option Int} {Q : Option Int → Shared → Prop} (p : IsPart v o) (h : Q o s) : wpAny (model prog w) A (Builtin.Slice.slicePartIndex v) Q E s := by
  cases p with
  | none => exact slicePart_none h
  | int i t => exact slicePart_int h
theorem sliceApplied_gen {sl : Addr} {vl vu : Value} {lo hi : Option Int} {n : Nat} {Q : Int × Int × Nat → Shared → Prop} (hs : s.heap.IsSliceOf sl vl vu .none) (pl : IsPart vl lo) (pu : IsPart vu hi)
    (h : Q (((sIx n 0 lo : Nat) : Int), 1, sIx n n hi - sIx n 0 lo) s) : wpAny (model prog w) A (Builtin.Slice.sliceApplied (.ref sl) (pure (n : Int))) Q E s := by
  obtain ⟨os, hos, hcs, hds⟩ := id hs
  unfold Builtin.Slice.sliceApplied Builtin.Slice.sliceFields
  refine wpAny_bind (wpAny_bind (wpAny_field hos hds (x := vl) rfl (wpAny_bind (wpAny_field hos hds (x := vu) rfl (wpAny_bind (wpAny_field hos hds (x := .none) rfl (wpAny_pure ?_)))))))
  refine wpAny_bind (slicePart_none ?_)
  show wpAny _ _ (if ((1 : Int) == 0) = true then _ else _) _ _ s
  rw [if_neg (by decide)]
  refine wpAny_bind (slicePart_ pl (wpAny_bind (slicePart_ pu (wpAny_bind (wpAny_pure ?_)))))
  show wpAny _ _ (match Builtin.Slice.sliceAdjust lo hi 1 (n : Int) with | (lo, hi) => pure (lo, (1 : Int), Builtin.Slice.slicePlaces lo hi 1)) _ _ s
  rw [adjust_gen lo hi n]
  show wpAny _ _ (pure (((sIx n 0 lo : Nat) : Int), (1 : Int), Builtin.Slice.slicePlaces ((sIx n 0 lo : Nat) : Int) ((sIx n n hi : Nat) : Int) 1)) _ _ s
  rw [places_gen]
  exact wpAny_pure h
theorem pick_gen (xs : Array Value) (i k : Nat) : ((List.range k).filterMap fun (m : Nat) => xs[((i : Int) + (m : Int) * 1).toNat]?).toArray = ((xs.toList.drop i).take k).toArray := by
  have e : (fun (m : Nat) => xs[((i : Int) + (m : Int) * 1).toNat]?) = fun m => xs[i + m]? := by
    funext m
    have : ((i : Int) + (m : Int) * 1).toNat = i + m := by omega
    rw [this]
  rw [e]
  have := pick_run xs i k
  rw [List.filterMap_map] at this
  have e2 : ((fun x => xs[x]?) ∘ fun x => i + x) = fun m => xs[i + m]? := rfl
  rw [e2] at this
  rw [this]

theorem getItem_tuple_cut {t sl : Addr} {items : Array Value} {vl vu : Value} {lo hi : Option Int} {Q : Value → Shared → Prop} (ht : IsTup s.heap t items) (hs : s.heap.IsSliceOf sl vl vu .none) (pl : IsPart vl lo) (pu : IsPart vu hi)
    (hw : ¬ (sIx items.size 0 lo = 0 ∧ sIx items.size items.size hi = items.size))
    (h : Q (.ref s.heap.objs.size) { s with heap := s.heap.push { cls := .type "tuple", data := .seq ((items.toList.drop (sIx items.size 0 lo)).take (sIx items.size items.size hi - sIx items.size 0 lo)).toArray } })
    (hsz : items.size ≤ sizeLine) : wpAny (model prog w) A (getItem (.ref t) (.ref sl)) Q E s := by
  have htake : sizeOk (.seq ((items.toList.drop (sIx items.size 0 lo)).take (sIx items.size items.size hi - sIx items.size 0 lo)).toArray) := by
    show ((items.toList.drop (sIx items.size 0 lo)).take (sIx items.size items.size hi - sIx items.size 0 lo)).toArray.size ≤ sizeLine
    rw [List.size_toArray, List.length_take, List.length_drop, Array.length_toList]
    omega
  have hj : sIx items.size items.size hi ≤ items.size := sIx_le _ _ (Nat.le_refl _) hi
  obtain ⟨os, hos, hcs, hds⟩ := id hs
  have hTs : s.TypeIs (.ref sl) "slice" := ⟨os, hos, hcs⟩
  unfold getItem
  try with_reducible refine wpAny_holding ?_
  first | refine wpAny_bind (wpAny_pure ?_) | skip
  refine wpAny_bind (wpAny_sequenceKey ht.typeIs (by decide) ?_)
  refine wpAny_bind (wpAny_callSpecial?_slot (name := Str.ofString "__getitem__") ht.typeIs PyProof.Rows.slot_tuple_getitem
    (wpAny_call_entry PyProof.Rows.slot_tuple_getitem ht.typeIs entry_tuple_getitem ?_ (args_tuple_getitem _ _)))
  show wpAny _ _ (Builtin.Tuple.tupleItemsOf (.ref t) >>= _) _ _ s
  refine wpAny_bind (tupleItemsOf_ ht ?_)
  refine wpAny_bind (wpAny_typeOf hTs ?_)
  rw [if_pos (by decide)]
  refine wpAny_bind (sliceApplied_gen hs pl pu ?_)
  have hno : ¬ ((((sIx items.size 0 lo : Nat) : Int) == 0 && (1 : Int) == 1 && (sIx items.size items.size hi - sIx items.size 0 lo) == items.size) = true) := by
    intro q
    rw [Bool.and_eq_true, Bool.and_eq_true] at q
    have q1 : ((sIx items.size 0 lo : Nat) : Int) = 0 := eq_of_beq q.1.1
    have q2 : sIx items.size items.size hi - sIx items.size 0 lo = items.size := eq_of_beq q.2
    exact hw ⟨by omega, by omega⟩
  show wpAny _ _ (if (((sIx items.size 0 lo : Nat) : Int) == 0 && (1 : Int) == 1 && (sIx items.size items.size hi - sIx items.size 0 lo) == items.size) = true then _ else _) _ _ s
  rw [if_neg hno, pick_gen]
  first
    | exact wpAny_bind (m := Builtin.Tuple.tupleExact _) (wpAny_newObj_type (wpAny_pure ⟨_, rfl, wpAny_pure h⟩) htake)
    | exact wpAny_bind (m := Builtin.Tuple.tupleExact _) (wpAny_newObj_type (wpAny_bind (wpAny_pure (wpAny_pure ⟨_, rfl, wpAny_pure h⟩))) htake)
    | exact wpAny_bind (wpAny_bind (m := Builtin.Tuple.tupleExact _) (wpAny_newObj_type (wpAny_pure (wpAny_pure ⟨_, rfl, wpAny_pure h⟩)) htake))
    | exact wpAny_bind (wpAny_bind (m := Builtin.Tuple.tupleExact _) (wpAny_newObj_type (wpAny_pure ⟨_, rfl, wpAny_pure h⟩) htake))
end
end HT

namespace L2
open PySem PySem.Spec PyProof.Rows

/-! ### the parts of a slice -/
abbrev TO := St → Hp → (Option Int → Hp → Prop) → Prop
/-- a slice's part (left out, or an int) -/
def PO (X : Cx) (e : Option Expr) (t : TO) : Prop :=
  ∀ (pins : List (Addr × Obj)) (s : Shared) (σ : St) (H : Hp) (Q : Option Int → Hp → Prop), Inv X pins σ H s → t σ H Q →
    wpAny (model X.prog X.w) X.A (evalPart e X.env) (fun u s' => ∃ o H', Inv X pins σ H' s' ∧ IsPart u o ∧ Q o H') X.xe s
def tNoPart : TO := fun _ H Q => Q none H
def tPart (t : TE) : TO := fun σ H Q => t σ H fun x H1 => ∃ i, x = .int i ∧ Q (some i) H1

theorem intsAre_of {ns : List Int} : ∀ {us : List Value}, Vals (ns.map V.int) us → IntsAre us ns := by
  induction ns with
  | nil => intro us r; rw [List.map_nil] at r; cases r; exact .nil
  | cons n ns ih =>
    intro us r
    rw [List.map_cons] at r
    cases r with
    | cons r1 r2 =>
      obtain ⟨t, e⟩ := r1
      subst e
      exact .cons n t (ih r2)

section
variable {X : Cx} {e : Expr} {te : TE} {lo hi : Option Expr} {tl th : TO} {pos p2 : Pos}

theorem po_none : PO X none tNoPart := by
  intro pins s σ H Q I h
  rw [evalPart_none]
  exact wpAny_pure ⟨none, H, I, .none, h⟩
theorem po_some (h : PE X e te) : PO X (some e) (tPart te) := by
  intro pins s σ H Q I hw
  rw [evalPart_some]
  refine thn (h pins s σ H _ I hw) fun u s1 ⟨x, H1, I1, r1, q1⟩ => ?_
  obtain ⟨i, rfl, q⟩ := q1
  obtain ⟨t, rfl⟩ := r1
  exact ⟨some i, H1, I1, .int i t, q⟩

/-- what a slice of a value is, by values: the slice object stands at sl -/
def SlR (X : Cx) (r : V → Option Int → Option Int → Hp → VK → Prop) : Prop :=
  ∀ (pins : List (Addr × Obj)) (s : Shared) (σ : St) (H : Hp) (x : V) (v vl vu : Value) (lo hi : Option Int) (sl : Addr) (Q : VK), Inv X pins σ H s → RelV x v → s.heap.IsSliceOf sl vl vu .none → IsPart vl lo → IsPart vu hi → r x lo hi H Q →
    ∃ T id, typeLookup (.type T) "__getitem__" = pure (some (.builtin id)) ∧ s.TypeIs v T ∧ wpAny (model X.prog X.w) X.A (getItem v (.ref sl)) (EP X pins σ Q) X.xe s
theorem SlR.or {r r' : V → Option Int → Option Int → Hp → VK → Prop} (h : SlR X r) (h' : SlR X r') : SlR X (fun x lo hi H Q => r x lo hi H Q ∨ r' x lo hi H Q) := by
  intro pins s σ H x v vl vu lo hi sl Q I rx hs pl pu q
  rcases q with q | q
  · exact h pins s σ H x v vl vu lo hi sl Q I rx hs pl pu q
  · exact h' pins s σ H x v vl vu lo hi sl Q I rx hs pl pu q
def tSl (r : V → Option Int → Option Int → Hp → VK → Prop) (te : TE) (tl th : TO) : TE := fun σ H Q => te σ H fun x H1 => tl σ H1 fun l H2 => th σ H2 fun u H3 => r x l u H3 Q
/-- a[lo:hi], any a -/
theorem pe_slice {r : V → Option Int → Option Int → Hp → VK → Prop} (hr : SlR X r) (he : PE X e te) (hl : PO X lo tl) (hu : PO X hi th) : PE X (.Subscript e (.Slice lo hi none p2) pos) (tSl r te tl th) := by
  intro pins s σ H Q I h
  refine Subscript_ (thn (he pins s σ H _ I h) fun v s1 ⟨x, H1, I1, r1, q1⟩ => ?_)
  refine wpAny_Slice (thn (hl pins s1 σ H1 _ I1 q1) fun vl s2 ⟨l, H2, I2, pl, q2⟩ => thn (hu pins s2 σ H2 _ I2 q2) fun vu s3 ⟨u, H3, I3, pu, q3⟩ => ?_)
  rw [evalPart_none]
  refine wpAny_pure ?_
  have I4 : Inv X pins σ H3 { s3 with heap := s3.heap.push { cls := .type "slice", data := .fields #[vl, vu, .none] } } := I3.kept (t' := s3.toks) fun b ob q => Heap.get?_push_of_some _ q
  obtain ⟨T, id, hT, ht, hg⟩ := hr pins { s3 with heap := s3.heap.push { cls := .type "slice", data := .fields #[vl, vu, .none] } } σ H3 x v vl vu l u s3.heap.objs.size Q I4 r1 (Heap.IsSliceOf.new ..) pl pu q3
  show wpAny (model X.prog X.w) X.A (subscriptTail e (.Slice lo hi none p2) v (.ref s3.heap.objs.size)) (EP X pins σ Q) X.xe { s3 with heap := s3.heap.push { cls := .type "slice", data := .fields #[vl, vu, .none] } }
  exact tail_any (ops := [.ref s3.heap.objs.size, v]) ht hT hg (by with_unfolding_all rfl)

/-- the items of xs[lo:hi] -/
def cutV (xs : List V) (lo hi : Option Int) : List V := (xs.drop (HT.sIx xs.length 0 lo)).take (HT.sIx xs.length xs.length hi - HT.sIx xs.length 0 lo)
theorem cutV_length (xs : List V) (lo hi : Option Int) : (cutV xs lo hi).length ≤ xs.length := by
  unfold cutV
  rw [List.length_take, List.length_drop]
  omega
/-- t[lo:hi], not the whole of it (the whole would be t itself) -/
def rSlT (K : PySem.W.Frag) : V → Option Int → Option Int → Hp → VK → Prop := fun x lo hi H Q => ∃ a xs, x = .ref a ∧ SqT K H a xs ∧
  ¬ (HT.sIx xs.length 0 lo = 0 ∧ HT.sIx xs.length xs.length hi = xs.length) ∧ ∀ p, H p = none → Q (.ref p) (upd H p (.tup (cutV xs lo hi)))
theorem sl_tup : SlR X (rSlT X.K) := by
  intro pins s σ H x v vl vu lo hi sl Q I rx hs pl pu h
  obtain ⟨a, xs, rfl, hx, hw, q⟩ := h
  cases rx
  obtain ⟨its, r, ht, hz⟩ := I.tuple hx
  have hlen : its.toArray.size = xs.length := by rw [List.size_toArray]; exact r.length.symm
  refine ⟨"tuple", _, PyProof.Rows.slot_tuple_getitem.lookup, ht.typeIs, ?_⟩
  refine HT.getItem_tuple_cut ht hs pl pu (by rw [hlen]; exact hw) ?_ (by rw [hlen]; exact hz)
  rw [hlen]
  refine ⟨.ref s.heap.objs.size, _, I.laid (t' := s.toks) (o := .tup (cutV xs lo hi)) (fun b ob q => Heap.get?_push_of_some _ q) (Nat.le_refl _) ?_, rfl, q _ (I.hok.fresh (Nat.le_refl _))⟩
  exact ⟨Nat.le_trans (cutV_length xs lo hi) hz, _, (r.drop (HT.sIx xs.length 0 lo)).take (HT.sIx xs.length xs.length hi - HT.sIx xs.length 0 lo), IsTup.new _ _⟩

/-! ### t < u, t + u -/
def rLtT (K : PySem.W.Frag) : R2 := fun x y H Q => ∃ a b ns ms, x = .ref a ∧ y = .ref b ∧ SqT K H a (ns.map V.int) ∧ SqT K H b (ms.map V.int) ∧ Q (.bl (HT.lexLt ns ms)) H
theorem op_ltT (hu : X.A.units < cLine) : OpR X (compareOp .Lt) (rLtT X.K) := by
  intro pins s σ H x y v u Q I rx ry h
  obtain ⟨a, b, ns, ms, rfl, rfl, ha, hb, q⟩ := h
  cases rx
  cases ry
  obtain ⟨its, r1, p1, _⟩ := I.tuple ha
  obtain ⟨its2, r2, p2, _⟩ := I.tuple hb
  have i1 : IntsAre its.toArray.toList ns := intsAre_of r1
  have i2 : IntsAre its2.toArray.toList ms := intsAre_of r2
  exact HT.lt_tupInts p1 p2 i1 i2 hu ⟨.bl (HT.lexLt ns ms), H, I, rfl, q⟩
/-- t + u, t not empty: u empty gives t itself -/
def rCatT (K : PySem.W.Frag) : R2 := fun x y H Q => ∃ a b xs ys, x = .ref a ∧ y = .ref b ∧ SqT K H a xs ∧ SqT K H b ys ∧ xs ≠ [] ∧ xs.length + ys.length ≤ sizeLine ∧
  (ys = [] → Q (.ref a) H) ∧ (ys ≠ [] → ∀ p, H p = none → Q (.ref p) (upd H p (.tup (xs ++ ys))))
theorem Vals.nil_iff {xs : List V} {us : List Value} (r : Vals xs us) : us = [] ↔ xs = [] := by
  cases r with
  | nil => simp
  | cons _ _ => simp
theorem op_catT : OpR X (binaryOp .Add) (rCatT X.K) := by
  intro pins s σ H x y v u Q I rx ry h
  obtain ⟨a, b, xs, ys, rfl, rfl, ha, hb, hx, hz, q1, q2⟩ := h
  cases rx
  cases ry
  obtain ⟨its, r1, p1, _⟩ := I.tuple ha
  obtain ⟨its2, r2, p2, _⟩ := I.tuple hb
  refine HT.cat_tup p1 p2 (fun z => hx (r1.nil_iff.mp z)) (fun z => ⟨.ref a, H, I, rfl, q1 (r2.nil_iff.mp z)⟩) (fun z => ?_) (by rw [← r1.length, ← r2.length]; exact hz)
  refine ⟨.ref s.heap.objs.size, _, I.laid (t' := s.toks) (o := .tup (xs ++ ys)) (fun b ob q => Heap.get?_push_of_some _ q) (Nat.le_refl _) ?_, rfl, q2 (fun w => z (r2.nil_iff.mpr w)) _ (I.hok.fresh (Nat.le_refl _))⟩
  exact ⟨by rw [List.length_append]; exact hz, _, r1.append r2, IsTup.new _ _⟩
/-- tuple(t) -/
theorem call_tupleT : CallR X (.type "tuple") (fun xs H Q => ∃ a ys, xs = [.ref a] ∧ SqT X.K H a ys ∧ Q (.ref a) H) := by
  intro pins s σ H xs us Q I r h
  obtain ⟨a, ys, rfl, ha, q⟩ := h
  obtain ⟨u, rfl, ru⟩ := vals1 r
  cases ru
  obtain ⟨its, _, p1, _⟩ := I.tuple ha
  exact call_tuple_same (items := its.toArray) p1 ⟨.ref a, H, I, rfl, q⟩
end
end L2

namespace L2
open PySem PySem.Spec PyProof.Rows

/-! ### places -/
/-- the place that an index of any sign means -/
def ixN (n : Nat) (i : Int) : Option Nat := if 0 ≤ i then (if i < n then some i.toNat else none) else if -(n : Int) ≤ i then some (i + n).toNat else none
def atI {α : Type} (xs : List α) (i : Int) : Option α := (ixN xs.length i).bind fun j => xs[j]?
theorem ixN_seq {n : Nat} {i : Int} {j : Nat} (h : ixN n i = some j) : seqIndex? i n = some j ∧ j < n ∧ -(n : Int) ≤ i ∧ i < n := by
  unfold ixN at h
  by_cases h0 : 0 ≤ i
  · rw [if_pos h0] at h
    by_cases h1 : i < n
    · rw [if_pos h1] at h
      have e : i.toNat = j := Option.some.inj h
      exact ⟨by rw [seqIndex_of h0 h1, e], by omega, by omega, h1⟩
    · rw [if_neg h1] at h; cases h
  · rw [if_neg h0] at h
    by_cases h1 : -(n : Int) ≤ i
    · rw [if_pos h1] at h
      have e : (i + n).toNat = j := Option.some.inj h
      exact ⟨by rw [seqIndex_neg (by omega) h1, e], by omega, h1, by omega⟩
    · rw [if_neg h1] at h; cases h
theorem atI_get {α : Type} {xs : List α} {i : Int} {v : α} (h : atI xs i = some v) : ∃ j, seqIndex? i xs.length = some j ∧ xs[j]? = some v ∧ j < xs.length ∧ -(xs.length : Int) ≤ i ∧ i < xs.length := by
  unfold atI at h
  cases e : ixN xs.length i with
  | none => rw [e] at h; cases h
  | some j =>
    rw [e] at h
    obtain ⟨h1, h2, h3, h4⟩ := ixN_seq e
    exact ⟨j, h1, h, h2, h3, h4⟩
theorem atI_nat {α : Type} {xs : List α} {j : Nat} {v : α} (h : xs[j]? = some v) : atI xs (j : Int) = some v := by
  have hj : j < xs.length := (List.getElem?_eq_some_iff.mp h).1
  have e : ixN xs.length (j : Int) = some j := by
    unfold ixN
    rw [if_pos (by omega), if_pos (by omega)]; simp
  unfold atI; rw [e]; exact h
theorem atI_last {α : Type} (xs : List α) (v : α) : atI (xs ++ [v]) (-1) = some v := by
  have hl : (xs ++ [v]).length = xs.length + 1 := by simp
  have e : ixN (xs ++ [v]).length (-1) = some xs.length := by
    unfold ixN
    rw [hl, if_neg (by decide), if_pos (by omega)]
    congr 1
    omega
  unfold atI
  rw [e]
  show (xs ++ [v])[xs.length]? = some v
  simp

/-! ### what may be subscripted -/
/-- what stands as an index of a plain subscript -/
def PlainIx (b : Expr) : Prop := ∀ o i, subscripted b false o i = operate [o, i] (getItem o i)
/-- a subscript by values -/
def IxR (X : Cx) (r : R2) : Prop :=
  ∀ (value slice : Expr) (pins : List (Addr × Obj)) (s : Shared) (σ : St) (H : Hp) (x y : V) (v u : Value) (Q : VK), Inv X pins σ H s → RelV x v → RelV y u → r x y H Q →
    subscripted slice false v u = operate [v, u] (getItem v u) → wpAny (model X.prog X.w) X.A (subscriptTail value slice v u) (EP X pins σ Q) X.xe s
/-- a call of a builtin's method by values: the receiver, the arguments -/
def MtR (X : Cx) (id : String) (r : V → List V → Hp → VK → Prop) : Prop :=
  ∀ (pins : List (Addr × Obj)) (s : Shared) (σ : St) (H : Hp) (x : V) (xs : List V) (v : Value) (us : List Value) (Q : VK), Inv X pins σ H s → RelV x v → Vals xs us → r x xs H Q →
    wpAny (model X.prog X.w) X.A (call (.builtin id) (v :: us)) (EP X pins σ Q) X.xe s
section
variable {X : Cx} {a b : Expr} {ta tb : TE} {pos : Pos}
theorem IxR.or {r r' : R2} (h : IxR X r) (h' : IxR X r') : IxR X (fun x y H Q => r x y H Q ∨ r' x y H Q) := by
  intro value slice pins s σ H x y v u Q I rx ry q hs
  rcases q with q | q
  · exact h value slice pins s σ H x y v u Q I rx ry q hs
  · exact h' value slice pins s σ H x y v u Q I rx ry q hs
theorem MtR.or {id : String} {r r' : V → List V → Hp → VK → Prop} (h : MtR X id r) (h' : MtR X id r') : MtR X id (fun x xs H Q => r x xs H Q ∨ r' x xs H Q) := by
  intro pins s σ H x xs v us Q I rx rs q
  rcases q with q | q
  · exact h pins s σ H x xs v us Q I rx rs q
  · exact h' pins s σ H x xs v us Q I rx rs q
/-- a[b] -/
theorem pe_ix {r : R2} (hr : IxR X r) (ha : PE X a ta) (hb : PE X b tb) (hs : PlainIx b) : PE X (.Subscript a b pos) (tOp r ta tb) := by
  intro pins s σ H Q I h
  exact Subscript_ (binT ha hb I h fun v u s2 x y H2 I2 rx ry q => hr a b pins s2 σ H2 x y v u Q I2 rx ry q (hs _ _))

def rIxL (K : PySem.W.Frag) : R2 := fun x y H Q => ∃ p xs i v, x = .ref p ∧ y = .int i ∧ SqL K H p xs ∧ atI xs i = some v ∧ Q v H
def rIxT (K : PySem.W.Frag) : R2 := fun x y H Q => ∃ p xs i v, x = .ref p ∧ y = .int i ∧ SqT K H p xs ∧ atI xs i = some v ∧ Q v H
def rIxS : R2 := fun x y H Q => ∃ z i c, x = .str z ∧ y = .int i ∧ z.length ≤ sizeLine ∧ atI z.cps.toList i = some c ∧ Q (.str ⟨#[c]⟩) H
theorem ix_list : IxR X (rIxL X.K) := by
  intro value slice pins s σ H x y v u Q I rx ry h hs
  obtain ⟨p, xs, i, z, rfl, rfl, hq, he, q⟩ := h
  cases rx
  obtain ⟨t, rfl⟩ := ry
  obtain ⟨its, r, pl, hz⟩ := I.list hq
  obtain ⟨j, h1, h2, h3, h4, h5⟩ := atI_get he
  obtain ⟨w, ew, rw'⟩ := r.get h2
  have hl := r.length
  have hn := line63
  have fin : EP X pins σ Q w s := ⟨z, H, I, rw', q⟩
  by_cases h0 : 0 ≤ i
  · have hj : i.toNat = j := by
      rw [seqIndex_of h0 h5] at h1
      exact Option.some.inj h1
    exact item_listR pl.isList h0 (by omega) (by rw [hj]; simpa using ew) fin hs
  · have hj : (i + (its.toArray.size : Int)).toNat = j := by
      rw [seqIndex_neg (by omega) h4] at h1
      rw [List.size_toArray, ← hl]
      exact Option.some.inj h1
    exact subscriptTail_builtinR (x := w) pl.isList.typeIs slot_list_getitem.lookup
      (wpAny_getItem_list_neg (Q := fun r s' => r = w ∧ EP X pins σ Q r s') pl.isList (by omega) (by rw [List.size_toArray] <;> omega) (by omega) (by rw [hj]; simpa using ew) ⟨rfl, fin⟩) hs
theorem ix_tup : IxR X (rIxT X.K) := by
  intro value slice pins s σ H x y v u Q I rx ry h hs
  obtain ⟨p, xs, i, z, rfl, rfl, hq, he, q⟩ := h
  cases rx
  obtain ⟨t, rfl⟩ := ry
  obtain ⟨its, r, pl, hz⟩ := I.tuple hq
  obtain ⟨j, h1, h2, h3, h4, h5⟩ := atI_get he
  obtain ⟨w, ew, rw'⟩ := r.get h2
  have hl := r.length
  have hn := line63
  have fin : EP X pins σ Q w s := ⟨z, H, I, rw', q⟩
  exact subscriptTail_builtinR (x := w) pl.typeIs slot_tuple_getitem.lookup
    (getItem_tuple (j := j) (Q := fun r s' => r = w ∧ EP X pins σ Q r s') pl (by omega) (by omega) (by rw [List.size_toArray, ← hl]; exact h1) (by simpa using ew) ⟨rfl, fin⟩) hs
theorem ix_str : IxR X rIxS := by
  intro value slice pins s σ H x y v u Q I rx ry h hs
  obtain ⟨z, i, c, rfl, rfl, hz, he, q⟩ := h
  obtain ⟨t, rfl⟩ := rx
  obtain ⟨t', rfl⟩ := ry
  obtain ⟨j, h1, h2, h3, h4, h5⟩ := atI_get he
  have hl : z.cps.toList.length = z.length := by simp [Str.length]
  rw [hl] at h1 h4 h5
  have hn := line63
  exact tail_any (typeIs_str s z t) slot_str_getitem.lookup (getItem_str (c := c) (by
    have e1 : decide (i < -(2 ^ 63 : Int)) = false := decide_eq_false (by omega)
    have e2 : decide (i ≥ 2 ^ 63) = false := decide_eq_false (by omega)
    rw [e1, e2, Bool.or_false]) (by rw [h1]; simpa using h2) ⟨.str ⟨#[c]⟩, H, I.tok _, ⟨_, rfl⟩, q⟩) hs
/-- list, tuple or str -/
def rIx (K : PySem.W.Frag) : R2 := fun x y H Q => rIxL K x y H Q ∨ rIxT K x y H Q ∨ rIxS x y H Q
theorem ix_seq : IxR X (rIx X.K) := ix_list.or (ix_tup.or ix_str)

/-! ### xs[i] = v, any sign -/
/-- the list's object behind a store -/
theorem mapSeq_set (its : List Value) (n j : Nat) (u : Value) : Obj.mapSeq (·.setIfInBounds j u) { cls := .type "list", data := .seq its.toArray n } = { cls := .type "list", data := .seq (its.set j u).toArray n } := by
  simp [Obj.mapSeq]
theorem Inv.lst {pins : List (Addr × Obj)} {σ : St} {H : Hp} {s : Shared} {p : Addr} {xs : List V} (I : Inv X pins σ H s) (h : H p = some (.lst xs)) :
    ∃ (its : List Value) (n : Nat), Vals xs its ∧ s.heap.get? p = some { cls := .type "list", data := .seq its.toArray n } ∧ xs.length ≤ sizeLine := by
  obtain ⟨z, its, n, r, e⟩ := I.hok p _ h
  exact ⟨its, n, r, e, z⟩
/-- the list at p is written by an update of its object -/
theorem Inv.lstUpd {pins : List (Addr × Obj)} {σ : St} {H : Hp} {s : Shared} {p : Addr} {xs ys : List V} {its its' : List Value} {n n' : Nat} {f : Obj → Obj} (I : Inv X pins σ H s) (h : H p = some (.lst xs))
    (ho : s.heap.get? p = some { cls := .type "list", data := .seq its.toArray n }) (hf : f { cls := .type "list", data := .seq its.toArray n } = { cls := .type "list", data := .seq its'.toArray n' }) (r : Vals ys its') (hz : ys.length ≤ sizeLine) (t : Nat) :
    Inv X pins σ (upd H p (.lst ys)) { s with heap := s.heap.update p f, toks := t } := by
  have e : (s.heap.update p f).get? p = some { cls := .type "list", data := .seq its'.toArray n' } := by
    rw [Heap.get?_update_self f ho (by rw [hf] <;> rfl), hf]
  refine I.write (x := p) (e := p) (by rw [h]; trivial) (.inl rfl) (fun b u hb q => (Heap.get?_update_other _ _ (Ne.symm hb)).trans q) ⟨_, e⟩ ?_
  exact ⟨hz, its', n', r, e⟩
def rSetL : V → V → V → Hp → (Hp → Prop) → Prop := fun o i v H Q => ∃ p xs k j, o = .ref p ∧ i = .int k ∧ H p = some (.lst xs) ∧ ixN xs.length k = some j ∧ Q (upd H p (.lst (xs.set j v)))
theorem set_list : PSet X rSetL := by
  intro pins s σ H o i v ov iv u Q I ro ri rv h
  obtain ⟨p, xs, k, j, rfl, rfl, hp, hj, q⟩ := h
  cases ro
  obtain ⟨t, rfl⟩ := ri
  obtain ⟨its, n, r, ho, hz⟩ := I.lst hp
  obtain ⟨h1, h2, h3, h4⟩ := ixN_seq hj
  have hl := r.length
  have hn := line63
  have I' : Inv X pins σ (upd H p (.lst (xs.set j v))) { s with heap := s.heap.update p (Obj.mapSeq (·.setIfInBounds j u)) } :=
    I.lstUpd hp ho (mapSeq_set its n j u) (r.set rv j) (by rw [List.length_set]; exact hz) s.toks
  by_cases h0 : 0 ≤ k
  · have hk : k.toNat = j := by
      rw [seqIndex_of h0 h4] at h1
      exact Option.some.inj h1
    exact PySem.W.ki_setAt ho h0 (by omega) (by rw [List.size_toArray, ← hl]; exact h4) (by rw [hk]; exact ⟨_, I', q⟩)
  · have hk : (k + (its.toArray.size : Int)).toNat = j := by
      rw [seqIndex_neg (by omega) h3] at h1
      rw [List.size_toArray, ← hl]
      exact Option.some.inj h1
    exact PySem.W.ki_setBack ho (by omega) (by rw [List.size_toArray, ← hl]; exact h3) (by omega) (by rw [hk]; exact ⟨_, I', q⟩)

/-! ### slices -/
theorem slice_bounds (lo hi : Option Int) (n : Nat) : (sliceBounds lo hi none n).1 = ((HT.sIx n 0 lo : Nat) : Int) ∧ (sliceBounds lo hi none n).2.1 = ((HT.sIx n n hi : Nat) : Int) ∧ (sliceBounds lo hi none n).2.2 = 1 := by
  refine ⟨?_, ?_, rfl⟩
  · cases lo with
    | none => simp [sliceBounds, HT.sIx]
    | some i =>
      simp only [sliceBounds, HT.sIx, Option.getD_none, show (1 : Int) > 0 by decide, if_true]
      by_cases h : i < 0
      · simp only [h, if_true] <;> omega
      · simp only [h, if_false] <;> omega
  · cases hi with
    | none => simp [sliceBounds, HT.sIx]
    | some i =>
      simp only [sliceBounds, HT.sIx, Option.getD_none, show (1 : Int) > 0 by decide, if_true]
      by_cases h : i < 0
      · simp only [h, if_true] <;> omega
      · simp only [h, if_false] <;> omega
theorem slicePick_cut (its : List Value) (lo hi : Option Int) : slicePick its.toArray lo hi none = ((its.drop (HT.sIx its.length 0 lo)).take (HT.sIx its.length its.length hi - HT.sIx its.length 0 lo)).toArray := by
  obtain ⟨h1, h2, h3⟩ := slice_bounds lo hi its.toArray.size
  unfold slicePick
  rw [h1, h2, h3]
  simp only [sliceRange_one, pick_run, List.size_toArray] <;> rfl
/-- xs[lo:hi] of a list: a new list -/
def rSlL (K : PySem.W.Frag) : V → Option Int → Option Int → Hp → VK → Prop := fun x lo hi H Q => ∃ a xs, x = .ref a ∧ SqL K H a xs ∧ ∀ p, H p = none → Q (.ref p) (upd H p (.lst (cutV xs lo hi)))
theorem sl_list : SlR X (rSlL X.K) := by
  intro pins s σ H x v vl vu lo hi sl Q I rx hs pl pu h
  obtain ⟨a, xs, rfl, hx, q⟩ := h
  cases rx
  obtain ⟨its, r, ht, hz⟩ := I.list hx
  have hlen := r.length
  refine ⟨"list", _, slot_list_getitem.lookup, ht.isList.typeIs, ?_⟩
  refine wpAny_getItem_list_slice ht.isList hs pl pu .none (by simp) ?_ (by rw [List.size_toArray] <;> omega)
  rw [slicePick_cut, ← hlen]
  refine ⟨.ref s.heap.objs.size, _, I.laid (t' := s.toks) (o := .lst (cutV xs lo hi)) (fun b ob q => Heap.get?_push_of_some _ q) (Nat.le_refl _) ?_, rfl, q _ (I.hok.fresh (Nat.le_refl _))⟩
  exact ⟨Nat.le_trans (cutV_length xs lo hi) hz, _, 0, (r.drop (HT.sIx xs.length 0 lo)).take (HT.sIx xs.length xs.length hi - HT.sIx xs.length 0 lo), Heap.get?_push_size _ rfl⟩

/-! ### in, not in: flat items -/
def flatV : V → Bool
  | .non => true
  | .bl _ => true
  | .int _ => true
  | .str _ => true
  | _ => false
/-- == of flat values -/
def eqV : V → V → Bool
  | .non, .non => true
  | .bl a, .bl b => a == b
  | .bl a, .int b => (if a then 1 else 0) == b
  | .int a, .bl b => a == (if b then 1 else 0)
  | .int a, .int b => a == b
  | .str a, .str b => a == b
  | _, _ => false
theorem eqAt_V {A : Around} {s : Shared} {y x : V} {u v : Value} (ry : RelV y u) (rx : RelV x v) (fy : flatV y = true) (fx : flatV x = true) : SeqAt.EqAt A s u v (eqV y x) := by
  cases y with
  | non =>
    cases ry
    cases x with
    | non => cases rx; exact SeqAt.EqAt.same _
    | bl b => cases rx; exact SeqAt.EqAt.none_bool b
    | int b => obtain ⟨t, rfl⟩ := rx; exact SeqAt.EqAt.none_int b t
    | str b => obtain ⟨t, rfl⟩ := rx; exact SeqAt.EqAt.none_str b t
    | _ => exact absurd (show false = true from fx) Bool.false_ne_true
  | bl a =>
    cases ry
    cases x with
    | non => cases rx; exact SeqAt.EqAt.bool_none a
    | bl b => cases rx; exact SeqAt.EqAt.bool_bool a b
    | int b => obtain ⟨t, rfl⟩ := rx; exact SeqAt.EqAt.bool_int a b t
    | str b => obtain ⟨t, rfl⟩ := rx; exact SeqAt.EqAt.bool_str a b t
    | _ => exact absurd (show false = true from fx) Bool.false_ne_true
  | int a =>
    obtain ⟨t', rfl⟩ := ry
    cases x with
    | non => cases rx; exact SeqAt.EqAt.int_none a t'
    | bl b => cases rx; exact SeqAt.EqAt.int_bool a t' b
    | int b => obtain ⟨t, rfl⟩ := rx; exact SeqAt.EqAt.int_int a t' b t
    | str b => obtain ⟨t, rfl⟩ := rx; exact SeqAt.EqAt.int_str a t' b t
    | _ => exact absurd (show false = true from fx) Bool.false_ne_true
  | str a =>
    obtain ⟨t', rfl⟩ := ry
    cases x with
    | non => cases rx; exact SeqAt.EqAt.str_none a t'
    | bl b => cases rx; exact SeqAt.EqAt.str_bool a t' b
    | int b => obtain ⟨t, rfl⟩ := rx; exact SeqAt.EqAt.str_int a t' b t
    | str b => obtain ⟨t, rfl⟩ := rx; exact SeqAt.EqAt.str_str a t' b t
    | _ => exact absurd (show false = true from fx) Bool.false_ne_true
  | _ => exact absurd (show false = true from fy) Bool.false_ne_true
/-- the items' answers, read off the values (a value's own answer does not lean on its token) -/
def eqU (x : V) (u : Value) : Bool := match u with
  | .none => eqV .non x
  | .bool b => eqV (.bl b) x
  | .int i _ => eqV (.int i) x
  | .str z _ => eqV (.str z) x
  | _ => false
theorem eqU_of {x y : V} {u : Value} (r : RelV y u) (f : flatV y = true) : eqU x u = eqV y x := by
  cases y with
  | non => cases r; rfl
  | bl b => cases r; rfl
  | int i => obtain ⟨t, rfl⟩ := r; rfl
  | str z => obtain ⟨t, rfl⟩ := r; rfl
  | _ => exact absurd (show false = true from f) Bool.false_ne_true
theorem any_eqU {x : V} : ∀ {xs : List V} {us : List Value}, Vals xs us → xs.all flatV = true → us.any (eqU x) = xs.any fun y => eqV y x
  | _, _, .nil, _ => rfl
  | y :: xs, u :: us, .cons r t, f => by
    rw [List.all_cons, Bool.and_eq_true] at f
    rw [List.any_cons, List.any_cons, eqU_of r f.1, any_eqU t f.2]
theorem mem_eqAt {A : Around} {s : Shared} {x : V} {v : Value} (rx : RelV x v) (fx : flatV x = true) : ∀ {xs : List V} {us : List Value}, Vals xs us → xs.all flatV = true → ∀ u ∈ us, SeqAt.EqAt A s u v (eqU x u)
  | _, _, .nil, _ => fun u hu => by cases hu
  | y :: xs, u :: us, .cons r t, f => fun u' hu => by
    rw [List.all_cons, Bool.and_eq_true] at f
    rcases List.mem_cons.mp hu with rfl | hu
    · rw [eqU_of r f.1]; exact eqAt_V r rx f.1 fx
    · exact mem_eqAt rx fx t f.2 u' hu
def inV (x : V) (xs : List V) : Bool := xs.any fun y => eqV y x
/-- x in a list or tuple of flat items -/
def rIn (K : PySem.W.Frag) (neg : Bool) : R2 := fun x y H Q => ∃ p xs, y = .ref p ∧ (SqL K H p xs ∨ SqT K H p xs) ∧ flatV x = true ∧ xs.all flatV = true ∧ Q (.bl (if neg then !inV x xs else inV x xs)) H
theorem op_in_seq : OpR X (compareOp .In) (rIn X.K false) := by
  intro pins s σ H x y v u Q I rx ry h
  obtain ⟨p, xs, rfl, hq, fx, fs, q⟩ := h
  cases ry
  rcases hq with hq | hq
  · obtain ⟨its, r, pl, hz⟩ := I.list hq
    refine SeqAt.in_listAt (eqU x) pl.isList (fun w hw => mem_eqAt rx fx r fs w (by simpa using hw)) ⟨.bl _, H, I, rfl, ?_⟩
    rw [show its.toArray.any (eqU x) = its.any (eqU x) by simp, any_eqU r fs]
    exact q
  · obtain ⟨its, r, pl, hz⟩ := I.tuple hq
    refine SeqAt.in_tupleAt (eqU x) pl (fun w hw => mem_eqAt rx fx r fs w (by simpa using hw)) ⟨.bl _, H, I, rfl, ?_⟩
    rw [show its.toArray.any (eqU x) = its.any (eqU x) by simp, any_eqU r fs]
    exact q
theorem op_notIn_seq : OpR X (compareOp .NotIn) (rIn X.K true) := by
  intro pins s σ H x y v u Q I rx ry h
  obtain ⟨p, xs, rfl, hq, fx, fs, q⟩ := h
  cases ry
  rcases hq with hq | hq
  · obtain ⟨its, r, pl, hz⟩ := I.list hq
    refine SeqAt.notIn_listAt (eqU x) pl.isList (fun w hw => mem_eqAt rx fx r fs w (by simpa using hw)) ⟨.bl _, H, I, rfl, ?_⟩
    rw [show its.toArray.any (eqU x) = its.any (eqU x) by simp, any_eqU r fs]
    exact q
  · obtain ⟨its, r, pl, hz⟩ := I.tuple hq
    refine SeqAt.notIn_tupleAt (eqU x) pl (fun w hw => mem_eqAt rx fx r fs w (by simpa using hw)) ⟨.bl _, H, I, rfl, ?_⟩
    rw [show its.toArray.any (eqU x) = its.any (eqU x) by simp, any_eqU r fs]
    exact q
theorem op_notIn_str : OpR X (compareOp .NotIn) (fun x y H Q => ∃ i j, x = .str i ∧ y = .str j ∧ Q (.bl (!(!(Builtin.Str.occurrences j i 0 j.length 1).isEmpty))) H) := by
  intro pins s σ H x y v u Q I rx ry h
  obtain ⟨i, j, rfl, rfl, q⟩ := h
  obtain ⟨t, rfl⟩ := rx
  obtain ⟨t', rfl⟩ := ry
  exact notIn_str ⟨.bl _, H, I, rfl, q⟩

/-! ### len, list(x), tuple(x) of any list or tuple that is read -/
theorem call_len_seq : CallR X (.builtin "len") (fun xs H Q => ∃ p ys, xs = [.ref p] ∧ (SqL X.K H p ys ∨ SqT X.K H p ys) ∧ Q (.int ys.length) H) := by
  intro pins s σ H xs us Q I r h
  obtain ⟨p, ys, rfl, hq, q⟩ := h
  obtain ⟨u, rfl, rx⟩ := vals1 r
  cases rx
  have hn := line63
  rcases hq with hq | hq
  · obtain ⟨its, r', pl, hz⟩ := I.list hq
    have hlen := r'.length
    exact Calls.call_len_list pl.isList (by simp only [List.size_toArray] <;> omega) ⟨.int ys.length, H, I.tok _, ⟨s.toks + 1, by rw [List.size_toArray, hlen]⟩, q⟩
  · obtain ⟨its, r', pl, hz⟩ := I.tuple hq
    have hlen := r'.length
    exact len_tuple pl (by simp only [List.size_toArray] <;> omega) ⟨.int ys.length, H, I.tok _, ⟨s.toks + 1, by rw [List.size_toArray, hlen]⟩, q⟩
theorem call_len_str : CallR X (.builtin "len") (fun xs H Q => ∃ z, xs = [.str z] ∧ z.length ≤ sizeLine ∧ Q (.int z.length) H) := by
  intro pins s σ H xs us Q I r h
  obtain ⟨z, rfl, hz, q⟩ := h
  obtain ⟨u, rfl, t, rfl⟩ := vals1 r
  have hn := line63
  exact len_str (by omega) ⟨.int z.length, H, I.tok _, ⟨_, rfl⟩, q⟩
theorem CallR.or {f : Value} {r r' : List V → Hp → VK → Prop} (h : CallR X f r) (h' : CallR X f r') : CallR X f (fun xs H Q => r xs H Q ∨ r' xs H Q) := by
  intro pins s σ H xs us Q I rs q
  rcases q with q | q
  · exact h pins s σ H xs us Q I rs q
  · exact h' pins s σ H xs us Q I rs q
theorem call_list_of : CallR X (.type "list") (fun xs H Q => ∃ p ys, xs = [.ref p] ∧ (SqL X.K H p ys ∨ SqT X.K H p ys) ∧ ∀ l, H l = none → Q (.ref l) (upd H l (.lst ys))) := by
  intro pins s σ H xs us Q I r h
  obtain ⟨p, ys, rfl, hq, q⟩ := h
  obtain ⟨u, rfl, rx⟩ := vals1 r
  cases rx
  have fin : ∀ (its : List Value), Vals ys its → ys.length ≤ sizeLine → ∀ (h' : Heap) (c' : Nat), (∀ b o', s.heap.get? b = some o' → h'.get? b = some o') →
      h'.get? s.heap.objs.size = some { cls := .type "list", dict := none, data := .seq its.toArray c', slots := #[] } → EP X pins σ Q (.ref s.heap.objs.size) { s with heap := h' } := fun its r' hz h' c' kp e =>
    ⟨.ref s.heap.objs.size, _, I.laid (t' := s.toks) kp (Nat.le_refl _) (show ObjOk X.prog X.w _ h' _ (.lst ys) from ⟨hz, its, c', r', e⟩), rfl, q _ (I.hok.fresh (Nat.le_refl _))⟩
  rcases hq with hq | hq
  · obtain ⟨its, r', pl, hz⟩ := I.list hq
    have hlen := r'.length
    obtain ⟨o, ho, hc, n, hd⟩ := pl.isList
    exact call_list_seq p (.inl rfl) ho hc hd (fun h' c' kp e => fin its r' hz h' c' kp e) (by simp only [List.size_toArray] <;> omega)
  · obtain ⟨its, r', pl, hz⟩ := I.tuple hq
    have hlen := r'.length
    obtain ⟨o, ho, hc, n, hd⟩ := pl
    exact call_list_seq p (.inr rfl) ho hc hd (fun h' c' kp e => fin its r' hz h' c' kp e) (by simp only [List.size_toArray] <;> omega)
theorem call_tuple_of : CallR X (.type "tuple") (fun xs H Q => ∃ p ys, xs = [.ref p] ∧ ((SqL X.K H p ys ∧ ∀ l, H l = none → Q (.ref l) (upd H l (.tup ys))) ∨ (SqT X.K H p ys ∧ Q (.ref p) H))) := by
  intro pins s σ H xs us Q I r h
  obtain ⟨p, ys, rfl, h⟩ := h
  obtain ⟨u, rfl, rx⟩ := vals1 r
  cases rx
  rcases h with ⟨hq, q⟩ | ⟨hq, q⟩
  · obtain ⟨its, r', pl, hz⟩ := I.list hq
    have hlen := r'.length
    refine call_tuple_list pl.isList (fun h' kp => ?_) (by simp only [List.size_toArray] <;> omega)
    have I1 : Inv X pins σ H { s with heap := h' } := I.kept (t' := s.toks) kp
    have I2 : Inv X pins σ (upd H h'.objs.size (.tup ys)) { s with heap := h'.push { cls := .type "tuple", data := .seq its.toArray } } :=
      I1.laid (t' := s.toks) (fun b o e => Heap.get?_push_of_some _ e) (Nat.le_refl _) (show ObjOk X.prog X.w _ _ _ (.tup ys) from ⟨hz, its, r', IsTup.new _ _⟩)
    exact ⟨.ref h'.objs.size, _, I2, rfl, q _ (I1.hok.fresh (Nat.le_refl _))⟩
  · obtain ⟨its, r', pl, hz⟩ := I.tuple hq
    exact call_tuple_same pl ⟨.ref p, H, I, rfl, q⟩

/-! ### the call of a builtin's method: o.m(..) -/
/-- the value is of that builtin type -/
def tyV (K : PySem.W.Frag) (T : String) (x : V) (H : Hp) : Prop := match x with
  | .str _ => T = "str"
  | .int _ => T = "int"
  | .ref p => (T = "list" ∧ ∃ xs, SqL K H p xs) ∨ (T = "tuple" ∧ ∃ o, K.lookup p = some o ∧ o.cls = .type "tuple" ∧ o.dict = none) ∨
      (T = "dict" ∧ ((∃ kvs, H p = some (.dK kvs)) ∨ ∃ kvs, H p = some (.dT kvs))) ∨ (T = "set" ∧ ∃ S n, H p = some (.set S n))
  | _ => False
theorem tyV_is {pins : List (Addr × Obj)} {σ : St} {H : Hp} {s : Shared} {T : String} {x : V} {v : Value} (I : Inv X pins σ H s) (r : RelV x v) (ty : tyV X.K T x H) :
    s.TypeIs v T ∧ ∀ a, v = .ref a → ∃ ob, s.heap.get? a = some ob ∧ ob.dict = none := by
  cases x with
  | str z =>
    obtain ⟨t, rfl⟩ := r
    cases (show T = "str" from ty)
    exact ⟨typeIs_str s z t, fun _ e => nomatch e⟩
  | int i =>
    obtain ⟨t, rfl⟩ := r
    cases (show T = "int" from ty)
    exact ⟨typeIs_int s i t, fun _ e => nomatch e⟩
  | ref p =>
    cases r
    rcases ty with ⟨rfl, xs, hq⟩ | ⟨rfl, o, hk, hc, hd⟩ | ⟨rfl, hk⟩ | ⟨rfl, S, n, hk⟩
    · obtain ⟨its, _, pl, _⟩ := I.list hq
      refine ⟨pl.isList.typeIs, fun a e => ?_⟩
      cases e
      obtain ⟨o, n, e, c, hd, _⟩ := pl
      exact ⟨o, e, hd⟩
    · refine ⟨⟨o, I.kIn p o hk, hc⟩, fun a e => ?_⟩
      cases e
      exact ⟨o, I.kIn _ o hk, hd⟩
    · have z : ∃ o, s.heap.get? p = some o ∧ o.ExactDict := by
        rcases hk with ⟨kvs, hk⟩ | ⟨kvs, hk⟩
        · obtain ⟨_, _, _, _, o, _, _, e, ex, _⟩ := I.hok p _ hk
          exact ⟨o, e, ex⟩
        · obtain ⟨_, _, _, _, o, _, _, e, ex, _⟩ := I.hok p _ hk
          exact ⟨o, e, ex⟩
      obtain ⟨o, e, ex⟩ := z
      refine ⟨⟨o, e, ex.1⟩, fun a e2 => ?_⟩
      cases e2
      exact ⟨o, e, ex.2.1⟩
    · obtain ⟨o, _, _, _, e, ex, _⟩ := I.hok p _ hk
      refine ⟨⟨o, e, ex.1⟩, fun a e2 => ?_⟩
      cases e2
      exact ⟨o, e, ex.2.1⟩
  | _ => exact False.elim ty
def tBM0 (K : PySem.W.Frag) (T : String) (r : V → List V → Hp → VK → Prop) (to : TE) : TE := fun σ H Q => to σ H fun x H1 => tyV K T x H1 ∧ r x [] H1 Q
def tBM (K : PySem.W.Frag) (T : String) (r : V → List V → Hp → VK → Prop) (to : TE) (t : TA) : TE := fun σ H Q => to σ H fun x H1 => tyV K T x H1 ∧ t σ H1 fun xs H2 => r x xs H2 Q
variable {o e : Expr} {es : List Expr} {to : TE} {t : TA} {name : Str} {apos cpos : Pos} {T id : String} {r : V → List V → Hp → VK → Prop}
theorem pe_bm0 (pa : PlainAttrs T) (slot : Slot T name id) (hty : typeOf (.builtin id) = pure (.type "method_descriptor")) (hm : MtR X id r) (ho : PE X o to)
    (hbase : attributeBase o name X.env (eval o X.env) = eval o X.env := by rfl) (hline : (apos.endLine == cpos.line) = true := by rfl) : PE X (.Call (.Attribute o name apos) [] [] cpos) (tBM0 X.K T r to) := by
  intro pins s σ H Q I h
  refine wpAny_Call_method0_late hbase hline (thn (ho pins s σ H _ I h) fun v s1 ⟨x, H1, I1, r1, ty, q1⟩ => ?_)
  obtain ⟨h1, h2⟩ := tyV_is I1 r1 ty
  exact ⟨T, id, pa, slot, hty, h1, h2, Calls.callWith_builtin rfl (PySem.evalArgs_none (hm pins s1 σ H1 x [] v [] Q I1 r1 .nil q1))⟩
theorem pe_bm (pa : PlainAttrs T) (slot : Slot T name id) (hty : typeOf (.builtin id) = pure (.type "method_descriptor")) (hm : MtR X id r) (ho : PE X o to) (ha : PA X (e :: es) t)
    (hbase : attributeBase o name X.env (eval o X.env) = eval o X.env := by rfl)
    (hfew : ((backTo cpos (starEach (e :: es) X.env)).all (fun x => !x.1) && (backToKw cpos (keywordEach [] X.env)).all (fun x => x.1.isSome)
      && decide ((e :: es).length + ([] : List Keyword).length + (if ([] : List Keyword).isEmpty then 0 else 1) < 30)) = true := by rfl)
    (hline : (apos.endLine == cpos.line) = true := by rfl) (hs : starEach (e :: es) X.env = (false, eval e X.env) :: starEach es X.env := by rfl) (hplain : (backTo cpos (starEach es X.env)).any (·.1) = false := by rfl) :
    PE X (.Call (.Attribute o name apos) (e :: es) [] cpos) (tBM X.K T r to t) := by
  intro pins s σ H Q I h
  refine wpAny_Call_method_late hbase hfew hline rfl (thn (ho pins s σ H _ I h) fun v s1 ⟨x, H1, I1, r1, ty, q1⟩ => ?_)
  obtain ⟨h1, h2⟩ := tyV_is I1 r1 ty
  refine ⟨T, id, pa, slot, hty, h1, h2, ?_⟩
  have hA := ha cpos pins s1 σ H1 _ I1 q1
  rw [hs] at hA ⊢
  refine Calls.callWith_builtin (by show (false || (backTo cpos (starEach es X.env)).any (·.1)) = false; rw [hplain] <;> rfl) (Calls.evalArgs_plain ?_)
  exact thn hA fun us s2 ⟨vs, H2, I2, r2, q2⟩ => hm pins s2 σ H2 x vs v us Q I2 r1 r2 q2
/- xs.append(e), list.index on a module's tuple .. are MtR facts of 06m -/
end
end L2

namespace L2
open PySem PySem.Spec PyProof.Rows

def MtM (X : Cx) (id : String) (r : V → List V → Hp → VK → Prop) : Prop :=
  ∀ (pins : List (Addr × Obj)) (s : Shared) (σ : St) (H : Hp) (x : V) (xs : List V) (v : Value) (us : List Value) (Q : VK), Inv X pins σ H s → RelV x v → Vals xs us → r x xs H Q →
    wpAny (model X.prog X.w) X.A (call (.builtin id) (v :: us)) (EP X pins σ Q) X.xe s

/-! ### lists of values -/
theorem Vals.one : ∀ {x : V} {us : List Value}, Vals [x] us → ∃ u, us = [u] ∧ RelV x u
  | _, _, .cons r .nil => ⟨_, rfl, r⟩
theorem Vals.two : ∀ {x y : V} {us : List Value}, Vals [x, y] us → ∃ u v, us = [u, v] ∧ RelV x u ∧ RelV y v
  | _, _, _, .cons r (.cons q .nil) => ⟨_, _, rfl, r, q⟩
theorem Vals.zero : ∀ {us : List Value}, Vals [] us → us = []
  | _, .nil => rfl
theorem Vals.dropLast {xs : List V} {us : List Value} (h : Vals xs us) : Vals xs.dropLast us.dropLast := by
  induction h with
  | nil => exact .nil
  | cons r t ih =>
    cases t with
    | nil => exact .nil
    | cons q t' => exact .cons r ih
theorem Vals.eraseIdx : ∀ {xs : List V} {us : List Value} (i : Nat), Vals xs us → Vals (xs.eraseIdx i) (us.eraseIdx i)
  | _, _, _, .nil => .nil
  | _, _, 0, .cons _ t => t
  | _, _, i + 1, .cons r t => .cons r (Vals.eraseIdx i t)
theorem Vals.reverse {xs : List V} {us : List Value} (h : Vals xs us) : Vals xs.reverse us.reverse := by
  induction h with
  | nil => exact .nil
  | cons r t ih => rw [List.reverse_cons, List.reverse_cons]; exact Vals.append ih (.cons r .nil)
theorem Vals.rep {xs : List V} {us : List Value} (h : Vals xs us) : ∀ k : Nat, Vals (List.replicate k xs).flatten (List.replicate k us).flatten
  | 0 => .nil
  | k + 1 => by
    rw [List.replicate_succ, List.replicate_succ, List.flatten_cons, List.flatten_cons]
    exact Vals.append h (Vals.rep h k)
theorem erase_last {α : Type} (l : List α) : l.eraseIdx (l.length - 1) = l.dropLast := by
  induction l with
  | nil => rfl
  | cons a r ih =>
    cases r with
    | nil => rfl
    | cons b r =>
      have e : (a :: b :: r).length - 1 = ((b :: r).length - 1) + 1 := by
        have h1 : (a :: b :: r).length = r.length + 2 := rfl
        have h2 : (b :: r).length = r.length + 1 := rfl
        omega
      rw [e, List.eraseIdx_cons_succ, ih]
      all_goals rfl
theorem len_erase {α : Type} : ∀ (l : List α) (i : Nat), (l.eraseIdx i).length ≤ l.length
  | [], _ => Nat.le_refl _
  | _ :: _, 0 => Nat.le_succ _
  | _ :: r, i + 1 => Nat.succ_le_succ (len_erase r i)
theorem foldl_rep (its : List Value) : ∀ (k : Nat) (acc : List Value),
    List.foldl (fun x1 x2 => x1 ++ x2) acc.toArray (List.replicate k its.toArray) = (acc ++ (List.replicate k its).flatten).toArray
  | 0, acc => by simp
  | k + 1, acc => by
    have e : acc.toArray ++ its.toArray = (acc ++ its).toArray := by simp
    have e2 : (acc ++ its) ++ (List.replicate k its).flatten = acc ++ (List.replicate (k + 1) its).flatten := by
      rw [List.replicate_succ, List.flatten_cons, List.append_assoc]
    rw [← e2, ← foldl_rep its k (acc ++ its), ← e, List.replicate_succ, List.foldl_cons]

section
variable {X : Cx} {pins : List (Addr × Obj)} {σ : St} {H : Hp} {s : Shared} {l b : Addr} {xs ys zs : List V}

/-! ### the two steps: a tracked list is rewritten, a new list is laid -/
theorem Inv.lset {its its' : List Value} {n : Nat} {f : Array Value → Array Value} {t' : Nat} (I : Inv X pins σ H s) (hH : H l = some (.lst xs))
    (e : s.heap.get? l = some { cls := .type "list", data := .seq its.toArray n }) (hf : f its.toArray = its'.toArray) (hv : Vals ys its') (hz : ys.length ≤ sizeLine) :
    Inv X pins σ (upd H l (.lst ys)) { s with heap := s.heap.update l (Obj.mapSeq f), toks := t' } := by
  have q := PySem.IsL.update e f
  rw [hf] at q
  refine I.write (x := l) (e := l) (by rw [hH]; exact trivial) (.inl rfl) (fun b' u hb hu => (Heap.get?_update_other s.heap (Obj.mapSeq f) (Ne.symm hb)).trans hu) ⟨_, q⟩ ?_
  exact ⟨hz, its', _, hv, q⟩
theorem Inv.lnew {its : List Value} {t' : Nat} (I : Inv X pins σ H s) (hv : Vals ys its) (hz : ys.length ≤ sizeLine) :
    Inv X pins σ (upd H s.heap.objs.size (.lst ys)) { s with heap := s.heap.push { cls := .type "list", data := .seq its.toArray }, toks := t' } :=
  I.laid (fun _ _ q => Heap.get?_push_of_some _ q) (Nat.le_refl _) ⟨hz, its, 0, hv, Heap.get?_push_size _ rfl⟩
theorem Inv.fresh (I : Inv X pins σ H s) : H s.heap.objs.size = none := I.hok.fresh (Nat.le_refl _)
theorem Inv.lstM (I : Inv X pins σ H s) (hH : H l = some (.lst xs)) : xs.length ≤ sizeLine ∧ ∃ (its : List Value) (n : Nat), Vals xs its ∧ xs.length = its.length ∧ s.heap.get? l = some { cls := .type "list", data := .seq its.toArray n } := by
  obtain ⟨z, its, n, r, e⟩ := I.hok l _ hH
  exact ⟨z, its, n, r, r.length, e⟩

theorem notLongL {n : Nat} (h : n ≤ sizeLine) : Builtin.List.listTooLong n = false := by
  unfold Builtin.List.listTooLong
  exact decide_eq_false (by omega)
end

section
variable {X : Cx}

/-! ### methods -/
def rAppend : V → List V → Hp → VK → Prop := fun x vs H Q => ∃ l xs y, x = .ref l ∧ vs = [y] ∧ H l = some (.lst xs) ∧ xs.length < sizeLine ∧ Q .non (upd H l (.lst (xs ++ [y])))
theorem mt_append : MtM X "list.append" rAppend := by
  intro pins s σ H x vs v us Q I rx rv h
  obtain ⟨l, xs, y, rfl, rfl, hH, hz, q⟩ := h
  cases rx
  obtain ⟨u, rfl, ru⟩ := rv.one
  obtain ⟨z, its, n, r, hl, e⟩ := I.lstM hH
  refine call_meets F.slot_list_append ⟨_, e, rfl⟩ F.entry_list_append (F.args_list_append_2 _ _) (PySem.list_append l its.toArray n u (by rw [List.size_toArray]; omega)) ⟨e, ?_⟩
  refine ⟨.non, _, I.lset (its' := its ++ [u]) hH e (by simp) (r.append (.cons ru .nil)) ?_, rfl, q⟩
  rw [List.length_append, List.length_singleton]
  omega

def rExtend : V → List V → Hp → VK → Prop := fun x vs H Q => ∃ l b xs zs, x = .ref l ∧ vs = [.ref b] ∧ H l = some (.lst xs) ∧ H b = some (.lst zs) ∧ xs.length + zs.length ≤ sizeLine ∧ Q .non (upd H l (.lst (xs ++ zs)))
theorem mt_extend : MtM X "list.extend" rExtend := by
  intro pins s σ H x vs v us Q I rx rv h
  obtain ⟨l, b, xs, zs, rfl, rfl, hH, hB, hz, q⟩ := h
  cases rx
  obtain ⟨u, rfl, ru⟩ := rv.one
  cases ru
  obtain ⟨z, its, n, r, hl, e⟩ := I.lstM hH
  obtain ⟨z2, its2, n2, r2, hl2, e2⟩ := I.lstM hB
  have hsz : its.toArray.size + its2.toArray.size ≤ sizeLine := by rw [List.size_toArray, List.size_toArray]; omega
  have hlong : ¬ (!its.toArray.isEmpty && Builtin.List.listTooLong (its.toArray.size + its2.toArray.size)) = true := by
    rw [notLongL hsz, Bool.and_false]
    exact Bool.false_ne_true
  refine call_meets F.slot_list_extend ⟨_, e, rfl⟩ F.entry_list_extend (F.args_list_extend_2 _ _)
    (AutoSeq1.list_extend_list_list_0 l its.toArray n b its2.toArray n2 hlong (by rw [List.size_toArray]; omega) (by omega)) ⟨e, e2, ?_⟩
  refine ⟨.non, _, I.lset (its' := its ++ its2) hH e (by simp) (r.append r2) ?_, rfl, q⟩
  rw [List.length_append]
  omega

def rPop : V → List V → Hp → VK → Prop := fun x vs H Q => ∃ l xs y, x = .ref l ∧ vs = [] ∧ H l = some (.lst xs) ∧ xs[xs.length - 1]? = some y ∧ Q y (upd H l (.lst xs.dropLast))
theorem mt_pop : MtM X "list.pop" rPop := by
  intro pins s σ H x vs v us Q I rx rv h
  obtain ⟨l, xs, y, rfl, rfl, hH, hy, q⟩ := h
  cases rx
  have hus := rv.zero
  subst hus
  obtain ⟨z, its, n, r, hl, e⟩ := I.lstM hH
  obtain ⟨u, hu, ru⟩ := r.get hy
  have hy' : its.toArray[its.toArray.size - 1]? = some u := by
    show its.toArray[its.length - 1]? = some u
    rw [← Array.getElem?_toList, ← hl]
    exact hu
  refine call_meets F.slot_list_pop ⟨_, e, rfl⟩ F.entry_list_pop (F.args_list_pop_1 _) (MeetsSeq.list_pop_last l its.toArray n u hy' (by rw [List.size_toArray]; omega)) ⟨e, ?_⟩
  refine ⟨y, _, I.lset (its' := its.dropLast) hH e ?_ r.dropLast ?_, ru, q⟩
  · show its.toArray.eraseIdxIfInBounds (its.toArray.size - 1) = its.dropLast.toArray
    rw [List.size_toArray, List.eraseIdxIfInBounds_toArray, erase_last]
  · rw [List.length_dropLast]
    omega

def rPopAt : V → List V → Hp → VK → Prop := fun x vs H Q => ∃ l xs i k y, x = .ref l ∧ vs = [.int i] ∧ H l = some (.lst xs) ∧ -(2 ^ 63) ≤ i ∧ i < 2 ^ 63 ∧ seqIndex? i xs.length = some k ∧ xs[k]? = some y ∧ Q y (upd H l (.lst (xs.eraseIdx k)))
theorem mt_popAt : MtM X "list.pop" rPopAt := by
  intro pins s σ H x vs v us Q I rx rv h
  obtain ⟨l, xs, i, k, y, rfl, rfl, hH, h1, h2, hk, hy, q⟩ := h
  cases rx
  obtain ⟨u, rfl, ru⟩ := rv.one
  obtain ⟨t, rfl⟩ := ru
  obtain ⟨z, its, n, r, hl, e⟩ := I.lstM hH
  obtain ⟨w, hw, rw'⟩ := r.get hy
  refine call_meets F.slot_list_pop ⟨_, e, rfl⟩ F.entry_list_pop (F.args_list_pop_2 _ _)
    (MeetsSeq.list_pop_at l its.toArray n i t k w (fitsIndex_both h1 h2) (by rw [List.size_toArray, ← hl]; exact hk) (by rw [← Array.getElem?_toList]; exact hw) (by rw [List.size_toArray]; omega)) ⟨e, ?_⟩
  refine ⟨y, _, I.lset (its' := its.eraseIdx k) hH e ?_ (r.eraseIdx k) ?_, rw', q⟩
  · show its.toArray.eraseIdxIfInBounds k = (its.eraseIdx k).toArray
    rw [List.eraseIdxIfInBounds_toArray]
  · have := len_erase xs k
    omega

def rReverse : V → List V → Hp → VK → Prop := fun x vs H Q => ∃ l xs, x = .ref l ∧ vs = [] ∧ H l = some (.lst xs) ∧ Q .non (upd H l (.lst xs.reverse))
theorem mt_reverse : MtM X "list.reverse" rReverse := by
  intro pins s σ H x vs v us Q I rx rv h
  obtain ⟨l, xs, rfl, rfl, hH, q⟩ := h
  cases rx
  have hus := rv.zero
  subst hus
  obtain ⟨z, its, n, r, hl, e⟩ := I.lstM hH
  refine call_meets F.slot_list_reverse ⟨_, e, rfl⟩ F.entry_list_reverse (F.args_list_reverse_1 _) (AutoSeq1.list_reverse_list_0 l its.toArray n (by rw [List.size_toArray]; omega)) ⟨e, ?_⟩
  refine ⟨.non, _, I.lset (its' := its.reverse) hH e (by simp) r.reverse ?_, rfl, q⟩
  rw [List.length_reverse]
  omega

def rClear : V → List V → Hp → VK → Prop := fun x vs H Q => ∃ l xs, x = .ref l ∧ vs = [] ∧ H l = some (.lst xs) ∧ Q .non (upd H l (.lst []))
theorem mt_clear : MtM X "list.clear" rClear := by
  intro pins s σ H x vs v us Q I rx rv h
  obtain ⟨l, xs, rfl, rfl, hH, q⟩ := h
  cases rx
  have hus := rv.zero
  subst hus
  obtain ⟨z, its, n, r, hl, e⟩ := I.lstM hH
  refine call_meets F.slot_list_clear ⟨_, e, rfl⟩ F.entry_list_clear (F.args_list_clear_1 _) (AutoSeq1.list_clear_list_0 l its.toArray n (by rw [List.size_toArray]; omega)) ⟨e, ?_⟩
  exact ⟨.non, _, I.lset (its' := []) (ys := []) hH e rfl .nil (Nat.zero_le _), rfl, q⟩

/-! ### list + list, list += list, list * int -/
def rCat : R2 := fun x y H Q => ∃ l b xs zs, x = .ref l ∧ y = .ref b ∧ H l = some (.lst xs) ∧ H b = some (.lst zs) ∧ xs.length + zs.length ≤ sizeLine ∧ ∀ p, H p = none → Q (.ref p) (upd H p (.lst (xs ++ zs)))
theorem op_cat : OpR X (binaryOp .Add) rCat := by
  intro pins s σ H x y v u Q I rx ry h
  obtain ⟨l, b, xs, zs, rfl, rfl, hH, hB, hz, q⟩ := h
  cases rx
  cases ry
  obtain ⟨z, its, n, r, hl, e⟩ := I.lstM hH
  obtain ⟨z2, its2, n2, r2, hl2, e2⟩ := I.lstM hB
  refine PySem.P.add_list e e2 ?_ (by rw [List.size_toArray, List.size_toArray]; omega)
  have ea : its.toArray ++ its2.toArray = (its ++ its2).toArray := by simp
  rw [ea]
  exact ⟨.ref _, _, I.lnew (t' := s.toks) (r.append r2) (by rw [List.length_append]; omega), rfl, q _ I.fresh⟩
/-- a list times an int (a negative one is nothing) -/
def rRep : R2 := fun x y H Q => ∃ l k xs, x = .ref l ∧ y = .int k ∧ H l = some (.lst xs) ∧ -(2 ^ 63) ≤ k ∧ k < 2 ^ 63 ∧ xs.length * k.toNat ≤ sizeLine ∧
  ∀ p, H p = none → Q (.ref p) (upd H p (.lst (List.replicate k.toNat xs).flatten))
theorem len_rep {α : Type} (xs : List α) (k : Nat) : (List.replicate k xs).flatten.length = k * xs.length := by
  induction k with
  | zero => simp
  | succ k ih => rw [List.replicate_succ, List.flatten_cons, List.length_append, ih, Nat.succ_mul, Nat.add_comm]
theorem op_rep : OpR X (binaryOp .Mult) rRep := by
  intro pins s σ H x y v u Q I rx ry h
  obtain ⟨l, k, xs, rfl, rfl, hH, h1, h2, hz, q⟩ := h
  cases rx
  obtain ⟨t, rfl⟩ := ry
  obtain ⟨z, its, n, r, hl, e⟩ := I.lstM hH
  have hlen : its.toArray.size * k.toNat ≤ sizeLine := by rw [List.size_toArray, ← hl]; exact hz
  have hcap : ¬ its.toArray.size * k.toNat > (2 ^ 63 - 1) / 8 := by
    have : (sizeLine : Nat) ≤ (2 ^ 63 - 1) / 8 := by decide
    omega
  have hfit : ¬ (!Builtin.List.listFitsIndex k) = true := by
    rw [fitsIndex_both h1 h2]
    exact Bool.false_ne_true
  have hlong : ¬ Builtin.List.listTooLong (its.toArray.size * k.toNat) = true := by
    rw [notLongL hlen]
    exact Bool.false_ne_true
  have hnew : List.foldl (fun x1 x2 => x1 ++ x2) #[] (List.replicate (if its.toArray.isEmpty = true then 0 else k.toNat) its.toArray) = (List.replicate k.toNat its).flatten.toArray := by
    have f0 : ∀ m : Nat, List.foldl (fun x1 x2 => x1 ++ x2) #[] (List.replicate m its.toArray) = (List.replicate m its).flatten.toArray := fun m => by
      have := foldl_rep its m []
      rw [List.nil_append] at this
      exact this
    rw [f0]
    cases its with
    | nil => simp
    | cons a r' => rw [if_neg (by simp)]
  refine wpAny_binaryOp_repeat_ref (T := "list") (U := "int") (by decide) ⟨_, e, rfl⟩ (fun s' => typeIs_int s' k t) noFill_list_mul F.fills_int_mul F.slot_int_rmul repeat_list F.slot_int_index.lookup
    (call_meets F.slot_int_rmul (typeIs_int s k t) F.entry_int_rmul (F.args_int_rmul_2 _ _) (int___rmul___int_list k t l its.toArray n)
      ⟨e, rfl, ⟨_, e, rfl⟩, call_meets F.slot_list_mul ⟨_, e, rfl⟩ F.entry_list_mul (F.args_list_mul_2 _ _) (AutoListH.list___mul___list_int_3 l its.toArray n k t hfit hcap hlong) ⟨e, ?_⟩⟩)
  rw [hnew]
  exact ⟨.ref _, _, I.lnew (t' := s.toks) (r.rep k.toNat) (by rw [len_rep, Nat.mul_comm]; exact hz), rfl, q _ I.fresh⟩

/-! ### del xs[i] -/
theorem del_list {pins : List (Addr × Obj)} {s : Shared} {σ : St} {H : Hp} {l : Addr} {xs : List V} {i : Int} {t : Tok} {k : Nat} {Q : Unit → Shared → Prop} (I : Inv X pins σ H s) (hH : H l = some (.lst xs))
    (h1 : -(2 ^ 63) ≤ i) (h2 : i < 2 ^ 63) (hk : seqIndex? i xs.length = some k) (h : ∀ s', Inv X pins σ (upd H l (.lst (xs.eraseIdx k))) s' → Q () s') :
    wpAny (model X.prog X.w) X.A (delItem (.ref l) (.int i t)) Q X.xe s := by
  obtain ⟨z, its, n, r, hl, e⟩ := I.lstM hH
  refine PySem.P.delItem_list (k := k) e (fitsIndex_both h1 h2) (by rw [List.size_toArray, ← hl]; exact hk) (h _ ?_) (by rw [List.size_toArray]; omega)
  refine I.lset (its' := its.eraseIdx k) (t' := s.toks) hH e ?_ (r.eraseIdx k) ?_
  · show its.toArray.eraseIdxIfInBounds k = (its.eraseIdx k).toArray
    rw [List.eraseIdxIfInBounds_toArray]
  · have := len_erase xs k
    omega
end

/-! ### xs[a:b] = ys -/
section
variable {prog : Program} {w : World} {A : Around} {E : Value → Shared → Prop} {s : Shared}
theorem splice_eq (its its2 : List Value) (a c : Nat) : its.toArray.extract 0 a ++ its2.toArray ++ its.toArray.extract c its.toArray.size = (its.take a ++ its2 ++ its.drop c).toArray := by
  apply Array.toList_inj.mp
  first
    | (simp
       exact List.take_of_length_le (by simp))
    | simp [List.take_of_length_le]
    | simp
theorem bounds_run {a c n : Nat} (hac : a ≤ c) (hc : c ≤ n) : sliceBounds (some (a : Int)) (some (c : Int)) none n = ((a : Int), (c : Int), 1) := by
  simp only [sliceBounds, Option.getD_none]
  have h1 : ¬ ((a : Int) < 0) := by omega
  have h2 : ¬ ((c : Int) < 0) := by omega
  simp only [h1, h2, if_false, show (1 : Int) > 0 by decide, if_true]
  congr 1
  · omega
  · congr 1; omega
set_option maxRecDepth 100000 in
/-- list.__setitem__ with a slice of step one and another list -/
theorem setItem_slice {l b sl : Addr} {items new : Array Value} {n n2 : Nat} {vl vu : Value} {a c : Nat} {Q : Unit → Shared → Prop}
    (e : s.heap.get? l = some { cls := .type "list", data := .seq items n }) (e2 : s.heap.get? b = some { cls := .type "list", data := .seq new n2 }) (hne : l ≠ b)
    (hs : s.heap.IsSliceOf sl vl vu .none) (pl : IsPart vl (some (a : Int))) (pu : IsPart vu (some (c : Int))) (hac : a ≤ c) (hc : c ≤ items.size)
    (hsz : items.size + new.size ≤ sizeLine) (h : Q () { s with heap := s.heap.update l (Obj.mapSeq fun xs => xs.extract 0 a ++ new ++ xs.extract c xs.size) }) :
    wpAny (model prog w) A (setItem (.ref l) (.ref sl) (.ref b)) Q E s := by
  have hl : s.heap.IsList l items := PySem.IsL.isList e
  have hb : s.heap.IsList b new := PySem.IsL.isList e2
  obtain ⟨os, hos, hcs, hds⟩ := id hs
  have hTs : s.TypeIs (.ref sl) "slice" := ⟨os, hos, hcs⟩
  have hstep : ¬ ((rawPart none == rawInt 0) = true) := Bool.false_ne_true
  have hsame : Builtin.List.listSameRef (.ref l) (.ref b) = false := by
    unfold Builtin.List.listSameRef
    exact beq_eq_false_iff_ne.mpr hne
  have hmax : (max (a : Int) (c : Int)).toNat = c := by omega
  have hz' : ((fun xs : Array Value => xs.extract 0 a ++ new ++ xs.extract c xs.size) items).size ≤ sizeLine + 1 := by
    simp only [Array.size_append, Array.size_extract]
    omega
  unfold setItem
  try with_reducible refine wpAny_holding ?_
  first | refine wpAny_bind (wpAny_pure ?_) | skip
  refine wpAny_bind (wpAny_sequenceKey hl.typeIs (by decide) ?_)
  refine wpAny_bind (wpAny_callSpecial?_slot (name := Str.ofString "__setitem__") hl.typeIs slot_list_setitem
    (wpAny_call_entry slot_list_setitem hl.typeIs entry_list_setitem ?_ (args_list_setitem _ _ _)))
  show wpAny _ _ (Builtin.List.listSubscript? (.ref sl) >>= _) _ _ s
  refine wpAny_bind ?_
  unfold Builtin.List.listSubscript?
  refine wpAny_bind (wpAny_specialOf hTs slice_no_index ?_)
  simp only [Option.isNone_none, if_true]
  refine wpAny_pure ?_
  show wpAny _ _ (typeOf (.ref sl) >>= _) _ _ s
  refine wpAny_bind (wpAny_typeOf hTs ?_)
  first
    | rw [if_neg (by decide)]
    | refine PySem.W.KFB.if_not (by decide) ?_
  rw [listSliceParts_eq]
  refine wpAny_bind (wpAny_bind (wpAny_field hos hds (x := .none) rfl (wpAny_bind (wpAny_listPart .none ?_))))
  rw [if_neg hstep]
  refine wpAny_bind (wpAny_field hos hds (x := vl) rfl (wpAny_bind (wpAny_listPart pl ?_)))
  refine wpAny_bind (wpAny_field hos hds (x := vu) rfl (wpAny_bind (wpAny_listPart pu (wpAny_pure ?_))))
  first
    | simp only [hsame, Bool.false_eq_true, if_false]
    | refine PySem.W.KFB.if_not hsame ?_
    | (dsimp only
       rw [if_neg (by rw [hsame]; exact Bool.false_ne_true)])
  refine wpAny_bind (m := Builtin.List.listAllItems (.ref b) "must assign iterable to extended slice") ?_
  unfold Builtin.List.listAllItems
  refine wpAny_bind (wpAny_typeOf hb.typeIs ?_)
  first
    | refine PySem.W.KFB.if_so (by decide) ?_
    | rw [if_pos (by decide)]
    | simp only [beq_self_eq_true, Bool.true_or, if_true]
  unfold Builtin.List.listItems
  refine wpAny_bind (wpAny_seqItems e2 rfl (wpAny_pure ?_))
  refine wpAny_bind (wpAny_bind (wpAny_seqItems e rfl (wpAny_pure ?_)))
  refine wpAny_bind (wpAny_of_eq ((sliceIndices_raw (some (a : Int)) (some (c : Int)) none items.size (by simp)).trans (congrArg (pure : Int × Int × Int → Sem (Int × Int × Int)) (bounds_run hac hc))) ?_)
  show wpAny _ _ (if ((1 : Int) == 1) = true then _ else _) _ _ s
  rw [if_pos (by decide)]
  refine wpAny_bind (wpAny_rule ?_)
  first
    | simp only [notLongL hsz, Bool.false_eq_true, if_false]
    | refine PySem.W.KFB.if_not (notLongL hsz) ?_
  first | refine wpAny_bind (wpAny_pure ?_) | skip
  show wpAny _ _ (updateSeq l (fun xs => xs.extract 0 ((a : Int)).toNat ++ new ++ xs.extract (max (a : Int) (c : Int)).toNat xs.size) >>= _) _ _ s
  rw [hmax, Int.toNat_natCast]
  refine wpAny_bind (wpAny_updateSeq (hz := Nat.le_trans (Nat.le_add_right _ _) hsz) (_hz' := hz') e rfl ?_)
  refine wpAny_bind (wpAny_letGo ?_)
  first
    | exact wpAny_bind (wpAny_pure (wpAny_pure ⟨.none, rfl, wpAny_pure h⟩))
    | exact wpAny_pure ⟨.none, rfl, wpAny_pure h⟩
end

section
variable {X : Cx}
/-- xs[a:c] = ys of another list, at the value level: sl is the slice object that was just made -/
theorem set_slice {pins : List (Addr × Obj)} {s : Shared} {σ : St} {H : Hp} {l b sl : Addr} {xs ys : List V} {a c : Int} {vl vu : Value} {Q : Unit → Shared → Prop} (I : Inv X pins σ H s)
    (hH : H l = some (.lst xs)) (hB : H b = some (.lst ys)) (hne : l ≠ b) (hs : s.heap.IsSliceOf sl vl vu .none) (ra : RelV (.int a) vl) (rc : RelV (.int c) vu) (h0 : 0 ≤ a) (hac : a ≤ c) (hc : c ≤ xs.length)
    (hz : xs.length + ys.length ≤ sizeLine) (h : ∀ s', Inv X pins σ (upd H l (.lst (xs.take a.toNat ++ ys ++ xs.drop c.toNat))) s' → Q () s') :
    wpAny (model X.prog X.w) X.A (setItem (.ref l) (.ref sl) (.ref b)) Q X.xe s := by
  obtain ⟨ta, rfl⟩ := ra
  obtain ⟨tc, rfl⟩ := rc
  obtain ⟨z, its, n, r, hl, e⟩ := I.lstM hH
  obtain ⟨z2, its2, n2, r2, hl2, e2⟩ := I.lstM hB
  obtain ⟨a', rfl⟩ := Int.eq_ofNat_of_zero_le h0
  obtain ⟨c', rfl⟩ := Int.eq_ofNat_of_zero_le (Int.le_trans h0 hac)
  simp only [Int.toNat_natCast] at h
  refine setItem_slice (a := a') (c := c') e e2 hne hs (.int _ _) (.int _ _) (by omega) (by rw [List.size_toArray]; omega) (by rw [List.size_toArray, List.size_toArray]; omega) (h _ ?_)
  refine I.lset (its' := its.take a' ++ its2 ++ its.drop c') (t' := s.toks) hH e ?_ (Vals.append (Vals.append (r.take _) r2) (r.drop _)) ?_
  · exact splice_eq its its2 a' c'
  · rw [List.length_append, List.length_append, List.length_take, List.length_drop]
    omega
end
end L2

namespace L2
open PySem PySem.Spec PyProof.Rows

/-! ### lists of pairs as tables -/
section
variable {κ : Type} [DecidableEq κ]
def valV (kvs : List (κ × V)) (k : κ) : Option V := (kvs.find? fun kv => decide (kv.1 = k)).map (·.2)
/-- in its place, or at the end -/
def putK (kvs : List (κ × V)) (k : κ) (v : V) : List (κ × V) :=
  if (kvs.any fun kv => decide (kv.1 = k)) = true then kvs.map (fun kv => if kv.1 = k then (kv.1, v) else kv) else kvs ++ [(k, v)]
def dropK (kvs : List (κ × V)) (k : κ) : List (κ × V) := kvs.filter fun kv => decide (kv.1 ≠ k)

theorem valV_nil {k : κ} : valV ([] : List (κ × V)) k = none := rfl
theorem valV_pos {p : κ × V} {r : List (κ × V)} {k : κ} (e : p.1 = k) : valV (p :: r) k = some p.2 := by simp [valV, List.find?_cons, e]
theorem valV_neg {p : κ × V} {r : List (κ × V)} {k : κ} (e : ¬ p.1 = k) : valV (p :: r) k = valV r k := by simp [valV, List.find?_cons, e]
theorem valV_any (k : κ) : ∀ kvs : List (κ × V), (kvs.any fun kv => decide (kv.1 = k)) = (valV kvs k).isSome
  | [] => rfl
  | p :: r => by
    rw [List.any_cons]
    by_cases e : p.1 = k
    · simp only [valV_pos e, decide_eq_true e, Bool.true_or, Option.isSome_some]
    · rw [valV_neg e, decide_eq_false e, Bool.false_or]; exact valV_any k r
theorem valV_map (k j : κ) (y : V) : ∀ kvs : List (κ × V), valV (kvs.map fun kv => if kv.1 = k then (kv.1, y) else kv) j = (valV kvs j).map fun x => if j = k then y else x
  | [] => rfl
  | p :: r => by
    have ih := valV_map k j y r
    rw [List.map_cons]
    by_cases h : p.1 = k
    · rw [if_pos h]
      by_cases e : p.1 = j
      · rw [valV_pos (p := (p.1, y)) e, valV_pos e, Option.map_some, if_pos (e.symm.trans h)]
      · rw [valV_neg (p := (p.1, y)) e, valV_neg e, ih]
    · rw [if_neg h]
      by_cases e : p.1 = j
      · rw [valV_pos (p := p) e, valV_pos e, Option.map_some, if_neg (fun z => h (e.trans z))]
      · rw [valV_neg (p := p) e, valV_neg e, ih]
theorem valV_snoc (k j : κ) (y : V) : ∀ kvs : List (κ × V), valV kvs k = none → valV (kvs ++ [(k, y)]) j = if j = k then some y else valV kvs j
  | [], _ => by
    by_cases e : k = j
    · rw [if_pos e.symm]; exact valV_pos (p := (k, y)) e
    · rw [if_neg (fun z => e z.symm)]; exact valV_neg (p := (k, y)) e
  | p :: r, hn => by
    rw [List.cons_append]
    have hk : ¬ p.1 = k := fun z => by rw [valV_pos z] at hn; cases hn
    rw [valV_neg hk] at hn
    have ih := valV_snoc k j y r hn
    by_cases e : p.1 = j
    · rw [valV_pos e, valV_pos e, if_neg (fun z => hk (e.trans z))]
    · rw [valV_neg e, valV_neg e, ih]
theorem valV_put (kvs : List (κ × V)) (k j : κ) (y : V) : valV (putK kvs k y) j = if j = k then some y else valV kvs j := by
  unfold putK
  by_cases a : (kvs.any fun kv => decide (kv.1 = k)) = true
  · rw [if_pos a, valV_map]
    rw [valV_any] at a
    by_cases e : j = k
    · obtain ⟨x, hx⟩ := Option.isSome_iff_exists.mp a
      rw [if_pos e, e, hx, Option.map_some, if_pos rfl]
    · rw [if_neg e]
      cases valV kvs j with
      | none => rfl
      | some x => rw [Option.map_some, if_neg e]
  · rw [if_neg a]
    refine valV_snoc k j y kvs ?_
    rw [valV_any] at a
    cases q : valV kvs k with
    | none => rfl
    | some x => rw [q] at a; exact (a rfl).elim
theorem length_putK (kvs : List (κ × V)) (k : κ) (v : V) : (putK kvs k v).length ≤ kvs.length + 1 := by
  unfold putK
  split
  · rw [List.length_map]; omega
  · rw [List.length_append, List.length_cons, List.length_nil]; omega
theorem putK_new {kvs : List (κ × V)} {k : κ} (v : V) (h : valV kvs k = none) : putK kvs k v = kvs ++ [(k, v)] := by
  unfold putK
  rw [valV_any, h]
  exact if_neg (by decide)

theorem RelO.isSome_eq {o : Option V} {u : Option Value} (r : RelO o u) : o.isSome = u.isSome := by
  cases o with
  | none => cases u with
    | none => rfl
    | some _ => exact (show False from r).elim
  | some _ => cases u with
    | none => exact (show False from r).elim
    | some _ => rfl
theorem RelO.getD {o : Option V} {u : Option Value} {d : V} {d' : Value} (r : RelO o u) (rd : RelV d d') : RelV (o.getD d) (u.getD d') := by
  cases o with
  | none => cases u with
    | none => exact rd
    | some _ => exact (show False from r).elim
  | some _ => cases u with
    | none => exact (show False from r).elim
    | some _ => exact r

/-- raw tables of the same keys -/
theorem KV.val {kvs : List (κ × V)} {vs : List (κ × Value)} (r : KV kvs vs) (k : κ) : RelO (valV kvs k) (valueAt vs k) := by
  unfold KV at r
  induction r with
  | nil => exact True.intro
  | @cons p q ps qs h t ih =>
    obtain ⟨h1, h2⟩ := h
    by_cases e : p.1 = k
    · have e' : q.1 = k := h1.symm.trans e
      have b : valueAt (q :: qs) k = some q.2 := by simp [valueAt, List.find?_cons, e']
      rw [valV_pos e, b]; exact h2
    · have e' : ¬ q.1 = k := fun z => e (h1.trans z)
      have b : valueAt (q :: qs) k = valueAt qs k := by simp [valueAt, List.find?_cons, e']
      rw [valV_neg e, b]; exact ih
theorem KV.any {kvs : List (κ × V)} {vs : List (κ × Value)} (r : KV kvs vs) (k : κ) : (kvs.any fun kv => decide (kv.1 = k)) = vs.any fun kv => decide (kv.1 = k) := by
  unfold KV at r
  induction r with
  | nil => rfl
  | cons h t ih => rw [List.any_cons, List.any_cons, ih, h.1]
theorem KV.repl {kvs : List (κ × V)} {vs : List (κ × Value)} (r : KV kvs vs) (k : κ) {y : V} {u : Value} (ry : RelV y u) :
    KV (kvs.map fun kv => if kv.1 = k then (kv.1, y) else kv) (vs.map fun kv => if kv.1 = k then (kv.1, u) else kv) := by
  unfold KV at r ⊢
  induction r with
  | nil => exact .nil
  | @cons p q ps qs h t ih =>
    rw [List.map_cons, List.map_cons]
    refine .cons ?_ ih
    obtain ⟨h1, h2⟩ := h
    by_cases e : p.1 = k
    · rw [if_pos e, if_pos (h1.symm.trans e)]; exact ⟨h1, ry⟩
    · rw [if_neg e, if_neg (fun z => e (h1.trans z))]; exact ⟨h1, h2⟩
theorem KV.put {kvs : List (κ × V)} {vs : List (κ × Value)} (r : KV kvs vs) (k : κ) {y : V} {u : Value} (ry : RelV y u) : KV (putK kvs k y) (stored vs k u) := by
  unfold putK stored
  rw [r.any k]
  by_cases e : (vs.any fun kv => decide (kv.1 = k)) = true
  · rw [if_pos e, if_pos e]; exact r.repl k ry
  · rw [if_neg e, if_neg e]; exact Paired.snoc r ⟨rfl, ry⟩
theorem KV.drop {kvs : List (κ × V)} {vs : List (κ × Value)} (r : KV kvs vs) (k : κ) : KV (dropK kvs k) (without vs k) := by
  unfold KV at r ⊢
  unfold dropK without
  induction r with
  | nil => exact .nil
  | @cons p q ps qs h t ih =>
    obtain ⟨h1, h2⟩ := h
    rw [List.filter_cons, List.filter_cons]
    by_cases e : p.1 = k
    · have a : ¬ decide (p.1 ≠ k) = true := by simp [e]
      have b : ¬ decide (q.1 ≠ k) = true := by simp [h1.symm.trans e]
      rw [if_neg a, if_neg b]; exact ih
    · have e' : ¬ q.1 = k := fun z => e (h1.trans z)
      have a : decide (p.1 ≠ k) = true := by simp [e]
      have b : decide (q.1 ≠ k) = true := by simp [e']
      rw [if_pos a, if_pos b]; exact .cons ⟨h1, h2⟩ ih
theorem KV.keys {kvs : List (κ × V)} {vs : List (κ × Value)} (r : KV kvs vs) : kvs.map (·.1) = vs.map (·.1) := by
  unfold KV at r
  induction r with
  | nil => rfl
  | cons h t ih => rw [List.map_cons, List.map_cons, ih, h.1]
theorem KV.length {kvs : List (κ × V)} {vs : List (κ × Value)} (r : KV kvs vs) : kvs.length = vs.length := Paired.length r
theorem dropK_le (kvs : List (κ × V)) (k : κ) : (dropK kvs k).length ≤ kvs.length := List.length_filter_le _ _
end


/-! ### a tracked dict, its keys ints and texts or tuples of these -/
theorem kV_is {P : Program} {w : World} {k : Key} {u : Value} (r : RelV (kV k) u) : (mixKind P w).is k u = true := by
  cases k with
  | inl i => obtain ⟨t, e⟩ := (show ∃ t, u = Value.int i t from r); subst e; exact mixKind_int P w i t
  | inr x => obtain ⟨t, e⟩ := (show ∃ t, u = Value.str x t from r); subst e; exact mixKind_str P w x t
theorem kV_inj {a b : Key} (e : kV a = kV b) : a = b := by
  cases a with
  | inl i => cases b with
    | inl j => have e' : V.int i = V.int j := e; injection e' with e'; rw [e']
    | inr y => exact nomatch (show V.int i = V.str y from e)
  | inr x => cases b with
    | inl j => exact nomatch (show V.str x = V.int j from e)
    | inr y => have e' : V.str x = V.str y := e; injection e' with e'; rw [e']
theorem kVs_inj : ∀ {a b : List Key}, a.map kV = b.map kV → a = b
  | [], [], _ => rfl
  | [], _ :: _, e => by simp at e
  | _ :: _, [], e => by simp at e
  | x :: xs, y :: ys, e => by
    rw [List.map_cons, List.map_cons] at e
    injection e with e1 e2
    rw [kV_inj e1, kVs_inj e2]
theorem items_are {P : Program} {w : World} : ∀ {ks : List Key} {us : List Value}, Vals (ks.map kV) us → ItemsAre (mixKind P w) ks us
  | [], _, r => by rw [List.map_nil] at r; cases r; exact .nil
  | k :: ks, _, r => by
    rw [List.map_cons] at r
    cases r with
    | cons h t => exact .cons (kV_is h) (items_are t)

/-- raw entries of a dict with tuple keys -/
abbrev KT (H : Hp) : List (List Key × V) → List (List Key × Addr × Value) → Prop := Paired fun p q => p.1 = q.1 ∧ H q.2.1 = some (.tup (p.1.map kV)) ∧ RelV p.2 q.2.2
theorem KT.val {H : Hp} {kvs : List (List Key × V)} {xs : List (List Key × Addr × Value)} (r : KT H kvs xs) (k : List Key) : RelO (valV kvs k) ((atKey xs k).map (·.2)) := by
  induction r with
  | nil => exact True.intro
  | @cons p q ps qs h t ih =>
    obtain ⟨h1, _, h2⟩ := h
    by_cases e : p.1 = k
    · have e' : q.1 = k := h1.symm.trans e
      have b : atKey (q :: qs) k = some q.2 := by simp [atKey, List.find?_cons, e']
      rw [valV_pos e, b]; exact h2
    · have e' : ¬ q.1 = k := fun z => e (h1.trans z)
      have b : atKey (q :: qs) k = atKey qs k := by simp [atKey, List.find?_cons, e']
      rw [valV_neg e, b]; exact ih
theorem KT.repl {H : Hp} {kvs : List (List Key × V)} {xs : List (List Key × Addr × Value)} (r : KT H kvs xs) (k : List Key) {y : V} {u : Value} (ry : RelV y u) :
    KT H (kvs.map fun kv => if kv.1 = k then (kv.1, y) else kv) (xs.map (putAt k u)) := by
  induction r with
  | nil => exact .nil
  | @cons p q ps qs h t ih =>
    rw [List.map_cons, List.map_cons]
    refine .cons ?_ ih
    obtain ⟨h1, h2, h3⟩ := h
    unfold putAt
    by_cases e : p.1 = k
    · rw [if_pos e, if_pos (h1.symm.trans e)]; exact ⟨h1, h2, ry⟩
    · rw [if_neg e, if_neg (fun z => e (h1.trans z))]; exact ⟨h1, h2, h3⟩
theorem KT.put {H : Hp} {kvs : List (List Key × V)} {xs : List (List Key × Addr × Value)} (r : KT H kvs xs) (k : List Key) {b : Addr} {y : V} {u : Value} (hb : H b = some (.tup (k.map kV))) (ry : RelV y u) :
    KT H (putK kvs k y) (storedH xs k b u) := by
  have e : (kvs.any fun kv => decide (kv.1 = k)) = (atKey xs k).isSome := by
    rw [valV_any, (r.val k).isSome_eq, Option.isSome_map]
  unfold putK storedH
  rw [e]
  by_cases q : (atKey xs k).isSome = true
  · rw [if_pos q, if_pos q]; exact r.repl k ry
  · rw [if_neg q, if_neg q]; exact Paired.snoc r ⟨rfl, hb, ry⟩
theorem KT.keeps {H H' : Hp} {kvs : List (List Key × V)} {xs : List (List Key × Addr × Value)} (r : KT H kvs xs) (ht : ∀ b ys, H b = some (.tup ys) → H' b = some (.tup ys)) : KT H' kvs xs :=
  Paired.mapP r fun _ _ z => ⟨z.1, ht _ _ z.2.1, z.2.2⟩

section
variable {P : Program} {w : World} {H : Hp} {h : Heap} {a : Addr}
theorem rd_of {u : HO} (ok : HOk P w H h) (e : Rd H a u) : ObjOk P w H h a u := e.ok ok
theorem dk_rd {kvs : List (Key × V)} (ok : HOk P w H h) (e : Rd H a (.dK kvs)) : kvs.length ≤ sizeLine ∧ (a == sysModules) = false ∧ ∃ vs, KV kvs vs ∧ h.DictOf (mixKind P w) a vs :=
  show ObjOk P w H h a (.dK kvs) from rd_of ok e
theorem dk_of {kvs : List (Key × V)} (ok : HOk P w H h) (e : H a = some (.dK kvs)) : kvs.length ≤ sizeLine ∧ (a == sysModules) = false ∧ ∃ vs, KV kvs vs ∧ h.DictOf (mixKind P w) a vs := dk_rd ok (.inl e)
/-- a tracked tuple of ints and texts is a key -/
theorem key_of {ks : List Key} (ok : HOk P w H h) (e : H a = some (.tup (ks.map kV))) : (tupleKind (mixKind P w)).is h ks a := by
  obtain ⟨_, its, r, o, h1, h2, n, h3⟩ := (show ObjOk P w H h a (.tup (ks.map kV)) from ok a _ e)
  exact ⟨o, its.toArray, n, h1, h2, h3, by simpa using items_are r⟩
theorem dt_rd {kvs : List (List Key × V)} (ok : HOk P w H h) (e : Rd H a (.dT kvs)) : kvs.length ≤ sizeLine ∧ (a == sysModules) = false ∧
    ∃ xs, KT H kvs xs ∧ h.DictOfH (tupleKind (mixKind P w)) a xs := by
  obtain ⟨z, y, xs, r, o, es, ep, h1, h2, h3, h4, h5⟩ := (show ObjOk P w H h a (.dT kvs) from rd_of ok e)
  refine ⟨z, y, xs, r, o, es, ep, h1, h2, h3, h4, fun x hx => ?_, h5⟩
  have all : ∀ {l : List (List Key × V)} {m : List (List Key × Addr × Value)}, KT H l m → ∀ x ∈ m, (tupleKind (mixKind P w)).is h x.1 x.2.1 := by
    intro l m q
    induction q with
    | nil => intro x hx; exact nomatch hx
    | @cons p q ps qs hq t ih =>
      intro x hx
      rcases List.mem_cons.mp hx with e | hx
      · subst e
        exact key_of ok (by rw [← hq.1]; exact hq.2.1)
      · exact ih x hx
  exact all r x hx
theorem dt_of {kvs : List (List Key × V)} (ok : HOk P w H h) (e : H a = some (.dT kvs)) : kvs.length ≤ sizeLine ∧ (a == sysModules) = false ∧
    ∃ xs, KT H kvs xs ∧ h.DictOfH (tupleKind (mixKind P w)) a xs := dt_rd ok (.inl e)
end

/-- what the dict at a holds at the key y -/
def DGet (H : Hp) (a : Addr) (y : V) (r : Option V) : Prop :=
  (∃ kvs k, Rd H a (.dK kvs) ∧ y = kV k ∧ r = valV kvs k) ∨ ∃ kvs k b, Rd H a (.dT kvs) ∧ y = .ref b ∧ H b = some (.tup (k.map kV)) ∧ r = valV kvs k
/-- the heap behind a[y] = v -/
def DPut (H : Hp) (a : Addr) (y v : V) (H' : Hp) : Prop :=
  (∃ kvs k, H a = some (.dK kvs) ∧ y = kV k ∧ kvs.length < sizeLine ∧ H' = upd H a (.dK (putK kvs k v))) ∨
  ∃ kvs k b, H a = some (.dT kvs) ∧ y = .ref b ∧ H b = some (.tup (k.map kV)) ∧ kvs.length < sizeLine ∧ H' = upd H a (.dT (putK kvs k v))
theorem DGet.k {H : Hp} {a : Addr} {kvs : List (Key × V)} {k : Key} (e : H a = some (.dK kvs)) : DGet H a (kV k) (valV kvs k) := .inl ⟨kvs, k, .inl e, rfl, rfl⟩
theorem DGet.t {H : Hp} {a b : Addr} {kvs : List (List Key × V)} {k : List Key} (e : H a = some (.dT kvs)) (eb : H b = some (.tup (k.map kV))) : DGet H a (.ref b) (valV kvs k) := .inr ⟨kvs, k, b, .inl e, rfl, eb, rfl⟩
theorem DPut.k {H : Hp} {a : Addr} {kvs : List (Key × V)} {k : Key} {v : V} (e : H a = some (.dK kvs)) (hl : kvs.length < sizeLine) : DPut H a (kV k) v (upd H a (.dK (putK kvs k v))) := .inl ⟨kvs, k, e, rfl, hl, rfl⟩
theorem DPut.t {H : Hp} {a b : Addr} {kvs : List (List Key × V)} {k : List Key} {v : V} (e : H a = some (.dT kvs)) (eb : H b = some (.tup (k.map kV))) (hl : kvs.length < sizeLine) :
    DPut H a (.ref b) v (upd H a (.dT (putK kvs k v))) := .inr ⟨kvs, k, b, e, rfl, eb, hl, rfl⟩


section
variable {X : Cx} {pins : List (Addr × Obj)} {σ : St} {H : Hp} {s : Shared} {a : Addr} {y v : V} {u r : Value} {o : Option V} {A : Around} {E : Value → Shared → Prop}

theorem Inv.big (I : Inv X pins σ H s) : sysModules < s.heap.objs.size := by
  have h : mainGlobals < s.heap.objs.size := (I.mod.glob.keeps I.bk).lt
  exact Nat.lt_trans (by decide) h

/-- d[y], there -/
theorem d_getItem {Q : Value → Shared → Prop} (hu : A.units + 1 < cLine) (I : Inv X pins σ H s) (g : DGet H a y (some v)) (ry : RelV y u) (h : ∀ w' s', Inv X pins σ H s' → RelV v w' → Q w' s') :
    wpAny (model X.prog X.w) A (getItem (.ref a) u) Q E s := by
  rcases g with ⟨kvs, k, e, ey, l⟩ | ⟨kvs, k, b, e, ey, eb, l⟩
  · subst ey
    obtain ⟨z, hd, vs, rel, dd⟩ := dk_rd I.hok e
    obtain ⟨w', hw, rw'⟩ := RelO.some_of (v := v) (o := valueAt vs k) (by rw [l]; exact rel.val k)
    exact wpAny_getItem_of (kV_is ry) dd.mapOf hw (h w' _ (I.tok _) rw')
  · subst ey
    cases (show u = Value.ref b from ry)
    obtain ⟨z, hd, xs, rel, dd⟩ := dt_rd I.hok e
    obtain ⟨w', hw, rw'⟩ := RelO.some_of (v := v) (o := (atKey xs k).map (·.2)) (by rw [l]; exact rel.val k)
    obtain ⟨p, hp, hp2⟩ := Option.map_eq_some_iff.mp hw
    refine wpAny_getItem_heap (tupleKind_room_in1 hu) (key_of I.hok eb) dd hp ?_
    rw [hp2]
    exact h w' _ (I.tok _) rw'
/-- y in d -/
theorem d_in {Q : Value → Shared → Prop} (hu : A.units + 1 < cLine) (I : Inv X pins σ H s) (g : DGet H a y o) (ry : RelV y u) (h : ∀ s', Inv X pins σ H s' → Q (.bool o.isSome) s') :
    wpAny (model X.prog X.w) A (compareOp .In u (.ref a)) Q E s := by
  rcases g with ⟨kvs, k, e, ey, l⟩ | ⟨kvs, k, b, e, ey, eb, l⟩
  · subst ey
    obtain ⟨z, hd, vs, rel, dd⟩ := dk_rd I.hok e
    refine wpAny_in_of (kV_is ry) hd dd.mapOf ?_
    rw [← (rel.val k).isSome_eq, ← l]
    exact h _ (I.tok _)
  · subst ey
    cases (show u = Value.ref b from ry)
    obtain ⟨z, hd, xs, rel, dd⟩ := dt_rd I.hok e
    refine wpAny_in_heap (tupleKind_room_in1 hu) (key_of I.hok eb) hd dd ?_
    have q := (rel.val k).isSome_eq
    rw [Option.isSome_map] at q
    rw [← q, ← l]
    exact h _ (I.tok _)
theorem d_notIn {Q : Value → Shared → Prop} (hu : A.units + 1 < cLine) (I : Inv X pins σ H s) (g : DGet H a y o) (ry : RelV y u) (h : ∀ s', Inv X pins σ H s' → Q (.bool (!o.isSome)) s') :
    wpAny (model X.prog X.w) A (compareOp .NotIn u (.ref a)) Q E s := by
  rcases g with ⟨kvs, k, e, ey, l⟩ | ⟨kvs, k, b, e, ey, eb, l⟩
  · subst ey
    obtain ⟨z, hd, vs, rel, dd⟩ := dk_rd I.hok e
    refine wpAny_notIn_of (kV_is ry) hd dd.mapOf ?_
    rw [← (rel.val k).isSome_eq, ← l]
    exact h _ (I.tok _)
  · subst ey
    cases (show u = Value.ref b from ry)
    obtain ⟨z, hd, xs, rel, dd⟩ := dt_rd I.hok e
    refine wpAny_notIn_heap (tupleKind_room_in1 hu) (key_of I.hok eb) hd dd ?_
    have q := (rel.val k).isSome_eq
    rw [Option.isSome_map] at q
    rw [← q, ← l]
    exact h _ (I.tok _)
/-- a dict's object is replaced -/
theorem d_write {h' : Heap} {t' : Nat} {ob : HO} (I : Inv X pins σ H s) (mu : Mut (H a)) (hs : Heap.SameBut a s.heap h') (he : ∃ q, h'.get? a = some q) (new : ObjOk X.prog X.w (upd H a ob) h' a ob) :
    Inv X pins σ (upd H a ob) { s with heap := h', toks := t' } :=
  I.write (x := a) (e := a) mu (.inl rfl) (fun b q hb z => (hs.2 b hb).trans z) he new
theorem dk_new {P : Program} {w : World} {H' : Hp} {h' : Heap} {kvs : List (Key × V)} {vs : List (Key × Value)} (z : kvs.length ≤ sizeLine) (hd : (a == sysModules) = false) (rel : KV kvs vs) (dd : h'.DictOf (mixKind P w) a vs) :
    ObjOk P w H' h' a (.dK kvs) := ⟨z, hd, vs, rel, dd⟩
/-- d[y] = v -/
theorem d_setItem {H' : Hp} {Q : Unit → Shared → Prop} (hu : A.units + 1 < cLine) (I : Inv X pins σ H s) (g : DPut H a y v H') (ry : RelV y u) (rv : RelV v r) (h : ∀ s', Inv X pins σ H' s' → Q () s') :
    wpAny (model X.prog X.w) A (setItem (.ref a) u r) Q E s := by
  rcases g with ⟨kvs, k, e, ey, l, eH⟩ | ⟨kvs, k, b, e, ey, eb, l, eH⟩
  · subst ey eH
    obtain ⟨z, hd, vs, rel, dd⟩ := dk_of I.hok e
    have hz : vs.length ≤ sizeLine := by rw [← rel.length]; exact z
    have hl : (putK kvs k v).length ≤ sizeLine := by have := length_putK kvs k v; omega
    refine wpAny_setItem_pairs (hsz := hz) (kV_is ry) dd fun h' dd' hs => h _ ?_
    have he : ∃ q, h'.get? a = some q := let ⟨q, _, _, hq, _⟩ := dd'; ⟨q, hq⟩
    exact d_write I (by rw [e]; exact True.intro) hs he (dk_new hl hd (rel.put k rv) dd')
  · subst ey eH
    cases (show u = Value.ref b from ry)
    obtain ⟨z, hd, xs, rel, dd⟩ := dt_of I.hok e
    have hz : xs.length ≤ sizeLine := by rw [← Paired.length rel]; exact z
    have hl : (putK kvs k v).length ≤ sizeLine := by have := length_putK kvs k v; omega
    refine wpAny_setItem_heap (hsz := hz) (tupleKind_room_in1 hu) (key_of I.hok eb) dd fun h' dd' hs => h _ ?_
    obtain ⟨q, es, ep, hq, h2, h3, h4, _, h5⟩ := dd'
    refine d_write I (by rw [e]; exact True.intro) hs ⟨q, hq⟩ ⟨hl, hd, _, (rel.put k eb rv).keeps fun c ys ec => ?_, q, es, ep, hq, h2, h3, h4, h5⟩
    rw [upd_ne (ne_of ec e (fun z => nomatch z))]
    exact ec
end

section
variable {X : Cx} {pins : List (Addr × Obj)} {σ : St} {H : Hp} {s : Shared} {a : Addr} {kvs : List (Key × V)} {k : Key} {u : Value} {A : Around} {E : Value → Shared → Prop}
/-- del d[k] -/
theorem d_delItem {Q : Unit → Shared → Prop} (I : Inv X pins σ H s) (e : H a = some (.dK kvs)) (ry : RelV (kV k) u) (l : (valV kvs k).isSome = true) (h : ∀ s', Inv X pins σ (upd H a (.dK (dropK kvs k))) s' → Q () s') :
    wpAny (model X.prog X.w) A (delItem (.ref a) u) Q E s := by
  obtain ⟨z, hd, vs, rel, dd⟩ := dk_of I.hok e
  refine wpAny_delItem_slot dd.typeIs (by decide) PySem.F.slot_dict_delitem
    (call_meetsIn PySem.F.slot_dict_delitem dd.typeIs PySem.F.entry_dict_delitem (PySem.F.args_dict_delitem_2 _ _) (meets_dict_delitem_pairs (mixKind X.prog X.w) a (kV_is ry)) ⟨vs, dd, by rw [← rel.length]; exact z, by rw [← (rel.val k).isSome_eq]; exact l, fun h' dd' hs => h _ ?_⟩)
  have he : ∃ q, h'.get? a = some q := let ⟨q, _, _, hq, _⟩ := dd'; ⟨q, hq⟩
  exact d_write I (by rw [e]; exact True.intro) hs he (dk_new (Nat.le_trans (dropK_le kvs k) z) hd (rel.drop k) dd')
/-- d.pop(k[, x]), there -/
theorem d_pop {v : V} {more : List Value} {Q : Value → Shared → Prop} (I : Inv X pins σ H s) (e : H a = some (.dK kvs)) (ry : RelV (kV k) u) (l : valV kvs k = some v) (hm : more = [] ∨ ∃ x, more = [x])
    (h : ∀ w' s', Inv X pins σ (upd H a (.dK (dropK kvs k))) s' → RelV v w' → Q w' s') : wpAny (model X.prog X.w) A (call (.builtin "dict.pop") (.ref a :: u :: more)) Q E s := by
  obtain ⟨z, hd, vs, rel, dd⟩ := dk_of I.hok e
  obtain ⟨w', hw, rw'⟩ := RelO.some_of (v := v) (o := valueAt vs k) (by rw [← l]; exact rel.val k)
  have hp : (keyPart u).isSome = true := by
    cases k with
    | inl i => obtain ⟨t, q⟩ := (show ∃ t, u = Value.int i t from ry); subst q; rfl
    | inr x => obtain ⟨t, q⟩ := (show ∃ t, u = Value.str x t from ry); subst q; rfl
  have ha : argsOk "dict.pop" ⟨.ref a :: u :: more, []⟩ := by
    rcases hm with q | ⟨x, q⟩
    · subst q; exact PySem.F.args_dict_pop_2 _ _
    · subst q; exact PySem.F.args_dict_pop_3 _ _ _
  refine call_meetsIn PySem.F.slot_dict_pop dd.typeIs PySem.F.entry_dict_pop ha (meets_dict_pop_there (mixKind X.prog X.w) a (kV_is ry) more hm hp)
    ⟨vs, w', dd, by rw [← rel.length]; exact z, hw, fun h' dd' hs => h w' _ ?_ rw'⟩
  have he : ∃ q, h'.get? a = some q := let ⟨q, _, _, hq, _⟩ := dd'; ⟨q, hq⟩
  exact d_write I (by rw [e]; exact True.intro) hs he (dk_new (Nat.le_trans (dropK_le kvs k) z) hd (rel.drop k) dd')
/-- d.pop(k, x), not there -/
theorem d_popD {r : Value} {Q : Value → Shared → Prop} (I : Inv X pins σ H s) (e : H a = some (.dK kvs)) (ry : RelV (kV k) u) (l : valV kvs k = none) (h : ∀ s', Inv X pins σ H s' → Q r s') :
    wpAny (model X.prog X.w) A (call (.builtin "dict.pop") [.ref a, u, r]) Q E s := by
  obtain ⟨z, hd, vs, rel, dd⟩ := dk_of I.hok e
  have hn : valueAt vs k = none := RelO.none_of (by rw [← l]; exact rel.val k)
  have hp : (keyPart u).isSome = true := by
    cases k with
    | inl i => obtain ⟨t, q⟩ := (show ∃ t, u = Value.int i t from ry); subst q; rfl
    | inr x => obtain ⟨t, q⟩ := (show ∃ t, u = Value.str x t from ry); subst q; rfl
  exact call_meetsIn PySem.F.slot_dict_pop dd.typeIs PySem.F.entry_dict_pop (PySem.F.args_dict_pop_3 _ _ _) (meets_dict_pop_default (mixKind X.prog X.w) a (kV_is ry) hd hp r) ⟨vs, dd, hn, h _ (I.tok _)⟩
/-- d.clear() -/
theorem d_clear {Q : Value → Shared → Prop} (I : Inv X pins σ H s) (e : H a = some (.dK kvs)) (h : ∀ s', Inv X pins σ (upd H a (.dK [])) s' → Q .none s') : wpAny (model X.prog X.w) A (call (.builtin "dict.clear") [.ref a]) Q E s := by
  obtain ⟨z, hd, vs, rel, dd⟩ := dk_of I.hok e
  refine call_meetsIn PySem.F.slot_dict_clear dd.typeIs PySem.F.entry_dict_clear (PySem.F.args_dict_clear_1 _) (meets_dict_clear (mixKind X.prog X.w) a) ⟨vs, dd, by rw [← rel.length]; exact z, fun h' dd' hs => h _ ?_⟩
  have he : ∃ q, h'.get? a = some q := let ⟨q, _, _, hq, _⟩ := dd'; ⟨q, hq⟩
  exact d_write (t' := s.toks) I (by rw [e]; exact True.intro) hs he (dk_new (Nat.zero_le _) hd .nil dd')
/-- len(d) -/
theorem d_len {Q : Value → Shared → Prop} (I : Inv X pins σ H s) (e : Rd H a (.dK kvs)) (h : ∀ t s', Inv X pins σ H s' → Q (.int kvs.length t) s') : wpAny (model X.prog X.w) A (call (.builtin "len") [.ref a]) Q E s := by
  obtain ⟨z, hd, vs, rel, dd⟩ := dk_rd I.hok e
  refine call_len_dict hd dd (by rw [← rel.length]; rw [sizeLine_eq] at z; omega) ?_
  rw [← rel.length]
  exact h _ _ (I.tok _)
/-- if d -/
theorem d_truth {Q : Bool → Shared → Prop} (I : Inv X pins σ H s) (e : Rd H a (.dK kvs)) (h : ∀ s', Inv X pins σ H s' → Q (!kvs.isEmpty) s') : wpAny (model X.prog X.w) A (truthy (.ref a)) Q E s := by
  obtain ⟨z, hd, vs, rel, dd⟩ := dk_rd I.hok e
  refine wpAny_truthy_dict hd dd (by rw [← rel.length]; rw [sizeLine_eq] at z; omega) ?_
  have q : kvs.isEmpty = vs.isEmpty := by cases rel <;> rfl
  rw [← q]
  exact h _ (I.tok _)
end


/-! ### readings and rules -/
/-- the element of a subscription, not a slice -/
def NoSl (i : Expr) : Prop := ∀ ov iv, subscripted i false ov iv = operate [ov, iv] (getItem ov iv)
theorem subD_of {prog : Program} {w : World} {A : Around} {E : Value → Shared → Prop} {s : Shared} {env : Env} {value slice : Expr} {pos : Pos} {T id : String} {Q : Value → Shared → Prop}
    (hl : typeLookup (.type T) "__getitem__" = pure (some (.builtin id))) (hs : NoSl slice)
    (h : wpAny (model prog w) A (eval value env) (fun o s₁ => wpAny (model prog w) A (eval slice env) (fun i s₂ => s₂.TypeIs o T ∧ wpAny (model prog w) A (getItem o i) Q E s₂) E s₁) E s) :
    wpAny (model prog w) A (eval (.Subscript value slice pos) env) Q E s := by
  refine Subscript_ (wpAny_mono h (fun o s₁ h₁ => wpAny_mono h₁ (fun i s₂ h₂ => ?_) fun _ _ x => x) fun _ _ x => x)
  obtain ⟨hT, h₂⟩ := h₂
  unfold subscriptTail
  refine wpAny_bind ?_
  rw [getitemInPython_of_ne hT.not_modules]
  refine wpAny_bind (wpAny_specialOf hT hl ?_)
  have fin : wpAny (model prog w) A (subscripted slice false o i) (fun r s₃ => wpAny (model prog w) A (letTemporaryGo value o r >>= fun _ => pure r) Q E s₃) E s₂ := by
    rw [hs o i]
    exact wpAny_operating (wpAny_mono h₂ (fun r s₃ h₃ => wpAny_bind (wpAny_letTemporaryGo (wpAny_pure h₃))) fun _ _ x => x)
  first
    | exact wpAny_pure (wpAny_bind fin)
    | exact wpAny_bind (wpAny_pure (wpAny_bind fin))
    | exact wpAny_bind fin

theorem dict_typeIs {X : Cx} {pins : List (Addr × Obj)} {σ : St} {H : Hp} {s : Shared} {a : Addr} {y : V} {o : Option V} (I : Inv X pins σ H s) (g : DGet H a y o) : s.TypeIs (.ref a) "dict" := by
  rcases g with ⟨kvs, k, e, _, _⟩ | ⟨kvs, k, b, e, _, _, _⟩
  · obtain ⟨_, _, vs, _, dd⟩ := dk_rd I.hok e
    exact dd.typeIs
  · obtain ⟨_, _, xs, _, dd⟩ := dt_rd I.hok e
    exact dd.typeIs
theorem dict_noDict {X : Cx} {pins : List (Addr × Obj)} {σ : St} {H : Hp} {s : Shared} {a : Addr} {y : V} {o : Option V} (I : Inv X pins σ H s) (g : DGet H a y o) :
    ∀ b, Value.ref a = .ref b → ∃ ob, s.heap.get? b = some ob ∧ ob.dict = none := fun b q => by
  cases q
  rcases g with ⟨kvs, k, e, _, _⟩ | ⟨kvs, k, b, e, _, _, _⟩
  · obtain ⟨_, _, vs, _, ob, _, _, h1, h2, _⟩ := dk_rd I.hok e
    exact ⟨ob, h1, h2.2.1⟩
  · obtain ⟨_, _, xs, _, ob, _, _, h1, h2, _⟩ := dt_rd I.hok e
    exact ⟨ob, h1, h2.2.1⟩

/-- d[y] -/
def tDGet (td ty : TE) : TE := fun σ H Q => td σ H fun x H1 => ty σ H1 fun y H2 => ∃ a v, x = .ref a ∧ DGet H2 a y (some v) ∧ Q v H2
/-- y in d, y not in d -/
def tDIn (ty td : TE) : TE := fun σ H Q => ty σ H fun y H1 => td σ H1 fun x H2 => ∃ a o, x = .ref a ∧ DGet H2 a y o ∧ Q (.bl o.isSome) H2
def tDNotIn (ty td : TE) : TE := fun σ H Q => ty σ H fun y H1 => td σ H1 fun x H2 => ∃ a o, x = .ref a ∧ DGet H2 a y o ∧ Q (.bl (!o.isSome)) H2
/-- d[y] = v -/
def sDPut (td ty tv : TE) : TS := fun D σ H => tv σ H fun v H1 => td σ H1 fun x H2 => ty σ H2 fun y H3 => ∃ a H4, x = .ref a ∧ DPut H3 a y v H4 ∧ D.nx σ H4
/-- d[y] op= v -/
def sDAug (td ty tv : TE) (rd : V → V → Hp → VK → Prop) : TS := fun D σ H => td σ H fun x H1 => ty σ H1 fun y H2 => ∃ a v, x = .ref a ∧ DGet H2 a y (some v) ∧
  tv σ H2 fun y2 H3 => rd v y2 H3 fun z H4 => ∃ H5, DPut H4 a y z H5 ∧ D.nx σ H5
/-- del d[y] -/
def sDDel (td ty : TE) : TS := fun D σ H => td σ H fun x H1 => ty σ H1 fun y H2 => ∃ a kvs k, x = .ref a ∧ H2 a = some (.dK kvs) ∧ y = kV k ∧ (valV kvs k).isSome = true ∧ D.nx σ (upd H2 a (.dK (dropK kvs k)))

section
variable {X : Cx} {o i e value : Expr} {pos pos' tpos : Pos} {td ty tv : TE}
theorem pe_dget (hu : X.A.units + 1 < cLine) (ho : PE X o td) (hi : PE X i ty) (hs : NoSl i) : PE X (.Subscript o i pos) (tDGet td ty) := by
  intro pins s σ H Q I h
  refine subD_of PySem.F.slot_dict_getitem.lookup hs (thn (ho pins s σ H _ I h) fun u s1 ⟨x, H1, I1, rx, q1⟩ => thn (hi pins s1 σ H1 _ I1 q1) fun iv s2 ⟨y, H2, I2, ry, a, v, ex, g, q2⟩ => ?_)
  subst ex
  obtain rfl : u = Value.ref a := rx
  exact ⟨dict_typeIs I2 g, d_getItem hu I2 g ry fun w' s3 I3 rw' => ⟨v, H2, I3, rw', q2⟩⟩
theorem pc_din (hu : X.A.units + 1 < cLine) (hi : PE X i ty) (ho : PE X o td) : PC X .In i o (tDIn ty td) := by
  intro pins s σ H Q I h
  refine thn (hi pins s σ H _ I h) fun iv s1 ⟨y, H1, I1, ry, q1⟩ => thn (ho pins s1 σ H1 _ I1 q1) fun u s2 ⟨x, H2, I2, rx, a, ov, ex, g, q2⟩ => ?_
  subst ex
  obtain rfl : u = Value.ref a := rx
  exact d_in hu I2 g ry fun s3 I3 => ⟨.bl ov.isSome, H2, I3, rfl, q2⟩
theorem pc_dnotin (hu : X.A.units + 1 < cLine) (hi : PE X i ty) (ho : PE X o td) : PC X .NotIn i o (tDNotIn ty td) := by
  intro pins s σ H Q I h
  refine thn (hi pins s σ H _ I h) fun iv s1 ⟨y, H1, I1, ry, q1⟩ => thn (ho pins s1 σ H1 _ I1 q1) fun u s2 ⟨x, H2, I2, rx, a, ov, ex, g, q2⟩ => ?_
  subst ex
  obtain rfl : u = Value.ref a := rx
  exact d_notIn hu I2 g ry fun s3 I3 => ⟨.bl (!ov.isSome), H2, I3, rfl, q2⟩
theorem ps_dput (hu : X.A.units + 1 < cLine) (ho : PE X o td) (hi : PE X i ty) (hv : PE X value tv) (hs : swapsWith value (some (.Subscript o i pos')) pos.line X.env = pure false) :
    PS X (.Assign [.Subscript o i pos'] value pos) (sDPut td ty tv) := by
  intro pins s σ H D I h
  refine wpAny_Assign_Subscript (thn (hv pins s σ H _ I h) fun r s1 ⟨v, H1, I1, rv, q1⟩ => thn (ho pins s1 σ H1 _ I1 q1) fun u s2 ⟨x, H2, I2, rx, q2⟩ => thn (hi pins s2 σ H2 _ I2 q2) fun iv s3 ⟨y, H3, I3, ry, a, H4, ex, g, q3⟩ => ?_) hs
  subst ex
  obtain rfl : u = Value.ref a := rx
  exact d_setItem hu I3 g ry rv fun s4 I4 => ⟨σ, H4, I4, q3⟩
theorem ps_daug {op : Operator} {rd : V → V → Hp → VK → Prop} (hu : X.A.units + 1 < cLine) (ho : PE X o td) (hi : PE X i ty) (hv : PE X value tv) (hop : InOp X op rd)
    (ha : ∀ ov iv new, augStore i ov iv new = (do holding [new, ov, iv] (setItem ov iv new); release [new, ov, iv] []; pure .next)) : PS X (.AugAssign (.Subscript o i tpos) op value pos) (sDAug td ty tv rd) := by
  intro pins s σ H D I h
  refine wpAny_AugAssign_SubscriptAny (thn (ho pins s σ H _ I h) fun u s1 ⟨x, H1, I1, rx, q1⟩ => thn (hi pins s1 σ H1 _ I1 q1) fun iv s2 ⟨y, H2, I2, ry, a, v, ex, g, q2⟩ => ?_) ha
  subst ex
  obtain rfl : u = Value.ref a := rx
  refine d_getItem hu I2 g ry fun w' s3 I3 rw' => thn (hv pins s3 σ H2 _ I3 q2) fun w2 s4 ⟨y2, H3, I4, ry2, q3⟩ => thn (hop pins s4 σ H3 v y2 w' w2 _ I4 rw' ry2 q3) fun w3 s5 ⟨z, H4, I5, rz, H5, g5, q4⟩ => ?_
  exact d_setItem hu I5 g5 ry rz fun s6 I6 => ⟨σ, H5, I6, q4⟩
theorem ps_ddel (ho : PE X o td) (hi : PE X i ty) : PS X (.Delete [.Subscript o i tpos] pos) (sDDel td ty) := by
  intro pins s σ H D I h
  refine wpAny_Delete (wpAny_deleteEach_cons (wpAny_delete_Subscript (thn (ho pins s σ H _ I h) fun u s1 ⟨x, H1, I1, rx, q1⟩ => thn (hi pins s1 σ H1 _ I1 q1) fun iv s2 ⟨y, H2, I2, ry, a, kvs, k, ex, e, ey, l, q2⟩ => ?_)))
  subst ex ey
  obtain rfl : u = Value.ref a := rx
  exact d_delItem I2 e ry l fun s3 I3 => wpAny_deleteEach_nil ⟨σ, _, I3, q2⟩
end


/-! ### displays -/
theorem dk_empty {P : Program} {w : World} {H : Hp} (h : Heap) (hb : sysModules < h.objs.size) : ObjOk P w H (h.push { cls := .type "dict", data := .dict #[] }) h.objs.size (.dK []) :=
  ⟨Nat.zero_le _, beq_eq_false_iff_ne.mpr (Ne.symm (Nat.ne_of_lt hb)), [], .nil, Heap.DictOf.new h⟩
theorem dt_empty {P : Program} {w : World} {H : Hp} (h : Heap) (hb : sysModules < h.objs.size) : ObjOk P w H (h.push { cls := .type "dict", data := .dict #[] }) h.objs.size (.dT []) :=
  ⟨Nat.zero_le _, beq_eq_false_iff_ne.mpr (Ne.symm (Nat.ne_of_lt hb)), [], .nil, _, #[], 0, Heap.get?_push_size _ rfl, ⟨rfl, rfl, rfl⟩, rfl, rfl, List.nodup_nil⟩
/-- {}, to be a dict of the kind that is wanted -/
def tDNewK : TE := fun _ H Q => ∀ p, H p = none → Q (.ref p) (upd H p (.dK []))
def tDNewT : TE := fun _ H Q => ∀ p, H p = none → Q (.ref p) (upd H p (.dT []))
section
variable {X : Cx} {pos : Pos}
theorem pe_dnewK : PE X (.Dict [] [] pos) tDNewK := fun pins s σ H Q I h =>
  wpAny_Dict_empty ⟨.ref s.heap.objs.size, _, I.laid (a := s.heap.objs.size) (o := .dK []) (t' := s.toks) (fun _ _ q => Heap.get?_push_of_some _ q) (Nat.le_refl _) (dk_empty s.heap I.big), rfl, h _ (I.hok.fresh (Nat.le_refl _))⟩
theorem pe_dnewT : PE X (.Dict [] [] pos) tDNewT := fun pins s σ H Q I h =>
  wpAny_Dict_empty ⟨.ref s.heap.objs.size, _, I.laid (a := s.heap.objs.size) (o := .dT []) (t' := s.toks) (fun _ _ q => Heap.get?_push_of_some _ q) (Nat.le_refl _) (dt_empty s.heap I.big), rfl, h _ (I.hok.fresh (Nat.le_refl _))⟩
end

/-- the pairs of a display, from the left -/
def tPairs : List (TE × TE) → St → Hp → (List (V × V) → Hp → Prop) → Prop
  | [], _, H, Q => Q [] H
  | (tk, tv) :: r, σ, H, Q => tk σ H fun x H1 => tv σ H1 fun y H2 => tPairs r σ H2 fun ps H3 => Q ((x, y) :: ps) H3
abbrev VV : List (V × V) → List (Value × Value) → Prop := Paired fun p q => RelV p.1 q.1 ∧ RelV p.2 q.2
def PPs (X : Cx) (pos : Pos) (keys : List (Option Expr)) (values : List Expr) (trs : List (TE × TE)) : Prop :=
  ∀ (pins : List (Addr × Obj)) (s : Shared) (σ : St) (H : Hp) (Q : List (V × V) → Hp → Prop), Inv X pins σ H s → tPairs trs σ H Q →
    wpAny (model X.prog X.w) X.A (evalPairs (pairTrees keys values X.env pos)) (fun vs s' => ∃ ps H', Inv X pins σ H' s' ∧ VV ps vs ∧ Q ps H') X.xe s
theorem pps_nil {X : Cx} {pos : Pos} : PPs X pos [] [] [] := fun pins s σ H Q I h => pairTrees_nil_walk ⟨[], H, I, .nil, h⟩
theorem pps_cons {X : Cx} {pos : Pos} {k v : Expr} {ks : List (Option Expr)} {vs : List Expr} {tk tv : TE} {trs : List (TE × TE)} (hk : PE X k tk) (hv : PE X v tv) (hr : PPs X pos ks vs trs) :
    PPs X pos (some k :: ks) (v :: vs) ((tk, tv) :: trs) := fun pins s σ H Q I h =>
  pairTrees_cons_walk (thn (hk pins s σ H _ I h) fun u s1 ⟨x, H1, I1, rx, q1⟩ => thn (hv pins s1 σ H1 _ I1 q1) fun w2 s2 ⟨y, H2, I2, ry, q2⟩ =>
    thn (hr pins s2 σ H2 _ I2 q2) fun ws s3 ⟨ps, H3, I3, rel, q3⟩ => ⟨(x, y) :: ps, H3, I3, .cons ⟨rx, ry⟩ rel, q3⟩)

def mergeK (kvs more : List (Key × V)) : List (Key × V) := more.foldl (fun acc kv => putK acc kv.1 kv.2) kvs
theorem KV.merge : ∀ {more : List (Key × V)} {rs : List (Key × Value)} {kvs : List (Key × V)} {vs : List (Key × Value)}, KV more rs → KV kvs vs → KV (mergeK kvs more) (merged vs rs) := by
  intro more rs kvs vs r
  unfold KV at r
  induction r generalizing kvs vs with
  | nil => intro q; exact q
  | @cons p q ps qs h t ih =>
    intro r0
    have e : KV (putK kvs p.1 p.2) (stored vs q.1 q.2) := by
      have := r0.put p.1 h.2
      rw [← h.1]; exact this
    exact ih e
theorem length_mergeK : ∀ (more kvs : List (Key × V)), (mergeK kvs more).length ≤ kvs.length + more.length
  | [], kvs => by show kvs.length ≤ kvs.length + 0; omega
  | p :: r, kvs => by
    have h1 := length_mergeK r (putK kvs p.1 p.2)
    have h2 := length_putK kvs p.1 p.2
    show (mergeK (putK kvs p.1 p.2) r).length ≤ _
    rw [List.length_cons]; omega
theorem carries_of {P : Program} {w : World} : ∀ {kvs : List (Key × V)} {ws : List (Value × Value)}, VV (kvs.map fun kv => (kV kv.1, kv.2)) ws → ∃ rs, Carries (mixKind P w) ws rs ∧ KV kvs rs
  | [], _, r => by rw [List.map_nil] at r; cases r; exact ⟨[], True.intro, .nil⟩
  | p :: kvs, _, r => by
    rw [List.map_cons] at r
    cases r with
    | @cons a b as bs h t =>
      obtain ⟨rs, c, q⟩ := carries_of (P := P) (w := w) t
      obtain ⟨b1, b2⟩ := b
      exact ⟨(p.1, b2) :: rs, ⟨kV_is h.1, rfl, c⟩, .cons ⟨rfl, h.2⟩ q⟩
/-- {k: v, ..} with keys ints and texts; the new dict stands empty while the pairs are made -/
def tDisp (trs : List (TE × TE)) : TE := fun σ H Q => ∀ p, H p = none → tPairs trs σ (upd H p (.dK [])) fun ps H2 => H2 p = some (.dK []) ∧ ∃ kvs : List (Key × V), ps = kvs.map (fun kv => (kV kv.1, kv.2)) ∧ kvs.length ≤ 15 ∧ Q (.ref p) (upd H2 p (.dK (mergeK [] kvs)))
theorem pe_disp {X : Cx} {pos : Pos} {keys : List (Option Expr)} {values : List Expr} {trs : List (TE × TE)} (h : PPs X pos keys values trs) (hall : keys.all (·.isSome) = true) (hl : keys.length = values.length) (h0 : keys ≠ [])
    (h15 : keys.length ≤ 15) : PE X (.Dict keys values pos) (tDisp trs) := by
  intro pins s σ H Q I q
  have hn := I.hok.fresh (Nat.le_refl s.heap.objs.size)
  have I1 := I.laid (a := s.heap.objs.size) (o := .dK []) (h' := s.heap.push { cls := .type "dict", data := .dict #[] }) (t' := s.toks) (fun _ _ q => Heap.get?_push_of_some _ q) (Nat.le_refl _) (dk_empty s.heap I.big)
  refine wpAny_Dict_walk (knd := mixKind X.prog X.w) hall hl h0 h15 (thn (h pins _ σ _ _ I1 (q _ hn)) fun ws s2 ⟨ps, H2, I2, rel, e, kvs, ep, lk, q2⟩ => ?_)
  subst ep
  obtain ⟨rs, c, rk⟩ := carries_of (P := X.prog) (w := X.w) rel
  obtain ⟨z, hd, vs0, r0, dd⟩ := dk_of I2.hok e
  cases r0
  refine ⟨rs, c, dd, fun h' dd' hs => ⟨.ref s.heap.objs.size, _, ?_, rfl, q2⟩⟩
  have hz : (mergeK [] kvs).length ≤ sizeLine := by
    have h1 := length_mergeK kvs []
    rw [List.length_nil] at h1
    rw [sizeLine_eq]; omega
  have he : ∃ q, h'.get? s.heap.objs.size = some q := let ⟨q, _, _, hq, _⟩ := dd'; ⟨q, hq⟩
  exact d_write I2 (by rw [e]; exact True.intro) hs he (dk_new hz hd (rk.merge .nil) dd')


/-! ### methods -/
/-- a method call o.m(e) of a built-in, with one argument: what must be seen of the text -/
structure M1 (X : Cx) (o : Expr) (m : Str) (apos : Pos) (e : Expr) (cpos : Pos) : Prop where
  base : attributeBase o m X.env (eval o X.env) = eval o X.env
  few : ((backTo cpos (starEach [e] X.env)).all (fun x => !x.1) && (backToKw cpos (keywordEach [] X.env)).all (fun x => x.1.isSome)
    && decide (([e] : List Expr).length + ([] : List Keyword).length + (if ([] : List Keyword).isEmpty then 0 else 1) < 30)) = true
  line : (apos.endLine == cpos.line) = true
  trees : backTo cpos (starEach [e] X.env) = [(false, eval e X.env)]
structure M2 (X : Cx) (o : Expr) (m : Str) (apos : Pos) (e f : Expr) (cpos : Pos) : Prop where
  base : attributeBase o m X.env (eval o X.env) = eval o X.env
  few : ((backTo cpos (starEach [e, f] X.env)).all (fun x => !x.1) && (backToKw cpos (keywordEach [] X.env)).all (fun x => x.1.isSome)
    && decide (([e, f] : List Expr).length + ([] : List Keyword).length + (if ([] : List Keyword).isEmpty then 0 else 1) < 30)) = true
  line : (apos.endLine == cpos.line) = true
  trees : backTo cpos (starEach [e, f] X.env) = [(false, eval e X.env), (false, eval f X.env)]

/-- a is a dict, whatever its keys -/
def IsD (H : Hp) (a : Addr) : Prop := (∃ kvs, Rd H a (.dK kvs)) ∨ ∃ kvs, Rd H a (.dT kvs)
theorem isD_at {X : Cx} {pins : List (Addr × Obj)} {σ : St} {H : Hp} {s : Shared} {a : Addr} (I : Inv X pins σ H s) (d : IsD H a) :
    s.TypeIs (.ref a) "dict" ∧ (∀ b, Value.ref a = .ref b → ∃ ob, s.heap.get? b = some ob ∧ ob.dict = none) ∧ (a == sysModules) = false := by
  rcases d with ⟨kvs, e⟩ | ⟨kvs, e⟩
  · obtain ⟨_, hd, vs, _, dd⟩ := dk_rd I.hok e
    refine ⟨dd.typeIs, fun b q => ?_, hd⟩
    cases q
    obtain ⟨ob, _, _, h1, h2, _⟩ := dd
    exact ⟨ob, h1, h2.2.1⟩
  · obtain ⟨_, hd, xs, _, dd⟩ := dt_rd I.hok e
    refine ⟨dd.typeIs, fun b q => ?_, hd⟩
    cases q
    obtain ⟨ob, _, _, h1, h2, _⟩ := dd
    exact ⟨ob, h1, h2.2.1⟩

section
variable {X : Cx} {pins : List (Addr × Obj)} {σ : St} {H : Hp} {s : Shared} {a : Addr} {y d : V} {u r : Value} {o : Option V} {A : Around} {E : Value → Shared → Prop}
/-- d.get(y) -/
theorem d_get1 {Q : Value → Shared → Prop} (hu : A.units + 1 < cLine) (I : Inv X pins σ H s) (g : DGet H a y o) (ry : RelV y u) (h : ∀ w' s', Inv X pins σ H s' → RelV (o.getD .non) w' → Q w' s') :
    wpAny (model X.prog X.w) A (call (.builtin "dict.get") [.ref a, u]) Q E s := by
  rcases g with ⟨kvs, k, e, ey, l⟩ | ⟨kvs, k, b, e, ey, eb, l⟩
  · subst ey
    obtain ⟨z, hd, vs, rel, dd⟩ := dk_rd I.hok e
    refine call_meetsIn PySem.F.slot_dict_get dd.typeIs PySem.F.entry_dict_get (PySem.F.args_dict_get_2 _ _) (meets_dict_get (mixKind X.prog X.w) a (kV_is ry) hd) ⟨_, dd.mapOf, h _ _ (I.tok _) ?_⟩
    rw [l]
    exact (rel.val k).getD rfl
  · subst ey
    cases (show u = Value.ref b from ry)
    obtain ⟨z, hd, xs, rel, dd⟩ := dt_rd I.hok e
    refine call_meetsIn PySem.F.slot_dict_get dd.typeIs PySem.F.entry_dict_get (PySem.F.args_dict_get_2 _ _) (meetsH_dict_get (tupleKind (mixKind X.prog X.w)) a b hd) ⟨tupleKind_room_in1 hu, k, xs, key_of I.hok eb, dd, h _ _ (I.tok _) ?_⟩
    rw [l]
    exact (rel.val k).getD rfl
/-- d.get(y, x) -/
theorem d_get2 {Q : Value → Shared → Prop} (hu : A.units + 1 < cLine) (I : Inv X pins σ H s) (g : DGet H a y o) (ry : RelV y u) (rd : RelV d r) (h : ∀ w' s', Inv X pins σ H s' → RelV (o.getD d) w' → Q w' s') :
    wpAny (model X.prog X.w) A (call (.builtin "dict.get") [.ref a, u, r]) Q E s := by
  rcases g with ⟨kvs, k, e, ey, l⟩ | ⟨kvs, k, b, e, ey, eb, l⟩
  · subst ey
    obtain ⟨z, hd, vs, rel, dd⟩ := dk_rd I.hok e
    refine call_meetsIn PySem.F.slot_dict_get dd.typeIs PySem.F.entry_dict_get (PySem.F.args_dict_get_3 _ _ _) (meets_dict_get_default (mixKind X.prog X.w) a (kV_is ry) hd r) ⟨_, dd.mapOf, h _ _ (I.tok _) ?_⟩
    rw [l]
    exact (rel.val k).getD rd
  · subst ey
    cases (show u = Value.ref b from ry)
    obtain ⟨z, hd, xs, rel, dd⟩ := dt_rd I.hok e
    refine call_meetsIn PySem.F.slot_dict_get dd.typeIs PySem.F.entry_dict_get (PySem.F.args_dict_get_3 _ _ _) (meetsH_dict_get_default (tupleKind (mixKind X.prog X.w)) a b hd r) ⟨tupleKind_room_in1 hu, k, xs, key_of I.hok eb, dd, h _ _ (I.tok _) ?_⟩
    rw [l]
    exact (rel.val k).getD rd
end

def tDGet1 (td ty : TE) : TE := fun σ H Q => td σ H fun x H1 => ∃ a, x = .ref a ∧ IsD H1 a ∧ ty σ H1 fun y H2 => ∃ o, DGet H2 a y o ∧ Q (o.getD .non) H2
def tDGet2 (td ty tx : TE) : TE := fun σ H Q => td σ H fun x H1 => ∃ a, x = .ref a ∧ IsD H1 a ∧ ty σ H1 fun y H2 => tx σ H2 fun z H3 => ∃ o, DGet H3 a y o ∧ Q (o.getD z) H3
/-- d.pop(k): there; d.pop(k, x): there or not -/
def tDPop1 (td ty : TE) : TE := fun σ H Q => td σ H fun x H1 => ∃ a, x = .ref a ∧ IsD H1 a ∧ ty σ H1 fun y H2 => ∃ kvs k v, H2 a = some (.dK kvs) ∧ y = kV k ∧ valV kvs k = some v ∧ Q v (upd H2 a (.dK (dropK kvs k)))
def tDPop2 (td ty tx : TE) : TE := fun σ H Q => td σ H fun x H1 => ∃ a, x = .ref a ∧ IsD H1 a ∧ ty σ H1 fun y H2 => tx σ H2 fun z H3 => ∃ kvs k, H3 a = some (.dK kvs) ∧ y = kV k ∧
  (∀ v, valV kvs k = some v → Q v (upd H3 a (.dK (dropK kvs k)))) ∧ (valV kvs k = none → Q z H3)
section
variable {X : Cx} {o e f : Expr} {apos cpos : Pos} {td ty tx : TE}
theorem pe_dget1 (hu : X.A.units + 1 < cLine) (ho : PE X o td) (he : PE X e ty) (m : M1 X o "get" apos e cpos) : PE X (.Call (.Attribute o "get" apos) [e] [] cpos) (tDGet1 td ty) := by
  intro pins s σ H Q I h
  refine wpAny_Call_method m.base m.few m.line PySem.F.plainAttrs_dict PySem.F.slot_dict_get PySem.F.type_dict_get (thn (ho pins s σ H _ I h) fun u s1 ⟨x, H1, I1, rx, a, ex, d, q1⟩ => ?_)
  subst ex
  obtain rfl : u = Value.ref a := rx
  obtain ⟨t1, t2, _⟩ := isD_at I1 d
  refine ⟨t1, t2, ?_⟩
  rw [m.trees]
  refine Calls.callWith_builtin rfl (Calls.evalArgs_plain (Calls.spliced_cons (thn (he pins s1 σ H1 _ I1 q1) fun iv s2 ⟨y, H2, I2, ry, ov, g, q2⟩ => Calls.spliced_nil ?_)))
  exact d_get1 hu I2 g ry fun w' s3 I3 rw' => ⟨_, H2, I3, rw', q2⟩
theorem pe_dget2 (hu : X.A.units + 1 < cLine) (ho : PE X o td) (he : PE X e ty) (hf : PE X f tx) (m : M2 X o "get" apos e f cpos) : PE X (.Call (.Attribute o "get" apos) [e, f] [] cpos) (tDGet2 td ty tx) := by
  intro pins s σ H Q I h
  refine wpAny_Call_method m.base m.few m.line PySem.F.plainAttrs_dict PySem.F.slot_dict_get PySem.F.type_dict_get (thn (ho pins s σ H _ I h) fun u s1 ⟨x, H1, I1, rx, a, ex, d, q1⟩ => ?_)
  subst ex
  obtain rfl : u = Value.ref a := rx
  obtain ⟨t1, t2, _⟩ := isD_at I1 d
  refine ⟨t1, t2, ?_⟩
  rw [m.trees]
  refine Calls.callWith_builtin rfl (Calls.evalArgs_plain (Calls.spliced_cons (thn (he pins s1 σ H1 _ I1 q1) fun iv s2 ⟨y, H2, I2, ry, q2⟩ =>
    Calls.spliced_cons (thn (hf pins s2 σ H2 _ I2 q2) fun fv s3 ⟨z, H3, I3, rz, ov, g, q3⟩ => Calls.spliced_nil ?_))))
  exact d_get2 hu I3 g ry rz fun w' s4 I4 rw' => ⟨_, H3, I4, rw', q3⟩
theorem pe_dpop1 (ho : PE X o td) (he : PE X e ty) (m : M1 X o "pop" apos e cpos) : PE X (.Call (.Attribute o "pop" apos) [e] [] cpos) (tDPop1 td ty) := by
  intro pins s σ H Q I h
  refine wpAny_Call_method m.base m.few m.line PySem.F.plainAttrs_dict PySem.F.slot_dict_pop PySem.F.type_dict_pop (thn (ho pins s σ H _ I h) fun u s1 ⟨x, H1, I1, rx, a, ex, d, q1⟩ => ?_)
  subst ex
  obtain rfl : u = Value.ref a := rx
  obtain ⟨t1, t2, _⟩ := isD_at I1 d
  refine ⟨t1, t2, ?_⟩
  rw [m.trees]
  refine Calls.callWith_builtin rfl (Calls.evalArgs_plain (Calls.spliced_cons (thn (he pins s1 σ H1 _ I1 q1) fun iv s2 ⟨y, H2, I2, ry, kvs, k, v, ea, ey, l, q2⟩ => Calls.spliced_nil ?_)))
  subst ey
  exact d_pop I2 ea ry l (.inl rfl) fun w' s3 I3 rw' => ⟨v, _, I3, rw', q2⟩
theorem pe_dpop2 (ho : PE X o td) (he : PE X e ty) (hf : PE X f tx) (m : M2 X o "pop" apos e f cpos) : PE X (.Call (.Attribute o "pop" apos) [e, f] [] cpos) (tDPop2 td ty tx) := by
  intro pins s σ H Q I h
  refine wpAny_Call_method m.base m.few m.line PySem.F.plainAttrs_dict PySem.F.slot_dict_pop PySem.F.type_dict_pop (thn (ho pins s σ H _ I h) fun u s1 ⟨x, H1, I1, rx, a, ex, d, q1⟩ => ?_)
  subst ex
  obtain rfl : u = Value.ref a := rx
  obtain ⟨t1, t2, _⟩ := isD_at I1 d
  refine ⟨t1, t2, ?_⟩
  rw [m.trees]
  refine Calls.callWith_builtin rfl (Calls.evalArgs_plain (Calls.spliced_cons (thn (he pins s1 σ H1 _ I1 q1) fun iv s2 ⟨y, H2, I2, ry, q2⟩ =>
    Calls.spliced_cons (thn (hf pins s2 σ H2 _ I2 q2) fun fv s3 ⟨z, H3, I3, rz, kvs, k, ea, ey, q3, q4⟩ => Calls.spliced_nil ?_))))
  subst ey
  cases l : valV kvs k with
  | some v => exact d_pop I3 ea ry l (.inr ⟨fv, rfl⟩) fun w' s4 I4 rw' => ⟨v, _, I4, rw', q3 v l⟩
  | none => exact d_popD I3 ea ry l fun s4 I4 => ⟨z, H3, I4, rz, q4 l⟩
end

/-! ### dict(d): a copy -/
section
variable {X : Cx} {pins : List (Addr × Obj)} {σ : St} {H : Hp} {s : Shared} {a : Addr} {kvs : List (Key × V)} {A : Around} {E : Value → Shared → Prop}
theorem d_copyOf {Q : Value → Shared → Prop} (I : Inv X pins σ H s) (e : Rd H a (.dK kvs)) (h : ∀ p s', H p = none → Inv X pins σ (upd H p (.dK kvs)) s' → Q (.ref p) s') : wpAny (model X.prog X.w) A (call (.type "dict") [.ref a]) Q E s := by
  obtain ⟨z, hd, vs, rel, dd⟩ := dk_rd I.hok e
  refine kt_call_dict hd dd (by rw [← rel.length]; exact z) fun h' dd' hs => ?_
  refine h _ _ (I.hok.fresh (Nat.le_refl _)) (I.laid (a := s.heap.objs.size) (o := .dK kvs) (t' := s.toks) (fun b q hq => ?_) (Nat.le_refl _) (dk_new z (beq_eq_false_iff_ne.mpr (Ne.symm (Nat.ne_of_lt I.big))) rel dd'))
  exact (hs.2 b (Nat.ne_of_lt (Heap.lt_size hq))).trans (Heap.get?_push_of_some _ hq)
end


section
variable {X : Cx} {pins : List (Addr × Obj)} {σ : St} {H : Hp} {s : Shared} {a : Addr} {y : V} {u : Value} {A : Around} {E : Value → Shared → Prop}
/-- d[y], not there: a KeyError -/
theorem d_missing {Q : Value → Shared → Prop} (hu : A.units + 1 < cLine) (hh : A.handled = none) (I : Inv X pins σ H s) (g : DGet H a y none) (ry : RelV y u)
    (h : ∀ h' e t', Heap.NewExc s.heap h' e "KeyError" → E (.ref e) { s with heap := h', toks := t' }) : wpAny (model X.prog X.w) A (getItem (.ref a) u) Q E s := by
  rcases g with ⟨kvs, k, e, ey, l⟩ | ⟨kvs, k, b, e, ey, eb, l⟩
  · subst ey
    obtain ⟨z, hd, vs, rel, dd⟩ := dk_rd I.hok e
    have hn : valueAt vs k = none := RelO.none_of (by rw [l]; exact rel.val k)
    exact wpAny_getItem_missing_of (kV_is ry) hd hh dd.mapOf hn fun h' ex ne => h h' ex _ ne
  · subst ey
    cases (show u = Value.ref b from ry)
    obtain ⟨z, hd, xs, rel, dd⟩ := dt_rd I.hok e
    have hn : (atKey xs k).map (·.2) = none := RelO.none_of (by rw [l]; exact rel.val k)
    exact wpAny_getItem_missing_heap (tupleKind_room_in1 hu) (key_of I.hok eb) hd hh dd (Option.map_eq_none_iff.mp hn) fun h' ex ne => h h' ex _ ne
end
end L2

namespace Att
open PySem PySem.W PySem.Calls PyProof.Rows

/-! ### the script -/
theorem ints_of_wellAll {P : Params} {h : Heap} : ∀ (ns : List Int) (vs : List Value), WellAll P h vs (ns.map WData.int) → IntsAre vs ns := by
  intro ns
  induction ns with
  | nil =>
    intro vs w
    rw [List.map_nil] at w
    cases w
    exact .nil
  | cons n ns ih =>
    intro vs w
    rw [List.map_cons] at w
    cases w with
    | cons a b =>
      cases a
      exact .cons _ _ (ih _ b)

theorem script_of {l : OpenLaw} {n : Nat} (hn : l.most = some n) {P : Params} {h : Heap} {args : List WData} {vals : List Value}
    (hpre : l.row.toRowW.claim.pre args = true) (hwl : WellAll P h vals args) :
    ∃ a vs ns, vals = [Value.ref a] ∧ args = [WData.list (ns.map WData.int)] ∧ h.get? a = some { cls := .type "list", data := .seq vs.toArray } ∧ IntsAre vs ns ∧ ns.length ≤ n := by
  have hsh : WShape.hasAll [] args [.list .int] = true := (pre_splitW hpre).1
  have hc : l.pre.holds [] { args := args } = true := (pre_splitW hpre).2
  obtain ⟨d, r, rfl, h1, h2⟩ := hasAllW_cons hsh
  obtain rfl := hasAllW_nil h2
  obtain ⟨xs, rfl, h3⟩ := hasW_list h1
  obtain ⟨ns, rfl⟩ := items_int h3
  have hlen : ns.length ≤ n := by
    unfold OpenLaw.pre at hc
    have h4 : (WTm.not (.lt (.lit (.int (n : Int))) (.len (.arg 0)))).holds [] { args := [.list (ns.map .int)] } = true := by
      have h4 := (holds_andW hc).1
      rw [hn] at h4
      exact h4
    have h5 := condW_of h4 (w_not (w_lt w_lit (w_len_list (w_arg rfl))))
    rw [List.length_map] at h5
    refine Nat.le_of_not_lt fun q => ?_
    have q' : (n : Int) < ((ns.length : Nat) : Int) := by omega
    first
      | (rw [decide_eq_true q'] at h5; exact absurd h5 (by decide))
      | (simp at h5; omega)
  cases hwl with
  | cons w1 w2 =>
    cases w2
    cases w1 with
    | list ho hall => exact ⟨_, _, ns, rfl, rfl, ho, ints_of_wellAll ns _ hall, hlen⟩

theorem post_true (l : OpenLaw) (args : List WData) : l.row.toRowW.claim.post args (.bool true) args = true :=
  postW_of (r := l.row.toRowW) (X := (true == true))
    (show WShape.has [] (.bool true) .bool = true by first | rfl | decide | simp [WShape.has, WShape.arms, WShape.armsAll])
    (show (WTm.eq .res (.lit (.bool true))).value [] { args := args, res := some (.bool true), after := args } = some (.bool (true == true)) from w_eq_bool (w_res rfl) w_lit) rfl

/-! ### the attachment: holds_open's last premise (the goal 'hc' behind k_head) from a wpAny of the law's body -/
theorem attach {l : OpenLaw} {n : Nat} {q : Program} {loose : List Str} {XP : (Str → Option Value) → Heap → Prop} {YP : World → Heap → Prop} {d : DefRec} {x : Str}
    (hn : l.most = some n) (hdf : d.params.defaults = [])
    (hbind : ∀ pm cd doc v : Value, bindArgs (docDef d.name d.params d.body d.scope pm cd doc) ⟨[v], []⟩ = pure [(x, v)])
    (hx : d.scope.names.lookup x = some .local ∨ d.scope.names.lookup x = some .cell)
    (hk : d.scope.kind = .function) (hco : d.scope.isCoroutine = false) (hgen : d.scope.isGenerator = false)
    (body : ∀ (w : World) (s₀ s₁ s : Shared) (mg mb : Str → Option Value) (fa : Addr) (o : Obj) (pm cd doc : Value) (a : Addr) (vs : List Value) (ns : List Int),
      Ground q loose [] XP w s₀ mg mb s₁.heap → YP w s₁.heap →
      s₁.heap.get? fa = some o → o.data = .func (docDef d.name d.params d.body d.scope pm cd doc) → s₁.heap.CodeRec cd d.name → mg d.name = some (.ref fa) →
      s₁.heap.get? a = some { cls := .type "list", data := .seq vs.toArray } → IntsAre vs ns → ns.length ≤ n →
      s.gens = #[] → s.os = s₁.os →
      Fr s₁.heap s₁.heap.objs.size s.heap (bindL (envOfC d.name d.scope s₁.heap.objs.size fa cd).kindOf [(x, .ref a)] fun _ => none) →
      Cl s₁.heap.objs.size (cellsFrom (s₁.heap.objs.size + 1) d.scope.names []) s.heap (bindC (envOfC d.name d.scope s₁.heap.objs.size fa cd).kindOf [(x, .ref a)] fun _ => none) →
      wpAny (model l.prog w) (callerA.deeper (envOfC d.name d.scope s₁.heap.objs.size fa cd)) (execs d.body (envOfC d.name d.scope s₁.heap.objs.size fa cd))
        (fun f s' => f = .ret (.bool true) ∧ OldK s₁.heap s'.heap ∧ s'.os = s₁.os ∧ AllBare s'.gens) (fun _ _ => False) s) :
    WalkO q loose XP YP l.row.toRowW d [] (fun f vs => PySem.call f vs) := by
  intro w s₀ s₁ mg mb G Y fa o pm cd doc dV kV ho hd hcd hD hmg hg args vals as hpre hlay hrd hwl hlo
  obtain rfl : dV = .none := Dflts.none hD hdf
  obtain rfl : kV = .none := Dflts.noKw hD
  obtain ⟨a, vs, ns, rfl, rfl, hobj, hints, hlen⟩ := script_of hn hpre hwl
  refine enter_call ?_
  refine call_cells_ret (o := o) (by rw [depth_caller]; decide) ho (fd_plain hd) G.T.nolimit hcd (hbind pm cd doc (.ref a)) (fun y hy => ?_) (fun h₁ tk F X => ?_) hco hgen hk
  · obtain rfl : y = (x, Value.ref a) := List.mem_singleton.mp hy
    rcases hx with e | e
    · exact .inl e
    · exact .inr ⟨e, cellsFrom_some _ _ _ (.inl e)⟩
  · refine wpAny_mono (body w s₀ s₁ { s₁ with heap := h₁, toks := tk } mg mb fa o pm cd doc a vs ns G Y ho (fd_plain hd) hcd hmg hobj hints hlen hg rfl F X) (fun f s' hq => ?_) (fun _ _ hq => hq)
    obtain ⟨rfl, h2, h3, h4⟩ := hq
    exact ⟨.inl ⟨.bool true, .bool true, [], rfl, fun _ => rfl, .bool true, post_true l _, fun _ => ⟨List.Pairwise.nil, fun _ hm => (nomatch hm)⟩⟩, h2, h3, h4⟩

/-- the same from a codeAny of the CALL (for a layer whose function contracts speak of calls) -/
theorem attach_call {l : OpenLaw} {n : Nat} {q : Program} {loose : List Str} {XP : (Str → Option Value) → Heap → Prop} {YP : World → Heap → Prop} {d : DefRec}
    (hn : l.most = some n) (hdf : d.params.defaults = [])
    (call : ∀ (w : World) (s₀ s₁ : Shared) (mg mb : Str → Option Value) (fa : Addr) (o : Obj) (pm cd doc : Value) (a : Addr) (vs : List Value) (ns : List Int),
      Ground q loose [] XP w s₀ mg mb s₁.heap → YP w s₁.heap →
      s₁.heap.get? fa = some o → o.data = .func (docDef d.name d.params d.body d.scope pm cd doc) → s₁.heap.CodeRec cd d.name → mg d.name = some (.ref fa) →
      s₁.heap.get? a = some { cls := .type "list", data := .seq vs.toArray } → IntsAre vs ns → ns.length ≤ n → s₁.gens = #[] →
      codeAny (model l.prog w) callerA (.call (.ref fa) ⟨[.ref a], []⟩) (fun r s' => r = .ok (.ret (.bool true)) ∧ OldK s₁.heap s'.heap ∧ s'.os = s₁.os ∧ AllBare s'.gens) s₁) :
    WalkO q loose XP YP l.row.toRowW d [] (fun f vs => PySem.call f vs) := by
  intro w s₀ s₁ mg mb G Y fa o pm cd doc dV kV ho hd hcd hD hmg hg args vals as hpre hlay hrd hwl hlo
  obtain rfl : dV = .none := Dflts.none hD hdf
  obtain rfl : kV = .none := Dflts.noKw hD
  obtain ⟨a, vs, ns, rfl, rfl, hobj, hints, hlen⟩ := script_of hn hpre hwl
  refine enter_call (codeAny_mono (call w s₀ s₁ mg mb fa o pm cd doc a vs ns G Y ho (fd_plain hd) hcd hmg hobj hints hlen hg) fun r s' hq => ?_)
  obtain ⟨rfl, h2, h3, h4⟩ := hq
  exact ⟨.inl ⟨.bool true, .bool true, [], rfl, fun _ => rfl, .bool true, post_true l _, fun _ => ⟨List.Pairwise.nil, fun _ hm => (nomatch hm)⟩⟩, h2, h3, h4⟩

/-- the same where the top left finished generators (o_head chose holds_openN): nothing may have changed at all and no generator may be left -/
theorem attachN {l : OpenLaw} {n : Nat} {q : Program} {loose : List Str} {XP : (Str → Option Value) → Heap → Prop} {YP : World → Heap → Prop} {d : DefRec} {x : Str}
    (hn : l.most = some n) (hdf : d.params.defaults = [])
    (hbind : ∀ pm cd doc v : Value, bindArgs (docDef d.name d.params d.body d.scope pm cd doc) ⟨[v], []⟩ = pure [(x, v)])
    (hx : d.scope.names.lookup x = some .local ∨ d.scope.names.lookup x = some .cell)
    (hk : d.scope.kind = .function) (hco : d.scope.isCoroutine = false) (hgen : d.scope.isGenerator = false)
    (body : ∀ (w : World) (s₀ s₁ s : Shared) (mg mb : Str → Option Value) (fa : Addr) (o : Obj) (pm cd doc : Value) (a : Addr) (vs : List Value) (ns : List Int),
      Ground q loose [] XP w s₀ mg mb s₁.heap → YP w s₁.heap →
      s₁.heap.get? fa = some o → o.data = .func (docDef d.name d.params d.body d.scope pm cd doc) → s₁.heap.CodeRec cd d.name → mg d.name = some (.ref fa) →
      s₁.heap.get? a = some { cls := .type "list", data := .seq vs.toArray } → IntsAre vs ns → ns.length ≤ n →
      s.gens = #[] → s.os = s₁.os →
      Fr s₁.heap s₁.heap.objs.size s.heap (bindL (envOfC d.name d.scope s₁.heap.objs.size fa cd).kindOf [(x, .ref a)] fun _ => none) →
      Cl s₁.heap.objs.size (cellsFrom (s₁.heap.objs.size + 1) d.scope.names []) s.heap (bindC (envOfC d.name d.scope s₁.heap.objs.size fa cd).kindOf [(x, .ref a)] fun _ => none) →
      wpAny (model l.prog w) (callerA.deeper (envOfC d.name d.scope s₁.heap.objs.size fa cd)) (execs d.body (envOfC d.name d.scope s₁.heap.objs.size fa cd))
        (fun f s' => f = .ret (.bool true) ∧ (∀ b o, s₁.heap.get? b = some o → s'.heap.get? b = some o) ∧ s'.os = s₁.os ∧ s'.gens = #[]) (fun _ _ => False) s) :
    WalkN q loose XP YP l.row.toRowW d [] (fun f vs => PySem.call f vs) := by
  intro w s₀ s₁ mg mb G Y fa o pm cd doc dV kV ho hd hcd hD hmg hg args vals as hpre hlay hrd hwl hlo
  obtain rfl : dV = .none := Dflts.none hD hdf
  obtain rfl : kV = .none := Dflts.noKw hD
  obtain ⟨a, vs, ns, rfl, rfl, hobj, hints, hlen⟩ := script_of hn hpre hwl
  refine enter_callW ?_
  refine call_cells_ret (o := o) (by rw [depth_caller]; decide) ho (fd_plain hd) G.T.nolimit hcd (hbind pm cd doc (.ref a)) (fun y hy => ?_) (fun h₁ tk F X => ?_) hco hgen hk
  · obtain rfl : y = (x, Value.ref a) := List.mem_singleton.mp hy
    rcases hx with e | e
    · exact .inl e
    · exact .inr ⟨e, cellsFrom_some _ _ _ (.inl e)⟩
  · refine wpAny_mono (body w s₀ s₁ { s₁ with heap := h₁, toks := tk } mg mb fa o pm cd doc a vs ns G Y ho (fd_plain hd) hcd hmg hobj hints hlen hg rfl F X) (fun f s' hq => ?_) (fun _ _ hq => hq)
    obtain ⟨rfl, h2, h3, h4⟩ := hq
    exact ⟨.inl ⟨.bool true, .bool true, [], rfl, fun _ => rfl, .bool true, post_true l _, fun _ => ⟨List.Pairwise.nil, fun _ hm => (nomatch hm)⟩⟩, h2, h3, h4⟩

/-! ### rules over ANY heap (no ledger) from facts about the written part K: the library's own take a ledger (News) for what they write -/
section
variable {prog : Program} {w : World} {A : Around} {E : Value → Shared → Prop} {s : Shared} {K : Frag}

/-- a def of the module, or a method (qual 'C.m'), entered: the frame is the next address; cells behind it -/
theorem call_fn {R : Result → Shared → Prop} {name qual : Str} {params : Arguments} {body : List Stmt} {scope : Scope} {dV kV doc pm cdv ct oc : Value} {an od : Option Addr} {osl : Array (Option Value)} {f : Addr} {args : Args} {binds : List (Str × Value)}
    (X : K.In s.heap) (hlim : s.heap.NoLimit) (ho : K.lookup f = some ⟨oc, od, .func (fnOf name qual params body scope dV kV doc pm an cdv ct), osl⟩) (hcd : codeIn K cdv qual = true) (hroom : A.depth < recursionLimit)
    (hbind : BindsTo s (fnOf name qual params body scope dV kV doc pm an cdv ct) args binds)
    (hkind : (binds.all fun y => scope.names.lookup y.1 == some .local || scope.names.lookup y.1 == some .cell) = true)
    (h : ∀ s₁, InCallC s s.heap.objs.size (bindL (envOfC qual scope s.heap.objs.size f cdv).kindOf binds fun _ => none) (cellsFrom (s.heap.objs.size + 1) scope.names [])
        (bindC (envOfC qual scope s.heap.objs.size f cdv).kindOf binds fun _ => none) s₁ →
      wpAny (model prog w) (A.deeper (envOfC qual scope s.heap.objs.size f cdv)) (execs body (envOfC qual scope s.heap.objs.size f cdv))
        (fun fl s' => R (.ok (.ret (match fl with | .ret v => v | _ => .none))) s')
        (fun e s' => wpAny (model prog w) (A.deeper (envOfC qual scope s.heap.objs.size f cdv)) (leaving (envOfC qual scope s.heap.objs.size f cdv) e) (fun _ s'' => R (.error e) s'') (fun e' s'' => R (.error e') s'') s') s₁)
    (hco : scope.isCoroutine = false) (hgen : scope.isGenerator = false) (hk : scope.kind = .function) : codeAny (model prog w) A (.call (.ref f) args) R s := by
  refine codeAny_call_function hroom (X _ _ ho) rfl hco hgen rfl (codeRec_of X hcd) (hbind _ _ _ _ ?_)
  refine wpAny_newFunctionEnv_cells hk (kindsX hkind _) fun env he s₁ x => ?_
  subst he
  exact ⟨hlim.keeps x.toInCall.keep, codeAny_func (h s₁ x)⟩

/-- C(..): dict at size, instance at size + 1, then __init__ -/
theorem make_obj {R : Result → Shared → Prop} {C fI : Addr} {rest : List Value} {kw : List (Str × Value)}
    (X : K.In s.heap) (hm : makesIn K C = true) (hi : findIn K (.ref C) "__init__" = some (some (.ref fI))) (hf : isFn K (.ref fI) = true)
    (h : codeAny (model prog w) (A.under (.builtin "type.__call__" ⟨.ref C :: rest, kw⟩)) (.call (.ref fI) ⟨.ref (s.heap.objs.size + 1) :: rest, kw⟩) (InitBack (s.heap.objs.size + 1) R)
      { s with heap := (s.heap.push emptyDict).push (instObj C s.heap.objs.size) }) : codeAny (model prog w) A (.call (.ref C) ⟨rest, kw⟩) R s := by
  obtain ⟨hh, g, d, t, os⟩ := s
  exact make_core (makes_of X hm) (looks_findIn X hi) (fun self => bind_fn X self (beq_iff_eq.mp hf)) (.inl rfl) h

/-- x.name where the instance's dict holds the name and the class does not -/
theorem get_field {x C : Addr} {ox : Obj} {es : List DictEntry} {n : Nat} {name : Str} {expr : Bool} {v : Value} {Q : Value → Shared → Prop}
    (X : K.In s.heap) (I : PySem.W.InstAt s.heap x ox C (some (dictOf es n))) (hg : plainGet K C name = true) (hh : hasDictIn K C = true) (ha : findIn K (.ref C) name = some none)
    (hl : getL name es = some (some v)) (hv : handedIn v = true) (h : Q v { s with toks := s.toks + 1 }) : wpAny (model prog w) A (getAttr (.ref x) name expr) Q E s :=
  get_value X I (plainGet_of hg).1 (findObj_own hh ha rfl hl) hv h

/-- x.m(..): the method found in the class -/
theorem get_method {x C f : Addr} {ox : Obj} {es : List DictEntry} {n : Nat} {name : Str} {pl : Sem Bool} {Q : Value × List Value → Shared → Prop}
    (X : K.In s.heap) (I : PySem.W.InstAt s.heap x ox C (some (dictOf es n))) (hg : plainGet K C name = true) (hf : findIn K (.ref C) name = some (some (.ref f))) (ht : isFn K (.ref f) = true)
    (hl : getL name es = some none) (h : Q (.ref f, [.ref x]) s) : wpAny (model prog w) A (getMethod (.ref x) name pl) Q E s :=
  method_fn X I (plainGet_of hg).1 (plainGet_of hg).2 hf (beq_iff_eq.mp ht) (by show (lookIn name (dictOf es n)).map _ = _; rw [lookIn_dict, hl]; rfl) h

/-! the whole heap as the ledger: makes every rule that writes through a ledger a rule over any heap -/
def noObjs (h : Heap) : Heap := { h with objs := #[] }
theorem noObjs_get (h : Heap) (b : Addr) : (noObjs h).get? b = none := by
  cases e : (noObjs h).get? b with
  | none => rfl
  | some o => exact absurd (Heap.lt_size e) (Nat.not_lt_zero _)
def ledger (h : Heap) (L d : Addr) : List (Addr × Obj) := (List.range h.objs.size).filterMap fun a => if a = L ∨ a = d then none else (h.get? a).map fun o => (a, o)
theorem mem_ledger {h : Heap} {L d a : Addr} {o : Obj} : (a, o) ∈ ledger h L d ↔ a ≠ L ∧ a ≠ d ∧ h.get? a = some o := by
  unfold ledger
  rw [List.mem_filterMap]
  constructor
  · rintro ⟨b, _, e⟩
    split at e
    · cases e
    · rename_i hb
      obtain ⟨o', ho, e'⟩ := Option.map_eq_some_iff.mp e
      cases e'
      exact ⟨fun q => hb (.inl q), fun q => hb (.inr q), ho⟩
  · rintro ⟨n1, n2, ho⟩
    refine ⟨a, List.mem_range.mpr (Heap.lt_size ho), ?_⟩
    rw [if_neg (show ¬ (a = L ∨ a = d) from fun q => q.elim n1 n2), ho] <;> rfl
theorem news_ledger {h : Heap} {L d : Addr} {od : Obj} (hne : d ≠ L) (ho : h.get? d = some od) : News (noObjs h) L h ([] ++ (d, od) :: ledger h L d) := by
  rintro ⟨a, o⟩ hp
  rcases List.mem_cons.mp hp with e | hp
  · cases e
    exact ⟨ho, hne, noObjs_get _ _⟩
  · obtain ⟨n1, n2, e⟩ := mem_ledger.mp hp
    exact ⟨e, n1, noObjs_get _ _⟩
theorem fr_all {h : Heap} {L : Addr} {m : Str → Option Value} (n : h.Ns L m) : Fr (noObjs h) L h m :=
  ⟨n, fun b o e => (by rw [noObjs_get] at e; cases e), Nat.zero_le _⟩
/-- Upd of the head entry (for append_K, setItem_K ..) -/
theorem upd_ledger {h : Heap} {L d : Addr} {o o' : Obj} : Upd d o o' ((d, o) :: ledger h L d) ((d, o') :: ledger h L d) :=
  .head fun ⟨_, _⟩ hp => (mem_ledger.mp hp).2.1

/-- x.name = v over any heap: L is any namespace of the heap (the frame's, say): its map stays, its object is not told; all else but the dict stays -/
theorem set_field {x C dx L : Addr} {ox : Obj} {m : Str → Option Value} {es es' : List DictEntry} {n n' : Nat} {name : Str} {v : Value} {Q : Unit → Shared → Prop}
    (X : K.In s.heap) (I : PySem.W.InstAt s.heap x ox C (some (dictOf es n))) (hd : ox.dict = some dx) (hL : s.heap.Ns L m) (hne : dx ≠ L)
    (hs : findIn K (.ref C) "__setattr__" = some (some (.builtin "object.__setattr__"))) (hp : plainOver K C = true) (ht : takerIn K C name = some none) (hh : hasDictIn K C = true) (hl : (getL name es).isSome = true)
    (e : (putL name (PyData.keyHash w.params name) (.str name (s.toks + 1)) v es, putN name es n) = (es', n')) (hz : es'.length ≤ 1000)
    (h : ∀ h' : Heap, h'.Ns L m → h'.get? dx = some (dictOf es' n') → (∀ b o, b ≠ dx → b ≠ L → s.heap.get? b = some o → h'.get? b = some o) → Q () { s with heap := h', toks := s.toks + 2 }) :
    wpAny (model prog w) A (setAttr (.ref x) name v) Q E s := by
  obtain ⟨e1, e2⟩ := Prod.mk.inj e
  have hdx : s.heap.get? dx = some (dictOf es n) := by
    have := I.dict
    rw [hd] at this
    exact this
  refine set_plain X I hs (osa_dict (s := { s with toks := s.toks + 1 }) (h₀ := noObjs s.heap) (L := L) (m := m) (od := dictOf es n) (od' := dictOf es' n') (es := es') (n := n') (pre := []) (post := ledger s.heap L dx)
    (fr_all hL) (news_ledger hne hdx) X I hd hp ht hh hl (fun _ q => nomatch q) (fun ⟨_, _⟩ q => (mem_ledger.mp q).2.1) (by rw [putName_dict, e1, e2]) rfl hz fun h' F' N' => ?_)
  exact h h' F'.ns (N'.get (List.Mem.head _)) fun b o n1 n2 ho => N'.get (List.Mem.tail _ (mem_ledger.mpr ⟨n2, n1, ho⟩))
end
end Att

namespace L2
open PySem PySem.Spec PyProof.Rows

theorem vals_ints : ∀ {vs : List Value} {ns : List Int}, IntsAre vs ns → Vals (ns.map V.int) vs
  | _, _, .nil => .nil
  | _, _, .cons n t h => .cons ⟨t, rfl⟩ (vals_ints h)

/-- nothing is tracked but the script, known to the object (or it is an object of the module) -/
def Only (H : Hp) : Prop := ∀ b, H b = none ∨ ∃ o xs, H b = some (.frz o (.lst xs))

/-- THE HEAD: the law's promise, at the heap behind the top. F, the promise of the law's def, may use that base is part of the heap (so K.In base, base.Ns mainGlobals mg stand in Mod) -/
theorem law_call {P : Program} {w : World} {K : PySem.W.Frag} {mg mb : Str → Option Value} {CX : CXT} {k : Nat} {fa a : Addr} {fd : FuncData} {x : Str} {sp : Sp} {s₁ : Shared} {vs : List Value} {ns : List Int}
    (KX : K.In s₁.heap) (hns : s₁.heap.Ns mainGlobals mg) (hb : s₁.heap.Ns builtinsNs mb) (hbb : ∀ x : Str, x ≠ "__name__" → mb x = bootBuiltins x) (hlim : s₁.heap.NoLimit) (hg : s₁.gens = #[])
    (ha : s₁.heap.get? a = some { cls := .type "list", data := .seq vs.toArray }) (hi : IntsAre vs ns) (hl : ns.length ≤ sizeLine) (hr : Room k callerA)
    (F : ∀ base : Heap, K.In base → base.Ns mainGlobals mg → FnOk P w K mg base CX k fa fd [x] sp) (hbind : ∀ (s : Shared) (u : Value), BindsTo s fd ⟨[u], []⟩ [(x, u)])
    (hsp : ∀ H : Hp, Only H → SqL K H a (ns.map V.int) → sp [.ref a] H (fun v _ => v = .bl true) fun _ _ _ => False)
    (hCX : ∀ H e s', CX [] H s₁ (fun _ _ _ => False) e s' → False) :
    codeAny (model P w) callerA (.call (.ref fa) ⟨[.ref a], []⟩) (fun r s' => r = .ok (.ret (.bool true)) ∧ OldK s₁.heap s'.heap ∧ s'.os = s₁.os ∧ AllBare s'.gens) s₁ := by
  have rv := vals_ints hi
  have lenV := hi.length
  -- from an abstract heap in which nothing but the script may be tracked
  have core : ∀ H : Hp, Only H → SqL K H a (ns.map V.int) → HOk P w H s₁.heap → (∀ b, H b ≠ none → b = a) → (H a ≠ none → K.lookup a = none) →
      codeAny (model P w) callerA (.call (.ref fa) ⟨[.ref a], []⟩) (fun r s' => r = .ok (.ret (.bool true)) ∧ OldK s₁.heap s'.heap ∧ s'.os = s₁.os ∧ AllBare s'.gens) s₁ := by
    intro H hO hS hok hA hK
    have base_of : ∀ {b : Addr} {o : Obj}, s₁.heap.get? b = some o → H b = none → (hidT s₁.heap H).get? b = some o := fun e n => hidT_get e n
    have noA : ∀ {b : Addr} {o : Obj} {es : Array DictEntry} {ep : Nat}, s₁.heap.get? b = some o → o.data = .dict es ep → H b = none := fun {b o es ep} e d => by
      cases q : H b with
      | none => rfl
      | some u =>
        have e' : b = a := hA b (by rw [q]; simp)
        subst e'
        rw [ha] at e; cases e
        have d' : Data.seq vs.toArray _ = Data.dict es ep := d
        cases d'
    have nsK : ∀ {b : Addr} {m : Str → Option Value}, s₁.heap.Ns b m → (hidT s₁.heap H).Ns b m := fun {b m} ⟨o, es, ep, e, d, r⟩ => ⟨o, es, ep, base_of e (noA e d), d, r⟩
    have hKb : K.In (hidT s₁.heap H) := fun b o e => base_of (KX b o e) (by
      cases q : H b with
      | none => rfl
      | some u =>
        have e' : b = a := hA b (by rw [q]; simp)
        subst e'
        rw [hK (by rw [q]; simp)] at e; cases e)
    have hM : Mod K mg (hidT s₁.heap H) := ⟨hKb, nsK hns, ⟨mb, nsK hb, hbb⟩, let ⟨mc, h1, h2⟩ := hlim; ⟨mc, nsK h1, h2⟩⟩
    have e0 : Env0 P w K mg (hidT s₁.heap H) callerA [] s₁ H := ⟨rfl, hM, fun b o e => of_hidT e, Nat.le_of_eq (hidT_size _ _), trivial, fun b hb => absurd (show b ∈ ([] : List Addr) from hb) (by simp), hok, .of_eq hg⟩
    refine codeAny_mono ((F _ hKb (nsK hns)).run callerA [] s₁ H ⟨[.ref a], []⟩ [.ref a] [.ref a] _ _ hr e0 (hbind s₁ (.ref a)) (.cons rfl .nil) (hsp H hO hS)) fun r s' h => ?_
    cases r with
    | error e => exact (hCX H e s' h).elim
    | ok fl =>
      cases fl with
      | next => exact False.elim h
      | brk => exact False.elim h
      | cont => exact False.elim h
      | ret u =>
        obtain ⟨v, H', os, bare, un, hok', r', q⟩ := h
        have q' : v = .bl true := q
        subst q'
        obtain rfl : u = Value.bool true := r'
        refine ⟨rfl, OldK.of_keep fun b o e => ?_, os, bare⟩
        cases q : H b with
        | none => exact un.keep b o e q (by intro z; exact absurd (show b ∈ ([] : List Addr) from z) (by simp)) (by simp)
        | some u =>
          rcases hO b with z | ⟨ob, xs, z⟩
          · rw [q] at z; cases z
          · have z2 := un.frzs b ob _ z
            obtain ⟨e1, _⟩ := hok b _ z
            obtain ⟨e2, _⟩ := hok' b _ z2
            rw [e] at e1; cases e1
            exact e2
  cases hk : K.lookup a with
  | some o =>
    -- the script is one of the module's own objects
    have e := KX a o hk
    rw [ha] at e
    cases e
    refine core (fun _ => none) (fun _ => .inl rfl) (.inr ⟨_, vs.toArray, _, hk, rfl, rfl, rfl, by rw [List.size_toArray, lenV]; exact hl, by simpa using rv⟩) (fun b u z => by have z' : (none : Option HO) = some u := z; cases z') (fun b z => absurd rfl z) fun z => absurd rfl z
  | none =>
    refine core (fun b => if b = a then some (.frz { cls := .type "list", data := .seq vs.toArray } (.lst (ns.map V.int))) else none) (fun b => ?_) (.inl (.inr ⟨{ cls := .type "list", data := .seq vs.toArray }, if_pos rfl⟩)) (fun b u z => ?_) (fun b z => ?_) fun _ => hk
    · by_cases hb : b = a
      · exact .inr ⟨_, _, if_pos hb⟩
      · exact .inl (if_neg hb)
    · by_cases hb : b = a
      · have z' := (if_pos hb).symm.trans z
        cases z'
        subst hb
        exact ⟨ha, by rw [List.length_map]; exact hl, vs, _, rv, ha⟩
      · have z' := (if_neg hb).symm.trans z
        cases z'
    · by_cases hb : b = a
      · exact hb
      · exact absurd (if_neg hb) z
end L2

namespace L2
open PySem PySem.Spec PyProof.Rows

abbrev KOf {K : PySem.W.Frag} {h : Heap} (_ : K.In h) : PySem.W.Frag := K

/-- the goal that k_head leaves (case hc), from the law's promise. F gives the function object fd (K's own) once, then the promise over every base -/
theorem walk_of {l : PySem.W.OpenLaw} {n k : Nat} {q : Program} {loose : List Str} {XP : (Str → Option Value) → Heap → Prop} {YP : World → Heap → Prop} {d : DefRec} {K : Params → PySem.W.Frag} {CX : World → CXT} {sp : World → Sp} {x : Str}
    (hn : l.most = some n) (hn2 : n ≤ sizeLine) (hdf : d.params.defaults = []) (hr : Room k callerA)
    (hY : ∀ (w : World) (h : Heap), YP w h → (K w.params).In h)
    (F : ∀ (w : World) (mg : Str → Option Value) (fa : Addr) (h : Heap), (K w.params).In h → h.Ns mainGlobals mg → mg d.name = some (.ref fa) →
      ∃ fd : FuncData, (∀ (s : Shared) (u : Value), BindsTo s fd ⟨[u], []⟩ [(x, u)]) ∧
        ∀ base : Heap, (K w.params).In base → base.Ns mainGlobals mg → FnOk l.prog w (K w.params) mg base (CX w) k fa fd [x] (sp w))
    (hsp : ∀ (w : World) (H : Hp) (a : Addr) (ns : List Int), ns.length ≤ n → Only H → SqL (K w.params) H a (ns.map V.int) → sp w [.ref a] H (fun v _ => v = .bl true) fun _ _ _ => False)
    (hCX : ∀ (w : World) (H : Hp) (s : Shared) (e : Value) (s' : Shared), CX w [] H s (fun _ _ _ => False) e s' → False) :
    PySem.W.WalkO q loose XP YP l.row.toRowW d [] (fun f vs => PySem.call f vs) := by
  refine Att.attach_call hn hdf fun w s₀ s₁ mg mb fa o pm cd doc a vs ns G Y ho hd hcd hmg hobj hints hlen hg => ?_
  have KX := hY w _ Y
  obtain ⟨fd, hb, hF⟩ := F w mg fa _ KX G.T.g hmg
  exact law_call KX G.T.g G.T.b G.T.builtins G.T.nolimit hg hobj hints (Nat.le_trans hlen hn2) hr hF hb (fun H hO hS => hsp w H a ns hlen hO hS) fun H e s' => hCX w H s₁ e s'
/-- the same where the promise hangs on the written part alone: (sp := My.sp_law), no hole under a binder -/
theorem walk_ofK {l : PySem.W.OpenLaw} {n k : Nat} {q : Program} {loose : List Str} {XP : (Str → Option Value) → Heap → Prop} {YP : World → Heap → Prop} {d : DefRec} {K : Params → PySem.W.Frag} {CX : CXT} {sp : PySem.W.Frag → Sp} {x : Str}
    (hn : l.most = some n) (hn2 : n ≤ sizeLine) (hdf : d.params.defaults = []) (hr : Room k callerA)
    (hY : ∀ (w : World) (h : Heap), YP w h → (K w.params).In h)
    (F : ∀ (w : World) (mg : Str → Option Value) (fa : Addr) (h : Heap), (K w.params).In h → h.Ns mainGlobals mg → mg d.name = some (.ref fa) →
      ∃ fd : FuncData, (∀ (s : Shared) (u : Value), BindsTo s fd ⟨[u], []⟩ [(x, u)]) ∧
        ∀ base : Heap, (K w.params).In base → base.Ns mainGlobals mg → FnOk l.prog w (K w.params) mg base CX k fa fd [x] (sp (K w.params)))
    (hsp : ∀ (K : PySem.W.Frag) (H : Hp) (a : Addr) (ns : List Int), ns.length ≤ n → Only H → SqL K H a (ns.map V.int) → sp K [.ref a] H (fun v _ => v = .bl true) fun _ _ _ => False)
    (hCX : ∀ (H : Hp) (s : Shared) (e : Value) (s' : Shared), CX [] H s (fun _ _ _ => False) e s' → False) :
    PySem.W.WalkO q loose XP YP l.row.toRowW d [] (fun f vs => PySem.call f vs) :=
  walk_of (K := K) (CX := fun _ => CX) (sp := fun w => sp (K w.params)) hn hn2 hdf hr hY F (fun w H a ns h1 h2 h3 => hsp (K w.params) H a ns h1 h2 h3) fun _ H s e s' => hCX H s e s'
end L2

/- THE LAST THEOREM (shape; LID, My.* are yours):
   My.Adr: a structure of the addresses that your layer names (classes, functions); My.Txt K t: a structure (Prop) of the equations over K;
   My.txt_mk : {K} {implicit addresses ..} (e1 : nsIn K mainGlobals "law" = some (some (.ref f))) (e2 : K.lookup f = some ⟨oc, od, .func (fnOf "law" "law" params body scope dV kV doc pm an cdv ct), sl⟩) (e3 : codeIn K cdv "law" = true) .. : ∃ t, My.Txt K t

set_option maxRecDepth 100000 in
set_option maxHeartbeats 0 in
theorem PySem.Challenge.cw_LID_holds : PySem.Challenge.rw_LID.Holds := by
  w_on; o_law; k_head; (case hw => w_witness2)
  k_fill
  refine L2.walk_of (l := PySem.Challenge.rw_LID) (n := 63) (k := 40) (x := "script") (CX := fun w => ..) (sp := fun _ => My.sp_law) rfl (by decide) rfl ⟨rfl, by decide, by decide⟩ (fun w h Y => PySem.W.kIn_of Y) ?F ?S ?C
  case F =>
    intro w mg fa h KX G hmg
    have T : ∃ t, My.Txt (L2.KOf KX) t := by
      dsimp only [L2.KOf]                          -- K must stand as «<heap const> w.params» for k_is
      refine' My.txt_mk ?e1 ?e2 ?e3 ..
      (case e1 => PySem.W.k_is)                    -- in the order: a name -> its address -> its object -> its parts
      (case e2 => PySem.W.k_is)
      ..
    obtain ⟨t, T⟩ := T
    have e0 := hmg.symm.trans (PySem.W.mg_of KX G T.law)
    cases e0                                       -- fa is the law's own address
    exact ⟨_, fun s u => .of_eq rfl, fun base kb nb => My.law_fn T kb nb⟩     -- if «.of_eq rfl» comes too early: refine' ⟨_, ?b, fun base kb nb => My.law_fn T kb nb⟩; exact fun s u => .of_eq rfl
  case S => exact fun w H a ns hl hO hS => ..
  case C => exact ..
(the tactic k_is has no namespace: write k_is) -/

/-! SHORT WORDS over the layer: a def of the text, its body, what a loop and a test want. -/
namespace L2
open PySem PySem.Spec PyProof.Rows

/-! ### the text by places -/
/-- the j-th statement of a class's body -/
def inClass (s : Stmt) (j : Nat) : Stmt := match s with
  | .ClassDef _ _ _ body _ _ _ _ _ _ _ => body.getD j (.Pass ⟨0, 0, 0, 0⟩)
  | _ => .Pass ⟨0, 0, 0, 0⟩
def defArgs (s : Stmt) : Arguments := match s with
  | .FunctionDef _ a _ _ _ _ _ _ _ _ => a
  | _ => { posonlyargs := [], args := [], vararg := none, kwonlyargs := [], kw_defaults := [], kwarg := none, defaults := [] }
def defBody (s : Stmt) : List Stmt := match s with
  | .FunctionDef _ _ b _ _ _ _ _ _ _ => b
  | _ => []
def defScope (s : Stmt) : Scope := match s with
  | .FunctionDef _ _ _ _ _ _ sc _ _ _ => sc
  | _ => { kind := .function, names := [], isGenerator := false, isCoroutine := false }

/-! ### no exception leaves a def -/
abbrev CX0 : CXT := fun _ _ _ _ _ _ => False
abbrev E0 : XK := fun _ _ _ => False
theorem pass0 {X : Cx} : Passes CX0 X E0 := fun _ _ _ _ _ _ _ h => h.elim

/-! ### a def (or method) of the text as it stands behind the top -/
structure Fun (K : PySem.W.Frag) (x qual : Str) (st : Stmt) (f : Addr) (fd : FuncData) : Prop where
  ex : ∃ (oc : Value) (od : Option Addr) (kV doc pm : Value) (an : Option Addr) (cdv ct : Value) (osl : Array (Option Value)),
    fd = PySem.W.fnOf x qual (defArgs st) (defBody st) (defScope st) .none kV doc pm an cdv ct ∧ K.lookup f = some ⟨oc, od, .func fd, osl⟩ ∧ PySem.W.codeIn K cdv qual = true
  kp : PySem.W.keepIn K (.ref f) = true
section
variable {P : Program} {w : World} {K : PySem.W.Frag} {mg : Str → Option Value} {base : Heap}
/-- THE RULE for a def: its body as a term of rules, and the reading of that term -/
theorem Fun.ok {x qual : Str} {st : Stmt} {f : Addr} {fd : FuncData} {N ps : List Str} {k : Nat} {sp : Sp} (F : Fun K x qual st f fd) (S : FnScope N ps (defScope st)) (len : ∀ vs H Q E, sp vs H Q E → vs.length = ps.length)
    (hbody : ∀ (cdv : Value) (A : Around) (outer : List Env) (s : Shared) (H : Hp) (vs : List V) (Q : VK) (E : XK), Room k (A.deeper (envOfC qual (defScope st) s.heap.objs.size f cdv)) → sp vs H Q E →
      ∃ t, PSs (cxOf CX0 P w K mg base N qual (defScope st) f cdv A outer s H E).nox (defBody st) t ∧ t { nx := fun _ H' => Q .non H', rt := Q } (start N vs) H) : FnOk P w K mg base CX0 (k + 1) f fd ps sp := by
  obtain ⟨oc, od, kV, doc, pm, an, cdv, ct, osl, rfl, lk, hcd⟩ := F.ex
  refine fn_of lk hcd S len fun A outer s H vs Q E hr hsp => ?_
  obtain ⟨t, h, q⟩ := hbody cdv A outer s H vs Q E hr hsp
  exact ⟨t, h.nox, q⟩
/-- how its arguments bind (no defaults): h is «fun _ _ _ _ _ _ us hl => match us, hl with | [_, _], _ => rfl», one _ a parameter -/
theorem Fun.binds {x qual : Str} {st : Stmt} {f : Addr} {fd : FuncData} {ps : List Str} (F : Fun K x qual st f fd)
    (h : ∀ (kV doc pm : Value) (an : Option Addr) (cdv ct : Value) (us : List Value), us.length = ps.length → bindArgs (PySem.W.fnOf x qual (defArgs st) (defBody st) (defScope st) .none kV doc pm an cdv ct) ⟨us, []⟩ = pure (ps.zip us)) : Binds K fd ps [] := by
  obtain ⟨oc, od, kV, doc, pm, an, cdv, ct, osl, rfl, lk, hcd⟩ := F.ex
  exact .all (h kV doc pm an cdv ct)
theorem fun_mk {x qual : Str} {st : Stmt} {f : Addr} {oc : Value} {od an : Option Addr} {osl : Array (Option Value)} {kV doc pm cdv ct : Value} (l : K.lookup f = some ⟨oc, od, .func (PySem.W.fnOf x qual (defArgs st) (defBody st) (defScope st) .none kV doc pm an cdv ct), osl⟩)
    (c : PySem.W.codeIn K cdv qual = true) (k : PySem.W.keepIn K (.ref f) = true) : Fun K x qual st f (PySem.W.fnOf x qual (defArgs st) (defBody st) (defScope st) .none kV doc pm an cdv ct) := ⟨⟨oc, od, kV, doc, pm, an, cdv, ct, osl, rfl, l, c⟩, k⟩
end
theorem hu_of {A : Around} {k : Nat} (hr : Room k A) : A.units + 1 < cLine := Nat.lt_of_le_of_lt (Nat.add_le_add_left (by decide : 1 ≤ 64) _) hr.units
theorem small1000 {n : Nat} (h : n ≤ 1000) : n < sizeLine := Nat.lt_of_le_of_lt h (by decide)

/-! ### expressions in short: the name that stands in the i-th slot -/
section
variable {X : Cx}
theorem pv (i : Nat) {x : Str} {pos : Pos} (hN : X.N[i]? = some x := by rfl) (hv : Vis X.env.scope x := by first | exact Or.inl rfl | exact Or.inr (Or.inl rfl) | exact Or.inr (Or.inr rfl)) (hd : (x == ("__debug__" : Str)) = false := by decide)
    (hcd : (x == ("__classdict__" : Str)) = false := by decide) : PE X (.Name x pos) (tVar i) := pe_var hN hv hd hcd
end

/-! ### tests -/
theorem iteF {A B : Prop} (h : B) : if false = true then A else B := by
  rw [if_neg Bool.false_ne_true]
  exact h
theorem iteT {A B : Prop} (h : A) : if true = true then A else B := by
  rw [if_pos rfl]
  exact h
theorem ite2 {c A B : Prop} [Decidable c] (h1 : c → A) (h2 : ¬ c → B) : if c then A else B := by
  by_cases h : c
  · rw [if_pos h]
    exact h1 h
  · rw [if_neg h]
    exact h2 h
theorem iteNS {c A B : Prop} [Decidable c] (hc : c) (h : B) : if (!decide c) = true then A else B := by
  rw [decide_eq_true hc]
  exact iteF h

/-! ### heaps -/
/-- all that was tracked is as it was -/
def Same (H H' : Hp) : Prop := ∀ b o, H b = some o → H' b = some o
theorem Same.refl (H : Hp) : Same H H := fun _ _ h => h
theorem Same.trans {H H1 H2 : Hp} (a : Same H H1) (b : Same H1 H2) : Same H H2 := fun c o h => b c o (a c o h)
theorem Same.free {H H' : Hp} (e : Same H H') {l : Addr} (h : H' l = Option.none) : H l = Option.none := by
  cases q : H l with
  | none => rfl
  | some o =>
    rw [e l o q] at h
    cases h
theorem Same.seq {K : PySem.W.Frag} {H H' : Hp} {a : Addr} {xs : List V} (e : Same H H') (h : SqL K H a xs) : SqL K H' a xs := by
  rcases h with (h | ⟨o, h⟩) | h
  · exact .inl (.inl (e _ _ h))
  · exact .inl (.inr ⟨o, e _ _ h⟩)
  · exact .inr h

end L2

namespace SmSet
open PySem

/-- strictly rising -/
def Up (xs : List Nat) : Prop := xs.Pairwise (· < ·)

theorem up_lt {xs : List Nat} (h : Up xs) {i j : Nat} (hij : i < j) (hj : j < xs.length) : xs[i]'(by omega) < xs[j] :=
  List.pairwise_iff_getElem.mp h i j (by omega) hj hij

theorem go_spec {xs : Array Nat} (h : Up xs.toList) (j : Nat) : ∀ (fuel lo hi : Nat), hi - lo ≤ fuel → lo ≤ hi → hi ≤ xs.size →
    (∀ (i : Nat) (hi' : i < xs.size), i < lo → xs[i] < j) → (∀ (i : Nat) (hi' : i < xs.size), hi ≤ i → j ≤ xs[i]) →
    lo ≤ SetTable.below.go xs j fuel lo hi ∧ SetTable.below.go xs j fuel lo hi ≤ hi ∧
    (∀ (i : Nat) (hi' : i < xs.size), i < SetTable.below.go xs j fuel lo hi → xs[i] < j) ∧ (∀ (i : Nat) (hi' : i < xs.size), SetTable.below.go xs j fuel lo hi ≤ i → j ≤ xs[i])
  | 0, lo, hi, hf, hl, hs, h1, h2 => by
    have e : lo = hi := by omega
    subst e
    exact ⟨Nat.le_refl _, Nat.le_refl _, h1, h2⟩
  | fuel + 1, lo, hi, hf, hl, hs, h1, h2 => by
    unfold SetTable.below.go
    by_cases c : lo < hi
    · rw [if_pos c]
      have hm : (lo + hi) / 2 < xs.size := by omega
      have eg : xs.getD ((lo + hi) / 2) j = xs[(lo + hi) / 2] := by simp [hm]
      dsimp only
      rw [eg]
      have mono : ∀ (a b : Nat) (ha : a < xs.size) (hb : b < xs.size), a < b → xs[a] < xs[b] := fun a b ha hb hab => by
        have := up_lt h hab (by simpa using hb)
        simpa using this
      by_cases d : xs[(lo + hi) / 2] < j
      · rw [if_pos d]
        obtain ⟨a, b, e, f⟩ := go_spec h j fuel ((lo + hi) / 2 + 1) hi (by omega) (by omega) hs (fun i hi' q => by
          by_cases z : i = (lo + hi) / 2
          · subst z; exact d
          · exact Nat.lt_trans (mono i _ hi' hm (by omega)) d) h2
        exact ⟨by omega, b, e, f⟩
      · rw [if_neg d]
        obtain ⟨a, b, e, f⟩ := go_spec h j fuel lo ((lo + hi) / 2) (by omega) (by omega) (by omega) h1 (fun i hi' q => by
          by_cases z : i = (lo + hi) / 2
          · subst z; omega
          · exact Nat.le_of_lt (Nat.lt_of_le_of_lt (Nat.not_lt.mp d) (mono _ i hm hi' (by omega))))
        exact ⟨a, by omega, e, f⟩
    · rw [if_neg c]
      have e : lo = hi := by omega
      subst e
      exact ⟨Nat.le_refl _, Nat.le_refl _, h1, h2⟩

theorem below_spec {xs : Array Nat} (h : Up xs.toList) (j : Nat) : SetTable.below xs j ≤ xs.size ∧
    (∀ (i : Nat) (hi' : i < xs.size), i < SetTable.below xs j → xs[i] < j) ∧ (∀ (i : Nat) (hi' : i < xs.size), SetTable.below xs j ≤ i → j ≤ xs[i]) := by
  obtain ⟨_, b, e, f⟩ := go_spec h j xs.size 0 xs.size (by omega) (Nat.zero_le _) (Nat.le_refl _) (fun i _ q => by omega) (fun i hi' q => by omega)
  exact ⟨b, e, f⟩

/-- the step of an iterator: behind the i-th place comes the (i+1)-st -/
theorem below_next {xs : Array Nat} (h : Up xs.toList) {i : Nat} (hi : i < xs.size) : SetTable.below xs (xs[i] + 1) = i + 1 := by
  obtain ⟨a, b, c⟩ := below_spec h (xs[i] + 1)
  have mono : ∀ (a b : Nat) (ha : a < xs.size) (hb : b < xs.size), a < b → xs[a] < xs[b] := fun a b ha hb hab => by
    have := up_lt h hab (by simpa using hb)
    simpa using this
  by_cases q : SetTable.below xs (xs[i] + 1) ≤ i
  · have := c i hi q; omega
  · by_cases q2 : i + 1 < SetTable.below xs (xs[i] + 1)
    · have h1 := b (i + 1) (by omega) q2
      have h2 := mono i (i + 1) hi (by omega) (by omega)
      omega
    · omega
theorem below_zero {xs : Array Nat} (h : Up xs.toList) : SetTable.below xs 0 = 0 := by
  obtain ⟨a, b, c⟩ := below_spec h 0
  by_cases q : SetTable.below xs 0 = 0
  · exact q
  · have := b 0 (by omega) (by omega); omega

theorem insertAt_toList {α : Type} (xs : Array α) (p : Nat) (x : α) (hp : p ≤ xs.size) : (SetTable.insertAt xs p x).toList = xs.toList.take p ++ x :: xs.toList.drop p := by
  unfold SetTable.insertAt
  simp [List.take_of_length_le]

theorem up_insert {xs : Array Nat} (h : Up xs.toList) {j : Nat} (hn : ¬ xs[SetTable.below xs j]? = some j) : Up (SetTable.insertAt xs (SetTable.below xs j) j).toList := by
  obtain ⟨a, b, c⟩ := below_spec h j
  rw [insertAt_toList _ _ _ a]
  have key : xs.toList = xs.toList.take (SetTable.below xs j) ++ xs.toList.drop (SetTable.below xs j) := (List.take_append_drop _ _).symm
  have h' : Up (xs.toList.take (SetTable.below xs j) ++ xs.toList.drop (SetTable.below xs j)) := key ▸ h
  obtain ⟨p1, p2, p3⟩ := List.pairwise_append.mp h'
  have l1 : ∀ x ∈ xs.toList.take (SetTable.below xs j), x < j := fun x hx => by
    obtain ⟨i, hi, e⟩ := List.mem_iff_getElem.mp hx
    rw [List.getElem_take] at e
    have : i < SetTable.below xs j := by have := List.length_take_le (SetTable.below xs j) xs.toList; omega
    have q := b i (by omega) this
    rw [← e]; simpa using q
  have l2 : ∀ x ∈ xs.toList.drop (SetTable.below xs j), j < x := fun x hx => by
    obtain ⟨i, hi, e⟩ := List.mem_iff_getElem.mp hx
    rw [List.getElem_drop] at e
    have hl : SetTable.below xs j + i < xs.size := by rw [List.length_drop] at hi; simp at hi; omega
    have q := c (SetTable.below xs j + i) hl (by omega)
    have q' : j ≤ x := by rw [← e]; simpa using q
    rcases Nat.lt_or_ge j x with z | z
    · exact z
    · exfalso
      have ex : x = j := by omega
      have hb : SetTable.below xs j < xs.size := by omega
      have q0 := c (SetTable.below xs j) hb (Nat.le_refl _)
      have : xs[SetTable.below xs j] ≤ xs[SetTable.below xs j + i] := by
        rcases Nat.eq_zero_or_pos i with z0 | z0
        · subst z0; simp
        · have := up_lt h (i := SetTable.below xs j) (j := SetTable.below xs j + i) (by omega) (by simpa using hl)
          exact Nat.le_of_lt (by simpa using this)
      have e3 : xs[SetTable.below xs j + i] = x := by simpa using e
      apply hn
      rw [Array.getElem?_eq_getElem hb]
      congr 1; omega
  refine List.pairwise_append.mpr ⟨p1, List.pairwise_cons.mpr ⟨l2, p2⟩, fun x hx y hy => ?_⟩
  rcases List.mem_cons.mp hy with rfl | hy
  · exact l1 x hx
  · exact Nat.lt_trans (l1 x hx) (l2 y hy)
end SmSet

namespace SmSet
open PySem

/-- a small table: mask 7, no dummies -/
structure TOk (t : SetTable) (n : Nat) : Prop where
  mask : t.mask = 7
  dum : t.dummies = #[]
  plain : t.plain = true
  len : t.place.size = n
  up : Up t.place.toList

theorem fresh_ok (led : Bool) : TOk (.fresh 0 0 led) 0 := ⟨rfl, rfl, rfl, rfl, List.Pairwise.nil⟩

theorem mem_of_at {xs : Array Nat} {i j : Nat} (h : xs[i]? = some j) : j ∈ xs.toList := by
  obtain ⟨hi, e⟩ := Array.getElem?_eq_some_iff.mp h
  rw [← e]; exact Array.mem_toList_iff.mpr (Array.getElem_mem hi)

theorem slot_cases {t : SetTable} (hd : t.dummies = #[]) (j : Nat) :
    (t.slot j = .empty ∧ ¬ t.place[SetTable.below t.place j]? = some j) ∨ (∃ i, t.slot j = .live i ∧ j ∈ t.place.toList) := by
  unfold SetTable.slot
  dsimp only
  by_cases c : t.place[SetTable.below t.place j]? = some j
  · rw [if_pos (by rw [c]; simp)]
    exact .inr ⟨_, rfl, mem_of_at c⟩
  · rw [if_neg (by simpa using c)]
    rw [hd]
    refine .inl ⟨?_, c⟩
    unfold SetTable.has
    simp

def Found (t : SetTable) (h : Int) (fuel : Nat) (p : SetTable.Probe) : Prop :=
  ∃ j, SetTable.probe.go t (fun _ => h + 1) h fuel p = some (.empty j none) ∧ ¬ t.place[SetTable.below t.place j]? = some j

theorem one {t : SetTable} (hm : t.mask = 7) (hd : t.dummies = #[]) {h : Int} {fuel i pt : Nat} (k : i ∈ t.place.toList → Found t h fuel ⟨(i * 5 + 1 + pt / 32) % 8, 0, (i * 5 + 1 + pt / 32) % 8, pt / 32, none⟩) :
    Found t h (fuel + 1) ⟨i, 0, i, pt, none⟩ := by
  unfold Found
  unfold SetTable.probe.go
  rcases slot_cases hd i with ⟨e, n⟩ | ⟨x, e, m⟩
  · simp only [e]
    exact ⟨i, rfl, n⟩
  · simp only [e]
    have hne : (h + 1 == h) = false := by simp; omega
    rw [hne]
    obtain ⟨j, g, n⟩ := k m
    refine ⟨j, ?_, n⟩
    have ea : SetTable.advance t ⟨i, 0, i, pt, none⟩ = ⟨(i * 5 + 1 + pt / 32) % 8, 0, (i * 5 + 1 + pt / 32) % 8, pt / 32, none⟩ := by
      simp only [SetTable.advance, SetTable.leap, SetTable.runEnd, hm]
      simp
    simp only [Bool.false_eq_true, if_false]
    rw [ea]; exact g

theorem full {xs : List Nat} (h : xs.length ≤ 4) (m : 0 ∈ xs) (m1 : 1 ∈ xs) (m2 : 2 ∈ xs) (m3 : 3 ∈ xs) (m4 : 4 ∈ xs) : False := by
  match xs, h with
  | [], _ => simp at m
  | [a], _ => simp at m m1; omega
  | [a, b], _ => simp at m m1 m2; omega
  | [a, b, c], _ => simp at m m1 m2 m3; omega
  | [a, b, c, d], _ => simp at m m1 m2 m3 m4; omega

theorem zero {t : SetTable} (hm : t.mask = 7) (hd : t.dummies = #[]) (hs : t.place.size ≤ 4) {h : Int} {fuel i : Nat} (hi : i < 8) : Found t h (fuel + 8) ⟨i, 0, i, 0, none⟩ := by
  have hl : t.place.toList.length ≤ 4 := by simpa using hs
  match i, hi with
  | 0, _ => exact one hm hd fun a => one hm hd fun b => one hm hd fun c => one hm hd fun d => one hm hd fun e => one hm hd fun f => one hm hd fun g => one hm hd fun k => (full hl (by assumption) (by assumption) (by assumption) (by assumption) (by assumption)).elim
  | 1, _ => exact one hm hd fun a => one hm hd fun b => one hm hd fun c => one hm hd fun d => one hm hd fun e => one hm hd fun f => one hm hd fun g => one hm hd fun k => (full hl (by assumption) (by assumption) (by assumption) (by assumption) (by assumption)).elim
  | 2, _ => exact one hm hd fun a => one hm hd fun b => one hm hd fun c => one hm hd fun d => one hm hd fun e => one hm hd fun f => one hm hd fun g => one hm hd fun k => (full hl (by assumption) (by assumption) (by assumption) (by assumption) (by assumption)).elim
  | 3, _ => exact one hm hd fun a => one hm hd fun b => one hm hd fun c => one hm hd fun d => one hm hd fun e => one hm hd fun f => one hm hd fun g => one hm hd fun k => (full hl (by assumption) (by assumption) (by assumption) (by assumption) (by assumption)).elim
  | 4, _ => exact one hm hd fun a => one hm hd fun b => one hm hd fun c => one hm hd fun d => one hm hd fun e => one hm hd fun f => one hm hd fun g => one hm hd fun k => (full hl (by assumption) (by assumption) (by assumption) (by assumption) (by assumption)).elim
  | 5, _ => exact one hm hd fun a => one hm hd fun b => one hm hd fun c => one hm hd fun d => one hm hd fun e => one hm hd fun f => one hm hd fun g => one hm hd fun k => (full hl (by assumption) (by assumption) (by assumption) (by assumption) (by assumption)).elim
  | 6, _ => exact one hm hd fun a => one hm hd fun b => one hm hd fun c => one hm hd fun d => one hm hd fun e => one hm hd fun f => one hm hd fun g => one hm hd fun k => (full hl (by assumption) (by assumption) (by assumption) (by assumption) (by assumption)).elim
  | 7, _ => exact one hm hd fun a => one hm hd fun b => one hm hd fun c => one hm hd fun d => one hm hd fun e => one hm hd fun f => one hm hd fun g => one hm hd fun k => (full hl (by assumption) (by assumption) (by assumption) (by assumption) (by assumption)).elim

theorem found {t : SetTable} (hm : t.mask = 7) (hd : t.dummies = #[]) (hs : t.place.size ≤ 4) {h : Int} : ∀ (k fuel i pt : Nat), i < 8 → pt < 32 ^ k → Found t h (fuel + 8 + k) ⟨i, 0, i, pt, none⟩
  | 0, fuel, i, pt, hi, hp => by
    have e : pt = 0 := by simp at hp; exact hp
    subst e
    exact zero hm hd hs hi
  | k + 1, fuel, i, pt, hi, hp => one hm hd fun _ => found hm hd hs k fuel _ _ (Nat.mod_lt _ (by decide)) (by rw [Nat.pow_succ] at hp; omega)

theorem freeSlot_ok {t : SetTable} {n : Nat} (T : TOk t n) (hn : n ≤ 4) (h : Int) : ∃ j, t.freeSlot h = some (j, false) ∧ ¬ t.place[SetTable.below t.place j]? = some j := by
  have hb : SetTable.bits h < 32 ^ 13 := by
    unfold SetTable.bits
    have : (h % (2 ^ 64 : Int)).toNat < 2 ^ 64 := by omega
    exact Nat.lt_of_lt_of_le this (by decide)
  have hs : t.place.size ≤ 4 := by rw [T.len]; exact hn
  obtain ⟨j, e, q⟩ := found T.mask T.dum hs (h := h) 13 199 (SetTable.bits h % 8) (SetTable.bits h) (Nat.mod_lt _ (by decide)) hb
  refine ⟨j, ?_, q⟩
  unfold SetTable.freeSlot SetTable.probe SetTable.probeStart
  rw [T.mask]
  have er : SetTable.runEnd 7 (SetTable.bits h % (7 + 1)) - SetTable.bits h % (7 + 1) = 0 := by simp [SetTable.runEnd]
  dsimp only
  rw [er]
  show (match SetTable.probe.go t (fun _ => h + 1) h 220 ⟨SetTable.bits h % 8, 0, SetTable.bits h % 8, SetTable.bits h, none⟩ with
    | some (.empty j dummy) => some (dummy.getD j, dummy.isSome)
    | _ => none) = some (j, false)
  have e' : SetTable.probe.go t (fun _ => h + 1) h 220 ⟨SetTable.bits h % 8, 0, SetTable.bits h % 8, SetTable.bits h, none⟩ = some (.empty j none) := e
  rw [e']
  rfl

/-- a new element is laid: the elements are a permutation, the table stays small -/
theorem layNew_ok {t : SetTable} {es : Array (Int × Value)} (T : TOk t es.size) (hn : es.size ≤ 4) (h : Int) (x : Value) :
    ∃ es' t', layNew t es h x = (es', t', false, false) ∧ es'.toList.Perm ((h, x) :: es.toList) ∧ TOk t' es'.size ∧ t'.led = t.led := by
  obtain ⟨j, e, q⟩ := freeSlot_ok T hn h
  have hb := below_spec T.up j
  unfold layNew
  rw [e]
  dsimp only
  have hd : SetTable.has t.dummies j = false := by rw [T.dum]; unfold SetTable.has; simp
  unfold SetTable.put
  dsimp only
  rw [hd]
  have es1 : (SetTable.insertAt es (SetTable.below t.place j) (h, x)).toList = es.toList.take (SetTable.below t.place j) ++ (h, x) :: es.toList.drop (SetTable.below t.place j) := insertAt_toList _ _ _ (by rw [← T.len]; exact hb.1)
  have sz1 : (SetTable.insertAt es (SetTable.below t.place j) (h, x)).size = es.size + 1 := by
    rw [← Array.length_toList, es1, List.length_append, List.length_cons, List.length_take, List.length_drop]
    have := hb.1; rw [T.len] at this; simp; omega
  have sz2 : (SetTable.insertAt t.place (SetTable.below t.place j) j).size = es.size + 1 := by
    rw [← Array.length_toList, insertAt_toList _ _ _ hb.1, List.length_append, List.length_cons, List.length_take, List.length_drop]
    have := hb.1; rw [← T.len]; simp; omega
  have fit : SetTable.fits { t with place := SetTable.insertAt t.place (SetTable.below t.place j) j, dummies := t.dummies } (SetTable.insertAt es (SetTable.below t.place j) (h, x)).size = true := by
    unfold SetTable.fits SetTable.fill
    simp only [sz1, sz2, T.dum, T.mask]
    simp
    omega
  simp only [Bool.false_eq_true, if_false]
  unfold SetTable.orStandIn
  rw [if_pos fit]
  refine ⟨_, { t with place := SetTable.insertAt t.place (SetTable.below t.place j) j, dummies := t.dummies }, by rw [fit]; rfl, ?_, ⟨T.mask, T.dum, T.plain, ?_, ?_⟩, rfl⟩
  · rw [es1]
    refine List.perm_middle.trans ?_
    rw [List.take_append_drop]
  · rw [sz1]; exact sz2
  · exact up_insert T.up q
end SmSet

namespace SmSet
open PySem
def keyOf (e : Int × Value) : Int := match e.2 with | .int k _ => k | _ => 0
def IntE (e : Int × Value) : Prop := ∃ k t, e = (hashInt k, Value.int k t)
/-- a small set of ints -/
structure SmO (o : Obj) (ks : List Int) (led : Bool) : Prop where
  ex : ∃ es ep t, o = { cls := .type "set", dict := none, data := .set es ep t } ∧ TOk t es.size ∧ t.led = led ∧ (∀ e ∈ es.toList, IntE e) ∧ ks = es.toList.map keyOf ∧ ks.length ≤ 4
def SmAt (h : Heap) (a : Addr) (ks : List Int) (led : Bool) : Prop := ∃ o, h.get? a = some o ∧ SmO o ks led

section
variable {prog : Program} {w : World} {A : Around} {E : Value → Shared → Prop} {s : Shared}
theorem elems_of {l : List (Int × Value)} (h : ∀ e ∈ l, IntE e) : ElemsOf (intKind prog w) l := fun e he => by
  obtain ⟨k, t, rfl⟩ := h e he
  exact ⟨⟨k, intKind_is _ _ _ _, rfl⟩, rfl⟩
theorem TOk.fits {t : SetTable} {n : Nat} (T : TOk t n) (h : n ≤ 4) : t.fits n = true := by
  unfold SetTable.fits SetTable.fill
  simp [T.len, T.dum, T.mask]
  omega
theorem is_key {k : Int} {e : Int × Value} (h : IntE e) : (intKind prog w).is k e.2 = decide (keyOf e = k) := by
  obtain ⟨j, t, rfl⟩ := h
  show Value.isInt k (.int j t) = _
  unfold Value.isInt keyOf
  rw [Bool.eq_iff_iff]; simp
theorem add_ok {a : Addr} {ks : List Int} {led : Bool} {k : Int} {tok : Tok} {Q : Bool → Shared → Prop} (hS : SmAt s.heap a ks led) (hroom : ks.length + 1 ≤ 4)
    (h : ∀ h' ks' b, Heap.SameBut a s.heap h' → SmAt h' a ks' led → ks'.Perm (if k ∈ ks then ks else k :: ks) → Q b { s with heap := h' }) :
    wpAny (model prog w) A (setAddHashed a (.int k tok) (hashInt k)) Q E s := by
  obtain ⟨o, ho, ⟨es, ep, t, rfl, T, hled, hE, hks, hl⟩⟩ := hS
  have hsz : es.size = ks.length := by rw [hks]; simp
  have hf : t.fits es.size = true := T.fits (by omega)
  have hel := elems_of (prog := prog) (w := w) hE
  have hb : es.size < scanBound := by unfold scanBound; omega
  have hkey : (intKind prog w).is k (.int k tok) = true := intKind_is _ _ _ _
  unfold setAddHashed setAddHashedIn
  refine wpAny_holding (wpAny_bind (wpAny_setState_of ho rfl hf ?_))
  dsimp only
  rw [byScan_of (knd := intKind prog w) (x := .int k tok) rfl hb hel]
  simp only [↓reduceIte]
  unfold setAddByScan
  refine wpAny_bind ?_
  refine wpAny_bind (wpAny_rule ?_)
  refine wpAny_bind (wpAny_setScan_of (knd := intKind prog w) hkey ho rfl hf hel ?_)
  cases hr : List.findIdx? (fun e => (intKind prog w).is k e.2) es.toList with
  | some j =>
    dsimp only
    obtain ⟨hj, hpj, _⟩ := List.findIdx?_eq_some_iff_getElem.mp hr
    have hk : k ∈ ks := by
      rw [hks]
      rw [is_key (hE _ (List.getElem_mem hj))] at hpj
      exact List.mem_map.mpr ⟨_, List.getElem_mem hj, of_decide_eq_true hpj⟩
    refine wpAny_pure (wpAny_pure ?_)
    have e : s = { s with heap := s.heap } := by cases s; rfl
    rw [e]
    exact h s.heap ks false (Heap.SameBut.refl a s.heap) ⟨_, ho, ⟨es, ep, t, rfl, T, hled, hE, hks, hl⟩⟩ (by rw [if_pos hk])
  | none =>
    dsimp only
    have hk : k ∉ ks := by
      rw [hks]
      intro hm
      obtain ⟨e, he, q⟩ := List.mem_map.mp hm
      have := List.findIdx?_eq_none_iff.mp hr e he
      rw [is_key (hE _ he), decide_eq_true q] at this
      exact Bool.noConfusion this
    obtain ⟨es1, t1, hL, hp, T1, hled1⟩ := layNew_ok T (by omega) (hashInt k) (.int k tok)
    rw [hL]
    dsimp only
    have hE1 : ∀ e ∈ es1.toList, IntE e := fun e he => by
      rcases List.mem_cons.mp (hp.mem_iff.mp he) with rfl | he
      · exact ⟨k, tok, rfl⟩
      · exact hE e he
    have hks1 : (es1.toList.map keyOf).Perm (k :: ks) := by rw [hks]; exact hp.map keyOf
    have hl1 : es1.size = ks.length + 1 := by rw [← Array.length_toList, hp.length_eq, List.length_cons, Array.length_toList, hsz]
    refine wpAny_bind (wpAny_pure ?_)
    rw [T1.plain]
    simp only [↓reduceIte]
    refine wpAny_bind ?_
    rw [hashByValue_scannable (x := Value.int k tok) 8 rfl]
    refine wpAny_pure ?_
    simp only [plainKind, ↓reduceIte]
    refine wpAny_bind (wpAny_storeSet_of ho rfl ?_ (by rw [sizeLine_eq]; omega))
    have hfull : t1.tooFull = false := by
      unfold SetTable.tooFull SetTable.fill
      rw [T1.len, T1.dum, T1.mask]
      simp
      omega
    rw [hfull]
    simp only [Bool.not_false, Bool.and_false, Bool.false_eq_true, ↓reduceIte]
    refine wpAny_pure ?_
    dsimp only
    refine wpAny_pure ?_
    have hg : (s.heap.update a (Obj.putSet es1 t1)).get? a = some { cls := .type "set", dict := none, data := .set es1 (ep + 1) t1 } := by
      have := Heap.get?_update_self (Obj.putSet es1 t1) ho rfl
      exact this
    exact h _ (es1.toList.map keyOf) true (Heap.SameBut.update s.heap a _) ⟨_, hg, ⟨es1, ep + 1, t1, rfl, T1, hled1.trans hled, hE1, rfl, by rw [hks1.length_eq, List.length_cons]; omega⟩⟩ (by rw [if_neg hk]; exact hks1)
end
end SmSet

namespace SmSet
open PySem
set_option maxRecDepth 100000
theorem en_loop : entryFor table "set.update.loop" = some Builtin.«set.update.loop» := by

  exact entryFor_of_tree (by kernel_rfl)
theorem pl_loop : plainId "set.update.loop" = true := by decide +kernel

/-- the members: the first i of ns, each once -/
structure Mem (ns : List Int) (i : Nat) (ks : List Int) : Prop where
  nd : ks.Nodup
  mem : ∀ x, x ∈ ks ↔ x ∈ ns.take i
theorem Mem.zero (ns : List Int) : Mem ns 0 [] := ⟨List.nodup_nil, fun x => by simp⟩
theorem Mem.succ {ns : List Int} {i : Nat} {ks ks' : List Int} {k : Int} (M : Mem ns i ks) (hk : ns[i]? = some k) (hp : ks'.Perm (if k ∈ ks then ks else k :: ks)) : Mem ns (i + 1) ks' := by
  have ht : ∀ x, x ∈ ns.take (i + 1) ↔ x ∈ ns.take i ∨ x = k := fun x => by
    rw [List.take_add_one, hk]
    simp
  by_cases c : k ∈ ks
  · rw [if_pos c] at hp
    refine ⟨hp.nodup_iff.mpr M.nd, fun x => ?_⟩
    rw [hp.mem_iff, M.mem, ht]
    constructor
    · exact .inl
    · rintro (h | rfl)
      · exact h
      · exact (M.mem _).mp c
  · rw [if_neg c] at hp
    refine ⟨hp.nodup_iff.mpr (List.nodup_cons.mpr ⟨c, M.nd⟩), fun x => ?_⟩
    rw [hp.mem_iff, List.mem_cons, M.mem, ht]
    exact Or.comm
theorem len_le_of_sub : ∀ {ks xs : List Int}, ks.Nodup → (∀ x ∈ ks, x ∈ xs) → ks.length ≤ xs.length
  | [], _, _, _ => Nat.zero_le _
  | k :: ks, xs, nd, h => by
    have hk : k ∈ xs := h k (.head _)
    have h2 : ∀ x ∈ ks, x ∈ xs.erase k := fun x hx => (List.mem_erase_of_ne (fun (e : x = k) => (List.nodup_cons.mp nd).1 (e ▸ hx))).mpr (h x (.tail _ hx))
    have := len_le_of_sub (List.nodup_cons.mp nd).2 h2
    rw [List.length_erase_of_mem hk] at this
    have : 0 < xs.length := List.length_pos_of_mem hk
    simp only [List.length_cons]; omega
theorem Mem.len {ns : List Int} {i : Nat} {ks : List Int} (M : Mem ns i ks) : ks.length ≤ i := by
  have := len_le_of_sub M.nd (fun x hx => (M.mem x).mp hx)
  have := List.length_take_le i ns
  omega

section
variable {prog : Program} {w : World} {A : Around} {R : Result → Shared → Prop} {I : Addr} {fp wr : List Addr} {G : Array GenState → Array GenState → Prop} {n : Nat} {P : Nat → Value → Prop} {St : Nat → Shared → Prop}

theorem loop_ok (W : WalksS prog w A.in1 I fp wr G n P St) (S : Addr) (hSf : S ∉ fp) {ns : List Int} {led : Bool} (hn : n = ns.length) (hval : ∀ i v, P i v → ∃ k t, v = .int k t ∧ ns[i]? = some k) (hb : n ≤ 4) :
    ∀ (k i : Nat) (s : Shared) (ks : List Int), n - i = k → i ≤ n → St i s → SmAt s.heap S ks led → Mem ns i ks →
      (∀ s' ks', Moved (S :: wr) G s s' → SmAt s'.heap S ks' led → Mem ns n ks' → R (.ok (.ret .none)) s') →
      codeAny (model prog w) A (.builtin "set.update.loop" ⟨[.ref S, .ref I], []⟩) R s := by
  have hSw : S ∉ wr := fun h => hSf (W.sub _ h)
  have more : ∀ b ∈ wr, b ∈ S :: wr := fun b hb => List.mem_cons_of_mem _ hb
  intro k
  induction k with
  | zero =>
    intro i s ks hk hi st hS M hR
    obtain rfl : i = n := by omega
    refine codeAny_builtin en_loop ?_
    rw [Around.under_plainId pl_loop _]
    show wpAny _ A.in1 (pyNext (.ref I) >>= _) _ _ s
    refine wpAny_bind (W.done s _ _ st fun s' mv => ?_)
    show wpAny _ A.in1 (ret Value.none) _ _ s'
    obtain ⟨o, ho, so⟩ := hS
    exact wpAny_pure (hR s' ks (mv.mono more) ⟨o, mv.heap S _ hSw ho, so⟩ M)
  | succ k ih =>
    intro i s ks hk hi st hS M hR
    have lt : i < n := by omega
    refine codeAny_builtin en_loop ?_
    rw [Around.under_plainId pl_loop _]
    show wpAny _ A.in1 (pyNext (.ref I) >>= _) _ _ s
    refine wpAny_bind (W.item i s _ _ lt st fun v s' hP st' mv => ?_)
    obtain ⟨z, t, rfl, hz⟩ := hval i v hP
    obtain ⟨o, ho, so⟩ := hS
    have hS' : SmAt s'.heap S ks led := ⟨o, mv.heap S _ hSw ho, so⟩
    show wpAny _ A.in1 (holding [Value.int z t] (setAdd S (.int z t)) >>= _) _ _ s'
    refine wpAny_bind (wpAny_holding ?_)
    unfold setAdd
    refine wpAny_holding ?_
    refine wpAny_bind ((intKind prog w).pyHash (k := z) (intKind_is _ _ _ _) ?_)
    have room : ks.length + 1 ≤ 4 := by have := M.len; omega
    refine add_ok (s := { s' with toks := s'.toks + 1 }) hS' room fun h' ks' b hsb hS2 hp => ?_
    refine wpAny_pure ⟨plainId_quiet pl_loop _, ih (i + 1) _ ks' (by omega) lt (W.frame _ s' _ _ st' (Nat.le_succ _) fun b hb o e => ?_) hS2 (M.succ hz hp) fun s'' ks'' mv'' hS'' M'' => ?_⟩
    · rw [hsb.2 b (fun h : b = S => hSf (by rw [← h]; exact hb))]; exact e
    · refine hR s'' ks'' (Moved.trans W.gtrans ((mv.mono more).then_heap (Nat.le_succ _) fun b o hb e => ?_) mv'') hS'' M''
      rw [hsb.2 b (fun h : b = S => hb (by rw [h]; exact List.mem_cons_self))]; exact e
end
end SmSet

namespace SmSet
open PySem
set_option maxRecDepth 100000

theorem own_si : Manifest.owners.lookup (String.ofList ['r', 'o', 't', 'a', 'r', 'e', 't', 'i', '_', 't', 'e', 's'].reverse) = some Manifest.sig_set_iterator := by kernel_rfl
theorem slot_si_next : Slot "set_iterator" "__next__" "set_iterator.__next__" :=
  .of (owner := "set_iterator") (n := "__next__") (by rw [typeLookup_type, builtinLookup_eq_fast]; kernel_rfl) (by decide +kernel) (by decide +kernel) (by decide +kernel)
    (by first | exact .inl (by decide +kernel) | exact .inr (by decide +kernel)) (by rw [isSubtype_type]; kernel_rfl)
theorem slot_si_iter : Slot "set_iterator" "__iter__" "set_iterator.__iter__" :=
  .of (owner := "set_iterator") (n := "__iter__") (by rw [typeLookup_type, builtinLookup_eq_fast]; kernel_rfl) (by decide +kernel) (by decide +kernel) (by decide +kernel)
    (by first | exact .inl (by decide +kernel) | exact .inr (by decide +kernel)) (by rw [isSubtype_type]; kernel_rfl)
theorem args_si_next (a : Value) : argsOk "set_iterator.__next__" ⟨[a], []⟩ := by
  unfold argsOk; rw [signature?_of (id := "set_iterator.__next__") (n := ['_', '_', 't', 'x', 'e', 'n', '_', '_']) (o := ['r', 'o', 't', 'a', 'r', 'e', 't', 'i', '_', 't', 'e', 's']) (by kernel_rfl) own_si]; kernel_rfl
theorem args_si_iter (a : Value) : argsOk "set_iterator.__iter__" ⟨[a], []⟩ := by
  unfold argsOk; rw [signature?_of (id := "set_iterator.__iter__") (n := ['_', '_', 'r', 'e', 't', 'i', '_', '_']) (o := ['r', 'o', 't', 'a', 'r', 'e', 't', 'i', '_', 't', 'e', 's']) (by kernel_rfl) own_si]; kernel_rfl
theorem entry_si_next : entryFor table "set_iterator.__next__" = some Builtin.«set_iterator.__next__» := entryFor_of_tree (by kernel_rfl)
theorem entry_si_iter : entryFor table "set_iterator.__iter__" = some Builtin.«dict_keyiterator.__iter__» :=
  entryFor_alias (id' := "dict_keyiterator.__iter__") (by kernel_rfl) (by first | rfl | decide +kernel | (unfold String.splitOn; simp +decide [String.splitOnAux])) (by decide +kernel) (by kernel_rfl)
theorem entry_set_iter : entryFor table "set.__iter__" = some Builtin.«frozenset.__iter__» :=
  entryFor_alias (id' := "frozenset.__iter__") (by kernel_rfl) (by first | rfl | decide +kernel | (unfold String.splitOn; simp +decide [String.splitOnAux])) (by decide +kernel) (by kernel_rfl)

end SmSet

namespace SmSet
open PySem
set_option maxRecDepth 100000
/-! ### the order of a walk -/
theorem cons_erase {α : Type} {l : List α} {i : Nat} (h : i < l.length) : (l[i] :: l.eraseIdx i).Perm l := by
  rw [List.eraseIdx_eq_take_drop_succ]
  refine List.perm_middle.symm.trans ?_
  rw [← List.drop_eq_getElem_cons h, List.take_append_drop]
theorem pick_perm {α : Type} (next : Nat → Nat) : ∀ (fuel k : Nat) (left : List α) (out : Array α), left.length = fuel → (pickOrder.go next fuel k left out).toList.Perm (out.toList ++ left)
  | 0, k, left, out, h => by
    have e : left = [] := List.length_eq_zero_iff.mp h
    subst e
    unfold pickOrder.go
    rw [List.append_nil]
  | fuel + 1, k, left, out, h => by
    unfold pickOrder.go
    have hl : next k % left.length < left.length := Nat.mod_lt _ (by omega)
    rw [List.getElem?_eq_getElem hl]
    dsimp only
    refine (pick_perm next fuel (k + 1) _ _ (by rw [List.length_eraseIdx_of_lt hl]; omega)).trans ?_
    rw [Array.toList_push, List.append_assoc]
    refine List.Perm.append_left _ ?_
    rw [List.singleton_append]
    exact cons_erase hl
def wk (w : World) (a : Addr) (ep : Nat) (es : Array (Int × Value)) : Array (Int × Value) := if w.params.followText "set-order" = true then pickOrder (w.params.setOrder a ep) es else es
theorem wk_perm (w : World) (a : Addr) (ep : Nat) (es : Array (Int × Value)) : (wk w a ep es).toList.Perm es.toList := by
  unfold wk
  split
  · have := pick_perm (w.params.setOrder a ep) es.size 0 es.toList #[] (by simp)
    simpa [pickOrder] using this
  · exact List.Perm.refl _
theorem wk_size (w : World) (a : Addr) (ep : Nat) (es : Array (Int × Value)) : (wk w a ep es).size = es.size := by
  have := (wk_perm w a ep es).length_eq
  simpa using this

def SetIs (h : Heap) (a : Addr) (es : Array (Int × Value)) (ep : Nat) (t : SetTable) : Prop := h.get? a = some { cls := .type "set", dict := none, data := .set es ep t }
def IterIs (h : Heap) (I a : Addr) (sl i n ep : Nat) : Prop := h.get? I = some { cls := .type "set_iterator", dict := none, data := .fields #[.int sl 0, .int i 0, .ref a, .int n 0, .int ep 0] }

section
variable {prog : Program} {w : World} {A : Around} {E : Value → Shared → Prop} {s : Shared}

theorem drawn_no {a : Addr} {es : Array (Int × Value)} {ep : Nat} {t : SetTable} {Q : Bool → Shared → Prop} (hS : SetIs s.heap a es ep t) (T : TOk t es.size) (h4 : es.size ≤ 4) (h : Q false s) : wpAny (model prog w) A (setDrawn a) Q E s := by
  unfold setDrawn
  refine wpAny_bind (wpAny_setState_of hS rfl (T.fits h4) ?_)
  unfold setsByText
  refine wpAny_bind (wpAny_bind (wpAny_askSetting (wpAny_pure ?_)))
  refine wpAny_pure ?_
  show Q (!((model prog w).w.params.followText "set-order") && (!t.plain && decide (es.size > 1))) s
  rw [show (!((model prog w).w.params.followText "set-order") && (!t.plain && decide (es.size > 1))) = false by rw [T.plain]; simp]
  exact h

theorem iter_ok {a : Addr} {es : Array (Int × Value)} {ep : Nat} {t : SetTable} {Q : Value → Shared → Prop} (hS : SetIs s.heap a es ep t) (T : TOk t es.size) (h4 : es.size ≤ 4)
    (h : Q (.ref s.heap.objs.size) { s with heap := s.heap.push { cls := .type "set_iterator", dict := none, data := .fields #[.int (0 : Nat) 0, .int (0 : Nat) 0, .ref a, .int es.size 0, .int ep 0] } }) :
    wpAny (model prog w) A (pyIter (.ref a)) Q E s := by
  have hT : s.TypeIs (.ref a) "set" := ⟨_, hS, rfl⟩
  refine wpAny_pyIter_slot hT F.slot_set_iter (wpAny_call_entry F.slot_set_iter hT entry_set_iter ?_ (F.args_set_iter_1 _))
  unfold Builtin.«frozenset.__iter__»
  refine wpAny_bind (m := Builtin.Frozenset.slot0 "__iter__" _) (wpAny_pure ?_)
  refine wpAny_bind (m := Builtin.Frozenset.sizeOf a) (wpAny_bind (wpAny_setEntries_of hS rfl (T.fits h4) (wpAny_pure ?_)))
  refine wpAny_bind (drawn_no hS T h4 ?_)
  simp only [Bool.false_eq_true, if_false]
  refine wpAny_bind (wpAny_pure ?_)
  refine wpAny_bind (wpAny_setEpoch_of hS rfl (T.fits h4) ?_)
  refine wpAny_bind (wpAny_newObj_type ?_)
  exact wpAny_pure ⟨_, rfl, "set_iterator", _, ⟨_, Heap.get?_push_size _ rfl, rfl⟩, slot_si_next.lookup, h⟩
end
end SmSet

namespace SmSet
open PySem
set_option maxRecDepth 100000
section
variable {prog : Program} {w : World} {A : Around} {E : Value → Shared → Prop} {s : Shared}

/-- the slot that an iterator holds at its i-th turn -/
def SlotAt (w : World) (t : SetTable) (sl i : Nat) : Prop := w.params.followText "set-order" = true ∨ SetTable.below t.place sl = i

theorem walk_text {a : Addr} {es : Array (Int × Value)} {ep : Nat} {t : SetTable} {Q : Array (Int × Value) → Shared → Prop} (hS : SetIs s.heap a es ep t) (T : TOk t es.size) (h4 : es.size ≤ 4) (hb : w.params.followText "set-order" = true)
    (h : Q (wk w a ep es) s) : wpAny (model prog w) A (setWalk a) Q E s := by
  unfold setWalk
  refine wpAny_bind (wpAny_setState_of hS rfl (T.fits h4) ?_)
  unfold setsByText
  refine wpAny_bind (wpAny_bind (wpAny_askSetting (wpAny_pure ?_)))
  rw [if_pos (show ((model prog w).w.params.followText "set-order") = true from hb)]
  refine wpAny_bind (wpAny_askSetting (wpAny_pure ?_))
  unfold wk at h
  rw [if_pos hb] at h
  exact h

/-- what comes at place i, and the slot behind it -/
theorem next_ok {a : Addr} {es : Array (Int × Value)} {ep sl i : Nat} {t : SetTable} {Q : Option (Value × Nat) → Shared → Prop} (hS : SetIs s.heap a es ep t) (T : TOk t es.size) (h4 : es.size ≤ 4)
    (hled : t.led = !w.params.followText "set-order") (hsl : SlotAt w t sl i)
    (h : ∀ sl', (i < es.size → SlotAt w t sl' (i + 1)) → Q (((wk w a ep es)[i]?).map fun e => (e.2, sl')) s) : wpAny (model prog w) A (setNext a sl i ep) Q E s := by
  unfold setNext
  refine wpAny_bind (wpAny_setState_of hS rfl (T.fits h4) ?_)
  unfold setsByText
  refine wpAny_bind (wpAny_bind (wpAny_askSetting (wpAny_pure ?_)))
  by_cases hb : w.params.followText "set-order" = true
  · rw [if_pos (show ((model prog w).w.params.followText "set-order") = true from hb)]
    rw [if_neg (by simp)]
    refine wpAny_bind (walk_text hS T h4 hb (wpAny_pure ?_))
    exact h sl fun _ => .inl hb
  · have hb' : w.params.followText "set-order" = false := by simpa using hb
    rw [if_neg (show ¬ ((model prog w).w.params.followText "set-order") = true from hb)]
    have hd : (!t.plain && decide (es.size > 1)) = false := by rw [T.plain]; simp
    have hbel : SetTable.below t.place sl = i := hsl.resolve_left hb
    show wpAny _ _ (if (!t.plain && decide (es.size > 1)) = true then _ else _) _ _ s
    rw [hd]
    simp only [Bool.false_eq_true, if_false]
    have hl : (!t.led && !es.isEmpty) = false := by rw [hled, hb']; simp
    refine wpAny_bind ?_
    show wpAny _ _ (if (!t.led && !es.isEmpty) = true then _ else _) _ _ s
    rw [hl]
    simp only [Bool.false_eq_true, if_false]
    refine wpAny_pure ?_
    refine wpAny_pure ?_
    have hw : wk w a ep es = es := by unfold wk; rw [if_neg hb]
    rw [hw] at h
    rw [hbel]
    rcases Nat.lt_or_ge i es.size with hi | hi
    · have hp : i < t.place.size := by rw [T.len]; exact hi
      rw [Array.getElem?_eq_getElem hi, Array.getElem?_eq_getElem hp]
      have := h (t.place[i] + 1) fun _ => .inr (below_next T.up hp)
      rw [Array.getElem?_eq_getElem hi] at this
      exact this
    · have := h 0 fun q => absurd q (by omega)
      rw [Array.getElem?_eq_none hi] at this ⊢
      exact this

theorem item_ok {I a : Addr} {es : Array (Int × Value)} {ep sl i : Nat} {t : SetTable} {Q : Option Value → Shared → Prop} (hI : IterIs s.heap I a sl i es.size ep) (hS : SetIs s.heap a es ep t) (hne : a ≠ I) (T : TOk t es.size) (h4 : es.size ≤ 4)
    (hled : t.led = !w.params.followText "set-order") (hsl : SlotAt w t sl i) (hi : i < es.size)
    (h : ∀ v h' sl', ((wk w a ep es)[i]?).map (·.2) = some v → IterIs h' I a sl' (i + 1) es.size ep → SlotAt w t sl' (i + 1) → Heap.SameBut I s.heap h' → Q (some v) { s with heap := h' }) :
    wpAny (model prog w) A (pyNext (.ref I)) Q E s := by
  have hT : s.TypeIs (.ref I) "set_iterator" := ⟨_, hI, rfl⟩
  unfold pyNext
  refine wpAny_bind (wpAny_attempt (wpAny_callSpecial?_slot (name := Str.ofString "__next__") hT slot_si_next (wpAny_call_entry slot_si_next hT entry_si_next ?_ (args_si_next _))))
  unfold Builtin.«set_iterator.__next__»
  refine wpAny_bind (m := slotArgs "__next__" 0 _) (wpAny_pure ?_)
  dsimp only
  refine wpAny_bind (wpAny_fieldsOf hI rfl ?_)
  dsimp only
  refine wpAny_bind (wpAny_setEntries_of hS rfl (T.fits h4) ?_)
  rw [if_neg (by simp)]
  simp only [Int.toNat_natCast]
  refine wpAny_bind (next_ok hS T h4 hled hsl fun sl' hsl' => ?_)
  have hi' : i < (wk w a ep es).size := by rw [wk_size]; exact hi
  rw [Array.getElem?_eq_getElem hi']
  dsimp only [Option.map]
  refine wpAny_bind (wpAny_setField hI rfl (by simp) ?_)
  have g1 : (s.heap.update I (Obj.mapFields (·.setIfInBounds 0 (rawInt sl')))).get? I = some { cls := .type "set_iterator", dict := none, data := .fields #[.int sl' 0, .int i 0, .ref a, .int es.size 0, .int ep 0] } := by
    have := Heap.get?_update_self (Obj.mapFields (·.setIfInBounds 0 (rawInt sl'))) hI rfl
    rw [this]; rfl
  refine wpAny_bind (wpAny_setField g1 rfl (by simp) ?_)
  have g2 := Heap.get?_update_self (Obj.mapFields (·.setIfInBounds 1 (rawInt ((i : Int) + 1)))) g1 rfl
  refine wpAny_pure ⟨_, rfl, wpAny_pure (h _ _ sl' (by rw [Array.getElem?_eq_getElem hi']; rfl) ?_ (hsl' hi) ((Heap.SameBut.update ..).trans (Heap.SameBut.update ..)))⟩
  unfold IterIs
  rw [g2]; rfl

theorem end_ok {I a : Addr} {es : Array (Int × Value)} {ep sl : Nat} {t : SetTable} {Q : Option Value → Shared → Prop} (hh : A.handled = none) (hI : IterIs s.heap I a sl es.size es.size ep) (hS : SetIs s.heap a es ep t) (hne : a ≠ I) (T : TOk t es.size) (h4 : es.size ≤ 4)
    (hled : t.led = !w.params.followText "set-order") (hsl : SlotAt w t sl es.size)
    (h : ∀ h', Heap.ExtBut I s.heap h' → Q none { s with heap := h' }) :
    wpAny (model prog w) A (pyNext (.ref I)) Q E s := by
  have hT : s.TypeIs (.ref I) "set_iterator" := ⟨_, hI, rfl⟩
  unfold pyNext
  refine wpAny_bind (wpAny_attempt (wpAny_callSpecial?_slot (name := Str.ofString "__next__") hT slot_si_next (wpAny_call_entry slot_si_next hT entry_si_next ?_ (args_si_next _))))
  unfold Builtin.«set_iterator.__next__»
  refine wpAny_bind (m := slotArgs "__next__" 0 _) (wpAny_pure ?_)
  dsimp only
  refine wpAny_bind (wpAny_fieldsOf hI rfl ?_)
  dsimp only
  refine wpAny_bind (wpAny_setEntries_of hS rfl (T.fits h4) ?_)
  rw [if_neg (by simp)]
  simp only [Int.toNat_natCast]
  refine wpAny_bind (next_ok hS T h4 hled hsl fun sl' hsl' => ?_)
  rw [Array.getElem?_eq_none (by rw [wk_size]; exact Nat.le_refl _)]
  dsimp only [Option.map]
  refine wpAny_bind (wpAny_setField hI rfl (by simp) ?_)
  refine wpAny_bind ?_
  simp only [newExc, newTuple]
  refine wpAny_bind (wpAny_newObj_type ?_ (by size_fits))
  refine wpAny_bind (m := firstArgMember _ _) (wpAny_of_eq (a := Value.none) (by first | rfl | (simp only [firstArgMember]; rfl)) ?_)
  refine wpAny_newObj_type ?_ (by size_fits)
  simp only [raiseNew]
  refine wpAny_bind (wpAny_handled ?_)
  rw [show A.in1.handled = none from hh]
  refine wpAny_bind (wpAny_pure (wpAny_throw ?_))
  refine wpAny_bind (wpAny_isInstance (T := "StopIteration") (b := true) ⟨_, Heap.get?_push_size _ rfl, rfl⟩ isSubtype_stop ?_)
  exact wpAny_pure (h _ (((Heap.SameBut.update ..).extBut.push _).push _))

theorem self_ok {I a : Addr} {sl i n ep : Nat} {Q : Value → Shared → Prop} (hI : IterIs s.heap I a sl i n ep) (h : Q (.ref I) s) : wpAny (model prog w) A (pyIter (.ref I)) Q E s := by
  have hT : s.TypeIs (.ref I) "set_iterator" := ⟨_, hI, rfl⟩
  refine wpAny_pyIter_slot hT slot_si_iter (wpAny_call_entry slot_si_iter hT entry_si_iter ?_ (args_si_iter _))
  show wpAny _ _ (ret (.ref I)) _ _ s
  exact wpAny_pure ⟨_, rfl, "set_iterator", _, hT, slot_si_next.lookup, h⟩
end

/-- a walk over a small set of ints -/
theorem walks {prog : Program} {w : World} {A : Around} (hh : A.handled = none) (I a : Addr) (hne : a ≠ I) {es : Array (Int × Value)} {ep : Nat} {t : SetTable} (T : TOk t es.size) (h4 : es.size ≤ 4) (hled : t.led = !w.params.followText "set-order") :
    Walks prog w A I [I, a] [I] es.size (fun i v => ((wk w a ep es)[i]?).map (·.2) = some v) (fun i h => (∃ sl, IterIs h I a sl i es.size ep ∧ SlotAt w t sl i) ∧ SetIs h a es ep t) where
  sub := fun b hb => by simp at hb; simp [hb]
  frame := fun _ _ _ st hk => ⟨let ⟨sl, x, y⟩ := st.1; ⟨sl, hk I (by simp) _ x, y⟩, hk a (by simp) _ st.2⟩
  item := fun i s Q E hi st hQ => by
    obtain ⟨⟨sl, hI, hsl⟩, hS⟩ := st
    refine item_ok hI hS hne T h4 hled hsl hi fun v h' sl' hv hI' hsl' hs' => ?_
    refine hQ v h' s.toks hv ⟨⟨sl', hI', hsl'⟩, hs'.extBut a _ hne hS⟩ fun b o hb e => hs'.extBut b o (fun h => hb (by simp [h])) e
  done := fun s Q E st hQ => by
    obtain ⟨⟨sl, hI, hsl⟩, hS⟩ := st
    exact end_ok hh hI hS hne T h4 hled hsl fun h' he' => hQ h' s.toks fun b o hb e => he' b o (fun h => hb (by simp [h])) e
  self := fun _ _ _ _ st hQ => let ⟨_, hI, _⟩ := st.1; self_ok hI hQ
end SmSet

namespace SmSet
open PySem
set_option maxRecDepth 100000
theorem sub_lst_set : isSubtype (.type "list") (.type "set") = pure false := by rw [isSubtype_type]; kernel_rfl
theorem sub_lst_frz : isSubtype (.type "list") (.type "frozenset") = pure false := by rw [isSubtype_type]; kernel_rfl
theorem sub_tup_set : isSubtype (.type "tuple") (.type "set") = pure false := by rw [isSubtype_type]; kernel_rfl
theorem sub_tup_frz : isSubtype (.type "tuple") (.type "frozenset") = pure false := by rw [isSubtype_type]; kernel_rfl
section
variable {prog : Program} {w : World} {A : Around} {E : Value → Shared → Prop} {s : Shared}
/-- is the set's order the text's own -/
def ledOf (w : World) : Bool := !w.params.followText "set-order"
theorem new1 (a : Value) {Q₁ : Value → Shared → Prop}
    (h : Q₁ (.ref s.heap.objs.size) { s with heap := s.heap.push { cls := .type "set", dict := none, data := .set #[] 0 (.fresh 0 0 (ledOf w)) } }) :
    codeAny (model prog w) A (.call (.builtin "set.__new__") ⟨[.type "set", a], []⟩) (wants Q₁ E) s := by
  refine codeAny_of_tree ?_
  show wpAny _ A.in1 (do checkBuiltinCall "set.__new__" ⟨[.type "set", a], []⟩; again (.builtin "set.__new__" ⟨[.type "set", a], []⟩)) _ _ s
  refine wpAny_bind (wpAny_of_eq (F.newCall_set_1 a) (wpAny_pure ⟨plainId_quiet F.plain_set_new _, codeAny_builtin F.entry_set_new ?_⟩))
  rw [Around.under_plainId F.plain_set_new _]
  unfold Builtin.«set.__new__» Builtin.Frozenset.newClass
  have hsub := sub_set_self
  obtain ⟨hp, g, d, tk, os⟩ := s
  dsimp only
  wp_walk
  refine wpAny_askSetting (wpAny_pure ?_)
  dsimp only
  simp only [newObj]
  refine wpAny_bind (wpAny_alloc (wpAny_pure ?_))
  exact wpAny_pure h

/-- what the loop leaves -/
def Made (s : Shared) (w : World) (ns : List Int) (s₂ : Shared) : Prop := ∃ h' tk ks, s₂ = { s with heap := h', toks := tk } ∧ SmAt h' s.heap.objs.size ks (ledOf w) ∧ ks.Nodup ∧ (∀ x, x ∈ ks ↔ x ∈ ns) ∧ ∀ b o, b < s.heap.objs.size → s.heap.get? b = some o → h'.get? b = some o

set_option maxHeartbeats 3200000 in
theorem set_of {l : Addr} {T : String} {odict : Option Addr} {odata : Data} {oslots : Array (Option Value)} {oI : Obj} {St : Addr → Nat → Heap → Prop} {items : Array Value} {ns : List Int} {Q : Value → Shared → Prop}
    (hh : A.handled = none) (hol : s.heap.get? l = some { cls := .type T, dict := odict, data := odata, slots := oslots }) (hi : PyProof.Rows.IntsAre items.toList ns) (h4 : ns.length ≤ 4)
    (hsls : isSubtype (.type T) (.type "set") = pure false) (hslf : isSubtype (.type T) (.type "frozenset") = pure false) (hne : (Value.type T == Value.type "dict") = false)
    (hiter : ∀ (A' : Around) (s' : Shared) (E' : Value → Shared → Prop) (Q' : Value → Shared → Prop), s'.heap.get? l = some { cls := .type T, dict := odict, data := odata, slots := oslots } →
      Q' (.ref s'.heap.objs.size) { s' with heap := s'.heap.push oI } → wpAny (model prog w) A' (pyIter (.ref l)) Q' E' s')
    (W : ∀ (A' : Around) (I : Addr), A'.handled = none → l ≠ I → Walks prog w A' I [I, l] [I] items.size (fun i v => items[i]? = some v) (St I))
    (st0 : ∀ (I : Addr) (h : Heap), (h.push oI).get? h.objs.size = some oI → (h.push oI).get? l = some { cls := .type T, dict := odict, data := odata, slots := oslots } → I = h.objs.size → St I 0 (h.push oI)) (hoI : oI.isFreed = false)
    (h : ∀ s₂, Made s w ns s₂ → Q (.ref s.heap.objs.size) s₂) :
    wpAny (model prog w) A (call (.type "set") [.ref l]) Q E s := by
  obtain ⟨c, tl, hmro⟩ := F.called_set.mro
  have hmade := F.called_set.made
  have hsub := F.called_set.sub
  refine wpAny_call (codeAny_of_tree ?_)
  show wpAny _ _ (callAny (.type "set") _) _ _ _
  refine wpAny_pure ⟨Code.quiet_builtin _ (by decide +kernel), codeAny_builtin F.entry_type_call ?_⟩
  rw [Around.under_plain (weight_type_call_type "set" [.ref l] []) rfl]
  have h1 := F.called_set.notType
  have h2 := F.called_set.canCreate
  have hct := F.typeCall_set_1 (.ref l)
  repeat (any_goals (first | assumption | wp_step))
  refine codeAny_mono (new1 (.ref l) (E := E) (Q₁ := fun obj s₁ => obj = .ref s.heap.objs.size ∧ s₁ = { s with heap := s.heap.push { cls := .type "set", dict := none, data := .set #[] 0 (.fresh 0 0 (ledOf w)) } }) ⟨rfl, rfl⟩) fun r s₁ hr => ?_
  cases r with
  | error e => exact hr
  | ok fl =>
    cases fl with
    | ret obj =>
      obtain ⟨rfl, rfl⟩ := hr
      have hS : (s.heap.push { cls := .type "set", dict := none, data := .set #[] 0 (.fresh 0 0 (ledOf w)) }).get? s.heap.objs.size = some { cls := .type "set", dict := none, data := .set #[] 0 (.fresh 0 0 (ledOf w)) } := Heap.get?_push_size _ rfl
      have hT : Shared.TypeIs { s with heap := s.heap.push { cls := .type "set", dict := none, data := .set #[] 0 (.fresh 0 0 (ledOf w)) } } (.ref s.heap.objs.size) "set" := ⟨_, hS, rfl⟩
      have hli := F.called_set.init.lookup
      have hbi := F.called_set.init.bind (.ref s.heap.objs.size)
      repeat (any_goals (first | assumption | wp_step))
      refine codeAny_mono (codeAny_call_builtin (R := wants (fun r s₂ => r = .none ∧ Made s w ns s₂) E) F.called_set.init.plain F.entry_set_init (check_set_init_1 hT ?_)) fun r₂ s₂ hr₂ => ?_
      · have hol' : (s.heap.push { cls := .type "set", dict := none, data := .set #[] 0 (.fresh 0 0 (ledOf w)) }).get? l = some { cls := .type T, dict := odict, data := odata, slots := oslots } := Heap.get?_push_of_some _ hol
        unfold Builtin.«set.__init__» noKeywords Builtin.Frozenset.updateFrom
        generalize hPI : pyIter = PI
        wp_walk
        subst hPI
        refine hiter _ _ _ _ hol' ?_
        refine wpAny_bind (wpAny_runValue ?_)
        have hlS : l < s.heap.objs.size := Heap.lt_size hol
        have hh3 : A.in1.in1.in1.handled = none := by simp [hh]
        have hneI : l ≠ (s.heap.push { cls := .type "set", dict := none, data := .set #[] 0 (.fresh 0 0 (ledOf w)) }).objs.size := by
          rw [Heap.size_push]; exact Nat.ne_of_lt (Nat.lt_succ_of_lt hlS)
        have hSf : s.heap.objs.size ∉ [(s.heap.push { cls := .type "set", dict := none, data := .set #[] 0 (.fresh 0 0 (ledOf w)) }).objs.size, l] := by
          rw [Heap.size_push]; simp only [List.mem_cons, List.not_mem_nil, or_false, not_or]
          exact ⟨Nat.ne_of_lt (Nat.lt_succ_self _), Nat.ne_of_gt hlS⟩
        have hlen : items.size = ns.length := by have := PyProof.Rows.IntsAre.length hi; simpa using this
        have hval : ∀ (i : Nat) (v : Value), items[i]? = some v → ∃ k t, v = .int k t ∧ ns[i]? = some k := fun i v hv => by
          obtain ⟨t, e⟩ := PyProof.Rows.IntsAre.int_at hi i v (by rw [Array.getElem?_toList]; exact hv)
          have hlt : i < ns.length := by rw [← hlen]; exact (Array.getElem?_eq_some_iff.mp hv).1
          exact ⟨_, t, e, by rw [List.getD_eq_getElem?_getD, List.getElem?_eq_getElem hlt]; rfl⟩
        refine loop_ok (led := ledOf w) ((W _ _ hh3 hneI).toS) s.heap.objs.size hSf hlen hval (by omega) items.size 0 _ [] (by omega) (Nat.zero_le _)
          (st0 _ _ (Heap.get?_push_size _ hoI) (Heap.get?_push_of_some _ hol') rfl) ?hS0 (Mem.zero ns) ?hR
        case hS0 =>
          exact ⟨_, Heap.get?_push_of_some _ hS, ⟨#[], 0, _, rfl, fresh_ok _, rfl, fun e he => by simp at he, rfl, by simp⟩⟩
        case hR =>
          intro s' ks hm hS' M
          obtain ⟨h', g', d', tk', os'⟩ := s'
          have eg : g' = s.gens := hm.gens
          have ed : d' = s.drawn := hm.drawn
          have eo : os' = s.os := hm.os
          subst eg; subst ed; subst eo
          show wpAny _ _ _ _ _ _
          refine wpAny_pure ?_
          show wpAny _ _ (ret Value.none) _ _ _
          refine wpAny_pure ⟨rfl, h', tk', ks, rfl, hS', M.nd, fun x => ?_, fun b o hb e => ?_⟩
          · rw [M.mem, hlen, List.take_length]
          · have hb1 : b ≠ s.heap.objs.size := Nat.ne_of_lt hb
            have hb2 : b ≠ (s.heap.push { cls := .type "set", dict := none, data := .set #[] 0 (.fresh 0 0 (ledOf w)) }).objs.size := by
              rw [Heap.size_push]; exact Nat.ne_of_lt (Nat.lt_succ_of_lt hb)
            exact hm.heap b o (by simp only [List.mem_cons, List.not_mem_nil, or_false, not_or]; exact ⟨hb1, hb2⟩) (Heap.get?_push_of_some _ (Heap.get?_push_of_some _ e))
      · cases r₂ with
        | error e => exact hr₂
        | ok fl₂ =>
          cases fl₂ with
          | ret r =>
            obtain ⟨rfl, hM⟩ := hr₂
            obtain ⟨h', tk, ks, rfl, rest⟩ := id hM
            repeat (any_goals (first | assumption | wp_step))
            exact h _ hM
          | _ => exact hr₂.elim
    | _ => exact hr.elim

end
end SmSet

namespace SmSet
open PySem
set_option maxRecDepth 100000
section
variable {prog : Program} {w : World} {A : Around} {E : Value → Shared → Prop} {s : Shared}
theorem set_of_tuple {l : Addr} {items : Array Value} {ns : List Int} {Q : Value → Shared → Prop} (hh : A.handled = none) (hl : s.heap.IsTuple l items) (hi : PyProof.Rows.IntsAre items.toList ns) (h4 : ns.length ≤ 4)
    (h : ∀ s₂, Made s w ns s₂ → Q (.ref s.heap.objs.size) s₂) : wpAny (model prog w) A (call (.type "set") [.ref l]) Q E s := by
  obtain ⟨⟨oc, od, odt, osl⟩, hol, hcl, nl, hdl⟩ := hl
  simp only at hcl hdl
  subst hcl; subst hdl
  exact set_of (oI := { cls := .type "tuple_iterator", data := .fields #[.ref l, .int 0 0] }) hh hol hi h4 sub_tup_set sub_tup_frz (by decide) (fun A' s' E' Q' e q => wpAny_pyIter_tuple ⟨_, e, rfl, nl, rfl⟩ q)
    (fun A' I h1 h2 => Walks.tuple h1 I l h2 items) (fun I h' e1 e2 e3 => by subst e3; exact ⟨⟨_, e1, rfl, rfl⟩, ⟨_, e2, rfl, nl, rfl⟩⟩) rfl h
theorem set_of_list {l : Addr} {items : Array Value} {ns : List Int} {Q : Value → Shared → Prop} (hh : A.handled = none) (hl : s.heap.IsList l items) (hi : PyProof.Rows.IntsAre items.toList ns) (h4 : ns.length ≤ 4)
    (h : ∀ s₂, Made s w ns s₂ → Q (.ref s.heap.objs.size) s₂) : wpAny (model prog w) A (call (.type "set") [.ref l]) Q E s := by
  obtain ⟨⟨oc, od, odt, osl⟩, hol, hcl, nl, hdl⟩ := hl
  simp only at hcl hdl
  subst hcl; subst hdl
  exact set_of (oI := { cls := .type "list_iterator", data := .fields #[.ref l, .int 0 0] }) hh hol hi h4 sub_lst_set sub_lst_frz (by decide) (fun A' s' E' Q' e q => wpAny_pyIter_list ⟨_, e, rfl, nl, rfl⟩ q)
    (fun A' I h1 h2 => Walks.list h1 I l h2 items) (fun I h' e1 e2 e3 => by subst e3; exact ⟨⟨_, e1, rfl, rfl⟩, ⟨_, e2, rfl, nl, rfl⟩⟩) rfl h
end
end SmSet

namespace SmSet
open PySem PySem.W PyProof.Rows
set_option maxRecDepth 100000
theorem slot_set_len' : Slot "set" "__len__" "set.__len__" :=
  .of (owner := "set") (n := "__len__") (by rw [typeLookup_type, builtinLookup_eq_fast]; kernel_rfl) (by decide +kernel) (by decide +kernel) (by decide +kernel)
    (by first | exact .inl (by decide +kernel) | exact .inr (by decide +kernel)) (by rw [isSubtype_type]; kernel_rfl)
section
variable {prog : Program} {w : World} {A : Around} {E : Value → Shared → Prop} {s : Shared}
theorem hint_set {r : Addr} {Q : Bool → Shared → Prop} (hT : s.TypeIs (.ref r) "set") (h : Q false s) : wpAny (model prog w) A (Builtin.List.listLengthHint (.ref r)) Q E s := by
  unfold Builtin.List.listLengthHint
  refine wpAny_bind (wpAny_specialOf hT slot_set_len'.lookup ?_)
  generalize hid : ("set.__len__" : String) = id0
  wp_delta
  rw [show splitId id0 = some ("set", "__len__") from by subst hid; decide +kernel]
  subst hid
  refine wpAny_bind (wpAny_isInstance (T := "set") (b := true) hT (by rw [isSubtype_type]; kernel_rfl) ?_)
  refine wpAny_ite_split (fun hab => absurd hab (by decide)) (fun _ => ?_)
  refine wpAny_ite_split (fun _ => ?_) (fun hab => absurd (by decide +kernel) hab)
  refine wpAny_bind (wpAny_typeOf hT ?_)
  exact wpAny_pure h
/-- a small set as a source of items -/
theorem src {a : Addr} {es : Array (Int × Value)} {ep : Nat} {t : SetTable} (T : TOk t es.size) (h4 : es.size ≤ 4) (hled : t.led = ledOf w) :
    KdlSrc prog w "set" a a es.size (fun i v => ((wk w a ep es)[i]?).map (·.2) = some v) (fun h => SetIs h a es ep t) where
  type := fun s ok => ⟨_, ok, rfl⟩
  there := fun h ok => ⟨Heap.lt_size ok, Heap.lt_size ok⟩
  keep := fun h h' ok k => k a (.inl rfl) _ ok
  notList := by decide
  notTuple := by decide
  hint := fun A E s Q ok q => hint_set ⟨_, ok, rfl⟩ q
  iter := fun A s hh ok => ⟨{ cls := .type "set_iterator", dict := none, data := .fields #[.int (0 : Nat) 0, .int (0 : Nat) 0, .ref a, .int es.size 0, .int ep 0] }, _,
    fun E Q q => iter_ok ok T h4 q, walks hh _ a (Nat.ne_of_lt (Heap.lt_size ok)) T h4 hled,
    ⟨0, Heap.get?_push_size _ rfl, .inr (below_zero T.up)⟩, Heap.get?_push_of_some _ ok⟩
theorem ints_perm : ∀ {es : List (Int × Value)}, (∀ e ∈ es, IntE e) → IntsAre (es.map (·.2)) (es.map keyOf)
  | [], _ => .nil
  | e :: r, h => by
    obtain ⟨k, t, rfl⟩ := h e (.head _)
    exact .cons k t (ints_perm fun x hx => h x (.tail _ hx))
theorem sh_keep {h : Heap} {a b : Addr} {vs : List Value} {out : Array Value} {o : Obj} (hb : b ≠ a) (e : h.get? b = some o) : (sortedHeap h a vs out).get? b = some o := by
  unfold sortedHeap
  refine (Heap.get?_update_other _ _ (Ne.symm hb)).trans ?_
  exact Heap.get?_push_of_some _ (Heap.get?_push_of_some _ ((Heap.get?_update_other _ _ (Ne.symm hb)).trans e))
theorem sh_at {h : Heap} {a : Addr} {vs : List Value} {out : Array Value} {n : Nat} (e : h.get? a = some (seqObj "list" vs.toArray n)) : ∃ n', (sortedHeap h a vs out).get? a = some { cls := .type "list", dict := none, data := .seq out n' } := by
  unfold sortedHeap
  have e1 := get?_update_seq e (fun _ => #[])
  have e2 := Heap.get?_push_of_some (seqObj "list" #[] 0) (Heap.get?_push_of_some (seqObj "tuple" vs.toArray 0) e1)
  exact ⟨_, get?_update_seq e2 (fun _ => out)⟩
/-- sorted(a small set): a new list, its ints from the least on -/
theorem sorted_set {a : Addr} {ks : List Int} {Q : Value → Shared → Prop} (hh : A.handled = none) (hS : SmAt s.heap a ks (ledOf w))
    (h : ∀ (h' : Heap) (tk : Nat) (p : Addr) (out : Array Value) (ks' : List Int), (∀ b o, s.heap.get? b = some o → h'.get? b = some o) → s.heap.get? p = none → IntsAre out.toList ks' → ks'.Perm ks → ks'.Pairwise (· ≤ ·) →
      (∃ n, h'.get? p = some { cls := .type "list", dict := none, data := .seq out n }) → Q (.ref p) { s with heap := h', toks := tk }) :
    wpAny (model prog w) A (call (.builtin "sorted") [.ref a]) Q E s := by
  obtain ⟨o, ho, ⟨es, ep, t, rfl, T, hled, hE, hks, hl⟩⟩ := hS
  have hsz : es.size = ks.length := by rw [hks]; simp
  have hl4 : es.size ≤ 4 := by omega
  refine Calls.call_function_entry kind_sorted plain_sorted entry_sorted (args_sorted1 _) ?_
  unfold Builtin.«sorted»
  refine wpAny_bind (m := checkCount "sorted" 1 1 _) (wpAny_pure ?_)
  refine wpAny_bind (kdu_collect (A := A.in1) (src (ep := ep) T hl4 hled) hh ho (by rw [sizeLine_eq]; omega) fun h' tk acc hk hacc => ?_)
  have hacc' : acc.toList = ((wk w a ep es).toList.map (·.2)) := by
    refine List.ext_getElem? fun j => ?_
    have hsz' : (wk w a ep es).size = es.size := wk_size w a ep es
    rcases Nat.lt_or_ge j es.size with hj | hj
    · have h1 : j < acc.size := by rw [hacc.1]; exact hj
      have h2 := hacc.2 j acc[j] (by rw [Array.getElem?_eq_getElem h1])
      rw [List.getElem?_map, Array.getElem?_toList, Array.getElem?_toList, h2, Array.getElem?_eq_getElem h1]
    · rw [List.getElem?_eq_none (by rw [Array.length_toList, hacc.1]; exact hj), List.getElem?_eq_none (by rw [List.length_map, Array.length_toList, hsz']; exact hj)]
  have hpm := wk_perm w a ep es
  have hI : IntsAre acc.toList ((wk w a ep es).toList.map keyOf) := by
    rw [hacc']
    exact ints_perm fun e he => hE e (hpm.mem_iff.mp he)
  have hkp : ((wk w a ep es).toList.map keyOf).Perm ks := by rw [hks]; exact hpm.map keyOf
  have hlen : acc.toList.length < 64 := by rw [Array.length_toList, hacc.1]; omega
  refine wpAny_bind (wpAny_newList ?_ (by rw [Array.length_toList, hacc.1, sizeLine_eq]; omega))
  have hoL : (h'.push { cls := .type "list", data := .seq acc.toList.toArray }).get? h'.objs.size = some (seqObj "list" acc.toList.toArray 0) := Heap.get?_push_size _ rfl
  refine wpAny_bind (wpAny_holding (wpAny_call_entry slot_list_sort ⟨_, hoL, rfl⟩ entry_list_sort (list_sort_tree hoL hI hlen fun out ns' a1 a2 a3 => ⟨_, rfl, ?_⟩) (args_list_sort _)))
  refine wpAny_pure ⟨_, rfl, ?_⟩
  refine h _ tk h'.objs.size out ns' (fun b o e => ?_) ?_ a1 (a2.trans hkp) a3 (sh_at hoL)
  · exact sh_keep (Nat.ne_of_lt (Heap.lt_size (hk b o e))) (Heap.get?_push_of_some _ (hk b o e))
  · cases e : s.heap.get? h'.objs.size with
    | none => rfl
    | some o => exact absurd (Heap.lt_size (hk _ o e)) (Nat.lt_irrefl _)
end
end SmSet

namespace L2
open PySem PySem.Spec PyProof.Rows

/-! ### a new object at an address where nothing stands -/
section
variable {P : Program} {w : World} {H : Hp} {h h' : Heap} {a : Addr} {o : HO}
theorem ObjOk.there (x : ObjOk P w H h a o) : ∃ ob, h.get? a = some ob := by
  induction o with
  | lst xs => obtain ⟨_, _, _, _, e⟩ := x; exact ⟨_, e⟩
  | tup xs => obtain ⟨_, _, _, _, e, _⟩ := x; exact ⟨_, e⟩
  | dK kvs => obtain ⟨_, _, _, _, ob, _, _, e, _⟩ := x; exact ⟨_, e⟩
  | dT kvs => obtain ⟨_, _, _, _, ob, _, _, e, _⟩ := x; exact ⟨_, e⟩
  | set S n => obtain ⟨ob, _, _, _, e, _⟩ := x; exact ⟨_, e⟩
  | ins C dx fs => obtain ⟨_, _, _, e, _⟩ := x; exact ⟨_, e⟩
  | own y => exact x
  | xd fs => obtain ⟨_, ⟨_, _, _, e, _⟩, _⟩ := x; exact ⟨_, e⟩
  | rng lo hi => obtain ⟨_, _, _, e⟩ := x; exact ⟨_, e⟩
  | frz ob u ih => obtain ⟨e, _⟩ := x; exact ⟨_, e⟩
  | tbl ps => exact ⟨_, (show h.get? a = some _ from x)⟩
  | met f y => exact ⟨_, (show h.get? a = some _ from x)⟩
  | ext φ => obtain ⟨_, e, _⟩ := x; exact e
theorem HOk.none (x : HOk P w H h) (e : h.get? a = none) : H a = none := by
  cases q : H a with
  | none => rfl
  | some u =>
    obtain ⟨ob, e'⟩ := (x a u q).there
    rw [e] at e'; cases e'
end
section
variable {X : Cx} {pins : List (Addr × Obj)} {σ : St} {H : Hp} {s : Shared} {h' : Heap}
theorem Inv.laidN {a : Addr} {o : HO} {t' : Nat} (I : Inv X pins σ H s) (k : ∀ b u, s.heap.get? b = some u → h'.get? b = some u) (hp : s.heap.get? a = none) (new : ObjOk X.prog X.w (upd H a o) h' a o) :
    Inv X pins σ (upd H a o) { s with heap := h', toks := t' } := by
  have hn := I.hok.none hp
  have ne : ∀ b u, s.heap.get? b = some u → b ≠ a := fun b u q z => by rw [z, hp] at q; cases q
  refine I.un (H' := upd H a o) ⟨fun b u q _ _ _ => k b u q, fun b u q _ _ _ => ⟨u.slots, k b u q⟩, fun b u q n _ => by rw [upd_ne (ne b u q)]; exact n, fun b u q _ => ⟨u, k b u q⟩,
    fun b xs q => by rw [upd_ne (ne_of_none q hn)]; exact q, fun b u xs q => by rw [upd_ne (ne_of_none q hn)]; exact q, fun b ps q => ⟨#[], by rw [upd_ne (ne_of_none q hn), q]; simp⟩⟩ (fun b u e => ?_)
  by_cases hb : b = a
  · subst hb; rw [upd_same] at e; cases e; exact new
  · rw [upd_ne hb] at e
    exact (I.hok b u e).stay (fun c v _ q => k c v q) (fun c q => by rw [upd_ne (ne_of_none q hn)]; exact q) fun c xs q => by rw [upd_ne (ne_of_none q hn)]; exact q

/-! ### small sets of ints -/
/-- a small set of ints stands at a -/
def SetH (w : World) (a : Addr) (ks : List Int) : HO := .ext fun h => SmSet.SmAt h a ks (SmSet.ledOf w)
theorem setH_ok {a : Addr} {ks : List Int} {h1 : Heap} {P : Program} {w : World} {H1 : Hp} (x : SmSet.SmAt h1 a ks (SmSet.ledOf w)) : ObjOk P w H1 h1 a (SetH w a ks) := by
  refine ⟨x, ?_, fun g1 g2 y k => ?_⟩
  · obtain ⟨o, e, _⟩ := x
    exact ⟨o, e⟩
  · obtain ⟨o, e, z⟩ := y
    exact ⟨o, k o e, z⟩
def rSet (X : Cx) : List V → Hp → VK → Prop := fun xs H Q => ∃ (p : Addr) (ns : List Int), xs = [.ref p] ∧ (SqL X.K H p (ns.map V.int) ∨ SqT X.K H p (ns.map V.int)) ∧ ns.length ≤ 4 ∧
  ∀ (l : Addr) (ks : List Int), H l = none → ks.Nodup → (∀ x, x ∈ ks ↔ x ∈ ns) → Q (.ref l) (upd H l (SetH X.w l ks))
theorem call_set (hc : X.calm = true) : CallR X (.type "set") (rSet X) := by
  intro pins s σ H xs us Q I r h
  obtain ⟨p, ns, rfl, hp, h4, q⟩ := h
  obtain ⟨u, rfl, ru⟩ := vals1 r
  cases (show u = Value.ref p from ru)
  have fin : ∀ s₂, SmSet.Made s X.w ns s₂ → EP X pins σ Q (.ref s.heap.objs.size) s₂ := fun s₂ ⟨h', tk, ks, e, hS, nd, mem, k⟩ => by
    subst e
    exact ⟨.ref _, _, I.laid (fun b u e => k b u (Heap.lt_size e) e) (Nat.le_refl _) (setH_ok hS), rfl, q _ ks I.fresh nd mem⟩
  rcases hp with hp | hp
  · obtain ⟨its, v, ⟨o, n, e, ec, _, ed⟩, _⟩ := I.list hp
    exact SmSet.set_of_list (items := its.toArray) (I.ok.hd hc) ⟨o, e, ec, n, ed⟩ (by simpa using intsAre_of v) h4 fin
  · obtain ⟨its, v, ⟨o, e, ec, n, ed⟩, _⟩ := I.tuple hp
    exact SmSet.set_of_tuple (items := its.toArray) (I.ok.hd hc) ⟨o, e, ec, n, ed⟩ (by simpa using intsAre_of v) h4 fin
def rSortSet (X : Cx) : List V → Hp → VK → Prop := fun xs H Q => ∃ (a : Addr) (ks : List Int), xs = [.ref a] ∧ H a = some (SetH X.w a ks) ∧ ∀ (p : Addr) (ks' : List Int), H p = none → ks'.Perm ks → ks'.Pairwise (· ≤ ·) → Q (.ref p) (upd H p (.lst (ks'.map V.int)))
theorem call_sortSet (hc : X.calm = true) : CallR X (.builtin "sorted") (rSortSet X) := by
  intro pins s σ H xs us Q I r h
  obtain ⟨a, ks, rfl, ha, q⟩ := h
  obtain ⟨u, rfl, ru⟩ := vals1 r
  cases (show u = Value.ref a from ru)
  have hS : SmSet.SmAt s.heap a ks (SmSet.ledOf X.w) := (I.hok a _ ha).1
  refine SmSet.sorted_set (I.ok.hd hc) hS fun h' tk p out ks' k hp hi pm pw ⟨n, e⟩ => ?_
  have hl : ks'.length ≤ 4 := by
    rw [pm.length_eq]
    obtain ⟨_, _, ⟨_, _, _, _, _, _, _, _, z⟩⟩ := hS
    exact z
  have hv : Vals (ks'.map V.int) out.toList := vals_ints hi
  exact ⟨.ref p, _, I.laidN (o := .lst (ks'.map V.int)) (t' := tk) k hp ⟨by rw [List.length_map, sizeLine_eq]; omega, out.toList, n, hv, by simpa using e⟩, rfl, q p ks' (I.hok.none hp) pm pw⟩

/-! ### isinstance -/
def rIsi (X : Cx) : List V → Hp → VK → Prop := fun xs H Q => ∃ x n t b, xs = [x, .ty n] ∧ TyOf X.K H x t ∧ PySem.W.kitOne X.K t (.type n) = some b ∧ Q (.bl b) H
theorem call_isi : CallR X (.builtin "isinstance") (rIsi X) := by
  intro pins s σ H xs us Q I r h
  obtain ⟨x, n, t, b, rfl, ty, e, q⟩ := h
  obtain ⟨u, w', rfl, ru, rw'⟩ := vals2 r
  cases (show w' = Value.type n from rw')
  exact isinst_ok I ru ty e fun tk => ⟨.bl b, H, I.tok tk, rfl, q⟩
theorem kit_int_int {K : PySem.W.Frag} : PySem.W.kitOne K (.type "int") (.type "int") = some true := rfl
theorem kit_int_bool {K : PySem.W.Frag} : PySem.W.kitOne K (.type "int") (.type "bool") = some false := by kernel_rfl
theorem kit_list_list {K : PySem.W.Frag} : PySem.W.kitOne K (.type "list") (.type "list") = some true := rfl
theorem kit_tuple_tuple {K : PySem.W.Frag} : PySem.W.kitOne K (.type "tuple") (.type "tuple") = some true := rfl
theorem kit_str_str {K : PySem.W.Frag} : PySem.W.kitOne K (.type "str") (.type "str") = some true := rfl
theorem kit_none_int {K : PySem.W.Frag} : PySem.W.kitOne K (.type "NoneType") (.type "int") = some false := by kernel_rfl
end
end L2

namespace RevL
open PySem PySem.W PyProof.Rows
set_option maxRecDepth 100000
theorem nolen_rev : typeLookup (.type "list_reverseiterator") "__len__" = pure none := by rw [typeLookup_type, builtinLookup_eq_fast]; kernel_rfl
theorem hint_rev : typeLookup (.type "list_reverseiterator") "__length_hint__" = pure (some (.builtin "list_reverseiterator.__length_hint__")) := by rw [typeLookup_type, builtinLookup_eq_fast]; kernel_rfl
section
variable {prog : Program} {w : World} {A : Around} {E : Value → Shared → Prop} {s : Shared}
theorem hint_no {I : Addr} {Q : Bool → Shared → Prop} (hT : s.TypeIs (.ref I) "list_reverseiterator") (h : Q false s) : wpAny (model prog w) A (Builtin.List.listLengthHint (.ref I)) Q E s := by
  unfold Builtin.List.listLengthHint
  refine wpAny_bind (wpAny_specialOf hT nolen_rev ?_)
  show wpAny _ A (specialOf (Value.ref I) (Str.ofString "__length_hint__") >>= _) _ _ _
  refine wpAny_bind (wpAny_specialOf hT hint_rev ?_)
  generalize hid : ("list_reverseiterator.__length_hint__" : String) = id0
  wp_delta
  rw [show splitId id0 = some ("list_reverseiterator", "__length_hint__") from by subst hid; decide +kernel]
  subst hid
  refine wpAny_bind (wpAny_isInstance (b := true) hT (by rw [isSubtype_type]; kernel_rfl) ?_)
  exact wpAny_pure h
theorem ext_loop {R : Result → Shared → Prop} {I l : Addr} {items : Array Value} (hh : A.handled = none) (hit : s.heap.IsRevIter I l ((items.size : Int) - 1)) (hl : s.heap.IsList l items) (hne : l ≠ I) (hn : items.size ≤ sizeLine) (S : Addr) (hSI : S ≠ I) (hSl : S ≠ l) (res : Value) (c₀ : Nat) (hS : s.heap.get? S = some { cls := .type "list", data := .seq #[] c₀ })
    (hR : ∀ h' tk acc' c', (∀ b o, b ≠ S → b ≠ I → s.heap.get? b = some o → h'.get? b = some o) → h'.get? S = some { cls := .type "list", dict := none, data := .seq acc' c', slots := #[] } → ItemsOf (fun i v => items[items.size - 1 - i]? = some v) acc' items.size → R (.ok (.ret res)) { s with heap := h', toks := tk }) :
    wpAny (model prog w) A.in1 (Builtin.List.listExtendWith (.ref S) (.ref I) res)
      (fun fin s' => match fin with | .done f => R (.ok f) s' | .again c' => c'.quiet = true ∧ codeAny (model prog w) A c' R s') (fun e s' => R (.error e) s') s := by
  have hSf : S ∉ [I, l] := by simp only [List.mem_cons, List.not_mem_nil, or_false, not_or]; exact ⟨hSI, hSl⟩
  have W := Walks.listRev (prog := prog) (w := w) (A := A.in1) hh I l hne items
  have st : (fun i h => i ≤ items.size ∧ Heap.IsRevIter h I l ((items.size : Int) - 1 - (i : Int)) ∧ h.IsList l items) 0 s.heap := ⟨Nat.zero_le _, by simpa using hit, hl⟩
  unfold Builtin.List.listExtendWith
  refine wpAny_bind (wpAny_typeOf hit.typeIs ?_)
  have h1 : Builtin.List.listSameRef (.ref S) (.ref I) = false := by simp [Builtin.List.listSameRef, hSI]
  rw [if_neg (by rw [h1]; decide)]
  refine wpAny_bind (W.self 0 _ _ _ st ?_)
  refine wpAny_bind (wpAny_holding (hint_no hit.typeIs ?_))
  rw [if_neg (by decide)]
  refine wpAny_pure ⟨plainId_quiet PySem.F.plain_extend_loop _, codeAny_extend_loopS W.toS hn S hSf res items.size 0 _ #[] c₀ rfl (Nat.zero_le _) st hS (ItemsOf.nil _) fun s' acc' c' hm hS' hacc => ?_⟩
  rw [Moved.eq_with hm]
  refine hR s'.heap s'.toks acc' c' (fun b o hb hbI e => hm.heap b o (fun hmem => ?_) e) hS' hacc
  rcases List.mem_cons.mp hmem with e' | hmem
  · exact hb e'
  · exact hbI (List.mem_singleton.mp hmem)
theorem init_rev {R : Result → Shared → Prop} {I l : Addr} {items : Array Value} (hh : A.handled = none) (hit : s.heap.IsRevIter I l ((items.size : Int) - 1)) (hl : s.heap.IsList l items) (hne : l ≠ I) (hn : items.size ≤ sizeLine) (S : Addr) (hSI : S ≠ I) (hSl : S ≠ l) (hS : s.heap.get? S = some { cls := .type "list", data := .seq #[] })
    (hR : ∀ h' tk acc' c', (∀ b o, b ≠ S → b ≠ I → s.heap.get? b = some o → h'.get? b = some o) → h'.get? S = some { cls := .type "list", dict := none, data := .seq acc' c', slots := #[] } → ItemsOf (fun i v => items[items.size - 1 - i]? = some v) acc' items.size → R (.ok (.ret .none)) { s with heap := h', toks := tk }) :
    wpAny (model prog w) A.in1 (Builtin.«list.__init__» ⟨[.ref S, .ref I], []⟩)
      (fun fin s' => match fin with | .done f => R (.ok f) s' | .again c' => c'.quiet = true ∧ codeAny (model prog w) A c' R s') (fun e s' => R (.error e) s') s := by
  show wpAny _ _ (do let old ← Builtin.List.listItems (.ref S); Builtin.List.listUpdate (.ref S) (fun _ => #[]); letGo old.toList.reverse; Builtin.List.listExtendWith (.ref S) (.ref I) .none) _ _ s
  refine wpAny_bind ?_
  unfold Builtin.List.listItems
  refine wpAny_bind (wpAny_seqItems hS rfl (wpAny_pure ?_))
  show wpAny _ _ (updateSeq S (fun _ => #[]) >>= fun _ => letGo (#[] : Array Value).toList.reverse >>= fun _ => Builtin.List.listExtendWith (.ref S) (.ref I) .none) _ _ s
  refine wpAny_bind (wpAny_updateSeq hS rfl ?_)
  have hS₂ := Heap.get?_update_self (Obj.mapSeq (fun _ => (#[] : Array Value))) hS rfl
  have oth : ∀ b o, b ≠ S → s.heap.get? b = some o → (s.heap.update S (Obj.mapSeq (fun _ => (#[] : Array Value)))).get? b = some o :=
    fun b o hb e => (Heap.get?_update_other _ _ (Ne.symm hb)).trans e
  refine wpAny_bind (wpAny_letGo ?_)
  refine ext_loop (s := { s with heap := s.heap.update S (Obj.mapSeq (fun _ => (#[] : Array Value))) }) hh (hit.at fun o e => oth I o hSI.symm e) (let ⟨o, e, r⟩ := hl; ⟨o, oth l o hSl.symm e, r⟩) hne hn S hSI hSl .none _ hS₂ (fun h' tk acc' c' hk hS' hacc => ?_)
  exact hR h' tk acc' c' (fun b o hb hbI e => hk b o hb hbI (oth b o hb e)) hS' hacc
theorem call_rev {Q : Value → Shared → Prop} {I l : Addr} {items : Array Value} (hh : A.handled = none) (hit : s.heap.IsRevIter I l ((items.size : Int) - 1)) (hl : s.heap.IsList l items) (hne : l ≠ I) (hn : items.size ≤ sizeLine)
    (hQ : ∀ h' tk acc' c', (∀ b o, b ≠ I → s.heap.get? b = some o → h'.get? b = some o) → h'.get? s.heap.objs.size = some { cls := .type "list", dict := none, data := .seq acc' c', slots := #[] } → ItemsOf (fun i v => items[items.size - 1 - i]? = some v) acc' items.size → Q (.ref s.heap.objs.size) { s with heap := h', toks := tk }) :
    wpAny (model prog w) A (call (.type "list") [.ref I]) Q E s := by
  refine callType_codes (Q₁ := fun obj s₁ => obj = .ref s.heap.objs.size ∧ s₁ = { s with heap := s.heap.push { cls := .type "list", data := .seq #[] } }) PySem.F.called_list (PySem.F.typeCall_list_1 _) PySem.F.entry_list_init
    (code_list_new _ ⟨rfl, rfl⟩) fun obj s₁ h₁ => ?_
  obtain ⟨rfl, rfl⟩ := h₁
  have hS : (s.heap.push { cls := .type "list", data := .seq #[] }).get? s.heap.objs.size = some { cls := .type "list", data := .seq #[] } := Heap.get?_push_size _ rfl
  have ltI : I < s.heap.objs.size := let ⟨o, e, _⟩ := hit; Heap.lt_size e
  have ltl : l < s.heap.objs.size := let ⟨o, e, _⟩ := hl; Heap.lt_size e
  refine ⟨⟨_, hS, rfl⟩, PySem.F.args_list_init_2 _ _, init_rev (A := A.in1) (s := { s with heap := s.heap.push { cls := .type "list", data := .seq #[] } }) hh (hit.at fun o e => Heap.get?_push_of_some _ e) (hl.push _) hne hn _ (Nat.ne_of_gt ltI) (Nat.ne_of_gt ltl) hS (fun h' tk acc' c' hk hS' hacc => ?_)⟩
  exact ⟨rfl, hQ h' tk acc' c' (fun b o hb e => hk b o (Nat.ne_of_lt (Heap.lt_size e)) hb (Heap.get?_push_of_some _ e)) hS' hacc⟩
end
end RevL
namespace L2
open PySem PySem.Spec PyProof.Rows
/-- a reversed list, just made in this body -/
def RevH (X : Cx) (I a : Addr) (n : Nat) : HO := .ext fun h => h.IsRevIter I a ((n : Int) - 1) ∧ X.s₀.heap.objs.size ≤ I
def dropA (H : Hp) (I : Addr) : Hp := fun b => if b = I then none else H b
theorem dropA_upd {H : Hp} {I : Addr} {o : HO} (h : H I = none) : dropA (upd H I o) I = H := by
  funext b
  unfold dropA
  by_cases e : b = I
  · subst e; rw [if_pos rfl, h]
  · rw [if_neg e, upd_ne e]
theorem dropA_ne {H : Hp} {I b : Addr} (h : b ≠ I) : dropA H I b = H b := by unfold dropA; rw [if_neg h]
theorem dropA_same {H : Hp} {I : Addr} : dropA H I I = none := by unfold dropA; rw [if_pos rfl]
section
variable {X : Cx} {pins : List (Addr × Obj)} {σ : St} {H : Hp} {s : Shared}
/-- an object of this body is tracked from now on -/
theorem Inv.track {p : Addr} {o : HO} (J : Inv X pins σ H s) (hp : H p = none) (new : ObjOk X.prog X.w (upd H p o) s.heap p o) (hs : X.s₀.heap.objs.size ≤ p) (hL : p ≠ X.env.locals) (hC : ∀ x c, X.env.cells.lookup x = some c → c ≠ p) (hpn : ∀ q ∈ X.pn ++ pins, q.1 ≠ p) : Inv X pins σ (upd H p o) s := by
  have ne : ∀ b z, H b = some z → b ≠ p := fun b z e => ne_of_none e hp
  refine ⟨J.ok, J.os, J.bare, ⟨J.base.keep, J.base.slot, fun b ob e n hx => by rw [upd_ne (Nat.ne_of_lt (Nat.lt_of_lt_of_le (Heap.lt_size e) hs))]; exact J.base.free b ob e n hx, J.base.there, fun b xs e => ?_, fun b ob u e => ?_, fun b ps e => ?_⟩, J.loc, J.cell, by rw [upd_ne hL.symm]; exact J.free, fun x c e => by rw [upd_ne (hC x c e)]; exact J.freeC x c e, fun q hq => let ⟨a, b, c⟩ := J.pin q hq; ⟨a, by rw [upd_ne (hpn q hq)]; exact b, c⟩, fun a z e => ?_, J.len⟩
  · have q := J.base.tups b xs e; rw [upd_ne (ne b _ q)]; exact q
  · have q := J.base.frzs b ob u e; rw [upd_ne (ne b _ q)]; exact q
  · obtain ⟨m, q⟩ := J.base.tbls b ps e
    exact ⟨m, by rw [upd_ne (ne b _ q)]; exact q⟩
  · by_cases h : a = p
    · subst h; rw [upd_same] at e; cases e; exact new
    · rw [upd_ne h] at e
      exact (J.hok a z e).stay (fun _ _ _ q => q) (fun c q => by rw [upd_ne (ne c _ q)]; exact q) fun c xs q => by rw [upd_ne (ne c _ q)]; exact q
/-- an object is tracked no more -/
theorem Inv.untrack {I : Addr} {φ : Heap → Prop} (J : Inv X pins σ H s) (hI : H I = some (.ext φ)) : Inv X pins σ (dropA H I) s := by
  have ne : ∀ b o, H b = some o → (∀ ψ, o ≠ .ext ψ) → b ≠ I := fun b o e n z => by rw [z, hI] at e; exact n φ (Option.some.inj e).symm
  have non : ∀ b, H b = none → dropA H I b = none := fun b e => by unfold dropA; split; rfl; exact e
  refine ⟨J.ok, J.os, J.bare, ⟨J.base.keep, J.base.slot, fun b o e n hx => non b (J.base.free b o e n hx), J.base.there, fun b xs e => ?_, fun b o u e => ?_, fun b ps e => ?_⟩, J.loc, J.cell, non _ J.free, fun x c e => non c (J.freeC x c e), fun p hp => let ⟨a, b, c⟩ := J.pin p hp; ⟨a, non _ b, c⟩, fun a o e => ?_, J.len⟩
  · have q := J.base.tups b xs e; rw [dropA_ne (ne b _ q (fun _ z => by cases z))]; exact q
  · have q := J.base.frzs b o u e; rw [dropA_ne (ne b _ q (fun _ z => by cases z))]; exact q
  · obtain ⟨m, q⟩ := J.base.tbls b ps e
    exact ⟨m, by rw [dropA_ne (ne b _ q (fun _ z => by cases z))]; exact q⟩
  · by_cases h : a = I
    · subst h; rw [dropA_same] at e; cases e
    · rw [dropA_ne h] at e
      exact (J.hok a o e).stay (fun _ _ _ q => q) (fun c q => by rw [dropA_ne (ne c _ q (fun _ z => by cases z))]; exact q) fun c xs q => by rw [dropA_ne (ne c _ q (fun _ z => by cases z))]; exact q
theorem call_reversed : CallR X (.type "reversed") (fun xs H Q => ∃ a ys, xs = [.ref a] ∧ SqL X.K H a ys ∧ ∀ I, H I = none → Q (.ref I) (upd H I (RevH X I a ys.length))) := by
  intro pins s σ H xs us Q J r h
  obtain ⟨a, ys, rfl, hS, q⟩ := h
  obtain ⟨u, rfl, ru⟩ := vals1 r
  cases (show u = Value.ref a from ru)
  obtain ⟨its, v, ⟨o, n, e, ec, _, ed⟩, _⟩ := J.list hS
  have hlen : (its.toArray.size : Int) = (ys.length : Int) := by rw [List.size_toArray, v.length]
  refine call_reversed_list (items := its.toArray) ⟨o, e, ec, n, ed⟩ ⟨.ref _, _, J.laid (o := RevH X s.heap.objs.size a ys.length) (t' := s.toks) (fun b u q => Heap.get?_push_of_some _ q) (Nat.le_refl _) ⟨⟨⟨_, Heap.get?_push_size _ rfl, rfl, by rw [hlen]; rfl⟩, J.sz⟩, ⟨_, Heap.get?_push_size _ rfl⟩, fun h1 h2 y k => ⟨y.1.at k, y.2⟩⟩, rfl, q _ J.fresh⟩
theorem call_listRev (hc : X.calm = true) : CallR X (.type "list") (fun xs H Q => ∃ I a ys, xs = [.ref I] ∧ H I = some (RevH X I a ys.length) ∧ SqL X.K H a ys ∧ ∀ p, dropA H I p = none → Q (.ref p) (upd (dropA H I) p (.lst ys.reverse))) := by
  intro pins s σ H xs us Q J r h
  obtain ⟨I, a, ys, rfl, hI, hS, q⟩ := h
  obtain ⟨u, rfl, ru⟩ := vals1 r
  cases (show u = Value.ref I from ru)
  obtain ⟨⟨hit, hs0⟩, _, _⟩ := J.hok I _ hI
  obtain ⟨its, v, ⟨o, n, e, ec, _, ed⟩, hz⟩ := J.list hS
  have hlen : (its.toArray.size : Int) = (ys.length : Int) := by rw [List.size_toArray, v.length]
  rw [← hlen] at hit
  have hne : a ≠ I := fun z => by
    subst z
    obtain ⟨o', e', ec', _⟩ := hit
    rw [e] at e'; cases e'; rw [ec] at ec'
    injection ec' with z
    exact absurd z (by decide)
  have J1 := J.untrack hI
  refine RevL.call_rev (J.ok.hd hc) hit ⟨o, e, ec, n, ed⟩ hne (by rw [List.size_toArray, ← v.length]; exact hz) fun h' tk acc c hk hS' hacc => ?_
  have hrev : acc.toList = its.reverse := by
    refine List.ext_getElem? fun j => ?_
    rcases Nat.lt_or_ge j its.length with hj | hj
    · have h1 : j < acc.size := by rw [hacc.1, List.size_toArray]; exact hj
      have h2 := hacc.2 j acc[j] (by rw [Array.getElem?_eq_getElem h1])
      rw [Array.getElem?_toList, Array.getElem?_eq_getElem h1, ← h2, List.getElem?_reverse hj]
      simp
    · rw [List.getElem?_eq_none (by rw [Array.length_toList, hacc.1, List.size_toArray]; exact hj), List.getElem?_eq_none (by rw [List.length_reverse]; exact hj)]
  have hp : s.heap.get? s.heap.objs.size = none := Heap.get?_none_of_le (Nat.le_refl _)
  -- the iterator has turned, then the new list is laid
  have hIp : I ≠ s.heap.objs.size := let ⟨o', e', _⟩ := hit; Nat.ne_of_lt (Heap.lt_size e')
  have J2 : Inv X pins σ (dropA H I) { s with heap := h', toks := tk } := J1.turned hk dropA_same (fun z => by rw [z] at hI; rw [J.free] at hI; cases hI) (.inr hs0) (fun x c ex z => by rw [← z, J.freeC x c ex] at hI; cases hI) (fun p hp z => by rw [← z, (J.pin p hp).2.1] at hI; cases hI)
  have hnp : dropA H I s.heap.objs.size = none := by rw [dropA_ne hIp.symm]; exact J.fresh
  refine ⟨.ref _, _, ?_, rfl, q _ hnp⟩
  refine J2.track hnp ⟨by rw [List.length_reverse]; exact hz, acc.toList, c, by rw [hrev]; exact v.reverse, by simpa using hS'⟩ J.sz (Nat.ne_of_gt J.lt) (fun x c e z => ?_) (fun q hq z => ?_)
  · obtain ⟨_, zc⟩ := J.cell x c e
    exact absurd zc.lt (by rw [z]; exact Nat.lt_irrefl _)
  · exact absurd (Heap.lt_size (J.pin q hq).1) (by rw [z]; exact Nat.lt_irrefl _)
end
end L2

set_option linter.all false
set_option maxRecDepth 100000
namespace L2
open PySem PySem.Spec PyProof.Rows
/-! ### list == [], a tuple compared with itself, list(range(n)) -/
section
variable {X : Cx}
theorem op_eqNil (hu : X.A.units < cLine) : OpR X (compareOp .Eq) (fun x y H Q => ∃ a b xs, x = .ref a ∧ y = .ref b ∧ SqL X.K H a xs ∧ SqL X.K H b [] ∧ Q (.bl (decide (xs = []))) H) := by
  intro pins s σ H x y v u Q I rx ry h
  obtain ⟨a, b, xs, rfl, rfl, ha, hb, q⟩ := h
  cases rx
  cases ry
  obtain ⟨its, r1, p1, _⟩ := I.list ha
  obtain ⟨its2, r2, p2, _⟩ := I.list hb
  cases r2
  by_cases e : xs = []
  · subst e
    cases r1
    exact SeqAt.eq_listAt (e := fun _ => true) p1.isList p2.isList rfl hu (fun j h1 _ => absurd h1 (Nat.not_lt_zero _)) ⟨.bl true, H, I, rfl, q⟩
  · have hne : its ≠ [] := fun z => by subst z; cases r1; exact e rfl
    rw [decide_eq_false e] at q
    refine SeqAt.eq_list_lengthsAt p1.isList p2.isList ?_ hu ⟨.bl false, H, I, rfl, q⟩
    cases its with
    | nil => exact absurd rfl hne
    | cons _ _ => rfl
theorem op_neSelf (hu : X.A.units < cLine) : OpR X (compareOp .NotEq) (fun x y H Q => ∃ a xs, x = .ref a ∧ y = .ref a ∧ SqT X.K H a xs ∧ Q (.bl false) H) := by
  intro pins s σ H x y v u Q I rx ry h
  obtain ⟨a, xs, rfl, rfl, ha, q⟩ := h
  cases rx
  cases ry
  obtain ⟨its, r1, p1, _⟩ := I.tuple ha
  refine SeqAt.RcNeAt.tuples (e := fun _ => true) p1 p1 hu (fun j _ _ => SeqAt.EqAt.same _) _ _ _ _ ?_
  refine ⟨.bl false, H, I, ?_, q⟩
  show Value.bool _ = Value.bool false
  simp
def RngH (r : Addr) (n : Int) : HO := .ext fun h => ∃ t u v, IsRange h r 0 n 1 t u v
theorem call_range1 : CallR X (.type "range") (fun xs H Q => ∃ n : Int, xs = [.int n] ∧ ∀ r, H r = none → Q (.ref r) (upd H r (RngH r n))) := by
  intro pins s σ H xs us Q J r h
  obtain ⟨n, rfl, q⟩ := h
  obtain ⟨u, rfl, ru⟩ := vals1 r
  obtain ⟨t, rfl⟩ := ru
  refine call_range_1 ⟨.ref _, _, J.laid (o := RngH s.heap.objs.size n) (t' := _) (fun b u q => Heap.get?_push_of_some _ q) (Nat.le_refl _) ⟨⟨_, _, _, IsRange.new ..⟩, ⟨_, Heap.get?_push_size _ rfl⟩, fun h1 h2 ⟨t, u, v, y⟩ k => ⟨t, u, v, ?_⟩⟩, rfl, q _ J.fresh⟩
  exact k _ y
theorem call_listRng (hc : X.calm = true) : CallR X (.type "list") (fun xs H Q => ∃ (r : Addr) (n : Nat), xs = [.ref r] ∧ H r = some (RngH r (n : Int)) ∧ n ≤ 2 ^ 24 ∧ ∀ p, H p = none → Q (.ref p) (upd H p (.lst ((PySem.W.rangeKs 0 n).map V.int)))) := by
  intro pins s σ H xs us Q J r h
  obtain ⟨r', n, rfl, hr, hn, q⟩ := h
  obtain ⟨u, rfl, ru⟩ := vals1 r
  cases (show u = Value.ref r' from ru)
  obtain ⟨⟨t, u, v, hit⟩, _, _⟩ := J.hok r' _ hr
  have hrs : Builtin.Range.rangeSize 0 (n : Int) 1 = (n : Int) := by rw [rangeSize_one]; split <;> omega
  refine call_list_range (J.ok.hd hc) hit (small_one (by omega) (by omega) (by omega) (by omega)) hrs hn fun h' tk acc c hk hD hI => ?_
  have hints := PySem.W.kll_ints acc.toList 0 n (by rw [Array.length_toList]; exact hI.1) fun j v hj => hI.2 j v (by rw [← hj, Array.getElem?_toList])
  refine ⟨.ref _, _, J.laid (o := .lst ((PySem.W.rangeKs 0 n).map V.int)) (t' := _) hk (Nat.le_refl _) ⟨?_, acc.toList, c, vals_ints hints, ?_⟩, rfl, q _ J.fresh⟩
  · rw [List.length_map, PySem.W.rangeKs_length]; exact hn
  · simpa using hD
end
end L2

namespace CmpC
open PySem
def clOf (env : Env) : List (Str × NameKind) → List (Str × Addr) → List (Str × Addr)
  | [], acc => acc
  | (n, k) :: r, acc => clOf env r (if k == .free then (n, (env.cells.lookup n).getD 0) :: acc else acc)
/-- each free name of the block has its cell around -/
def Has (env : Env) (l : List (Str × NameKind)) : Prop := ∀ n, (n, NameKind.free) ∈ l → ∃ c, env.cells.lookup n = some c
theorem Has.tail {env : Env} {p : Str × NameKind} {l : List (Str × NameKind)} (h : Has env (p :: l)) : Has env l := fun n m => h n (.tail _ m)
theorem for_ok {env : Env} : ∀ (l : List (Str × NameKind)) (acc : List (Str × Addr)), Has env l →
    (forIn l acc (fun x r => (match x with | (name, kind) => if (kind == NameKind.free) = true then do let c ← cellOf env name; pure (ForInStep.yield ((name, c) :: r)) else pure (ForInStep.yield r) : Sem (ForInStep (List (Str × Addr)))) ) : Sem (List (Str × Addr))) = pure (clOf env l acc)
  | [], acc, _ => rfl
  | (n, k) :: r, acc, h => by
    rw [List.forIn_cons]
    unfold clOf
    by_cases hk : (k == NameKind.free) = true
    · have hk' : k = .free := by simpa using hk
      subst hk'
      obtain ⟨c, hc⟩ := h n (.head _)
      have e : cellOf env n = pure c := by unfold cellOf; rw [hc]
      simp only [hk, if_true, e, hc]
      exact for_ok r _ h.tail
    · have hk' : (k == NameKind.free) = false := by simpa using hk
      simp only [hk', Bool.false_eq_true, if_false]
      exact for_ok r _ h.tail
theorem closure_ok {scope : Scope} {env : Env} (h : Has env scope.names) : closureFor scope env = pure (clOf env scope.names []) := by
  simp only [closureFor]
  have := for_ok scope.names [] h
  simp only [bind_pure]
  exact this
theorem look_cons {x n : Str} {c : Addr} {r : List (Str × Addr)} : List.lookup x ((n, c) :: r) = if x = n then some c else r.lookup x := by
  by_cases e : x = n
  · subst e; simp [List.lookup_cons]
  · have hb : (x == n) = false := beq_eq_false_iff_ne.mpr e
    simp [List.lookup_cons, hb, e]
theorem cl_sub {env : Env} : ∀ (l : List (Str × NameKind)) (acc : List (Str × Addr)) (x : Str) (c : Addr), Has env l → (∀ c, acc.lookup x = some c → env.cells.lookup x = some c) → (clOf env l acc).lookup x = some c → env.cells.lookup x = some c
  | [], acc, x, c, _, ha, h => ha c h
  | (n, k) :: r, acc, x, c, hh, ha, h => by
    unfold clOf at h
    refine cl_sub r _ x c hh.tail (fun c' e => ?_) h
    by_cases hk : (k == NameKind.free) = true
    · have hk' : k = .free := by simpa using hk
      subst hk'
      rw [if_pos hk, look_cons] at e
      by_cases ex : x = n
      · subst ex
        obtain ⟨c2, hc⟩ := hh x (.head _)
        rw [if_pos rfl, hc] at e
        rw [hc]; exact e
      · rw [if_neg ex] at e; exact ha c' e
    · rw [if_neg hk] at e; exact ha c' e
theorem cl_keep {env : Env} : ∀ (l : List (Str × NameKind)) (acc : List (Str × Addr)) (x : Str), (∃ c, acc.lookup x = some c) → ∃ c, (clOf env l acc).lookup x = some c
  | [], _, _, h => h
  | (n, k) :: r, acc, x, h => by
    unfold clOf
    refine cl_keep r _ x ?_
    by_cases hk : (k == NameKind.free) = true
    · rw [if_pos hk, look_cons]
      by_cases ex : x = n
      · rw [if_pos ex]; exact ⟨_, rfl⟩
      · rw [if_neg ex]; exact h
    · rw [if_neg hk]; exact h
theorem cl_has {env : Env} : ∀ (l : List (Str × NameKind)) (acc : List (Str × Addr)) (x : Str), (x, NameKind.free) ∈ l → ∃ c, (clOf env l acc).lookup x = some c
  | (n, k) :: r, acc, x, h => by
    unfold clOf
    rcases List.mem_cons.mp h with e | h
    · have e1 : x = n := congrArg Prod.fst e
      have e2 : NameKind.free = k := congrArg Prod.snd e
      subst e2
      refine cl_keep r _ x ?_
      rw [if_pos (by rfl), look_cons, if_pos e1]; exact ⟨_, rfl⟩
    · exact cl_has r _ x h
theorem cl_mem {env : Env} : ∀ (l : List (Str × NameKind)) (acc : List (Str × Addr)) (x : Str) (c : Addr), (clOf env l acc).lookup x = some c → (x, NameKind.free) ∈ l ∨ acc.lookup x = some c
  | [], _, _, _, h => .inr h
  | (n, k) :: r, acc, x, c, h => by
    unfold clOf at h
    rcases cl_mem r _ x c h with m | e
    · exact .inl (.tail _ m)
    · by_cases hk : (k == NameKind.free) = true
      · have hk' : k = .free := by simpa using hk
        subst hk'
        rw [if_pos hk, look_cons] at e
        by_cases ex : x = n
        · subst ex; exact .inl (.head _)
        · rw [if_neg ex] at e; exact .inr e
      · rw [if_neg hk] at e; exact .inr e
/-- a name that is a cell or free in the block is free in its scope -/
theorem free_of {env : Env} {x : Str} : ∀ (l : List (Str × NameKind)), (∀ y ∈ l, y.2 ≠ .cell) →
    ((l.map fun (n, k) => if (k == NameKind.free && env.scope.kind == .function && env.kindOf n == some .cell) then (n, NameKind.cell) else (n, k)).lookup x = some .cell ∨ (l.map fun (n, k) => if (k == NameKind.free && env.scope.kind == .function && env.kindOf n == some .cell) then (n, NameKind.cell) else (n, k)).lookup x = some .free) → (x, NameKind.free) ∈ l
  | [], _, h => by rcases h with h | h <;> simp at h
  | (n, k) :: r, hc, h => by
    have ih := free_of (env := env) (x := x) r (fun y hy => hc y (.tail _ hy))
    have hk := hc (n, k) (.head _)
    simp only [List.map_cons] at h
    by_cases cnd : (k == NameKind.free && env.scope.kind == .function && env.kindOf n == some .cell) = true
    · simp only [cnd, if_true] at h
      have hk' : k = .free := by simp at cnd; exact cnd.1.1
      subst hk'
      by_cases ex : x = n
      · subst ex; exact .head _
      · have hb : (x == n) = false := beq_eq_false_iff_ne.mpr ex
        simp only [List.lookup_cons, hb] at h
        exact .tail _ (ih h)
    · have cnd' : (k == NameKind.free && env.scope.kind == .function && env.kindOf n == some .cell) = false := by simpa using cnd
      simp only [cnd', Bool.false_eq_true, if_false] at h
      by_cases ex : x = n
      · subst ex
        simp only [List.lookup_cons, beq_self_eq_true] at h
        rcases h with h | h
        · exact absurd (Option.some.inj h) hk
        · have : k = .free := Option.some.inj h
          subst this; exact .head _
      · have hb : (x == n) = false := beq_eq_false_iff_ne.mpr ex
        simp only [List.lookup_cons, hb] at h
        exact .tail _ (ih h)
theorem relab_free {env : Env} : ∀ {l : List (Str × NameKind)} {x : Str}, l.lookup x = some .free →
    (l.map fun (n, k) => if (k == NameKind.free && env.scope.kind == .function && env.kindOf n == some .cell) then (n, NameKind.cell) else (n, k)).lookup x = some .cell ∨ (l.map fun (n, k) => if (k == NameKind.free && env.scope.kind == .function && env.kindOf n == some .cell) then (n, NameKind.cell) else (n, k)).lookup x = some .free
  | [], _, h => by simp at h
  | (n, k) :: r, x, h => by
    have ih := @relab_free env r x
    simp only [List.map_cons]
    by_cases ex : x = n
    · subst ex
      have hk : k = .free := by simpa [List.lookup_cons] using h
      subst hk
      by_cases cnd : (NameKind.free == NameKind.free && env.scope.kind == .function && env.kindOf x == some .cell) = true
      · rw [if_pos cnd]; exact .inl (by simp [List.lookup_cons])
      · rw [if_neg cnd]; exact .inr (by simp [List.lookup_cons])
    · have hb : (x == n) = false := beq_eq_false_iff_ne.mpr ex
      simp only [List.lookup_cons, hb] at h
      by_cases cnd : (k == NameKind.free && env.scope.kind == .function && env.kindOf n == some .cell) = true
      · simp only [cnd, if_true, List.lookup_cons, hb]; exact ih h
      · have cnd' : (k == NameKind.free && env.scope.kind == .function && env.kindOf n == some .cell) = false := by simpa using cnd
        simp only [cnd', Bool.false_eq_true, if_false, List.lookup_cons, hb]; exact ih h
end CmpC

namespace L2
open PySem PySem.Spec PyProof.Rows

/-- a comprehension's block over X -/
abbrev Cx.comp (X : Cx) (N' : List Str) (scope : Scope) (C : Addr) (s₀ : Shared) (H₀ : Hp) (fp : List Addr) : Cx :=
  { X with env := compEnvC scope (CmpC.clOf X.env scope.names []) C X.env, N := N', s₀ := s₀, H₀ := H₀, outer := X.stack, ex := fp, fn := fun _ => false, pn := [], xe := fun _ _ => False }
/-- its scope: the variable x, the names ys that it takes from around, by their slots ix there -/
structure CScope (X : Cx) (scope : Scope) (x : Str) (ys : List Str) (ix : List Nat) : Prop where
  kind : scope.kind = .function
  cell : ∀ y ∈ scope.names, y.2 ≠ .cell
  names : ∀ y ∈ scope.names, y.2 = .local → scope.names.lookup y.1 = some .local
  var : scope.names.lookup x = some .local
  free : ∀ y ∈ scope.names, y.2 = .free → X.env.kindOf y.1 = some .cell ∨ X.env.kindOf y.1 = some .free
  frs : ∀ y ∈ scope.names, y.2 = .free → scope.names.lookup y.1 = some .free
  nd : (x :: ys).Nodup
  at' : ix.map (fun i => X.N[i]?) = ys.map some
  fr : ∀ y ∈ ys, (y, NameKind.free) ∈ scope.names
/-- the block's slots -/
def inner (σ : St) (ix : List Nat) : St := none :: ix.map fun j => (σ[j]?).join

section
variable {prog : Program} {w : World} {A : Around} {R : Result → Shared → Prop} {s : Shared}
theorem comp_loop {elt target iter : Expr} {scope : Scope} {pos : Pos} {it acc : Value} {env : Env} (I : Nat → Shared → Prop)
    (turn : ∀ n s, I n s → wpAny (model prog w) A (pyNext it) (fun r s₁ => match r with
      | none => R (.ok .next) s₁
      | some v => wpAny (model prog w) A (letOwnedTupleGo target it v) (fun _ s₂ => wpAny (model prog w) A (assign target env v) (fun _ s₃ => wpAny (model prog w) A (eval elt env) (fun x s₄ =>
          wpAny (model prog w) A (call (.builtin "list.append") [acc, x]) (fun _ s₅ => ∃ m, m < n ∧ I m s₅) (fun _ _ => False) s₄) (fun _ _ => False) s₃) (fun _ _ => False) s₂) (fun _ _ => False) s₁) (fun _ _ => False) s)
    (n : Nat) (h : I n s) : codeAny (model prog w) A (.compLoop (.ListComp elt [⟨target, iter, [], 0⟩] scope pos) 0 it acc env) R s := by
  refine codeAny_loop rfl I (fun n s hI => ?_) n h
  show wpAny _ _ ((compTurn (.ListComp elt [⟨target, iter, [], 0⟩] scope pos) 0 it acc env).onRaise (fun x => do noteFrame x env; theTreesLotGoes x)) _ _ s
  refine wpAny_noted ?_
  rw [compTurn_list1]
  refine wpAny_bind (wpAny_standAt (wpAny_bind (wpAny_mono (turn n s hI) (fun r s₁ h₁ => ?_) fun _ _ h' => h'.elim)))
  cases r with
  | none => exact wpAny_pure h₁
  | some v =>
    refine wpAny_bind (wpAny_mono h₁ (fun _ s₂ h₂ => ?_) fun _ _ h' => h'.elim)
    refine wpAny_bind (wpAny_mono h₂ (fun _ s₃ h₃ => ?_) fun _ _ h' => h'.elim)
    refine wpAny_bind (wpAny_bind (wpAny_mono h₃ (fun x s₄ h₄ => ?_) fun _ _ h' => h'.elim))
    exact wpAny_bind (wpAny_mono h₄ (fun _ s₅ h₅ => wpAny_pure (wpAny_pure ⟨rfl, h₅⟩)) fun _ _ h' => h'.elim)
end

section
variable {X : Cx} {pins : List (Addr × Obj)} {σ : St} {scope : Scope} {x : Str} {ys : List Str} {ix : List Nat}
theorem CScope.has (S : CScope X scope x ys ix) (ok : X.Ok) : CmpC.Has X.env scope.names := fun n m => ok.has n (S.free (n, .free) m rfl)
theorem CScope.sub (S : CScope X scope x ys ix) (ok : X.Ok) {y : Str} {c : Addr} (h : (CmpC.clOf X.env scope.names []).lookup y = some c) : X.env.cells.lookup y = some c :=
  CmpC.cl_sub _ _ y c (S.has ok) (fun _ e => by simp at e) h
theorem inner_at {j : Nat} {v : V} (h : (inner σ ix)[j]? = some (some v)) : ∃ k i, j = k + 1 ∧ ix[k]? = some i ∧ σ[i]? = some (some v) := by
  cases j with
  | zero => simp [inner] at h
  | succ k =>
    unfold inner at h
    rw [List.getElem?_cons_succ, List.getElem?_map] at h
    cases e : ix[k]? with
    | none => rw [e] at h; cases h
    | some i =>
      rw [e] at h
      have h' : (σ[i]?).join = some v := Option.some.inj h
      refine ⟨k, i, rfl, e, ?_⟩
      cases q : σ[i]? with
      | none => rw [q] at h'; cases h'
      | some o => rw [q] at h'; rw [show o = some v from h']
theorem CScope.name (S : CScope X scope x ys ix) {k i : Nat} {y : Str} (h1 : ix[k]? = some i) (h2 : ys[k]? = some y) : X.N[i]? = some y := by
  have e := congrArg (fun l : List (Option Str) => l[k]?) S.at'
  simp only [List.getElem?_map, h1, h2, Option.map_some] at e
  exact Option.some.inj e

/-- the block's context holds at its entry -/
theorem comp_entry (S : CScope X scope x ys ix) {s₃ : Shared} {H3 : Hp} {h₁ : Heap} {fp : List Addr} {tk : Nat} (I : Inv X pins σ H3 s₃) (f : ∀ b ∈ fp, FpOk X pins H3 b) (lt : ∀ b ∈ fp, b < s₃.heap.objs.size)
    (hn : h₁.Ns s₃.heap.objs.size (fun _ => none)) (k : ∀ b o, s₃.heap.get? b = some o → h₁.get? b = some o) :
    Inv (X.comp (x :: ys) scope s₃.heap.objs.size s₃ H3 fp) [] (inner σ ix) H3 { s₃ with heap := h₁, toks := tk } := by
  have sub : ∀ {y : Str} {c : Addr}, (CmpC.clOf X.env scope.names []).lookup y = some c → X.env.cells.lookup y = some c := fun h => S.sub I.ok h
  have ok : (X.comp (x :: ys) scope s₃.heap.objs.size s₃ H3 fp).Ok := by
    refine ⟨I.ok.mod, S.kind, I.ok.glob, I.ok.blt, Nat.le_refl _, fun a b c e1 e2 => I.ok.inj a b c (sub e1) (sub e2), fun y hy => ?_, fun _ _ h => (nomatch h), I.ok.hd, I.ok.frames, .inl rfl, fun b hb => ⟨Nat.ne_of_lt (lt b hb), fun y c e => (f b hb).2.2.2.2.1 y c (sub e)⟩, fun b o e => I.bs b o e, ?_, fun b o e hb => ?_, fun b hb hs => ?_, I.stack, I.stkFree⟩
    · exact CmpC.cl_has _ _ y (CmpC.free_of (env := X.env) _ S.cell hy)
    · exact Nat.le_trans I.ok.bsz I.sz
    · rcases (f b hb).2.2.2.1 with z | z
      · exact I.ok.noex b o e z
      · exact absurd (Nat.lt_of_lt_of_le (Nat.lt_of_lt_of_le (Heap.lt_size e) I.ok.bsz) z) (Nat.lt_irrefl _)
    · rcases List.mem_cons.mp (I.stkSub b hs) with z | z
      · exact (f b hb).2.1 z
      · exact (f b hb).2.2.1 z
  have celk : ∀ {c : Addr} {v : Option Value}, s₃.heap.IsCell c v → h₁.IsCell c v := fun ⟨o, ho, hd⟩ => ⟨o, k _ o ho, hd⟩
  refine ⟨ok, rfl, I.bare, Un.kept k, ⟨_, hn, fun j y v e1 e2 e3 => ?_⟩, fun y c e => ?_, I.hok.fresh (Nat.le_refl _), fun y c e => I.freeC y c (sub e), fun p hp => by simp at hp, I.hok.kept k, ?_⟩
  · obtain ⟨q, i, rfl, hi, hv⟩ := inner_at e2
    have e1' : ys[q]? = some y := by simpa using e1
    have hN := S.name hi e1'
    have hfr := S.fr y (List.mem_of_getElem? e1')
    have hk := S.free (y, .free) hfr rfl
    obtain ⟨m, hm, hl⟩ := I.loc
    obtain ⟨u, r, l⟩ := hl i y v hN hv (hk.elim (fun z => .inr (.inl z)) fun z => .inr (.inr z))
    refine ⟨u, r, .inr ?_⟩
    rcases l with ⟨z, _⟩ | ⟨_, c, e, z⟩
    · rcases hk with q | q <;> (rw [q] at z; cases z)
    · obtain ⟨c', e'⟩ := CmpC.cl_has (env := X.env) scope.names [] y hfr
      have := sub e'
      rw [e] at this; cases this
      exact ⟨CmpC.relab_free (S.frs (y, .free) hfr rfl), c, e', celk z⟩
  · obtain ⟨v, z⟩ := I.cell y c (sub e)
    exact ⟨v, celk z⟩
  · simp [inner]
    have := congrArg List.length S.at'
    simpa using this

theorem same_back {C : Addr} {h h' : Heap} (hs : Heap.SameBut C h h') : ∀ b o, b ≠ C → h.get? b = some o → h'.get? b = some o := fun b o hb e => (hs.2 b hb).trans e

/-- the block runs -/
theorem comp_core {s₂ : Shared} {H2 : Hp} {elt iter : Expr} {px : Pos} {pos : Pos} {te : TE} {it : Addr} {fp : List Addr} {tn : Nat → Heap → Prop} {J : It} (hc : X.calm = true) (S : CScope X scope x ys ix)
    (he : ∀ (C : Addr) (s₀ : Shared) (H₀ : Hp) (fp : List Addr), PE (X.comp (x :: ys) scope C s₀ H₀ fp) elt te)
    (I2 : Inv X pins σ H2 s₂) (T : Turn X.prog X.w X.K (.Name x px) J fp it tn) (st : tn 0 s₂.heap) (f2 : ∀ b ∈ fp, FpOk X pins H2 b) {Qe : Addr → Hp → Prop}
    (hW : ∀ p, H2 p = none → ∃ W : Nat → Nat → List V → Hp → Prop, (∃ m, W 0 m [] (upd H2 p (.lst []))) ∧ ∀ i m zs H, W i m zs H →
      (J.stop i H ∧ Qe p H) ∨ (J.go i H ∧ ∃ N : V → Hp → Prop, (∀ y H'', N y H'' → H'' p = some (.lst zs) ∧ zs.length < sizeLine ∧ ∃ m', m' < m ∧ W (i + 1) m' (zs ++ [y]) (upd H'' p (.lst (zs ++ [y])))) ∧ ∀ v H', J.yld i H v H' → te (some v :: ix.map fun j => (σ[j]?).join) H' N))
    {E : Value → Shared → Prop} {RR : Value → Addr → Result → Shared → Prop}
    (hRR : ∀ (p C : Addr) (s' : Shared) (H' : Hp), Inv X pins σ H' s' → FpOk X pins H' C → (∃ m, s'.heap.Ns C m) → Qe p H' → RR (.ref p) C (.ok .next) s') :
    wpAny (model X.prog X.w) X.A (newList []) (fun acc s₃ => wpAny (model X.prog X.w) X.A (newFunctionEnv scope X.env.globals (CmpC.clOf X.env scope.names []) [] X.env.qual none .none (some X.env)) (fun cenv s₄ =>
      codeAny (model X.prog X.w) X.A (.compStart (.ListComp elt [⟨.Name x px, iter, [], 0⟩] scope pos) 0 (.ref it) acc { cenv with scope := relabel scope X.env }) (RR acc cenv.locals) s₄) E s₃) E s₂ := by
  obtain ⟨W, ⟨m0, w0⟩, turn⟩ := hW s₂.heap.objs.size I2.fresh
  have I3 : Inv X pins σ (upd H2 s₂.heap.objs.size (.lst [])) { s₂ with heap := s₂.heap.push { cls := .type "list", data := .seq ([] : List Value).toArray } } := I2.lnew (t' := s₂.toks) .nil (Nat.zero_le _)
  refine wpAny_newObj_type (wpAny_newFunctionEnv S.cell (by intro y hy; simp at hy) (fun h₁ hns hsb => ?_) S.kind)
  have hDlt : s₂.heap.objs.size < (s₂.heap.push { cls := .type "list", data := .seq ([] : List Value).toArray }).objs.size := by rw [Heap.size_push]; exact Nat.lt_succ_self _
  have old23 : ∀ b o, s₂.heap.get? b = some o → (s₂.heap.push { cls := .type "list", data := .seq ([] : List Value).toArray }).get? b = some o := fun b o e => Heap.get?_push_of_some _ e
  generalize hp : s₂.heap.objs.size = p at *
  generalize hh3 : s₂.heap.push { cls := .type "list", data := .seq ([] : List Value).toArray } = h3 at *
  have k : ∀ b o, h3.get? b = some o → h₁.get? b = some o := fun b o e => by
    have hb : b ≠ h3.objs.size := Nat.ne_of_lt (Heap.lt_size e)
    exact (hsb.2 b hb).trans (Heap.get?_push_of_some _ e)
  have f3 : ∀ b ∈ fp, FpOk X pins (upd H2 p (.lst [])) b := fun b hb => by
    obtain ⟨o, ho, _⟩ := T.obj _ _ st b hb
    have hbp : b ≠ p := by rw [← hp]; exact Nat.ne_of_lt (Heap.lt_size ho)
    exact ⟨by rw [upd_ne hbp]; exact (f2 b hb).1, (f2 b hb).2⟩
  have lt3 : ∀ b ∈ fp, b < h3.objs.size := fun b hb => by
    obtain ⟨o, ho, _⟩ := T.obj _ _ st b hb
    exact Heap.lt_size (old23 b o ho)
  have I4 := comp_entry S (h₁ := h₁) (tk := s₂.toks + ([] : List (Str × Value)).length) I3 f3 lt3 (by simpa using hns) k
  have st4 : tn 0 h₁ := T.keep _ _ _ st fun b hb o e => k b o (old23 b o e)
  -- what stays of the iterator
  have stat : ∀ {H' : Hp}, (∀ b ∈ fp, H' b = none) → ∀ b ∈ fp, FpOk (X.comp (x :: ys) scope h3.objs.size { s₂ with heap := h3 } (upd H2 p (.lst [])) fp) [] H' b := fun {H'} hn b hb => by
    refine ⟨hn b hb, Nat.ne_of_lt (lt3 b hb), fun hs => ?_, .inl hb, fun y c e => (f3 b hb).2.2.2.2.1 y c (S.sub I2.ok e), fun q hq => by simp at hq⟩
    rcases List.mem_cons.mp (I2.stkSub b hs) with z | z
    · exact (f2 b hb).2.1 z
    · exact (f2 b hb).2.2.1 z
  have hCl : (relabel scope X.env).names.lookup x = some .local := lookup_relabel_local S.var
  have pg : PG (X.comp (x :: ys) scope h3.objs.size { s₂ with heap := h3 } (upd H2 p (.lst [])) fp) (.Name x px) (gName 0) := pg_name S.nd rfl (.inl hCl) (.inr hCl)
  have loop : ∀ s₅ : Shared, s₅ = { s₂ with heap := h₁, toks := s₂.toks + ([] : List (Str × Value)).length } →
      codeAny (model X.prog X.w) X.A (.compLoop (.ListComp elt [⟨.Name x px, iter, [], 0⟩] scope pos) 0 (.ref it) (.ref p) (compEnvC scope (CmpC.clOf X.env scope.names []) h3.objs.size X.env)) (RR (.ref p) h3.objs.size) s₅ := by
    rintro s₅ rfl
    refine comp_loop (fun n s' => ∃ i zs H', Inv (X.comp (x :: ys) scope h3.objs.size { s₂ with heap := h3 } (upd H2 p (.lst [])) fp) [] (inner σ ix) H' s' ∧ tn i s'.heap ∧ (∀ b ∈ fp, H' b = none) ∧ W i n zs H') ?_ m0 ⟨0, [], _, I4, st4, fun b hb => (f3 b hb).1, w0⟩
    rintro n s6 ⟨i, zs, H6, I6, st6, fr6, w6⟩
    rcases turn i n zs H6 w6 with ⟨stop, qe⟩ | ⟨go, N, hN, step⟩
    · refine thn (T.done (X.comp (x :: ys) scope h3.objs.size { s₂ with heap := h3 } (upd H2 p (.lst [])) fp) rfl rfl rfl hc i [] s6 _ H6 _ I6 (stat fr6) st6 stop) fun r s7 ⟨hr, I7⟩ => ?_
      subst hr
      have u27 : Un (frs X.stack) fp H2 H6 s₂.heap s7.heap := by
        refine Un.trans (H1 := upd H2 p (.lst [])) (h1 := h3) (Un.laid old23 (Nat.le_of_eq hp) ?_) I7.base
        rw [← hp]; exact I2.fresh
      have I8 : Inv X pins σ H6 s7 := I2.call' (I7.os) u27 I7.hok I7.bare fun b hb => ⟨(f2 b hb).2.2.2.1, (f2 b hb).2.1, (f2 b hb).2.2.2.2.1, (f2 b hb).2.2.2.2.2⟩
      obtain ⟨m, hm, _⟩ := I7.loc
      exact hRR p h3.objs.size s7 H6 I8 (I2.fpOk (by rw [hp]; exact Nat.le_of_lt hDlt) I7.free) ⟨m, hm⟩ qe
    · refine thn (T.item (X.comp (x :: ys) scope h3.objs.size { s₂ with heap := h3 } (upd H2 p (.lst [])) fp) rfl rfl rfl hc i [] s6 _ H6 _ I6 (stat fr6) st6 go) fun r s7 ⟨u, hr, h7⟩ => ?_
      subst hr
      refine thn h7 fun _ s8 ⟨v, H8, I8, r8, y8, st8, fr8⟩ => ?_
      have I8' := I8.pinned (stat fr8) (T.obj _ _ st8)
      refine thn (pg _ s8 _ H8 v u (fun σ' H' => σ' = some v :: (ix.map fun j => (σ[j]?).join) ∧ H' = H8) I8' r8 ⟨rfl, rfl⟩) fun _ s9 ⟨σ9, H9, I9, e9, e9'⟩ => ?_
      subst e9; subst e9'
      refine thn (he _ _ _ _ _ s9 _ H9 _ I9 (step v H9 y8)) fun yv s10 ⟨y, H10, I10, r10, n10⟩ => ?_
      obtain ⟨hz, hlen, m', hm', w'⟩ := hN y H10 n10
      refine thn (mt_append _ s10 _ H10 (.ref p) [y] (.ref p) [yv] (fun _ H' => H' = upd H10 p (.lst (zs ++ [y]))) I10 rfl (.cons r10 .nil) ⟨p, zs, y, rfl, rfl, hz, hlen, rfl⟩) fun _ s11 ⟨_, H11, I11, _, e11⟩ => ?_
      subst e11
      have pinK : ∀ b ∈ fp, ∀ o, s8.heap.get? b = some o → s11.heap.get? b = some o ∧ (upd H10 p (.lst (zs ++ [y]))) b = none := fun b hb o e => by
        have q := I11.pin (b, o) (List.mem_append_right _ (List.mem_append_right _ (mem_pinsAt hb e)))
        exact ⟨q.1, q.2.1⟩
      refine ⟨m', hm', i + 1, zs ++ [y], _, (I11.unpinned).weak (by simp [inner]) (fun j v' e => ?_), T.keep _ _ _ st8 fun b hb o e => (pinK b hb o e).1, fun b hb => ?_, w'⟩
      · cases j with
        | zero => simp [inner] at e
        | succ j => simpa [inner] using e
      · obtain ⟨o, e, _⟩ := T.obj _ _ st8 b hb
        exact (pinK b hb o e).2
  exact codeAny_compStart_list (loop _ rfl) (T.self _ 0 _ _ _ st4 (loop _ rfl))
end
end L2

namespace L2
open PySem PySem.Spec PyProof.Rows
/-- [elt for x in iter]: W by the turn, a measure, the items so far and the heap -/
def tComp (ix : List Nat) (wi : TI) (te : TE) : TE := fun σ H Q => wi σ H fun J H1 => ∀ p, H1 p = none → ∃ W : Nat → Nat → List V → Hp → Prop, (∃ m, W 0 m [] (upd H1 p (.lst []))) ∧ ∀ i m zs H', W i m zs H' →
  (J.stop i H' ∧ Q (.ref p) H') ∨ (J.go i H' ∧ ∃ N : V → Hp → Prop, (∀ y H3, N y H3 → H3 p = some (.lst zs) ∧ zs.length < sizeLine ∧ ∃ m', m' < m ∧ W (i + 1) m' (zs ++ [y]) (upd H3 p (.lst (zs ++ [y])))) ∧ ∀ v H2, J.yld i H' v H2 → te (some v :: ix.map fun j => (σ[j]?).join) H2 N)
section
variable {X : Cx} {scope : Scope} {x : Str} {ys : List Str} {ix : List Nat} {elt iter : Expr} {px pos : Pos} {wi : TI} {te : TE}
theorem pe_comp (hc : X.calm = true) (S : CScope X scope x ys ix) (hi : PI X (.Name x px) iter wi) (he : ∀ (C : Addr) (s₀ : Shared) (H₀ : Hp) (fp : List Addr), PE (X.comp (x :: ys) scope C s₀ H₀ fp) elt te)
    (hs : ∀ v, foldedSetIterable iter X.env v = pure v := by intro _; rfl) : PE X (.ListComp elt [⟨.Name x px, iter, [], 0⟩] scope pos) (tComp ix wi te) := by
  intro pins s σ H Q I h
  rw [eval_ListComp]
  refine wpAny_comprehension_free (use := none) rfl hs (CmpC.closure_ok (S.has I.ok)) S.kind S.names (thn (hi pins s σ H _ I h) fun v s1 h1 => thn h1 fun itv s2 h2 => ?_)
  obtain ⟨it, fp, tn, J, H2, rfl, I2, T, st2, f2, hW⟩ := h2
  refine comp_core hc S he I2 T st2 f2 (Qe := fun p H' => Q (.ref p) H') hW fun p C s' H' I' fC hn q => ?_
  obtain ⟨m, hm⟩ := hn
  refine ⟨m, hm, fun h' hsb => ⟨.ref p, H', ?_, rfl, q⟩⟩
  exact I'.turned (t' := s'.toks) (same_back hsb) fC.1 fC.2.1 fC.2.2.2.1 fC.2.2.2.2.1 fC.2.2.2.2.2
/-- t = [elt for x in iter], t a local on the same row: the store comes ahead of the block's end -/
theorem ps_setComp {i : Nat} {t : Str} {pos' spos : Pos} (hc : X.calm = true) (S : CScope X scope x ys ix) (hi : PI X (.Name x px) iter wi) (he : ∀ (C : Addr) (s₀ : Shared) (H₀ : Hp) (fp : List Addr), PE (X.comp (x :: ys) scope C s₀ H₀ fp) elt te)
    (hN : X.N.Nodup) (hiN : X.N[i]? = some t) (hx : Loc X.env.scope t)
    (hsw : swapsWith (.ListComp elt [⟨.Name x px, iter, [], 0⟩] scope pos) (some (.Name t pos')) spos.line X.env = pure true)
    (hs : ∀ v, foldedSetIterable iter X.env v = pure v := by intro _; rfl)
    (hf : X.fn t = true ∨ X.env.scope.names.lookup t = some .local := by first | exact .inl rfl | exact .inr rfl | assumption) :
    PS X (.Assign [.Name t pos'] (.ListComp elt [⟨.Name x px, iter, [], 0⟩] scope pos) spos) (tAsg (tComp ix wi te) (gName i)) := by
  intro pins s σ H D I h
  rw [exec_Assign_Name_used _ _ _ _ hsw]
  refine wpAny_bind (wpAny_standAt (wpAny_bind ?_))
  show wpAny _ _ ((comprehension (.ListComp elt [⟨.Name x px, iter, [], 0⟩] scope pos) scope X.env (firstIterPos [⟨.Name x px, iter, [], 0⟩] pos) (newList []) false (eval iter X.env) (some (assign (.Name t pos') X.env))) >>= fun _ => pure ()) _ _ s
  refine wpAny_bind ?_
  refine wpAny_comprehension_free (use := some (assign (.Name t pos') X.env)) rfl hs (CmpC.closure_ok (S.has I.ok)) S.kind S.names (thn (hi pins s σ H _ I h) fun v s1 h1 => thn h1 fun itv s2 h2 => ?_)
  obtain ⟨it, fp, tn, J, H2, rfl, I2, T, st2, f2, hW⟩ := h2
  refine comp_core hc S he I2 T st2 f2 hW fun p C s' H' I' fC hn q => ?_
  obtain ⟨m, hm⟩ := hn
  refine wpAny_assign_Name (store_ok2 I' hN hiN hx (v := .ref p) rfl (fun s'' I'' ⟨a, hsa, ha⟩ => ?_) hf)
  have hCa : C ≠ a := by
    rcases ha with z | z
    · rw [z]; exact fC.2.1
    · exact fun e => fC.2.2.2.2.1 t a z e.symm
  refine ⟨m, hm.sameBut hsa hCa, fun h' hsb => ?_⟩
  refine wpAny_pure (wpAny_pure ?_)
  exact ⟨_, H', I''.turned (t' := s''.toks) (same_back hsb) fC.1 fC.2.1 fC.2.2.2.1 fC.2.2.2.2.1 fC.2.2.2.2.2, q⟩
end
/-! ### the forms one uses -/
theorem comp_list {K : PySem.W.Frag} {a p : Addr} {xs : List V} {te : TE} {σ' : St} {H1 : Hp} {Q : VK} (Pv : Nat → List V → Hp → Prop) (h0 : Pv 0 [] (upd H1 p (.lst [])))
    (hl : ∀ i zs H, i ≤ xs.length → Pv i zs H → SqL K H a xs)
    (hs : ∀ i v zs H, xs[i]? = some v → Pv i zs H → te (some v :: σ') H fun y H3 => H3 p = some (.lst zs) ∧ zs.length < sizeLine ∧ Pv (i + 1) (zs ++ [y]) (upd H3 p (.lst (zs ++ [y]))))
    (hd : ∀ zs H, Pv xs.length zs H → Q (.ref p) H) :
    ∃ W : Nat → Nat → List V → Hp → Prop, (∃ m, W 0 m [] (upd H1 p (.lst []))) ∧ ∀ i m zs H', W i m zs H' →
      ((Itl K a).stop i H' ∧ Q (.ref p) H') ∨ ((Itl K a).go i H' ∧ ∃ N : V → Hp → Prop, (∀ y H3, N y H3 → H3 p = some (.lst zs) ∧ zs.length < sizeLine ∧ ∃ m', m' < m ∧ W (i + 1) m' (zs ++ [y]) (upd H3 p (.lst (zs ++ [y])))) ∧ ∀ v H2, (Itl K a).yld i H' v H2 → te (some v :: σ') H2 N) := by
  refine ⟨fun i m zs H => m = xs.length - i ∧ i ≤ xs.length ∧ Pv i zs H, ⟨xs.length, by simp, Nat.zero_le _, h0⟩, ?_⟩
  rintro i m zs H ⟨rfl, hi, pv⟩
  have q := hl i zs H hi pv
  by_cases hlt : i < xs.length
  · refine .inr ⟨⟨xs, xs[i], q, by simp [hlt]⟩, (fun y H3 => H3 p = some (.lst zs) ∧ zs.length < sizeLine ∧ Pv (i + 1) (zs ++ [y]) (upd H3 p (.lst (zs ++ [y])))), fun y H3 n => ⟨n.1, n.2.1, xs.length - (i + 1), by omega, rfl, hlt, n.2.2⟩, fun v H2 y => ?_⟩
    obtain ⟨e, y⟩ := y
    subst e
    exact hs i v zs _ (y xs q) pv
  · have e : i = xs.length := by omega
    subst e
    exact .inl ⟨⟨xs, q, Nat.le_refl _⟩, hd zs H pv⟩
theorem comp_range {lo : Int} {n : Nat} {p : Addr} {te : TE} {σ' : St} {H1 : Hp} {Q : VK} (Pv : Nat → List V → Hp → Prop) (h0 : Pv 0 [] (upd H1 p (.lst [])))
    (hs : ∀ i zs H, i < n → Pv i zs H → te (some (.int (lo + i)) :: σ') H fun y H3 => H3 p = some (.lst zs) ∧ zs.length < sizeLine ∧ Pv (i + 1) (zs ++ [y]) (upd H3 p (.lst (zs ++ [y]))))
    (hd : ∀ zs H, Pv n zs H → Q (.ref p) H) :
    ∃ W : Nat → Nat → List V → Hp → Prop, (∃ m, W 0 m [] (upd H1 p (.lst []))) ∧ ∀ i m zs H', W i m zs H' →
      ((Itr lo n).stop i H' ∧ Q (.ref p) H') ∨ ((Itr lo n).go i H' ∧ ∃ N : V → Hp → Prop, (∀ y H3, N y H3 → H3 p = some (.lst zs) ∧ zs.length < sizeLine ∧ ∃ m', m' < m ∧ W (i + 1) m' (zs ++ [y]) (upd H3 p (.lst (zs ++ [y])))) ∧ ∀ v H2, (Itr lo n).yld i H' v H2 → te (some v :: σ') H2 N) := by
  refine ⟨fun i m zs H => m = n - i ∧ i ≤ n ∧ Pv i zs H, ⟨n, by simp, Nat.zero_le _, h0⟩, ?_⟩
  rintro i m zs H ⟨rfl, hi, pv⟩
  by_cases hlt : i < n
  · refine .inr ⟨hlt, (fun y H3 => H3 p = some (.lst zs) ∧ zs.length < sizeLine ∧ Pv (i + 1) (zs ++ [y]) (upd H3 p (.lst (zs ++ [y])))), fun y H3 q => ⟨q.1, q.2.1, n - (i + 1), by omega, rfl, hlt, q.2.2⟩, fun v H2 y => ?_⟩
    obtain ⟨e, y⟩ := y
    subst e; subst y
    exact hs i zs _ hlt pv
  · have e : i = n := by omega
    subst e
    exact .inl ⟨Nat.le_refl _, hd zs H pv⟩
end L2

namespace L2
open PySem PySem.Spec PyProof.Rows
section
variable {X : Cx} {st : Stmt} {rest : List Stmt} {t u : TS}
/-- a word between two statements -/
def tCut (t u : TS) : TS := fun D σ H => ∃ Mid : St → Hp → Prop, t { D with nx := Mid } σ H ∧ ∀ σ' H', Mid σ' H' → u D σ' H'
theorem pss_cut (h1 : PS X st t) (h2 : PSs X rest u) : PSs X (st :: rest) (tCut t u) := by
  intro pins s σ H D I h
  obtain ⟨Mid, a, b⟩ := h
  refine wpAny_execs_cons (thn (h1 pins s σ H _ I a) fun f s1 q => ?_)
  cases f with
  | next => obtain ⟨σ1, H1, I1, m⟩ := q; exact h2 pins s1 σ1 H1 D I1 (b σ1 H1 m)
  | brk => exact q
  | cont => exact q
  | ret v => exact q
end
theorem Same.upd_new {H : Hp} {p : Addr} (h : H p = none) (o : HO) : Same H (upd H p o) := fun b u q => by rw [upd_ne (ne_of_none q h)]; exact q
theorem Same.seqT {K : PySem.W.Frag} {H H' : Hp} {a : Addr} {xs : List V} (e : Same H H') (h : SqT K H a xs) : SqT K H' a xs := by
  rcases h with (h | ⟨o, h⟩) | h
  · exact .inl (.inl (e _ _ h))
  · exact .inl (.inr ⟨o, e _ _ h⟩)
  · exact .inr h
theorem atI_int {ns : List Int} {k : Int} (h0 : 0 ≤ k) (h1 : k < ns.length) : atI (ns.map V.int) k = some (.int (ns.getD k.toNat 0)) := by
  obtain ⟨j, rfl⟩ : ∃ j : Nat, k = (j : Int) := ⟨k.toNat, by omega⟩
  have hk : j < ns.length := by omega
  refine atI_nat ?_
  rw [List.getElem?_map, List.getElem?_eq_getElem hk]
  simp [List.getD_eq_getElem?_getD, hk]
theorem small_line {n : Nat} (h : n ≤ 1000) : n ≤ sizeLine := Nat.le_of_lt (small1000 h)
end L2

namespace L2
open PySem PySem.Spec PyProof.Rows
/-- the names of a def, looked at once -/
structure NOk (N : List Str) (sc : Scope) : Prop where
  nd : N.Nodup
  loc : ∀ x ∈ N, sc.names.lookup x = some .local ∨ sc.names.lookup x = some .cell
  dbg : ∀ x ∈ N, (x == ("__debug__" : Str)) = false ∧ (x == ("__classdict__" : Str)) = false
/-- a global name of a def, looked at once -/
structure GN (sc : Scope) (x : Str) : Prop where
  gl : sc.names.lookup x = some .globalImplicit
  nm : x ≠ "__name__"
  dbg : (x == ("__debug__" : Str)) = false
/-! ### an argument that is no star: by its constructor, whatever follows -/
section
variable {es : List Expr} {env : Env}
theorem st_name {x : Str} {p : Pos} : starEach (.Name x p :: es) env = (false, eval (.Name x p) env) :: starEach es env := by rfl
theorem st_const {c : Const} {j : Nat} {p : Pos} : starEach (.Constant c j p :: es) env = (false, eval (.Constant c j p) env) :: starEach es env := by rfl
theorem st_call {f : Expr} {as : List Expr} {ks : List Keyword} {p : Pos} : starEach (.Call f as ks p :: es) env = (false, eval (.Call f as ks p) env) :: starEach es env := by rfl
theorem st_bin {a b : Expr} {o : Operator} {p : Pos} : starEach (.BinOp a o b p :: es) env = (false, eval (.BinOp a o b p) env) :: starEach es env := by rfl
theorem st_un {a : Expr} {o : UnaryOp} {p : Pos} : starEach (.UnaryOp o a p :: es) env = (false, eval (.UnaryOp o a p) env) :: starEach es env := by rfl
theorem st_sub {a b : Expr} {p : Pos} : starEach (.Subscript a b p :: es) env = (false, eval (.Subscript a b p) env) :: starEach es env := by rfl
theorem st_list {as : List Expr} {p : Pos} : starEach (.List as p :: es) env = (false, eval (.List as p) env) :: starEach es env := by rfl
theorem st_cmp {a : Expr} {os : List CmpOp} {bs : List Expr} {p : Pos} : starEach (.Compare a os bs p :: es) env = (false, eval (.Compare a os bs p) env) :: starEach es env := by rfl
end
theorem st_tup {es as : List Expr} {env : Env} {k : Nat} {p : Pos} : starEach (.Tuple as k p :: es) env = (false, eval (.Tuple as k p) env) :: starEach es env := by rfl
theorem st_comp {es : List Expr} {env : Env} {a : Expr} {gs : List Comprehension} {sc : Scope} {p : Pos} : starEach (.ListComp a gs sc p :: es) env = (false, eval (.ListComp a gs sc p) env) :: starEach es env := by rfl
theorem pac {X : Cx} {e : Expr} {es : List Expr} {te : TE} {t : TA} (ha : PE X e te) (hr : PA X es t)
    (hs : starEach (e :: es) X.env = (false, eval e X.env) :: starEach es X.env := by first | exact st_name | exact st_const | exact st_call | exact st_bin | exact st_sub | exact st_un | exact st_list | exact st_cmp | exact st_tup | exact st_comp) : PA X (e :: es) (tCons te t) := pa_cons ha hr hs
section
variable {X : Cx} {N : List Str} {sc : Scope}
theorem pn (S : NOk X.N X.env.scope) (i : Nat) {x : Str} {pos : Pos} (hN : X.N[i]? = some x := by rfl) : PE X (.Name x pos) (tVar i) :=
  have m := List.mem_of_getElem? hN
  pe_var hN ((S.loc x m).elim .inl fun z => .inr (.inl z)) (S.dbg x m).1 (S.dbg x m).2
theorem psn (S : NOk X.N X.env.scope) (i : Nat) {x : Str} {e : Expr} {te : TE} {pos pos' : Pos} (he : PE X e te) (hi : X.N[i]? = some x := by rfl) (hs : swapsWith e (some (.Name x pos')) pos.line X.env = pure false := by rfl)
    (hf : X.fn x = true ∨ X.env.scope.names.lookup x = some .local := by first | exact .inl rfl | assumption) : PS X (.Assign [.Name x pos'] e pos) (tAsg te (gName i)) :=
  ps_set S.nd hi (S.loc x (List.mem_of_getElem? hi)) he hs hf
theorem pgn (S : NOk X.N X.env.scope) (i : Nat) {x : Str} {pos : Pos} (hi : X.N[i]? = some x := by rfl) (hf : X.fn x = true ∨ X.env.scope.names.lookup x = some .local := by first | exact .inl rfl | assumption) : PG X (.Name x pos) (gName i) :=
  pg_name S.nd hi (S.loc x (List.mem_of_getElem? hi)) hf
section
variable {x : Str} {p pos : Pos} {e : Expr} {es : List Expr} {t : TA} {id T : String} {r : List V → Hp → VK → Prop}
theorem pcB (hc : CallR X (.builtin id) r) (hg : GN X.env.scope x) (hm : X.mg x = none) (hv : bootBuiltins x = some (.builtin id)) (ha : PA X (e :: es) t)
    (he : starEach (e :: es) X.env = (false, eval e X.env) :: starEach es X.env := by first | exact st_name | exact st_const | exact st_call | exact st_bin | exact st_sub | exact st_un | exact st_list | exact st_cmp | exact st_tup | exact st_comp) (hpl : (backTo pos (starEach es X.env)).any (·.1) = false := by rfl) : PE X (.Call (.Name x p) (e :: es) [] pos) (tCB r t) :=
  pe_callB hc hg.gl hm hv ha hg.nm hg.dbg he hpl
theorem pcT (hc : CallR X (.type T) r) (hg : GN X.env.scope x) (hm : X.mg x = none) (hv : bootBuiltins x = some (.type T)) (ha : PA X (e :: es) t)
    (he : starEach (e :: es) X.env = (false, eval e X.env) :: starEach es X.env := by first | exact st_name | exact st_const | exact st_call | exact st_bin | exact st_sub | exact st_un | exact st_list | exact st_cmp | exact st_tup | exact st_comp) (hpl : (backTo pos (starEach es X.env)).any (·.1) = false := by rfl) : PE X (.Call (.Name x p) (e :: es) [] pos) (tCB r t) :=
  pe_callTy hc hg.gl hm hv ha hg.nm hg.dbg he hpl
theorem ptyN (hg : GN X.env.scope x) (hm : X.mg x = none) (hv : bootBuiltins x = some (.type T)) : PE X (.Name x pos) (tC (.ty T)) := pe_bltn hg.gl hm hv rfl hg.nm hg.dbg
/-- a def that is called: what the caller needs -/
structure Cl (P : Program) (w : World) (K : PySem.W.Frag) (mg : Str → Option Value) (base : Heap) (k : Nat) (x : Str) (f : Addr) (fd : FuncData) (ps : List Str) (sp : Sp) : Prop where
  ok : FnOk P w K mg base CX0 k f fd ps sp
  bd : Binds K fd ps []
  kp : PySem.W.keepIn K (.ref f) = true
  mg : mg x = some (.ref f)
theorem pcD {k : Nat} {f : Addr} {fd : FuncData} {ps : List Str} {sp : Sp} (C : Cl X.prog X.w X.K X.mg X.base k x f fd ps sp) (hr : Room k X.A) (hg : GN X.env.scope x) (ha : PA X (e :: es) t)
    (he : starEach (e :: es) X.env = (false, eval e X.env) :: starEach es X.env := by first | exact st_name | exact st_const | exact st_call | exact st_bin | exact st_sub | exact st_un | exact st_list | exact st_cmp | exact st_tup | exact st_comp) (hpl : (backTo pos (starEach es X.env)).any (·.1) = false := by rfl) : PE X (.Call (.Name x p) (e :: es) [] pos) (tCall sp [] E0 t) :=
  pe_call C.ok hr hg.gl C.mg C.kp C.bd .nil pass0 ha hg.dbg he hpl
theorem pir1 {tg : Expr} {a : Expr} {ta : TA} (hg : GN X.env.scope "range") (hm : X.mg "range" = none) (ha : PA X [a] ta) (hs : starEach [a] X.env = [(false, eval a X.env)] := by rfl) : PI X tg (.Call (.Name "range" p) [a] [] pos) (iRng1 ta) :=
  pi_range1 hg.gl hm ha hs
theorem pir2 {tg : Expr} {a b : Expr} {ta : TA} (hg : GN X.env.scope "range") (hm : X.mg "range" = none) (ha : PA X [a, b] ta) (hs : starEach [a, b] X.env = [(false, eval a X.env), (false, eval b X.env)] := by rfl) (hs2 : starEach [b] X.env = [(false, eval b X.env)] := by rfl) : PI X tg (.Call (.Name "range" p) [a, b] [] pos) (iRng2 ta) :=
  pi_range2 hg.gl hm ha hs hs2
end
end
theorem boo_sorted : bootBuiltins "sorted" = some (.builtin "sorted") := by decide +kernel
theorem boo_set : bootBuiltins "set" = some (.type "set") := by decide +kernel
theorem boo_isi : bootBuiltins "isinstance" = some (.builtin "isinstance") := by decide +kernel
theorem boo_int : bootBuiltins "int" = some (.type "int") := by decide +kernel
theorem boo_bool : bootBuiltins "bool" = some (.type "bool") := by decide +kernel
theorem boo_list : bootBuiltins "list" = some (.type "list") := by decide +kernel
theorem boo_tuple : bootBuiltins "tuple" = some (.type "tuple") := by decide +kernel
theorem boo_str : bootBuiltins "str" = some (.type "str") := by decide +kernel
theorem boo_len : bootBuiltins "len" = some (.builtin "len") := by decide +kernel
theorem boo_max : bootBuiltins "max" = some (.builtin "max") := by decide +kernel
theorem boo_rev : bootBuiltins "reversed" = some (.type "reversed") := by decide +kernel
end L2

set_option linter.all false
set_option maxRecDepth 100000
namespace L2
open PySem PySem.Spec PyProof.Rows
/-! ### how an error lies behind a call -/
/-- the error at e, of the class cls: all that was there ahead of the call, and all that is tracked, lies in B, which the flight leaves alone -/
structure Fly (P : Program) (w : World) (outer : List Env) (H : Hp) (s : Shared) (e : Addr) (cls a0 : Value) (H' : Hp) (s' : Shared) : Prop where
  os : s'.os = s.os
  bare : AllBare s'.gens
  un : Un (frs outer) [] H H' s.heap s'.heap
  hok : HOk P w H' s'.heap
  frf : ∀ b ∈ frs outer, H' b = none
  fly : ∃ B, Heap.FlyingW B outer e cls a0 s'.heap ∧ ∀ b o, s'.heap.get? b = some o → b ∉ frs outer → s.heap.get? b ≠ none ∨ H' b ≠ none → B.get? b = some o
def CXF (P : Program) (w : World) : CXT := fun outer H s E e' s' => ∃ e cls a0 H', e' = .ref e ∧ Fly P w outer H s e cls a0 H' s' ∧ E cls none H'
section
variable {P : Program} {w : World} {outer : List Env} {H H' : Hp} {s s' : Shared} {e : Addr} {cls a0 : Value}
theorem hok_slots {h h' B : Heap} {fs : List Addr} (hok : HOk P w H h) (hf : ∀ b ∈ fs, H b = none) (cov : ∀ b o, h.get? b = some o → b ∉ fs → H b ≠ none → B.get? b = some o) (st : B.StaysIn h') : HOk P w H h' := fun a o ea => by
  have k : ∀ b u, (∃ v, H b = some v) → h.get? b = some u → h'.get? b = some u := fun b u ⟨v, ev⟩ eb => st b u (cov b u eb (fun z => by rw [hf b z] at ev; cases ev) (by rw [ev]; simp))
  exact (hok a o ea).stay (fun b u hb eb => k b u (hb.elim (fun z => ⟨_, z ▸ ea⟩) fun z => ⟨_, z⟩) eb) (fun _ q => q) fun _ _ q => q
/-- the flight goes on over the frames outer: to a heap that keeps B -/
theorem Fly.on {B h' : Heap} (hos : s'.os = s.os) (hb : AllBare s'.gens) (un : Un (frs outer) [] H H' s.heap s'.heap) (hok : HOk P w H' s'.heap) (frf : ∀ b ∈ frs outer, H' b = none)
    (cov : ∀ b o, s'.heap.get? b = some o → b ∉ frs outer → s.heap.get? b ≠ none ∨ H' b ≠ none → B.get? b = some o) (fl : Heap.FlyingW B outer e cls a0 h') (ff : ∀ b ∈ frs outer, ∃ o, s'.heap.get? b = some o ∧ ∀ vs, o.data ≠ .fields vs) (up : s'.heap.UpToSlots h') :
    Fly P w outer H s e cls a0 H' { s' with heap := h' } := by
  have st : B.StaysIn h' := fl.1
  have old : ∀ b o, s.heap.get? b = some o → b ∉ frs outer → ∃ o', s'.heap.get? b = some o' ∧ h'.get? b = some o' := fun b o eb nb => by
    obtain ⟨o', e'⟩ := un.there b o eb (by simp)
    exact ⟨o', e', st b o' (cov b o' e' nb (.inl (by rw [eb]; simp)))⟩
  refine ⟨hos, hb, ⟨fun b o eb n nb _ => ?_, fun b o eb n hb' _ => ?_, un.free, fun b o eb _ => ?_, un.tups, un.frzs, un.tbls⟩, hok_slots hok frf (fun b o q1 q2 q3 => cov b o q1 q2 (.inr q3)) st, frf, B, fl, fun b o eb nb hb' => ?_⟩
  · obtain ⟨o', e1, e2⟩ := old b o eb nb
    rw [un.keep b o eb n nb (by simp)] at e1; cases e1
    exact e2
  · obtain ⟨sl, e1⟩ := un.slot b o eb n hb' (by simp)
    obtain ⟨o2, e2, d2⟩ := ff b hb'
    rw [e1] at e2; cases e2
    obtain ⟨sl', e3⟩ := up b _ e1 d2
    exact ⟨sl', e3⟩
  · by_cases nb : b ∈ frs outer
    · obtain ⟨o2, e2, d2⟩ := ff b nb
      obtain ⟨sl', e3⟩ := up b _ e2 d2
      exact ⟨_, e3⟩
    · obtain ⟨o', _, e2⟩ := old b o eb nb
      exact ⟨o', e2⟩
  · have : ∃ o', s'.heap.get? b = some o' := by
      rcases hb' with z | z
      · cases q : s.heap.get? b with
        | none => exact absurd q z
        | some o1 => exact un.there b o1 q (by simp)
      · cases q : H' b with
        | none => exact absurd q z
        | some o1 => exact (hok b o1 q).there
    obtain ⟨o', e'⟩ := this
    have hB := cov b o' e' nb hb'
    have := st b o' hB
    rw [eb] at this; cases this
    exact hB
end
/-- a def lets an error of a callee pass -/
theorem passF {P : Program} {w : World} {K : PySem.W.Frag} {mg : Str → Option Value} {base : Heap} {N : List Str} {qual : Str} {scope : Scope} {f : Addr} {cd : Value} {A : Around} {outer : List Env} {s : Shared} {H : Hp} {E E' : XK}
    (hE : ∀ cls H', E' cls none H' → E cls none H') : Passes (CXF P w) (cxOf (CXF P w) P w K mg base N qual scope f cd A outer s H E) E' := by
  intro pins σ H1 s1 e' s' I hx
  obtain ⟨e, cls, a0, H', rfl, F, q⟩ := hx
  obtain ⟨B, fl, cov⟩ := F.fly
  have hs' : s' = { s' with heap := s'.heap, gens := s'.gens, drawn := s'.drawn, toks := s'.toks } := rfl
  have J : Inv (cxOf (CXF P w) P w K mg base N qual scope f cd A outer s H E) pins σ H' s' := by
    obtain ⟨hh, g, d, t, os'⟩ := s'
    obtain rfl : os' = s1.os := F.os
    exact I.call (h' := hh) (g' := g) (d' := d) (t' := t) (ch := []) F.un F.hok F.bare (fun b z => absurd z (by simp))
  show wpAny (model P w) (A.deeper (envOfC qual scope s.heap.objs.size f cd)) (leaving (envOfC qual scope s.heap.objs.size f cd) (.ref e)) _ _ s'
  refine wpAny_leaves_onW I.ok.frames rfl fl fun h'' fl' up => ?_
  refine ⟨e, cls, a0, H', rfl, Fly.on (B := B) J.os J.bare J.base J.hok (fun b hb => F.frf b (List.mem_cons_of_mem _ hb)) (fun b o eb nb hb => ?_) fl' (fun b hb => ?_) up, hE cls H' q⟩
  · have hold : s1.heap.get? b ≠ none ∨ H' b ≠ none := hb.imp (fun z => by
      cases q1 : s.heap.get? b with
      | none => exact absurd q1 z
      | some o1 =>
        obtain ⟨o2, e2⟩ := I.base.there b o1 q1 (show b ∉ ([] : List Addr) by simp)
        rw [e2]; simp) id
    have nL : b ≠ s.heap.objs.size := fun z => by
      subst z
      rcases hb with z | z
      · exact z (Heap.get?_none_of_le (Nat.le_refl _))
      · exact z J.free
    refine cov b o eb (fun z => ?_) hold
    rcases List.mem_cons.mp (show b ∈ s.heap.objs.size :: frs outer from z) with z | z
    · exact nL z
    · exact nb z
  · exact (J.funs.mem (b := b) hb).2
end L2

set_option linter.all false
set_option maxRecDepth 100000
namespace L2
open PySem PySem.Spec PyProof.Rows
/-- a dict of names: all its names, in a list -/
theorem ns_names {h : Heap} {a : Addr} {mg : Str → Option Value} (G : h.Ns a mg) : ∃ l : List Str, ∀ x, x ∉ l → mg x = none := by
  obtain ⟨o, es, ep, ho, hd, hz, hf⟩ := G
  refine ⟨es.toList.filterMap fun e => match e.key with | .str n _ => some n | _ => none, fun x hx => ?_⟩
  rw [← hf]
  unfold nsFind findBy
  rw [Array.find?_eq_none.mpr fun e he z => ?_]
  · rfl
  · obtain ⟨n, t, ek⟩ := hz e he
    rw [ek] at z
    have hn : n = x := by simpa [Value.isStr] using z
    exact hx (List.mem_filterMap.mpr ⟨e, by simpa using he, by rw [ek, hn]⟩)
/-- an own error: the class at C, of the name x, below ValueError -/
abbrev vErr : List Value := [.type "ValueError", .type "Exception", .type "BaseException", .type "object"]
structure ErrK (K : PySem.W.Frag) (x : Str) (C : Addr) : Prop where
  nm : PySem.W.nsIn K mainGlobals x = some (some (.ref C))
  ex : PySem.W.excIn K C vErr "ValueError.__new__" = true
theorem ErrK.own {K : PySem.W.Frag} {x : Str} {C : Addr} {mg : Str → Option Value} {base : Heap} (k : ErrK K x C) (M : Mod K mg base) : OwnCls x C vErr "ValueError.__new__" mg base := by
  obtain ⟨l, hl⟩ := ns_names M.glob
  obtain ⟨mb, h1, h2⟩ := M.blt
  exact PySem.W.own_of_in (p := default) (loose := l) (mb := mb) M.kin ⟨M.glob, h1, M.nolimit, h2, fun x _ hx _ _ _ => hl x hx⟩ k.nm k.ex
section
variable {P : Program} {w : World} {K : PySem.W.Frag} {mg : Str → Option Value} {base : Heap} {N : List Str} {qual : Str} {scope : Scope} {f : Addr} {cd : Value} {A : Around} {outer : List Env} {s : Shared} {H : Hp} {E : XK}
/-- an error just made leaves a def -/
theorem leave_made {pins : List (Addr × Obj)} {σ : St} {H2 : Hp} {s2 : Shared} {h' : Heap} {e : Addr} {cls : Value} {us : List Value} (I : Inv (cxOf (CXF P w) P w K mg base N qual scope f cd A outer s H E) pins σ H2 s2)
    (hm : Heap.MadeExcOf s2.heap h' e cls us) (q : E cls none H2) : (cxOf (CXF P w) P w K mg base N qual scope f cd A outer s H E).xe (.ref e) { s2 with heap := h' } := by
  have J : Inv (cxOf (CXF P w) P w K mg base N qual scope f cd A outer s H E) pins σ H2 { s2 with heap := h' } := I.kept (t' := s2.toks) hm.keeps
  show wpAny (model P w) (A.deeper (envOfC qual scope s.heap.objs.size f cd)) (leaving (envOfC qual scope s.heap.objs.size f cd) (.ref e)) _ _ _
  refine wpAny_leaves_madeW (base := PySem.W.hideAll s2.heap (frs (envOfC qual scope s.heap.objs.size f cd :: outer))) (h := s2.heap) I.ok.frames rfl (fun b o z => PySem.W.of_hideAll _ z) (PySem.W.funFrames_hide I.stack fun env he b hb => List.mem_filterMap.mpr ⟨env, he, hb⟩) hm fun h'' t x1 x2 x3 x4 => ?_
  refine ⟨e, cls, .ref t, H2, rfl, Fly.on (s' := { s2 with heap := h' }) J.os J.bare J.base J.hok (fun b hb => I.stkFree b (List.mem_cons_of_mem _ hb)) (fun b o eb nb hb => ?_) x1 (fun b hb => (J.funs.mem (b := b) hb).2) x4, q⟩
  have nL : b ≠ s.heap.objs.size := fun z => by
    subst z
    rcases hb with z | z
    · exact z (Heap.get?_none_of_le (Nat.le_refl _))
    · exact z I.free
  have h2 : ∃ o1, s2.heap.get? b = some o1 := by
    rcases hb with z | z
    · cases q1 : s.heap.get? b with
      | none => exact absurd q1 z
      | some o1 => exact I.base.there b o1 q1 (show b ∉ ([] : List Addr) by simp)
    · cases q1 : H2 b with
      | none => exact absurd q1 z
      | some o1 => exact (I.hok b o1 q1).there
  obtain ⟨o1, e1⟩ := h2
  have := hm.keeps b o1 e1
  rw [show h'.get? b = some o from eb] at this
  cases this
  refine PySem.W.hideAll_get _ e1 fun z => ?_
  rcases List.mem_cons.mp (show b ∈ s.heap.objs.size :: frs outer from z) with z | z
  · exact nL z
  · exact nb z
/-- raise X(a, ..) -/
theorem ps_raise {x : Str} {C : Addr} {e0 : Expr} {es : List Expr} {t : TA} {np cpos pos : Pos} (k : ErrK K x C) (hg : GN scope x)
    (ha : PA (cxOf (CXF P w) P w K mg base N qual scope f cd A outer s H E) (e0 :: es) t)
    (he : starEach (e0 :: es) (cxOf (CXF P w) P w K mg base N qual scope f cd A outer s H E).env = (false, eval e0 (cxOf (CXF P w) P w K mg base N qual scope f cd A outer s H E).env) :: starEach es (cxOf (CXF P w) P w K mg base N qual scope f cd A outer s H E).env := by rfl)
    (hpl : (backTo cpos (starEach es (cxOf (CXF P w) P w K mg base N qual scope f cd A outer s H E).env)).any (·.1) = false := by rfl) :
    PS (cxOf (CXF P w) P w K mg base N qual scope f cd A outer s H E) (.Raise (some (.Call (.Name x np) (e0 :: es) [] cpos)) none pos) (fun _ σ H1 => t σ H1 fun vs H2 => vs.length ≤ sizeLine ∧ E (.ref C) none H2) := by
  intro pins s1 σ H1 D I h
  have O := k.own I.mod
  obtain ⟨tl, N', nm, qn, bs, hdct, sn, sub, ab, col, dd, k0, k1, k2, k3, k5, mN, hC, hN, hni, T⟩ := O.obj
  refine wpAny_Raise_call_subT (C := C) (nm := nm) (q := qn) (N := N') (bs := bs) (bm := tl) (hdct := hdct) (sn := sn) (sub := sub) (ab := ab) (col := col) (dd := dd) (k0 := k0) (k1 := k1) (k2 := k2) (k3 := k3) (k5 := k5)
    PySem.F.excBase_ValueError (mN := mN) (T.hasType PySem.F.excBase_ValueError.hasBase) (I.ok.hd rfl) (by rw [he]; exact hpl) hni (ld_glob I hg.gl O.bound ⟨rfl, ?_⟩ hg.dbg)
  have ha' := ha cpos pins s1 σ H1 _ I h
  rw [he] at ha' ⊢
  exact Calls.evalArgs_plain (thn ha' fun us s2 ⟨vs, H2, I2, r, q1, q2⟩ => ⟨rfl, by rw [← r.length]; exact q1, I2.bk _ _ hC, hN.keeps I2.bk, T.keeps I2.bk, fun h' e hm => leave_made I2 hm q2⟩)
/-- raise X() -/
theorem ps_raise0 {x : Str} {C : Addr} {np cpos pos : Pos} (k : ErrK K x C) (hg : GN scope x) :
    PS (cxOf (CXF P w) P w K mg base N qual scope f cd A outer s H E) (.Raise (some (.Call (.Name x np) [] [] cpos)) none pos) (fun _ σ H1 => E (.ref C) none H1) := by
  intro pins s1 σ H1 D I h
  have O := k.own I.mod
  obtain ⟨tl, N', nm, qn, bs, hdct, sn, sub, ab, col, dd, k0, k1, k2, k3, k5, mN, hC, hN, hni, T⟩ := O.obj
  refine wpAny_Raise_call_subT (C := C) (nm := nm) (q := qn) (N := N') (bs := bs) (bm := tl) (hdct := hdct) (sn := sn) (sub := sub) (ab := ab) (col := col) (dd := dd) (k0 := k0) (k1 := k1) (k2 := k2) (k3 := k3) (k5 := k5)
    PySem.F.excBase_ValueError (mN := mN) (T.hasType PySem.F.excBase_ValueError.hasBase) (I.ok.hd rfl) rfl hni (ld_glob I hg.gl O.bound ⟨rfl, ?_⟩ hg.dbg)
  exact PySem.evalArgs_none ⟨rfl, Nat.zero_le _, I.bk _ _ hC, hN.keeps I.bk, T.keeps I.bk, fun h' e hm => leave_made I hm h⟩
end
end L2

set_option linter.all false
set_option maxRecDepth 100000
namespace L2
open PySem PySem.Spec PyProof.Rows
section
variable {X : Cx} {pins : List (Addr × Obj)} {σ : St} {H : Hp} {s : Shared}
/-- the name of a handler goes behind its suite -/
theorem goes_ok {M : Model} {A : Around} {E : Value → Shared → Prop} {i : Nat} {n : Str} {pos : Pos} {Q : Unit → Shared → Prop} (I : Inv X pins σ H s) (hN : X.N.Nodup) (hi : X.N[i]? = some n) (hk : X.env.scope.names.lookup n = some .local)
    (h : ∀ s', Inv X pins (σ.set i none) H s' → Q () s') : wpAny M A (do bindName X.env n .none; unbindBehindTheSuite X.env n pos) Q E s := by
  obtain ⟨m, hn, hl⟩ := id I.loc
  have hcls : (X.env.scope.kind == .class || (X.env.scope.kind == .module && X.env.locals != X.env.globals)) = false := by rw [I.ok.kind]; rfl
  refine wpAny_nameGoes_keeps hk hn hcls fun h' v hn' hs => h _ ?_
  have old : ∀ b o, X.s₀.heap.get? b = some o → h'.get? b = s.heap.get? b := fun b o e => hs.2 b (Nat.ne_of_lt (Nat.lt_of_lt_of_le (Heap.lt_size e) I.ok.above))
  have neL : ∀ c, H c ≠ none → c ≠ X.env.locals := fun c hc z => hc (z ▸ I.free)
  refine ⟨I.ok, I.os, I.bare, ⟨fun b o e n' hb hx => (old b o e).trans (I.base.keep b o e n' hb hx), fun b o e n' hb hx => ?_, I.base.free, fun b o e hx => ?_, I.base.tups, I.base.frzs, I.base.tbls⟩, ⟨_, hn', fun j y v' e1 e2 e3 => ?_⟩, fun y c e => ?_, I.free, I.freeC, fun p hp => ?_, fun b ob e => ?_, by simpa using I.len⟩
  · obtain ⟨sl, e1⟩ := I.base.slot b o e n' hb hx
    exact ⟨sl, (old b o e).trans e1⟩
  · obtain ⟨o', e1⟩ := I.base.there b o e hx
    exact ⟨o', (old b o e).trans e1⟩
  · have hj : j ≠ i := fun z => by
      subst z
      rw [List.getElem?_set] at e2
      simp at e2
    rw [List.getElem?_set_ne (Ne.symm hj)] at e2
    obtain ⟨u, r, q⟩ := hl j y v' e1 e2 e3
    refine ⟨u, r, ?_⟩
    rcases q with ⟨k, e⟩ | ⟨k, c, e, o, z1, z2⟩
    · refine .inl ⟨k, ?_⟩
      have : y ≠ n := fun z => hj (nodup_ix hN (z ▸ e1) hi)
      simp only [if_neg this]
      exact e
    · exact .inr ⟨k, c, e, o, (hs.2 c (I.cne y c e)).trans z1, z2⟩
  · obtain ⟨v', o, z1, z2⟩ := I.cell y c e
    exact ⟨v', o, (hs.2 c (I.cne y c e)).trans z1, z2⟩
  · obtain ⟨a, b, c, d⟩ := I.pin p hp
    exact ⟨(hs.2 p.1 c).trans a, b, c, d⟩
  · refine (I.hok b ob e).stay (fun c w' hc q => (hs.2 c (neL c ?_)).trans q) (fun _ q => q) fun _ _ q => q
    rcases hc with z | z
    · rw [z, e]; simp
    · rw [z]; simp
/-- an object that was not there at the entry is tracked from now on -/
theorem Inv.trackN {p : Addr} {o : HO} (J : Inv X pins σ H s) (hp : H p = none) (new : ObjOk X.prog X.w (upd H p o) s.heap p o) (hs : X.s₀.heap.get? p = none) (hL : p ≠ X.env.locals) (hC : ∀ x c, X.env.cells.lookup x = some c → c ≠ p) (hpn : ∀ q ∈ X.pn ++ pins, q.1 ≠ p) : Inv X pins σ (upd H p o) s := by
  have ne : ∀ b z, H b = some z → b ≠ p := fun b z e => ne_of_none e hp
  have no : ∀ b ob, X.s₀.heap.get? b = some ob → b ≠ p := fun b ob e z => by rw [z, hs] at e; cases e
  refine ⟨J.ok, J.os, J.bare, ⟨J.base.keep, J.base.slot, fun b ob e n hx => by rw [upd_ne (no b ob e)]; exact J.base.free b ob e n hx, J.base.there, fun b xs e => ?_, fun b ob u e => ?_, fun b ps e => ?_⟩, J.loc, J.cell, by rw [upd_ne hL.symm]; exact J.free, fun x c e => by rw [upd_ne (hC x c e)]; exact J.freeC x c e, fun q hq => let ⟨a, b, c⟩ := J.pin q hq; ⟨a, by rw [upd_ne (hpn q hq)]; exact b, c⟩, fun a z e => ?_, J.len⟩
  · have q := J.base.tups b xs e; rw [upd_ne (ne b _ q)]; exact q
  · have q := J.base.frzs b ob u e; rw [upd_ne (ne b _ q)]; exact q
  · obtain ⟨m, q⟩ := J.base.tbls b ps e
    exact ⟨m, by rw [upd_ne (ne b _ q)]; exact q⟩
  · by_cases h : a = p
    · subst h; rw [upd_same] at e; cases e; exact new
    · rw [upd_ne h] at e
      exact (J.hok a z e).stay (fun _ _ _ q => q) (fun c q => by rw [upd_ne (ne c _ q)]; exact q) fun c xs q => by rw [upd_ne (ne c _ q)]; exact q
/-- an error that is held -/
def ErrH (e : Addr) (cls : Value) : HO := .ext fun h => ∃ ob, h.get? e = some ob ∧ ob.cls = cls
/-- within an except suite -/
abbrev Cx.mkd (X : Cx) (e : Addr) : Cx := { X with A := X.A.mark (some (.ref e)), calm := false, xe := fun _ _ => False }
theorem Inv.mkd (I : Inv X pins σ H s) (e : Addr) : Inv (X.mkd e) pins σ H s :=
  have ok := I.ok
  ⟨⟨ok.mod, ok.kind, ok.glob, ok.blt, ok.above, ok.inj, ok.has, ok.cab, (fun z => nomatch z), ok.frames, ok.stk, ok.exf, ok.bs, ok.bsz, ok.noex, ok.exfs, ok.funs, ok.frf⟩, I.os, I.bare, I.base, I.loc, I.cell, I.free, I.freeC, I.pin, I.hok, I.len⟩
theorem Inv.unmkd {e : Addr} (ok : X.Ok) (I : Inv (X.mkd e) pins σ H s) : Inv X pins σ H s := ⟨ok, I.os, I.bare, I.base, I.loc, I.cell, I.free, I.freeC, I.pin, I.hok, I.len⟩
/-- other pins that every state bears, another wish -/
abbrev Cx.pnx (X : Cx) (pn' : List (Addr × Obj)) (xe' : Value → Shared → Prop) : Cx := { X with pn := pn', xe := xe' }
theorem Cx.Ok.pnx (ok : X.Ok) {pn' : List (Addr × Obj)} {xe' : Value → Shared → Prop} : (X.pnx pn' xe').Ok := ⟨ok.mod, ok.kind, ok.glob, ok.blt, ok.above, ok.inj, ok.has, ok.cab, ok.hd, ok.frames, ok.stk, ok.exf, ok.bs, ok.bsz, ok.noex, ok.exfs, ok.funs, ok.frf⟩
theorem Inv.pnx {xe' : Value → Shared → Prop} (I : Inv X pins σ H s) : Inv (X.pnx (X.pn ++ pins) xe') [] σ H s := ⟨I.ok.pnx, I.os, I.bare, I.base, I.loc, I.cell, I.free, I.freeC, fun p hp => I.pin p (by simpa using hp), I.hok, I.len⟩
theorem Inv.unpnx {xe' : Value → Shared → Prop} {pins1 : List (Addr × Obj)} (ok : X.Ok) (I : Inv (X.pnx (X.pn ++ pins) xe') pins1 σ H s) : Inv X pins σ H s := ⟨ok, I.os, I.bare, I.base, I.loc, I.cell, I.free, I.freeC, fun p hp => I.pin p (List.mem_append_left _ hp), I.hok, I.len⟩
/-- an error of a callee at a state of which S is true -/
def PassesS (CX : CXT) (X : Cx) (S : St → Prop) (E : XK) : Prop := ∀ (pins : List (Addr × Obj)) (σ : St) (H : Hp) (s : Shared) (e : Value) (s' : Shared), S σ → Inv X pins σ H s → CX X.stack H s E e s' → X.xe e s'
def tCallS (S : St → Prop) (sp : Sp) (E : XK) (t : TA) : TE := fun σ H Q => S σ ∧ t σ H fun vs H1 => sp vs H1 Q E
/-- a def that may raise, as a caller sees it -/
structure ClF (P : Program) (w : World) (K : PySem.W.Frag) (mg : Str → Option Value) (base : Heap) (k : Nat) (x : Str) (f : Addr) (fd : FuncData) (ps : List Str) (sp : Sp) : Prop where
  ok : FnOk P w K mg base (CXF P w) k f fd ps sp
  bd : Binds K fd ps []
  kp : PySem.W.keepIn K (.ref f) = true
  mg : mg x = some (.ref f)
theorem pcS {k : Nat} {x : Str} {f : Addr} {fd : FuncData} {ps : List Str} {sp : Sp} {S : St → Prop} {E : XK} {e : Expr} {es : List Expr} {t : TA} {p pos : Pos} (C : ClF X.prog X.w X.K X.mg X.base k x f fd ps sp) (hr : Room k X.A) (hg : GN X.env.scope x) (hx : PassesS (CXF X.prog X.w) X S E) (ha : PA X (e :: es) t)
    (he : starEach (e :: es) X.env = (false, eval e X.env) :: starEach es X.env := by first | exact st_name | exact st_const | exact st_call | exact st_bin | exact st_sub | exact st_un | exact st_list | exact st_cmp | exact st_tup | exact st_comp) (hpl : (backTo pos (starEach es X.env)).any (·.1) = false := by rfl) : PE X (.Call (.Name x p) (e :: es) [] pos) (tCallS S sp E t) := by
  intro pins s σ H Q I h
  obtain ⟨hS, h⟩ := h
  refine wpAny_Call_Name_kw (ld_glob I hg.gl C.mg ?_ hg.dbg)
  refine PySem.W.callWith_K (h₀ := X.base) I.ok.mod.kin C.kp (thn (ha pos pins s σ H _ I h) fun us s1 ⟨vs, H1, I1, r, q⟩ => ⟨I1.kIn, ?_⟩) he hpl
  have hl : (us ++ []).length = ps.length := by rw [List.append_nil, ← r.length]; exact C.ok.len _ _ _ _ q
  have hb := C.bd s1 us I1.kIn hl
  rw [List.append_nil] at hb
  refine wpAny_call (codeAny_mono (C.ok.run X.A X.stack s1 H1 ⟨us, []⟩ us vs Q E hr I1.env0 hb r q) fun r s' hq => ?_)
  cases r with
  | error e => exact hx pins σ H1 s1 e s' hS I1 hq
  | ok fl =>
    cases fl with
    | ret u => exact I1.after hq
    | next => exact False.elim hq
    | brk => exact False.elim hq
    | cont => exact False.elim hq
/-- try: body except x as n: suite -/
def tTry (K : PySem.W.Frag) (C' : Addr) (i : Nat) (tb : (St → Prop) → XK → TS) (ts : TS) : TS := fun D σ H =>
  tb (fun σ1 => σ1 = σ) (fun cls _ H' => PySem.W.exmOne K cls (.ref C') = some true ∧ ∀ e, H' e = none →
    ts { nx := fun σ2 H2 => D.nx (σ2.set i none) H2, rt := D.rt, bk := fun σ2 H2 => D.bk (σ2.set i none) H2, ct := fun σ2 H2 => D.ct (σ2.set i none) H2 } (σ.set i (some (.ref e))) (upd H' e (ErrH e cls))) D σ H
theorem ps_try {x n : Str} {C' : Addr} {i : Nat} {np pos hpos : Pos} {body : List Stmt} {b₀ : Stmt} {suite : List Stmt} {tb : (St → Prop) → XK → TS} {ts : TS} (hst : X.stack = X.env :: X.outer) (hex : X.ex = []) (hfr : X.env.frame = some X.env.locals)
    (hb : ∀ (pn' : List (Addr × Obj)) (xe' : Value → Shared → Prop) (S : St → Prop) (E : XK), PassesS (CXF X.prog X.w) (X.pnx pn' xe') S E → PSs (X.pnx pn' xe') body (tb S E))
    (hx : GN X.env.scope x) (hm : X.mg x = some (.ref C')) (hN : X.N.Nodup) (hi : X.N[i]? = some n) (hk : X.env.scope.names.lookup n = some .local) (hsu : ∀ e : Addr, PSs (X.mkd e) (b₀ :: suite) ts) :
    PS X (.Try body [.ExceptHandler (some (.Name x np)) (some n) (b₀ :: suite) hpos] [] [] pos) (tTry X.K C' i tb ts) := by
  intro pins s σ H D I h
  refine wpAny_Try_except ?_
  refine wpAny_mono (hb (X.pn ++ pins) (fun e' s' => ∃ H1 s1 e cls a0 H', e' = .ref e ∧ Inv X pins σ H1 s1 ∧ Fly X.prog X.w X.stack H1 s1 e cls a0 H' s' ∧ PySem.W.exmOne X.K cls (.ref C') = some true ∧ ∀ e, H' e = none →
    ts { nx := fun σ2 H2 => D.nx (σ2.set i none) H2, rt := D.rt, bk := fun σ2 H2 => D.bk (σ2.set i none) H2, ct := fun σ2 H2 => D.ct (σ2.set i none) H2 } (σ.set i (some (.ref e))) (upd H' e (ErrH e cls)))
    (fun σ1 => σ1 = σ) _ (fun pins1 σ1 H1 s1 e' s' hS I1 hx => ?_) [] s σ H D I.pnx h) (fun fl s1 q => ?_) (fun e' s' wx => ?_)
  · subst hS
    obtain ⟨e, cls, a0, H', rfl, F, q⟩ := hx
    exact ⟨H1, s1, e, cls, a0, H', rfl, I1.unpnx I.ok, F, q⟩
  · cases fl with
    | next => obtain ⟨σ', H', J, q⟩ := q; exact wpAny_execs_nil ⟨σ', H', J.unpnx I.ok, q⟩
    | brk => obtain ⟨σ', H', J, q⟩ := q; exact ⟨σ', H', J.unpnx I.ok, q⟩
    | cont => obtain ⟨σ', H', J, q⟩ := q; exact ⟨σ', H', J.unpnx I.ok, q⟩
    | ret u => obtain ⟨v, σ', H', J, r, q⟩ := q; exact ⟨v, σ', H', J.unpnx I.ok, r, q⟩
  obtain ⟨H1, s1, e, cls, a0, H', rfl, I1, F, hxm, q⟩ := wx
  obtain ⟨B, fl, cov⟩ := F.fly
  have ff : ∀ b ∈ frs X.stack, ∃ o, s'.heap.get? b = some o ∧ ∀ vs, o.data ≠ .fields vs := fun b hb => (fl.2.2.1.mem (b := b) hb).2
  have go : ∀ h'', Heap.FlyingW B X.stack e cls a0 h'' → s'.heap.UpToSlots h'' → Inv X pins σ H' { s' with heap := h'' } := fun h'' f u => by
    have G : Fly X.prog X.w X.stack H1 s1 e cls a0 H' { s' with heap := h'' } := Fly.on F.os F.bare F.un F.hok F.frf cov f ff u
    obtain ⟨hh, g, d, t, os'⟩ := s'
    obtain rfl : os' = s1.os := G.os
    show Inv X pins σ H' { s1 with heap := h'', gens := g, drawn := d, toks := t }
    exact I1.call (h' := h'') (g' := g) (d' := d) (t' := t) (ch := []) G.un G.hok G.bare (fun b z => absurd z (by simp))
  have hfrm : X.A.frames = some (X.env :: X.outer) := by rw [← hst]; exact I.ok.frames
  -- the error is new
  have e1 : s1.heap.get? e = none := by
    cases z : s1.heap.get? e with
    | none => rfl
    | some o =>
      obtain ⟨o', eo⟩ := F.un.there e o z (by simp)
      obtain ⟨oe, vs, hoe, _, hd, _⟩ := fl.first
      have ne : e ∉ frs X.stack := fun m => by
        obtain ⟨o2, e2, d2⟩ := ff e m
        rw [hoe] at e2; cases e2
        exact d2 vs hd
      have := cov e o' eo ne (.inl (by rw [z]; simp))
      rw [fl.2.1] at this; cases this
  have e0 : X.s₀.heap.get? e = none := by
    cases z : X.s₀.heap.get? e with
    | none => rfl
    | some o =>
      obtain ⟨o', eo⟩ := I1.base.there e o z (by rw [hex]; simp)
      rw [e1] at eo; cases eo
  rw [hst] at fl
  refine wpAny_looks_onW hfrm hfr fl fun h4 held up4 => ?_
  refine wpAny_landsW held fun h5 fl5 up5 => ?_
  have J5 := go h5 (by rw [hst]; exact fl5) (up4.trans up5)
  refine wpAny_handleBy_cons (codeAny_handlers_test ?_) (by intro z; cases z)
  refine ld_glob (X := X.mkd e) (J5.mkd e) hx.gl hm ?_ hx.dbg
  obtain ⟨ob, hob, hobc⟩ := fl5.there
  have LT : PySem.W.Looks (model X.prog X.w) h5 (typeOf (.ref e)) cls := hobc ▸ (PySem.W.Looks.ld hob).andThen .now
  refine (PySem.W.exm_one (J5.kIn) LT hxm).here ?_
  show codeAny _ _ _ _ _
  refine codeAny_handlers_suite_as ?_
  refine lands_againW fl5 fun h6 fl6 up6 => ?_
  have J6 := go h6 (by rw [hst]; exact fl6) ((up4.trans up5).trans up6)
  have hp : H' e = none := by
    cases z : H' e with
    | none => rfl
    | some o =>
      obtain ⟨o', eo⟩ := (F.hok e o z).there
      obtain ⟨oe, vs, hoe, _, hd, _⟩ := fl.first
      have ne : e ∉ frs X.stack := fun m => by rw [F.frf e m] at z; cases z
      have := cov e o' eo ne (.inr (by rw [z]; simp))
      rw [fl.2.1] at this; cases this
  have K6 : Inv X pins σ (upd H' e (ErrH e cls)) { s' with heap := h6 } := by
    obtain ⟨ob6, hob6, hobc6⟩ := fl6.there
    refine J6.trackN hp ⟨⟨ob6, hob6, hobc6⟩, ⟨ob6, hob6⟩, fun h1 h2 ⟨o1, y1, y2⟩ k => ⟨o1, k _ y1, y2⟩⟩ e0 (fun z => ?_) (fun y c ec z => ?_) (fun p hp z => ?_)
    · obtain ⟨m, hn, _⟩ := I1.loc
      rw [z] at e1
      obtain ⟨o, _, _, ho, _⟩ := hn
      rw [e1] at ho; cases ho
    · obtain ⟨v, o, ho, _⟩ := I1.cell y c ec
      rw [z, e1] at ho; cases ho
    · have := (I1.pin p hp).1
      rw [z, e1] at this; cases this
  refine store_ok2 (X := X.mkd e) (K6.mkd e) hN hi (.inl hk) (v := .ref e) rfl (fun s7 J7 _ => ?_) (.inr hk)
  refine wpAny_mono (hsu e pins s7 _ _ _ J7 (q e hp)) (fun f s8 q8 => ?_) (fun _ _ z => z.elim)
  cases f with
  | next =>
    obtain ⟨σ', H8, J, qd⟩ := q8
    exact goes_ok (J.unmkd I.ok) hN hi hk fun s9 J9 => ⟨_, _, J9, qd⟩
  | brk =>
    obtain ⟨σ', H8, J, qd⟩ := q8
    exact goes_ok (J.unmkd I.ok) hN hi hk fun s9 J9 => ⟨_, _, J9, qd⟩
  | cont =>
    obtain ⟨σ', H8, J, qd⟩ := q8
    exact goes_ok (J.unmkd I.ok) hN hi hk fun s9 J9 => ⟨_, _, J9, qd⟩
  | ret u =>
    obtain ⟨v, σ', H8, J, r, qd⟩ := q8
    exact goes_ok (J.unmkd I.ok) hN hi hk fun s9 J9 => ⟨v, _, _, J9, r, qd⟩
end
end L2

set_option linter.all false
set_option maxRecDepth 100000
namespace L2
open PySem PySem.Spec PyProof.Rows
/-! ### isinstance of an error, where the answer is True -/
section
open PySem.W
theorem err_yes {K : Frag} {x t c : Value} {T : Heap → Prop} (ty : ∀ (M : Model) (h : Heap), T h → Looks M h (typeOf x) t) (e : kitOne K t c = some true) : Answers (fun s => K.In s.heap ∧ T s.heap) x c true := by
  rintro dep tk prog w A R ⟨h0, g, d, tt, os⟩ ⟨⟨X, p⟩, hq⟩
  have LT := ty (model prog w) h0 p
  by_cases q : (t == c) = true <;> (unfold kitOne at e; unfold Builtin.«isinstance.nested»; refine wpAny_bind (LT.at ?_))
  · rw [if_pos q]
    first | ((repeat lk); exact hq tt) | exact wpAny_bind (wpAny_rule (wpAny_pure (hq tt)))
  · rw [if_neg q] at e ⊢
    have k3 := kit_cls (M := model prog w) X e
    refine wpAny_bind (k3.1.at ?_)
    rw [if_pos (by decide)]
    k_delta "plainIsInstance"
    refine wpAny_bind (wpAny_bind (k3.2.1.at ?_))
    simp only [Bool.not_true, Bool.false_eq_true, if_false]
    refine wpAny_bind ((show Looks (model prog w) h0 (isInstance x c) true from LT.andThen k3.2.2).at ?_)
    first | exact wpAny_pure (wpAny_pure (hq tt)) | (simp only [if_true]; first | exact wpAny_pure (wpAny_pure (hq tt)) | exact wpAny_pure (hq tt))
end
section
variable {X : Cx}
/-- a class as a value: a built-in one, or the own one at C -/
def ClsV (y : V) (c : Value) : Prop := (∃ n, y = .ty n ∧ c = .type n) ∨ ∃ C, y = .ref C ∧ c = .ref C
def rIsiE (K : PySem.W.Frag) : List V → Hp → VK → Prop := fun xs H Q => ∃ e cls y c, xs = [.ref e, y] ∧ H e = some (ErrH e cls) ∧ ClsV y c ∧ PySem.W.kitOne K cls c = some true ∧ Q (.bl true) H
theorem call_isiE : CallR X (.builtin "isinstance") (rIsiE X.K) := by
  intro pins s σ H xs us Q I r h
  obtain ⟨e, cls, y, c, rfl, he, hy, hk, q⟩ := h
  obtain ⟨u, w', rfl, ru, rw'⟩ := vals2 r
  cases (show u = Value.ref e from ru)
  have hc : w' = c := by
    rcases hy with ⟨n, rfl, rfl⟩ | ⟨C, rfl, rfl⟩
    · exact rw'
    · exact rw'
  subst hc
  obtain ⟨⟨ob, h1, h2⟩, _, _⟩ := I.hok e _ he
  have ty : ∀ (M : Model) (h : Heap), (∃ ob, h.get? e = some ob ∧ ob.cls = cls) → PySem.W.Looks M h (typeOf (.ref e)) cls := fun M h ⟨o, a, b⟩ => b ▸ (PySem.W.Looks.ld a).andThen .now
  exact call_isinstance (S := fun _ R s => (X.K.In s.heap ∧ ∃ ob, s.heap.get? e = some ob ∧ ob.cls = cls) ∧ ∀ tk, R (.ok (.ret (.bool true))) { s with toks := tk })
    (fun prog w A R s hs => isinstance_outer (err_yes ty hk 0 _ prog w A R s hs) (fun z => nomatch z)) ⟨⟨I.kIn, ob, h1, h2⟩, fun tk => ⟨.bl true, H, I.tok tk, rfl, q⟩⟩
end
section
variable {P : Program} {w : World} {K : PySem.W.Frag} {mg : Str → Option Value} {base : Heap}
/-- a def that may raise, by its body -/
theorem Fun.okF {x qual : Str} {st : Stmt} {f : Addr} {fd : FuncData} {N ps : List Str} {k : Nat} {sp : Sp} (F : Fun K x qual st f fd) (S : FnScope N ps (defScope st)) (len : ∀ vs H Q E, sp vs H Q E → vs.length = ps.length)
    (hbody : ∀ (cdv : Value) (A : Around) (outer : List Env) (s : Shared) (H : Hp) (vs : List V) (Q : VK) (E : XK), Room k (A.deeper (envOfC qual (defScope st) s.heap.objs.size f cdv)) → sp vs H Q E →
      ∃ t, PSs (cxOf (CXF P w) P w K mg base N qual (defScope st) f cdv A outer s H E) (defBody st) t ∧ t { nx := fun _ H' => Q .non H', rt := Q } (start N vs) H) : FnOk P w K mg base (CXF P w) (k + 1) f fd ps sp := by
  obtain ⟨oc, od, kV, doc, pm, an, cdv, ct, osl, rfl, lk, hcd⟩ := F.ex
  exact fn_of lk hcd S len fun A outer s H vs Q E hr hsp => hbody cdv A outer s H vs Q E hr hsp
/-- one that never raises may be called where others do -/
theorem FnOk.calmF {f : Addr} {fd : FuncData} {ps : List Str} {k : Nat} {sp : Sp} (F : FnOk P w K mg base CX0 k f fd ps sp) : FnOk P w K mg base (CXF P w) k f fd ps sp :=
  ⟨F.len, fun A outer s H args us vs Q E hr e0 hb r hs => codeAny_mono (F.run A outer s H args us vs Q E hr e0 hb r hs) fun res s' h => by
    cases res with
    | ok fl => cases fl <;> exact h
    | error e => exact (show False from h).elim⟩
end
end L2

set_option linter.all false
set_option maxRecDepth 100000
namespace LS
open PySem L2
/-! ### formulas, sheets, what the laws' own defs promise -/
def val (ns : List Int) (k : Int) : Int := if k < 0 then 0 else ns.getD k.toNat 0
inductive Fm where
  | num (n : Int) | sum (i j : Int) | less (i j : Int) | most (i j : Int) | pick (i j k : Int)
instance : Inhabited Fm := ⟨.num 0⟩
def Fm.v : Fm → List V
  | .num n => [.str "number", .int n]
  | .sum i j => [.str "sum", .int i, .int j]
  | .less i j => [.str "less", .int i, .int j]
  | .most i j => [.str "most", .int i, .int j]
  | .pick i j k => [.str "pick", .int i, .int j, .int k]
def Fm.wd : Fm → Str
  | .num _ => "number"
  | .sum _ _ => "sum"
  | .less _ _ => "less"
  | .most _ _ => "most"
  | .pick _ _ _ => "pick"
/-- the numbers behind the word -/
def Fm.rest : Fm → List Int
  | .num n => [n]
  | .sum i j => [i, j]
  | .less i j => [i, j]
  | .most i j => [i, j]
  | .pick i j k => [i, j, k]
/-- the places that it names -/
def Fm.named : Fm → List Int
  | .num _ => []
  | .sum i j => [i, j]
  | .less i j => [i, j]
  | .most i j => [i, j]
  | .pick i j k => [i, j, k]
def Fm.worth (f : Int → Int) : Fm → Int
  | .num n => n
  | .sum i j => f i + f j
  | .less i j => f i - f j
  | .most i j => if f j > f i then f j else f i
  | .pick i j k => if f i > 0 then f j else f k
theorem Fm.v_eq (φ : Fm) : φ.v = .str φ.wd :: φ.rest.map V.int := by cases φ <;> rfl
theorem Fm.at0 (φ : Fm) : atI φ.v 0 = some (.str φ.wd) := by cases φ <;> exact atI_nat (j := 0) rfl
theorem Fm.len (φ : Fm) : φ.v.length = φ.rest.length + 1 := by rw [φ.v_eq]; simp
theorem Fm.rlen (φ : Fm) : 0 < φ.rest.length ∧ φ.rest.length ≤ 3 := by cases φ <;> simp [Fm.rest]
theorem Fm.nlen (φ : Fm) : φ.named.length ≤ 3 := by cases φ <;> simp [Fm.named]
theorem ifS {a b : Str} {A B : Prop} (h : ¬ a = b) (q : B) : if decide (V.str a = V.str b) = true then A else B := by
  rw [if_neg (by simpa using h)]; exact q
theorem ifE {a : Str} {A B : Prop} (q : A) : if decide (V.str a = V.str a) = true then A else B := by
  rw [if_pos (by simp)]; exact q
theorem atI_mem {xs : List V} {i : Int} (h0 : 0 ≤ i) (h1 : i < xs.length) : ∃ v, v ∈ xs ∧ atI xs i = some v := by
  obtain ⟨j, rfl⟩ : ∃ j : Nat, i = (j : Int) := ⟨i.toNat, by omega⟩
  have hj : j < xs.length := by omega
  exact ⟨xs[j], List.getElem_mem hj, atI_nat (List.getElem?_eq_getElem hj)⟩
theorem cut_to {xs : List V} {n : Nat} : cutV xs none (some (n : Int)) = xs.take n := by
  unfold cutV
  rw [HT.sIx_nat, HT.sIx_none, Nat.sub_zero, List.drop_zero]
  rcases Nat.le_total n xs.length with h | h
  · rw [Nat.min_eq_left h]
  · rw [Nat.min_eq_right h, List.take_of_length_le (Nat.le_refl _), List.take_of_length_le h]
theorem cut_from {xs : List V} {n : Nat} : cutV xs (some (n : Int)) none = xs.drop n := by
  unfold cutV
  rw [HT.sIx_nat, HT.sIx_none]
  rcases Nat.le_total n xs.length with h | h
  · rw [Nat.min_eq_left h, List.take_of_length_le (by rw [List.length_drop]; omega)]
  · rw [Nat.min_eq_right h, List.drop_of_length_le (Nat.le_refl _), List.drop_of_length_le h]; simp
/-- all stays but tables of defs -/
def Keep (H H' : Hp) : Prop := ∀ b o, H b = some o → (∀ ps, o ≠ .tbl ps) → H' b = some o
theorem Keep.refl (H : Hp) : Keep H H := fun _ _ h _ => h
theorem Keep.trans {H H1 H2 : Hp} (a : Keep H H1) (b : Keep H1 H2) : Keep H H2 := fun c o h n => b c o (a c o h n) n
theorem Keep.of {H H' : Hp} (s : Same H H') : Keep H H' := fun b o h _ => s b o h
theorem Keep.seq {K : PySem.W.Frag} {H H' : Hp} {a : Addr} {xs : List V} (e : Keep H H') (h : SqL K H a xs) : SqL K H' a xs := by
  rcases h with (h | ⟨o, h⟩) | h
  · exact .inl (.inl (e _ _ h (fun _ z => by cases z)))
  · exact .inl (.inr ⟨o, e _ _ h (fun _ z => by cases z)⟩)
  · exact .inr h
theorem Keep.seqT {K : PySem.W.Frag} {H H' : Hp} {a : Addr} {xs : List V} (e : Keep H H') (h : SqT K H a xs) : SqT K H' a xs := by
  rcases h with (h | ⟨o, h⟩) | h
  · exact .inl (.inl (e _ _ h (fun _ z => by cases z)))
  · exact .inl (.inr ⟨o, e _ _ h (fun _ z => by cases z)⟩)
  · exact .inr h
/-- the formulas of a sheet, at rs -/
def Sh (H : Hp) (rs : List Addr) (φs : List Fm) : Prop := rs.length = φs.length ∧ ∀ (i : Nat) r φ, rs[i]? = some r → φs[i]? = some φ → H r = some (.tup φ.v)
theorem Sh.keep {H H' : Hp} {rs : List Addr} {φs : List Fm} (h : Sh H rs φs) (k : Keep H H') : Sh H' rs φs := ⟨h.1, fun i r φ a b => k _ _ (h.2 i r φ a b) (fun _ z => by cases z)⟩
theorem Sh.same {H H' : Hp} {rs : List Addr} {φs : List Fm} (h : Sh H rs φs) (k : Same H H') : Sh H' rs φs := h.keep (.of k)
theorem Sh.nth {H : Hp} {rs : List Addr} {φs : List Fm} (h : Sh H rs φs) {i : Nat} (hi : i < φs.length) : ∃ r, rs[i]? = some r ∧ atI (rs.map V.ref) (i : Int) = some (.ref r) ∧ H r = some (.tup (φs.getD i default).v) := by
  have h1 : i < rs.length := by rw [h.1]; exact hi
  refine ⟨rs[i], List.getElem?_eq_getElem h1, atI_nat (by rw [List.getElem?_map, List.getElem?_eq_getElem h1]; rfl), h.2 i _ _ (List.getElem?_eq_getElem h1) ?_⟩
  rw [List.getD_eq_getElem?_getD, List.getElem?_eq_getElem hi]; rfl
structure Txt (mg : Str → Option Value) : Prop where
  len : mg "len" = none
  max : mg "max" = none
  isi : mg "isinstance" = none
  int : mg "int" = none
  bool : mg "bool" = none
  list : mg "list" = none
  rng : mg "range" = none
  rev : mg "reversed" = none
  str : mg "str" = none
  tup : mg "tuple" = none
  srt : mg "sorted" = none
  set : mg "set" = none
  ver : mg "ValueError" = none
def spWhole : Sp := fun vs H Q _ => ∃ k : Int, vs = [.int k] ∧ Q (.bl true) H
def spAt (K : PySem.W.Frag) : Sp := fun vs H Q _ => ∃ (a : Addr) (ns : List Int) (k : Int), vs = [.ref a, .int k] ∧ SqL K H a (ns.map V.int) ∧ 0 ≤ k ∧ Q (.int (ns.getD k.toNat 0)) H
def spDraw : Sp := fun vs H Q _ => ∃ n p m : Int, vs = [.int n, .int p, .int m] ∧ 0 < p ∧ 0 < m ∧ Q (.int (n * 48271 % p % m)) H
/-- some formula -/
def spFormulaOf : Sp := fun vs H Q _ => ∃ (c k w : Int) (b : Bool), vs = [.int c, .int k, .int w, .bl b] ∧ ∀ (r : Addr) (φ : Fm) (H' : Hp), Same H H' → H' r = some (.tup φ.v) → Q (.ref r) H'
/-- some sheet of as many cells -/
def spSheetOf (K : PySem.W.Frag) : Sp := fun vs H Q _ => ∃ (a : Addr) (ns : List Int) (t : Int), vs = [.ref a, .int t] ∧ SqL K H a (ns.map V.int) ∧ ns.length ≤ 100 ∧
  ∀ (l : Addr) (rs : List Addr) (φs : List Fm) (H' : Hp), Same H H' → H' l = some (.lst (rs.map V.ref)) → φs.length = ns.length → Sh H' rs φs → Q (.ref l) H'
def spNamed (K : PySem.W.Frag) : Sp := fun vs H Q _ => ∃ (r : Addr) (φ : Fm), vs = [.ref r] ∧ SqT K H r φ.v ∧ ∀ (l : Addr) (H' : Hp), Same H H' → H' l = some (.lst (φ.named.map V.int)) → Q (.ref l) H'
def spStays (K : PySem.W.Frag) : Sp := fun vs H Q _ => ∃ (a b : Addr) (rs : List Addr) (φs : List Fm), vs = [.ref a, .ref b] ∧ H a = some (.lst (rs.map V.ref)) ∧ SqL K H b (rs.map V.ref) ∧ Sh H rs φs ∧ φs.length ≤ 100 ∧ Q (.bl true) H
theorem relab_keep {env : Env} {x : Str} {k : NameKind} (hk : k ≠ .free) : ∀ {l : List (Str × NameKind)}, l.lookup x = some k →
    (l.map fun (n, k) => if (k == NameKind.free && env.scope.kind == .function && env.kindOf n == some .cell) then (n, NameKind.cell) else (n, k)).lookup x = some k
  | [], h => by simp at h
  | (n, k') :: r, h => by
    have ih := @relab_keep env x k hk r
    rw [List.map_cons]
    by_cases e : (x == n) = true
    · rw [List.lookup_cons, e] at h
      have hkk : k' = k := Option.some.inj h
      subst hkk
      have hc : (k' == NameKind.free && env.scope.kind == .function && env.kindOf n == some .cell) = false := by
        have : (k' == NameKind.free) = false := by cases k' <;> first | rfl | exact absurd rfl hk
        rw [this]; rfl
      simp only [hc, Bool.false_eq_true, if_false, List.lookup_cons, e]
    · have e' : (x == n) = false := by simpa using e
      rw [List.lookup_cons, e'] at h
      by_cases c : (k' == NameKind.free && env.scope.kind == .function && env.kindOf n == some .cell) = true
      · simp only [c, if_true, List.lookup_cons, e']; exact ih h
      · have c' : (k' == NameKind.free && env.scope.kind == .function && env.kindOf n == some .cell) = false := by simpa using c
        simp only [c', Bool.false_eq_true, if_false, List.lookup_cons, e']; exact ih h
/-- a global name in a comprehension's block -/
theorem gn_comp {X : Cx} {C : Addr} {s₀ : Shared} {H₀ : Hp} {fp : List Addr} {N' : List Str} {sc : Scope} {x : Str} (h : sc.names.lookup x = some .globalImplicit) (h1 : x ≠ "__name__") (h2 : (x == ("__debug__" : Str)) = false) : GN (X.comp N' sc C s₀ H₀ fp).env.scope x := ⟨relab_keep (env := X.env) (by decide) h, h1, h2⟩
theorem vis_loc {X : Cx} {C : Addr} {s₀ : Shared} {H₀ : Hp} {fp : List Addr} {N' : List Str} {sc : Scope} {x : Str} (h : sc.names.lookup x = some .local) : Vis (X.comp N' sc C s₀ H₀ fp).env.scope x := .inl (lookup_relabel_local (env := X.env) h)
theorem vis_free {X : Cx} {C : Addr} {s₀ : Shared} {H₀ : Hp} {fp : List Addr} {N' : List Str} {sc : Scope} {x : Str} (h : sc.names.lookup x = some .free) : Vis (X.comp N' sc C s₀ H₀ fp).env.scope x := .inr (CmpC.relab_free (env := X.env) (l := sc.names) h)
theorem Fm.atR (φ : Fm) {j : Nat} (h1 : 1 ≤ j) (h2 : j < φ.v.length) : ∃ x, atI φ.v (j : Int) = some (.int x) := by
  obtain ⟨i, rfl⟩ : ∃ i, j = i + 1 := ⟨j - 1, by omega⟩
  rw [φ.len] at h2
  refine ⟨φ.rest[i]'(by omega), atI_nat ?_⟩
  rw [φ.v_eq, List.getElem?_cons_succ, List.getElem?_map, List.getElem?_eq_getElem (by omega)]; rfl
/-- a cell leans on one of the sheet that is not in ks -/
def heldB (ks : List Int) (φs : List Fm) (p : Nat) : Bool := (φs.getD p default).named.any fun x => decide (0 ≤ x ∧ x < (φs.length : Int)) && !ks.contains x
theorem inV_int (x : Int) (ks : List Int) : inV (.int x) (ks.map V.int) = ks.contains x := by
  unfold inV
  rw [List.any_map]
  induction ks with
  | nil => rfl
  | cons y r ih =>
    rw [List.any_cons, ih, List.contains_cons]
    congr 1
    show (y == x) = (x == y)
    exact Bool.eq_iff_iff.mpr ⟨fun h => beq_iff_eq.mpr (beq_iff_eq.mp h).symm, fun h => beq_iff_eq.mpr (beq_iff_eq.mp h).symm⟩
theorem flat_ints (ks : List Int) : (ks.map V.int).all flatV = true := by simp [List.all_map, flatV]
structure GoodOrder (ks : List Int) (φs : List Fm) : Prop where
  each : ∀ (i : Nat) x, ks[i]? = some x → (ks.take i).contains x = false ∧ 0 ≤ x ∧ x < (φs.length : Int) ∧ heldB (ks.take i) φs x.toNat = false
  left : ∀ p : Nat, p < φs.length → ks.contains (p : Int) = false → heldB ks φs p = true
def spHeld (K : PySem.W.Frag) : Sp := fun vs H Q _ => ∃ (b a : Addr) (ks : List Int) (rs : List Addr) (φs : List Fm) (p : Nat), vs = [.ref b, .ref a, .int (p : Int)] ∧ SqL K H b (ks.map V.int) ∧ SqL K H a (rs.map V.ref) ∧ Sh H rs φs ∧ p < φs.length ∧ φs.length ≤ 100 ∧ ∀ H', Same H H' → Q (.bl (heldB ks φs p)) H'
def spGoodOrder (K : PySem.W.Frag) : Sp := fun vs H Q _ => ∃ (b a : Addr) (ks : List Int) (rs : List Addr) (φs : List Fm), vs = [.ref b, .ref a] ∧ H b = some (.lst (ks.map V.int)) ∧ SqL K H a (rs.map V.ref) ∧ Sh H rs φs ∧ φs.length ≤ 100 ∧ ks.length ≤ 100 ∧ GoodOrder ks φs ∧ ∀ H', Same H H' → Q (.bl true) H'
theorem take_any {α : Type} {p : α → Bool} {xs : List α} {i : Nat} {y : α} (h : (xs.take i).any p = false) (e : xs[i]? = some y) (f : p y = false) : (xs.take (i + 1)).any p = false := by
  rw [List.take_succ, e, List.any_append, h]
  show (false || ([y].any p)) = false
  simp [f]
theorem any_of {α : Type} {p : α → Bool} {xs : List α} {i : Nat} {y : α} (e : xs[i]? = some y) (f : p y = true) : xs.any p = true := List.any_eq_true.mpr ⟨y, List.mem_of_getElem? e, f⟩
def spOrder (K : PySem.W.Frag) : Sp := fun vs H Q _ => ∃ (a : Addr) (rs : List Addr) (φs : List Fm), vs = [.ref a] ∧ H a = some (.lst (rs.map V.ref)) ∧ Sh H rs φs ∧ φs.length ≤ 100 ∧
  ∀ (l : Addr) (ks : List Int) (H' : Hp), Keep H H' → H' l = some (.lst (ks.map V.int)) → ks.length ≤ 100 → GoodOrder ks φs → Q (.ref l) H'
def spLaw (K : PySem.W.Frag) : Sp := fun vs H Q _ => ∃ (a : Addr) (ns : List Int), vs = [.ref a] ∧ SqL K H a (ns.map V.int) ∧ ns.length ≤ 63 ∧ ∀ H', Q (.bl true) H'
end LS

namespace LS
/-! ### orders and reaches, over any leaning of n cells -/
section
variable (n : Nat) (ln : Nat → Nat → Bool)
/-- what the cell at p leans on -/
def lsOf (p : Nat) : List Nat := (List.range n).filter fun x => ln p x
/-- what leans on the cell at x -/
def rsOf (x : Nat) : List Nat := (List.range n).filter fun p => ln p x
/-- how many of those that p leans on are not in S -/
def cnt (S : List Nat) (p : Nat) : Nat := (List.range n).countP fun x => ln p x && !S.contains x
end
section
variable {n : Nat} {ln : Nat → Nat → Bool}
theorem ls_nd (p : Nat) : (lsOf n ln p).Nodup := List.nodup_range.filter _
theorem rs_nd (p : Nat) : (rsOf n ln p).Nodup := List.nodup_range.filter _
theorem ls_mem {p x : Nat} : x ∈ lsOf n ln p ↔ x < n ∧ ln p x = true := by simp [lsOf]
theorem rs_mem {p x : Nat} : p ∈ rsOf n ln x ↔ p < n ∧ ln p x = true := by simp [rsOf]
theorem ls_len (p : Nat) : (lsOf n ln p).length = cnt n ln [] p := by simp [lsOf, cnt, List.countP_eq_length_filter]
theorem rs_le (p : Nat) : (rsOf n ln p).length ≤ n := by
  have := List.length_filter_le (fun q => ln q p) (List.range n)
  simpa [rsOf] using this
theorem nd_sub {α : Type} [BEq α] [LawfulBEq α] : ∀ {l m : List α}, l.Nodup → (∀ x ∈ l, x ∈ m) → l.length ≤ m.length
  | [], _, _, _ => Nat.zero_le _
  | x :: r, m, nd, h => by
    rw [List.nodup_cons] at nd
    have hx := h x (.head _)
    have ih := nd_sub (m := m.erase x) nd.2 fun y hy => by
      have hne : y ≠ x := fun z => nd.1 (z ▸ hy)
      exact (List.mem_erase_of_ne hne).mpr (h y (.tail _ hy))
    rw [List.length_erase_of_mem hx] at ih
    have : 0 < m.length := List.length_pos_of_mem hx
    simp only [List.length_cons]; omega
theorem nd_le {l : List Nat} (nd : l.Nodup) (lt : ∀ x ∈ l, x < n) : l.length ≤ n := by
  have := nd_sub (m := List.range n) nd fun x hx => List.mem_range.mpr (lt x hx)
  simpa using this
theorem countP_one {f g : Nat → Bool} {y : Nat} (hf : f y = true) (hg : g y = false) (he : ∀ x, x ≠ y → f x = g x) : ∀ {l : List Nat}, l.Nodup → y ∈ l → l.countP f = l.countP g + 1
  | [], _, h => by simp at h
  | z :: r, nd, h => by
    rw [List.nodup_cons] at nd
    by_cases e : z = y
    · subst e
      have : r.countP f = r.countP g := List.countP_congr fun x hx => by
        rw [he x (fun q => nd.1 (q ▸ hx))]
      simp [List.countP_cons, hf, hg, this]
    · have hy : y ∈ r := by
        rcases List.mem_cons.mp h with q | q
        · exact absurd q.symm e
        · exact q
      have ih := countP_one hf hg he nd.2 hy
      rw [List.countP_cons, List.countP_cons, ih, he z e]
      omega
theorem cnt_snoc {S : List Nat} {p y : Nat} (hy : y < n) (hl : ln p y = true) (hS : y ∉ S) : cnt n ln S p = cnt n ln (S ++ [y]) p + 1 := by
  unfold cnt
  refine countP_one (y := y) ?_ ?_ (fun x hx => ?_) List.nodup_range (List.mem_range.mpr hy)
  · simp [hl, hS]
  · simp
  · simp [hx]
theorem cnt_snoc' {S : List Nat} {p y : Nat} (hl : ln p y = false) : cnt n ln S p = cnt n ln (S ++ [y]) p := by
  unfold cnt
  refine List.countP_congr fun x _ => ?_
  by_cases e : x = y
  · subst e; simp [hl]
  · simp [e]
theorem cnt_zero {S : List Nat} {p : Nat} : cnt n ln S p = 0 ↔ ∀ x, x < n → ln p x = true → x ∈ S := by
  unfold cnt
  rw [List.countP_eq_zero]
  constructor
  · intro h x hx hl
    have := h x (List.mem_range.mpr hx)
    simpa [hl] using this
  · intro h x hx
    have := h x (List.mem_range.mp hx)
    simp
    exact this
/-- a walk: cells found, and how many each waits for -/
structure Kh (n : Nat) (ln : Nat → Nat → Bool) (fd : List Nat) (W : Nat → Nat) : Prop where
  nd : fd.Nodup
  lt : ∀ x ∈ fd, x < n
  zero : ∀ p, p < n → (p ∈ fd ↔ W p = 0)
  ord : ∀ (i p : Nat), fd[i]? = some p → ∀ x, x < n → ln p x = true → x ∈ fd.take i
theorem Kh.start : Kh n ln ((List.range n).filter fun p => cnt n ln [] p == 0) (cnt n ln []) := by
  refine ⟨List.nodup_range.filter _, fun x hx => ?_, fun p hp => ?_, fun i p h x hx hl => ?_⟩
  · simp at hx; exact hx.1
  · simp [hp]
  · have := List.mem_of_getElem? h
    simp at this
    have := cnt_zero.mp this.2 x hx hl
    simp at this
theorem Kh.congr {fd : List Nat} {W W' : Nat → Nat} (h : Kh n ln fd W) (e : ∀ p, p < n → W p = W' p) : Kh n ln fd W' :=
  ⟨h.nd, h.lt, fun p hp => by rw [h.zero p hp, e p hp], h.ord⟩
/-- within a turn: of those that lean on pl, the first j have been told -/
structure Kt (n : Nat) (ln : Nat → Nat → Bool) (fd : List Nat) (W : Nat → Nat) (t pl j : Nat) : Prop where
  kh : Kh n ln fd W
  at' : fd[t]? = some pl
  w : ∀ p, p < n → W p = cnt n ln (if p ∈ (rsOf n ln pl).take j then fd.take (t + 1) else fd.take t) p
theorem filter_one {α : Type} (p : α → Bool) (y : α) : [y].filter p = if p y = true then [y] else [] := by
  cases h : p y <;> simp [h]
theorem take_snoc {l : List Nat} {t x : Nat} (h : l[t]? = some x) : l.take (t + 1) = l.take t ++ [x] := by
  rw [List.take_add_one, h]; rfl
theorem nd_at {l : List Nat} (nd : l.Nodup) {t x : Nat} (h : l[t]? = some x) : x ∉ l.take t := by
  intro m
  obtain ⟨i, hi, e⟩ := List.getElem_of_mem m
  rw [List.length_take] at hi
  obtain ⟨ht, e'⟩ := List.getElem?_eq_some_iff.mp h
  rw [List.getElem_take] at e
  have := (List.getElem_inj nd).mp (e.trans e'.symm)
  omega
theorem Kt.start {fd : List Nat} {W : Nat → Nat} {t pl : Nat} (h : Kh n ln fd W) (w : ∀ p, p < n → W p = cnt n ln (fd.take t) p) (e : fd[t]? = some pl) : Kt n ln fd W t pl 0 :=
  ⟨h, e, fun p hp => by simpa using w p hp⟩
theorem Kt.done {fd : List Nat} {W : Nat → Nat} {t pl : Nat} (h : Kt n ln fd W t pl (rsOf n ln pl).length) : ∀ p, p < n → W p = cnt n ln (fd.take (t + 1)) p := by
  intro p hp
  rw [h.w p hp, List.take_length]
  by_cases c : p ∈ rsOf n ln pl
  · rw [if_pos c]
  · rw [if_neg c, take_snoc h.at']
    refine cnt_snoc' ?_
    cases e : ln p pl with
    | false => rfl
    | true => exact absurd (rs_mem.mpr ⟨hp, e⟩) c
/-- what one of them asks -/
theorem Kt.one {fd : List Nat} {W : Nat → Nat} {t pl j q : Nat} (h : Kt n ln fd W t pl j) (hq : (rsOf n ln pl)[j]? = some q) :
    q < n ∧ q ∉ fd ∧ W q = cnt n ln (fd.take (t + 1)) q + 1 := by
  have m := rs_mem.mp (List.mem_of_getElem? hq)
  have hpl : pl < n := h.kh.lt pl (List.mem_of_getElem? h.at')
  have e : W q = cnt n ln (fd.take (t + 1)) q + 1 := by
    rw [h.w q m.1, if_neg (nd_at (rs_nd _) hq), take_snoc h.at']
    exact cnt_snoc hpl m.2 (nd_at h.kh.nd h.at')
  refine ⟨m.1, fun z => ?_, e⟩
  have := (h.kh.zero q m.1).mp z
  omega
theorem take_app {l m : List Nat} {t : Nat} (h : t ≤ l.length) : (l ++ m).take t = l.take t := by
  rw [List.take_append_of_le_length h]
theorem mem_take_snoc {l : List Nat} {j q p : Nat} (h : l[j]? = some q) : p ∈ l.take (j + 1) ↔ p ∈ l.take j ∨ p = q := by
  rw [take_snoc h]; simp
theorem Kt.skip {fd : List Nat} {W : Nat → Nat} {t pl j q : Nat} (h : Kt n ln fd W t pl j) (hq : (rsOf n ln pl)[j]? = some q) {W' : Nat → Nat} (hW : ∀ p, p < n → W' p = if p = q then W q - 1 else W p) (c : W' q ≠ 0) : Kt n ln fd W' t pl (j + 1) := by
  obtain ⟨h1, h2, h3⟩ := h.one hq
  refine ⟨⟨h.kh.nd, h.kh.lt, fun p hp => ?_, h.kh.ord⟩, h.at', fun p hp => ?_⟩
  · by_cases e : p = q
    · subst e
      exact ⟨fun z => absurd z h2, fun z => absurd z c⟩
    · rw [hW p hp, if_neg e]; exact h.kh.zero p hp
  · by_cases e : p = q
    · subst e
      rw [if_pos ((mem_take_snoc hq).mpr (.inr rfl)), hW p hp, if_pos rfl]; omega
    · rw [hW p hp, if_neg e, h.w p hp]
      by_cases c2 : p ∈ (rsOf n ln pl).take j
      · rw [if_pos c2, if_pos ((mem_take_snoc hq).mpr (.inl c2))]
      · rw [if_neg c2, if_neg (fun z => ((mem_take_snoc hq).mp z).elim c2 e)]
theorem Kt.more {fd : List Nat} {W : Nat → Nat} {t pl j q : Nat} (h : Kt n ln fd W t pl j) (hq : (rsOf n ln pl)[j]? = some q) {W' : Nat → Nat} (hW : ∀ p, p < n → W' p = if p = q then W q - 1 else W p) (c : W' q = 0) : Kt n ln (fd ++ [q]) W' t pl (j + 1) := by
  obtain ⟨h1, h2, h3⟩ := h.one hq
  have htl : t < fd.length := (List.getElem?_eq_some_iff.mp h.at').1
  have c0 : cnt n ln (fd.take (t + 1)) q = 0 := by
    rw [hW q h1, if_pos rfl] at c; omega
  refine ⟨⟨?_, fun x hx => ?_, fun p hp => ?_, fun i p hi x hx hl => ?_⟩, ?_, fun p hp => ?_⟩
  · rw [List.nodup_append]
    refine ⟨h.kh.nd, by simp, fun a ha b hb => ?_⟩
    rw [List.mem_singleton.mp hb]
    exact fun z => h2 (z ▸ ha)
  · rcases List.mem_append.mp hx with z | z
    · exact h.kh.lt x z
    · rw [List.mem_singleton.mp z]; exact h1
  · by_cases e : p = q
    · subst e
      exact ⟨fun _ => c, fun _ => by simp⟩
    · rw [hW p hp, if_neg e, ← h.kh.zero p hp]; simp [e]
  · rcases Nat.lt_or_ge i fd.length with z | z
    · rw [List.getElem?_append_left z] at hi
      rw [take_app (by omega)]
      exact h.kh.ord i p hi x hx hl
    · have hi' : i < (fd ++ [q]).length := (List.getElem?_eq_some_iff.mp hi).1
      simp at hi'
      have ei : i = fd.length := by omega
      subst ei
      simp at hi
      subst hi
      rw [take_app (by omega), List.take_length]
      exact List.mem_of_mem_take (cnt_zero.mp c0 x hx hl)
  · rw [List.getElem?_append_left htl]; exact h.at'
  · rw [take_app (by omega), take_app (by omega)]
    by_cases e : p = q
    · subst e
      rw [if_pos ((mem_take_snoc hq).mpr (.inr rfl)), hW p hp, if_pos rfl]; omega
    · rw [hW p hp, if_neg e, h.w p hp]
      by_cases c2 : p ∈ (rsOf n ln pl).take j
      · rw [if_pos c2, if_pos ((mem_take_snoc hq).mpr (.inl c2))]
      · rw [if_neg c2, if_neg (fun z => ((mem_take_snoc hq).mp z).elim c2 e)]
/-- a reach: what has been found, the first t of it looked through -/
structure Bf (n : Nat) (ln : Nat → Nat → Bool) (p0 : Nat) (fd : List Nat) (t : Nat) : Prop where
  nd : fd.Nodup
  lt : ∀ x ∈ fd, x < n
  hd : fd[0]? = some p0
  each : ∀ (i q : Nat), 0 < i → fd[i]? = some q → ∃ y, y ∈ fd.take i ∧ ln q y = true
  done : ∀ (i y : Nat), i < t → fd[i]? = some y → ∀ q, q < n → ln q y = true → q ∈ fd
theorem Bf.start {p0 : Nat} (h : p0 < n) : Bf n ln p0 [p0] 0 :=
  ⟨by simp, fun x hx => by rw [List.mem_singleton.mp hx]; exact h, rfl, fun i q hi e => by
    have := (List.getElem?_eq_some_iff.mp e).1
    simp at this; omega, fun i y hi => absurd hi (Nat.not_lt_zero _)⟩
theorem Bf.snoc {p0 : Nat} {fd : List Nat} {t q y : Nat} (h : Bf n ln p0 fd t) (hq : q < n) (hy : y ∈ fd) (hl : ln q y = true) (no : q ∉ fd) (ht : t ≤ fd.length) : Bf n ln p0 (fd ++ [q]) t := by
  refine ⟨?_, fun x hx => ?_, ?_, fun i p hi e => ?_, fun i z hi e p hp l => ?_⟩
  · rw [List.nodup_append]
    refine ⟨h.nd, by simp, fun a ha b hb => ?_⟩
    rw [List.mem_singleton.mp hb]
    exact fun z => no (z ▸ ha)
  · rcases List.mem_append.mp hx with z | z
    · exact h.lt x z
    · rw [List.mem_singleton.mp z]; exact hq
  · have := (List.getElem?_eq_some_iff.mp h.hd).1
    rw [List.getElem?_append_left this]; exact h.hd
  · rcases Nat.lt_or_ge i fd.length with z | z
    · rw [List.getElem?_append_left z] at e
      rw [take_app (by omega)]
      exact h.each i p hi e
    · have hi' : i < (fd ++ [q]).length := (List.getElem?_eq_some_iff.mp e).1
      simp at hi'
      have ei : i = fd.length := by omega
      subst ei
      simp at e
      subst e
      rw [take_app (by omega), List.take_length]
      exact ⟨y, hy, hl⟩
  · rcases Nat.lt_or_ge i fd.length with c | c
    · rw [List.getElem?_append_left c] at e
      exact List.mem_append_left _ (h.done i z hi e p hp l)
    · omega
/-- a walk along a ring: the trail, and where it goes next -/
structure Rw (ln : Nat → Nat → Bool) (held tr : List Nat) (pl : Nat) : Prop where
  nd : tr.Nodup
  sub : ∀ x ∈ tr, x ∈ held
  plh : pl ∈ held
  chain : ∀ (i x y : Nat), tr[i]? = some x → (tr ++ [pl])[i + 1]? = some y → ln x y = true
theorem Rw.start {held : List Nat} {pl : Nat} (h : pl ∈ held) : Rw ln held [] pl := ⟨.nil, fun x hx => by simp at hx, h, fun i x y e => by simp at e⟩
theorem Rw.step {held tr : List Nat} {pl q : Nat} (h : Rw ln held tr pl) (no : pl ∉ tr) (hq : q ∈ held) (hl : ln pl q = true) : Rw ln held (tr ++ [pl]) q := by
  refine ⟨?_, fun x hx => ?_, hq, fun i x y e1 e2 => ?_⟩
  · rw [List.nodup_append]
    refine ⟨h.nd, by simp, fun a ha b hb => ?_⟩
    rw [List.mem_singleton.mp hb]
    exact fun z => no (z ▸ ha)
  · rcases List.mem_append.mp hx with z | z
    · exact h.sub x z
    · rw [List.mem_singleton.mp z]; exact h.plh
  · have hi : i < (tr ++ [pl]).length := (List.getElem?_eq_some_iff.mp e1).1
    simp at hi
    rcases Nat.lt_or_ge i tr.length with z | z
    · rw [List.getElem?_append_left z] at e1
      rw [List.getElem?_append_left (by simp; omega)] at e2
      exact h.chain i x y e1 e2
    · have ei : i = tr.length := by omega
      subst ei
      simp at e1
      subst e1
      simp [List.getElem?_append] at e2
      subst e2
      exact hl
theorem Rw.ring {held tr : List Nat} {pl k : Nat} (h : Rw ln held tr pl) (hk : tr[k]? = some pl) :
    (tr.drop k).Nodup ∧ tr.drop k ≠ [] ∧ (∀ x ∈ tr.drop k, x ∈ held) ∧ ∀ (i x : Nat), (tr.drop k)[i]? = some x → ∃ y, (tr.drop k)[(i + 1) % (tr.drop k).length]? = some y ∧ ln x y = true := by
  have hk' : k < tr.length := (List.getElem?_eq_some_iff.mp hk).1
  refine ⟨h.nd.sublist (List.drop_sublist _ _), fun z => ?_, fun x hx => h.sub x (List.mem_of_mem_drop hx), fun i x e => ?_⟩
  · have := congrArg List.length z
    simp at this; omega
  · rw [List.getElem?_drop] at e
    have hi : k + i < tr.length := (List.getElem?_eq_some_iff.mp e).1
    rw [List.length_drop]
    by_cases c : k + i + 1 < tr.length
    · rw [Nat.mod_eq_of_lt (by omega)]
      refine ⟨tr[k + i + 1], ?_, h.chain (k + i) x _ e ?_⟩
      · rw [List.getElem?_drop, ← Nat.add_assoc]; exact List.getElem?_eq_getElem c
      · rw [List.getElem?_append_left c]; exact List.getElem?_eq_getElem c
    · have ei : i + 1 = tr.length - k := by omega
      rw [ei, Nat.mod_self]
      refine ⟨pl, ?_, h.chain (k + i) x _ e ?_⟩
      · rw [List.getElem?_drop]; exact hk
      · have : k + i + 1 = tr.length := by omega
        rw [this]; simp
end
end LS

set_option linter.all false
set_option maxRecDepth 100000
namespace LS
open PySem L2
/-- it names one of ks -/
def meetB (ks : List Int) (φ : Fm) : Bool := φ.named.any fun x => ks.contains x
structure GoodReach (ks : List Int) (φs : List Fm) (p : Int) : Prop where
  some' : ks ≠ []
  each : ∀ (i : Nat) x, ks[i]? = some x → (ks.take i).contains x = false ∧ 0 ≤ x ∧ x < (φs.length : Int) ∧ (i = 0 → x = p) ∧ (0 < i → meetB (ks.take i) (φs.getD x.toNat default) = true)
  left : ∀ k : Nat, k < φs.length → ks.contains (k : Int) = false → meetB ks (φs.getD k default) = false
def spMeets (K : PySem.W.Frag) : Sp := fun vs H Q _ => ∃ (a b : Addr) (ms ks : List Int), vs = [.ref a, .ref b] ∧ SqL K H a (ms.map V.int) ∧ SqL K H b (ks.map V.int) ∧ Q (.bl (ms.any fun x => ks.contains x)) H
def spGoodReach (K : PySem.W.Frag) : Sp := fun vs H Q _ => ∃ (b a : Addr) (ks : List Int) (rs : List Addr) (φs : List Fm) (p : Int), vs = [.ref b, .ref a, .int p] ∧ H b = some (.lst (ks.map V.int)) ∧ SqL K H a (rs.map V.ref) ∧ Sh H rs φs ∧ φs.length ≤ 100 ∧ ks.length ≤ 100 ∧ GoodReach ks φs p ∧ ∀ H', Same H H' → Q (.bl true) H'
/-- CN: the class NoCell -/
def spTouched (CN : Addr) : Sp := fun vs H Q E => ∃ (a : Addr) (rs : List Addr) (φs : List Fm) (p : Int), vs = [.ref a, .int p] ∧ H a = some (.lst (rs.map V.ref)) ∧ Sh H rs φs ∧ φs.length ≤ 100 ∧
  (0 ≤ p → p < φs.length → ∀ (l : Addr) (ks : List Int) (H' : Hp), Keep H H' → H' l = some (.lst (ks.map V.int)) → ks.length ≤ 100 → GoodReach ks φs p → Q (.ref l) H') ∧
  (p < 0 ∨ (φs.length : Int) ≤ p → ∀ H', Keep H H' → E (.ref CN) none H')
def spAnyRef : Sp := fun vs H Q _ => ∃ (a : Addr) (rs : List Addr) (φs : List Fm) (p : Int), vs = [.ref a, .int p] ∧ H a = some (.lst (rs.map V.ref)) ∧ Sh H rs φs ∧ φs.length ≤ 100 ∧ (p < 0 ∨ (φs.length : Int) ≤ p) ∧ ∀ H', Keep H H' → Q (.bl true) H'
theorem boo_ver : bootBuiltins "ValueError" = some (.type "ValueError") := by decide +kernel
theorem keep_err {H H' : Hp} {e : Addr} {o : HO} (k : Keep H H') (he : H' e = none) : Keep H (upd H' e o) := k.trans (.of (Same.upd_new he o))
end LS

set_option linter.all false
set_option maxRecDepth 100000
namespace LS
open PySem L2
theorem mtd_append : typeOf (.builtin "list.append") = pure (.type "method_descriptor") := by kernel_rfl
theorem pl_append {X : Cx} {o e : Expr} {to te : TE} {apos cpos : Pos} (ho : PE X o to) (ha : PE X e te)
    (hbase : attributeBase o ("append" : Str) X.env (eval o X.env) = eval o X.env := by rfl)
    (hs : starEach [e] X.env = [(false, eval e X.env)] := by first | exact st_name | exact st_const | exact st_call | exact st_bin | exact st_sub | exact st_un | exact st_list | exact st_cmp | exact st_tup)
    (hline : (apos.endLine == cpos.line) = true := by rfl) : PE X (.Call (.Attribute o "append" apos) [e] [] cpos) (tBM X.K "list" rAppend to (tCons te tNil)) :=
  pe_bm PySem.F.plainAttrs_list PySem.F.slot_list_append mtd_append mt_append ho (pa_cons ha pa_nil hs) hbase (by rw [hs]; rfl) hline hs rfl
theorem op_neNil {X : Cx} (hu : X.A.units < cLine) : OpR X (compareOp .NotEq) (fun x y H Q => ∃ a b xs, x = .ref a ∧ y = .ref b ∧ SqL X.K H a xs ∧ SqL X.K H b [] ∧ Q (.bl (!decide (xs = []))) H) := by
  intro pins s σ H x y v u Q I rx ry h
  obtain ⟨a, b, xs, rfl, rfl, ha, hb, q⟩ := h
  cases rx
  cases ry
  obtain ⟨its, r1, p1, _⟩ := I.list ha
  obtain ⟨its2, r2, p2, _⟩ := I.list hb
  cases r2
  by_cases e : xs = []
  · subst e
    cases r1
    exact SeqAt.RcNeAt.lists (e := fun _ => true) p1.isList p2.isList rfl hu (fun j h1 _ => absurd h1 (Nat.not_lt_zero _)) _ _ _ _ ⟨.bl false, H, I, rfl, q⟩
  · have hne : its ≠ [] := fun z => by subst z; cases r1; exact e rfl
    rw [decide_eq_false e] at q
    refine SeqAt.RcNeAt.lists_lengths p1.isList p2.isList ?_ hu _ _ _ _ ⟨.bl true, H, I, rfl, q⟩
    cases its with
    | nil => exact absurd rfl hne
    | cons _ _ => rfl
/-- ks is a ring of the sheet -/
structure IsRing (ks : List Int) (φs : List Fm) : Prop where
  some' : ks ≠ []
  each : ∀ (i : Nat) x, ks[i]? = some x → (ks.take i).contains x = false ∧ 0 ≤ x ∧ x < (φs.length : Int)
  next : ∀ (i : Nat) x, ks[i]? = some x → ∃ y, ks[(i + 1) % ks.length]? = some y ∧ (φs.getD x.toNat default).named.contains y = true
def spIsRing (K : PySem.W.Frag) : Sp := fun vs H Q _ => ∃ (b a : Addr) (ks : List Int) (rs : List Addr) (φs : List Fm), vs = [.ref b, .ref a] ∧ H b = some (.lst (ks.map V.int)) ∧ SqL K H a (rs.map V.ref) ∧ Sh H rs φs ∧ φs.length ≤ 100 ∧ ks.length ≤ 100 ∧ IsRing ks φs ∧ ∀ H', Same H H' → Q (.bl true) H'
theorem Sh.set {H H' : Hp} {rs : List Addr} {φs : List Fm} {j : Nat} {r : Addr} {φ : Fm} (sh : Sh H rs φs) (k : ∀ b xs, H b = some (.tup xs) → H' b = some (.tup xs)) (hr : H' r = some (.tup φ.v)) : Sh H' (rs.set j r) (φs.set j φ) := by
  refine ⟨by rw [List.length_set, List.length_set]; exact sh.1, fun i r' φ' h1 h2 => ?_⟩
  rw [List.getElem?_set] at h1 h2
  by_cases c : j = i
  · rw [if_pos c] at h1 h2
    split at h1
    · split at h2
      · cases h1; cases h2; exact hr
      · cases h2
    · cases h1
  · rw [if_neg c] at h1 h2
    exact k _ _ (sh.2 i r' φ' h1 h2)
/-- None is told where each good order has all cells -/
def spRing : Sp := fun vs H Q _ => ∃ (a : Addr) (rs : List Addr) (φs : List Fm), vs = [.ref a] ∧ H a = some (.lst (rs.map V.ref)) ∧ Sh H rs φs ∧ φs.length ≤ 100 ∧
  (∀ H', Keep H H' → (∀ ks, GoodOrder ks φs → ks.length = φs.length) → Q .non H') ∧ (∀ (l : Addr) (ks : List Int) (H' : Hp), Keep H H' → H' l = some (.lst (ks.map V.int)) → ks.length ≤ 100 → IsRing ks φs → Q (.ref l) H')
end LS

namespace L2
open PySem PySem.Spec PyProof.Rows
section
variable {prog : Program} {w : World} {A : Around} {R : Result → Shared → Prop} {s : Shared}
theorem comp_loopI {elt target iter tst : Expr} {scope : Scope} {pos : Pos} {it acc : Value} {env : Env} (I : Nat → Shared → Prop)
    (turn : ∀ n s, I n s → wpAny (model prog w) A (pyNext it) (fun r s₁ => match r with
      | none => R (.ok .next) s₁
      | some v => wpAny (model prog w) A (letOwnedTupleGo target it v) (fun _ s₂ => wpAny (model prog w) A (assign target env v) (fun _ s₃ => wpAny (model prog w) A (isTrue tst env (eval tst env)) (fun ok s₃' => if ok = true then wpAny (model prog w) A (eval elt env) (fun x s₄ =>
          wpAny (model prog w) A (call (.builtin "list.append") [acc, x]) (fun _ s₅ => ∃ m, m < n ∧ I m s₅) (fun _ _ => False) s₄) (fun _ _ => False) s₃' else ∃ m, m < n ∧ I m s₃') (fun _ _ => False) s₃) (fun _ _ => False) s₂) (fun _ _ => False) s₁) (fun _ _ => False) s)
    (n : Nat) (h : I n s) : codeAny (model prog w) A (.compLoop (.ListComp elt [⟨target, iter, [tst], 0⟩] scope pos) 0 it acc env) R s := by
  refine codeAny_loop rfl I (fun n s hI => ?_) n h
  show wpAny _ _ ((compTurn (.ListComp elt [⟨target, iter, [tst], 0⟩] scope pos) 0 it acc env).onRaise (fun x => do noteFrame x env; theTreesLotGoes x)) _ _ s
  refine wpAny_noted ?_
  rw [compTurn_list]
  refine wpAny_bind (wpAny_standAt (wpAny_bind (wpAny_mono (turn n s hI) (fun r s₁ h₁ => ?_) fun _ _ h' => h'.elim)))
  cases r with
  | none => exact wpAny_pure h₁
  | some v =>
    refine wpAny_bind (wpAny_mono h₁ (fun _ s₂ h₂ => ?_) fun _ _ h' => h'.elim)
    refine wpAny_bind (wpAny_mono h₂ (fun _ s₃ h₃ => ?_) fun _ _ h' => h'.elim)
    refine wpAny_bind (wpAny_tests_one (wpAny_mono h₃ (fun ok s₃' h₃' => ?_) fun _ _ h' => h'.elim))
    cases ok with
    | false => exact wpAny_pure ⟨rfl, h₃'⟩
    | true =>
      refine wpAny_bind (wpAny_bind (wpAny_mono h₃' (fun x s₄ h₄ => ?_) fun _ _ h' => h'.elim))
      exact wpAny_bind (wpAny_mono h₄ (fun _ s₅ h₅ => wpAny_pure (wpAny_pure ⟨rfl, h₅⟩)) fun _ _ h' => h'.elim)
end
section
variable {X : Cx} {pins : List (Addr × Obj)} {σ : St} {scope : Scope} {x : Str} {ys : List Str} {ix : List Nat}
/-- the block with a test runs -/
theorem comp_coreI {s₂ : Shared} {H2 : Hp} {elt iter tst : Expr} {px : Pos} {pos : Pos} {te : TE} {tc : TT} {it : Addr} {fp : List Addr} {tn : Nat → Heap → Prop} {J : It} (hc : X.calm = true) (S : CScope X scope x ys ix)
    (he : ∀ (C : Addr) (s₀ : Shared) (H₀ : Hp) (fp : List Addr), PE (X.comp (x :: ys) scope C s₀ H₀ fp) elt te) (ht : ∀ (C : Addr) (s₀ : Shared) (H₀ : Hp) (fp : List Addr), PT (X.comp (x :: ys) scope C s₀ H₀ fp) tst tc)
    (I2 : Inv X pins σ H2 s₂) (T : Turn X.prog X.w X.K (.Name x px) J fp it tn) (st : tn 0 s₂.heap) (f2 : ∀ b ∈ fp, FpOk X pins H2 b) {Qe : Addr → Hp → Prop}
    (hW : ∀ p, H2 p = none → ∃ W : Nat → Nat → List V → Hp → Prop, (∃ m, W 0 m [] (upd H2 p (.lst []))) ∧ ∀ i m zs H, W i m zs H →
      (J.stop i H ∧ Qe p H) ∨ (J.go i H ∧ ∃ N : V → Hp → Prop, (∀ y H'', N y H'' → H'' p = some (.lst zs) ∧ zs.length < sizeLine ∧ ∃ m', m' < m ∧ W (i + 1) m' (zs ++ [y]) (upd H'' p (.lst (zs ++ [y])))) ∧ ∀ v H', J.yld i H v H' → tc (some v :: ix.map fun j => (σ[j]?).join) H' fun b H3 => if b = true then te (some v :: ix.map fun j => (σ[j]?).join) H3 N else ∃ m', m' < m ∧ W (i + 1) m' zs H3))
    {E : Value → Shared → Prop} {RR : Value → Addr → Result → Shared → Prop}
    (hRR : ∀ (p C : Addr) (s' : Shared) (H' : Hp), Inv X pins σ H' s' → FpOk X pins H' C → (∃ m, s'.heap.Ns C m) → Qe p H' → RR (.ref p) C (.ok .next) s') :
    wpAny (model X.prog X.w) X.A (newList []) (fun acc s₃ => wpAny (model X.prog X.w) X.A (newFunctionEnv scope X.env.globals (CmpC.clOf X.env scope.names []) [] X.env.qual none .none (some X.env)) (fun cenv s₄ =>
      codeAny (model X.prog X.w) X.A (.compStart (.ListComp elt [⟨.Name x px, iter, [tst], 0⟩] scope pos) 0 (.ref it) acc { cenv with scope := relabel scope X.env }) (RR acc cenv.locals) s₄) E s₃) E s₂ := by
  obtain ⟨W, ⟨m0, w0⟩, turn⟩ := hW s₂.heap.objs.size I2.fresh
  have I3 : Inv X pins σ (upd H2 s₂.heap.objs.size (.lst [])) { s₂ with heap := s₂.heap.push { cls := .type "list", data := .seq ([] : List Value).toArray } } := I2.lnew (t' := s₂.toks) .nil (Nat.zero_le _)
  refine wpAny_newObj_type (wpAny_newFunctionEnv S.cell (by intro y hy; simp at hy) (fun h₁ hns hsb => ?_) S.kind)
  have hDlt : s₂.heap.objs.size < (s₂.heap.push { cls := .type "list", data := .seq ([] : List Value).toArray }).objs.size := by rw [Heap.size_push]; exact Nat.lt_succ_self _
  have old23 : ∀ b o, s₂.heap.get? b = some o → (s₂.heap.push { cls := .type "list", data := .seq ([] : List Value).toArray }).get? b = some o := fun b o e => Heap.get?_push_of_some _ e
  generalize hp : s₂.heap.objs.size = p at *
  generalize hh3 : s₂.heap.push { cls := .type "list", data := .seq ([] : List Value).toArray } = h3 at *
  have k : ∀ b o, h3.get? b = some o → h₁.get? b = some o := fun b o e => by
    have hb : b ≠ h3.objs.size := Nat.ne_of_lt (Heap.lt_size e)
    exact (hsb.2 b hb).trans (Heap.get?_push_of_some _ e)
  have f3 : ∀ b ∈ fp, FpOk X pins (upd H2 p (.lst [])) b := fun b hb => by
    obtain ⟨o, ho, _⟩ := T.obj _ _ st b hb
    have hbp : b ≠ p := by rw [← hp]; exact Nat.ne_of_lt (Heap.lt_size ho)
    exact ⟨by rw [upd_ne hbp]; exact (f2 b hb).1, (f2 b hb).2⟩
  have lt3 : ∀ b ∈ fp, b < h3.objs.size := fun b hb => by
    obtain ⟨o, ho, _⟩ := T.obj _ _ st b hb
    exact Heap.lt_size (old23 b o ho)
  have I4 := comp_entry S (h₁ := h₁) (tk := s₂.toks + ([] : List (Str × Value)).length) I3 f3 lt3 (by simpa using hns) k
  have st4 : tn 0 h₁ := T.keep _ _ _ st fun b hb o e => k b o (old23 b o e)
  -- what stays of the iterator
  have stat : ∀ {H' : Hp}, (∀ b ∈ fp, H' b = none) → ∀ b ∈ fp, FpOk (X.comp (x :: ys) scope h3.objs.size { s₂ with heap := h3 } (upd H2 p (.lst [])) fp) [] H' b := fun {H'} hn b hb => by
    refine ⟨hn b hb, Nat.ne_of_lt (lt3 b hb), fun hs => ?_, .inl hb, fun y c e => (f3 b hb).2.2.2.2.1 y c (S.sub I2.ok e), fun q hq => by simp at hq⟩
    rcases List.mem_cons.mp (I2.stkSub b hs) with z | z
    · exact (f2 b hb).2.1 z
    · exact (f2 b hb).2.2.1 z
  have hCl : (relabel scope X.env).names.lookup x = some .local := lookup_relabel_local S.var
  have pg : PG (X.comp (x :: ys) scope h3.objs.size { s₂ with heap := h3 } (upd H2 p (.lst [])) fp) (.Name x px) (gName 0) := pg_name S.nd rfl (.inl hCl) (.inr hCl)
  have loop : ∀ s₅ : Shared, s₅ = { s₂ with heap := h₁, toks := s₂.toks + ([] : List (Str × Value)).length } →
      codeAny (model X.prog X.w) X.A (.compLoop (.ListComp elt [⟨.Name x px, iter, [tst], 0⟩] scope pos) 0 (.ref it) (.ref p) (compEnvC scope (CmpC.clOf X.env scope.names []) h3.objs.size X.env)) (RR (.ref p) h3.objs.size) s₅ := by
    rintro s₅ rfl
    refine comp_loopI (fun n s' => ∃ i zs H', Inv (X.comp (x :: ys) scope h3.objs.size { s₂ with heap := h3 } (upd H2 p (.lst [])) fp) [] (inner σ ix) H' s' ∧ tn i s'.heap ∧ (∀ b ∈ fp, H' b = none) ∧ W i n zs H') ?_ m0 ⟨0, [], _, I4, st4, fun b hb => (f3 b hb).1, w0⟩
    rintro n s6 ⟨i, zs, H6, I6, st6, fr6, w6⟩
    rcases turn i n zs H6 w6 with ⟨stop, qe⟩ | ⟨go, N, hN, step⟩
    · refine thn (T.done (X.comp (x :: ys) scope h3.objs.size { s₂ with heap := h3 } (upd H2 p (.lst [])) fp) rfl rfl rfl hc i [] s6 _ H6 _ I6 (stat fr6) st6 stop) fun r s7 ⟨hr, I7⟩ => ?_
      subst hr
      have u27 : Un (frs X.stack) fp H2 H6 s₂.heap s7.heap := by
        refine Un.trans (H1 := upd H2 p (.lst [])) (h1 := h3) (Un.laid old23 (Nat.le_of_eq hp) ?_) I7.base
        rw [← hp]; exact I2.fresh
      have I8 : Inv X pins σ H6 s7 := I2.call' (I7.os) u27 I7.hok I7.bare fun b hb => ⟨(f2 b hb).2.2.2.1, (f2 b hb).2.1, (f2 b hb).2.2.2.2.1, (f2 b hb).2.2.2.2.2⟩
      obtain ⟨m, hm, _⟩ := I7.loc
      exact hRR p h3.objs.size s7 H6 I8 (I2.fpOk (by rw [hp]; exact Nat.le_of_lt hDlt) I7.free) ⟨m, hm⟩ qe
    · refine thn (T.item (X.comp (x :: ys) scope h3.objs.size { s₂ with heap := h3 } (upd H2 p (.lst [])) fp) rfl rfl rfl hc i [] s6 _ H6 _ I6 (stat fr6) st6 go) fun r s7 ⟨u, hr, h7⟩ => ?_
      subst hr
      refine thn h7 fun _ s8 ⟨v, H8, I8, r8, y8, st8, fr8⟩ => ?_
      have I8' := I8.pinned (stat fr8) (T.obj _ _ st8)
      refine thn (pg _ s8 _ H8 v u (fun σ' H' => σ' = some v :: (ix.map fun j => (σ[j]?).join) ∧ H' = H8) I8' r8 ⟨rfl, rfl⟩) fun _ s9 ⟨σ9, H9, I9, e9, e9'⟩ => ?_
      subst e9; subst e9'
      have pinK : ∀ {s' : Shared} {H' : Hp} {σ' : St}, Inv (X.comp (x :: ys) scope h3.objs.size { s₂ with heap := h3 } (upd H2 p (.lst [])) fp) ([] ++ pinsAt fp s8.heap) σ' H' s' → ∀ b ∈ fp, ∀ o, s8.heap.get? b = some o → s'.heap.get? b = some o ∧ H' b = none := fun I' b hb o e => by
        have q := I'.pin (b, o) (List.mem_append_right _ (List.mem_append_right _ (mem_pinsAt hb e)))
        exact ⟨q.1, q.2.1⟩
      refine thn (ht _ _ _ _ _ s9 _ H9 _ I9 (step v H9 y8)) fun bt s9' ⟨H9', I9', q9⟩ => ?_
      cases bt with
      | false =>
        obtain ⟨m', hm', w'⟩ := q9
        refine ⟨m', hm', i + 1, zs, _, (I9'.unpinned).weak (by simp [inner]) (fun j v' e => ?_), T.keep _ _ _ st8 fun b hb o e => (pinK I9' b hb o e).1, fun b hb => ?_, w'⟩
        · cases j with
          | zero => simp [inner] at e
          | succ j => simpa [inner] using e
        · obtain ⟨o, e, _⟩ := T.obj _ _ st8 b hb
          exact (pinK I9' b hb o e).2
      | true =>
      rw [if_pos rfl]
      refine thn (he _ _ _ _ _ s9' _ H9' _ I9' q9) fun yv s10 ⟨y, H10, I10, r10, n10⟩ => ?_
      obtain ⟨hz, hlen, m', hm', w'⟩ := hN y H10 n10
      refine thn (mt_append _ s10 _ H10 (.ref p) [y] (.ref p) [yv] (fun _ H' => H' = upd H10 p (.lst (zs ++ [y]))) I10 rfl (.cons r10 .nil) ⟨p, zs, y, rfl, rfl, hz, hlen, rfl⟩) fun _ s11 ⟨_, H11, I11, _, e11⟩ => ?_
      subst e11
      refine ⟨m', hm', i + 1, zs ++ [y], _, (I11.unpinned).weak (by simp [inner]) (fun j v' e => ?_), T.keep _ _ _ st8 fun b hb o e => (pinK I11 b hb o e).1, fun b hb => ?_, w'⟩
      · cases j with
        | zero => simp [inner] at e
        | succ j => simpa [inner] using e
      · obtain ⟨o, e, _⟩ := T.obj _ _ st8 b hb
        exact (pinK I11 b hb o e).2
  exact codeAny_compStart_list (loop _ rfl) (T.self _ 0 _ _ _ st4 (loop _ rfl))
end
/-- [elt for x in iter if tst]: W by the turn, a measure, the items so far and the heap -/
def tCompI (ix : List Nat) (wi : TI) (tc : TT) (te : TE) : TE := fun σ H Q => wi σ H fun J H1 => ∀ p, H1 p = none → ∃ W : Nat → Nat → List V → Hp → Prop, (∃ m, W 0 m [] (upd H1 p (.lst []))) ∧ ∀ i m zs H', W i m zs H' →
  (J.stop i H' ∧ Q (.ref p) H') ∨ (J.go i H' ∧ ∃ N : V → Hp → Prop, (∀ y H3, N y H3 → H3 p = some (.lst zs) ∧ zs.length < sizeLine ∧ ∃ m', m' < m ∧ W (i + 1) m' (zs ++ [y]) (upd H3 p (.lst (zs ++ [y])))) ∧ ∀ v H2, J.yld i H' v H2 → tc (some v :: ix.map fun j => (σ[j]?).join) H2 fun b H3 => if b = true then te (some v :: ix.map fun j => (σ[j]?).join) H3 N else ∃ m', m' < m ∧ W (i + 1) m' zs H3)
section
variable {X : Cx} {scope : Scope} {x : Str} {ys : List Str} {ix : List Nat} {elt iter tst : Expr} {px pos : Pos} {wi : TI} {te : TE} {tc : TT}
theorem pe_compI (hc : X.calm = true) (S : CScope X scope x ys ix) (hi : PI X (.Name x px) iter wi) (ht : ∀ (C : Addr) (s₀ : Shared) (H₀ : Hp) (fp : List Addr), PT (X.comp (x :: ys) scope C s₀ H₀ fp) tst tc) (he : ∀ (C : Addr) (s₀ : Shared) (H₀ : Hp) (fp : List Addr), PE (X.comp (x :: ys) scope C s₀ H₀ fp) elt te)
    (hs : ∀ v, foldedSetIterable iter X.env v = pure v := by intro _; rfl) : PE X (.ListComp elt [⟨.Name x px, iter, [tst], 0⟩] scope pos) (tCompI ix wi tc te) := by
  intro pins s σ H Q I h
  rw [eval_ListComp]
  refine wpAny_comprehension_free (use := none) rfl hs (CmpC.closure_ok (S.has I.ok)) S.kind S.names (thn (hi pins s σ H _ I h) fun v s1 h1 => thn h1 fun itv s2 h2 => ?_)
  obtain ⟨it, fp, tn, J, H2, rfl, I2, T, st2, f2, hW⟩ := h2
  refine comp_coreI hc S he ht I2 T st2 f2 (Qe := fun p H' => Q (.ref p) H') hW fun p C s' H' I' fC hn q => ?_
  obtain ⟨m, hm⟩ := hn
  refine ⟨m, hm, fun h' hsb => ⟨.ref p, H', ?_, rfl, q⟩⟩
  exact I'.turned (t' := s'.toks) (same_back hsb) fC.1 fC.2.1 fC.2.2.2.1 fC.2.2.2.2.1 fC.2.2.2.2.2
/-- t = [elt for x in iter], t a local on the same row: the store comes ahead of the block's end -/
theorem ps_setCompI {i : Nat} {t : Str} {pos' spos : Pos} (hc : X.calm = true) (S : CScope X scope x ys ix) (hi : PI X (.Name x px) iter wi) (ht : ∀ (C : Addr) (s₀ : Shared) (H₀ : Hp) (fp : List Addr), PT (X.comp (x :: ys) scope C s₀ H₀ fp) tst tc) (he : ∀ (C : Addr) (s₀ : Shared) (H₀ : Hp) (fp : List Addr), PE (X.comp (x :: ys) scope C s₀ H₀ fp) elt te)
    (hN : X.N.Nodup) (hiN : X.N[i]? = some t) (hx : Loc X.env.scope t)
    (hsw : swapsWith (.ListComp elt [⟨.Name x px, iter, [tst], 0⟩] scope pos) (some (.Name t pos')) spos.line X.env = pure true)
    (hs : ∀ v, foldedSetIterable iter X.env v = pure v := by intro _; rfl)
    (hf : X.fn t = true ∨ X.env.scope.names.lookup t = some .local := by first | exact .inl rfl | exact .inr rfl | assumption) :
    PS X (.Assign [.Name t pos'] (.ListComp elt [⟨.Name x px, iter, [tst], 0⟩] scope pos) spos) (tAsg (tCompI ix wi tc te) (gName i)) := by
  intro pins s σ H D I h
  rw [exec_Assign_Name_used _ _ _ _ hsw]
  refine wpAny_bind (wpAny_standAt (wpAny_bind ?_))
  show wpAny _ _ ((comprehension (.ListComp elt [⟨.Name x px, iter, [tst], 0⟩] scope pos) scope X.env (firstIterPos [⟨.Name x px, iter, [tst], 0⟩] pos) (newList []) false (eval iter X.env) (some (assign (.Name t pos') X.env))) >>= fun _ => pure ()) _ _ s
  refine wpAny_bind ?_
  refine wpAny_comprehension_free (use := some (assign (.Name t pos') X.env)) rfl hs (CmpC.closure_ok (S.has I.ok)) S.kind S.names (thn (hi pins s σ H _ I h) fun v s1 h1 => thn h1 fun itv s2 h2 => ?_)
  obtain ⟨it, fp, tn, J, H2, rfl, I2, T, st2, f2, hW⟩ := h2
  refine comp_coreI hc S he ht I2 T st2 f2 hW fun p C s' H' I' fC hn q => ?_
  obtain ⟨m, hm⟩ := hn
  refine wpAny_assign_Name (store_ok2 I' hN hiN hx (v := .ref p) rfl (fun s'' I'' ⟨a, hsa, ha⟩ => ?_) hf)
  have hCa : C ≠ a := by
    rcases ha with z | z
    · rw [z]; exact fC.2.1
    · exact fun e => fC.2.2.2.2.1 t a z e.symm
  refine ⟨m, hm.sameBut hsa hCa, fun h' hsb => ?_⟩
  refine wpAny_pure (wpAny_pure ?_)
  exact ⟨_, H', I''.turned (t' := s''.toks) (same_back hsb) fC.1 fC.2.1 fC.2.2.2.1 fC.2.2.2.2.1 fC.2.2.2.2.2, q⟩
end
/-! ### the forms one uses -/
theorem comp_listI {K : PySem.W.Frag} {a p : Addr} {xs : List V} {te : TE} {tc : TT} {σ' : St} {H1 : Hp} {Q : VK} (Pv : Nat → List V → Hp → Prop) (h0 : Pv 0 [] (upd H1 p (.lst [])))
    (hl : ∀ i zs H, i ≤ xs.length → Pv i zs H → SqL K H a xs)
    (hs : ∀ i v zs H (N : V → Hp → Prop) (S : Hp → Prop), xs[i]? = some v → Pv i zs H → (∀ y H3, H3 p = some (.lst zs) → zs.length < sizeLine → Pv (i + 1) (zs ++ [y]) (upd H3 p (.lst (zs ++ [y]))) → N y H3) → (∀ H3, Pv (i + 1) zs H3 → S H3) → tc (some v :: σ') H fun b H3 => if b = true then te (some v :: σ') H3 N else S H3)
    (hd : ∀ zs H, Pv xs.length zs H → Q (.ref p) H) :
    ∃ W : Nat → Nat → List V → Hp → Prop, (∃ m, W 0 m [] (upd H1 p (.lst []))) ∧ ∀ i m zs H', W i m zs H' →
      ((Itl K a).stop i H' ∧ Q (.ref p) H') ∨ ((Itl K a).go i H' ∧ ∃ N : V → Hp → Prop, (∀ y H3, N y H3 → H3 p = some (.lst zs) ∧ zs.length < sizeLine ∧ ∃ m', m' < m ∧ W (i + 1) m' (zs ++ [y]) (upd H3 p (.lst (zs ++ [y])))) ∧ ∀ v H2, (Itl K a).yld i H' v H2 → tc (some v :: σ') H2 fun b H3 => if b = true then te (some v :: σ') H3 N else ∃ m', m' < m ∧ W (i + 1) m' zs H3) := by
  refine ⟨fun i m zs H => m = xs.length - i ∧ i ≤ xs.length ∧ Pv i zs H, ⟨xs.length, by simp, Nat.zero_le _, h0⟩, ?_⟩
  rintro i m zs H ⟨rfl, hi, pv⟩
  have q := hl i zs H hi pv
  by_cases hlt : i < xs.length
  · refine .inr ⟨⟨xs, xs[i], q, by simp [hlt]⟩, (fun y H3 => H3 p = some (.lst zs) ∧ zs.length < sizeLine ∧ Pv (i + 1) (zs ++ [y]) (upd H3 p (.lst (zs ++ [y])))), fun y H3 n => ⟨n.1, n.2.1, xs.length - (i + 1), by omega, rfl, hlt, n.2.2⟩, fun v H2 y => ?_⟩
    obtain ⟨e, y⟩ := y
    subst e
    exact hs i v zs _ _ _ (y xs q) pv (fun y H3 h1 h2 h3 => ⟨h1, h2, h3⟩) (fun H3 z => ⟨xs.length - (i + 1), by omega, rfl, hlt, z⟩)
  · have e : i = xs.length := by omega
    subst e
    exact .inl ⟨⟨xs, q, Nat.le_refl _⟩, hd zs H pv⟩
theorem comp_rangeI {lo : Int} {n : Nat} {p : Addr} {te : TE} {tc : TT} {σ' : St} {H1 : Hp} {Q : VK} (Pv : Nat → List V → Hp → Prop) (h0 : Pv 0 [] (upd H1 p (.lst [])))
    (hs : ∀ i zs H (N : V → Hp → Prop) (S : Hp → Prop), i < n → Pv i zs H → (∀ y H3, H3 p = some (.lst zs) → zs.length < sizeLine → Pv (i + 1) (zs ++ [y]) (upd H3 p (.lst (zs ++ [y]))) → N y H3) → (∀ H3, Pv (i + 1) zs H3 → S H3) → tc (some (.int (lo + i)) :: σ') H fun b H3 => if b = true then te (some (.int (lo + i)) :: σ') H3 N else S H3)
    (hd : ∀ zs H, Pv n zs H → Q (.ref p) H) :
    ∃ W : Nat → Nat → List V → Hp → Prop, (∃ m, W 0 m [] (upd H1 p (.lst []))) ∧ ∀ i m zs H', W i m zs H' →
      ((Itr lo n).stop i H' ∧ Q (.ref p) H') ∨ ((Itr lo n).go i H' ∧ ∃ N : V → Hp → Prop, (∀ y H3, N y H3 → H3 p = some (.lst zs) ∧ zs.length < sizeLine ∧ ∃ m', m' < m ∧ W (i + 1) m' (zs ++ [y]) (upd H3 p (.lst (zs ++ [y])))) ∧ ∀ v H2, (Itr lo n).yld i H' v H2 → tc (some v :: σ') H2 fun b H3 => if b = true then te (some v :: σ') H3 N else ∃ m', m' < m ∧ W (i + 1) m' zs H3) := by
  refine ⟨fun i m zs H => m = n - i ∧ i ≤ n ∧ Pv i zs H, ⟨n, by simp, Nat.zero_le _, h0⟩, ?_⟩
  rintro i m zs H ⟨rfl, hi, pv⟩
  by_cases hlt : i < n
  · refine .inr ⟨hlt, (fun y H3 => H3 p = some (.lst zs) ∧ zs.length < sizeLine ∧ Pv (i + 1) (zs ++ [y]) (upd H3 p (.lst (zs ++ [y])))), fun y H3 q => ⟨q.1, q.2.1, n - (i + 1), by omega, rfl, hlt, q.2.2⟩, fun v H2 y => ?_⟩
    obtain ⟨e, y⟩ := y
    subst e; subst y
    exact hs i zs _ _ _ hlt pv (fun y H3 h1 h2 h3 => ⟨h1, h2, h3⟩) (fun H3 z => ⟨n - (i + 1), by omega, rfl, hlt, z⟩)
  · have e : i = n := by omega
    subst e
    exact .inl ⟨Nat.le_refl _, hd zs H pv⟩
end L2

set_option linter.all false
set_option maxRecDepth 100000
namespace LS
open PySem L2
/-! ### what the program's own defs promise -/
/-- the cell at p names the place x -/
def lnB (φs : List Fm) (p x : Nat) : Bool := (φs.getD p default).named.contains (x : Int)
def vN (l : List Nat) : List V := l.map fun k : Nat => V.int (k : Int)
def iN (l : List Nat) : List Int := l.map fun k : Nat => (k : Int)
theorem vN_i (l : List Nat) : vN l = (iN l).map V.int := by simp [vN, iN]
theorem vN_len (l : List Nat) : (vN l).length = l.length := by simp [vN]
theorem iN_mem {l : List Nat} {x : Nat} : (iN l).contains (x : Int) = l.contains x := by
  rw [Bool.eq_iff_iff, List.contains_iff_mem, List.contains_iff_mem]
  unfold iN
  rw [List.mem_map]
  exact ⟨fun ⟨y, hy, e⟩ => by rw [← show y = x by omega]; exact hy, fun h => ⟨x, h, rfl⟩⟩
theorem vN_in (x : Nat) (l : List Nat) : inV (.int (x : Int)) (vN l) = l.contains x := by rw [vN_i, inV_int, iN_mem]
theorem vN_flat (l : List Nat) : (vN l).all flatV = true := by rw [vN_i]; exact flat_ints _
theorem vN_snoc (l : List Nat) (x : Nat) : vN l ++ [V.int (x : Int)] = vN (l ++ [x]) := by simp [vN]
theorem vN_at {l : List Nat} {i x : Nat} (h : l[i]? = some x) : atI (vN l) (i : Int) = some (.int (x : Int)) := atI_nat (by unfold vN; rw [List.getElem?_map, h]; rfl)
theorem vN_get {l : List Nat} {i : Nat} {v : V} (h : (vN l)[i]? = some v) : ∃ x, l[i]? = some x ∧ v = .int (x : Int) := by
  unfold vN at h
  rw [List.getElem?_map] at h
  obtain ⟨x, hx, rfl⟩ := Option.map_eq_some_iff.mp h
  exact ⟨x, hx, rfl⟩
/-! the places of a formula, from the least on, each once -/
structure SD (ns ks : List Int) : Prop where
  up : ks.Pairwise (· < ·)
  mem : ∀ x, x ∈ ks ↔ x ∈ ns
theorem sorted_one : ∀ {a b : List Int}, a.Perm b → a.Pairwise (· ≤ ·) → b.Pairwise (· ≤ ·) → a = b := fun p ha hb => p.eq_of_pairwise (fun x y _ _ h1 h2 => by omega) ha hb
theorem up_uniq {ks ks' : List Int} (h : ks.Pairwise (· < ·)) (h' : ks'.Pairwise (· < ·)) (m : ∀ x, x ∈ ks ↔ x ∈ ks') : ks = ks' := by
  have p : ks.Perm ks' := (List.perm_ext_iff_of_nodup (h.imp fun h => by omega) (h'.imp fun h => by omega)).mpr m
  exact sorted_one p (h.imp fun h => by omega) (h'.imp fun h => by omega)
theorem sd_of {ns ks ks' : List Int} (nd : ks.Nodup) (mem : ∀ x, x ∈ ks ↔ x ∈ ns) (pm : ks'.Perm ks) (pw : ks'.Pairwise (· ≤ ·)) : SD ns ks' := by
  refine ⟨?_, fun x => pm.mem_iff.trans (mem x)⟩
  have nd' : ks'.Pairwise (· ≠ ·) := pm.nodup_iff.mpr nd
  exact (List.pairwise_and_iff.mpr ⟨pw, nd'⟩).imp fun h => by omega
/-- off(sheet, ·) leaves of it what lsOf says -/
theorem sd_ls {φs : List Fm} {p : Nat} {ks : List Int} (h : SD (φs.getD p default).named ks) : ks.filter (fun x => !decide (x < 0 ∨ (φs.length : Int) ≤ x)) = iN (lsOf φs.length (lnB φs) p) := by
  refine up_uniq (h.up.filter _) ?_ fun x => ?_
  · unfold iN
    rw [List.pairwise_map]
    exact (List.pairwise_lt_range.filter _).imp fun h => by omega
  · rw [List.mem_filter, h.mem]
    unfold iN
    rw [List.mem_map]
    constructor
    · rintro ⟨h1, h2⟩
      have h2' : ¬ (x < 0 ∨ (φs.length : Int) ≤ x) := by simpa using h2
      refine ⟨x.toNat, ls_mem.mpr ⟨by omega, ?_⟩, by omega⟩
      unfold lnB
      rw [List.contains_iff_mem, show ((x.toNat : Nat) : Int) = x by omega]; exact h1
    · rintro ⟨y, hy, rfl⟩
      have := ls_mem.mp hy
      unfold lnB at this
      rw [List.contains_iff_mem] at this
      refine ⟨this.2, ?_⟩
      simp; omega
def rLenS (K : PySem.W.Frag) : List V → Hp → VK → Prop := fun xs H Q => ∃ p ys, xs = [.ref p] ∧ (SqL K H p ys ∨ SqT K H p ys) ∧ Q (.int ys.length) H
def spOff (K : PySem.W.Frag) : Sp := fun vs H Q _ => ∃ (a : Addr) (xs : List V) (k : Int), vs = [.ref a, .int k] ∧ SqL K H a xs ∧ Q (.bl (decide (k < 0 ∨ (xs.length : Int) ≤ k))) H
def spLeans (K : PySem.W.Frag) : Sp := fun vs H Q _ => ∃ (r : Addr) (φ : Fm), vs = [.ref r] ∧ SqT K H r φ.v ∧ ∀ (l : Addr) (ks : List Int) (H' : Hp), Same H H' → H' l = some (.lst (ks.map V.int)) → SD φ.named ks → Q (.ref l) H'
def spLeaned (K : PySem.W.Frag) : Sp := fun vs H Q _ => ∃ (a : Addr) (rs : List Addr) (φs : List Fm) (p : Nat), vs = [.ref a, .int (p : Int)] ∧ SqL K H a (rs.map V.ref) ∧ Sh H rs φs ∧ p < φs.length ∧ φs.length ≤ 100 ∧
  ∀ (l : Addr) (H' : Hp), Same H H' → H l = none → H' l = some (.lst (vN (lsOf φs.length (lnB φs) p))) → Q (.ref l) H'
/-- a list of lists, all of them new since H0 -/
structure Rows (H0 H : Hp) (l : Addr) (qs : List Addr) (f : Nat → List Nat) : Prop where
  at' : H l = some (.lst (qs.map V.ref))
  new : H0 l = none
  nd : qs.Nodup
  out : l ∉ qs
  each : ∀ (i : Nat) q, qs[i]? = some q → H0 q = none ∧ H q = some (.lst (vN (f i)))
def spLeaners (K : PySem.W.Frag) : Sp := fun vs H Q _ => ∃ (a : Addr) (rs : List Addr) (φs : List Fm), vs = [.ref a] ∧ SqL K H a (rs.map V.ref) ∧ Sh H rs φs ∧ φs.length ≤ 100 ∧
  ∀ (l : Addr) (qs : List Addr) (H' : Hp), Same H H' → qs.length = φs.length → Rows H H' l qs (rsOf φs.length (lnB φs)) → Q (.ref l) H'
/-- order, with all that its walk ends with -/
def spOrderS (K : PySem.W.Frag) : Sp := fun vs H Q _ => ∃ (a : Addr) (rs : List Addr) (φs : List Fm), vs = [.ref a] ∧ H a = some (.lst (rs.map V.ref)) ∧ Sh H rs φs ∧ φs.length ≤ 100 ∧
  ∀ (l : Addr) (fd : List Nat) (W : Nat → Nat) (H' : Hp), Same H H' → H l = none → H' l = some (.lst (vN fd)) → Kh φs.length (lnB φs) fd W → (∀ p, p < φs.length → W p = cnt φs.length (lnB φs) fd p) → Q (.ref l) H'
/-- what the walk ends with is an order -/
theorem good_of {φs : List Fm} {fd : List Nat} {W : Nat → Nat} (k : Kh φs.length (lnB φs) fd W) (w : ∀ p, p < φs.length → W p = cnt φs.length (lnB φs) fd p) : GoodOrder (iN fd) φs := by
  have tk : ∀ i, (iN fd).take i = iN (fd.take i) := fun i => by unfold iN; rw [List.map_take]
  refine ⟨fun i x hx => ?_, fun p hp hc => ?_⟩
  · unfold iN at hx
    rw [List.getElem?_map] at hx
    obtain ⟨y, hy, rfl⟩ := Option.map_eq_some_iff.mp hx
    have hlt := k.lt y (List.mem_of_getElem? hy)
    rw [tk]
    refine ⟨?_, by omega, by omega, ?_⟩
    · rw [iN_mem]
      exact Bool.eq_false_iff.mpr fun z => nd_at k.nd hy (List.contains_iff_mem.mp z)
    · unfold heldB
      rw [Int.toNat_natCast, List.any_eq_false]
      intro x hx' hz
      simp only [Bool.and_eq_true, decide_eq_true_eq, Bool.not_eq_true'] at hz
      obtain ⟨⟨h0, h1⟩, h2⟩ := hz
      obtain ⟨z, rfl⟩ : ∃ z : Nat, x = (z : Int) := ⟨x.toNat, by omega⟩
      rw [iN_mem] at h2
      have := k.ord i y hy z (by omega) (List.contains_iff_mem.mpr hx')
      rw [List.contains_iff_mem.mpr this] at h2; cases h2
  · rw [iN_mem] at hc
    have hp' : p ∉ fd := fun z => by rw [List.contains_iff_mem.mpr z] at hc; cases hc
    have hw : W p ≠ 0 := fun z => hp' ((k.zero p hp).mpr z)
    rw [w p hp] at hw
    unfold heldB
    rw [List.any_eq_true]
    have : ¬ ∀ x, x < φs.length → lnB φs p x = true → x ∈ fd := fun z => hw (cnt_zero.mpr z)
    obtain ⟨x, hx⟩ := Classical.not_forall.mp this
    obtain ⟨h1, hx⟩ := Classical.not_imp.mp hx
    obtain ⟨h2, h3⟩ := Classical.not_imp.mp hx
    refine ⟨(x : Int), List.contains_iff_mem.mp h2, ?_⟩
    rw [iN_mem]
    have : fd.contains x = false := Bool.eq_false_iff.mpr fun z => h3 (List.contains_iff_mem.mp z)
    rw [this]
    simp; omega
theorem iN_take (l : List Nat) (i : Nat) : (iN l).take i = iN (l.take i) := by unfold iN; rw [List.map_take]
theorem iN_at {l : List Nat} {i : Nat} {x : Int} (h : (iN l)[i]? = some x) : ∃ y : Nat, l[i]? = some y ∧ x = (y : Int) := by
  unfold iN at h
  rw [List.getElem?_map] at h
  obtain ⟨y, hy, rfl⟩ := Option.map_eq_some_iff.mp h
  exact ⟨y, hy, rfl⟩
/-- what the search ends with is a reach -/
theorem reach_of {φs : List Fm} {p0 : Nat} {fd : List Nat} (b : Bf φs.length (lnB φs) p0 fd fd.length) : GoodReach (iN fd) φs (p0 : Int) := by
  have hne : fd ≠ [] := fun z => by have := b.hd; rw [z] at this; simp at this
  refine ⟨fun z => hne (by unfold iN at z; exact List.map_eq_nil_iff.mp z), fun i x hx => ?_, fun k hk hc => ?_⟩
  · obtain ⟨y, hy, rfl⟩ := iN_at hx
    have hlt := b.lt y (List.mem_of_getElem? hy)
    rw [iN_take]
    refine ⟨?_, by omega, by omega, fun hi => ?_, fun hi => ?_⟩
    · rw [iN_mem]
      exact Bool.eq_false_iff.mpr fun z => nd_at b.nd hy (List.contains_iff_mem.mp z)
    · subst hi
      rw [b.hd] at hy; cases hy; rfl
    · obtain ⟨z, hz, hl⟩ := b.each i y hi hy
      unfold meetB
      rw [Int.toNat_natCast, List.any_eq_true]
      exact ⟨(z : Int), List.contains_iff_mem.mp hl, by rw [iN_mem]; exact List.contains_iff_mem.mpr hz⟩
  · rw [iN_mem] at hc
    unfold meetB
    rw [List.any_eq_false]
    intro x hx hz
    obtain ⟨y, hy, e⟩ : ∃ y, y ∈ fd ∧ (y : Int) = x := by
      have := List.contains_iff_mem.mp hz
      unfold iN at this
      exact List.mem_map.mp this
    subst e
    obtain ⟨i, hi, ei⟩ := List.getElem_of_mem hy
    have := b.done i y hi (by rw [List.getElem?_eq_getElem hi, ei]) k hk (List.contains_iff_mem.mpr hx)
    rw [List.contains_iff_mem.mpr this] at hc; cases hc
/-- the list of what each waits for -/
def wN (n : Nat) (W : Nat → Nat) : List V := vN ((List.range n).map W)
theorem wN_len (n : Nat) (W : Nat → Nat) : (wN n W).length = n := by simp [wN, vN]
theorem wN_at {n p : Nat} {W : Nat → Nat} (h : p < n) : atI (wN n W) (p : Int) = some (.int (W p : Int)) := by
  refine vN_at ?_
  rw [List.getElem?_map, List.getElem?_range h]; rfl
theorem wN_set {n p k : Nat} {W : Nat → Nat} (h : p < n) : (wN n W).set p (.int (k : Int)) = wN n (fun q => if q = p then k else W q) := by
  refine List.ext_getElem? fun i => ?_
  unfold wN vN
  rw [List.getElem?_set]
  simp only [List.length_map, List.length_range, List.getElem?_map]
  by_cases c : p = i
  · subst c
    rw [if_pos rfl, if_pos h, List.getElem?_range h]; simp
  · rw [if_neg c]
    rcases Nat.lt_or_ge i n with z | z
    · rw [List.getElem?_range z]
      simp [Ne.symm c]
    · rw [List.getElem?_eq_none (by simpa using z)]; rfl
end LS
namespace LS
open PySem L2
/-- CN: the class NoCell -/
def spRequire (K : PySem.W.Frag) (CN : Addr) : Sp := fun vs H Q E => ∃ (a : Addr) (xs : List V) (p : Int), vs = [.ref a, .int p] ∧ SqL K H a xs ∧ (0 ≤ p → p < xs.length → Q .non H) ∧ (p < 0 ∨ (xs.length : Int) ≤ p → E (.ref CN) none H)
/-- a def that may raise is called, and its error passes -/
theorem pcF {P : Program} {w : World} {K : PySem.W.Frag} {mg : Str → Option Value} {base : Heap} {N : List Str} {qual : Str} {scope : Scope} {f0 : Addr} {cd : Value} {A : Around} {outer : List Env} {s : Shared} {H : Hp} {E : XK} {k : Nat} {x : Str} {f : Addr} {fd : FuncData} {ps : List Str} {sp : Sp} {e : Expr} {es : List Expr} {t : TA} {p pos : Pos}
    (C : ClF P w K mg base k x f fd ps sp) (hr : Room k (cxOf (CXF P w) P w K mg base N qual scope f0 cd A outer s H E).A) (hg : GN scope x) (ha : PA (cxOf (CXF P w) P w K mg base N qual scope f0 cd A outer s H E) (e :: es) t)
    (he : starEach (e :: es) (cxOf (CXF P w) P w K mg base N qual scope f0 cd A outer s H E).env = (false, eval e (cxOf (CXF P w) P w K mg base N qual scope f0 cd A outer s H E).env) :: starEach es (cxOf (CXF P w) P w K mg base N qual scope f0 cd A outer s H E).env := by first | exact st_name | exact st_const | exact st_call | exact st_bin | exact st_sub | exact st_un | exact st_list | exact st_cmp | exact st_tup | exact st_comp) (hpl : (backTo pos (starEach es (cxOf (CXF P w) P w K mg base N qual scope f0 cd A outer s H E).env)).any (·.1) = false := by rfl) :
    PE (cxOf (CXF P w) P w K mg base N qual scope f0 cd A outer s H E) (.Call (.Name x p) (e :: es) [] pos) (tCall sp [] E t) :=
  pe_call C.ok hr hg.gl C.mg C.kp C.bd .nil (passF fun _ _ h => h) ha hg.dbg he hpl
end LS
namespace LS
open PySem L2
theorem _root_.L2.Cl.weak {P : Program} {w : World} {K : PySem.W.Frag} {mg : Str → Option Value} {base : Heap} {k : Nat} {x : Str} {f : Addr} {fd : FuncData} {ps : List Str} {sp sp' : Sp} (C : Cl P w K mg base k x f fd ps sp) (h : ∀ vs H Q E, sp' vs H Q E → sp vs H Q E) : Cl P w K mg base k x f fd ps sp' :=
  ⟨⟨fun vs H Q E z => C.ok.len vs H Q E (h _ _ _ _ z), fun A outer s H args us vs Q E hr e0 hb r hs => C.ok.run A outer s H args us vs Q E hr e0 hb r (h _ _ _ _ hs)⟩, C.bd, C.kp, C.mg⟩
theorem order_weak {K : PySem.W.Frag} : ∀ vs H Q E, spOrder K vs H Q E → spOrderS K vs H Q E := by
  rintro vs H Q E ⟨a, rs, φs, rfl, hA, sh, hl, q⟩
  refine ⟨a, rs, φs, rfl, hA, sh, hl, fun l fd W H' sm _ hl' kh hw => ?_⟩
  rw [vN_i] at hl'
  exact q l (iN fd) H' (Keep.of sm) hl' (by unfold iN; rw [List.length_map]; exact Nat.le_trans (nd_le kh.nd kh.lt) hl) (good_of kh hw)
end LS
namespace LS
open PySem L2
def spChanged (CN : Addr) : Sp := fun vs H Q E => ∃ (a : Addr) (rs : List Addr) (p : Int) (r : Addr), vs = [.ref a, .int p, .ref r] ∧ H a = some (.lst (rs.map V.ref)) ∧ rs.length ≤ 100 ∧
  (0 ≤ p → p < rs.length → ∀ (l : Addr) (H' : Hp), Same H H' → H l = none → H' l = some (.lst ((rs.set p.toNat r).map V.ref)) → Q (.ref l) H') ∧ (p < 0 ∨ (rs.length : Int) ≤ p → E (.ref CN) none H)
/-- a def that may raise is called where it doesn't -/
theorem pcN {X : Cx} {k : Nat} {x : Str} {f : Addr} {fd : FuncData} {ps : List Str} {sp : Sp} {e : Expr} {es : List Expr} {t : TA} {p pos : Pos} (C : ClF X.prog X.w X.K X.mg X.base k x f fd ps sp) (hr : Room k X.A) (hg : GN X.env.scope x) (ha : PA X (e :: es) t)
    (he : starEach (e :: es) X.env = (false, eval e X.env) :: starEach es X.env := by first | exact st_name | exact st_const | exact st_call | exact st_bin | exact st_sub | exact st_un | exact st_list | exact st_cmp | exact st_tup | exact st_comp) (hpl : (backTo pos (starEach es X.env)).any (·.1) = false := by rfl) :
    PE X (.Call (.Name x p) (e :: es) [] pos) (tCall sp [] (fun _ _ _ => False) t) :=
  pe_call C.ok hr hg.gl C.mg C.kp C.bd .nil (fun _ _ _ _ _ _ _ hx => by obtain ⟨_, _, _, _, _, _, z⟩ := hx; exact z.elim) ha hg.dbg he hpl
end LS

set_option linter.all false
set_option maxRecDepth 100000
namespace LS
open PySem L2
/-! ### values, and where there is none -/
def optV : Option Int → V
  | some i => .int i
  | none => .non
/-- what a place off the sheet or on it has -/
def valO (os : List (Option Int)) (k : Int) : V := if k < 0 ∨ (os.length : Int) ≤ k then .int 0 else optV (os.getD k.toNat none)
theorem atI_opt {os : List (Option Int)} {k : Int} (h0 : 0 ≤ k) (h1 : k < os.length) : atI (os.map optV) k = some (optV (os.getD k.toNat none)) := by
  obtain ⟨j, rfl⟩ : ∃ j : Nat, k = (j : Int) := ⟨k.toNat, by omega⟩
  have hk : j < os.length := by omega
  refine atI_nat ?_
  rw [List.getElem?_map, List.getElem?_eq_getElem hk]
  simp [List.getD_eq_getElem?_getD, hk]
/-- the cell at p has the value v -/
inductive HasV (φs : List Fm) : Nat → Int → Prop where
  | mk (p : Nat) (f : Int → Int) (hp : p < φs.length) (off : ∀ x ∈ (φs.getD p default).named, (x < 0 ∨ (φs.length : Int) ≤ x) → f x = 0)
      (on : ∀ x ∈ (φs.getD p default).named, 0 ≤ x → x < φs.length → HasV φs x.toNat (f x)) : HasV φs p ((φs.getD p default).worth f)
theorem Fm.worth_congr {f g : Int → Int} : ∀ φ : Fm, (∀ x ∈ φ.named, f x = g x) → φ.worth f = φ.worth g
  | .num n, _ => rfl
  | .sum i j, h => by simp only [Fm.worth]; rw [h i (by simp [Fm.named]), h j (by simp [Fm.named])]
  | .less i j, h => by simp only [Fm.worth]; rw [h i (by simp [Fm.named]), h j (by simp [Fm.named])]
  | .most i j, h => by simp only [Fm.worth]; rw [h i (by simp [Fm.named]), h j (by simp [Fm.named])]
  | .pick i j k, h => by simp only [Fm.worth]; rw [h i (by simp [Fm.named]), h j (by simp [Fm.named]), h k (by simp [Fm.named])]
theorem HasV.uniq {φs : List Fm} {p : Nat} {v : Int} (h : HasV φs p v) : ∀ {u : Int}, HasV φs p u → v = u := by
  induction h with
  | mk p f hp off on ih =>
    intro u hu
    cases hu with
    | mk _ g _ off' on' =>
      refine Fm.worth_congr _ fun x hx => ?_
      by_cases c : x < 0 ∨ (φs.length : Int) ≤ x
      · rw [off x hx c, off' x hx c]
      · exact ih x hx (by omega) (by omega) (on' x hx (by omega) (by omega))
/-- no place that it names is on the sheet and without a value -/
def readyB (os : List (Option Int)) (φ : Fm) : Bool := φ.named.all fun x => !(decide (0 ≤ x ∧ x < (os.length : Int)) && decide (valO os x = .non))
/-- the list of all values -/
structure IsRes (φs : List Fm) (os : List (Option Int)) : Prop where
  len : os.length = φs.length
  iff : ∀ p v, p < φs.length → (os.getD p none = some v ↔ HasV φs p v)
theorem IsRes.uniq {φs : List Fm} {os us : List (Option Int)} (a : IsRes φs os) (b : IsRes φs us) : os = us := by
  refine List.ext_getElem (by rw [a.len, b.len]) fun p h1 h2 => ?_
  have hp : p < φs.length := by rw [← a.len]; exact h1
  have e1 : os.getD p none = os[p] := by simp [List.getD_eq_getElem?_getD, h1]
  have e2 : us.getD p none = us[p] := by simp [List.getD_eq_getElem?_getD, h2]
  rw [← e1, ← e2]
  cases x : os.getD p none with
  | some v => exact ((b.iff p v hp).mpr ((a.iff p v hp).mp x)).symm
  | none =>
    cases y : us.getD p none with
    | none => rfl
    | some v => rw [(a.iff p v hp).mpr ((b.iff p v hp).mp y)] at x; cases x
/-- what is sound and leaves no ready cell out is all -/
theorem isRes_of {φs : List Fm} {os : List (Option Int)} (len : os.length = φs.length) (sound : ∀ p v, p < φs.length → os.getD p none = some v → HasV φs p v)
    (full : ∀ p, p < φs.length → os.getD p none = none → readyB os (φs.getD p default) = false) : IsRes φs os := by
  refine ⟨len, fun p v hp => ⟨sound p v hp, fun h => ?_⟩⟩
  induction h with
  | mk p f hp' off on ih =>
    cases e : os.getD p none with
    | some u => rw [(sound p u hp e).uniq (.mk p f hp' off on)]
    | none =>
      have hr := full p hp e
      have : readyB os (φs.getD p default) = true := by
        refine List.all_eq_true.mpr fun x hx => ?_
        by_cases c : 0 ≤ x ∧ x < (os.length : Int)
        · have i := ih x hx c.1 (by rw [← len]; exact c.2) (by omega)
          have : valO os x = .int (f x) := by
            unfold valO
            rw [if_neg (by omega), i]; rfl
          rw [this]; simp
        · rw [decide_eq_false c]; rfl
      rw [this] at hr; cases hr
theorem most_eq (a b : Int) : (if decide (b < a) = true then (1 : Int) else 0) * a + (if decide (a ≤ b) = true then (1 : Int) else 0) * b = if b > a then b else a := by
  by_cases h : b < a
  · rw [if_pos (decide_eq_true h), if_neg (by simp; omega), if_neg (by omega)]; omega
  · by_cases h2 : b = a
    · subst h2; simp
    · rw [if_neg (by simpa using h), if_pos (by simp; omega), if_pos (by omega)]; omega
def spValueO (K : PySem.W.Frag) : Sp := fun vs H Q _ => ∃ (a : Addr) (os : List (Option Int)) (k : Int), vs = [.ref a, .int k] ∧ SqL K H a (os.map optV) ∧ Q (valO os k) H
def spWorthO (K : PySem.W.Frag) : Sp := fun vs H Q _ => ∃ (r a : Addr) (φ : Fm) (os : List (Option Int)) (f : Int → Int), vs = [.ref r, .ref a] ∧ SqT K H r φ.v ∧ SqL K H a (os.map optV) ∧ (∀ x ∈ φ.named, valO os x = .int (f x)) ∧ Q (.int (φ.worth f)) H
def spReady (K : PySem.W.Frag) : Sp := fun vs H Q _ => ∃ (r a : Addr) (φ : Fm) (os : List (Option Int)), vs = [.ref r, .ref a] ∧ SqT K H r φ.v ∧ SqL K H a (os.map optV) ∧ ∀ H', Same H H' → Q (.bl (readyB os φ)) H'
end LS

set_option linter.all false
set_option maxRecDepth 100000
namespace LS
open PySem L2
/-- the number behind a value -/
def numV : V → Int
  | .int i => i
  | _ => 0
theorem optV_non {o : Option Int} : optV o = .non ↔ o = none := by cases o <;> simp [optV]
theorem ready_vals {os : List (Option Int)} {φ : Fm} (h : readyB os φ = true) : ∀ x ∈ φ.named, valO os x = .int (numV (valO os x)) := fun x hx => by
  have := List.all_eq_true.mp h x hx
  by_cases c : 0 ≤ x ∧ x < (os.length : Int)
  · rw [decide_eq_true c] at this
    have nn : ¬ valO os x = .non := by simpa using this
    unfold valO at nn ⊢
    rw [if_neg (by omega)] at nn ⊢
    cases e : os.getD x.toNat none with
    | none => rw [e] at nn; exact absurd rfl nn
    | some i => rfl
  · unfold valO
    rw [if_pos (by omega)]; rfl
/-- one more cell, worked out of what is there -/
theorem sound_set {φs : List Fm} {os : List (Option Int)} {p : Nat} (len : os.length = φs.length) (hp : p < φs.length) (sound : ∀ p v, p < φs.length → os.getD p none = some v → HasV φs p v) (r : readyB os (φs.getD p default) = true) :
    ∀ q v, q < φs.length → (os.set p (some ((φs.getD p default).worth fun x => numV (valO os x)))).getD q none = some v → HasV φs q v := by
  intro q v hq e
  rw [List.getD_eq_getElem?_getD, List.getElem?_set] at e
  by_cases c : p = q
  · subst c
    rw [if_pos rfl, if_pos (by omega)] at e
    have ev : _ = v := Option.some.inj e
    rw [← ev]
    refine .mk p _ hp (fun x hx c => ?_) (fun x hx c1 c2 => ?_)
    · unfold valO
      rw [if_pos (by omega)]; rfl
    · have hx' := ready_vals r x hx
      have e2 : valO os x = optV (os.getD x.toNat none) := if_neg (by omega)
      cases z : os.getD x.toNat none with
      | none => rw [e2, z] at hx'; cases hx'
      | some i =>
        rw [e2, z]
        exact sound x.toNat i (by omega) z
  · rw [if_neg c, ← List.getD_eq_getElem?_getD] at e
    exact sound q v hq e
theorem count_set {os : List (Option Int)} {p : Nat} {v : Int} (hp : p < os.length) (h : os.getD p none = none) : (os.set p (some v)).count none < os.count none := by
  have e : os[p] = none := by
    rw [List.getD_eq_getElem?_getD, List.getElem?_eq_getElem hp] at h; exact h
  have pos : 0 < os.count none := List.count_pos_iff.mpr (e ▸ List.getElem_mem hp)
  rw [List.count_set hp, e]
  simp
  omega
theorem rk_at {n i : Nat} (h : i < n) : (PySem.W.rangeKs 0 n)[i]? = some (i : Int) := by
  unfold PySem.W.rangeKs
  rw [List.getElem?_map, List.getElem?_range h]
  simp
theorem rk_mem {n : Nat} {x : Int} : x ∈ PySem.W.rangeKs 0 n ↔ 0 ≤ x ∧ x < n := by
  unfold PySem.W.rangeKs
  rw [List.mem_map]
  constructor
  · rintro ⟨i, hi, rfl⟩
    have := List.mem_range.mp hi
    omega
  · rintro ⟨h0, h1⟩
    exact ⟨x.toNat, List.mem_range.mpr (by omega), by omega⟩
theorem boo_range : bootBuiltins "range" = some (.type "range") := by decide +kernel
def spRounds (K : PySem.W.Frag) : Sp := fun vs H Q _ => ∃ (a : Addr) (rs : List Addr) (φs : List Fm), vs = [.ref a] ∧ SqL K H a (rs.map V.ref) ∧ Sh H rs φs ∧ φs.length ≤ 100 ∧
  ∀ (l : Addr) (os : List (Option Int)) (H' : Hp), Same H H' → H' l = some (.lst (os.map optV)) → IsRes φs os → Q (.ref l) H'
def spAlike : Sp := fun vs H Q _ => ∃ o : Option Int, vs = [optV o, optV o] ∧ Q (.bl true) H
/-- Z: what else is to stay true of the heap (tables of defs that hold a def) -/
def spResults (Z : Hp → Prop) : Sp := fun vs H Q _ => ∃ (a : Addr) (rs : List Addr) (φs : List Fm), vs = [.ref a] ∧ H a = some (.lst (rs.map V.ref)) ∧ Sh H rs φs ∧ φs.length ≤ 100 ∧ Z H ∧
  ∀ (l : Addr) (os : List (Option Int)) (H' : Hp), Keep H H' → Z H' → H' l = some (.lst (os.map optV)) → IsRes φs os → Q (.ref l) H'
def spLawZ (K : PySem.W.Frag) (Z : Hp → Prop) : Sp := fun vs H Q _ => ∃ (a : Addr) (ns : List Int), vs = [.ref a] ∧ SqL K H a (ns.map V.int) ∧ ns.length ≤ 63 ∧ Z H ∧ ∀ H', Q (.bl true) H'
end LS

set_option linter.all false
set_option maxRecDepth 100000
namespace LS
open PySem L2
/-- the numbers that stand for values, nought where there is none -/
def nOf (os : List (Option Int)) : List Int := os.map fun o => o.getD 0
theorem val_num (os : List (Option Int)) (x : Int) : val (nOf os) x = numV (valO os x) := by
  unfold val valO
  by_cases h : x < 0
  · rw [if_pos h, if_pos (.inl h)]; rfl
  · rw [if_neg h]
    by_cases h2 : (os.length : Int) ≤ x
    · rw [if_pos (.inr h2), List.getD_eq_getElem?_getD, List.getElem?_eq_none (by unfold nOf; rw [List.length_map]; omega)]; rfl
    · rw [if_neg (by omega)]
      unfold nOf
      rw [List.getD_eq_getElem?_getD, List.getD_eq_getElem?_getD, List.getElem?_map]
      have hlt : x.toNat < os.length := by omega
      rw [List.getElem?_eq_getElem hlt]
      cases os[x.toNat] <;> rfl
theorem nOf_set (os : List (Option Int)) (p : Nat) (v : Int) : ((nOf os).map V.int).set p (.int v) = (nOf (os.set p (some v))).map V.int := by
  unfold nOf
  rw [List.map_set (f := fun o : Option Int => o.getD 0), List.map_set (f := V.int)]
  rfl
/-- what an order's turn has worked out -/
structure Turn (φs : List Fm) (ks : List Int) (i : Nat) (os : List (Option Int)) : Prop where
  len : os.length = φs.length
  sound : ∀ p v, p < φs.length → os.getD p none = some v → HasV φs p v
  has : ∀ p : Nat, p < φs.length → ((ks.take i).contains (p : Int) = true ↔ os.getD p none ≠ none)
theorem Turn.start (φs : List Fm) (ks : List Int) : Turn φs ks 0 (List.replicate φs.length none) := by
  have e : ∀ p, (List.replicate φs.length (none : Option Int)).getD p none = none := fun p => by
    rw [List.getD_eq_getElem?_getD, List.getElem?_replicate]; split <;> rfl
  refine ⟨by simp, fun p v _ h => ?_, fun p _ => ?_⟩
  · rw [e] at h; cases h
  · rw [e]; simp
theorem Turn.ready {φs : List Fm} {ks : List Int} {i : Nat} {os : List (Option Int)} {p : Nat} (t : Turn φs ks i os) (h : heldB (ks.take i) φs p = false) : readyB os (φs.getD p default) = true := by
  unfold readyB
  refine List.all_eq_true.mpr fun x hx => ?_
  unfold heldB at h
  rw [List.any_eq_false] at h
  have hx' := h x hx
  by_cases c : 0 ≤ x ∧ x < (os.length : Int)
  · rw [t.len] at c
    rw [decide_eq_true c] at hx'
    have hc : (ks.take i).contains x = true := by
      cases z : (ks.take i).contains x with
      | true => rfl
      | false => rw [z] at hx'; exact absurd rfl hx'
    have hx2 : x = ((x.toNat : Nat) : Int) := by omega
    rw [hx2] at hc
    have nn := (t.has x.toNat (by omega)).mp hc
    have : ¬ valO os x = .non := by
      unfold valO
      rw [if_neg (by rw [t.len]; omega)]
      exact fun z => nn (optV_non.mp z)
    rw [decide_eq_false this]; simp
  · rw [decide_eq_false c]; rfl
theorem Turn.step {φs : List Fm} {ks : List Int} {i : Nat} {os : List (Option Int)} {p : Nat} (t : Turn φs ks i os) (hp : p < φs.length) (hk : ks[i]? = some (p : Int)) (h : heldB (ks.take i) φs p = false) :
    Turn φs ks (i + 1) (os.set p (some ((φs.getD p default).worth (val (nOf os))))) := by
  have e : (φs.getD p default).worth (val (nOf os)) = (φs.getD p default).worth fun x => numV (valO os x) := by
    congr 1
    funext x
    exact val_num os x
  rw [e]
  refine ⟨by rw [List.length_set]; exact t.len, sound_set t.len hp t.sound (t.ready h), fun q hq => ?_⟩
  rw [List.take_add_one, hk, List.getD_eq_getElem?_getD, List.getElem?_set]
  by_cases c : p = q
  · subst c
    rw [if_pos rfl, if_pos (by rw [t.len]; exact hq)]
    simp
  · rw [if_neg c, ← List.getD_eq_getElem?_getD, ← t.has q hq]
    simp only [Option.toList, List.contains_iff_mem, List.mem_append, List.mem_singleton]
    exact ⟨fun z => z.resolve_right (by omega), .inl⟩
theorem Turn.done {φs : List Fm} {ks : List Int} {os : List (Option Int)} (t : Turn φs ks ks.length os) (g : GoodOrder ks φs) : IsRes φs os := by
  refine isRes_of t.len t.sound fun p hp hn => ?_
  have hc : ks.contains (p : Int) = false := by
    cases z : ks.contains (p : Int) with
    | false => rfl
    | true =>
      have := (t.has p hp).mp (by rw [List.take_length]; exact z)
      exact absurd hn this
  have hh := g.left p hp hc
  unfold heldB at hh
  rw [List.any_eq_true] at hh
  obtain ⟨x, hx, hz⟩ := hh
  simp only [Bool.and_eq_true, decide_eq_true_eq, Bool.not_eq_true'] at hz
  obtain ⟨⟨h0, h1⟩, h2⟩ := hz
  unfold readyB
  refine List.all_eq_false.mpr ⟨x, hx, ?_⟩
  have hx2 : x = ((x.toNat : Nat) : Int) := by omega
  have hn2 : os.getD x.toNat none = none := by
    cases z : os.getD x.toNat none with
    | none => rfl
    | some v =>
      have := (t.has x.toNat (by omega)).mpr (by rw [z]; simp)
      rw [List.take_length, ← hx2] at this
      rw [this] at h2; cases h2
  have : valO os x = .non := by
    unfold valO
    rw [if_neg (by rw [t.len]; omega), hn2]; rfl
  rw [this, decide_eq_true (by rw [t.len]; exact ⟨h0, h1⟩)]
  simp
theorem zeros (n : Nat) : List.replicate n (V.int 0) = (nOf (List.replicate n none)).map V.int := by simp [nOf]
theorem nons (n : Nat) : List.replicate n V.non = (List.replicate n (none : Option Int)).map optV := by simp [optV]
end LS

set_option linter.all false
set_option maxRecDepth 100000
namespace LS
open PySem L2
theorem reach_first {ks : List Int} {φs : List Fm} {p : Int} (g : GoodReach ks φs p) : ks.contains p = true := by
  cases ks with
  | nil => exact absurd rfl g.some'
  | cons x r => rw [(g.each 0 x rfl).2.2.2.1 rfl]; simp
/-- what a change doesn't reach has what it had -/
theorem HasV.out {φs ψs : List Fm} {ks : List Int} (len : ψs.length = φs.length) (same : ∀ k : Nat, k < φs.length → ks.contains (k : Int) = false → ψs.getD k default = φs.getD k default)
    (left : ∀ k : Nat, k < φs.length → ks.contains (k : Int) = false → meetB ks (φs.getD k default) = false) {k : Nat} {v : Int} (h : HasV φs k v) : ks.contains (k : Int) = false → HasV ψs k v := by
  induction h with
  | mk q f hq off on ih =>
    intro hk
    have e := same q hq hk
    have := HasV.mk (φs := ψs) q f (by rw [len]; exact hq) (by rw [e, len]; exact off) (by
      rw [e, len]
      intro x hx h0 h1
      refine ih x hx h0 h1 ?_
      have m := left q hq hk
      unfold meetB at m
      rw [List.any_eq_false] at m
      have := m x hx
      rw [show ((x.toNat : Nat) : Int) = x by omega]
      exact Bool.eq_false_iff.mpr this)
    rw [e] at this
    exact this
theorem res_out {φs : List Fm} {ks : List Int} {p : Nat} {φ : Fm} {os us : List (Option Int)} (g : GoodReach ks φs (p : Int)) (a : IsRes φs os) (b : IsRes (φs.set p φ) us) {k : Nat} (hk : k < φs.length) (hc : ks.contains (k : Int) = false) : os.getD k none = us.getD k none := by
  have hp := reach_first g
  have len : (φs.set p φ).length = φs.length := List.length_set
  have same : ∀ k : Nat, k < φs.length → ks.contains (k : Int) = false → (φs.set p φ).getD k default = φs.getD k default := fun k _ hc => by
    rw [List.getD_eq_getElem?_getD, List.getElem?_set, if_neg (fun z => by rw [← z, hp] at hc; cases hc), ← List.getD_eq_getElem?_getD]
  have fw : ∀ v, HasV φs k v → HasV (φs.set p φ) k v := fun v h => h.out len same g.left hc
  have bw : ∀ v, HasV (φs.set p φ) k v → HasV φs k v := fun v h => h.out len.symm (fun k hk hc => (same k (by rw [← len]; exact hk) hc).symm) (fun k hk hc => by
    rw [same k (by rw [← len]; exact hk) hc]; exact g.left k (by rw [← len]; exact hk) hc) hc
  cases x : os.getD k none with
  | some v => exact ((b.iff k v (by rw [len]; exact hk)).mpr (fw v ((a.iff k v hk).mp x))).symm
  | none =>
    cases y : us.getD k none with
    | none => rfl
    | some v => rw [(a.iff k v hk).mpr (bw v ((b.iff k v (by rw [len]; exact hk)).mp y))] at x; cases x
theorem set_cat {α : Type} {xs : List α} {p : Nat} {x : α} (h : p < xs.length) : (xs.take p ++ [x]) ++ xs.drop (p + 1) = xs.set p x := by
  rw [List.set_eq_take_append_cons_drop, if_pos h, List.append_assoc]; rfl
def spRefuses : Sp := fun vs H Q _ => ∃ (a : Addr) (rs : List Addr) (p : Int) (r : Addr), vs = [.ref a, .int p, .ref r] ∧ H a = some (.lst (rs.map V.ref)) ∧ rs.length ≤ 100 ∧ (p < 0 ∨ (rs.length : Int) ≤ p) ∧ ∀ H', Keep H H' → Q (.bl true) H'
def rListOf (K : PySem.W.Frag) : List V → Hp → VK → Prop := fun xs H Q => ∃ p ys, xs = [.ref p] ∧ (SqL K H p ys ∨ SqT K H p ys) ∧ ∀ l, H l = none → Q (.ref l) (upd H l (.lst ys))
end LS

set_option linter.all false
set_option maxRecDepth 100000
namespace L2
open PySem PySem.Spec PyProof.Rows
section
variable {X : Cx} {pins : List (Addr × Obj)} {σ : St} {H : Hp} {s : Shared}
/-- try: body except x: suite -/
def tTryN (K : PySem.W.Frag) (C' : Addr) (tb : (St → Prop) → XK → TS) (ts : TS) : TS := fun D σ H =>
  tb (fun σ1 => σ1 = σ) (fun cls _ H' => PySem.W.exmOne K cls (.ref C') = some true ∧
    ts D σ H') D σ H
theorem ps_tryN {x : Str} {C' : Addr} {np pos hpos : Pos} {body : List Stmt} {b₀ : Stmt} {suite : List Stmt} {tb : (St → Prop) → XK → TS} {ts : TS} (hst : X.stack = X.env :: X.outer) (hex : X.ex = []) (hfr : X.env.frame = some X.env.locals)
    (hb : ∀ (pn' : List (Addr × Obj)) (xe' : Value → Shared → Prop) (S : St → Prop) (E : XK), PassesS (CXF X.prog X.w) (X.pnx pn' xe') S E → PSs (X.pnx pn' xe') body (tb S E))
    (hx : GN X.env.scope x) (hm : X.mg x = some (.ref C')) (hsu : ∀ e : Addr, PSs (X.mkd e) (b₀ :: suite) ts) :
    PS X (.Try body [.ExceptHandler (some (.Name x np)) none (b₀ :: suite) hpos] [] [] pos) (tTryN X.K C' tb ts) := by
  intro pins s σ H D I h
  refine wpAny_Try_except ?_
  refine wpAny_mono (hb (X.pn ++ pins) (fun e' s' => ∃ H1 s1 e cls a0 H', e' = .ref e ∧ Inv X pins σ H1 s1 ∧ Fly X.prog X.w X.stack H1 s1 e cls a0 H' s' ∧ PySem.W.exmOne X.K cls (.ref C') = some true ∧
    ts D σ H')
    (fun σ1 => σ1 = σ) _ (fun pins1 σ1 H1 s1 e' s' hS I1 hx => ?_) [] s σ H D I.pnx h) (fun fl s1 q => ?_) (fun e' s' wx => ?_)
  · subst hS
    obtain ⟨e, cls, a0, H', rfl, F, q⟩ := hx
    exact ⟨H1, s1, e, cls, a0, H', rfl, I1.unpnx I.ok, F, q⟩
  · cases fl with
    | next => obtain ⟨σ', H', J, q⟩ := q; exact wpAny_execs_nil ⟨σ', H', J.unpnx I.ok, q⟩
    | brk => obtain ⟨σ', H', J, q⟩ := q; exact ⟨σ', H', J.unpnx I.ok, q⟩
    | cont => obtain ⟨σ', H', J, q⟩ := q; exact ⟨σ', H', J.unpnx I.ok, q⟩
    | ret u => obtain ⟨v, σ', H', J, r, q⟩ := q; exact ⟨v, σ', H', J.unpnx I.ok, r, q⟩
  obtain ⟨H1, s1, e, cls, a0, H', rfl, I1, F, hxm, q⟩ := wx
  obtain ⟨B, fl, cov⟩ := F.fly
  have ff : ∀ b ∈ frs X.stack, ∃ o, s'.heap.get? b = some o ∧ ∀ vs, o.data ≠ .fields vs := fun b hb => (fl.2.2.1.mem (b := b) hb).2
  have go : ∀ h'', Heap.FlyingW B X.stack e cls a0 h'' → s'.heap.UpToSlots h'' → Inv X pins σ H' { s' with heap := h'' } := fun h'' f u => by
    have G : Fly X.prog X.w X.stack H1 s1 e cls a0 H' { s' with heap := h'' } := Fly.on F.os F.bare F.un F.hok F.frf cov f ff u
    obtain ⟨hh, g, d, t, os'⟩ := s'
    obtain rfl : os' = s1.os := G.os
    show Inv X pins σ H' { s1 with heap := h'', gens := g, drawn := d, toks := t }
    exact I1.call (h' := h'') (g' := g) (d' := d) (t' := t) (ch := []) G.un G.hok G.bare (fun b z => absurd z (by simp))
  have hfrm : X.A.frames = some (X.env :: X.outer) := by rw [← hst]; exact I.ok.frames
  rw [hst] at fl
  refine wpAny_looks_onW hfrm hfr fl fun h4 held up4 => ?_
  refine wpAny_landsW held fun h5 fl5 up5 => ?_
  have J5 := go h5 (by rw [hst]; exact fl5) (up4.trans up5)
  refine wpAny_handleBy_cons (codeAny_handlers_test ?_) (by intro z; cases z)
  refine ld_glob (X := X.mkd e) (J5.mkd e) hx.gl hm ?_ hx.dbg
  obtain ⟨ob, hob, hobc⟩ := fl5.there
  have LT : PySem.W.Looks (model X.prog X.w) h5 (typeOf (.ref e)) cls := hobc ▸ (PySem.W.Looks.ld hob).andThen .now
  refine (PySem.W.exm_one (J5.kIn) LT hxm).here ?_
  show codeAny _ _ _ _ _
  refine codeAny_handlers_suite ?_
  refine lands_againW fl5 fun h6 fl6 up6 => ?_
  have J6 := go h6 (by rw [hst]; exact fl6) ((up4.trans up5).trans up6)
  refine wpAny_mono (hsu e pins _ _ _ D (J6.mkd e) q) (fun f s8 q8 => ?_) (fun _ _ z => z.elim)
  cases f with
  | next =>
    obtain ⟨σ', H8, J, qd⟩ := q8
    exact ⟨_, _, J.unmkd I.ok, qd⟩
  | brk =>
    obtain ⟨σ', H8, J, qd⟩ := q8
    exact ⟨_, _, J.unmkd I.ok, qd⟩
  | cont =>
    obtain ⟨σ', H8, J, qd⟩ := q8
    exact ⟨_, _, J.unmkd I.ok, qd⟩
  | ret u =>
    obtain ⟨v, σ', H8, J, r, qd⟩ := q8
    exact ⟨v, _, _, J.unmkd I.ok, r, qd⟩
/-- o.m(e, ..), which may raise, within a try -/
def tMethS (S : St → Prop) (C : Addr) (m : Str) (sp : Sp) (E : XK) (ta : TE) (t : TA) : TE := fun σ H Q => S σ ∧ ta σ H fun x H1 => ∃ a dx fs, x = .ref a ∧ H1 a = some (.ins C dx fs) ∧ fs.lookup m = none ∧ t σ H1 fun vs H2 => sp (x :: vs) H2 Q E
theorem pmS {pl : Sem Bool} {k : Nat} {f C : Addr} {fd : FuncData} {ps : List Str} {sp : Sp} {S : St → Prop} {E : XK} {m : Str} {pos apos : Pos} {e o : Expr} {es : List Expr} {ta : TE} {t : TA}
    (he : PE X o ta) (c : Cls X.K C) (hm : Meth X.K C m f) (F : FnOk X.prog X.w X.K X.mg X.base (CXF X.prog X.w) k f fd ps sp) (hr : Room k X.A) (hb : Binds X.K fd ps []) (hx : PassesS (CXF X.prog X.w) X S E) (ha : PA X (e :: es) t)
    (hst : starEach (e :: es) X.env = (false, eval e X.env) :: starEach es X.env := by first | exact st_name | exact st_const | exact st_call | exact st_bin | exact st_sub | exact st_un | exact st_list | exact st_cmp | exact st_tup | exact st_comp) (hpl : (backTo pos (starEach es X.env)).any (·.1) = false := by rfl)
    (ht : eval (.Call (.Attribute o m apos) (e :: es) [] pos) X.env = (do
      let ov ← eval o X.env
      standAt apos.atName
      let (f, first) ← holding [ov] (getMethod ov m pl)
      callWith pos f first (backTo pos (starEach (e :: es) X.env)) (backToKw pos (keywordEach [] X.env))) := by rfl) :
    PE X (.Call (.Attribute o m apos) (e :: es) [] pos) (tMethS S C m sp E ta t) := by
  intro pins s σ H Q I h
  obtain ⟨hS, h⟩ := h
  refine PySem.W.methodCall_KW (pl := pl) (thn (he pins s σ H _ I h) fun u s1 ⟨x, H1, I1, rx, a, dx, fs, ex, ea, l, q⟩ => ?_) ht
  subst ex
  obtain rfl : u = Value.ref a := rx
  refine getmeth_ok I1 ea c hm l ?_
  refine PySem.W.callWith_K (first := [.ref a]) (h₀ := X.base) I.ok.mod.kin hm.kp (thn (ha pos pins s1 σ H1 _ I1 q) fun us s2 ⟨vs, H2, I2, r, q2⟩ => ⟨I2.kIn, ?_⟩) hst hpl
  have r' : Vals (.ref a :: vs) (.ref a :: us) := .cons rfl r
  have hl : ((Value.ref a :: us) ++ []).length = ps.length := by rw [List.append_nil, ← r'.length]; exact F.len _ _ _ _ q2
  have hbb := hb s2 (.ref a :: us) I2.kIn hl
  rw [List.append_nil] at hbb
  refine wpAny_call (codeAny_mono (F.run X.A X.stack s2 H2 ⟨.ref a :: us, []⟩ (.ref a :: us) (.ref a :: vs) Q E hr I2.env0 hbb r' q2) fun r s' hq => ?_)
  cases r with
  | error e => exact hx pins σ H2 s2 e s' hS I2 hq
  | ok fl =>
    cases fl with
    | ret u => exact I2.after hq
    | next => exact False.elim hq
    | brk => exact False.elim hq
    | cont => exact False.elim hq
end
end L2

set_option linter.all false
set_option maxRecDepth 100000
namespace LS
open PySem L2
/-- results, its list a new one -/
def spResultsF (Z : Hp → Prop) : Sp := fun vs H Q _ => ∃ (a : Addr) (rs : List Addr) (φs : List Fm), vs = [.ref a] ∧ H a = some (.lst (rs.map V.ref)) ∧ Sh H rs φs ∧ φs.length ≤ 100 ∧ Z H ∧
  ∀ (l : Addr) (os : List (Option Int)) (H' : Hp), Keep H H' → Z H' → H l = none → H' l = some (.lst (os.map optV)) → IsRes φs os → Q (.ref l) H'
theorem st_attr {es : List Expr} {env : Env} {o : Expr} {f : Str} {p : Pos} : starEach (.Attribute o f p :: es) env = (false, eval (.Attribute o f p) env) :: starEach es env := by rfl
/-! ### a day -/
inductive Deed where
  | look (p : Int) | put (p : Int) (φ : Fm)
instance : Inhabited Deed := ⟨.look 0⟩
def offB (n : Nat) (p : Int) : Bool := decide (p < 0 ∨ (n : Int) ≤ p)
/-- the sheet behind a deed -/
def stepD (φs : List Fm) : Deed → List Fm
  | .look _ => φs
  | .put p φ => if offB φs.length p = true then φs else φs.set p.toNat φ
theorem stepD_len (φs : List Fm) (d : Deed) : (stepD φs d).length = φs.length := by
  cases d with
  | look p => rfl
  | put p φ =>
    show (if offB φs.length p = true then φs else φs.set p.toNat φ).length = _
    split
    · rfl
    · simp
/-- the sheet behind the first i deeds -/
def sheetAt (n : Nat) (ds : List Deed) (i : Nat) : List Fm := (ds.take i).foldl stepD (List.replicate n (.num 0))
theorem sheetAt_zero (n : Nat) (ds : List Deed) : sheetAt n ds 0 = List.replicate n (.num 0) := rfl
theorem sheetAt_succ {n : Nat} {ds : List Deed} {i : Nat} {d : Deed} (h : ds[i]? = some d) : sheetAt n ds (i + 1) = stepD (sheetAt n ds i) d := by
  unfold sheetAt
  rw [List.take_add_one, h, List.foldl_append]; rfl
theorem sheetAt_len (n : Nat) (ds : List Deed) : ∀ i, (sheetAt n ds i).length = n
  | 0 => by simp [sheetAt]
  | i + 1 => by
    cases h : ds[i]? with
    | some d => rw [sheetAt_succ h, stepD_len]; exact sheetAt_len n ds i
    | none =>
      have : sheetAt n ds (i + 1) = sheetAt n ds i := by
        unfold sheetAt
        rw [List.take_add_one, h]; simp
      rw [this]; exact sheetAt_len n ds i
/-- the cells whose value is another -/
def moved (os us : List (Option Int)) : List Nat := (List.range us.length).filter fun p => !decide (us.getD p none = os.getD p none)
/-- the tuple of a deed -/
def DeedAt (H : Hp) (r : Addr) : Deed → Prop
  | .look p => H r = some (.tup [.str "look", .int p])
  | .put p φ => ∃ t, H r = some (.tup [.str "put", .int p, .ref t]) ∧ H t = some (.tup φ.v)
def Ds (H : Hp) (rs : List Addr) (ds : List Deed) : Prop := rs.length = ds.length ∧ ∀ (i : Nat) r d, rs[i]? = some r → ds[i]? = some d → DeedAt H r d
theorem DeedAt.keep {H H' : Hp} {r : Addr} {d : Deed} (h : DeedAt H r d) (k : Keep H H') : DeedAt H' r d := by
  cases d with
  | look p => exact k _ _ h (fun _ z => by cases z)
  | put p φ =>
    obtain ⟨t, h1, h2⟩ := h
    exact ⟨t, k _ _ h1 (fun _ z => by cases z), k _ _ h2 (fun _ z => by cases z)⟩
theorem Ds.keep {H H' : Hp} {rs : List Addr} {ds : List Deed} (h : Ds H rs ds) (k : Keep H H') : Ds H' rs ds := ⟨h.1, fun i r d h1 h2 => (h.2 i r d h1 h2).keep k⟩
theorem Ds.nth {H : Hp} {rs : List Addr} {ds : List Deed} (h : Ds H rs ds) {i : Nat} (hi : i < ds.length) : ∃ r, rs[i]? = some r ∧ atI (rs.map V.ref) (i : Int) = some (.ref r) ∧ DeedAt H r (ds.getD i default) := by
  have h1 : i < rs.length := by rw [h.1]; exact hi
  refine ⟨rs[i], List.getElem?_eq_getElem h1, atI_nat (by rw [List.getElem?_map, List.getElem?_eq_getElem h1]; rfl), h.2 i _ _ (List.getElem?_eq_getElem h1) ?_⟩
  rw [List.getD_eq_getElem?_getD, List.getElem?_eq_getElem hi]; rfl
/-- what a deed is answered with; G: a list that is no part of it -/
def AnsAt (G : Addr) (H : Hp) (v : V) (φs : List Fm) : Deed → Prop
  | .look p => if offB φs.length p = true then v = .str "no cell" else ∃ os, IsRes φs os ∧ v = optV (os.getD p.toNat none)
  | .put p φ => if offB φs.length p = true then v = .str "no cell" else ∃ os us r, IsRes φs os ∧ IsRes (φs.set p.toNat φ) us ∧ v = .ref r ∧ r ≠ G ∧ H r = some (.lst (vN (moved os us)))
theorem ans_look {G : Addr} {H : Hp} {v : V} {φs : List Fm} {p : Int} : AnsAt G H v φs (.look p) = (if offB φs.length p = true then v = .str "no cell" else ∃ os, IsRes φs os ∧ v = optV (os.getD p.toNat none)) := rfl
theorem ans_put {G : Addr} {H : Hp} {v : V} {φs : List Fm} {p : Int} {φ : Fm} : AnsAt G H v φs (.put p φ) = (if offB φs.length p = true then v = .str "no cell" else ∃ os us r, IsRes φs os ∧ IsRes (φs.set p.toNat φ) us ∧ v = .ref r ∧ r ≠ G ∧ H r = some (.lst (vN (moved os us)))) := rfl
theorem step_put {φs : List Fm} {p : Int} {φ : Fm} : stepD φs (.put p φ) = (if offB φs.length p = true then φs else φs.set p.toNat φ) := rfl
theorem AnsAt.keep {G : Addr} {H H' : Hp} {v : V} {φs : List Fm} {d : Deed} (h : AnsAt G H v φs d) (k : ∀ b xs, b ≠ G → H b = some (.lst xs) → H' b = some (.lst xs)) : AnsAt G H' v φs d := by
  cases d with
  | look p => exact h
  | put p φ =>
    rw [ans_put] at h ⊢
    by_cases c : offB φs.length p = true
    · rw [if_pos c] at h ⊢; exact h
    · rw [if_neg c] at h ⊢
      obtain ⟨os, us, r, h1, h2, h3, h4, h5⟩ := h
      exact ⟨os, us, r, h1, h2, h3, h4, k _ _ h4 h5⟩
theorem res_nought (n : Nat) : IsRes (List.replicate n (.num 0)) (List.replicate n (some 0)) := by
  have e : ∀ p, p < n → (List.replicate n (Fm.num 0)).getD p default = .num 0 := fun p hp => by
    rw [List.getD_eq_getElem?_getD, List.getElem?_replicate, if_pos hp]; rfl
  have h0 : ∀ p, p < n → HasV (List.replicate n (.num 0)) p 0 := fun p hp => by
    have := HasV.mk (φs := List.replicate n (.num 0)) p (fun _ => 0) (by simpa using hp) (by rw [e p hp]; intro x hx; simp [Fm.named] at hx) (by rw [e p hp]; intro x hx; simp [Fm.named] at hx)
    rw [e p hp] at this
    exact this
  refine ⟨by simp, fun p v hp => ?_⟩
  have hp' : p < n := by simpa using hp
  rw [List.getD_eq_getElem?_getD, List.getElem?_replicate, if_pos hp']
  constructor
  · intro z
    cases z
    exact h0 p hp'
  · intro h
    rw [(h0 p hp').uniq h]; rfl
def spAnswers (Z : Hp → Prop) : Sp := fun vs H Q _ => ∃ (n : Nat) (a : Addr) (rs : List Addr) (ds : List Deed), vs = [.int (n : Int), .ref a] ∧ H a = some (.lst (rs.map V.ref)) ∧ Ds H rs ds ∧ n ≤ 100 ∧ ds.length ≤ 100 ∧ Z H ∧
  ∀ (l : Addr) (xs : List V) (H' : Hp), Keep H H' → H' l = some (.lst xs) → xs.length = ds.length → (∀ (i : Nat) d x, ds[i]? = some d → xs[i]? = some x → AnsAt l H' x (sheetAt n ds i) d) → Q (.ref l) H'
/-! ### the object -/
theorem ts_ne : ¬ (("told" : Str) = "sheet") := by decide +kernel
theorem st_ne : ¬ (("sheet" : Str) = "told") := by decide +kernel
/-- the attributes, in the order in which __init__ stores them -/
def dfl (l t : Addr) : List (Str × V) := putF "told" (.ref t) (putF "sheet" (.ref l) [])
theorem dfl_eq (l t : Addr) : dfl l t = ([("sheet", V.ref l), ("told", V.ref t)] : List (Str × V)) := by
  show (if ("sheet" : Str) = "told" then [(("sheet" : Str), V.ref t)] else (("sheet" : Str), V.ref l) :: putF "told" (V.ref t) []) = ([("sheet", V.ref l), ("told", V.ref t)] : List (Str × V))
  rw [if_neg st_ne]
  all_goals rfl
theorem dfl_sheet (l t : Addr) : (dfl l t).lookup ("sheet" : Str) = some (.ref l) := by
  unfold dfl
  rw [lookup_putF, if_neg st_ne, lookup_putF, if_pos rfl]
theorem dfl_told (l t : Addr) : (dfl l t).lookup ("told" : Str) = some (.ref t) := by
  unfold dfl
  rw [lookup_putF, if_pos rfl]
theorem dfl_no (l t : Addr) {m : Str} (h1 : ¬ m = "told") (h2 : ¬ m = "sheet") : (dfl l t).lookup m = none := by
  unfold dfl
  rw [lookup_putF, if_neg h1, lookup_putF, if_neg h2]
  all_goals rfl
theorem dfl_put (l t l' t' : Addr) : putF "told" (.ref t') (putF "sheet" (.ref l') (dfl l t)) = dfl l' t' := by
  have e : putF "sheet" (.ref l') (dfl l t) = ([("sheet", V.ref l'), ("told", V.ref t)] : List (Str × V)) := by
    rw [dfl_eq]
    show (if ("sheet" : Str) = "sheet" then (("sheet" : Str), V.ref l') :: [(("told" : Str), V.ref t)] else _) = _
    rw [if_pos rfl]
  rw [e, dfl_eq]
  show (if ("sheet" : Str) = "told" then _ else (("sheet" : Str), V.ref l') :: (if ("told" : Str) = "told" then [(("told" : Str), V.ref t')] else _)) = _
  rw [if_neg st_ne, if_pos rfl]
/-- a Day stands at x; G: a list that is no part of it -/
structure DayAt (C G : Addr) (H : Hp) (x : Addr) (φs : List Fm) (os : List (Option Int)) : Prop where
  ob : ∃ dx l t rs, H x = some (.ins C dx (dfl l t)) ∧ H l = some (.lst (rs.map V.ref)) ∧ Sh H rs φs ∧ H t = some (.lst (os.map optV)) ∧ l ≠ G ∧ t ≠ G
  res : IsRes φs os
theorem DayAt.updG {C G : Addr} {H : Hp} {x : Addr} {φs : List Fm} {os : List (Option Int)} {o : HO} (d : DayAt C G H x φs os) (hx : x ≠ G) (hG : ∀ xs, H G ≠ some (.tup xs)) : DayAt C G (upd H G o) x φs os := by
  obtain ⟨⟨dx, l, t, rs, h1, h2, h3, h4, h5, h6⟩, res⟩ := d
  refine ⟨⟨dx, l, t, rs, by rw [upd_ne hx]; exact h1, by rw [upd_ne h5]; exact h2, ⟨h3.1, fun i r φ a b => ?_⟩, by rw [upd_ne h6]; exact h4, h5, h6⟩, res⟩
  have e := h3.2 i r φ a b
  rw [upd_ne (fun z => hG _ (by rw [← z]; exact e))]; exact e
/-- all stays but x and tables of defs -/
def KB (x : Addr) (H H' : Hp) : Prop := ∀ b o, H b = some o → b ≠ x → (∀ ps, o ≠ .tbl ps) → H' b = some o
def spInitD (C : Addr) (Z : Hp → Prop) : Sp := fun vs H Q _ => ∃ (x dx : Addr) (n : Nat), vs = [.ref x, .int (n : Int)] ∧ H x = some (.ins C dx []) ∧ n ≤ 100 ∧ Z H ∧
  ∀ (H' : Hp) (os : List (Option Int)), (∀ G, H' G = none → DayAt C G H' x (List.replicate n (.num 0)) os) → Z H' → KB x H H' → Q .non H'
def spPutD (C CN : Addr) (Z : Hp → Prop) : Sp := fun vs H Q E => ∃ (x r G : Addr) (φs : List Fm) (os : List (Option Int)) (p : Int) (φ : Fm), vs = [.ref x, .int p, .ref r] ∧ DayAt C G H x φs os ∧ H r = some (.tup φ.v) ∧ (∃ xs, H G = some (.lst xs)) ∧ φs.length ≤ 100 ∧ Z H ∧
  (0 ≤ p → p < φs.length → ∀ (m : Addr) (us : List (Option Int)) (H' : Hp), KB x H H' → DayAt C G H' x (φs.set p.toNat φ) us → Z H' → m ≠ G → H' m = some (.lst (vN (moved os us))) → Q (.ref m) H') ∧ (p < 0 ∨ (φs.length : Int) ≤ p → E (.ref CN) none H)
def spLookD (C CN : Addr) : Sp := fun vs H Q E => ∃ (x G : Addr) (φs : List Fm) (os : List (Option Int)) (p : Int), vs = [.ref x, .int p] ∧ DayAt C G H x φs os ∧
  (0 ≤ p → p < φs.length → Q (optV (os.getD p.toNat none)) H) ∧ (p < 0 ∨ (φs.length : Int) ≤ p → E (.ref CN) none H)
def spAnswer (C : Addr) (Z : Hp → Prop) : Sp := fun vs H Q _ => ∃ (x r G : Addr) (φs : List Fm) (os : List (Option Int)) (d : Deed), vs = [.ref x, .ref r] ∧ DayAt C G H x φs os ∧ DeedAt H r d ∧ (∃ xs, H G = some (.lst xs)) ∧ φs.length ≤ 100 ∧ Z H ∧
  ∀ (v : V) (us : List (Option Int)) (H' : Hp), KB x H H' → DayAt C G H' x (stepD φs d) us → Z H' → AnsAt G H' v φs d → Q v H'
theorem optV_inj {o u : Option Int} : optV o = optV u ↔ o = u := by cases o <;> cases u <;> simp [optV]
theorem scal_opt (o u : Option Int) : scal (optV o) (optV u) = true := by cases o <;> cases u <;> rfl
end LS

namespace L2
open PySem PySem.Spec PyProof.Rows
/-! ### function objects with a closure -/
def CodeH (c : Addr) (q : Str) : HO := .ext fun h => h.CodeRec (.ref c) q
def FnH (g : Addr) (fd : FuncData) : HO := .ext fun h => h.get? g = some { cls := .type "function", data := .func fd }
/-- a cell stands at c and holds x -/
def CellAt (H : Hp) (c : Addr) (x : V) : Prop := ∃ o u, H c = some (.frz o (.own c)) ∧ o.data = .cell (some u) ∧ RelV x u
section
variable {P : Program} {w : World} {H : Hp} {h : Heap}
theorem codeH_ok {c : Addr} {q : Str} (x : h.CodeRec (.ref c) q) : ObjOk P w H h c (CodeH c q) := by
  refine ⟨x, ?_, fun h1 h2 y k => ?_⟩
  · obtain ⟨c', o, vs, t, e, ho, r⟩ := x
    cases e
    exact ⟨o, ho⟩
  · obtain ⟨c', o, vs, t, e, ho, r⟩ := y
    cases e
    exact ⟨c, o, vs, t, rfl, k o ho, r⟩
theorem fnH_ok {g : Addr} {fd : FuncData} (x : h.get? g = some { cls := .type "function", data := .func fd }) : ObjOk P w H h g (FnH g fd) := ⟨x, ⟨_, x⟩, fun _ _ y k => k _ y⟩
end
/-- the cells of a closure hold what was captured -/
structure CloH (H : Hp) (cl : List (Str × Addr)) (caps : List (Str × V)) : Prop where
  inj : ∀ y z c, cl.lookup y = some c → cl.lookup z = some c → y = z
  all : ∀ y c, cl.lookup y = some c → ∃ x, (y, x) ∈ caps ∧ CellAt H c x
  at' : ∀ y x, (y, x) ∈ caps → ∃ c, cl.lookup y = some c ∧ CellAt H c x
theorem CloH.same {H H' : Hp} {cl : List (Str × Addr)} {caps : List (Str × V)} (C : CloH H cl caps) (s : ∀ y c, cl.lookup y = some c → ∀ o, H c = some (.frz o (.own c)) → H' c = some (.frz o (.own c))) : CloH H' cl caps :=
  ⟨C.inj, fun y c e => let ⟨x, m, o, u, q, r⟩ := C.all y c e; ⟨x, m, o, u, s y c e o q, r⟩, fun y x m => let ⟨c, e, o, u, q, r⟩ := C.at' y x m; ⟨c, e, o, u, s y c e o q, r⟩⟩
open Classical in
noncomputable def delC (H : Hp) (cl : List (Str × Addr)) : Hp := fun b => if ∃ y, cl.lookup y = some b then none else H b
open Classical in
noncomputable def addC (H : Hp) (cl : List (Str × Addr)) (H' : Hp) : Hp := fun b => if ∃ y, cl.lookup y = some b then H b else H' b
section
variable {H H' : Hp} {cl : List (Str × Addr)} {caps : List (Str × V)} {b : Addr}
theorem delC_in (h : ∃ y, cl.lookup y = some b) : delC H cl b = none := by unfold delC; rw [if_pos h]
theorem delC_out (h : ¬ ∃ y, cl.lookup y = some b) : delC H cl b = H b := by unfold delC; rw [if_neg h]
theorem addC_in (h : ∃ y, cl.lookup y = some b) : addC H cl H' b = H b := by unfold addC; rw [if_pos h]
theorem addC_out (h : ¬ ∃ y, cl.lookup y = some b) : addC H cl H' b = H' b := by unfold addC; rw [if_neg h]
theorem addC_del : addC H cl (delC H cl) = H := by
  funext b
  by_cases h : ∃ y, cl.lookup y = some b
  · rw [addC_in h]
  · rw [addC_out h, delC_out h]
/-- what stands in the closure's cells is no tuple, no own dict, .. -/
theorem CloH.ext (C : CloH H cl caps) (h : ∃ y, cl.lookup y = some b) : ∃ o, H b = some (.frz o (.own b)) := let ⟨y, e⟩ := h; let ⟨_, _, o, _, q, _⟩ := C.all y b e; ⟨o, q⟩
theorem CloH.notin (C : CloH H cl caps) {o : HO} (e : H b = some o) (n : ∀ z, o ≠ .frz z (.own b)) : ¬ ∃ y, cl.lookup y = some b := fun h => by
  obtain ⟨x, q⟩ := C.ext h
  rw [e] at q
  exact n x (Option.some.inj q)
theorem CloH.free (C : CloH H cl caps) (e : H b = none) : ¬ ∃ y, cl.lookup y = some b := fun h => by
  obtain ⟨x, q⟩ := C.ext h
  rw [e] at q; cases q
theorem delC_keep (C : CloH H cl caps) {o : HO} (e : H b = some o) (n : ∀ z, o ≠ .frz z (.own b)) : delC H cl b = some o := by rw [delC_out (C.notin e n)]; exact e
theorem delC_none (C : CloH H cl caps) (e : H b = none) : delC H cl b = none := by rw [delC_out (C.free e)]; exact e
theorem delC_ok {P : Program} {w : World} {h : Heap} (C : CloH H cl caps) (x : HOk P w H h) : HOk P w (delC H cl) h := fun a o e => by
  by_cases hb : ∃ y, cl.lookup y = some a
  · rw [delC_in hb] at e; cases e
  · rw [delC_out hb] at e
    exact (x a o e).stay (fun _ _ _ q => q) (fun c q => delC_keep C q (fun _ z => by cases z)) fun c xs q => delC_keep C q (fun _ z => by cases z)
theorem env0_del {P : Program} {w : World} {K : PySem.W.Frag} {mg : Str → Option Value} {base : Heap} {A : Around} {outer : List Env} {s : Shared} (C : CloH H cl caps) (e0 : Env0 P w K mg base A outer s H) : Env0 P w K mg base A outer s (delC H cl) :=
  ⟨e0.frames, e0.mod, fun b o e => ⟨(e0.bs b o e).1, delC_none C (e0.bs b o e).2⟩, e0.bsz, e0.funs, fun b hb => delC_none C (e0.frf b hb), delC_ok C e0.hok, e0.bare⟩
/-- behind the call the cells are tracked again -/
theorem ce_back {P : Program} {w : World} {outer : List Env} {s s' : Shared} {Q Q' : VK} {u : Value} {K : PySem.W.Frag} {mg : Str → Option Value} {base : Heap} {A : Around} (C : CloH H cl caps) (e0 : Env0 P w K mg base A outer s H) (hq : ∀ v H', Q v H' → Q' v (addC H cl H'))
    (h : CE outer P w (delC H cl) s Q u s') : CE outer P w H s Q' u s' := by
  obtain ⟨v, H', os, bare, un, hok, r, q⟩ := h
  have keepC : ∀ b o, (∃ y, cl.lookup y = some b) → s.heap.get? b = some o → s'.heap.get? b = some o := fun b o hb e => by
    refine un.keep b o e (delC_in hb) (fun hf => ?_) (by simp)
    obtain ⟨x, q⟩ := C.ext hb
    rw [e0.frf b hf] at q; cases q
  refine ⟨v, addC H cl H', os, bare, ⟨fun b o e n hb hx => un.keep b o e (delC_none C n) hb hx, fun b o e n hb hx => un.slot b o e (delC_none C n) hb hx, fun b o e n hx => ?_, un.there, fun b xs e => ?_, fun b o u e => ?_, fun b ps e => ?_⟩, fun a o e => ?_, r, hq v H' q⟩
  · rw [addC_out (C.free n)]; exact un.free b o e (delC_none C n) hx
  · rw [addC_out (C.notin e (fun _ z => by cases z))]; exact un.tups b xs (delC_keep C e (fun _ z => by cases z))
  · by_cases hb : ∃ y, cl.lookup y = some b
    · rw [addC_in hb]; exact e
    · rw [addC_out hb]; exact un.frzs b o u (by rw [delC_out hb]; exact e)
  · obtain ⟨more, e'⟩ := un.tbls b ps (delC_keep C e (fun _ z => by cases z))
    exact ⟨more, by rw [addC_out (C.notin e (fun _ z => by cases z))]; exact e'⟩
  · have gone : ∀ b, (∃ y, cl.lookup y = some b) → H' b = none := fun b hb => by
      obtain ⟨x, q'⟩ := C.ext hb
      obtain ⟨eo, _⟩ := e0.hok b _ q'
      exact un.free b x eo (delC_in hb) (by simp)
    have back : ∀ b z, H' b = some z → addC H cl H' b = some z := fun b z e => by
      rw [addC_out fun hb => by rw [gone b hb] at e; cases e]; exact e
    by_cases hb : ∃ y, cl.lookup y = some a
    · rw [addC_in hb] at e
      obtain ⟨x, q'⟩ := C.ext hb
      rw [q'] at e; cases e
      obtain ⟨eo, _⟩ := e0.hok a _ q'
      exact ⟨keepC a x hb eo, x, keepC a x hb eo⟩
    · rw [addC_out hb] at e
      exact (hok a o e).stay (fun _ _ _ q => q) (fun c q => back c _ q) fun c xs q => back c _ q
end
/-! ### the context of a closure's body: one parameter x, the captured names behind it -/
def cxClo (P : Program) (w : World) (K : PySem.W.Frag) (mg : Str → Option Value) (base : Heap) (N : List Str) (qual : Str) (scope : Scope) (g : Addr) (cd : Value) (cl : List (Str × Addr)) (A : Around) (outer : List Env) (s : Shared) (H : Hp) : Cx where
  prog := P
  w := w
  K := K
  mg := mg
  base := base
  A := A.deeper (PySem.W.envX qual scope s.heap.objs.size g cd cl)
  N := N
  s₀ := s
  H₀ := H
  env := PySem.W.envX qual scope s.heap.objs.size g cd cl
  outer := outer
  stack := PySem.W.envX qual scope s.heap.objs.size g cd cl :: outer
  ex := []
  calm := true
  fn := fun _ => false
  pn := []
  xe := fun _ _ => False
/-- the scope of a def within a def: a parameter, and what it takes from around -/
structure QScope (scope : Scope) (x : Str) (ys : List Str) : Prop where
  kind : scope.kind = .function
  co : scope.isCoroutine = false
  gen : scope.isGenerator = false
  cell : ∀ y ∈ scope.names, y.2 ≠ .cell
  var : scope.names.lookup x = some .local
  free : ∀ y ∈ scope.names, y.2 = .free → y.1 ∈ ys
  fr : ∀ y ∈ ys, scope.names.lookup y = some .free
theorem inv_clo {P : Program} {w : World} {K : PySem.W.Frag} {mg : Str → Option Value} {base : Heap} {qual : Str} {scope : Scope} {g : Addr} {cd : Value} {cl : List (Str × Addr)} {A : Around} {outer : List Env} {s : Shared} {H : Hp} {x : Str} {v : V} {u : Value} {caps : List (Str × V)} {h₁ : Heap} {tk : Nat}
    (S : QScope scope x (caps.map (·.1))) (C : CloH H cl caps) (hd : A.handled = none) (e0 : Env0 P w K mg base A outer s H) (r : RelV v u)
    (hns : h₁.Ns s.heap.objs.size (fun y => ([(x, u)] : List (Str × Value)).reverse.lookup y)) (k : ∀ b o, s.heap.get? b = some o → h₁.get? b = some o) :
    Inv (cxClo P w K mg base (x :: caps.map (·.1)) qual scope g cd cl A outer s (delC H cl)) [] (some v :: caps.map fun p => some p.2) (delC H cl) { s with heap := h₁, toks := tk } := by
  have e1 := env0_del C e0
  have noA : ∀ b : Addr, b ∉ ([] : List Addr) := fun b z => absurd z (by simp)
  have cellAt : ∀ y c, cl.lookup y = some c → ∃ x' u', (y, x') ∈ caps ∧ RelV x' u' ∧ h₁.IsCell c (some u') := fun y c e => by
    obtain ⟨x', m, o, u', q, d, r'⟩ := C.all y c e
    obtain ⟨ho, _⟩ := e0.hok c _ q
    exact ⟨x', u', m, r', o, k c o ho, d⟩
  refine ⟨⟨e1.mod, S.kind, rfl, rfl, Nat.le_refl _, fun y z c a b => C.inj y z c a b, fun y hy => ?_, fun y c z => (nomatch z), fun _ => hd, Around.frames_deeper e1.frames, .inr ⟨rfl, rfl⟩, fun b z => absurd z (noA b), e1.bs, e1.bsz, fun b _ _ => noA b, fun b z => absurd z (noA b), e1.funs, e1.frf⟩,
    rfl, e1.bare, Un.kept k, ⟨_, hns, fun i y z h1 h2 h3 => ?_⟩, fun y c e => ?_, e1.hok.fresh (Nat.le_refl _), fun y c e => delC_in ⟨y, e⟩, fun p hp => absurd (show p ∈ ([] : List (Addr × Obj)) from hp) (by simp), e1.hok.kept k, by simp [cxClo]⟩
  · have hy : scope.names.lookup y = some .cell ∨ scope.names.lookup y = some .free := hy
    rcases hy with hy | hy
    · exact absurd rfl (S.cell _ (PySem.mem_of_lookup hy))
    · have m := S.free _ (PySem.mem_of_lookup hy) rfl
      obtain ⟨p, hp, e⟩ := List.mem_map.mp m
      obtain ⟨c, ec, _⟩ := C.at' p.1 p.2 hp
      have e' : p.1 = y := e
      exact ⟨c, by rw [e'] at ec; exact ec⟩
  · cases i with
    | zero =>
      have ey : x = y := by simpa [cxClo] using h1
      have ev : v = z := by simpa using h2
      subst ey; subst ev
      exact ⟨u, r, .inl ⟨S.var, by simp⟩⟩
    | succ j =>
      have h1' : (caps.map (·.1))[j]? = some y := by simpa [cxClo] using h1
      have h2' : (caps.map fun p => some p.2)[j]? = some (some z) := by simpa using h2
      rw [List.getElem?_map] at h1' h2'
      cases q : caps[j]? with
      | none => rw [q] at h1'; cases h1'
      | some p =>
        rw [q] at h1' h2'
        have ey : p.1 = y := Option.some.inj h1'
        have ez : p.2 = z := Option.some.inj (Option.some.inj h2')
        have mp : (y, z) ∈ caps := by rw [← ey, ← ez]; exact List.mem_of_getElem? q
        obtain ⟨c, ec, o, u', qc, d, r'⟩ := C.at' y z mp
        obtain ⟨ho, _⟩ := e0.hok c _ qc
        refine ⟨u', r', .inr ⟨.inr (S.fr y (List.mem_map.mpr ⟨_, mp, rfl⟩)), c, ec, o, k c o ho, d⟩⟩
  · obtain ⟨_, u', _, _, z⟩ := cellAt y c e
    exact ⟨_, z⟩
/-- a call of the function at g, whatever the caller -/
def Callable (P : Program) (w : World) (K : PySem.W.Frag) (mg : Str → Option Value) (base : Heap) (k : Nat) (g : Addr) (vs : List V) (H : Hp) (Q : VK) : Prop :=
  ∀ (A : Around) (outer : List Env) (s : Shared) (us : List Value), Room k A → Env0 P w K mg base A outer s H → Vals vs us → codeAny (model P w) A (.call (.ref g) ⟨us, []⟩) (CR CX0 outer P w H s Q E0) s
/-- THE RULE for a closure of one parameter -/
theorem clo_call {P : Program} {w : World} {K : PySem.W.Frag} {mg : Str → Option Value} {base : Heap} {k : Nat} {name qual : Str} {params : Arguments} {body : List Stmt} {scope : Scope} {g c' : Addr} {doc pm ctv : Value} {cl : List (Str × Addr)} {H : Hp} {x : Str} {v : V} {caps : List (Str × V)} {Q : VK}
    (S : QScope scope x (caps.map (·.1))) (C : CloH H cl caps) (hg : H g = some (FnH g (PySem.W.fnX name qual params body scope cl .none .none doc pm none (.ref c') ctv))) (hc : H c' = some (CodeH c' qual))
    (hb : ∀ (s : Shared) (u : Value), BindsTo s (PySem.W.fnX name qual params body scope cl .none .none doc pm none (.ref c') ctv) ⟨[u], []⟩ [(x, u)])
    (hbody : ∀ (A : Around) (outer : List Env) (s : Shared), Room k (A.deeper (PySem.W.envX qual scope s.heap.objs.size g (.ref c') cl)) →
      ∃ t, PSs (cxClo P w K mg base (x :: caps.map (·.1)) qual scope g (.ref c') cl A outer s (delC H cl)) body t ∧ t { nx := fun _ H' => Q .non (addC H cl H'), rt := fun z H' => Q z (addC H cl H') } (some v :: caps.map fun p => some p.2) (delC H cl)) :
    Callable P w K mg base (k + 1) g [v] H Q := by
  intro A outer s us hr e0 rv
  obtain ⟨u, rfl, r⟩ := vals1 rv
  have lim : s.heap.NoLimit := e0.mod.nolimit.keeps fun b o e => (e0.bs b o e).1
  have ho : s.heap.get? g = some { cls := .type "function", data := .func (PySem.W.fnX name qual params body scope cl .none .none doc pm none (.ref c') ctv) } := (e0.hok g _ hg).1
  have hcd : s.heap.CodeRec (.ref c') qual := (e0.hok c' _ hc).1
  refine codeAny_call_function hr.depth ho rfl S.co S.gen rfl hcd (hb s u _ _ _ _ ?_)
  refine wpAny_newFunctionEnv S.cell (fun y hy => ?_) (fun h₁ hns hsb => ⟨lim.fresh _ hsb, codeAny_func ?_⟩) S.kind
  · rw [List.mem_singleton.mp hy]; exact S.var
  have hk : ∀ b o, s.heap.get? b = some o → h₁.get? b = some o := fun b o e => hsb.extBut b o (Nat.ne_of_lt (Heap.lt_size e)) (Heap.get?_push_of_some _ e)
  obtain ⟨t, ht, hq⟩ := hbody A outer s (hr.deeper _)
  have I := inv_clo (g := g) (cd := .ref c') (qual := qual) (tk := s.toks + ([(x, u)] : List (Str × Value)).length) S C hr.hd e0 r hns hk
  show wpAny (model P w) (A.deeper (PySem.W.envX qual scope s.heap.objs.size g (.ref c') cl)) (execs body (PySem.W.envX qual scope s.heap.objs.size g (.ref c') cl)) _ _ _
  refine wpAny_mono (ht [] _ _ _ _ I hq) (fun fl s' hs => ?_) fun e s' hs => hs.elim
  have fin : ∀ {σ' : St} {H' : Hp} {z : V} {u' : Value}, Inv (cxClo P w K mg base (x :: caps.map (·.1)) qual scope g (.ref c') cl A outer s (delC H cl)) [] σ' H' s' → RelV z u' → Q z (addC H cl H') → CE outer P w H s Q u' s' :=
    fun {σ' H' z u'} J rz q => ce_back (Q := fun z H' => Q z (addC H cl H')) C e0 (fun _ _ q => q) ⟨z, H', J.os, J.bare, J.base, J.hok, rz, q⟩
  cases fl with
  | ret u' =>
    obtain ⟨z, σ', H', J, rz, q⟩ := hs
    exact fin J rz q
  | next =>
    obtain ⟨σ', H', J, q⟩ := hs
    exact fin (z := V.non) (u' := Value.none) J rfl q
  | brk =>
    obtain ⟨_, _, _, q⟩ := hs
    exact False.elim q
  | cont =>
    obtain ⟨_, _, _, q⟩ := hs
    exact False.elim q
/-- f(e), f a name that holds a function object -/
def tCallV (X : Cx) (k i : Nat) (t : TA) : TE := fun σ H Q => ∃ g fd, σ[i]? = some (some (.ref g)) ∧ H g = some (FnH g fd) ∧ t σ H fun vs H1 => H1 g = some (FnH g fd) ∧ Callable X.prog X.w X.K X.mg X.base k g vs H1 Q
theorem pcV {X : Cx} {k i : Nat} {x : Str} {p pos : Pos} {e : Expr} {es : List Expr} {t : TA} (hr : Room k X.A) (hN : X.N[i]? = some x) (hv : Vis X.env.scope x) (ha : PA X (e :: es) t) (hd : (x == ("__debug__" : Str)) = false) (hcd : (x == ("__classdict__" : Str)) = false)
    (he : starEach (e :: es) X.env = (false, eval e X.env) :: starEach es X.env := by first | exact st_name | exact st_const | exact st_call | exact st_bin | exact st_sub | exact st_un | exact st_list | exact st_cmp | exact st_tup | exact st_comp)
    (hpl : (backTo pos (starEach es X.env)).any (·.1) = false := by rfl) : PE X (.Call (.Name x p) (e :: es) [] pos) (tCallV X k i t) := by
  intro pins s σ H Q I h
  obtain ⟨g, fd, hσ, hg, ht⟩ := h
  refine wpAny_Call_Name_kw (thn (pe_var (pos := p) hN hv hd hcd pins s σ H (fun v H' => v = .ref g ∧ H' = H) I ⟨_, hσ, rfl, rfl⟩) fun v s1 ⟨y, H1, I1, r1, e1, e2⟩ => ?_)
  subst e1; subst e2
  cases (show v = Value.ref g from r1)
  have at1 : ∀ {s2 : Shared} {H2 : Hp}, Inv X pins σ H2 s2 → H2 g = some (FnH g fd) → PySem.W.FnAt g s2.heap := fun {s2 H2} I2 q => ⟨_, _, _, _, (I2.hok g _ q).1⟩
  refine PySem.W.callWith_F (at1 I1 hg) (thn (ha pos pins s1 σ H1 _ I1 ht) fun us s2 ⟨vs, H2, I2, rv, hg2, hcall⟩ => ⟨at1 I2 hg2, ?_⟩) he hpl
  refine wpAny_call ?_
  refine codeAny_mono (hcall X.A X.stack s2 us hr I2.env0 rv) fun rr s' hq => ?_
  cases rr with
  | error e => exact (show False from hq).elim
  | ok fl =>
    cases fl with
    | ret u => exact I2.after hq
    | _ => exact False.elim hq
end L2

namespace L2
open PySem PySem.Spec PyProof.Rows
/-! ### a def within a def -/
abbrev trip (pos : Pos) (c : Addr) : Array Value := #[rawInt pos.line, rawInt pos.col, .ref c]
/-- the table at P of the def around: the def at pos has not been made yet, or its code stands at c -/
def TabOk (H : Hp) (P : Addr) (pos : Pos) (q : Str) : Prop := H P = some (.tbl #[]) ∨ ∃ c, H P = some (.tbl (trip pos c)) ∧ H c = some (CodeH c q)
/-- a def has been made at g -/
structure Nest (H H' : Hp) (P : Addr) (pos : Pos) (q : Str) (g c : Addr) (fd : FuncData) : Prop where
  fn : H' g = some (FnH g fd)
  code : H' c = some (CodeH c q)
  tab : H' P = some (.tbl (trip pos c))
  new : H g = none
  same : ∀ b o, H b = some o → b ≠ P → H' b = some o
/-- what of the module is needed to make a def -/
def BAt (base : Heap) (mg : Str → Option Value) : Prop := ∃ bm o, mg "__builtins__" = some (.ref bm) ∧ bm ≠ builtinsNs ∧ base.get? bm = some o ∧ o.cls = .type "module" ∧ o.dict = some builtinsNs ∧ o.data = .plain
def CodeK (K : PySem.W.Frag) (c P : Addr) : Prop := ∃ o, K.lookup c = some o ∧ ∀ h : Heap, h.get? c = some o → PySem.W.CodeHd h c P
theorem codeK_of {K : PySem.W.Frag} {h : Heap} {c P : Addr} {o : Obj} (X : K.In h) (C : PySem.W.CodeHd h c P) (l : K.lookup c = some o) : CodeK K c P := by
  refine ⟨o, l, fun h' e => ?_⟩
  obtain ⟨o', vs, file, tf, flags, tg, inF, text, tt, e1, r⟩ := C
  rw [X c o l] at e1; cases e1
  exact ⟨o, vs, file, tf, flags, tg, inF, text, tt, e, r⟩
theorem codeAmong_trip (pos : Pos) (c : Addr) : codeAmong pos (trip pos c).toList = some (.ref c) := by
  show (if ((pos.line : Int) == (pos.line : Int) && (pos.col : Int) == (pos.col : Int)) = true then some (Value.ref c) else codeAmong pos []) = some (.ref c)
  rw [if_pos (by simp)]
section
variable {X : Cx} {pins : List (Addr × Obj)} {σ : St} {H : Hp} {s : Shared}
theorem Inv.bat (I : Inv X pins σ H s) (B : BAt X.base X.mg) {P : Addr} {ps : Array Value} (hP : H P = some (.tbl ps)) : s.heap.BuiltinsAt X.mg P := by
  obtain ⟨bm, o, b1, b2, b3, b4, b5, b6⟩ := B
  have e := I.bk bm o b3
  have eP : s.heap.get? P = some { cls := .none, data := .fields ps } := I.hok P _ hP
  refine ⟨bm, o, b1, b2, fun q => ?_, fun q => ?_, e, b4, b5, b6⟩
  · obtain ⟨o', es, ep, e', hd, _⟩ := I.mod.glob
    rw [q, e'] at b3; cases b3; rw [hd] at b6; cases b6
  · rw [q, eP] at e; cases e; cases b4
/-- makeFunction in a body -/
theorem make_nest {name qual : Str} {params : Arguments} {body : List Stmt} {scope : Scope} {pos : Pos} {c P : Addr} {clos : List (Str × Addr)} {Q : Value → Shared → Prop} {E : Value → Shared → Prop} {n : Nat} (I : Inv X pins σ H s) (B : BAt X.base X.mg)
    (hcl : closureFor scope X.env = pure clos) (hcode : X.env.code = .ref c) (C : CodeK X.K c P) (hT : TabOk H P pos qual)
    (h : ∀ (g c' : Addr) (doc pm ctv : Value) (H' : Hp) (s' : Shared), Inv X pins σ H' s' → Nest H H' P pos qual g c' (PySem.W.fnX name qual params body scope clos .none .none doc pm none (.ref c') ctv) → Q (.ref g) s') :
    wpAny (model X.prog X.w) X.A (makeFunction name qual params (.stmts body) scope X.env [] [] [] pos n) Q E s := by
  have hgs : s.heap.Ns mainGlobals X.mg := I.mod.glob.keeps I.bk
  obtain ⟨oc, lc, hC⟩ := C
  have CH := hC s.heap (I.kIn c oc lc)
  rcases hT with hP | ⟨c', hP, hc'⟩
  · have eP : s.heap.get? P = some (PySem.W.tabObj #[]) := I.hok P _ hP
    have hgP : mainGlobals ≠ P := fun q => by
      obtain ⟨o, es, ep, e, hd, _⟩ := hgs
      rw [q, eP] at e; cases e; cases hd
    refine PySem.W.makeFunction_K hcl I.ok.glob hgs hcode CH eP trivial rfl hgP (I.bat B hP) fun c' ctv doc h' tk hx hge hlt hrec htb => ?_
    have fresh : ∀ {b : Addr}, s.heap.objs.size ≤ b → H b = none := fun hb => I.hok.fresh hb
    have hg : s.heap.objs.size ≤ h'.objs.size := Nat.le_of_lt (Nat.lt_of_le_of_lt hge hlt)
    have ne : ∀ b o, H b = some o → b ≠ c' ∧ b ≠ h'.objs.size := fun b o e => ⟨ne_of_none e (fresh hge), ne_of_none e (fresh hg)⟩
    have neg : ∀ b o, s.heap.get? b = some o → b ≠ c' ∧ b ≠ h'.objs.size := fun b o e => ⟨Nat.ne_of_lt (Nat.lt_of_lt_of_le (Heap.lt_size e) hge), Nat.ne_of_lt (Nat.lt_of_lt_of_le (Heap.lt_size e) hg)⟩
    have hcg : c' ≠ h'.objs.size := Nat.ne_of_lt hlt
    have hPc : P ≠ c' ∧ P ≠ h'.objs.size := ne P _ hP
    generalize hfd : PySem.W.fnX name qual params body scope clos .none .none doc ((X.mg "__name__").getD .none) none (.ref c') ctv = fd
    have up : ∀ b, b ≠ P → b ≠ c' → b ≠ h'.objs.size → upd (upd (upd H P (.tbl (trip pos c'))) c' (CodeH c' qual)) h'.objs.size (FnH h'.objs.size fd) b = H b := fun b h1 h2 h3 => by rw [upd_ne h3, upd_ne h2, upd_ne h1]
    have kp : ∀ b o, b ≠ P → s.heap.get? b = some o → (h'.push { cls := .type "function", data := .func fd }).get? b = some o := fun b o hb e => Heap.get?_push_of_some _ (hx b o hb e)
    have atP : (h'.push { cls := .type "function", data := .func fd }).get? P = some { cls := .none, data := .fields (trip pos c') } := Heap.get?_push_of_some _ (by simpa using htb)
    have I' : Inv X pins σ (upd (upd (upd H P (.tbl (trip pos c'))) c' (CodeH c' qual)) h'.objs.size (FnH h'.objs.size fd)) { s with heap := h'.push { cls := .type "function", data := .func fd }, toks := tk } := by
      have nP : ∀ b, H b = none → b ≠ P := fun b n z => by rw [z, hP] at n; cases n
      refine I.un ⟨fun b o e n _ _ => kp b o (nP b n) e, fun b o e n _ _ => ⟨o.slots, kp b o (nP b n) e⟩, fun b o e n _ => ?_, fun b o e _ => ?_, fun b xs e => ?_, fun b o u e => ?_, fun b ps e => ?_⟩ fun b o e => ?_
      · rw [up b (nP b n) (neg b o e).1 (neg b o e).2]; exact n
      · by_cases hb : b = P
        · subst hb; exact ⟨_, atP⟩
        · exact ⟨o, kp b o hb e⟩
      · rw [up b (fun z => by rw [z, hP] at e; cases e) (ne b _ e).1 (ne b _ e).2]; exact e
      · rw [up b (fun z => by rw [z, hP] at e; cases e) (ne b _ e).1 (ne b _ e).2]; exact e
      · by_cases hb : b = P
        · subst hb
          rw [hP] at e; cases e
          exact ⟨trip pos c', by rw [upd_ne hPc.2, upd_ne hPc.1, upd_same]; simp⟩
        · exact ⟨#[], by rw [up b hb (ne b _ e).1 (ne b _ e).2, e]; simp⟩
      · by_cases h3 : b = h'.objs.size
        · subst h3; rw [upd_same] at e; cases e; exact fnH_ok (Heap.get?_push_size _ rfl)
        · rw [upd_ne h3] at e
          by_cases h2 : b = c'
          · subst h2; rw [upd_same] at e; cases e; exact codeH_ok (hrec.push _)
          · rw [upd_ne h2] at e
            by_cases h1 : b = P
            · subst h1; rw [upd_same] at e; cases e; exact atP
            · rw [upd_ne h1] at e
              refine (I.hok b o e).stay (fun d v hd q => kp d v (fun z => ?_) q) (fun d q => ?_) fun d xs q => ?_
              · rcases hd with rfl | hd
                · exact h1 z
                · rw [z, hP] at hd; cases hd
              · rw [up d (fun z => by rw [z, hP] at q; cases q) (ne d _ q).1 (ne d _ q).2]; exact q
              · rw [up d (fun z => by rw [z, hP] at q; cases q) (ne d _ q).1 (ne d _ q).2]; exact q
    subst hfd
    refine h h'.objs.size c' doc ((X.mg "__name__").getD .none) ctv _ _ I' ⟨upd_same, by rw [upd_ne hcg, upd_same], by rw [upd_ne hPc.2, upd_ne hPc.1, upd_same], fresh hg, fun b o e hb => by rw [up b hb (ne b o e).1 (ne b o e).2]; exact e⟩
  · have eP : s.heap.get? P = some (PySem.W.tabObj (trip pos c')) := I.hok P _ hP
    refine PySem.W.makeFunction_hit hcl I.ok.glob hgs hcode CH eP (show True from trivial) (codeAmong_trip pos c') (I.bat B hP) fun ctv doc h' tk hk hsz => ?_
    have I' := I.laid (a := h'.objs.size) (o := FnH h'.objs.size (PySem.W.fnX name qual params body scope clos .none .none doc ((X.mg "__name__").getD .none) none (.ref c') ctv)) (t' := tk) (h' := h'.push { cls := .type "function", data := .func (PySem.W.fnX name qual params body scope clos .none .none doc ((X.mg "__name__").getD .none) none (.ref c') ctv) })
      (fun b u e => Heap.get?_push_of_some _ (hk b u e)) hsz (fnH_ok (Heap.get?_push_size _ rfl))
    have fr : H h'.objs.size = none := I.hok.fresh hsz
    exact h h'.objs.size c' doc _ ctv _ _ I' ⟨upd_same, by rw [upd_ne (ne_of_none hc' fr)]; exact hc', by rw [upd_ne (ne_of_none hP fr)]; exact hP, fr, fun b o e _ => by rw [upd_ne (ne_of_none e fr)]; exact e⟩
/-- def nm(..): ..; return nm -/
theorem nest_ret {nm : Str} {params : Arguments} {body : List Stmt} {scope : Scope} {pos p1 p2 : Pos} {c P : Addr} {i : Nat} (I : Inv X pins σ H s) (B : BAt X.base X.mg) (hc : CmpC.Has X.env scope.names) (hcode : X.env.code = .ref c) (C : CodeK X.K c P) (hT : TabOk H P pos (qualnameIn X.env nm nm))
    (hd0 : params.defaults = []) (hk0 : params.kw_defaults = []) (ha : annTrees params none X.env = []) (hN : X.N.Nodup) (hi : X.N[i]? = some nm) (hl : Loc X.env.scope nm) (hf : X.fn nm = true) (hd : (nm == ("__debug__" : Str)) = false) (hcd : (nm == ("__classdict__" : Str)) = false) :
    wpAny (model X.prog X.w) X.A (execs [.FunctionDef nm params body [] none [] scope none nm pos, .Return (some (.Name nm p1)) p2] X.env)
      (fun fl s' => ∃ (g c' : Addr) (doc pm ctv : Value) (H' : Hp), fl = .ret (.ref g) ∧ Inv X pins (σ.set i (some (.ref g))) H' s' ∧ Nest H H' P pos (qualnameIn X.env nm nm) g c' (PySem.W.fnX nm (qualnameIn X.env nm nm) params body scope (CmpC.clOf X.env scope.names []) .none .none doc pm none (.ref c') ctv)) X.xe s := by
  refine wpAny_execs_cons (PySem.W.nestDef_K hd0 hk0 ha (make_nest I B (CmpC.closure_ok hc) hcode C hT fun g c' doc pm ctv H' s1 I1 N1 => ?_))
  refine store_ok I1 hN hi hl (v := .ref g) rfl (fun s2 I2 => ?_) (.inl hf)
  have hiσ : i < σ.length := by rw [I1.len]; exact (List.getElem?_eq_some_iff.mp hi).1
  refine wpAny_execs_cons (wpAny_Return_some (thn (pe_var (pos := p1) hi (hl.elim .inl fun z => .inr (.inl z)) hd hcd pins s2 _ H' (fun v H'' => v = .ref g ∧ H'' = H') I2 ⟨_, List.getElem?_set_self hiσ, rfl, rfl⟩) fun u s3 ⟨v, H3, I3, r3, e1, e2⟩ => ?_))
  subst e1; subst e2
  cases (show u = Value.ref g from r3)
  exact ⟨g, c', doc, pm, ctv, H3, rfl, I3, N1⟩
/-- a cell that was made in the call, tracked from its end on -/
theorem track_cell {P : Program} {w : World} {outer : List Env} {h h' : Heap} {H H' : Hp} {c : Addr} {o : Obj} (un : Un (frs outer) [] H H' h h') (hok : HOk P w H' h') (hn : H' c = none) (hc : h.objs.size ≤ c) (z : h'.get? c = some o) :
    Un (frs outer) [] H (upd H' c (.frz o (.own c))) h h' ∧ HOk P w (upd H' c (.frz o (.own c))) h' := by
  have ne : ∀ b o, H' b = some o → b ≠ c := fun b o e => ne_of_none e hn
  refine ⟨⟨un.keep, un.slot, fun b o e n hx => ?_, un.there, fun b xs e => ?_, fun b o v e => ?_, fun b ps e => ?_⟩, fun b o e => ?_⟩
  · rw [upd_ne (Nat.ne_of_lt (Nat.lt_of_lt_of_le (Heap.lt_size e) hc))]; exact un.free b o e n hx
  · have := un.tups b xs e; rw [upd_ne (ne b _ this)]; exact this
  · have := un.frzs b o v e; rw [upd_ne (ne b _ this)]; exact this
  · obtain ⟨more, e'⟩ := un.tbls b ps e
    exact ⟨more, by rw [upd_ne (ne b _ e')]; exact e'⟩
  · by_cases hb : b = c
    · subst hb; rw [upd_same] at e; cases e; exact ⟨z, _, z⟩
    · rw [upd_ne hb] at e
      exact (hok b o e).stay (fun _ _ _ q => q) (fun d q => by rw [upd_ne (ne d _ q)]; exact q) fun d xs q => by rw [upd_ne (ne d _ q)]; exact q
/-- a captured name's cell, as it stands in the body -/
theorem Inv.cap (I : Inv X pins σ H s) {j : Nat} {y : Str} {v : V} (hN : X.N[j]? = some y) (hσ : σ[j]? = some (some v)) (hk : X.env.scope.names.lookup y = some .cell) (hf : X.fn y = true) :
    ∃ c u, X.env.cells.lookup y = some c ∧ RelV v u ∧ s.heap.IsCell c (some u) ∧ H c = none ∧ X.s₀.heap.objs.size ≤ c := by
  obtain ⟨m, hm, hl⟩ := I.loc
  obtain ⟨u, r, l⟩ := hl j y v hN hσ (.inr (.inl hk))
  rcases l with ⟨z, _⟩ | ⟨_, c, e, z⟩
  · rw [show X.env.kindOf y = X.env.scope.names.lookup y from rfl, hk] at z; cases z
  · exact ⟨c, u, e, r, z, I.freeC y c e, I.ok.cab y c hf e⟩
end
/-- THE RULE for a def by its raw end: the value, the slots and the heap behind it, and the state; cells may be tracked then -/
theorem fn_raw {P : Program} {w : World} {K : PySem.W.Frag} {mg : Str → Option Value} {base : Heap} {k : Nat} {x qual : Str} {st : Stmt} {f : Addr} {fd : FuncData} {N ps : List Str} {sp : Sp} (F : Fun K x qual st f fd) (S : FnScope N ps (defScope st)) (len : ∀ vs H Q E, sp vs H Q E → vs.length = ps.length)
    (hbody : ∀ (cdv : Value) (A : Around) (outer : List Env) (s s1 : Shared) (H : Hp) (vs : List V) (Q : VK) (E : XK), PySem.W.codeIn K cdv qual = true → fd.code = cdv → Room k (A.deeper (envOfC qual (defScope st) s.heap.objs.size f cdv)) → sp vs H Q E →
      Inv (cxOf CX0 P w K mg base N qual (defScope st) f cdv A outer s H E).nox [] (start N vs) H s1 →
      wpAny (model P w) (A.deeper (envOfC qual (defScope st) s.heap.objs.size f cdv)) (execs (defBody st) (envOfC qual (defScope st) s.heap.objs.size f cdv)) (fun fl s' => ∃ u, fl = .ret u ∧ CE outer P w H s Q u s') (fun _ _ => False) s1) :
    FnOk P w K mg base CX0 (k + 1) f fd ps sp := by
  obtain ⟨oc, od, kV, doc, pm, an, cdv, ct, osl, rfl, lk, hcd⟩ := F.ex
  refine ⟨len, fun A outer s H args us vs Q E hr e0 hb r hsp => ?_⟩
  have hl := len _ _ _ _ hsp
  have KX : K.In s.heap := e0.mod.kin.keeps fun b o e => (e0.bs b o e).1
  have lim : s.heap.NoLimit := e0.mod.nolimit.keeps fun b o e => (e0.bs b o e).1
  have hkind : ∀ y ∈ ps.zip us, (defScope st).names.lookup y.1 = some .local ∨ ((defScope st).names.lookup y.1 = some .cell ∧ ((cellsFrom (s.heap.objs.size + 1) (defScope st).names []).lookup y.1).isSome = true) := fun ⟨n, v⟩ hy => by
    rcases S.par n (List.of_mem_zip hy).1 with q | q
    · exact .inl q
    · exact .inr ⟨q, PySem.W.cellsFrom_some _ _ _ (.inl q)⟩
  refine codeAny_call_function hr.depth (KX _ _ lk) rfl S.co S.gen rfl (PySem.W.codeRec_of KX hcd) (hb _ _ _ _ ?_)
  refine wpAny_newFunctionEnv_cells S.kind hkind fun env he s1 x => ?_
  subst he
  refine ⟨lim.keeps x.toInCall.keep, codeAny_func ?_⟩
  have I := (inv_start (CX := CX0) (P := P) (w := w) (K := K) (mg := mg) (base := base) (qual := qual) (f := f) (cd := cdv) (E := E) S hr.hd e0 hl r x).wish (fun _ _ => False)
  refine wpAny_mono (hbody cdv A outer s s1 H vs Q E hcd rfl (hr.deeper _) hsp I) (fun fl s' hs => ?_) fun e s' hs => hs.elim
  obtain ⟨u, rfl, ce⟩ := hs
  exact ce
end L2

namespace L2
open PySem PySem.Spec PyProof.Rows
/-- nothing is tracked but the script and the tables of the defs that hold a def -/
def OnlyT (tabs : List Addr) (H : Hp) : Prop := ∀ b, H b = none ∨ (∃ o xs, H b = some (.frz o (.lst xs))) ∨ (b ∈ tabs ∧ H b = some (.tbl #[]))
theorem law_callT {P : Program} {w : World} {K : PySem.W.Frag} {mg mb : Str → Option Value} {k : Nat} {fa a : Addr} {fd : FuncData} {x : Str} {sp : Sp} {s₁ : Shared} {vs : List Value} {ns : List Int} {tabs : List Addr}
    (KX : K.In s₁.heap) (hns : s₁.heap.Ns mainGlobals mg) (hb : s₁.heap.Ns builtinsNs mb) (hbb : ∀ x : Str, x ≠ "__name__" → mb x = bootBuiltins x) (hlim : s₁.heap.NoLimit) (hg : s₁.gens = #[])
    (hB : BAt s₁.heap mg) (hT : ∀ q ∈ tabs, s₁.heap.get? q = some (PySem.W.tabObj #[]) ∧ isCodeTable s₁.heap q) (hKT : PySem.W.noTabs K = true)
    (ha : s₁.heap.get? a = some { cls := .type "list", data := .seq vs.toArray }) (hi : IntsAre vs ns) (hl : ns.length ≤ sizeLine) (hr : Room k callerA)
    (F : ∀ base : Heap, K.In base → base.Ns mainGlobals mg → BAt base mg → FnOk P w K mg base CX0 k fa fd [x] sp) (hbind : ∀ (s : Shared) (u : Value), BindsTo s fd ⟨[u], []⟩ [(x, u)])
    (hsp : ∀ H : Hp, (∀ q ∈ tabs, H q = some (.tbl #[])) → SqL K H a (ns.map V.int) → sp [.ref a] H (fun v _ => v = .bl true) fun _ _ _ => False) :
    codeAny (model P w) callerA (.call (.ref fa) ⟨[.ref a], []⟩) (fun r s' => r = .ok (.ret (.bool true)) ∧ OldK s₁.heap s'.heap ∧ s'.os = s₁.os ∧ AllBare s'.gens) s₁ := by
  have rv := vals_ints hi
  have lenV := hi.length
  have naT : a ∉ tabs := fun z => by have := (hT a z).1; rw [ha] at this; cases this
  have core : ∀ H : Hp, OnlyT tabs H → (∀ q ∈ tabs, H q = some (.tbl #[])) → SqL K H a (ns.map V.int) → HOk P w H s₁.heap → (∀ b, H b ≠ none → b = a ∨ b ∈ tabs) → (H a ≠ none → K.lookup a = none) →
      codeAny (model P w) callerA (.call (.ref fa) ⟨[.ref a], []⟩) (fun r s' => r = .ok (.ret (.bool true)) ∧ OldK s₁.heap s'.heap ∧ s'.os = s₁.os ∧ AllBare s'.gens) s₁ := by
    intro H hO hTb hS hok hA hK
    have base_of : ∀ {b : Addr} {o : Obj}, s₁.heap.get? b = some o → H b = none → (hidT s₁.heap H).get? b = some o := fun e n => hidT_get e n
    have un1 : ∀ {b : Addr} {o : Obj}, s₁.heap.get? b = some o → o.cls ≠ .type "list" ∨ (∃ es ep, o.data = .dict es ep) → o ≠ PySem.W.tabObj #[] → H b = none := fun {b o} e d nt => by
      cases q : H b with
      | none => rfl
      | some u =>
        rcases hA b (by rw [q]; simp) with e' | e'
        · subst e'
          rw [ha] at e; cases e
          rcases d with d | ⟨es, ep, d⟩
          · exact absurd rfl d
          · cases d
        · have := (hT b e').1
          rw [e] at this; exact absurd (Option.some.inj this) nt
    have noA : ∀ {b : Addr} {o : Obj} {es : Array DictEntry} {ep : Nat}, s₁.heap.get? b = some o → o.data = .dict es ep → H b = none := fun {b o es ep} e d => un1 e (.inr ⟨es, ep, d⟩) (fun z => by subst z; cases d)
    have nsK : ∀ {b : Addr} {m : Str → Option Value}, s₁.heap.Ns b m → (hidT s₁.heap H).Ns b m := fun {b m} ⟨o, es, ep, e, d, r⟩ => ⟨o, es, ep, base_of e (noA e d), d, r⟩
    have hKb : K.In (hidT s₁.heap H) := fun b o e => base_of (KX b o e) (by
      cases q : H b with
      | none => rfl
      | some u =>
        rcases hA b (by rw [q]; simp) with e' | e'
        · subst e'
          rw [hK (by rw [q]; simp)] at e; cases e
        · have t := (hT b e').1
          rw [KX b o e] at t
          have t' : o = PySem.W.tabObj #[] := Option.some.inj t
          have h2 := List.all_eq_true.mp hKT (b, o) (PySem.W.mem_of_lookupK e)
          subst t'
          exact absurd (show false = true from h2) Bool.false_ne_true)
    have hM : Mod K mg (hidT s₁.heap H) := ⟨hKb, nsK hns, ⟨mb, nsK hb, hbb⟩, let ⟨mc, h1, h2⟩ := hlim; ⟨mc, nsK h1, h2⟩⟩
    have hBb : BAt (hidT s₁.heap H) mg := by
      obtain ⟨bm, o, b1, b2, b3, b4, b5, b6⟩ := hB
      exact ⟨bm, o, b1, b2, base_of b3 (un1 b3 (.inl (by rw [b4]; nofun)) (fun z => by rw [z] at b4; cases b4)), b4, b5, b6⟩
    have e0 : Env0 P w K mg (hidT s₁.heap H) callerA [] s₁ H := ⟨rfl, hM, fun b o e => of_hidT e, Nat.le_of_eq (hidT_size _ _), trivial, fun b hb => absurd (show b ∈ ([] : List Addr) from hb) (by simp), hok, .of_eq hg⟩
    refine codeAny_mono ((F _ hKb (nsK hns) hBb).run callerA [] s₁ H ⟨[.ref a], []⟩ [.ref a] [.ref a] _ _ hr e0 (hbind s₁ (.ref a)) (.cons rfl .nil) (hsp H hTb hS)) fun r s' h => ?_
    cases r with
    | error e => exact (show False from h).elim
    | ok fl =>
      cases fl with
      | next => exact False.elim h
      | brk => exact False.elim h
      | cont => exact False.elim h
      | ret u =>
        obtain ⟨v, H', os, bare, un, hok', r', q⟩ := h
        have q' : v = .bl true := q
        subst q'
        obtain rfl : u = Value.bool true := r'
        have old : ∀ b o, s₁.heap.get? b = some o → s'.heap.get? b = some o ∨ (b ∈ tabs ∧ o = PySem.W.tabObj #[] ∧ ∃ ps, s'.heap.get? b = some (PySem.W.tabObj ps)) := fun b o e => by
          cases q : H b with
          | none => exact .inl (un.keep b o e q (by intro z; exact absurd (show b ∈ ([] : List Addr) from z) (by simp)) (by simp))
          | some u =>
            rcases hO b with z | ⟨ob, xs, z⟩ | ⟨hbt, z⟩
            · rw [q] at z; cases z
            · have z2 := un.frzs b ob _ z
              obtain ⟨e1, _⟩ := hok b _ z
              obtain ⟨e2, _⟩ := hok' b _ z2
              rw [e] at e1; cases e1
              exact .inl e2
            · obtain ⟨more, z2⟩ := un.tbls b _ z
              have e2 : s'.heap.get? b = some { cls := .none, data := .fields (#[] ++ more) } := hok' b _ z2
              have t := (hT b hbt).1
              rw [e] at t
              exact .inr ⟨hbt, Option.some.inj t, _, e2⟩
        refine ⟨rfl, ⟨fun b o e => ?_, fun b o e => ?_⟩, os, bare⟩
        · rcases old b o e with z | ⟨hbt, rfl, ps, z⟩
          · exact .inl z
          · exact .inr (.inl ⟨(hT b hbt).2, rfl, #[], ps, rfl, by rw [Array.empty_append]; exact z⟩)
        · rcases old b o e with z | ⟨_, _, ps, z⟩
          · exact ⟨o, z⟩
          · exact ⟨_, z⟩
  open Classical in
  cases hk : K.lookup a with
  | some o =>
    have e := KX a o hk
    rw [ha] at e
    cases e
    refine core (fun b => if b ∈ tabs then some (.tbl #[]) else none) (fun b => ?_) (fun q hq => if_pos hq) (.inr ⟨_, vs.toArray, _, hk, rfl, rfl, rfl, by rw [List.size_toArray, lenV]; exact hl, by simpa using rv⟩) (fun b u z => ?_) (fun b z => ?_) fun z => absurd (if_neg naT) z
    · by_cases hb : b ∈ tabs
      · exact .inr (.inr ⟨hb, if_pos hb⟩)
      · exact .inl (if_neg hb)
    · by_cases hb : b ∈ tabs
      · have z' := (if_pos hb).symm.trans z
        cases z'
        exact (hT b hb).1
      · have z' := (if_neg hb).symm.trans z
        cases z'
    · by_cases hb : b ∈ tabs
      · exact .inr hb
      · exact absurd (if_neg hb) z
  | none =>
    have hne : ∀ q ∈ tabs, q ≠ a := fun q hq z => naT (z ▸ hq)
    refine core (fun b => if b = a then some (.frz { cls := .type "list", data := .seq vs.toArray } (.lst (ns.map V.int))) else if b ∈ tabs then some (.tbl #[]) else none) (fun b => ?_) (fun q hq => by simp only [if_neg (hne q hq), if_pos hq]) (.inl (.inr ⟨{ cls := .type "list", data := .seq vs.toArray }, if_pos rfl⟩)) (fun b u z => ?_) (fun b z => ?_) fun _ => hk
    · by_cases hb : b = a
      · exact .inr (.inl ⟨_, _, if_pos hb⟩)
      · by_cases hb2 : b ∈ tabs
        · exact .inr (.inr ⟨hb2, by simp only [if_neg hb, if_pos hb2]⟩)
        · exact .inl (by simp only [if_neg hb, if_neg hb2])
    · by_cases hb : b = a
      · have z' := (if_pos hb).symm.trans z
        cases z'
        subst hb
        exact ⟨ha, by rw [List.length_map]; exact hl, vs, _, rv, ha⟩
      · simp only [if_neg hb] at z
        by_cases hb2 : b ∈ tabs
        · simp only [if_pos hb2] at z
          cases z
          exact (hT b hb2).1
        · simp only [if_neg hb2] at z
          cases z
    · by_cases hb : b = a
      · exact .inl hb
      · by_cases hb2 : b ∈ tabs
        · exact .inr hb2
        · exact absurd (by simp only [if_neg hb, if_neg hb2]) z
/-- the head for a text with defs within defs; tabs: the addresses of their tables -/
theorem walk_ofT {l : PySem.W.OpenLaw} {n k : Nat} {q : Program} {loose : List Str} {XP : (Str → Option Value) → Heap → Prop} {YP : World → Heap → Prop} {d : DefRec} {K : Params → PySem.W.Frag} {sp : World → Sp} {x : Str} {tabs : List Addr}
    (hn : l.most = some n) (hn2 : n ≤ sizeLine) (hdf : d.params.defaults = []) (hr : Room k callerA)
    (hY : ∀ (w : World) (h : Heap), YP w h → (K w.params).In h) (hKT : ∀ w : World, PySem.W.noTabs (K w.params) = true)
    (F : ∀ (w : World) (mg mb : Str → Option Value) (mean : ExcName → Option Value) (lo : List Str) (fa : Addr) (h : Heap), (K w.params).In h → Top q lo mean mg mb h → mg d.name = some (.ref fa) →
      (∀ t ∈ tabs, h.get? t = some (PySem.W.tabObj #[]) ∧ isCodeTable h t) ∧
      ∃ fd : FuncData, (∀ (s : Shared) (u : Value), BindsTo s fd ⟨[u], []⟩ [(x, u)]) ∧
        ∀ base : Heap, (K w.params).In base → base.Ns mainGlobals mg → BAt base mg → FnOk l.prog w (K w.params) mg base CX0 k fa fd [x] (sp w))
    (hsp : ∀ (w : World) (H : Hp) (a : Addr) (ns : List Int), ns.length ≤ n → (∀ t ∈ tabs, H t = some (.tbl #[])) → SqL (K w.params) H a (ns.map V.int) → sp w [.ref a] H (fun v _ => v = .bl true) fun _ _ _ => False) :
    PySem.W.WalkO q loose XP YP l.row.toRowW d [] (fun f vs => PySem.call f vs) := by
  refine Att.attach_call hn hdf fun w s₀ s₁ mg mb fa o pm cd doc a vs ns G Y ho hd hcd hmg hobj hints hlen hg => ?_
  have KX := hY w _ Y
  obtain ⟨hT, fd, hb, hF⟩ := F w mg mb _ _ fa _ KX G.T hmg
  obtain ⟨bm, ob, b1, b2, b3, b4, b5, b6⟩ := G.T.bmain
  exact law_callT KX G.T.g G.T.b G.T.builtins G.T.nolimit hg ⟨bm, ob, b1, b2, b3, b4, b5, b6⟩ hT (hKT w) hobj hints (Nat.le_trans hlen hn2) hr hF hb (fun H hO hS => hsp w H a ns hlen hO hS)
end L2

set_option linter.all false
set_option maxRecDepth 100000
set_option maxHeartbeats 4000000
namespace K08
open PySem L2 LS
def top (i : Nat) : Stmt := PySem.Challenge.pw_leafsheet_k08_whole_day.main.body.getD i (.Pass ⟨0, 0, 0, 0⟩)
abbrev sOff : Stmt := top 4
abbrev sRequireCell : Stmt := top 5
abbrev sLeans : Stmt := top 7
abbrev sLooker : Stmt := top 8
abbrev sReading : Stmt := top 9
abbrev sValueOf : Stmt := top 10
abbrev sLeanedCells : Stmt := top 12
abbrev sLeaners : Stmt := top 13
abbrev sOrder : Stmt := top 14
abbrev sResults : Stmt := top 16
abbrev sChanged : Stmt := top 17
abbrev sAnswer : Stmt := top 20
abbrev sAnswers : Stmt := top 21
abbrev sUpto : Stmt := top 23
abbrev sDraw : Stmt := top 24
abbrev sWhole : Stmt := top 25
abbrev sAt : Stmt := top 26
abbrev sNamed : Stmt := top 27
abbrev sValue : Stmt := top 28
abbrev sWorth : Stmt := top 29
abbrev sDayFormula : Stmt := top 30
abbrev sDeeds : Stmt := top 31
abbrev sSame : Stmt := top 32
abbrev sReady : Stmt := top 33
abbrev sRounds : Stmt := top 34
abbrev sAlike : Stmt := top 35
abbrev sRow : Stmt := top 36
abbrev sLaw : Stmt := top 37
abbrev sDInit : Stmt := inClass (top 19) 0
abbrev sDPut : Stmt := inClass (top 19) 1
abbrev sDLook : Stmt := inClass (top 19) 2
/-- the class as the top has made it -/
structure TD (K : PySem.W.Frag) (mg : Str → Option Value) (C : Addr) : Prop where
  cl : Cls K C
  nS : NoAttr K C "sheet"
  nT : NoAttr K C "told"
  mgC : mg "Day" = some (.ref C)
def inDef (s : Stmt) (j : Nat) : Stmt := (defBody s).getD j (.Pass ⟨0, 0, 0, 0⟩)
def defPos (s : Stmt) : Pos := match s with
  | .FunctionDef _ _ _ _ _ _ _ _ _ p => p
  | _ => ⟨0, 0, 0, 0⟩
abbrev sLook : Stmt := inDef sLooker 0
abbrev sRead : Stmt := inDef sReading 1
abbrev q1 : Str := ("looker" : Str) ++ ".<locals>." ++ "look"
abbrev q2 : Str := ("reading" : Str) ++ ".<locals>." ++ "read"
/-! ### the closures -/
def LookAt (H : Hp) (g a : Addr) (cl : List (Str × Addr)) : Prop := ∃ c' doc pm ctv, H g = some (FnH g (PySem.W.fnX "look" q1 (defArgs sLook) (defBody sLook) (defScope sLook) cl .none .none doc pm none (.ref c') ctv)) ∧ H c' = some (CodeH c' q1) ∧ CloH H cl [("numbers", .ref a)]
def ReadAt (H : Hp) (g f : Addr) (φ : Fm) (cl : List (Str × Addr)) : Prop := ∃ c' doc pm ctv, H g = some (FnH g (PySem.W.fnX "read" q2 (defArgs sRead) (defBody sRead) (defScope sRead) cl .none .none doc pm none (.ref c') ctv)) ∧ H c' = some (CodeH c' q2) ∧ CloH H cl [("formula", .ref f), ("word", .str φ.wd)]
/-- all but the table at P stays -/
def But (P : Addr) (H H' : Hp) : Prop := ∀ b o, H b = some o → b ≠ P → H' b = some o
def spLooker (P1 : Addr) : Sp := fun vs H Q _ => ∃ a : Addr, vs = [.ref a] ∧ TabOk H P1 (defPos sLook) q1 ∧
  ∀ (g : Addr) (cl : List (Str × Addr)) (H' : Hp), LookAt H' g a cl → (∀ y c, cl.lookup y = some c → H c = none) → H g = none → But P1 H H' → TabOk H' P1 (defPos sLook) q1 → Q (.ref g) H'
def spReading (K : PySem.W.Frag) (P2 : Addr) : Sp := fun vs H Q _ => ∃ (f : Addr) (φ : Fm), vs = [.ref f] ∧ SqT K H f φ.v ∧ TabOk H P2 (defPos sRead) q2 ∧
  ∀ (g : Addr) (cl : List (Str × Addr)) (H' : Hp), ReadAt H' g f φ cl → H g = none → But P2 H H' → TabOk H' P2 (defPos sRead) q2 → Q (.ref g) H'
section
variable {P : Program} {w : World} {K : PySem.W.Frag} {mg : Str → Option Value} {base : Heap}
theorem scLooker : FnScope ["numbers", "look"] ["numbers"] (defScope sLooker) := ⟨rfl, rfl, rfl, by decide +kernel, rfl, by decide +kernel, by decide +kernel⟩
theorem capLook : ∀ y ∈ (defScope sLook).names, y.2 = .free → (defScope sLooker).names.lookup y.1 = some .cell := by decide +kernel
theorem frLook : ∀ y ∈ (defScope sLook).names, y.2 = .free → y.1 ∈ ([("numbers" : Str)]) := by decide +kernel
theorem frLook' : ∀ y ∈ ([("numbers" : Str)]), (y, NameKind.free) ∈ (defScope sLook).names := by decide +kernel
/-- looker(numbers) -/
theorem ok_looker {f c1 P1 : Addr} {fd : FuncData} (F : Fun K "looker" "looker" sLooker f fd) (hfc : fd.code = .ref c1) (C : CodeK K c1 P1) (B : BAt base mg) : FnOk P w K mg base CX0 1 f fd ["numbers"] (spLooker P1) := by
  refine fn_raw F scLooker (fun vs H Q E h => ?_) (fun cdv A outer s s1 H vs Q E hcd hfd hr h I => ?_)
  · obtain ⟨a, rfl, _⟩ := h
    rfl
  obtain ⟨a, rfl, hT, q⟩ := h
  have hcv : cdv = .ref c1 := hfd.symm.trans hfc
  have hh : CmpC.Has (cxOf CX0 P w K mg base ["numbers", "look"] "looker" (defScope sLooker) f cdv A outer s H E).nox.env (defScope sLook).names := fun n m => I.ok.has n (.inl (capLook (n, .free) m rfl))
  refine thn (nest_ret (X := (cxOf CX0 P w K mg base ["numbers", "look"] "looker" (defScope sLooker) f cdv A outer s H E).nox) (i := 1) I B hh hcv C hT rfl rfl rfl scLooker.nd rfl (.inl rfl) rfl (by decide +kernel) (by decide +kernel)) fun fl s' hs => ?_
  obtain ⟨g, c', doc, pm, ctv, H', rfl, I', N'⟩ := hs
  obtain ⟨c, u, ec, ru, ⟨o, zo, zd⟩, hc0, hcs⟩ := I'.cap (j := 0) (y := "numbers") (v := .ref a) rfl rfl rfl rfl
  have sub : ∀ {y : Str} {d : Addr}, (CmpC.clOf (cxOf CX0 P w K mg base ["numbers", "look"] "looker" (defScope sLooker) f cdv A outer s H E).nox.env (defScope sLook).names []).lookup y = some d → y = "numbers" ∧ d = c := fun {y d} e => by
    have e2 := CmpC.cl_sub _ _ y d hh (fun _ z => by simp at z) e
    have m := (CmpC.cl_mem _ _ y d e).resolve_right (by simp)
    have ey : y = "numbers" := List.mem_singleton.mp (frLook (y, .free) m rfl)
    subst ey
    rw [ec] at e2
    exact ⟨rfl, (Option.some.inj e2).symm⟩
  obtain ⟨d0, e0⟩ := CmpC.cl_has (env := (cxOf CX0 P w K mg base ["numbers", "look"] "looker" (defScope sLooker) f cdv A outer s H E).nox.env) (defScope sLook).names [] "numbers" (frLook' "numbers" (by simp))
  have ed := (sub e0).2
  rw [ed] at e0
  have ne : ∀ b z, H' b = some z → b ≠ c := fun b z e => ne_of_none e hc0
  obtain ⟨un, hok⟩ := track_cell I'.base I'.hok hc0 hcs zo
  have cat : CellAt (upd H' c (.frz o (.own c))) c (.ref a) := ⟨o, u, upd_same, zd, ru⟩
  refine ⟨.ref g, rfl, .ref g, _, I'.os, I'.bare, un, hok, rfl, ?_⟩
  refine q g _ _ ⟨c', doc, pm, ctv, by rw [upd_ne (ne _ _ N'.fn)]; exact N'.fn, by rw [upd_ne (ne _ _ N'.code)]; exact N'.code, ⟨fun y z d h1 h2 => (sub h1).1.trans (sub h2).1.symm, fun y d h1 => ⟨.ref a, ?_, ?_⟩, fun y x m => ?_⟩⟩ (fun y d h1 => ?_) N'.new (fun b z e hb => ?_) (.inr ⟨c', by rw [upd_ne (ne _ _ N'.tab)]; exact N'.tab, by rw [upd_ne (ne _ _ N'.code)]; exact N'.code⟩)
  · rw [(sub h1).1]; simp
  · rw [(sub h1).2]; exact cat
  · have e := List.mem_singleton.mp m
    cases e
    exact ⟨c, e0, cat⟩
  · rw [(sub h1).2]; exact I.freeC "numbers" c ec
  · rw [upd_ne (ne _ _ (N'.same b z e hb))]; exact N'.same b z e hb
theorem scReading : FnScope ["formula", "word", "read"] ["formula"] (defScope sReading) := ⟨rfl, rfl, rfl, by decide +kernel, rfl, by decide +kernel, by decide +kernel⟩
theorem capRead : ∀ y ∈ (defScope sRead).names, y.2 = .free → (defScope sReading).names.lookup y.1 = some .cell := by decide +kernel
theorem frRead : ∀ y ∈ (defScope sRead).names, y.2 = .free → y.1 ∈ ([("formula" : Str), "word"]) := by decide +kernel
theorem frRead' : ∀ y ∈ ([("formula" : Str), "word"]), (y, NameKind.free) ∈ (defScope sRead).names := by decide +kernel
theorem fw_ne : ¬ (("formula" : Str) = "word") := by decide +kernel
/-- reading(formula) -/
theorem ok_reading {f c1 P2 : Addr} {fd : FuncData} (F : Fun K "reading" "reading" sReading f fd) (hfc : fd.code = .ref c1) (C : CodeK K c1 P2) (B : BAt base mg) : FnOk P w K mg base CX0 1 f fd ["formula"] (spReading K P2) := by
  refine fn_raw F scReading (fun vs H Q E h => ?_) (fun cdv A outer s s1 H vs Q E hcd hfd hr h I => ?_)
  · obtain ⟨a, φ, rfl, _⟩ := h
    rfl
  obtain ⟨a, φ, rfl, hS, hT, q⟩ := h
  have hcv : cdv = .ref c1 := hfd.symm.trans hfc
  have hh : CmpC.Has (cxOf CX0 P w K mg base ["formula", "word", "read"] "reading" (defScope sReading) f cdv A outer s H E).nox.env (defScope sRead).names := fun n m => I.ok.has n (.inl (capRead (n, .free) m rfl))
  have first : PS (cxOf CX0 P w K mg base ["formula", "word", "read"] "reading" (defScope sReading) f cdv A outer s H E).nox (inDef sReading 0) (tAsg (tOp (rIxT K) (tVar 0) (tC (.int 0))) (gName 1)) := ps_set (i := 1) scReading.nd rfl (.inr rfl) (pe_ix ix_tup (pv 0) pe_int (fun _ _ => rfl))
  refine wpAny_execs_cons (thn (first [] s1 _ H ⟨fun σ' H' => σ' = [some (.ref a), some (.str φ.wd), none] ∧ H' = H, fun _ _ => False, fun _ _ => False, fun _ _ => False⟩ I ⟨_, rfl, a, _, 0, .str φ.wd, rfl, rfl, hS, φ.at0, rfl, rfl⟩) fun fl0 s2 q0 => ?_)
  cases fl0 with
  | brk => obtain ⟨_, _, _, z⟩ := q0; exact False.elim z
  | cont => obtain ⟨_, _, _, z⟩ := q0; exact False.elim z
  | ret v => obtain ⟨_, _, _, _, _, z⟩ := q0; exact False.elim z
  | next =>
  obtain ⟨σ2, H2, I2, rfl, rfl⟩ := q0
  refine thn (nest_ret (X := (cxOf CX0 P w K mg base ["formula", "word", "read"] "reading" (defScope sReading) f cdv A outer s H2 E).nox) (i := 2) I2 B hh hcv C hT rfl rfl rfl scReading.nd rfl (.inl rfl) rfl (by decide +kernel) (by decide +kernel)) fun fl s' hs => ?_
  obtain ⟨g, c', doc, pm, ctv, H', rfl, I', N'⟩ := hs
  obtain ⟨c, u, ec, ru, ⟨o, zo, zd⟩, hc0, hcs⟩ := I'.cap (j := 0) (y := "formula") (v := .ref a) rfl rfl rfl rfl
  obtain ⟨d, u', ed, ru', ⟨o', zo', zd'⟩, hd0, hds⟩ := I'.cap (j := 1) (y := "word") (v := .str φ.wd) rfl rfl rfl rfl
  have hcd' : c ≠ d := fun z => fw_ne (I'.ok.inj _ _ _ ec (by rw [z]; exact ed))
  have sub : ∀ {y : Str} {b : Addr}, (CmpC.clOf (cxOf CX0 P w K mg base ["formula", "word", "read"] "reading" (defScope sReading) f cdv A outer s H2 E).nox.env (defScope sRead).names []).lookup y = some b → (y = "formula" ∧ b = c) ∨ (y = "word" ∧ b = d) := fun {y b} e => by
    have e2 := CmpC.cl_sub _ _ y b hh (fun _ z => by simp at z) e
    have m := (CmpC.cl_mem _ _ y b e).resolve_right (by simp)
    rcases List.mem_cons.mp (frRead (y, .free) m rfl) with ey | ey
    · have ey : y = "formula" := ey
      subst ey
      rw [ec] at e2
      exact .inl ⟨rfl, (Option.some.inj e2).symm⟩
    · have ey : y = "word" := List.mem_singleton.mp ey
      subst ey
      rw [ed] at e2
      exact .inr ⟨rfl, (Option.some.inj e2).symm⟩
  obtain ⟨d0, e0⟩ := CmpC.cl_has (env := (cxOf CX0 P w K mg base ["formula", "word", "read"] "reading" (defScope sReading) f cdv A outer s H2 E).nox.env) (defScope sRead).names [] "formula" (frRead' "formula" (by simp))
  obtain ⟨d1, e1⟩ := CmpC.cl_has (env := (cxOf CX0 P w K mg base ["formula", "word", "read"] "reading" (defScope sReading) f cdv A outer s H2 E).nox.env) (defScope sRead).names [] "word" (frRead' "word" (by simp))
  have ed0 : d0 = c := by
    rcases sub e0 with z | z
    · exact z.2
    · exact absurd z.1 fw_ne
  have ed1 : d1 = d := by
    rcases sub e1 with z | z
    · exact absurd z.1.symm fw_ne
    · exact z.2
  subst ed0; subst ed1
  have ne : ∀ b z, H' b = some z → b ≠ d0 ∧ b ≠ d1 := fun b z e => ⟨ne_of_none e hc0, ne_of_none e hd0⟩
  obtain ⟨un, hok⟩ := track_cell I'.base I'.hok hc0 hcs zo
  obtain ⟨un2, hok2⟩ := track_cell un hok (by rw [upd_ne hcd'.symm]; exact hd0) hds zo'
  have up : ∀ b z, H' b = some z → upd (upd H' d0 (.frz o (.own d0))) d1 (.frz o' (.own d1)) b = some z := fun b z e => by rw [upd_ne (ne b z e).2, upd_ne (ne b z e).1]; exact e
  have cat : CellAt (upd (upd H' d0 (.frz o (.own d0))) d1 (.frz o' (.own d1))) d0 (.ref a) := ⟨o, u, by rw [upd_ne hcd', upd_same], zd, ru⟩
  have cat' : CellAt (upd (upd H' d0 (.frz o (.own d0))) d1 (.frz o' (.own d1))) d1 (.str φ.wd) := ⟨o', u', upd_same, zd', ru'⟩
  refine ⟨.ref g, rfl, .ref g, _, I'.os, I'.bare, un2, hok2, rfl, ?_⟩
  refine q g _ _ ⟨c', doc, pm, ctv, up _ _ N'.fn, up _ _ N'.code, ⟨fun y z b h1 h2 => ?_, fun y b h1 => ?_, fun y x m => ?_⟩⟩ N'.new (fun b z e hb => up _ _ (N'.same b z e hb)) (.inr ⟨c', up _ _ N'.tab, up _ _ N'.code⟩)
  · rcases sub h1 with z1 | z1 <;> rcases sub h2 with z2 | z2
    · rw [z1.1, z2.1]
    · exact absurd (z1.2.symm.trans z2.2) hcd'
    · exact absurd (z2.2.symm.trans z1.2) hcd'
    · rw [z1.1, z2.1]
  · rcases sub h1 with z | z
    · exact ⟨.ref a, by rw [z.1]; simp, by rw [z.2]; exact cat⟩
    · exact ⟨.str φ.wd, by rw [z.1]; simp, by rw [z.2]; exact cat'⟩
  · rcases List.mem_cons.mp m with e | m
    · cases e; exact ⟨d0, e0, cat⟩
    · cases List.mem_singleton.mp m; exact ⟨d1, e1, cat'⟩
end
end K08
namespace K08
open PySem L2 LS
theorem sqL_del {K : PySem.W.Frag} {H : Hp} {cl : List (Str × Addr)} {caps : List (Str × V)} {a : Addr} {xs : List V} (C : CloH H cl caps) (h : SqL K H a xs) : SqL K (delC H cl) a xs := by
  rcases h with (h | ⟨o, h⟩) | h
  · exact .inl (.inl (delC_keep C h (fun _ z => by cases z)))
  · exact .inl (.inr ⟨o, delC_keep C h (fun _ z => by cases z)⟩)
  · exact .inr h
theorem sqT_del {K : PySem.W.Frag} {H : Hp} {cl : List (Str × Addr)} {caps : List (Str × V)} {a : Addr} {xs : List V} (C : CloH H cl caps) (h : SqT K H a xs) : SqT K (delC H cl) a xs := by
  rcases h with (h | ⟨o, h⟩) | h
  · exact .inl (.inl (delC_keep C h (fun _ z => by cases z)))
  · exact .inl (.inr ⟨o, delC_keep C h (fun _ z => by cases z)⟩)
  · exact .inr h
/-- a function object, a code object stay where cells are dropped -/
theorem ext_del {H : Hp} {cl : List (Str × Addr)} {caps : List (Str × V)} {b : Addr} {φ : Heap → Prop} (C : CloH H cl caps) (h : H b = some (.ext φ)) : delC H cl b = some (.ext φ) := delC_keep C h (fun _ z => by cases z)
theorem LookAt.del {H : Hp} {g a : Addr} {cl cr : List (Str × Addr)} {caps : List (Str × V)} (L : LookAt H g a cl) (C : CloH H cr caps) (dj : ∀ y c, cl.lookup y = some c → ¬ ∃ z, cr.lookup z = some c) : LookAt (delC H cr) g a cl := by
  obtain ⟨c', doc, pm, ctv, h1, h2, h3⟩ := L
  exact ⟨c', doc, pm, ctv, ext_del C h1, ext_del C h2, h3.same fun y c e o q => by rw [delC_out (dj y c e)]; exact q⟩
seal L2.PE L2.PT L2.PW L2.PA L2.PS L2.PSs L2.PG L2.PI L2.PO L2.OpR L2.UnR L2.CallR L2.IxR L2.SlR L2.TruR
section
variable {P : Program} {w : World} {K : PySem.W.Frag} {mg : Str → Option Value} {base : Heap}
theorem qLook : QScope (defScope sLook) "place" ["numbers"] := ⟨rfl, rfl, rfl, by decide +kernel, by decide +kernel, by decide +kernel, by decide +kernel⟩
theorem gOffLook : GN (defScope sLook) "off" := ⟨by decide +kernel, by decide +kernel, by decide +kernel⟩
theorem look_call {fO : Addr} {dO : FuncData} (COf : Cl P w K mg base 1 "off" fO dO ["row", "place"] (spOff K)) {H : Hp} {g a : Addr} {cl : List (Str × Addr)} {ns : List Int} {k : Int} {Q : VK} (L : LookAt H g a cl) (hS : SqL K H a (ns.map V.int)) (q : Q (.int (val ns k)) H) : Callable P w K mg base 2 g [.int k] H Q := by
  obtain ⟨c', doc, pm, ctv, h1, h2, h3⟩ := L
  refine clo_call (caps := [("numbers", .ref a)]) qLook h3 h1 h2 (fun s u => .of_eq rfl) fun A outer s hr => ?_
  refine ⟨_, pss_cons (ps_if (pt_val (pcD COf hr gOffLook (pac (pv 1) (pac (pv 0) pa_nil)))) (pss_one (ps_ret pe_int)) pss_nil)
    (pss_one (ps_ret (pe_ix ix_list (pv 1) (pv 0) (fun _ _ => rfl)))), ?_⟩
  have S' := sqL_del h3 hS
  refine ⟨_, rfl, _, rfl, a, _, k, rfl, S', _, rfl, ?_⟩
  rw [List.length_map]
  refine ite2 (fun c => ?_) (fun c => ?_)
  · have c' := of_decide_eq_true c
    show Q (.int 0) (addC H cl (delC H cl))
    rw [addC_del]
    have e : val ns k = 0 := by
      unfold val
      by_cases h : k < 0
      · rw [if_pos h]
      · rw [if_neg h, List.getD_eq_getElem?_getD, List.getElem?_eq_none (by omega)]; rfl
    rw [e] at q
    exact q
  · have d' := of_decide_eq_false (Bool.eq_false_iff.mpr c)
    refine ⟨_, rfl, _, rfl, a, _, k, _, rfl, rfl, S', atI_int (by omega) (by omega), ?_⟩
    show Q (.int (ns.getD k.toNat 0)) (addC H cl (delC H cl))
    rw [addC_del]
    have e : val ns k = ns.getD k.toNat 0 := if_neg (by omega)
    rw [e] at q
    exact q
theorem qRead : QScope (defScope sRead) "look" ["formula", "word"] := ⟨rfl, rfl, rfl, by decide +kernel, by decide +kernel, by decide +kernel, by decide +kernel⟩
theorem gMaxRead : GN (defScope sRead) "max" := ⟨by decide +kernel, by decide +kernel, by decide +kernel⟩
theorem look_dbg : (("look" : Str) == ("__debug__" : Str)) = false ∧ (("look" : Str) == ("__classdict__" : Str)) = false := by decide +kernel
theorem look_vis : (defScope sRead).names.lookup ("look" : Str) = some NameKind.local := by decide +kernel
theorem n1 : ¬ ("sum" : Str) = "number" := by decide +kernel
theorem n2 : ¬ ("less" : Str) = "number" := by decide +kernel
theorem n3 : ¬ ("most" : Str) = "number" := by decide +kernel
theorem n4 : ¬ ("pick" : Str) = "number" := by decide +kernel
theorem n5 : ¬ ("less" : Str) = "sum" := by decide +kernel
theorem n6 : ¬ ("most" : Str) = "sum" := by decide +kernel
theorem n7 : ¬ ("pick" : Str) = "sum" := by decide +kernel
theorem n8 : ¬ ("most" : Str) = "less" := by decide +kernel
theorem n9 : ¬ ("pick" : Str) = "less" := by decide +kernel
theorem n10 : ¬ ("pick" : Str) = "most" := by decide +kernel
theorem read_call (T : Txt mg) {fO : Addr} {dO : FuncData} (COf : Cl P w K mg base 1 "off" fO dO ["row", "place"] (spOff K)) {H : Hp} {g gl f a : Addr} {φ : Fm} {cl cr : List (Str × Addr)} {ns : List Int} {Q : VK} (R : ReadAt H g f φ cr) (L : LookAt H gl a cl) (dj : ∀ y c, cl.lookup y = some c → ¬ ∃ z, cr.lookup z = some c)
    (hF : SqT K H f φ.v) (hS : SqL K H a (ns.map V.int)) (q : Q (.int (φ.worth (val ns))) H) : Callable P w K mg base 3 g [.ref gl] H Q := by
  obtain ⟨c', doc, pm, ctv, h1, h2, h3⟩ := R
  have L' := L.del h3 dj
  have S' := sqL_del h3 hS
  have F' := sqT_del h3 hF
  obtain ⟨cq, dq, pq, tq, hfn, _⟩ := id L'
  refine clo_call (caps := [("formula", .ref f), ("word", .str φ.wd)]) qRead h3 h1 h2 (fun s u => .of_eq rfl) fun A outer s hr => ?_
  refine ⟨_, pss_cons (ps_if (pt_cmpR op_eq (pv 2) pe_str (nomark _)) (pss_one (ps_ret (pe_ix ix_tup (pv 1) pe_int (fun _ _ => rfl)))) pss_nil)
    (pss_cons (ps_if (pt_cmpR op_eq (pv 2) pe_str (nomark _)) (pss_one (ps_ret (pe_op op_add (pcV (i := 0) hr rfl (Or.inl look_vis) (pac (pe_ix ix_tup (pv 1) pe_int (fun _ _ => rfl)) pa_nil) look_dbg.1 look_dbg.2) (pcV (i := 0) hr rfl (Or.inl look_vis) (pac (pe_ix ix_tup (pv 1) pe_int (fun _ _ => rfl)) pa_nil) look_dbg.1 look_dbg.2)))) pss_nil)
    (pss_cons (ps_if (pt_cmpR op_eq (pv 2) pe_str (nomark _)) (pss_one (ps_ret (pe_op op_sub (pcV (i := 0) hr rfl (Or.inl look_vis) (pac (pe_ix ix_tup (pv 1) pe_int (fun _ _ => rfl)) pa_nil) look_dbg.1 look_dbg.2) (pcV (i := 0) hr rfl (Or.inl look_vis) (pac (pe_ix ix_tup (pv 1) pe_int (fun _ _ => rfl)) pa_nil) look_dbg.1 look_dbg.2)))) pss_nil)
    (pss_cons (ps_if (pt_cmpR op_eq (pv 2) pe_str (nomark _)) (pss_one (ps_ret (pcB (call_max2 rfl) gMaxRead T.max boo_max (pac (pcV (i := 0) hr rfl (Or.inl look_vis) (pac (pe_ix ix_tup (pv 1) pe_int (fun _ _ => rfl)) pa_nil) look_dbg.1 look_dbg.2) (pac (pcV (i := 0) hr rfl (Or.inl look_vis) (pac (pe_ix ix_tup (pv 1) pe_int (fun _ _ => rfl)) pa_nil) look_dbg.1 look_dbg.2) pa_nil))))) pss_nil)
    (pss_cons (ps_if (pt_cmpR op_gt (pcV (i := 0) hr rfl (Or.inl look_vis) (pac (pe_ix ix_tup (pv 1) pe_int (fun _ _ => rfl)) pa_nil) look_dbg.1 look_dbg.2) pe_int (nomark _)) (pss_one (ps_ret (pcV (i := 0) hr rfl (Or.inl look_vis) (pac (pe_ix ix_tup (pv 1) pe_int (fun _ _ => rfl)) pa_nil) look_dbg.1 look_dbg.2))) pss_nil)
    (pss_one (ps_ret (pcV (i := 0) hr rfl (Or.inl look_vis) (pac (pe_ix ix_tup (pv 1) pe_int (fun _ _ => rfl)) pa_nil) look_dbg.1 look_dbg.2))))))), ?_⟩
  have fin : ∀ z, z = φ.worth (val ns) → Q (.int z) (addC H cr (delC H cr)) := fun z e => by rw [addC_del, e]; exact q
  have lk : ∀ {k : Int} {Q' : VK}, Q' (.int (val ns k)) (delC H cr) → Callable P w K mg base 2 gl [.int k] (delC H cr) Q' := fun q' => look_call COf L' S' q'
  cases φ with
  | num n =>
    refine ⟨_, rfl, rfl, _, rfl, ?_⟩
    refine ifE ?_
    exact ⟨_, rfl, f, _, 1, .int n, rfl, rfl, F', atI_nat (j := 1) rfl, fin n rfl⟩
  | sum i j =>
    refine ⟨_, rfl, rfl, _, rfl, ?_⟩
    refine ifS n1 ?_
    refine ⟨_, rfl, rfl, _, rfl, ?_⟩
    refine ifE ?_
    refine ⟨gl, _, rfl, hfn, _, rfl, f, _, 1, .int i, rfl, rfl, F', atI_nat (j := 1) rfl, hfn, lk ?_⟩
    refine ⟨gl, _, rfl, hfn, _, rfl, f, _, 2, .int j, rfl, rfl, F', atI_nat (j := 2) rfl, hfn, lk ?_⟩
    exact ⟨_, _, rfl, rfl, fin _ rfl⟩
  | less i j =>
    refine ⟨_, rfl, rfl, _, rfl, ?_⟩
    refine ifS n2 ?_
    refine ⟨_, rfl, rfl, _, rfl, ?_⟩
    refine ifS n5 ?_
    refine ⟨_, rfl, rfl, _, rfl, ?_⟩
    refine ifE ?_
    refine ⟨gl, _, rfl, hfn, _, rfl, f, _, 1, .int i, rfl, rfl, F', atI_nat (j := 1) rfl, hfn, lk ?_⟩
    refine ⟨gl, _, rfl, hfn, _, rfl, f, _, 2, .int j, rfl, rfl, F', atI_nat (j := 2) rfl, hfn, lk ?_⟩
    exact ⟨_, _, rfl, rfl, fin _ rfl⟩
  | most i j =>
    refine ⟨_, rfl, rfl, _, rfl, ?_⟩
    refine ifS n3 ?_
    refine ⟨_, rfl, rfl, _, rfl, ?_⟩
    refine ifS n6 ?_
    refine ⟨_, rfl, rfl, _, rfl, ?_⟩
    refine ifS n8 ?_
    refine ⟨_, rfl, rfl, _, rfl, ?_⟩
    refine ifE ?_
    refine ⟨gl, _, rfl, hfn, _, rfl, f, _, 1, .int i, rfl, rfl, F', atI_nat (j := 1) rfl, hfn, lk ?_⟩
    refine ⟨gl, _, rfl, hfn, _, rfl, f, _, 2, .int j, rfl, rfl, F', atI_nat (j := 2) rfl, hfn, lk ?_⟩
    exact ⟨_, _, rfl, fin _ rfl⟩
  | pick i j k =>
    refine ⟨_, rfl, rfl, _, rfl, ?_⟩
    refine ifS n4 ?_
    refine ⟨_, rfl, rfl, _, rfl, ?_⟩
    refine ifS n7 ?_
    refine ⟨_, rfl, rfl, _, rfl, ?_⟩
    refine ifS n9 ?_
    refine ⟨_, rfl, rfl, _, rfl, ?_⟩
    refine ifS n10 ?_
    refine ⟨gl, _, rfl, hfn, _, rfl, f, _, 1, .int i, rfl, rfl, F', atI_nat (j := 1) rfl, hfn, lk ?_⟩
    refine ⟨_, _, rfl, rfl, _, rfl, ?_⟩
    refine ite2 (fun c => ?_) (fun c => ?_)
    · have c' : 0 < val ns i := of_decide_eq_true c
      refine ⟨gl, _, rfl, hfn, _, rfl, f, _, 2, .int j, rfl, rfl, F', atI_nat (j := 2) rfl, hfn, lk ?_⟩
      exact fin _ (if_pos c').symm
    · have c' : ¬ 0 < val ns i := of_decide_eq_false (Bool.eq_false_iff.mpr c)
      refine ⟨gl, _, rfl, hfn, _, rfl, f, _, 3, .int k, rfl, rfl, F', atI_nat (j := 3) rfl, hfn, lk ?_⟩
      exact fin _ (if_neg c').symm
end
end K08
namespace K08
open PySem L2 LS
theorem TabOk.is {H : Hp} {P : Addr} {pos : Pos} {q : Str} (t : TabOk H P pos q) : ∃ ps, H P = some (.tbl ps) := by
  rcases t with t | ⟨c, t, _⟩
  · exact ⟨_, t⟩
  · exact ⟨_, t⟩
theorem TabOk.same {H H' : Hp} {P : Addr} {pos : Pos} {q : Str} (t : TabOk H P pos q) (s : Same H H') : TabOk H' P pos q := by
  rcases t with t | ⟨c, t, u⟩
  · exact .inl (s _ _ t)
  · exact .inr ⟨c, s _ _ t, s _ _ u⟩
theorem TabOk.but {H H' : Hp} {P P' : Addr} {pos pos' : Pos} {q q' : Str} (t : TabOk H P pos q) (t' : TabOk H P' pos' q') (hP : P ≠ P') (s : But P' H H') : TabOk H' P pos q := by
  obtain ⟨ps', e'⟩ := TabOk.is t'
  rcases t with t | ⟨c, t, u⟩
  · exact .inl (s _ _ t hP)
  · exact .inr ⟨c, s _ _ t hP, s _ _ u (fun z => by rw [z, e'] at u; cases u)⟩
theorem But.keep {H H' : Hp} {P' : Addr} {pos' : Pos} {q' : Str} (s : But P' H H') (t' : TabOk H P' pos' q') : Keep H H' := fun b o e n => s b o e fun z => by
  obtain ⟨ps, e'⟩ := TabOk.is t'
  rw [z, e'] at e
  exact n ps (Option.some.inj e).symm
def Tb (P1 P2 : Addr) (H : Hp) : Prop := TabOk H P1 (defPos sLook) q1 ∧ TabOk H P2 (defPos sRead) q2
theorem Tb.same {P1 P2 : Addr} {H H' : Hp} (t : Tb P1 P2 H) (s : Same H H') : Tb P1 P2 H' := ⟨TabOk.same t.1 s, TabOk.same t.2 s⟩
def spValueOf (K : PySem.W.Frag) (P1 P2 : Addr) : Sp := fun vs H Q _ => ∃ (f a : Addr) (φ : Fm) (ns : List Int), vs = [.ref f, .ref a] ∧ SqT K H f φ.v ∧ SqL K H a (ns.map V.int) ∧ Tb P1 P2 H ∧ ∀ H', Keep H H' → Tb P1 P2 H' → Q (.int (φ.worth (val ns))) H'
seal L2.PE L2.PT L2.PW L2.PA L2.PS L2.PSs L2.PG L2.PI L2.PO L2.OpR L2.UnR L2.CallR L2.IxR L2.SlR L2.TruR
section
variable {P : Program} {w : World} {K : PySem.W.Frag} {mg : Str → Option Value} {base : Heap}
theorem scValueOf : FnScope ["formula", "numbers", "read"] ["formula", "numbers"] (defScope sValueOf) := ⟨rfl, rfl, rfl, by decide +kernel, rfl, by decide +kernel, by decide +kernel⟩
theorem nV : NOk ["formula", "numbers", "read"] (defScope sValueOf) := ⟨scValueOf.nd, by decide +kernel, by decide +kernel⟩
theorem gVR : GN (defScope sValueOf) "reading" := ⟨by decide +kernel, by decide +kernel, by decide +kernel⟩
theorem gVL : GN (defScope sValueOf) "looker" := ⟨by decide +kernel, by decide +kernel, by decide +kernel⟩
theorem read_dbg : (("read" : Str) == ("__debug__" : Str)) = false ∧ (("read" : Str) == ("__classdict__" : Str)) = false := by decide +kernel
theorem read_vis : (defScope sValueOf).names.lookup ("read" : Str) = some NameKind.local := by decide +kernel
theorem ok_valueOf {f fR fL P1 P2 : Addr} {fd dR dL : FuncData} (F : Fun K "value_of" "value_of" sValueOf f fd) (T : Txt mg) {fO : Addr} {dO : FuncData} (COf : Cl P w K mg base 1 "off" fO dO ["row", "place"] (spOff K)) (hP : P2 ≠ P1)
    (CR : Cl P w K mg base 1 "reading" fR dR ["formula"] (spReading K P2)) (CL : Cl P w K mg base 1 "looker" fL dL ["numbers"] (spLooker P1)) : FnOk P w K mg base CX0 4 f fd ["formula", "numbers"] (spValueOf K P1 P2) := by
  refine F.ok scValueOf (fun vs H Q E h => ?_) (fun cdv A outer s H vs Q E hr h => ?_)
  · obtain ⟨f, a, φ, ns, rfl, _⟩ := h
    rfl
  obtain ⟨t, a, φ, ns, rfl, hF, hS, tb, q⟩ := h
  refine ⟨_, pss_cons (psn nV 2 (pcD CR (hr.mono (by decide)) gVR (pac (pn nV 0) pa_nil))) (pss_one (ps_ret (pcV (k := 3) (i := 2) hr rfl (Or.inl read_vis) (pac (pcD CL (hr.mono (by decide)) gVL (pac (pn nV 1) pa_nil)) pa_nil) read_dbg.1 read_dbg.2))), ?_⟩
  refine ⟨_, rfl, t, φ, rfl, hF, tb.2, fun g cr H1 R1 g0 b1 t1 => ?_⟩
  obtain ⟨c', doc, pm, ctv, e1, e2, C1⟩ := id R1
  have tb1 : TabOk H1 P1 (defPos sLook) q1 := TabOk.but tb.1 tb.2 hP.symm b1
  refine ⟨g, _, rfl, e1, _, rfl, a, rfl, tb1, fun gl cl H2 L2' new gl0 b2 t2 => ?_⟩
  have nP : ∀ b φ', H1 b = some (.ext φ') → b ≠ P1 := fun b φ' e z => by
    obtain ⟨ps, e'⟩ := TabOk.is tb1
    rw [z, e'] at e; cases e
  have nPf : ∀ b o z, H1 b = some (.frz o z) → b ≠ P1 := fun b o z e y => by
    obtain ⟨ps, e'⟩ := TabOk.is tb1
    rw [y, e'] at e; cases e
  have R2 : ReadAt H2 g t φ cr := ⟨c', doc, pm, ctv, b2 _ _ e1 (nP _ _ e1), b2 _ _ e2 (nP _ _ e2), C1.same fun y c e o z => b2 _ _ z (nPf _ _ _ z)⟩
  have dj : ∀ y c, cl.lookup y = some c → ¬ ∃ z, cr.lookup z = some c := fun y c e hz => by
    obtain ⟨o, z⟩ := C1.ext hz
    rw [new y c e] at z; cases z
  have k1 : Keep H H1 := But.keep b1 tb.2
  have k2 : Keep H1 H2 := But.keep b2 tb1
  have tb2 : TabOk H2 P2 (defPos sRead) q2 := TabOk.but t1 tb1 hP b2
  exact ⟨b2 _ _ e1 (nP _ _ e1), read_call T COf R2 L2' dj ((k1.trans k2).seqT hF) ((k1.trans k2).seq hS) (q H2 (k1.trans k2) ⟨t2, tb2⟩)⟩
end
end K08

set_option linter.all false
set_option maxRecDepth 100000
set_option maxHeartbeats 4000000
namespace K08
open PySem L2 LS
seal L2.PE L2.PT L2.PW L2.PA L2.PS L2.PSs L2.PG L2.PI L2.PO L2.OpR L2.UnR L2.CallR L2.IxR L2.SlR L2.TruR
section
variable {P : Program} {w : World} {K : PySem.W.Frag} {mg : Str → Option Value} {base : Heap}
theorem scXo : FnScope ["row", "place"] ["row", "place"] (defScope sOff) := ⟨rfl, rfl, rfl, by decide +kernel, rfl, by decide +kernel, by decide +kernel⟩
theorem nXo : NOk ["row", "place"] (defScope sOff) := ⟨scXo.nd, by decide +kernel, by decide +kernel⟩
theorem gXo0 : GN (defScope sOff) "len" := ⟨by decide +kernel, by decide +kernel, by decide +kernel⟩
theorem ok_off {f : Addr} {fd : FuncData} (F : Fun K "off" "off" sOff f fd) (T : Txt mg) : FnOk P w K mg base CX0 1 f fd ["row", "place"] (spOff K) := by
  refine F.ok scXo (fun vs H Q E h => ?_) (fun cdv A outer s H vs Q E hr h => ?_)
  · obtain ⟨a, xs, k, rfl, _⟩ := h
    rfl
  obtain ⟨a, xs, k, rfl, hS, q⟩ := h
  refine ⟨_, pss_one (ps_ret (pe_or (pe_cmpR op_lt (pn nXo 1) pe_int (nomark _)) (pe_one (pe_cmpR op_ge (pn nXo 1) (pcB call_len_seq gXo0 T.len boo_len (pac (pn nXo 0) pa_nil)) (nomark _))))), ?_⟩
  refine ⟨_, rfl, _, _, rfl, rfl, _, rfl, ?_⟩
  refine ite2 (fun c => ?_) (fun c => ?_)
  · have c' : k < 0 := of_decide_eq_true c
    rw [decide_eq_true (show k < 0 ∨ (xs.length : Int) ≤ k from .inl c')] at q
    exact q
  · have c' : ¬ k < 0 := of_decide_eq_false (Bool.eq_false_iff.mpr c)
    refine ⟨_, rfl, _, rfl, a, _, rfl, .inl hS, _, _, rfl, rfl, ?_⟩
    have e : decide (k < 0 ∨ (xs.length : Int) ≤ k) = decide (((xs.length : Nat) : Int) ≤ k) := by
      rw [Bool.eq_iff_iff]; simp; omega
    rw [e] at q
    exact q
theorem scXq : FnScope ["sheet", "place"] ["sheet", "place"] (defScope sRequireCell) := ⟨rfl, rfl, rfl, by decide +kernel, rfl, by decide +kernel, by decide +kernel⟩
theorem nXq : NOk ["sheet", "place"] (defScope sRequireCell) := ⟨scXq.nd, by decide +kernel, by decide +kernel⟩
theorem gXq0 : GN (defScope sRequireCell) "off" := ⟨by decide +kernel, by decide +kernel, by decide +kernel⟩
theorem gXq1 : GN (defScope sRequireCell) "NoCell" := ⟨by decide +kernel, by decide +kernel, by decide +kernel⟩
theorem ok_require {f fO CN : Addr} {fd dO : FuncData} (F : Fun K "require_cell" "require_cell" sRequireCell f fd) (COf : Cl P w K mg base 1 "off" fO dO ["row", "place"] (spOff K)) (kN : ErrK K "NoCell" CN) : FnOk P w K mg base (CXF P w) 2 f fd ["sheet", "place"] (spRequire K CN) := by
  refine F.okF scXq (fun vs H Q E h => ?_) (fun cdv A outer s H vs Q E hr h => ?_)
  · obtain ⟨a, xs, k, rfl, _⟩ := h
    rfl
  obtain ⟨a, xs, k, rfl, hS, q, qE⟩ := h
  refine ⟨_, pss_one (ps_if (pt_val (pcD COf hr gXq0 (pac (pn nXq 0) (pac (pn nXq 1) pa_nil)))) (pss_one (ps_raise kN gXq1 (pac pe_str pa_nil))) pss_nil), ?_⟩
  refine ⟨_, rfl, _, rfl, a, xs, k, rfl, hS, _, rfl, ?_⟩
  refine ite2 (fun c => ?_) (fun c => ?_)
  · exact ⟨small_line (by simp), qE (of_decide_eq_true c)⟩
  · have c' := of_decide_eq_false (Bool.eq_false_iff.mpr c)
    exact q (by omega) (by omega)
theorem scXl : FnScope ["formula"] ["formula"] (defScope sLeans) := ⟨rfl, rfl, rfl, by decide +kernel, rfl, by decide +kernel, by decide +kernel⟩
theorem nXl : NOk ["formula"] (defScope sLeans) := ⟨scXl.nd, by decide +kernel, by decide +kernel⟩
theorem gXl0 : GN (defScope sLeans) "sorted" := ⟨by decide +kernel, by decide +kernel, by decide +kernel⟩
theorem gXl1 : GN (defScope sLeans) "set" := ⟨by decide +kernel, by decide +kernel, by decide +kernel⟩
theorem ok_leans {f : Addr} {fd : FuncData} (F : Fun K "leans" "leans" sLeans f fd) (T : Txt mg) : FnOk P w K mg base CX0 1 f fd ["formula"] (spLeans K) := by
  refine F.ok scXl (fun vs H Q E h => ?_) (fun cdv A outer s H vs Q E hr h => ?_)
  · obtain ⟨r, φ, rfl, _⟩ := h
    rfl
  obtain ⟨r, φ, rfl, hF, q⟩ := h
  refine ⟨_, pss_cons (ps_if (pt_cmpR op_eq (pe_ix ix_tup (pn nXl 0) pe_int (fun _ _ => rfl)) pe_str (nomark _)) (pss_one (ps_ret (pe_lst pa_nil))) pss_nil) (
    pss_one (ps_ret (pcB (call_sortSet rfl) gXl0 T.srt boo_sorted (pac (pcT (call_set rfl) gXl1 T.set boo_set (pac (pe_slice sl_tup (pn nXl 0) (po_some pe_int) po_none) pa_nil)) pa_nil)))), ?_⟩
  refine ⟨_, rfl, r, _, 0, .str φ.wd, rfl, rfl, hF, φ.at0, rfl, _, rfl, ?_⟩
  cases φ with
  | num n =>
    refine ifE ?_
    exact ⟨small_line (by simp), fun l hl => q l [] _ (Same.upd_new hl _) (by rw [upd_same]; rfl) ⟨List.Pairwise.nil, fun x => by simp [Fm.named]⟩⟩
  | sum i j =>
    refine ifS (show ¬ ("sum" : Str) = "number" by decide +kernel) ?_
    refine ⟨_, rfl, 1, rfl, r, _, rfl, hF, (fun z => absurd (show (1 : Nat) = 0 from z.1) (by decide)), fun p hp => ?_⟩
    refine ⟨p, [i, j], rfl, .inr (SqT.of (by rw [upd_same]; rfl)), by simp, fun l ks hl nd mem => ?_⟩
    refine ⟨l, ks, rfl, upd_same, fun u ks' hu pm pw => ?_⟩
    exact q u ks' _ ((Same.upd_new hp _).trans ((Same.upd_new hl _).trans (Same.upd_new hu _))) upd_same (sd_of nd mem pm pw)
  | less i j =>
    refine ifS (show ¬ ("less" : Str) = "number" by decide +kernel) ?_
    refine ⟨_, rfl, 1, rfl, r, _, rfl, hF, (fun z => absurd (show (1 : Nat) = 0 from z.1) (by decide)), fun p hp => ?_⟩
    refine ⟨p, [i, j], rfl, .inr (SqT.of (by rw [upd_same]; rfl)), by simp, fun l ks hl nd mem => ?_⟩
    refine ⟨l, ks, rfl, upd_same, fun u ks' hu pm pw => ?_⟩
    exact q u ks' _ ((Same.upd_new hp _).trans ((Same.upd_new hl _).trans (Same.upd_new hu _))) upd_same (sd_of nd mem pm pw)
  | most i j =>
    refine ifS (show ¬ ("most" : Str) = "number" by decide +kernel) ?_
    refine ⟨_, rfl, 1, rfl, r, _, rfl, hF, (fun z => absurd (show (1 : Nat) = 0 from z.1) (by decide)), fun p hp => ?_⟩
    refine ⟨p, [i, j], rfl, .inr (SqT.of (by rw [upd_same]; rfl)), by simp, fun l ks hl nd mem => ?_⟩
    refine ⟨l, ks, rfl, upd_same, fun u ks' hu pm pw => ?_⟩
    exact q u ks' _ ((Same.upd_new hp _).trans ((Same.upd_new hl _).trans (Same.upd_new hu _))) upd_same (sd_of nd mem pm pw)
  | pick i j k =>
    refine ifS (show ¬ ("pick" : Str) = "number" by decide +kernel) ?_
    refine ⟨_, rfl, 1, rfl, r, _, rfl, hF, (fun z => absurd (show (1 : Nat) = 0 from z.1) (by decide)), fun p hp => ?_⟩
    refine ⟨p, [i, j, k], rfl, .inr (SqT.of (by rw [upd_same]; rfl)), by simp, fun l ks hl nd mem => ?_⟩
    refine ⟨l, ks, rfl, upd_same, fun u ks' hu pm pw => ?_⟩
    exact q u ks' _ ((Same.upd_new hp _).trans ((Same.upd_new hl _).trans (Same.upd_new hu _))) upd_same (sd_of nd mem pm pw)
theorem scXc : FnScope ["sheet", "place"] ["sheet", "place"] (defScope sLeanedCells) := ⟨rfl, rfl, rfl, by decide +kernel, rfl, by decide +kernel, by decide +kernel⟩
theorem nXc : NOk ["sheet", "place"] (defScope sLeanedCells) := ⟨scXc.nd, by decide +kernel, by decide +kernel⟩
theorem gXc0 : GN (defScope sLeanedCells) "leans" := ⟨by decide +kernel, by decide +kernel, by decide +kernel⟩
abbrev cCc : Scope := { kind := .function, names := [(PySem.Str.ofString ".0", .local), (PySem.Str.ofString "other", .local), (PySem.Str.ofString "off", .globalImplicit), (PySem.Str.ofString "sheet", .free)], isGenerator := false, isCoroutine := false, more := [] }
theorem cCc0 : cCc.names.lookup ("other" : Str) = some NameKind.local := by decide +kernel
theorem cCc1 : cCc.names.lookup ("off" : Str) = some NameKind.globalImplicit := by decide +kernel
theorem cCc2 : cCc.names.lookup ("sheet" : Str) = some NameKind.free := by decide +kernel
theorem capCc : ∀ y ∈ cCc.names, y.2 = .free → (defScope sLeanedCells).names.lookup y.1 = some .cell := by decide +kernel
theorem scCc {X : Cx} (hE : X.env.scope = defScope sLeanedCells) (hN : X.N = (["sheet", "place"] : List Str)) : CScope X cCc "other" ["sheet"] [0] where
  kind := rfl
  cell := by decide +kernel
  names := by decide +kernel
  var := by decide +kernel
  free := fun y m e => .inl ((congrArg (fun sc : Scope => sc.names.lookup y.1) hE).trans (capCc y m e))
  frs := by decide +kernel
  nd := by decide +kernel
  at' := by rw [hN]; rfl
  fr := by decide +kernel
theorem ok_leaned {f fO fL : Addr} {fd dO dL : FuncData} (F : Fun K "leaned_cells" "leaned_cells" sLeanedCells f fd) (COf : Cl P w K mg base 1 "off" fO dO ["row", "place"] (spOff K)) (CLe : Cl P w K mg base 1 "leans" fL dL ["formula"] (spLeans K)) : FnOk P w K mg base CX0 2 f fd ["sheet", "place"] (spLeaned K) := by
  refine F.ok scXc (fun vs H Q E h => ?_) (fun cdv A outer s H vs Q E hr h => ?_)
  · obtain ⟨a, rs, φs, p, rfl, _⟩ := h
    rfl
  obtain ⟨a, rs, φs, p, rfl, hA, sh, hp, hl, q⟩ := h
  refine ⟨_, pss_one (ps_ret (pe_compI rfl (scCc rfl rfl) (pi_list (pcD CLe hr gXc0 (pac (pe_ix ix_list (pn nXc 0) (pn nXc 1) (fun _ _ => rfl)) pa_nil))) (fun C s0 H0 fp => pt_not (pt_val (pcD COf (hr.mono (by decide)) (gn_comp cCc1 (by decide +kernel) (by decide +kernel)) (pac (pe_var (i := 1) rfl (vis_free cCc2)) (pac (pe_var (i := 0) rfl (vis_loc cCc0)) pa_nil))))) (fun C s0 H0 fp => (pe_var (i := 0) rfl (vis_loc cCc0))))), ?_⟩
  obtain ⟨r, _, e1, hr1⟩ := sh.nth hp
  have hn : (((rs.map V.ref).length : Nat) : Int) = φs.length := by rw [List.length_map, sh.1]
  refine ⟨_, rfl, _, rfl, a, _, _, _, rfl, rfl, hA, e1, r, _, rfl, SqT.of hr1, fun l ks H1 sm hl1 sd => ⟨l, rfl, ⟨_, SqL.of hl1⟩, fun c hc => ?_⟩⟩
  have len : ks.length ≤ 3 := by
    have := nd_sub (l := ks) (sd.up.imp fun h => by omega) (fun x hx => (sd.mem x).mp hx)
    exact Nat.le_trans this (Fm.nlen _)
  refine comp_listI (K := K) (Q := Q) (a := l) (xs := ks.map V.int) (fun i zs H' => zs = ((ks.take i).filter fun x => !decide (x < 0 ∨ (φs.length : Int) ≤ x)).map V.int ∧ Same H1 H' ∧ H' c = some (.lst zs)) ⟨by simp, Same.upd_new hc _, upd_same⟩ ?_ ?_ ?_
  · rintro i zs H' _ ⟨_, sm', _⟩
    exact sm'.seq (SqL.of hl1)
  · rintro i x zs H' N S hx ⟨rfl, sm', hc'⟩ hN hS
    rw [List.getElem?_map] at hx
    obtain ⟨y, hy, rfl⟩ := Option.map_eq_some_iff.mp hx
    refine ⟨_, rfl, _, rfl, a, _, y, rfl, (sm.trans sm').seq hA, _, rfl, ?_⟩
    rw [hn]
    have tk : (ks.take (i + 1)).filter (fun x => !decide (x < 0 ∨ (φs.length : Int) ≤ x)) = (ks.take i).filter (fun x => !decide (x < 0 ∨ (φs.length : Int) ≤ x)) ++ (if (!decide (y < 0 ∨ (φs.length : Int) ≤ y)) = true then [y] else []) := by
      rw [List.take_add_one, hy, List.filter_append]
      congr 1
      show List.filter _ [y] = _
      rw [filter_one]
    refine ite2 (fun d => ?_) (fun d => ?_)
    · rw [if_pos d] at tk
      refine ⟨_, rfl, hN _ _ hc' ?_ ⟨?_, fun b o hb => ?_, upd_same⟩⟩
      · rw [List.length_map]
        have h1 := List.length_filter_le (fun x => !decide (x < 0 ∨ (φs.length : Int) ≤ x)) (ks.take i)
        have h2 := List.length_take_le' i ks
        exact Nat.lt_of_le_of_lt (show _ ≤ 3 by omega) (by decide)
      · rw [tk, List.map_append]; rfl
      · rw [upd_ne (fun z => by rw [z, hc] at hb; cases hb)]; exact sm' _ _ hb
    · rw [if_neg d, List.append_nil] at tk
      exact hS _ ⟨by rw [tk], sm', hc'⟩
  · rintro zs H' ⟨rfl, sm', hc'⟩
    rw [List.length_map, List.take_length, sd_ls sd, ← vN_i] at hc'
    exact q c H' (sm.trans sm') (sm.free hc) hc'
theorem scXs : FnScope ["sheet", "rows", "place", "other"] ["sheet"] (defScope sLeaners) := ⟨rfl, rfl, rfl, by decide +kernel, rfl, by decide +kernel, by decide +kernel⟩
theorem nXs : NOk ["sheet", "rows", "place", "other"] (defScope sLeaners) := ⟨scXs.nd, by decide +kernel, by decide +kernel⟩
theorem gXs0 : GN (defScope sLeaners) "range" := ⟨by decide +kernel, by decide +kernel, by decide +kernel⟩
theorem gXs1 : GN (defScope sLeaners) "len" := ⟨by decide +kernel, by decide +kernel, by decide +kernel⟩
theorem gXs2 : GN (defScope sLeaners) "leaned_cells" := ⟨by decide +kernel, by decide +kernel, by decide +kernel⟩
abbrev cCr : Scope := { kind := .function, names := [(PySem.Str.ofString ".0", .local), (PySem.Str.ofString "formula", .local)], isGenerator := false, isCoroutine := false, more := [] }
theorem cCr0 : cCr.names.lookup ("formula" : Str) = some NameKind.local := by decide +kernel
theorem scCr {X : Cx} (hE : X.env.scope = defScope sLeaners) : CScope X cCr "formula" [] [] where
  kind := rfl
  cell := by decide +kernel
  names := by decide +kernel
  var := by decide +kernel
  free := fun y m e => absurd e ((show ∀ y ∈ cCr.names, y.2 ≠ .free by decide +kernel) y m)
  frs := by decide +kernel
  nd := by decide +kernel
  at' := rfl
  fr := by decide +kernel
theorem locXs : Loc (defScope sLeaners) "rows" := .inl (by decide +kernel)
theorem ok_leaners {f fL : Addr} {fd dL : FuncData} (F : Fun K "leaners" "leaners" sLeaners f fd) (T : Txt mg) (CLc : Cl P w K mg base 2 "leaned_cells" fL dL ["sheet", "place"] (spLeaned K)) : FnOk P w K mg base CX0 3 f fd ["sheet"] (spLeaners K) := by
  refine F.ok scXs (fun vs H Q E h => ?_) (fun cdv A outer s H vs Q E hr h => ?_)
  · obtain ⟨a, rs, φs, rfl, _⟩ := h
    rfl
  obtain ⟨a, rs, φs, rfl, hA, sh, hl, q⟩ := h
  refine ⟨_, pss_cut (ps_setComp (i := 1) rfl (scCr rfl) (pi_list (pn nXs 0)) (fun C s0 H0 fp => pe_lst pa_nil) nXs.nd rfl locXs rfl) (
    pss_cons (ps_for PassesOwn.never rfl (pir1 gXs0 T.rng (pac (pcB call_len_seq gXs1 T.len boo_len (pac (pn nXs 0) pa_nil)) pa_nil)) (pgn nXs 2) (pss_one (ps_for PassesOwn.never rfl (pi_list (pcD CLc hr gXs2 (pac (pn nXs 0) (pac (pn nXs 2) pa_nil)))) (pgn nXs 3) (pss_one (ps_expr (pl_append (pe_ix ix_list (pn nXs 1) (pn nXs 3) (fun _ _ => rfl)) (pn nXs 2))))))) (
    pss_one (ps_ret (pn nXs 1)))), ?_⟩
  have hn : (((rs.map V.ref).length : Nat) : Int) = φs.length := by rw [List.length_map, sh.1]
  obtain ⟨M, hM⟩ : ∃ M : St → Hp → Prop, M = fun σ H' => ∃ (l : Addr) (qs : List Addr), σ = [some (.ref a), some (.ref l), none, none] ∧ qs.length = φs.length ∧ Rows H H' l qs (fun _ => []) ∧ Same H H' := ⟨_, rfl⟩
  refine ⟨M, ?_, ?_⟩
  · refine ⟨_, rfl, a, rfl, ⟨_, hA⟩, fun l hp => ?_⟩
    refine comp_list (K := K) (Q := fun x H1 => gName 1 x [some (.ref a), none, none, none] H1 M) (a := a) (xs := rs.map V.ref) (fun i zs H' => ∃ qs : List Addr, zs = qs.map V.ref ∧ qs.length = i ∧ Rows H H' l qs (fun _ => []) ∧ Same H H') ⟨[], rfl, rfl, ⟨upd_same, hp, .nil, by simp, fun i q z => by simp at z⟩, Same.upd_new hp _⟩ ?_ ?_ ?_
    · rintro i zs H' _ ⟨qs, _, _, _, sm⟩
      exact sm.seq hA
    · rintro i x zs H' hx ⟨qs, rfl, rfl, R, sm⟩
      have hi : qs.length < (rs.map V.ref).length := (List.getElem?_eq_some_iff.mp hx).1
      refine ⟨small_line (by simp), fun r hr' => ?_⟩
      have smr := Same.upd_new hr' (.lst [])
      have nrl : r ≠ l := fun z => by subst z; rw [R.at'] at hr'; cases hr'
      have nrq : r ∉ qs := fun z => by
        obtain ⟨i, hi, e⟩ := List.getElem_of_mem z
        have := (R.each i r (by rw [List.getElem?_eq_getElem hi, e])).2
        rw [this] at hr'; cases hr'
      refine ⟨smr _ _ R.at', ?_, qs ++ [r], by simp, by simp, ⟨by rw [upd_same]; simp, hp, ?_, ?_, fun i' q' h' => ?_⟩, fun b o hb => ?_⟩
      · rw [List.length_map]; exact Nat.lt_of_lt_of_le (show qs.length < 101 by omega) (by decide)
      · rw [List.nodup_append]
        refine ⟨R.nd, by simp, fun x hx y hy => ?_⟩
        rw [List.mem_singleton.mp hy]
        exact fun z => nrq (z ▸ hx)
      · rw [List.mem_append]
        exact fun z => z.elim R.out fun z => nrl (List.mem_singleton.mp z).symm
      · rw [List.getElem?_append] at h'
        split at h'
        · obtain ⟨e1, e2⟩ := R.each i' q' h'
          refine ⟨e1, ?_⟩
          rw [upd_ne (fun z => R.out (by rw [← z]; exact List.mem_of_getElem? h'))]
          exact smr _ _ e2
        · have : q' = r := by
            have := List.mem_of_getElem? h'
            simpa using this
          subst this
          exact ⟨sm.free hr', by rw [upd_ne nrl, upd_same]; rfl⟩
      · rw [upd_ne (fun z => by rw [z, hp] at hb; cases hb)]
        exact smr _ _ (sm _ _ hb)
    · rintro zs H' ⟨qs, rfl, hlen, R, sm⟩
      show M [some (.ref a), some (.ref l), none, none] _
      rw [hM]
      exact ⟨l, qs, rfl, by rw [hlen, List.length_map, sh.1], R, sm⟩
  rw [hM]
  rintro σ1 H1 ⟨l, qs, rfl, lq, R1, sm1⟩
  refine ⟨_, rfl, a, _, rfl, .inl (sm1.seq hA), ((rs.map V.ref).length : Int), rfl, by omega, by omega, ?_⟩
  refine for_range (fun i σ H' => ∃ u v : Option V, σ = [some (.ref a), some (.ref l), u, v] ∧ Rows H H' l qs (fun x => (List.range i).filter fun p => lnB φs p x) ∧ Same H H') ⟨none, none, rfl, ⟨R1.at', R1.new, R1.nd, R1.out, fun i q' e => by simpa using R1.each i q' e⟩, sm1⟩ ?_ ?_
  · rintro i σ H' hi ⟨u, v, rfl, R, sm⟩
    have hi' : i < φs.length := by omega
    refine ⟨_, rfl, _, rfl, a, rs, φs, i, by rw [Int.zero_add]; rfl, sm.seq hA, sh.same sm, hi', hl, fun c H2 sm2 hc0 hc => ⟨c, rfl, ⟨_, SqL.of hc⟩, ?_⟩⟩
    refine for_list (K := K) (a := c) (xs := vN (lsOf φs.length (lnB φs) i)) (fun j σ H3 => ∃ v : Option V, σ = [some (.ref a), some (.ref l), some (.int (0 + (i : Int))), v] ∧ Rows H H3 l qs (fun x => ((List.range i).filter fun p => lnB φs p x) ++ (if x ∈ (lsOf φs.length (lnB φs) i).take j then [i] else [])) ∧ Same H H3 ∧ H3 c = some (.lst (vN (lsOf φs.length (lnB φs) i)))) ⟨v, rfl, ⟨sm2 _ _ R.at', R.new, R.nd, R.out, fun k q' e => ⟨(R.each k q' e).1, by simpa using sm2 _ _ (R.each k q' e).2⟩⟩, sm.trans sm2, hc⟩ ?_ ?_ ?_
    · rintro j σ H3 _ ⟨_, _, _, _, h⟩
      exact SqL.of h
    · rintro j x σ H3 hx ⟨v, rfl, R3, sm3, hc3⟩
      obtain ⟨y, hy, rfl⟩ := vN_get hx
      have hyn := (ls_mem.mp (List.mem_of_getElem? hy)).1
      have hq : qs[y]? = some qs[y] := List.getElem?_eq_getElem (by omega)
      generalize qs[y] = b at hq
      obtain ⟨b0, hb⟩ := R3.each y b hq
      have nb : y ∉ (lsOf φs.length (lnB φs) i).take j := nd_at (ls_nd _) hy
      rw [if_neg nb, List.append_nil] at hb
      have ncb : c ≠ b := fun z => by
        have := (R.each y b hq).2
        rw [← z, hc0] at this; cases this
      have nlb : l ≠ b := fun z => R3.out (z ▸ List.mem_of_getElem? hq)
      refine ⟨_, rfl, _, rfl, l, _, _, .ref b, rfl, rfl, SqL.of R3.at', atI_nat (by rw [List.getElem?_map, hq]; rfl), .inl ⟨rfl, _, SqL.of hb⟩, _, rfl, b, _, _, rfl, rfl, hb, ?_, ?_⟩
      · have := List.length_filter_le (fun p => lnB φs p y) (List.range i)
        rw [List.length_range] at this
        rw [vN_len]
        exact Nat.lt_of_le_of_lt (show _ ≤ 100 by omega) (by decide)
      · rw [Int.zero_add, vN_snoc]
        refine ⟨_, rfl, ⟨by rw [upd_ne nlb]; exact R3.at', R3.new, R3.nd, R3.out, fun k q' e => ⟨(R3.each k q' e).1, ?_⟩⟩, fun d o hd => ?_, by rw [upd_ne ncb]; exact hc3⟩
        · by_cases ek : k = y
          · subst ek
            have eb : q' = b := by rw [hq] at e; exact (Option.some.inj e).symm
            rw [eb, upd_same, if_pos ((mem_take_snoc hy).mpr (.inr rfl))]
          · have nq : q' ≠ b := fun z => by
              rw [z] at e
              obtain ⟨k1, e1⟩ := List.getElem?_eq_some_iff.mp e
              obtain ⟨k2, e2⟩ := List.getElem?_eq_some_iff.mp hq
              exact ek ((List.getElem_inj R3.nd).mp (e1.trans e2.symm))
            rw [upd_ne nq, (R3.each k q' e).2]
            by_cases ck : k ∈ (lsOf φs.length (lnB φs) i).take j
            · rw [if_pos ck, if_pos ((mem_take_snoc hy).mpr (.inl ck))]
            · rw [if_neg ck, if_neg (fun z => ((mem_take_snoc hy).mp z).elim ck ek)]
        · rw [upd_ne (fun z => by rw [z, b0] at hd; cases hd)]; exact sm3 _ _ hd
    · rintro σ H3 ⟨v, rfl, R3, sm3, _⟩
      refine ⟨_, _, rfl, ⟨R3.at', R3.new, R3.nd, R3.out, fun k q' e => ⟨(R3.each k q' e).1, ?_⟩⟩, sm3⟩
      rw [(R3.each k q' e).2, vN_len, List.take_length, List.range_succ, List.filter_append]
      have hk : k < φs.length := by
        have := (List.getElem?_eq_some_iff.mp e).1
        omega
      congr 4
      by_cases ck : lnB φs i k = true
      · rw [if_pos (ls_mem.mpr ⟨hk, ck⟩)]; simp [ck]
      · rw [if_neg (fun z => ck (ls_mem.mp z).2)]; simp [ck]
  · rintro σ H' ⟨u, v, rfl, R, sm⟩
    refine ⟨_, rfl, q l qs H' sm lq ?_⟩
    have : (((rs.map V.ref).length : Nat) : Int).toNat = φs.length := by omega
    rw [this] at R
    exact R
theorem scXr : FnScope ["sheet", "rows", "waits", "found", "at", "place", "leaner"] ["sheet"] (defScope sOrder) := ⟨rfl, rfl, rfl, by decide +kernel, rfl, by decide +kernel, by decide +kernel⟩
theorem nXr : NOk ["sheet", "rows", "waits", "found", "at", "place", "leaner"] (defScope sOrder) := ⟨scXr.nd, by decide +kernel, by decide +kernel⟩
theorem gXr0 : GN (defScope sOrder) "range" := ⟨by decide +kernel, by decide +kernel, by decide +kernel⟩
theorem gXr1 : GN (defScope sOrder) "len" := ⟨by decide +kernel, by decide +kernel, by decide +kernel⟩
theorem gXr2 : GN (defScope sOrder) "leaners" := ⟨by decide +kernel, by decide +kernel, by decide +kernel⟩
abbrev cCw : Scope := { kind := .function, names := [(PySem.Str.ofString ".0", .local), (PySem.Str.ofString "place", .local), (PySem.Str.ofString "len", .globalImplicit), (PySem.Str.ofString "leaned_cells", .globalImplicit), (PySem.Str.ofString "sheet", .free)], isGenerator := false, isCoroutine := false, more := [] }
theorem cCw0 : cCw.names.lookup ("place" : Str) = some NameKind.local := by decide +kernel
theorem cCw1 : cCw.names.lookup ("len" : Str) = some NameKind.globalImplicit := by decide +kernel
theorem cCw2 : cCw.names.lookup ("leaned_cells" : Str) = some NameKind.globalImplicit := by decide +kernel
theorem cCw3 : cCw.names.lookup ("sheet" : Str) = some NameKind.free := by decide +kernel
theorem capCw : ∀ y ∈ cCw.names, y.2 = .free → (defScope sOrder).names.lookup y.1 = some .cell := by decide +kernel
theorem scCw {X : Cx} (hE : X.env.scope = defScope sOrder) (hN : X.N = (["sheet", "rows", "waits", "found", "at", "place", "leaner"] : List Str)) : CScope X cCw "place" ["sheet"] [0] where
  kind := rfl
  cell := by decide +kernel
  names := by decide +kernel
  var := by decide +kernel
  free := fun y m e => .inl ((congrArg (fun sc : Scope => sc.names.lookup y.1) hE).trans (capCw y m e))
  frs := by decide +kernel
  nd := by decide +kernel
  at' := by rw [hN]; rfl
  fr := by decide +kernel
abbrev cCf : Scope := { kind := .function, names := [(PySem.Str.ofString ".0", .local), (PySem.Str.ofString "place", .local), (PySem.Str.ofString "waits", .free)], isGenerator := false, isCoroutine := false, more := [] }
theorem cCf0 : cCf.names.lookup ("place" : Str) = some NameKind.local := by decide +kernel
theorem cCf1 : cCf.names.lookup ("waits" : Str) = some NameKind.free := by decide +kernel
theorem capCf : ∀ y ∈ cCf.names, y.2 = .free → (defScope sOrder).names.lookup y.1 = some .cell := by decide +kernel
theorem scCf {X : Cx} (hE : X.env.scope = defScope sOrder) (hN : X.N = (["sheet", "rows", "waits", "found", "at", "place", "leaner"] : List Str)) : CScope X cCf "place" ["waits"] [2] where
  kind := rfl
  cell := by decide +kernel
  names := by decide +kernel
  var := by decide +kernel
  free := fun y m e => .inl ((congrArg (fun sc : Scope => sc.names.lookup y.1) hE).trans (capCf y m e))
  frs := by decide +kernel
  nd := by decide +kernel
  at' := by rw [hN]; rfl
  fr := by decide +kernel
theorem locXw : Loc (defScope sOrder) "waits" := .inr (by decide +kernel)
theorem locXf : Loc (defScope sOrder) "found" := .inl (by decide +kernel)
theorem ok_order {f fC fS : Addr} {fd dC dS : FuncData} (F : Fun K "order" "order" sOrder f fd) (T : Txt mg) (CLc : Cl P w K mg base 2 "leaned_cells" fC dC ["sheet", "place"] (spLeaned K)) (CLs : Cl P w K mg base 3 "leaners" fS dS ["sheet"] (spLeaners K)) : FnOk P w K mg base CX0 4 f fd ["sheet"] (spOrderS K) := by
  refine F.ok scXr (fun vs H Q E h => ?_) (fun cdv A outer s H vs Q E hr h => ?_)
  · obtain ⟨a, rs, φs, rfl, _⟩ := h
    rfl
  obtain ⟨a, rs, φs, rfl, hA', sh, hl, q⟩ := h
  have hA : SqL K H a (rs.map V.ref) := SqL.of hA'
  refine ⟨_, pss_cons (psn nXr 1 (pcD CLs hr gXr2 (pac (pn nXr 0) pa_nil))) (
    pss_cut (psn nXr 2 (pe_comp rfl (scCw rfl rfl) (pir1 gXr0 T.rng (pac (pcB call_len_seq gXr1 T.len boo_len (pac (pn nXr 0) pa_nil)) pa_nil)) (fun C s0 H0 fp => pcB (show CallR _ _ (rLenS K) from call_len_seq) (gn_comp cCw1 (by decide +kernel) (by decide +kernel)) T.len boo_len (pac (pcD CLc (hr.mono (by decide)) (gn_comp cCw2 (by decide +kernel) (by decide +kernel)) (pac (pe_var (i := 1) rfl (vis_free cCw3)) (pac (pe_var (i := 0) rfl (vis_loc cCw0)) pa_nil))) pa_nil)))) (
    pss_cut (ps_setCompI (i := 3) rfl (scCf rfl rfl) (pir1 gXr0 T.rng (pac (pcB call_len_seq gXr1 T.len boo_len (pac (pn nXr 0) pa_nil)) pa_nil)) (fun C s0 H0 fp => pt_cmpR op_eq (pe_ix (show IxR _ (rIxL K) from ix_list) (pe_var (i := 1) rfl (vis_free cCf1)) (pe_var (i := 0) rfl (vis_loc cCf0)) (fun _ _ => rfl)) pe_int (nomark _)) (fun C s0 H0 fp => (pe_var (i := 0) rfl (vis_loc cCf0))) nXr.nd rfl locXf rfl) (
    pss_cons (psn nXr 4 pe_int) (
    pss_cons (ps_while PassesOwn.never (pt_cmpR op_lt (pn nXr 4) (pcB call_len_seq gXr1 T.len boo_len (pac (pn nXr 3) pa_nil)) (nomark _)) (pss_cons (psn nXr 5 (pe_ix ix_list (pn nXr 3) (pn nXr 4) (fun _ _ => rfl))) (
    pss_cons (ps_for PassesOwn.never rfl (pi_list (pe_ix ix_list (pn nXr 1) (pn nXr 5) (fun _ _ => rfl))) (pgn nXr 6) (pss_cons (ps_asg (pe_op op_sub (pe_ix ix_list (pn nXr 2) (pn nXr 6) (fun _ _ => rfl)) pe_int) (pg_sub (pn nXr 2) (pn nXr 6) set_list)) (
    pss_one (ps_if (pt_cmpR op_eq (pe_ix ix_list (pn nXr 2) (pn nXr 6) (fun _ _ => rfl)) pe_int (nomark _)) (pss_one (ps_expr (pl_append (pn nXr 3) (pn nXr 6)))) pss_nil)))) (
    pss_one (psn nXr 4 (pe_op op_add (pn nXr 4) pe_int)))))) (
    pss_one (ps_ret (pn nXr 3))))))), ?_⟩
  have hn : (((rs.map V.ref).length : Nat) : Int) = φs.length := by rw [List.length_map, sh.1]
  have hn' : (((rs.map V.ref).length : Nat) : Int).toNat = φs.length := by omega
  refine ⟨_, rfl, a, rs, φs, rfl, hA, sh, hl, fun l qs H1 sm1 lq R1 => ?_⟩
  -- waits
  obtain ⟨M, hM⟩ : ∃ M : St → Hp → Prop, M = fun σ H' => ∃ b : Addr, σ = [some (.ref a), some (.ref l), some (.ref b), none, none, none, none] ∧ H1 b = none ∧ Same H1 H' ∧ H' b = some (.lst (wN φs.length (cnt φs.length (lnB φs) []))) := ⟨_, rfl⟩
  refine ⟨M, ?_, ?_⟩
  · refine ⟨_, rfl, a, _, rfl, .inl (sm1.seq hA), ((rs.map V.ref).length : Int), rfl, by omega, by omega, fun b hb => ?_⟩
    rw [hn']
    refine comp_range (Q := fun x H1 => gName 2 x [some (.ref a), some (.ref l), none, none, none, none, none] H1 M) (fun i zs H' => zs = wN i (cnt φs.length (lnB φs) []) ∧ Same H1 H' ∧ H' b = some (.lst zs)) ⟨rfl, Same.upd_new hb _, upd_same⟩ ?_ ?_
    · rintro i zs H' hi ⟨rfl, sm, hb'⟩
      refine ⟨_, rfl, _, rfl, a, rs, φs, i, by rw [Int.zero_add]; rfl, (sm1.trans sm).seq hA, sh.same (sm1.trans sm), hi, hl, fun c H2 sm2 _ hc => ?_⟩
      refine ⟨c, _, rfl, .inl (SqL.of hc), ?_⟩
      rw [vN_len, ls_len]
      refine ⟨sm2 _ _ hb', ?_, ?_, fun d o hd => ?_, upd_same⟩
      · rw [wN_len]; exact Nat.lt_of_lt_of_le (show i < 101 by omega) (by decide)
      · unfold wN
        rw [List.range_succ, List.map_append, vN_snoc]; rfl
      · rw [upd_ne (fun z => by rw [z, hb] at hd; cases hd)]; exact sm2 _ _ (sm _ _ hd)
    · rintro zs H' ⟨rfl, sm, hb'⟩
      show M [some (.ref a), some (.ref l), some (.ref b), none, none, none, none] _
      rw [hM]
      exact ⟨b, rfl, hb, sm, hb'⟩
  rw [hM]
  rintro σ2 H2 ⟨b, rfl, nb, sm2, hb2⟩
  -- found
  obtain ⟨M2, hM2⟩ : ∃ M : St → Hp → Prop, M = fun σ H' => ∃ c : Addr, σ = [some (.ref a), some (.ref l), some (.ref b), some (.ref c), none, none, none] ∧ H2 c = none ∧ Same H2 H' ∧ H' c = some (.lst (vN ((List.range φs.length).filter fun p => cnt φs.length (lnB φs) [] p == 0))) := ⟨_, rfl⟩
  refine ⟨M2, ?_, ?_⟩
  · refine ⟨_, rfl, a, _, rfl, .inl ((sm1.trans sm2).seq hA), ((rs.map V.ref).length : Int), rfl, by omega, by omega, fun c hc => ?_⟩
    rw [hn']
    refine comp_rangeI (Q := fun x H1 => gName 3 x [some (.ref a), some (.ref l), some (.ref b), none, none, none, none] H1 M2) (fun i zs H' => zs = vN ((List.range i).filter fun p => cnt φs.length (lnB φs) [] p == 0) ∧ Same H2 H' ∧ H' c = some (.lst zs)) ⟨rfl, Same.upd_new hc _, upd_same⟩ ?_ ?_
    · rintro i zs H' N S hi ⟨rfl, sm, hc'⟩ hN hS
      refine ⟨_, rfl, _, rfl, b, _, _, _, rfl, rfl, SqL.of (sm _ _ hb2), by rw [Int.zero_add]; exact wN_at hi, rfl, _, rfl, ?_⟩
      refine ite2 (fun d => ?_) (fun d => ?_)
      · have d' : (cnt φs.length (lnB φs) [] i == 0) = true := by
          have := V.int.inj (of_decide_eq_true d)
          rw [beq_iff_eq]; omega
        refine ⟨_, rfl, hN _ _ hc' ?_ ⟨?_, fun d o hd => ?_, upd_same⟩⟩
        · rw [vN_len]
          have := List.length_filter_le (fun p => cnt φs.length (lnB φs) [] p == 0) (List.range i)
          rw [List.length_range] at this
          exact Nat.lt_of_le_of_lt (show _ ≤ 100 by omega) (by decide)
        · rw [Int.zero_add, vN_snoc, List.range_succ, List.filter_append]
          simp only [List.filter_cons, d', if_true, List.filter_nil]
        · rw [upd_ne (fun z => by rw [z, hc] at hd; cases hd)]; exact sm _ _ hd
      · have d' : (cnt φs.length (lnB φs) [] i == 0) = false := by
          refine Bool.eq_false_iff.mpr fun z => d ?_
          rw [beq_iff_eq] at z
          rw [z]; simp
        refine hS _ ⟨?_, sm, hc'⟩
        rw [List.range_succ, List.filter_append]
        simp [d']
    · rintro zs H' ⟨rfl, sm, hc'⟩
      show M2 [some (.ref a), some (.ref l), some (.ref b), some (.ref c), none, none, none] _
      rw [hM2]
      exact ⟨c, rfl, hc, sm, hc'⟩
  rw [hM2]
  rintro σ3 H3 ⟨c, rfl, nc, sm3, hc3⟩
  have nb0 : H b = none := sm1.free nb
  have nc0 : H c = none := (sm1.trans sm2).free nc
  have nbl : b ≠ l := fun z => by rw [z, R1.at'] at nb; cases nb
  have ncl : c ≠ l := fun z => by rw [z, sm2 _ _ R1.at'] at nc; cases nc
  have ncb : c ≠ b := fun z => by rw [z, hb2] at nc; cases nc
  have nbq : b ∉ qs := fun z => by
    obtain ⟨i, hi, e⟩ := List.getElem_of_mem z
    have := (R1.each i b (by rw [List.getElem?_eq_getElem hi, e])).2
    rw [this] at nb; cases nb
  have ncq : c ∉ qs := fun z => by
    obtain ⟨i, hi, e⟩ := List.getElem_of_mem z
    have := sm2 _ _ (R1.each i c (by rw [List.getElem?_eq_getElem hi, e])).2
    rw [this] at nc; cases nc
  have R3 : Rows H H3 l qs (rsOf φs.length (lnB φs)) := ⟨sm3 _ _ (sm2 _ _ R1.at'), R1.new, R1.nd, R1.out, fun i q' e => ⟨(R1.each i q' e).1, sm3 _ _ (sm2 _ _ (R1.each i q' e).2)⟩⟩
  -- the lists that are not written stay
  have updR : ∀ {H' : Hp} {d : Addr} {o : HO}, d ≠ l → d ∉ qs → Rows H H' l qs (rsOf φs.length (lnB φs)) → Rows H (upd H' d o) l qs (rsOf φs.length (lnB φs)) := fun {H' d o} h1 h2 R => ⟨by rw [upd_ne h1.symm]; exact R.at', R.new, R.nd, R.out, fun i q' e => ⟨(R.each i q' e).1, by rw [upd_ne (fun z => h2 (by rw [← z]; exact List.mem_of_getElem? e))]; exact (R.each i q' e).2⟩⟩
  have updS : ∀ {H' : Hp} {d : Addr} {o : HO}, H d = none → Same H H' → Same H (upd H' d o) := fun {H' d o} h1 sm x u hx => by rw [upd_ne (fun z => by rw [z, h1] at hx; cases hx)]; exact sm _ _ hx
  refine ⟨fun m σ H' => ∃ (fd : List Nat) (W : Nat → Nat) (t : Nat) (u v : Option V), σ = [some (.ref a), some (.ref l), some (.ref b), some (.ref c), some (.int (t : Int)), u, v] ∧ m = φs.length - t ∧ t ≤ fd.length ∧ Kh φs.length (lnB φs) fd W ∧ (∀ p, p < φs.length → W p = cnt φs.length (lnB φs) (fd.take t) p) ∧ Same H H' ∧ Rows H H' l qs (rsOf φs.length (lnB φs)) ∧ H' b = some (.lst (wN φs.length W)) ∧ H' c = some (.lst (vN fd)), ?_, ?_⟩
  · exact ⟨_, _, _, 0, none, none, rfl, rfl, Nat.zero_le _, Kh.start, fun p _ => rfl, (sm1.trans sm2).trans sm3, R3, sm3 _ _ hb2, hc3⟩
  rintro m σ H' ⟨fd, W, t, u, v, rfl, rfl, ht, kh, hw, sm, R, hb, hc⟩
  have lfd : fd.length ≤ φs.length := nd_le kh.nd kh.lt
  refine ⟨_, rfl, _, rfl, c, _, rfl, .inl (SqL.of hc), _, _, rfl, rfl, _, rfl, ?_⟩
  rw [vN_len]
  refine ite2 (fun d => ?_) (fun d => ?_)
  · have d' : t < fd.length := by
      have := of_decide_eq_true d
      omega
    refine ⟨fun σ' H'' => ∃ m', m' < φs.length - t ∧ ∃ (fd : List Nat) (W : Nat → Nat) (t : Nat) (u v : Option V), σ' = [some (.ref a), some (.ref l), some (.ref b), some (.ref c), some (.int (t : Int)), u, v] ∧ m' = φs.length - t ∧ t ≤ fd.length ∧ Kh φs.length (lnB φs) fd W ∧ (∀ p, p < φs.length → W p = cnt φs.length (lnB φs) (fd.take t) p) ∧ Same H H'' ∧ Rows H H'' l qs (rsOf φs.length (lnB φs)) ∧ H'' b = some (.lst (wN φs.length W)) ∧ H'' c = some (.lst (vN fd)), fun σ' H'' z => z, ?_⟩
    have et : fd[t]? = some fd[t] := List.getElem?_eq_getElem d'
    generalize fd[t] = pl at et
    have hpl : pl < φs.length := kh.lt pl (List.mem_of_getElem? et)
    refine ⟨_, rfl, _, rfl, c, _, _, _, rfl, rfl, SqL.of hc, vN_at et, ?_⟩
    have hq : qs[pl]? = some qs[pl] := List.getElem?_eq_getElem (by omega)
    generalize qs[pl] = g at hq
    obtain ⟨g0, hg⟩ := R.each pl g hq
    refine ⟨_, rfl, _, rfl, l, _, _, .ref g, rfl, rfl, SqL.of R.at', atI_nat (by rw [List.getElem?_map, hq]; rfl), g, rfl, ⟨_, SqL.of hg⟩, ?_⟩
    refine for_list (K := K) (a := g) (xs := vN (rsOf φs.length (lnB φs) pl)) (fun j σ H' => ∃ (fd : List Nat) (W : Nat → Nat) (v : Option V), σ = [some (.ref a), some (.ref l), some (.ref b), some (.ref c), some (.int (t : Int)), some (.int (pl : Int)), v] ∧ Kt φs.length (lnB φs) fd W t pl j ∧ Same H H' ∧ Rows H H' l qs (rsOf φs.length (lnB φs)) ∧ H' b = some (.lst (wN φs.length W)) ∧ H' c = some (.lst (vN fd))) ⟨fd, W, v, rfl, Kt.start kh hw et, sm, R, hb, hc⟩ ?_ ?_ ?_
    · rintro j σ H' _ ⟨fd, W, v, _, _, _, R, _, _⟩
      exact SqL.of (R.each pl g hq).2
    · rintro j x σ H' hx ⟨fd, W, v, rfl, kt, sm, R, hb, hc⟩
      obtain ⟨y, hy, rfl⟩ := vN_get hx
      obtain ⟨y1, y2, y3⟩ := kt.one hy
      have ewy : ((W y : Int) - 1) = ((W y - 1 : Nat) : Int) := by omega
      refine ⟨_, rfl, _, rfl, b, _, _, _, rfl, rfl, SqL.of hb, wN_at y1, _, _, rfl, rfl, ?_⟩
      show gSub (tVar 2) (tVar 6) rSetL (V.int ((W y : Int) - 1)) _ _ _
      rw [ewy]
      refine ⟨_, rfl, _, rfl, b, _, _, y, rfl, rfl, hb, ?_, ?_⟩
      · unfold ixN
        rw [if_pos (by omega), if_pos (by rw [wN_len]; omega)]; simp
      rw [wN_set y1]
      have hW : ∀ p, p < φs.length → (fun q => if q = y then W y - 1 else W q) p = if p = y then W y - 1 else W p := fun p _ => rfl
      have eW : (fun q => if q = y then W y - 1 else W q) y = W y - 1 := if_pos rfl
      refine ⟨_, rfl, _, rfl, b, _, _, _, rfl, rfl, SqL.of upd_same, wN_at y1, rfl, _, rfl, ?_⟩
      have R' := updR (o := .lst (wN φs.length (fun q => if q = y then W y - 1 else W q))) nbl nbq R
      have sm' := updS (o := .lst (wN φs.length (fun q => if q = y then W y - 1 else W q))) nb0 sm
      have hc' : upd H' b (.lst (wN φs.length (fun q => if q = y then W y - 1 else W q))) c = some (.lst (vN fd)) := by rw [upd_ne ncb]; exact hc
      have hb' : upd H' b (.lst (wN φs.length (fun q => if q = y then W y - 1 else W q))) b = some (.lst (wN φs.length (fun q => if q = y then W y - 1 else W q))) := upd_same
      generalize upd H' b (.lst (wN φs.length (fun q => if q = y then W y - 1 else W q))) = H5 at R' sm' hc' hb' ⊢
      refine ite2 (fun e => ?_) (fun e => ?_)
      · have e' : (fun q => if q = y then W y - 1 else W q) y = 0 := by
          have := V.int.inj (of_decide_eq_true e)
          rw [if_pos rfl] at this
          rw [eW]
          omega
        have kt' := kt.more hy hW e'
        refine ⟨_, rfl, .inl ⟨rfl, _, SqL.of hc'⟩, _, rfl, c, _, _, rfl, rfl, hc', ?_, ?_⟩
        · rw [vN_len]
          have := nd_le kt.kh.nd kt.kh.lt
          exact Nat.lt_of_le_of_lt (show _ ≤ 100 by omega) (by decide)
        · rw [vN_snoc]
          exact ⟨_, _, _, rfl, kt', updS nc0 sm', updR ncl ncq R', by rw [upd_ne ncb.symm]; exact hb', upd_same⟩
      · have e' : (fun q => if q = y then W y - 1 else W q) y ≠ 0 := fun z => e (by
          have z' : (if y = y then W y - 1 else W y) = 0 := z
          rw [z']; simp)
        exact ⟨_, _, _, rfl, kt.skip hy hW e', sm', R', hb', hc'⟩
    · rintro σ H' ⟨fd, W, v, rfl, kt, sm, R, hb, hc⟩
      rw [vN_len] at kt
      have htl : t < fd.length := (List.getElem?_eq_some_iff.mp kt.at').1
      refine ⟨_, rfl, _, _, rfl, rfl, φs.length - (t + 1), by omega, fd, W, t + 1, _, _, rfl, rfl, by omega, kt.kh, kt.done, sm, R, hb, hc⟩
  · have d' : ¬ t < fd.length := by
      have := of_decide_eq_false (Bool.eq_false_iff.mpr d)
      omega
    rw [show t = fd.length by omega, List.take_length] at hw
    exact ⟨_, rfl, q c fd W H' sm nc0 hc kh hw⟩
theorem scXh : FnScope ["sheet", "place", "formula", "fresh"] ["sheet", "place", "formula"] (defScope sChanged) := ⟨rfl, rfl, rfl, by decide +kernel, rfl, by decide +kernel, by decide +kernel⟩
theorem nXh : NOk ["sheet", "place", "formula", "fresh"] (defScope sChanged) := ⟨scXh.nd, by decide +kernel, by decide +kernel⟩
theorem gXh0 : GN (defScope sChanged) "list" := ⟨by decide +kernel, by decide +kernel, by decide +kernel⟩
theorem gXh1 : GN (defScope sChanged) "require_cell" := ⟨by decide +kernel, by decide +kernel, by decide +kernel⟩
theorem ok_changed {f fQ CN : Addr} {fd dQ : FuncData} (F : Fun K "changed" "changed" sChanged f fd) (T : Txt mg) (CRq : ClF P w K mg base 2 "require_cell" fQ dQ ["sheet", "place"] (spRequire K CN)) : FnOk P w K mg base (CXF P w) 3 f fd ["sheet", "place", "formula"] (spChanged CN) := by
  refine F.okF scXh (fun vs H Q E h => ?_) (fun cdv A outer s H vs Q E hr h => ?_)
  · obtain ⟨a, rs, p, r, rfl, _⟩ := h
    rfl
  obtain ⟨a, rs, p, r, rfl, hA, hl, q, qE⟩ := h
  refine ⟨_, pss_cons (ps_expr (pcF CRq hr gXh1 (pac (pn nXh 0) (pac (pn nXh 1) pa_nil)))) (PSs.nox (pss_cons (psn nXh 3 (pcT call_list_of gXh0 T.list boo_list (pac (pn nXh 0) pa_nil))) (
    pss_cons (ps_asg (pn nXh 2) (pg_sub (pn nXh 3) (pn nXh 1) set_list)) (
    pss_one (ps_ret (pn nXh 3)))))), ?_⟩
  refine ⟨_, rfl, _, rfl, a, _, p, rfl, SqL.of hA, fun h0 h1 => ?_, fun h0 => qE (by rw [List.length_map] at h0; exact h0)⟩
  rw [List.length_map] at h1
  refine ⟨_, rfl, a, _, rfl, .inl (SqL.of hA), fun l hl' => ?_⟩
  refine ⟨_, rfl, _, rfl, _, rfl, l, _, p, p.toNat, rfl, rfl, upd_same, ?_, ?_⟩
  · unfold ixN
    rw [if_pos h0, if_pos (by rw [List.length_map]; exact h1)]
  rw [upd_upd, ← List.map_set]
  exact ⟨_, rfl, q h0 h1 l _ (Same.upd_new hl' _) hl' upd_same⟩
end
end K08

set_option linter.all false
set_option maxRecDepth 100000
set_option maxHeartbeats 4000000
namespace K08
open PySem L2 LS
seal L2.PE L2.PT L2.PW L2.PA L2.PS L2.PSs L2.PG L2.PI L2.PO L2.OpR L2.UnR L2.CallR L2.IxR L2.SlR L2.TruR
section
variable {P : Program} {w : World} {K : PySem.W.Frag} {mg : Str → Option Value} {base : Heap}
theorem scXu : FnScope ["sheet", "numbers", "told", "place", "value"] ["sheet"] (defScope sResults) := ⟨rfl, rfl, rfl, by decide +kernel, rfl, by decide +kernel, by decide +kernel⟩
theorem nXu : NOk ["sheet", "numbers", "told", "place", "value"] (defScope sResults) := ⟨scXu.nd, by decide +kernel, by decide +kernel⟩
theorem gXu0 : GN (defScope sResults) "order" := ⟨by decide +kernel, by decide +kernel, by decide +kernel⟩
theorem gXu1 : GN (defScope sResults) "value_of" := ⟨by decide +kernel, by decide +kernel, by decide +kernel⟩
abbrev cCu : Scope := { kind := .function, names := [(PySem.Str.ofString ".0", .local), (PySem.Str.ofString "formula", .local)], isGenerator := false, isCoroutine := false, more := [] }
theorem cCu0 : cCu.names.lookup ("formula" : Str) = some NameKind.local := by decide +kernel
theorem scCu {X : Cx} (hE : X.env.scope = defScope sResults) : CScope X cCu "formula" [] [] where
  kind := rfl
  cell := by decide +kernel
  names := by decide +kernel
  var := by decide +kernel
  free := fun y m e => absurd e ((show ∀ y ∈ cCu.names, y.2 ≠ .free by decide +kernel) y m)
  frs := by decide +kernel
  nd := by decide +kernel
  at' := rfl
  fr := by decide +kernel
theorem locXu1 : Loc (defScope sResults) "numbers" := .inl (by decide +kernel)
theorem locXu2 : Loc (defScope sResults) "told" := .inl (by decide +kernel)
theorem Tb.updL {P1 P2 b : Addr} {H : Hp} {xs : List V} {o : HO} (t : Tb P1 P2 H) (hb : H b = some (.lst xs)) : Tb P1 P2 (upd H b o) := by
  have one : ∀ {P : Addr} {pos : Pos} {q : Str}, TabOk H P pos q → TabOk (upd H b o) P pos q := fun {P pos q} t => by
    rcases t with t | ⟨c, t, u⟩
    · exact .inl (by rw [upd_ne (ne_of t hb (by intro z; cases z))]; exact t)
    · exact .inr ⟨c, by rw [upd_ne (ne_of t hb (by intro z; cases z))]; exact t, by rw [upd_ne (ne_of u hb (by intro z; cases z))]; exact u⟩
  exact ⟨one t.1, one t.2⟩
theorem ok_results {f fO fV P1 P2 : Addr} {fd dO dV : FuncData} (F : Fun K "results" "results" sResults f fd) (CO : Cl P w K mg base 4 "order" fO dO ["sheet"] (spOrderS K)) (CVo : Cl P w K mg base 4 "value_of" fV dV ["formula", "numbers"] (spValueOf K P1 P2)) : FnOk P w K mg base CX0 5 f fd ["sheet"] (spResultsF (Tb P1 P2)) := by
  refine F.ok scXu (fun vs H Q E h => ?_) (fun cdv A outer s H vs Q E hr h => ?_)
  · obtain ⟨a, rs, φs, rfl, _⟩ := h
    rfl
  obtain ⟨a, rs, φs, rfl, hA', sh, hl, tb, q⟩ := h
  refine ⟨_, pss_cut (ps_setComp (i := 1) rfl (scCu rfl) (pi_list (pn nXu 0)) (fun C s0 H0 fp => pe_int) nXu.nd rfl locXu1 rfl) (
    pss_cut (ps_setComp (i := 2) rfl (scCu rfl) (pi_list (pn nXu 0)) (fun C s0 H0 fp => pe_non) nXu.nd rfl locXu2 rfl) (
    pss_cons (ps_for PassesOwn.never rfl (pi_list (pcD CO hr gXu0 (pac (pn nXu 0) pa_nil))) (pgn nXu 3) (pss_cons (psn nXu 4 (pcD CVo hr gXu1 (pac (pe_ix ix_list (pn nXu 0) (pn nXu 3) (fun _ _ => rfl)) (pac (pn nXu 1) pa_nil)))) (
    pss_cons (ps_asg (pn nXu 4) (pg_sub (pn nXu 1) (pn nXu 3) set_list)) (
    pss_one (ps_asg (pn nXu 4) (pg_sub (pn nXu 2) (pn nXu 3) set_list)))))) (
    pss_one (ps_ret (pn nXu 2))))), ?_⟩
  have hn : (rs.map V.ref).length = φs.length := by rw [List.length_map, sh.1]
  obtain ⟨M, hM⟩ : ∃ M : St → Hp → Prop, M = fun σ H' => ∃ b : Addr, σ = [some (.ref a), some (.ref b), none, none, none] ∧ H b = none ∧ Same H H' ∧ H' b = some (.lst (List.replicate (rs.map V.ref).length (V.int 0))) := ⟨_, rfl⟩
  refine ⟨M, ?_, ?_⟩
  · have hA : SqL K H a (rs.map V.ref) := SqL.of hA'
    refine ⟨_, rfl, a, rfl, ⟨_, hA⟩, fun b hb => ?_⟩
    refine comp_list (K := K) (Q := fun x H1 => gName 1 x [some (.ref a), none, none, none, none] H1 M) (a := a) (xs := rs.map V.ref) (fun i zs H' => zs = List.replicate i (V.int 0) ∧ Same H H' ∧ H' b = some (.lst zs)) ⟨rfl, Same.upd_new hb _, upd_same⟩ ?_ ?_ ?_
    · rintro i zs H' _ ⟨_, sm, _⟩
      exact sm.seq hA
    · rintro i x zs H' hx ⟨rfl, sm, hb'⟩
      have hi : i < (rs.map V.ref).length := (List.getElem?_eq_some_iff.mp hx).1
      refine ⟨hb', ?_, ?_, fun d o hd => ?_, upd_same⟩
      · rw [List.length_replicate]; exact Nat.lt_of_lt_of_le (show i < 101 by omega) (by decide)
      · rw [List.replicate_succ']
      · rw [upd_ne (fun z => by rw [z, hb] at hd; cases hd)]; exact sm _ _ hd
    · rintro zs H' ⟨rfl, sm, hb'⟩
      show M [some (.ref a), some (.ref b), none, none, none] _
      rw [hM]
      exact ⟨b, rfl, hb, sm, hb'⟩
  rw [hM]
  rintro σ1 H1 ⟨b1, rfl, nb, sm1, hb1⟩
  obtain ⟨M2, hM2⟩ : ∃ M : St → Hp → Prop, M = fun σ H' => ∃ c : Addr, σ = [some (.ref a), some (.ref b1), some (.ref c), none, none] ∧ H1 c = none ∧ Same H1 H' ∧ H' c = some (.lst (List.replicate (rs.map V.ref).length V.non)) := ⟨_, rfl⟩
  refine ⟨M2, ?_, ?_⟩
  · have hA : SqL K H1 a (rs.map V.ref) := sm1.seq (SqL.of hA')
    refine ⟨_, rfl, a, rfl, ⟨_, hA⟩, fun b hb => ?_⟩
    refine comp_list (K := K) (Q := fun x H1 => gName 2 x [some (.ref a), some (.ref b1), none, none, none] H1 M2) (a := a) (xs := rs.map V.ref) (fun i zs H' => zs = List.replicate i (V.non) ∧ Same H1 H' ∧ H' b = some (.lst zs)) ⟨rfl, Same.upd_new hb _, upd_same⟩ ?_ ?_ ?_
    · rintro i zs H' _ ⟨_, sm, _⟩
      exact sm.seq hA
    · rintro i x zs H' hx ⟨rfl, sm, hb'⟩
      have hi : i < (rs.map V.ref).length := (List.getElem?_eq_some_iff.mp hx).1
      refine ⟨hb', ?_, ?_, fun d o hd => ?_, upd_same⟩
      · rw [List.length_replicate]; exact Nat.lt_of_lt_of_le (show i < 101 by omega) (by decide)
      · rw [List.replicate_succ']
      · rw [upd_ne (fun z => by rw [z, hb] at hd; cases hd)]; exact sm _ _ hd
    · rintro zs H' ⟨rfl, sm, hb'⟩
      show M2 [some (.ref a), some (.ref b1), some (.ref b), none, none] _
      rw [hM2]
      exact ⟨b, rfl, hb, sm, hb'⟩
  rw [hM2]
  rintro σ2 H2 ⟨c, rfl, nc, sm2, hc2⟩
  have sm02 := sm1.trans sm2
  have nbc : b1 ≠ c := fun z => by rw [z, nc] at hb1; cases hb1
  have nc0 : H c = none := sm1.free nc
  have hb2 := sm2 _ _ hb1
  rw [hn, zeros] at hb2
  rw [hn, nons] at hc2
  refine ⟨_, rfl, a, rs, φs, rfl, sm02 _ _ hA', sh.same sm02, hl, fun l fd W H3 sm3 nl hl3 kh hw => ⟨l, rfl, ⟨_, SqL.of hl3⟩, ?_⟩⟩
  rw [vN_i] at hl3
  have good := good_of kh hw
  generalize iN fd = ks at hl3 good
  have nlb : l ≠ b1 := fun z => by rw [z, hb2] at nl; cases nl
  have nlc : l ≠ c := fun z => by rw [z, hc2] at nl; cases nl
  have sm03 := sm02.trans sm3
  refine for_list (K := K) (a := l) (xs := ks.map V.int) (fun i σ H' => ∃ (os : List (Option Int)) (u v : Option V), σ = [some (.ref a), some (.ref b1), some (.ref c), u, v] ∧ Keep H H' ∧ Tb P1 P2 H' ∧ H' l = some (.lst (ks.map V.int)) ∧ H' b1 = some (.lst ((nOf os).map V.int)) ∧ H' c = some (.lst (os.map optV)) ∧ Turn φs ks i os) ⟨_, none, none, rfl, Keep.of sm03, tb.same sm03, hl3, sm3 _ _ hb2, sm3 _ _ hc2, Turn.start φs ks⟩ ?_ ?_ ?_
  · rintro i σ H' _ ⟨os, u, v, _, _, _, h, _⟩
    exact SqL.of h
  · rintro i x σ H' hx ⟨os, u, v, rfl, kp, tb', hl', hb', hc', tn⟩
    rw [List.getElem?_map] at hx
    obtain ⟨y, hy, rfl⟩ := Option.map_eq_some_iff.mp hx
    obtain ⟨g1, g2, g3, g4⟩ := good.each i y hy
    obtain ⟨p, rfl⟩ : ∃ p : Nat, y = (p : Int) := ⟨y.toNat, by omega⟩
    have hp : p < φs.length := by omega
    have g4' : heldB (ks.take i) φs p = false := g4
    obtain ⟨r, _, e1, hr1⟩ := (sh.keep kp).nth hp
    refine ⟨_, rfl, _, rfl, a, _, _, _, rfl, rfl, kp.seq (SqL.of hA'), e1, _, rfl, r, b1, _, nOf os, rfl, SqT.of hr1, SqL.of hb', tb', fun H4 k4 tb4 => ?_⟩
    have hb4 := k4 _ _ hb' (fun _ z => by cases z)
    have hc4 := k4 _ _ hc' (fun _ z => by cases z)
    have hl4 := k4 _ _ hl' (fun _ z => by cases z)
    have tn' := tn.step hp hy g4'
    show gName 4 (.int ((φs.getD p default).worth (val (nOf os)))) _ _ _
    generalize (φs.getD p default).worth (val (nOf os)) = z at tn' ⊢
    have ixp : ∀ {xs : List V}, xs.length = φs.length → ixN xs.length (p : Int) = some p := fun {xs} h => by
      unfold ixN
      rw [if_pos (by omega), if_pos (by omega)]; simp
    have ln1 : ((nOf os).map V.int).length = φs.length := by rw [List.length_map]; unfold nOf; rw [List.length_map, tn.len]
    have ln2 : (os.map optV).length = φs.length := by rw [List.length_map, tn.len]
    refine ⟨_, rfl, _, rfl, _, rfl, b1, _, _, p, rfl, rfl, hb4, ixp ln1, ?_⟩
    refine ⟨_, rfl, _, rfl, _, rfl, c, _, _, p, rfl, rfl, by rw [upd_ne nbc.symm]; exact hc4, ixp ln2, ?_⟩
    rw [nOf_set, show V.int z = optV (some z) from rfl, ← List.map_set]
    refine ⟨os.set p (some z), _, _, rfl, fun d o hd no => ?_, (tb4.updL hb4).updL (by rw [upd_ne nbc.symm]; exact hc4), ?_, ?_, upd_same, tn'⟩
    · rw [upd_ne (fun y => by rw [y, nc0] at hd; cases hd), upd_ne (fun y => by rw [y, nb] at hd; cases hd)]
      exact k4 _ _ (kp _ _ hd no) no
    · rw [upd_ne nlc, upd_ne nlb]; exact hl4
    · rw [upd_ne nbc, upd_same]
  · rintro σ H' ⟨os, u, v, rfl, kp, tb', hl', hb', hc', tn⟩
    rw [List.length_map] at tn
    exact ⟨_, rfl, q c os H' kp tb' nc0 hc' (tn.done good)⟩
end
end K08

set_option linter.all false
set_option maxRecDepth 100000
set_option maxHeartbeats 4000000
namespace K08
open PySem L2 LS
seal L2.PE L2.PT L2.PW L2.PA L2.PS L2.PSs L2.PG L2.PI L2.PO L2.OpR L2.UnR L2.CallR L2.IxR L2.SlR L2.TruR
section
variable {P : Program} {w : World} {K : PySem.W.Frag} {mg : Str → Option Value} {base : Heap}
theorem Tb.updI {P1 P2 b C d : Addr} {H : Hp} {fs : List (Str × V)} {o : HO} (t : Tb P1 P2 H) (hb : H b = some (.ins C d fs)) : Tb P1 P2 (upd H b o) := by
  have one : ∀ {P : Addr} {pos : Pos} {q : Str}, TabOk H P pos q → TabOk (upd H b o) P pos q := fun {P pos q} t => by
    rcases t with t | ⟨c, t, u⟩
    · exact .inl (by rw [upd_ne (ne_of t hb (by intro z; cases z))]; exact t)
    · exact .inr ⟨c, by rw [upd_ne (ne_of t hb (by intro z; cases z))]; exact t, by rw [upd_ne (ne_of u hb (by intro z; cases z))]; exact u⟩
  exact ⟨one t.1, one t.2⟩
theorem scDi : FnScope ["self", "size"] ["self", "size"] (defScope sDInit) := ⟨rfl, rfl, rfl, by decide +kernel, rfl, by decide +kernel, by decide +kernel⟩
theorem nDi : NOk ["self", "size"] (defScope sDInit) := ⟨scDi.nd, by decide +kernel, by decide +kernel⟩
theorem gDi0 : GN (defScope sDInit) "range" := ⟨by decide +kernel, by decide +kernel, by decide +kernel⟩
theorem gDi1 : GN (defScope sDInit) "results" := ⟨by decide +kernel, by decide +kernel, by decide +kernel⟩
abbrev cCi : Scope := { kind := .function, names := [(PySem.Str.ofString ".0", .local), (PySem.Str.ofString "place", .local)], isGenerator := false, isCoroutine := false, more := [] }
theorem cCi0 : cCi.names.lookup ("place" : Str) = some NameKind.local := by decide +kernel
theorem scCi {X : Cx} (hE : X.env.scope = defScope sDInit) : CScope X cCi "place" [] [] where
  kind := rfl
  cell := by decide +kernel
  names := by decide +kernel
  var := by decide +kernel
  free := fun y m e => absurd e ((show ∀ y ∈ cCi.names, y.2 ≠ .free by decide +kernel) y m)
  frs := by decide +kernel
  nd := by decide +kernel
  at' := rfl
  fr := by decide +kernel
theorem ok_dinit {f C fR P1 P2 : Addr} {fd dR : FuncData} (F : Fun K "__init__" "Day.__init__" sDInit f fd) (T : Txt mg) (D : TD K mg C) (CR : Cl P w K mg base 5 "results" fR dR ["sheet"] (spResultsF (Tb P1 P2))) : FnOk P w K mg base CX0 6 f fd ["self", "size"] (spInitD C (Tb P1 P2)) := by
  refine F.ok scDi (fun vs H Q E h => ?_) (fun cdv A outer s H vs Q E hr h => ?_)
  · obtain ⟨x, dx, n, rfl, _⟩ := h
    rfl
  obtain ⟨x, dx, n, rfl, hx, hn, tb, q⟩ := h
  refine ⟨_, pss_cut (ps_fld (pn nDi 0) (pe_comp rfl (scCi rfl) (pir1 gDi0 T.rng (pac (pn nDi 1) pa_nil)) (fun C s0 H0 fp => pe_tup (pac pe_str (pac pe_int pa_nil)))) rfl) (pss_one (ps_fld (pn nDi 0) (pcD CR hr gDi1 (pac (pe_fld (pn nDi 0) rfl) pa_nil st_attr) st_attr) rfl)), ?_⟩
  obtain ⟨M, hM⟩ : ∃ M : St → Hp → Prop, M = fun σ H' => ∃ (l : Addr) (rs : List Addr) (H1 : Hp), σ = [some (.ref x), some (.int (n : Int))] ∧ H' = upd H1 x (.ins C dx (putF "sheet" (.ref l) [])) ∧ x ≠ l ∧ rs.length = n ∧ Sh H1 rs (List.replicate n (.num 0)) ∧ H1 l = some (.lst (rs.map V.ref)) ∧ Same H H1 := ⟨_, rfl⟩
  refine ⟨M, ?_, ?_⟩
  · refine ⟨_, rfl, (n : Int), rfl, by omega, by omega, fun l hl => ?_⟩
    have nlx : x ≠ l := ne_of_none hx hl
    rw [Int.toNat_natCast]
    refine comp_range (Q := fun y H1 => tVar 0 [some (.ref x), some (.int (n : Int))] H1 fun x' H2 => ∃ a C dx fs, x' = .ref a ∧ H2 a = some (.ins C dx fs) ∧ Cls K C ∧ NoAttr K C "sheet" ∧ fs.length < 1000 ∧ M [some (.ref x), some (.int (n : Int))] (upd H2 a (.ins C dx (putF "sheet" y fs)))) (fun i zs H' => ∃ rs : List Addr, zs = rs.map V.ref ∧ rs.length = i ∧ Sh H' rs (List.replicate i (.num 0)) ∧ H' l = some (.lst zs) ∧ Same H H') ⟨[], rfl, rfl, ⟨rfl, fun i r φ z => by simp at z⟩, upd_same, Same.upd_new hl _⟩ ?_ ?_
    · rintro i zs H' hi ⟨rs, rfl, rfl, sh, hl', sm⟩
      refine ⟨small_line (by simp), fun r hr' => ?_⟩
      have smr := Same.upd_new hr' (.tup [V.str "number", V.int 0])
      have hr3 : upd H' r (.tup [V.str "number", V.int 0]) r = some (.tup (Fm.num 0).v) := upd_same
      have hl2 := smr _ _ hl'
      generalize upd H' r (.tup [V.str "number", V.int 0]) = H3 at smr hr3 hl2 ⊢
      have nrl : r ≠ l := fun z => by subst z; rw [hl2] at hr3; cases hr3
      have ll : (rs.map V.ref).length < sizeLine := by rw [List.length_map]; exact Nat.lt_of_lt_of_le (show rs.length < 101 by omega) (by decide)
      refine ⟨hl2, ll, rs ++ [r], by simp, by simp, ⟨by simp, fun j r' φ' h1 h2 => ?_⟩, upd_same, fun b o' hb => ?_⟩
      · rw [List.replicate_succ', List.getElem?_append] at h2
        rw [List.getElem?_append] at h1
        rw [List.length_replicate] at h2
        by_cases hj : j < rs.length
        · rw [if_pos hj] at h1 h2
          have e := sh.2 j r' φ' h1 h2
          have ne : r' ≠ l := fun z => by rw [z, hl'] at e; cases e
          rw [upd_ne ne]
          exact smr _ _ e
        · rw [if_neg hj] at h1 h2
          cases hj0 : j - rs.length with
          | zero =>
            rw [hj0] at h1 h2
            cases h1; cases h2
            rw [upd_ne nrl]; exact hr3
          | succ m => rw [hj0] at h1; simp at h1
      · rw [upd_ne (fun z => by rw [z, hl] at hb; cases hb)]
        exact smr _ _ (sm _ _ hb)
    · rintro zs H1 ⟨rs, rfl, hlen, sh1, hl1, sm1⟩
      refine ⟨_, rfl, x, C, dx, [], rfl, sm1 _ _ hx, D.cl, D.nS, (by show 0 < 1000; decide), ?_⟩
      rw [hM]
      exact ⟨l, rs, H1, rfl, rfl, nlx, hlen, sh1, hl1, sm1⟩
  rw [hM]
  rintro σ1 _ ⟨l, rs, H1, rfl, rfl, nlx, hlen, sh1, hl1, sm1⟩
  have hx2 : upd H1 x (.ins C dx (putF "sheet" (.ref l) [])) x = some (.ins C dx (putF "sheet" (.ref l) [])) := upd_same
  have hl2 : upd H1 x (.ins C dx (putF "sheet" (.ref l) [])) l = some (.lst (rs.map V.ref)) := by rw [upd_ne nlx.symm]; exact hl1
  have tb2 : Tb P1 P2 (upd H1 x (.ins C dx (putF "sheet" (.ref l) []))) := (tb.same sm1).updI (sm1 _ _ hx)
  have kb2 : KB x H (upd H1 x (.ins C dx (putF "sheet" (.ref l) []))) := fun b o hb nb _ => by rw [upd_ne nb]; exact sm1 _ _ hb
  have sh2 : Sh (upd H1 x (.ins C dx (putF "sheet" (.ref l) []))) rs (List.replicate n (.num 0)) := ⟨sh1.1, fun i r φ a b => by
    have e := sh1.2 i r φ a b
    rw [upd_ne (fun z => by rw [z, sm1 _ _ hx] at e; cases e)]; exact e⟩
  generalize upd H1 x (.ins C dx (putF "sheet" (.ref l) [])) = H2 at hx2 hl2 tb2 kb2 sh2 ⊢
  refine ⟨_, rfl, x, C, dx, _, _, rfl, hx2, D.cl, D.nS, (by rw [lookup_putF, if_pos rfl]), l, rs, _, rfl, hl2, sh2, by rw [List.length_replicate]; exact hn, tb2, fun t os H3 k3 tb3 _ ht3 res => ?_⟩
  have hx3 := k3 _ _ hx2 (fun _ z => by cases z)
  have hl3 := k3 _ _ hl2 (fun _ z => by cases z)
  have sh3 := sh2.keep k3
  refine ⟨_, rfl, x, C, dx, _, rfl, hx3, D.cl, D.nT, (by show 1 < 1000; decide), ?_⟩
  have ntx : t ≠ x := fun z => by rw [z, hx3] at ht3; cases ht3
  refine q _ os (fun G hG => ⟨⟨dx, l, t, rs, upd_same, by rw [upd_ne nlx.symm]; exact hl3, ⟨sh3.1, fun i r φ a b => ?_⟩, by rw [upd_ne ntx]; exact ht3, fun z => ?_, fun z => ?_⟩, res⟩) (tb3.updI hx3) fun b o hb nb no => ?_
  · have e := sh3.2 i r φ a b
    rw [upd_ne (fun z => by rw [z, hx3] at e; cases e)]; exact e
  · rw [← z, upd_ne nlx.symm, hl3] at hG; cases hG
  · rw [← z, upd_ne ntx, ht3] at hG; cases hG
  · rw [upd_ne nb]
    exact k3 _ _ (kb2 _ _ hb nb no) no
theorem scDp : FnScope ["self", "place", "formula", "sheet", "told", "moved"] ["self", "place", "formula"] (defScope sDPut) := ⟨rfl, rfl, rfl, by decide +kernel, rfl, by decide +kernel, by decide +kernel⟩
theorem nDp : NOk ["self", "place", "formula", "sheet", "told", "moved"] (defScope sDPut) := ⟨scDp.nd, by decide +kernel, by decide +kernel⟩
theorem gDp0 : GN (defScope sDPut) "changed" := ⟨by decide +kernel, by decide +kernel, by decide +kernel⟩
theorem gDp1 : GN (defScope sDPut) "results" := ⟨by decide +kernel, by decide +kernel, by decide +kernel⟩
theorem gDp2 : GN (defScope sDPut) "range" := ⟨by decide +kernel, by decide +kernel, by decide +kernel⟩
theorem gDp3 : GN (defScope sDPut) "len" := ⟨by decide +kernel, by decide +kernel, by decide +kernel⟩
abbrev cCm : Scope := { kind := .function, names := [(PySem.Str.ofString ".0", .local), (PySem.Str.ofString "cell", .local), (PySem.Str.ofString "self", .free), (PySem.Str.ofString "told", .free)], isGenerator := false, isCoroutine := false, more := [] }
theorem cCm0 : cCm.names.lookup ("cell" : Str) = some NameKind.local := by decide +kernel
theorem cCm1 : cCm.names.lookup ("self" : Str) = some NameKind.free := by decide +kernel
theorem cCm2 : cCm.names.lookup ("told" : Str) = some NameKind.free := by decide +kernel
theorem capCm : ∀ y ∈ cCm.names, y.2 = .free → (defScope sDPut).names.lookup y.1 = some .cell := by decide +kernel
theorem scCm {X : Cx} (hE : X.env.scope = defScope sDPut) (hN : X.N = (["self", "place", "formula", "sheet", "told", "moved"] : List Str)) : CScope X cCm "cell" ["self", "told"] [0, 4] where
  kind := rfl
  cell := by decide +kernel
  names := by decide +kernel
  var := by decide +kernel
  free := fun y m e => .inl ((congrArg (fun sc : Scope => sc.names.lookup y.1) hE).trans (capCm y m e))
  frs := by decide +kernel
  nd := by decide +kernel
  at' := by rw [hN]; rfl
  fr := by decide +kernel
theorem locDp : Loc (defScope sDPut) "moved" := .inl (by decide +kernel)
theorem ok_dput {f C CN fC fR P1 P2 : Addr} {fd dC dR : FuncData} (F : Fun K "put" "Day.put" sDPut f fd) (T : Txt mg) (D : TD K mg C) (CCh : ClF P w K mg base 3 "changed" fC dC ["sheet", "place", "formula"] (spChanged CN)) (CR : Cl P w K mg base 5 "results" fR dR ["sheet"] (spResultsF (Tb P1 P2))) : FnOk P w K mg base (CXF P w) 6 f fd ["self", "place", "formula"] (spPutD C CN (Tb P1 P2)) := by
  refine F.okF scDp (fun vs H Q E h => ?_) (fun cdv A outer s H vs Q E hr h => ?_)
  · obtain ⟨x, r, G, φs, os, p, φ, rfl, _⟩ := h
    rfl
  obtain ⟨x, r, G, φs, os, p, φ, rfl, ⟨⟨dx, l, t, rs, hx, hl, sh, ht, lG, tG⟩, res⟩, hr1, ⟨xG, hG⟩, h100, tb, q, qE⟩ := h
  refine ⟨_, pss_cons (psn nDp 3 (pcF CCh (hr.mono (by decide)) gDp0 (pac (pe_fld (pn nDp 0) rfl) (pac (pn nDp 1) (pac (pn nDp 2) pa_nil)) st_attr) st_attr)) (PSs.nox (pss_cons (psn nDp 4 (pcD CR hr gDp1 (pac (pn nDp 3) pa_nil))) (
    pss_cut (ps_setCompI (i := 5) rfl (scCm rfl rfl) (pir1 gDp2 T.rng (pac (pcB call_len_seq gDp3 T.len boo_len (pac (pn nDp 4) pa_nil)) pa_nil)) (fun C s0 H0 fp => pt_cmpR op_ne (pe_ix (show IxR _ (rIxL K) from ix_list) (pe_var (i := 2) rfl (vis_free cCm2)) (pe_var (i := 0) rfl (vis_loc cCm0)) (fun _ _ => rfl)) (pe_ix (show IxR _ (rIxL K) from ix_list) (show PE _ _ (tFld K (tVar 1) "told") from pe_fld (pe_var (i := 1) rfl (vis_free cCm1)) rfl) (pe_var (i := 0) rfl (vis_loc cCm0)) (fun _ _ => rfl)) (nomark _)) (fun C s0 H0 fp => (pe_var (i := 0) rfl (vis_loc cCm0))) nDp.nd rfl locDp rfl) (
    pss_cons (ps_fld (pn nDp 0) (pn nDp 3) rfl) (
    pss_cons (ps_fld (pn nDp 0) (pn nDp 4) rfl) (
    pss_one (ps_ret (pn nDp 5)))))))), ?_⟩
  have rsl := sh.1
  refine ⟨_, rfl, x, C, dx, _, _, rfl, hx, D.cl, D.nS, dfl_sheet _ _, _, rfl, _, rfl, l, rs, p, r, rfl, hl, by rw [rsl]; exact h100, fun h0 h1 l1 H1 sm1 nl1 hl1 => ?_, fun off => qE (by rw [← rsl]; exact off)⟩
  rw [rsl] at h1
  have hp : p.toNat < φs.length := by omega
  have hx1 := sm1 _ _ hx
  have sh1 : Sh H1 (rs.set p.toNat r) (φs.set p.toNat φ) := (sh.same sm1).set (fun b xs e => e) (sm1 _ _ hr1)
  refine ⟨_, rfl, l1, rs.set p.toNat r, φs.set p.toNat φ, rfl, hl1, sh1, by rw [List.length_set]; exact h100, tb.same sm1, fun t2 us H2 k2 tb2 nt2 ht2 res2 => ?_⟩
  have hx2 := k2 _ _ hx1 (fun _ z => by cases z)
  have ht0 := k2 _ _ (sm1 _ _ ht) (fun _ z => by cases z)
  have hl2 := k2 _ _ hl1 (fun _ z => by cases z)
  have usl : us.length = φs.length := by rw [res2.len, List.length_set]
  have osl := res.len
  obtain ⟨M, hM⟩ : ∃ M : St → Hp → Prop, M = fun σ H' => ∃ m : Addr, σ = [some (.ref x), some (.int p), some (.ref r), some (.ref l1), some (.ref t2), some (.ref m)] ∧ H2 m = none ∧ Same H2 H' ∧ H' m = some (.lst (vN ((List.range us.length).filter fun p => !decide (us.getD p none = os.getD p none)))) := ⟨_, rfl⟩
  refine ⟨M, ?_, ?_⟩
  · refine ⟨_, rfl, t2, _, rfl, .inl (SqL.of ht2), ((us.map optV).length : Int), rfl, by rw [List.length_map]; omega, by rw [List.length_map]; omega, fun m hm => ?_⟩
    rw [show (((us.map optV).length : Nat) : Int).toNat = us.length by rw [List.length_map]; omega]
    refine comp_rangeI (Q := fun y H1 => gName 5 y [some (.ref x), some (.int p), some (.ref r), some (.ref l1), some (.ref t2), none] H1 M) (fun i zs H' => zs = (vN ((List.range i).filter fun p => !decide (us.getD p none = os.getD p none))) ∧ Same H2 H' ∧ H' m = some (.lst zs)) ⟨rfl, Same.upd_new hm _, upd_same⟩ ?_ ?_
    · rintro i zs H' N S hi ⟨rfl, sm, hm'⟩ hN hS
      have e1 : atI (us.map optV) (0 + (i : Int)) = some (optV (us.getD i none)) := by
        rw [Int.zero_add]; exact atI_opt (os := us) (k := (i : Int)) (by omega) (by omega)
      have e0 : atI (os.map optV) (0 + (i : Int)) = some (optV (os.getD i none)) := by
        rw [Int.zero_add]; exact atI_opt (os := os) (k := (i : Int)) (by omega) (by omega)
      refine ⟨_, rfl, _, rfl, t2, _, _, _, rfl, rfl, SqL.of (sm _ _ ht2), e1, _, rfl, x, C, dx, _, _, rfl, sm _ _ hx2, D.cl, D.nT, dfl_told _ _, _, rfl, t, _, _, _, rfl, rfl, SqL.of (sm _ _ ht0), e0, scal_opt _ _, _, rfl, ?_⟩
      have ed : (!decide (optV (us.getD i none) = optV (os.getD i none))) = !decide (us.getD i none = os.getD i none) := by
        congr 1
        exact decide_eq_decide.mpr optV_inj
      rw [ed]
      have tk : (List.range (i + 1)).filter (fun p => !decide (us.getD p none = os.getD p none)) = (List.range i).filter (fun p => !decide (us.getD p none = os.getD p none)) ++ (if (!decide (us.getD i none = os.getD i none)) = true then [i] else []) := by
        rw [List.range_succ, List.filter_append, filter_one]
      refine ite2 (fun d => ?_) (fun d => ?_)
      · rw [if_pos d] at tk
        refine ⟨_, rfl, hN _ _ hm' ?_ ⟨?_, fun d o hd => ?_, upd_same⟩⟩
        · rw [vN_len]
          have := List.length_filter_le (fun p => !decide (us.getD p none = os.getD p none)) (List.range i)
          rw [List.length_range] at this
          exact Nat.lt_of_le_of_lt (show _ ≤ 100 by omega) (by decide)
        · rw [Int.zero_add, vN_snoc, tk]
        · rw [upd_ne (fun z => by rw [z, hm] at hd; cases hd)]; exact sm _ _ hd
      · rw [if_neg d, List.append_nil] at tk
        exact hS _ ⟨by rw [tk], sm, hm'⟩
    · rintro zs H' ⟨rfl, sm, hm'⟩
      show M [some (.ref x), some (.int p), some (.ref r), some (.ref l1), some (.ref t2), some (.ref m)] _
      rw [hM]
      exact ⟨m, rfl, hm, sm, hm'⟩
  rw [hM]
  rintro σ3 H3 ⟨m, rfl, nm, sm3, hm3⟩
  have hx3 := sm3 _ _ hx2
  have hl3 := sm3 _ _ hl2
  have ht3 := sm3 _ _ ht2
  have k3 : Keep H H3 := ((Keep.of sm1).trans k2).trans (Keep.of sm3)
  have nl1x : l1 ≠ x := fun z => by rw [z, hx1] at hl1; cases hl1
  have nt2x : t2 ≠ x := fun z => by rw [z, hx2] at ht2; cases ht2
  have nmx : m ≠ x := fun z => by rw [z, hx3] at hm3; cases hm3
  refine ⟨_, rfl, _, rfl, x, C, dx, _, rfl, hx3, D.cl, D.nS, (by rw [dfl_eq]; show 2 < 1000; decide), ?_⟩
  refine ⟨_, rfl, _, rfl, x, C, dx, _, rfl, upd_same, D.cl, D.nT, (by rw [dfl_eq]; show (if ("sheet" : Str) = "sheet" then (("sheet" : Str), V.ref l1) :: [(("told" : Str), V.ref t)] else _).length < 1000; rw [if_pos rfl]; show 2 < 1000; decide), ?_⟩
  rw [dfl_put, upd_upd]
  refine ⟨_, rfl, q h0 h1 m us _ (fun b o hb nb no => by rw [upd_ne nb]; exact k3 _ _ hb no) ⟨⟨dx, l1, t2, rs.set p.toNat r, upd_same, by rw [upd_ne nl1x]; exact hl3, ⟨sh1.1, fun i r' φ' a b => ?_⟩, by rw [upd_ne nt2x]; exact ht3, fun z => ?_, fun z => ?_⟩, res2⟩ ((tb2.same sm3).updI hx3) (fun z => ?_) (by rw [upd_ne nmx]; exact hm3)⟩
  · have e := sm3 _ _ (k2 _ _ (sh1.2 i r' φ' a b) (fun _ z => by cases z))
    rw [upd_ne (fun z => by rw [z, hx3] at e; cases e)]; exact e
  · rw [z, hG] at nl1; cases nl1
  · rw [z, sm1 _ _ hG] at nt2; cases nt2
  · rw [z, k2 _ _ (sm1 _ _ hG) (fun _ y => by cases y)] at nm; cases nm
theorem scDl : FnScope ["self", "place"] ["self", "place"] (defScope sDLook) := ⟨rfl, rfl, rfl, by decide +kernel, rfl, by decide +kernel, by decide +kernel⟩
theorem nDl : NOk ["self", "place"] (defScope sDLook) := ⟨scDl.nd, by decide +kernel, by decide +kernel⟩
theorem gDl0 : GN (defScope sDLook) "require_cell" := ⟨by decide +kernel, by decide +kernel, by decide +kernel⟩
theorem ok_dlook {f C CN fQ : Addr} {fd dQ : FuncData} (F : Fun K "look" "Day.look" sDLook f fd) (D : TD K mg C) (CRq : ClF P w K mg base 2 "require_cell" fQ dQ ["sheet", "place"] (spRequire K CN)) : FnOk P w K mg base (CXF P w) 3 f fd ["self", "place"] (spLookD C CN) := by
  refine F.okF scDl (fun vs H Q E h => ?_) (fun cdv A outer s H vs Q E hr h => ?_)
  · obtain ⟨x, G, φs, os, p, rfl, _⟩ := h
    rfl
  obtain ⟨x, G, φs, os, p, rfl, ⟨⟨dx, l, t, rs, hx, hl, sh, ht, lG, tG⟩, res⟩, q, qE⟩ := h
  refine ⟨_, pss_cons (ps_expr (pcF CRq hr gDl0 (pac (pe_fld (pn nDl 0) rfl) (pac (pn nDl 1) pa_nil) st_attr) st_attr)) (pss_one (ps_ret (pe_ix ix_list (pe_fld (pn nDl 0) rfl) (pn nDl 1) (fun _ _ => rfl)))), ?_⟩
  have rsl : (rs.map V.ref).length = φs.length := by rw [List.length_map, sh.1]
  refine ⟨_, rfl, x, C, dx, _, _, rfl, hx, D.cl, D.nS, dfl_sheet _ _, _, rfl, l, _, p, rfl, SqL.of hl, fun h0 h1 => ?_, fun off => qE (by rw [rsl] at off; exact off)⟩
  rw [rsl] at h1
  exact ⟨_, rfl, x, C, dx, _, _, rfl, hx, D.cl, D.nT, dfl_told _ _, _, rfl, t, _, p, _, rfl, rfl, SqL.of ht, atI_opt h0 (by rw [res.len]; exact h1), q h0 h1⟩
end
end K08

set_option linter.all false
set_option maxRecDepth 100000
set_option maxHeartbeats 4000000
namespace K08
open PySem L2 LS
seal L2.PE L2.PT L2.PW L2.PA L2.PS L2.PSs L2.PG L2.PI L2.PO L2.OpR L2.UnR L2.CallR L2.IxR L2.SlR L2.TruR
section
variable {P : Program} {w : World} {K : PySem.W.Frag} {mg : Str → Option Value} {base : Heap}
theorem scXa : FnScope ["day", "deed"] ["day", "deed"] (defScope sAnswer) := ⟨rfl, rfl, rfl, by decide +kernel, rfl, by decide +kernel, by decide +kernel⟩
theorem nXa : NOk ["day", "deed"] (defScope sAnswer) := ⟨scXa.nd, by decide +kernel, by decide +kernel⟩
theorem gXa0 : GN (defScope sAnswer) "NoCell" := ⟨by decide +kernel, by decide +kernel, by decide +kernel⟩
theorem wd_pl : ¬ (("look" : Str) = "put") := by decide +kernel
theorem ok_answer {f C CN fP fL P1 P2 : Addr} {fd dP dL : FuncData} (F : Fun K "answer" "answer" sAnswer f fd) (D : TD K mg C) (GP : FnOk P w K mg base (CXF P w) 6 fP dP ["self", "place", "formula"] (spPutD C CN (Tb P1 P2))) (bP : Binds K dP ["self", "place", "formula"] []) (mP : Meth K C "put" fP)
    (GL : FnOk P w K mg base (CXF P w) 3 fL dL ["self", "place"] (spLookD C CN)) (bL : Binds K dL ["self", "place"] []) (mL : Meth K C "look" fL) (hNC : mg "NoCell" = some (.ref CN)) (x1 : PySem.W.exmOne K (.ref CN) (.ref CN) = some true) : FnOk P w K mg base CX0 7 f fd ["day", "deed"] (spAnswer C (Tb P1 P2)) := by
  refine F.ok scXa (fun vs H Q E h => ?_) (fun cdv A outer s H vs Q E hr h => ?_)
  · obtain ⟨x, r, G, φs, os, d, rfl, _⟩ := h
    rfl
  obtain ⟨x, r, G, φs, os, d, rfl, da, dd, hG, h100, tb, q⟩ := h
  refine ⟨_, pss_one (ps_tryN rfl rfl rfl (fun pn' xe' S E hx => pss_cons (ps_if (pt_cmpR op_eq (pe_ix (show IxR _ (rIxT K) from ix_tup) (pn nXa 1) pe_int (fun _ _ => rfl)) pe_str (nomark _)) (pss_one (ps_ret (pmS (pn nXa 0) D.cl mP GP hr bP hx (pac (pe_ix (show IxR _ (rIxT K) from ix_tup) (pn nXa 1) pe_int (fun _ _ => rfl)) (pac (pe_ix (show IxR _ (rIxT K) from ix_tup) (pn nXa 1) pe_int (fun _ _ => rfl)) pa_nil))))) pss_nil) (pss_one (ps_ret (pmS (pn nXa 0) D.cl mL GL (hr.mono (by decide)) bL hx (pac (pe_ix (show IxR _ (rIxT K) from ix_tup) (pn nXa 1) pe_int (fun _ _ => rfl)) pa_nil))))) gXa0 hNC (fun e => pss_one (ps_ret pe_str))), ?_⟩
  obtain ⟨dx, l, t, rs, hx, _⟩ := da.ob
  cases d with
  | look p =>
    have dd' : H r = some (.tup [.str "look", .int p]) := dd
    refine ⟨_, rfl, r, _, 0, .str "look", rfl, rfl, SqT.of dd', atI_nat (j := 0) rfl, rfl, _, rfl, ?_⟩
    refine ifS wd_pl ?_
    refine ⟨rfl, _, rfl, x, dx, _, rfl, hx, dfl_no _ _ (by decide +kernel) (by decide +kernel), _, rfl, r, _, 1, .int p, rfl, rfl, SqT.of dd', atI_nat (j := 1) rfl, x, G, φs, os, p, rfl, da, fun h0 h1 => ?_, fun off => ⟨x1, ?_⟩⟩
    · refine q _ os H (fun b o hb _ _ => hb) da tb ?_
      rw [ans_look, if_neg (by unfold offB; rw [decide_eq_true_eq]; omega)]
      exact ⟨os, da.res, rfl⟩
    · refine q _ os H (fun b o hb _ _ => hb) da tb ?_
      rw [ans_look, if_pos (by unfold offB; rw [decide_eq_true_eq]; exact off)]
  | put p φ =>
    obtain ⟨t', d1, d2⟩ := dd
    refine ⟨_, rfl, r, _, 0, .str "put", rfl, rfl, SqT.of d1, atI_nat (j := 0) rfl, rfl, _, rfl, ?_⟩
    refine ifE ?_
    refine ⟨rfl, _, rfl, x, dx, _, rfl, hx, dfl_no _ _ (by decide +kernel) (by decide +kernel), _, rfl, r, _, 1, .int p, rfl, rfl, SqT.of d1, atI_nat (j := 1) rfl, _, rfl, r, _, 2, .ref t', rfl, rfl, SqT.of d1, atI_nat (j := 2) rfl, x, t', G, φs, os, p, φ, rfl, da, d2, hG, h100, tb, fun h0 h1 m us H' kb da' tb' mG hm => ?_, fun off => ⟨x1, ?_⟩⟩
    · have no : ¬ offB φs.length p = true := by unfold offB; rw [decide_eq_true_eq]; omega
      refine q _ us H' kb (by rw [step_put, if_neg no]; exact da') tb' ?_
      rw [ans_put, if_neg no]
      exact ⟨os, us, m, da.res, da'.res, rfl, mG, hm⟩
    · have yes : offB φs.length p = true := by unfold offB; rw [decide_eq_true_eq]; exact off
      refine q _ os H (fun b o hb _ _ => hb) (by rw [step_put, if_pos yes]; exact da) tb ?_
      rw [ans_put, if_pos yes]
theorem scXw : FnScope ["size", "deeds", "day", "given", "deed"] ["size", "deeds"] (defScope sAnswers) := ⟨rfl, rfl, rfl, by decide +kernel, rfl, by decide +kernel, by decide +kernel⟩
theorem nXw : NOk ["size", "deeds", "day", "given", "deed"] (defScope sAnswers) := ⟨scXw.nd, by decide +kernel, by decide +kernel⟩
theorem gXw0 : GN (defScope sAnswers) "Day" := ⟨by decide +kernel, by decide +kernel, by decide +kernel⟩
theorem gXw1 : GN (defScope sAnswers) "answer" := ⟨by decide +kernel, by decide +kernel, by decide +kernel⟩
theorem ok_answers {f C fI fA P1 P2 : Addr} {fd dI dA : FuncData} (F : Fun K "answers" "answers" sAnswers f fd) (D : TD K mg C) (M : Mk K C fI) (GI : FnOk P w K mg base CX0 6 fI dI ["self", "size"] (spInitD C (Tb P1 P2))) (bI : Binds K dI ["self", "size"] []) (CAn : Cl P w K mg base 7 "answer" fA dA ["day", "deed"] (spAnswer C (Tb P1 P2))) : FnOk P w K mg base CX0 8 f fd ["size", "deeds"] (spAnswers (Tb P1 P2)) := by
  refine F.ok scXw (fun vs H Q E h => ?_) (fun cdv A outer s H vs Q E hr h => ?_)
  · obtain ⟨n, a, rs, ds, rfl, _⟩ := h
    rfl
  obtain ⟨n, a, rs, ds, rfl, hA, hd, hn, hl, tb, q⟩ := h
  refine ⟨_, pss_cons (psn nXw 2 (pe_make M GI (hr.mono (by decide)) gXw0.gl D.mgC bI .nil pass0 (pac (pn nXw 0) pa_nil) gXw0.dbg st_name)) (
    pss_cons (psn nXw 3 (pe_lst pa_nil)) (
    pss_cons (ps_for PassesOwn.never rfl (pi_list (pn nXw 1)) (pgn nXw 4) (pss_one (ps_expr (pl_append (pn nXw 3) (pcD CAn hr gXw1 (pac (pn nXw 2) (pac (pn nXw 4) pa_nil))))))) (
    pss_one (ps_ret (pn nXw 3))))), ?_⟩
  refine ⟨_, rfl, fun x dx nx ndx nex => ?_⟩
  have s0 : Same H (upd (upd H dx (.own x)) x (.ins C dx [])) := fun b o e => by
    rw [upd_ne (ne_of_none e nx), upd_ne (ne_of_none e ndx)]
    exact e
  refine ⟨x, dx, n, rfl, upd_same, hn, tb.same s0, fun H1 os da tb1 kb => ⟨rfl, ?_⟩⟩
  have k1 : Keep H H1 := fun b o hb no => kb b o (s0 b o hb) (ne_of_none hb nx) no
  refine ⟨small_line (by simp), fun g hg => ?_⟩
  have da1 := da g hg
  have sg := Same.upd_new hg (.lst [])
  have ng : ∀ b o, H b = some o → (∀ ps, o ≠ .tbl ps) → b ≠ g := fun b o hb no z => by
    have := k1 _ _ hb no
    rw [z, hg] at this; cases this
  obtain ⟨dx', l0, t0, rs0, hx1, _⟩ := da1.ob
  have nxg : x ≠ g := fun z => by rw [z, hg] at hx1; cases hx1
  have hA1 : SqL K (upd H1 g (.lst [])) a (rs.map V.ref) := SqL.of (sg _ _ (k1 _ _ hA (fun _ z => by cases z)))
  refine ⟨_, rfl, a, rfl, ⟨_, hA1⟩, ?_⟩
  refine for_list (K := K) (a := a) (xs := rs.map V.ref) (fun i σ H' => ∃ (us : List (Option Int)) (xs : List V) (u : Option V), σ = [some (.int (n : Int)), some (.ref a), some (.ref x), some (.ref g), u] ∧ Keep H H' ∧ Tb P1 P2 H' ∧ DayAt C g H' x (sheetAt n ds i) us ∧ H' g = some (.lst xs) ∧ xs.length = i ∧ ∀ (j : Nat) d y, ds[j]? = some d → xs[j]? = some y → AnsAt g H' y (sheetAt n ds j) d) ⟨os, [], none, rfl, k1.trans (Keep.of sg), tb1.same sg, da1.updG nxg (fun xs z => by rw [hg] at z; cases z), upd_same, rfl, fun j d y _ z => by simp at z⟩ ?_ ?_ ?_
  · rintro i σ H' _ ⟨us, xs, u, _, kp, _⟩
    exact SqL.of (kp _ _ hA (fun _ z => by cases z))
  · rintro i y σ H' hy ⟨us, xs, u, rfl, kp, tb', da', hg', xl, ans⟩
    have hi : i < (rs.map V.ref).length := (List.getElem?_eq_some_iff.mp hy).1
    rw [List.length_map] at hi
    rw [List.getElem?_map] at hy
    obtain ⟨r, hr1, rfl⟩ := Option.map_eq_some_iff.mp hy
    have hid : i < ds.length := by rw [← hd.1]; exact hi
    have ed : ds[i]? = some ds[i] := List.getElem?_eq_getElem hid
    generalize ds[i] = d at ed
    have dd := (hd.keep kp).2 i r d hr1 ed
    refine ⟨_, rfl, .inl ⟨rfl, _, SqL.of hg'⟩, _, rfl, _, rfl, x, r, g, sheetAt n ds i, us, d, rfl, da', dd, ⟨_, hg'⟩, by rw [sheetAt_len]; exact hn, tb', fun v ws H2 kb2 da2 tb2 an => ?_⟩
    have hg2 := kb2 _ _ hg' nxg.symm (fun _ z => by cases z)
    obtain ⟨dx2, l2, t2, rs2, hx2, _⟩ := da'.ob
    have stay : ∀ b ys, b ≠ g → H' b = some (.lst ys) → upd H2 g (.lst (xs ++ [v])) b = some (.lst ys) := fun b ys nb hb => by
      rw [upd_ne nb]
      exact kb2 _ _ hb (fun z => by rw [z, hx2] at hb; cases hb) (fun _ z => by cases z)
    refine ⟨g, xs, v, rfl, rfl, hg2, ?_, ?_⟩
    · exact Nat.lt_of_lt_of_le (show xs.length < 101 by omega) (by decide)
    refine ⟨ws, xs ++ [v], _, rfl, fun b o hb no => ?_, tb2.updL hg2, ?_, upd_same, by rw [List.length_append, List.length_singleton, xl], fun j d' y' hj hy' => ?_⟩
    · rw [upd_ne (ng b o hb no)]
      exact kb2 _ _ (kp _ _ hb no) (ne_of_none hb nx) no
    · rw [sheetAt_succ ed]
      exact da2.updG nxg (fun ys z => by rw [hg2] at z; cases z)
    · rw [List.getElem?_append] at hy'
      by_cases c : j < xs.length
      · rw [if_pos c] at hy'
        exact (ans j d' y' hj hy').keep stay
      · rw [if_neg c] at hy'
        cases hj0 : j - xs.length with
        | succ m => rw [hj0] at hy'; simp at hy'
        | zero =>
          rw [hj0] at hy'
          cases hy'
          have ej : j = i := by omega
          subst ej
          rw [ed] at hj
          cases hj
          exact an.keep fun b ys nb hb => by rw [upd_ne nb]; exact hb
  · rintro σ H' ⟨us, xs, u, rfl, kp, _, _, hg', xl, ans⟩
    refine ⟨_, rfl, q g xs H' kp hg' (by rw [xl, List.length_map, hd.1]) ans⟩
end
end K08

set_option linter.all false
set_option maxRecDepth 100000
namespace LS
open PySem L2
def spUpto (K : PySem.W.Frag) : Sp := fun vs H Q _ => ∃ (a : Addr) (ns : List Int) (s g : Int), vs = [.ref a, .int s, .int g] ∧ SqL K H a (ns.map V.int) ∧ ns.length ≤ 63 ∧ Q (.int s) H
def spDayFormula : Sp := fun vs H Q _ => ∃ (c k : Int) (n : Nat), vs = [.int c, .int k, .int (n : Int)] ∧ ∀ (r : Addr) (φ : Fm) (H' : Hp), Same H H' → H' r = some (.tup φ.v) → Q (.ref r) H'
def spDeeds (K : PySem.W.Frag) : Sp := fun vs H Q _ => ∃ (a : Addr) (ns : List Int) (n : Nat), vs = [.ref a, .int (n : Int)] ∧ SqL K H a (ns.map V.int) ∧ ns.length ≤ 100 ∧
  ∀ (l : Addr) (rs : List Addr) (ds : List Deed) (H' : Hp), Same H H' → H' l = some (.lst (rs.map V.ref)) → ds.length = ns.length → Ds H' rs ds → Q (.ref l) H'
def spSame (K : PySem.W.Frag) : Sp := fun vs H Q _ => ∃ (a b : Addr) (rs : List Addr) (ds : List Deed), vs = [.ref a, .ref b] ∧ SqL K H a (rs.map V.ref) ∧ SqL K H b (rs.map V.ref) ∧ Ds H rs ds ∧ ds.length ≤ 100 ∧ Q (.bl true) H
def spAlikeB : Sp := fun vs H Q _ => ∃ o u : Option Int, vs = [optV o, optV u] ∧ Q (.bl (decide (o = u))) H
def spRow : Sp := fun vs H Q _ => ∃ (a b : Addr) (ks : List Nat), vs = [.ref a, .ref b] ∧ H a = some (.lst (vN ks)) ∧ H b = some (.lst (vN ks)) ∧ ks.length ≤ 100 ∧ Q (.bl true) H
/-- a deed's tuple -/
theorem DeedAt.tup {H : Hp} {r : Addr} {d : Deed} (h : DeedAt H r d) : ∃ (w : Str) (p : Int) (xs : List V), H r = some (.tup (.str w :: .int p :: xs)) := by
  cases d with
  | look p => exact ⟨_, _, _, h⟩
  | put p φ => obtain ⟨t, h1, _⟩ := h; exact ⟨_, _, _, h1⟩
def Deed.place : Deed → Int
  | .look p => p
  | .put p _ => p
theorem DeedAt.tupP {H : Hp} {r : Addr} {d : Deed} (h : DeedAt H r d) : ∃ (w : Str) (xs : List V), H r = some (.tup (.str w :: .int d.place :: xs)) := by
  cases d with
  | look p => exact ⟨_, _, h⟩
  | put p φ => obtain ⟨t, h1, _⟩ := h; exact ⟨_, _, h1⟩
theorem Ds.snoc {H H' : Hp} {rs : List Addr} {ds : List Deed} {r : Addr} {d : Deed} {l : Addr} {o : HO} {xs : List V} (h : Ds H rs ds) (hl : H l = some (.lst xs)) (sm : Same H H') (hd : DeedAt H' r d) : Ds (upd H' l o) (rs ++ [r]) (ds ++ [d]) := by
  have hl' := sm _ _ hl
  have go : ∀ {r : Addr} {d : Deed}, DeedAt H' r d → DeedAt (upd H' l o) r d := fun {r d} e => by
    cases d with
    | look p =>
      have e' : H' r = some (.tup [.str "look", .int p]) := e
      show upd H' l o r = _
      rw [upd_ne (fun z => by rw [z, hl'] at e'; cases e')]; exact e'
    | put p φ =>
      obtain ⟨t, e1, e2⟩ := e
      exact ⟨t, by rw [upd_ne (fun z => by rw [z, hl'] at e1; cases e1)]; exact e1, by rw [upd_ne (fun z => by rw [z, hl'] at e2; cases e2)]; exact e2⟩
  refine ⟨by rw [List.length_append, List.length_append, h.1]; rfl, fun i r' d' h1 h2 => ?_⟩
  rw [List.getElem?_append] at h1 h2
  rw [← h.1] at h2
  by_cases c : i < rs.length
  · rw [if_pos c] at h1 h2
    exact go ((h.2 i r' d' h1 h2).keep (Keep.of sm))
  · rw [if_neg c] at h1 h2
    cases z : i - rs.length with
    | zero =>
      rw [z] at h1 h2
      cases h1; cases h2
      exact go hd
    | succ m => rw [z] at h1; simp at h1
end LS

set_option linter.all false
set_option maxRecDepth 100000
set_option maxHeartbeats 4000000
namespace K08
open PySem L2 LS
seal L2.PE L2.PT L2.PW L2.PA L2.PS L2.PSs L2.PG L2.PI L2.PO L2.OpR L2.UnR L2.CallR L2.IxR L2.SlR L2.TruR
section
variable {P : Program} {w : World} {K : PySem.W.Frag} {mg : Str → Option Value} {base : Heap}
theorem scDr : FnScope ["_law_number", "_law_prime", "_law_many"] ["_law_number", "_law_prime", "_law_many"] (defScope sDraw) := ⟨rfl, rfl, rfl, by decide +kernel, rfl, by decide +kernel, by decide +kernel⟩
theorem nDr : NOk ["_law_number", "_law_prime", "_law_many"] (defScope sDraw) := ⟨scDr.nd, by decide +kernel, by decide +kernel⟩
theorem ok_draw {f : Addr} {fd : FuncData} (F : Fun K "_law_draw" "_law_draw" sDraw f fd) : FnOk P w K mg base CX0 1 f fd ["_law_number", "_law_prime", "_law_many"] spDraw := by
  refine F.ok scDr (fun vs H Q E h => ?_) (fun cdv A outer s H vs Q E hr h => ?_)
  · obtain ⟨n, p, m, rfl, _⟩ := h
    rfl
  obtain ⟨n, p, m, rfl, h1, h2, q⟩ := h
  refine ⟨_, pss_one (ps_ret (pe_op op_mod (pe_op op_mod (pe_op op_mul (pn nDr 0) pe_int) (pn nDr 1)) (pn nDr 2))), ?_⟩
  exact ⟨_, rfl, _, _, rfl, rfl, .inr (by decide), _, rfl, _, _, rfl, rfl, h1, _, rfl, _, _, rfl, rfl, h2, q⟩
theorem scWh : FnScope ["_law_found"] ["_law_found"] (defScope sWhole) := ⟨rfl, rfl, rfl, by decide +kernel, rfl, by decide +kernel, by decide +kernel⟩
theorem nWh : NOk ["_law_found"] (defScope sWhole) := ⟨scWh.nd, by decide +kernel, by decide +kernel⟩
theorem gWh0 : GN (defScope sWhole) "isinstance" := ⟨by decide +kernel, by decide +kernel, by decide +kernel⟩
theorem gWh1 : GN (defScope sWhole) "int" := ⟨by decide +kernel, by decide +kernel, by decide +kernel⟩
theorem gWh2 : GN (defScope sWhole) "bool" := ⟨by decide +kernel, by decide +kernel, by decide +kernel⟩
theorem ok_whole {f : Addr} {fd : FuncData} (F : Fun K "_law_whole" "_law_whole" sWhole f fd) (T : Txt mg) : FnOk P w K mg base CX0 1 f fd ["_law_found"] spWhole := by
  refine F.ok scWh (fun vs H Q E h => ?_) (fun cdv A outer s H vs Q E hr h => ?_)
  · obtain ⟨k, rfl, _⟩ := h
    rfl
  obtain ⟨k, rfl, q⟩ := h
  refine ⟨_, pss_one (ps_ret (pe_and (pcB call_isi gWh0 T.isi boo_isi (pac (pn nWh 0) (pac (ptyN gWh1 T.int boo_int) pa_nil))) (pe_one (pe_not (pcB call_isi gWh0 T.isi boo_isi (pac (pn nWh 0) (pac (ptyN gWh2 T.bool boo_bool) pa_nil))))))), ?_⟩
  refine ⟨_, rfl, _, "int", _, true, rfl, .int k, kit_int_int, true, rfl, ?_⟩
  refine iteT ?_
  exact ⟨_, rfl, _, "bool", _, false, rfl, .int k, kit_int_bool, false, rfl, q⟩
theorem scAt : FnScope ["_law_script", "_law_k"] ["_law_script", "_law_k"] (defScope sAt) := ⟨rfl, rfl, rfl, by decide +kernel, rfl, by decide +kernel, by decide +kernel⟩
theorem nAt : NOk ["_law_script", "_law_k"] (defScope sAt) := ⟨scAt.nd, by decide +kernel, by decide +kernel⟩
theorem gAt0 : GN (defScope sAt) "len" := ⟨by decide +kernel, by decide +kernel, by decide +kernel⟩
theorem ok_at {f : Addr} {fd : FuncData} (F : Fun K "_law_at" "_law_at" sAt f fd) (T : Txt mg) : FnOk P w K mg base CX0 1 f fd ["_law_script", "_law_k"] (spAt K) := by
  refine F.ok scAt (fun vs H Q E h => ?_) (fun cdv A outer s H vs Q E hr h => ?_)
  · obtain ⟨a, ns, k, rfl, _⟩ := h
    rfl
  obtain ⟨a, ns, k, rfl, hS, h0, q⟩ := h
  refine ⟨_, pss_cons (ps_if (pt_cmpR op_lt (pn nAt 1) (pcB call_len_seq gAt0 T.len boo_len (pac (pn nAt 0) pa_nil)) (nomark _)) (pss_one (ps_ret (pe_ix ix_list (pn nAt 0) (pn nAt 1) (fun _ _ => rfl)))) pss_nil) (pss_one (ps_ret pe_int)), ?_⟩
  refine ⟨_, rfl, _, rfl, a, _, rfl, .inl hS, _, _, rfl, rfl, _, rfl, ?_⟩
  refine ite2 (fun c => ?_) (fun c => ?_)
  · have c' : k < (((ns.map V.int).length : Nat) : Int) := of_decide_eq_true c
    rw [List.length_map] at c'
    exact ⟨_, rfl, _, rfl, a, _, k, _, rfl, rfl, hS, atI_int h0 c', q⟩
  · have c' : ¬ k < (((ns.map V.int).length : Nat) : Int) := of_decide_eq_false (Bool.eq_false_iff.mpr c)
    rw [List.length_map] at c'
    have e : ns.getD k.toNat 0 = 0 := by
      rw [List.getD_eq_getElem?_getD, List.getElem?_eq_none (by omega)]; rfl
    rw [e] at q
    exact q
theorem scNa : FnScope ["_law_formula"] ["_law_formula"] (defScope sNamed) := ⟨rfl, rfl, rfl, by decide +kernel, rfl, by decide +kernel, by decide +kernel⟩
theorem nNa : NOk ["_law_formula"] (defScope sNamed) := ⟨scNa.nd, by decide +kernel, by decide +kernel⟩
theorem gNa0 : GN (defScope sNamed) "list" := ⟨by decide +kernel, by decide +kernel, by decide +kernel⟩
theorem ok_named {f : Addr} {fd : FuncData} (F : Fun K "_law_named" "_law_named" sNamed f fd) (T : Txt mg) : FnOk P w K mg base CX0 1 f fd ["_law_formula"] (spNamed K) := by
  refine F.ok scNa (fun vs H Q E h => ?_) (fun cdv A outer s H vs Q E hr h => ?_)
  · obtain ⟨r, φ, rfl, _⟩ := h
    rfl
  obtain ⟨r, φ, rfl, hF, q⟩ := h
  refine ⟨_, pss_cons (ps_if (pt_cmpR op_eq (pe_ix ix_tup (pn nNa 0) pe_int (fun _ _ => rfl)) pe_str (nomark _)) (pss_one (ps_ret (pe_lst pa_nil))) pss_nil) (
    pss_one (ps_ret (pcT call_list_of gNa0 T.list boo_list (pac (pe_slice sl_tup (pn nNa 0) (po_some pe_int) po_none) pa_nil)))), ?_⟩
  refine ⟨_, rfl, r, _, 0, .str φ.wd, rfl, rfl, hF, φ.at0, rfl, _, rfl, ?_⟩
  cases φ with
  | num n =>
    refine ifE ?_
    exact ⟨small_line (by simp), fun l hl => q l _ (Same.upd_new hl _) (by rw [upd_same]; rfl)⟩
  | sum i j =>
    refine ifS (show ¬ ("sum" : Str) = "number" by decide +kernel) ?_
    refine ⟨_, rfl, 1, rfl, r, _, rfl, hF, (fun z => absurd (show (1 : Nat) = 0 from z.1) (by decide)), fun p hp => ⟨p, _, rfl, .inr (SqT.of upd_same), fun l hl => q l _ ((Same.upd_new hp _).trans (Same.upd_new hl _)) ?_⟩⟩
    rw [upd_same]; rfl
  | less i j =>
    refine ifS (show ¬ ("less" : Str) = "number" by decide +kernel) ?_
    refine ⟨_, rfl, 1, rfl, r, _, rfl, hF, (fun z => absurd (show (1 : Nat) = 0 from z.1) (by decide)), fun p hp => ⟨p, _, rfl, .inr (SqT.of upd_same), fun l hl => q l _ ((Same.upd_new hp _).trans (Same.upd_new hl _)) ?_⟩⟩
    rw [upd_same]; rfl
  | most i j =>
    refine ifS (show ¬ ("most" : Str) = "number" by decide +kernel) ?_
    refine ⟨_, rfl, 1, rfl, r, _, rfl, hF, (fun z => absurd (show (1 : Nat) = 0 from z.1) (by decide)), fun p hp => ⟨p, _, rfl, .inr (SqT.of upd_same), fun l hl => q l _ ((Same.upd_new hp _).trans (Same.upd_new hl _)) ?_⟩⟩
    rw [upd_same]; rfl
  | pick i j k =>
    refine ifS (show ¬ ("pick" : Str) = "number" by decide +kernel) ?_
    refine ⟨_, rfl, 1, rfl, r, _, rfl, hF, (fun z => absurd (show (1 : Nat) = 0 from z.1) (by decide)), fun p hp => ⟨p, _, rfl, .inr (SqT.of upd_same), fun l hl => q l _ ((Same.upd_new hp _).trans (Same.upd_new hl _)) ?_⟩⟩
    rw [upd_same]; rfl
theorem scVa : FnScope ["_law_numbers", "_law_place"] ["_law_numbers", "_law_place"] (defScope sValue) := ⟨rfl, rfl, rfl, by decide +kernel, rfl, by decide +kernel, by decide +kernel⟩
theorem nVa : NOk ["_law_numbers", "_law_place"] (defScope sValue) := ⟨scVa.nd, by decide +kernel, by decide +kernel⟩
theorem gVa0 : GN (defScope sValue) "len" := ⟨by decide +kernel, by decide +kernel, by decide +kernel⟩
theorem ok_value {f : Addr} {fd : FuncData} (F : Fun K "_law_value" "_law_value" sValue f fd) (T : Txt mg) : FnOk P w K mg base CX0 1 f fd ["_law_numbers", "_law_place"] (spValueO K) := by
  refine F.ok scVa (fun vs H Q E h => ?_) (fun cdv A outer s H vs Q E hr h => ?_)
  · obtain ⟨a, os, k, rfl, _⟩ := h
    rfl
  obtain ⟨a, os, k, rfl, hS, q⟩ := h
  refine ⟨_, pss_cons (ps_if (PW.pt (pw_or (pt_cmpR op_lt (pn nVa 1) pe_int (nomark _)) (pw_or1 (pt_cmpR op_ge (pn nVa 1) (pcB call_len_seq gVa0 T.len boo_len (pac (pn nVa 0) pa_nil)) (nomark _))))) (pss_one (ps_ret pe_int)) pss_nil) (
    pss_one (ps_ret (pe_ix ix_list (pn nVa 0) (pn nVa 1) (fun _ _ => rfl)))), ?_⟩
  refine ⟨_, rfl, _, _, rfl, rfl, _, rfl, ?_⟩
  refine ite2 (fun c => ?_) (fun c => ?_)
  · have c' : k < 0 := of_decide_eq_true c
    refine iteT ?_
    have e : valO os k = .int 0 := if_pos (.inl c')
    rw [e] at q
    exact q
  · have c1 : ¬ k < 0 := of_decide_eq_false (Bool.eq_false_iff.mpr c)
    refine ⟨_, rfl, _, rfl, a, _, rfl, .inl hS, _, _, rfl, rfl, _, rfl, ?_⟩
    refine ite2 (fun d => ?_) (fun d => ?_)
    · have d' : (((os.map optV).length : Nat) : Int) ≤ k := of_decide_eq_true d
      rw [List.length_map] at d'
      have e : valO os k = .int 0 := if_pos (.inr d')
      rw [e] at q
      exact q
    · have d' : ¬ (((os.map optV).length : Nat) : Int) ≤ k := of_decide_eq_false (Bool.eq_false_iff.mpr d)
      rw [List.length_map] at d'
      have e : valO os k = optV (os.getD k.toNat none) := if_neg (by omega)
      rw [e] at q
      exact ⟨_, rfl, _, rfl, a, _, k, _, rfl, rfl, hS, atI_opt (by omega) (by omega), q⟩
theorem scWo : FnScope ["_law_formula", "_law_numbers", "_law_one", "_law_other"] ["_law_formula", "_law_numbers"] (defScope sWorth) := ⟨rfl, rfl, rfl, by decide +kernel, rfl, by decide +kernel, by decide +kernel⟩
theorem nWo : NOk ["_law_formula", "_law_numbers", "_law_one", "_law_other"] (defScope sWorth) := ⟨scWo.nd, by decide +kernel, by decide +kernel⟩
theorem gWo0 : GN (defScope sWorth) "_law_value" := ⟨by decide +kernel, by decide +kernel, by decide +kernel⟩
theorem gWo1 : GN (defScope sWorth) "int" := ⟨by decide +kernel, by decide +kernel, by decide +kernel⟩
theorem ok_worth {f fV : Addr} {fd dV : FuncData} (F : Fun K "_law_worth" "_law_worth" sWorth f fd) (T : Txt mg) (CV : Cl P w K mg base 1 "_law_value" fV dV ["_law_numbers", "_law_place"] (spValueO K)) : FnOk P w K mg base CX0 2 f fd ["_law_formula", "_law_numbers"] (spWorthO K) := by
  refine F.ok scWo (fun vs H Q E h => ?_) (fun cdv A outer s H vs Q E hr h => ?_)
  · obtain ⟨t, a, φ, os, g, rfl, _⟩ := h
    rfl
  obtain ⟨t, a, φ, os, g, rfl, hF, hS, hf, q⟩ := h
  refine ⟨_, pss_cons (ps_if (pt_cmpR op_eq (pe_ix ix_tup (pn nWo 0) pe_int (fun _ _ => rfl)) pe_str (nomark _)) (pss_one (ps_ret (pe_ix ix_tup (pn nWo 0) pe_int (fun _ _ => rfl)))) pss_nil) (
    pss_cons (psn nWo 2 (pcD CV hr gWo0 (pac (pn nWo 1) (pac (pe_ix ix_tup (pn nWo 0) pe_int (fun _ _ => rfl)) pa_nil)))) (
    pss_cons (psn nWo 3 (pcD CV hr gWo0 (pac (pn nWo 1) (pac (pe_ix ix_tup (pn nWo 0) pe_int (fun _ _ => rfl)) pa_nil)))) (
    pss_cons (ps_if (pt_cmpR op_eq (pe_ix ix_tup (pn nWo 0) pe_int (fun _ _ => rfl)) pe_str (nomark _)) (pss_one (ps_ret (pe_op op_add (pn nWo 2) (pn nWo 3)))) pss_nil) (
    pss_cons (ps_if (pt_cmpR op_eq (pe_ix ix_tup (pn nWo 0) pe_int (fun _ _ => rfl)) pe_str (nomark _)) (pss_one (ps_ret (pe_op op_sub (pn nWo 2) (pn nWo 3)))) pss_nil) (
    pss_cons (ps_if (pt_cmpR op_eq (pe_ix ix_tup (pn nWo 0) pe_int (fun _ _ => rfl)) pe_str (nomark _)) (pss_one (ps_ret (pe_op op_add (pe_op op_mul (pcT call_int1 gWo1 T.int boo_int (pac (pe_cmpR op_gt (pn nWo 2) (pn nWo 3) (nomark _)) pa_nil)) (pn nWo 2)) (pe_op op_mul (pcT call_int1 gWo1 T.int boo_int (pac (pe_cmpR op_le (pn nWo 2) (pn nWo 3) (nomark _)) pa_nil)) (pn nWo 3))))) pss_nil) (
    pss_cons (ps_if (pt_cmpR op_gt (pn nWo 2) pe_int (nomark _)) (pss_one (ps_ret (pn nWo 3))) pss_nil) (
    pss_one (ps_ret (pcD CV hr gWo0 (pac (pn nWo 1) (pac (pe_ix ix_tup (pn nWo 0) pe_int (fun _ _ => rfl)) pa_nil))))))))))), ?_⟩
  refine ⟨_, rfl, t, _, 0, .str φ.wd, rfl, rfl, hF, φ.at0, rfl, _, rfl, ?_⟩
  have lim : ∀ (c : Bool), (-(2 ^ 64) : Int) < (if c = true then (1 : Int) else 0) ∧ (if c = true then (1 : Int) else 0) < 2 ^ 64 := fun c => by cases c <;> decide
  cases φ with
  | num n =>
    refine ifE ?_
    exact ⟨_, rfl, t, _, 1, .int n, rfl, rfl, hF, atI_nat (j := 1) rfl, q⟩
  | sum i j =>
    have fi := hf i (by simp [Fm.named])
    have fj := hf j (by simp [Fm.named])
    refine ifS (show ¬ ("sum" : Str) = "number" by decide +kernel) ?_
    refine ⟨_, rfl, _, rfl, t, _, 1, .int i, rfl, rfl, hF, atI_nat (j := 1) rfl, a, os, i, rfl, hS, ?_⟩
    refine ⟨_, rfl, _, rfl, t, _, 2, .int j, rfl, rfl, hF, atI_nat (j := 2) rfl, a, os, j, rfl, hS, ?_⟩
    rw [fi, fj]
    refine ⟨_, rfl, t, _, 0, .str "sum", rfl, rfl, hF, atI_nat (j := 0) rfl, rfl, _, rfl, ?_⟩
    refine ifE ?_
    exact ⟨_, rfl, _, rfl, _, _, rfl, rfl, q⟩
  | less i j =>
    have fi := hf i (by simp [Fm.named])
    have fj := hf j (by simp [Fm.named])
    refine ifS (show ¬ ("less" : Str) = "number" by decide +kernel) ?_
    refine ⟨_, rfl, _, rfl, t, _, 1, .int i, rfl, rfl, hF, atI_nat (j := 1) rfl, a, os, i, rfl, hS, ?_⟩
    refine ⟨_, rfl, _, rfl, t, _, 2, .int j, rfl, rfl, hF, atI_nat (j := 2) rfl, a, os, j, rfl, hS, ?_⟩
    rw [fi, fj]
    refine ⟨_, rfl, t, _, 0, .str "less", rfl, rfl, hF, atI_nat (j := 0) rfl, rfl, _, rfl, ?_⟩
    refine ifS (show ¬ ("less" : Str) = "sum" by decide +kernel) ?_
    refine ⟨_, rfl, t, _, 0, .str "less", rfl, rfl, hF, atI_nat (j := 0) rfl, rfl, _, rfl, ?_⟩
    refine ifE ?_
    exact ⟨_, rfl, _, rfl, _, _, rfl, rfl, q⟩
  | most i j =>
    have fi := hf i (by simp [Fm.named])
    have fj := hf j (by simp [Fm.named])
    refine ifS (show ¬ ("most" : Str) = "number" by decide +kernel) ?_
    refine ⟨_, rfl, _, rfl, t, _, 1, .int i, rfl, rfl, hF, atI_nat (j := 1) rfl, a, os, i, rfl, hS, ?_⟩
    refine ⟨_, rfl, _, rfl, t, _, 2, .int j, rfl, rfl, hF, atI_nat (j := 2) rfl, a, os, j, rfl, hS, ?_⟩
    rw [fi, fj]
    refine ⟨_, rfl, t, _, 0, .str "most", rfl, rfl, hF, atI_nat (j := 0) rfl, rfl, _, rfl, ?_⟩
    refine ifS (show ¬ ("most" : Str) = "sum" by decide +kernel) ?_
    refine ⟨_, rfl, t, _, 0, .str "most", rfl, rfl, hF, atI_nat (j := 0) rfl, rfl, _, rfl, ?_⟩
    refine ifS (show ¬ ("most" : Str) = "less" by decide +kernel) ?_
    refine ⟨_, rfl, t, _, 0, .str "most", rfl, rfl, hF, atI_nat (j := 0) rfl, rfl, _, rfl, ?_⟩
    refine ifE ?_
    refine ⟨_, rfl, _, rfl, _, _, rfl, rfl, .inr ⟨_, rfl, _, rfl, _, _, rfl, rfl, .inl (lim _), ?_⟩⟩
    refine ⟨_, rfl, _, rfl, _, _, rfl, rfl, .inr ⟨_, rfl, _, rfl, _, _, rfl, rfl, .inl (lim _), ?_⟩⟩
    refine ⟨_, _, rfl, rfl, ?_⟩
    have e := most_eq (g i) (g j)
    have q' : Q (.int (if g j > g i then g j else g i)) H := q
    rw [← e] at q'
    exact q'
  | pick i j k =>
    have fi := hf i (by simp [Fm.named])
    have fj := hf j (by simp [Fm.named])
    refine ifS (show ¬ ("pick" : Str) = "number" by decide +kernel) ?_
    refine ⟨_, rfl, _, rfl, t, _, 1, .int i, rfl, rfl, hF, atI_nat (j := 1) rfl, a, os, i, rfl, hS, ?_⟩
    refine ⟨_, rfl, _, rfl, t, _, 2, .int j, rfl, rfl, hF, atI_nat (j := 2) rfl, a, os, j, rfl, hS, ?_⟩
    rw [fi, fj]
    refine ⟨_, rfl, t, _, 0, .str "pick", rfl, rfl, hF, atI_nat (j := 0) rfl, rfl, _, rfl, ?_⟩
    refine ifS (show ¬ ("pick" : Str) = "sum" by decide +kernel) ?_
    refine ⟨_, rfl, t, _, 0, .str "pick", rfl, rfl, hF, atI_nat (j := 0) rfl, rfl, _, rfl, ?_⟩
    refine ifS (show ¬ ("pick" : Str) = "less" by decide +kernel) ?_
    refine ⟨_, rfl, t, _, 0, .str "pick", rfl, rfl, hF, atI_nat (j := 0) rfl, rfl, _, rfl, ?_⟩
    refine ifS (show ¬ ("pick" : Str) = "most" by decide +kernel) ?_
    refine ⟨_, rfl, _, _, rfl, rfl, _, rfl, ?_⟩
    refine ite2 (fun c => ?_) (fun c => ?_)
    · have c' : 0 < g i := of_decide_eq_true c
      have e : (Fm.pick i j k).worth g = g j := if_pos c'
      rw [e] at q
      exact ⟨_, rfl, q⟩
    · have c' : ¬ 0 < g i := of_decide_eq_false (Bool.eq_false_iff.mpr c)
      have e : (Fm.pick i j k).worth g = g k := if_neg c'
      rw [e] at q
      refine ⟨_, rfl, _, rfl, t, _, 3, .int k, rfl, rfl, hF, atI_nat (j := 3) rfl, a, os, k, rfl, hS, ?_⟩
      rw [hf k (by simp [Fm.named])]
      exact q
theorem scRe : FnScope ["_law_formula", "_law_numbers", "_law_one"] ["_law_formula", "_law_numbers"] (defScope sReady) := ⟨rfl, rfl, rfl, by decide +kernel, rfl, by decide +kernel, by decide +kernel⟩
theorem nRe : NOk ["_law_formula", "_law_numbers", "_law_one"] (defScope sReady) := ⟨scRe.nd, by decide +kernel, by decide +kernel⟩
theorem gRe0 : GN (defScope sReady) "_law_named" := ⟨by decide +kernel, by decide +kernel, by decide +kernel⟩
theorem gRe1 : GN (defScope sReady) "len" := ⟨by decide +kernel, by decide +kernel, by decide +kernel⟩
theorem ok_ready {f fN : Addr} {fd dN : FuncData} (F : Fun K "_law_ready" "_law_ready" sReady f fd) (T : Txt mg) (CNa : Cl P w K mg base 1 "_law_named" fN dN ["_law_formula"] (spNamed K)) : FnOk P w K mg base CX0 2 f fd ["_law_formula", "_law_numbers"] (spReady K) := by
  refine F.ok scRe (fun vs H Q E h => ?_) (fun cdv A outer s H vs Q E hr h => ?_)
  · obtain ⟨r, a, φ, os, rfl, _⟩ := h
    rfl
  obtain ⟨r, a, φ, os, rfl, hF, hS, q⟩ := h
  refine ⟨_, pss_cons (ps_for PassesOwn.never rfl (pi_list (pcD CNa hr gRe0 (pac (pn nRe 0) pa_nil))) (pgn nRe 2) (pss_one (ps_if (PW.pt (pw_and (pt_chain op_le op_lt pe_int (pn nRe 2) (pcB call_len_seq gRe1 T.len boo_len (pac (pn nRe 1) pa_nil))) (pw_and1 (pt_cmpR op_isN (pe_ix ix_list (pn nRe 1) (pn nRe 2) (fun _ _ => rfl)) pe_non (nomark _))))) (pss_one (ps_ret pe_bl)) pss_nil))) (
    pss_one (ps_ret pe_bl)), ?_⟩
  refine ⟨_, rfl, r, φ, rfl, hF, fun l H1 sm hl1 => ⟨l, rfl, ⟨_, SqL.of hl1⟩, ?_⟩⟩
  have q' : ∀ H', Same H H' → ∀ c, φ.named.all (fun x => !(decide (0 ≤ x ∧ x < (os.length : Int)) && decide (valO os x = .non))) = c → Q (.bl c) H' := fun H' sm c e => by subst e; exact q H' sm
  refine for_list (K := K) (a := l) (xs := φ.named.map V.int) (fun i σ H' => H' = H1 ∧ (φ.named.take i).all (fun x => !(decide (0 ≤ x ∧ x < (os.length : Int)) && decide (valO os x = .non))) = true ∧ ∃ v, σ = [some (.ref r), some (.ref a), v]) ⟨rfl, rfl, none, rfl⟩ ?_ ?_ ?_
  · rintro i σ H' _ ⟨rfl, _⟩
    exact SqL.of hl1
  · rintro i x σ H' hx ⟨rfl, no, v, rfl⟩
    rw [List.getElem?_map] at hx
    obtain ⟨y, hy, rfl⟩ := Option.map_eq_some_iff.mp hx
    have step : (fun x => !(decide (0 ≤ x ∧ x < (os.length : Int)) && decide (valO os x = .non))) y = true → (φ.named.take (i + 1)).all (fun x => !(decide (0 ≤ x ∧ x < (os.length : Int)) && decide (valO os x = .non))) = true := fun z => by
      rw [List.take_succ, hy, List.all_append, no]
      show (true && [y].all (fun x => !(decide (0 ≤ x ∧ x < (os.length : Int)) && decide (valO os x = .non)))) = true
      simp only [List.all_cons, List.all_nil, Bool.and_true, Bool.true_and]
      exact z
    refine ⟨_, rfl, _, _, rfl, rfl, _, rfl, ?_⟩
    refine ite2 (fun c => ?_) (fun c => ?_)
    · have c' : 0 ≤ y := of_decide_eq_true c
      refine ⟨_, rfl, a, _, rfl, .inl (sm.seq hS), _, _, rfl, rfl, _, rfl, ?_⟩
      refine ite2 (fun d => ?_) (fun d => ?_)
      · have d' : y < (((os.map optV).length : Nat) : Int) := of_decide_eq_true d
        rw [List.length_map] at d'
        have e1 : valO os y = optV (os.getD y.toNat none) := if_neg (by omega)
        refine ⟨_, rfl, _, rfl, a, _, y, _, rfl, rfl, sm.seq hS, atI_opt c' d', rfl, _, rfl, ?_⟩
        refine ite2 (fun e => ?_) (fun e => ?_)
        · refine q' H' sm false (List.all_eq_false.mpr ⟨y, List.mem_of_getElem? hy, ?_⟩)
          show ¬ (fun x => !(decide (0 ≤ x ∧ x < (os.length : Int)) && decide (valO os x = .non))) y = true
          rw [show (fun x => !(decide (0 ≤ x ∧ x < (os.length : Int)) && decide (valO os x = .non))) y = (!(decide (0 ≤ y ∧ y < (os.length : Int)) && decide (valO os y = .non))) from rfl, decide_eq_true ⟨c', d'⟩, e1, e]
          decide
        · refine ⟨rfl, step ?_, _, rfl⟩
          rw [show (fun x => !(decide (0 ≤ x ∧ x < (os.length : Int)) && decide (valO os x = .non))) y = (!(decide (0 ≤ y ∧ y < (os.length : Int)) && decide (valO os y = .non))) from rfl, e1, Bool.eq_false_iff.mpr e, Bool.and_false]
          rfl
      · have d' : ¬ y < (((os.map optV).length : Nat) : Int) := of_decide_eq_false (Bool.eq_false_iff.mpr d)
        rw [List.length_map] at d'
        refine iteF ?_
        exact ⟨rfl, step (by rw [show (fun x => !(decide (0 ≤ x ∧ x < (os.length : Int)) && decide (valO os x = .non))) y = (!(decide (0 ≤ y ∧ y < (os.length : Int)) && decide (valO os y = .non))) from rfl, decide_eq_false (fun z => d' z.2)]; rfl), _, rfl⟩
    · have c' : ¬ 0 ≤ y := of_decide_eq_false (Bool.eq_false_iff.mpr c)
      refine ⟨false, rfl, ?_⟩
      refine iteF ?_
      refine iteF ?_
      exact ⟨rfl, step (by rw [show (fun x => !(decide (0 ≤ x ∧ x < (os.length : Int)) && decide (valO os x = .non))) y = (!(decide (0 ≤ y ∧ y < (os.length : Int)) && decide (valO os y = .non))) from rfl, decide_eq_false (fun z => c' z.1)]; rfl), _, rfl⟩
  · rintro σ H' ⟨rfl, no, v, rfl⟩
    rw [List.length_map, List.take_of_length_le (Nat.le_refl _)] at no
    exact q' H' sm true no
theorem scRo : FnScope ["_law_sheet", "_law_numbers", "_law_places", "_law_going", "_law_place"] ["_law_sheet"] (defScope sRounds) := ⟨rfl, rfl, rfl, by decide +kernel, rfl, by decide +kernel, by decide +kernel⟩
theorem nRo : NOk ["_law_sheet", "_law_numbers", "_law_places", "_law_going", "_law_place"] (defScope sRounds) := ⟨scRo.nd, by decide +kernel, by decide +kernel⟩
theorem gRo0 : GN (defScope sRounds) "len" := ⟨by decide +kernel, by decide +kernel, by decide +kernel⟩
theorem gRo1 : GN (defScope sRounds) "list" := ⟨by decide +kernel, by decide +kernel, by decide +kernel⟩
theorem gRo2 : GN (defScope sRounds) "range" := ⟨by decide +kernel, by decide +kernel, by decide +kernel⟩
theorem gRo3 : GN (defScope sRounds) "reversed" := ⟨by decide +kernel, by decide +kernel, by decide +kernel⟩
theorem gRo4 : GN (defScope sRounds) "_law_ready" := ⟨by decide +kernel, by decide +kernel, by decide +kernel⟩
theorem gRo5 : GN (defScope sRounds) "_law_worth" := ⟨by decide +kernel, by decide +kernel, by decide +kernel⟩
theorem ok_rounds {f fR fO : Addr} {fd dR dO : FuncData} (F : Fun K "_law_rounds" "_law_rounds" sRounds f fd) (T : Txt mg) (CRe : Cl P w K mg base 2 "_law_ready" fR dR ["_law_formula", "_law_numbers"] (spReady K)) (CWo : Cl P w K mg base 2 "_law_worth" fO dO ["_law_formula", "_law_numbers"] (spWorthO K)) : FnOk P w K mg base CX0 3 f fd ["_law_sheet"] (spRounds K) := by
  refine F.ok scRo (fun vs H Q E h => ?_) (fun cdv A outer s H vs Q E hr h => ?_)
  · obtain ⟨a, rs, φs, rfl, _⟩ := h
    rfl
  obtain ⟨a, rs, φs, rfl, hA, sh, hl, q⟩ := h
  refine ⟨_, pss_cons (psn nRo 1 (pe_op op_rep (pe_lst (pac pe_non pa_nil)) (pcB call_len_seq gRo0 T.len boo_len (pac (pn nRo 0) pa_nil)))) (
    pss_cons (psn nRo 2 (pcT (call_listRng rfl) gRo1 T.list boo_list (pac (pcT call_range1 gRo2 T.rng boo_range (pac (pcB call_len_seq gRo0 T.len boo_len (pac (pn nRo 0) pa_nil)) pa_nil)) pa_nil))) (
    pss_cons (psn nRo 2 (pe_op op_cat (pn nRo 2) (pcT (call_listRev rfl) gRo1 T.list boo_list (pac (pcT call_reversed gRo3 T.rev boo_rev (pac (pn nRo 2) pa_nil)) pa_nil)))) (
    pss_cons (psn nRo 3 pe_bl) (
    pss_cons (ps_while PassesOwn.never (pt_val (pn nRo 3)) (pss_cons (psn nRo 3 pe_bl) (pss_one (ps_for PassesOwn.never rfl (pi_list (pn nRo 2)) (pgn nRo 4) (pss_one (ps_if (PW.pt (pw_and (pt_cmpR op_isN (pe_ix ix_list (pn nRo 1) (pn nRo 4) (fun _ _ => rfl)) pe_non (nomark _)) (pw_and1 (pt_val (pcD CRe hr gRo4 (pac (pe_ix ix_list (pn nRo 0) (pn nRo 4) (fun _ _ => rfl)) (pac (pn nRo 1) pa_nil))))))) (pss_cons (ps_asg (pcD CWo hr gRo5 (pac (pe_ix ix_list (pn nRo 0) (pn nRo 4) (fun _ _ => rfl)) (pac (pn nRo 1) pa_nil))) (pg_sub (pn nRo 1) (pn nRo 4) set_list)) (pss_one (psn nRo 3 pe_bl))) pss_nil)))))) (
    pss_one (ps_ret (pn nRo 1))))))), ?_⟩
  have hn : (rs.map V.ref).length = φs.length := by rw [List.length_map, sh.1]
  -- [None] * len(sheet)
  refine ⟨small_line (by simp), fun l0 hl0 => ?_⟩
  have s0 := Same.upd_new hl0 (.lst [V.non])
  refine ⟨_, rfl, a, _, rfl, .inl (s0.seq hA), l0, _, _, rfl, rfl, upd_same, by rw [hn]; omega, by rw [hn]; omega, ?_, fun a0 ha0 => ?_⟩
  · rw [hn]; simp; exact Nat.le_trans hl (by decide)
  have e0 : (List.replicate (((rs.map V.ref).length : Nat) : Int).toNat [V.non]).flatten = (List.replicate φs.length (none : Option Int)).map optV := by
    rw [hn]; simp [optV]
  rw [e0]
  have s1 := s0.trans (Same.upd_new ha0 (.lst ((List.replicate φs.length (none : Option Int)).map optV)))
  have n0 : H a0 = none := s0.free ha0
  have g0 : upd (upd H l0 (.lst [V.non])) a0 (.lst ((List.replicate φs.length (none : Option Int)).map optV)) a0 = some (.lst ((List.replicate φs.length (none : Option Int)).map optV)) := upd_same
  generalize upd (upd H l0 (.lst [V.non])) a0 (.lst ((List.replicate φs.length (none : Option Int)).map optV)) = H1 at s1 g0 ⊢
  -- list(range(len(sheet)))
  refine ⟨_, rfl, a, _, rfl, .inl (s1.seq hA), _, rfl, fun r1 hr1 => ⟨r1, φs.length, rfl, by rw [upd_same, hn], Nat.le_trans hl (by decide), fun p1 hp1 => ?_⟩⟩
  have s2 := (Same.upd_new hr1 (RngH r1 (((rs.map V.ref).length : Nat) : Int))).trans (Same.upd_new hp1 (.lst ((PySem.W.rangeKs 0 φs.length).map V.int)))
  have g2 : upd (upd H1 r1 (RngH r1 (((rs.map V.ref).length : Nat) : Int))) p1 (.lst ((PySem.W.rangeKs 0 φs.length).map V.int)) p1 = some (.lst ((PySem.W.rangeKs 0 φs.length).map V.int)) := upd_same
  generalize upd (upd H1 r1 (RngH r1 (((rs.map V.ref).length : Nat) : Int))) p1 (.lst ((PySem.W.rangeKs 0 φs.length).map V.int)) = H2 at s2 g2 ⊢
  have rl : (PySem.W.rangeKs 0 φs.length).length = φs.length := PySem.W.rangeKs_length ..
  -- places + list(reversed(places))
  refine ⟨_, rfl, _, rfl, p1, _, rfl, SqL.of g2, fun I hI => ⟨I, p1, _, rfl, upd_same, (Same.upd_new hI _).seq (SqL.of g2), fun p2 hp2 => ?_⟩⟩
  rw [dropA_upd hI] at hp2 ⊢
  have s3 := Same.upd_new hp2 (.lst ((PySem.W.rangeKs 0 φs.length).map V.int).reverse)
  refine ⟨p1, p2, _, _, rfl, rfl, s3 _ _ g2, upd_same, ?_, fun pl hpl => ?_⟩
  · rw [List.length_reverse, List.length_map, rl]; exact Nat.le_trans (show φs.length + φs.length ≤ 200 by omega) (by decide)
  rw [← List.map_reverse, ← List.map_append]
  have hqs : ∃ qs : List Int, qs = (PySem.W.rangeKs 0 φs.length ++ (PySem.W.rangeKs 0 φs.length).reverse) := ⟨_, rfl⟩
  obtain ⟨qs, eqs⟩ := hqs
  rw [← eqs]
  have qm : ∀ x ∈ qs, 0 ≤ x ∧ x < φs.length := fun x hx => by
    rw [eqs, List.mem_append, List.mem_reverse] at hx
    exact rk_mem.mp (hx.elim id id)
  have qa : ∀ p : Nat, p < φs.length → (p : Int) ∈ qs := fun p hp => by
    rw [eqs]; exact List.mem_append_left _ (rk_mem.mpr ⟨by omega, by omega⟩)
  have s4 := (s2.trans s3).trans (Same.upd_new hpl (.lst (qs.map V.int)))
  have g4 : upd (upd H2 p2 (.lst ((PySem.W.rangeKs 0 φs.length).map V.int).reverse)) pl (.lst (qs.map V.int)) pl = some (.lst (qs.map V.int)) := upd_same
  rw [← List.map_reverse] at s4 g4 hpl
  generalize upd (upd H2 p2 (.lst ((PySem.W.rangeKs 0 φs.length).reverse.map V.int))) pl (.lst (qs.map V.int)) = H3 at s4 g4 ⊢
  have s5 := s1.trans s4
  have g5 := s4 _ _ g0
  have npl : H pl = none := (s1.trans (s2.trans s3)).free (by rw [← List.map_reverse]; exact hpl)
  have nap : a0 ≠ pl := fun z => by
    rw [z] at g0
    have := (s2.trans s3) _ _ g0
    rw [← List.map_reverse] at this
    rw [this] at hpl; cases hpl
  -- while going
  refine ⟨fun m σ H' => ∃ (os : List (Option Int)) (g : Bool) (v : Option V), σ = [some (.ref a), some (.ref a0), some (.ref pl), some (.bl g), v] ∧ m = 2 * os.count none + (if g = true then 1 else 0) ∧ Same H H' ∧ H' a0 = some (.lst (os.map optV)) ∧ H' pl = some (.lst (qs.map V.int)) ∧ os.length = φs.length ∧ (∀ p v, p < φs.length → os.getD p none = some v → HasV φs p v) ∧ (g = false → ∀ p, p < φs.length → os.getD p none = none → readyB os (φs.getD p default) = false), ?_, ?_⟩
  · refine ⟨_, List.replicate φs.length none, true, none, rfl, rfl, s5, g5, g4, by simp, fun p v hp e => ?_, fun z => by cases z⟩
    rw [List.getD_eq_getElem?_getD, List.getElem?_replicate, if_pos hp] at e; cases e
  rintro m σ H' ⟨os, g, v, rfl, hm, sm, h0, hp0, len, sound, full⟩
  refine ⟨_, rfl, g, rfl, ?_⟩
  refine ite2 (fun hg => ?_) (fun hg => ?_)
  · subst hg
    rw [if_pos rfl] at hm
    refine ⟨fun σ' H'' => ∃ m', m' < m ∧ ∃ (os : List (Option Int)) (g : Bool) (v : Option V), σ' = [some (.ref a), some (.ref a0), some (.ref pl), some (.bl g), v] ∧ m' = 2 * os.count none + (if g = true then 1 else 0) ∧ Same H H'' ∧ H'' a0 = some (.lst (os.map optV)) ∧ H'' pl = some (.lst (qs.map V.int)) ∧ os.length = φs.length ∧ (∀ p v, p < φs.length → os.getD p none = some v → HasV φs p v) ∧ (g = false → ∀ p, p < φs.length → os.getD p none = none → readyB os (φs.getD p default) = false), fun σ' H'' z => z, ?_⟩
    refine ⟨_, rfl, pl, rfl, ⟨_, SqL.of hp0⟩, ?_⟩
    refine for_list (K := K) (a := pl) (xs := qs.map V.int) (fun i σ H2 => ∃ (us : List (Option Int)) (g : Bool) (v : Option V), σ = [some (.ref a), some (.ref a0), some (.ref pl), some (.bl g), v] ∧ Same H H2 ∧ H2 a0 = some (.lst (us.map optV)) ∧ H2 pl = some (.lst (qs.map V.int)) ∧ us.length = φs.length ∧ (∀ p v, p < φs.length → us.getD p none = some v → HasV φs p v) ∧
      (g = true → us.count none < os.count none) ∧ (g = false → us = os ∧ ∀ x ∈ qs.take i, us.getD x.toNat none = none → readyB us (φs.getD x.toNat default) = false)) ⟨os, false, v, rfl, sm, h0, hp0, len, sound, (fun z => by cases z), fun _ => ⟨rfl, fun x hx => by simp at hx⟩⟩ ?_ ?_ ?_
    · rintro i σ H2 _ ⟨us, g, v', rfl, _, _, hq, _⟩
      exact SqL.of hq
    · rintro i x σ H2 hx ⟨us, g, v', rfl, sm2, h2, hq2, len2, sound2, more, same⟩
      rw [List.getElem?_map] at hx
      obtain ⟨y, hy, rfl⟩ := Option.map_eq_some_iff.mp hx
      obtain ⟨y0, y1⟩ := qm y (List.mem_of_getElem? hy)
      obtain ⟨p, rfl⟩ : ∃ p : Nat, y = (p : Int) := ⟨y.toNat, by omega⟩
      have hp : p < φs.length := by omega
      have tk : qs.take (i + 1) = qs.take i ++ [(p : Int)] := by rw [List.take_succ, hy]; rfl
      refine ⟨_, rfl, _, rfl, a0, _, _, _, rfl, rfl, SqL.of h2, atI_opt (by omega) (by omega), rfl, _, rfl, ?_⟩
      refine ite2 (fun c => ?_) (fun c => ?_)
      · have c' : us.getD p none = none := optV_non.mp (of_decide_eq_true c)
        obtain ⟨r, _, e1, hr1⟩ := sh.nth hp
        have hr2 := sm2 _ _ hr1
        refine ⟨_, rfl, _, rfl, a, _, _, _, rfl, rfl, sm2.seq hA, e1, _, rfl, r, a0, _, us, rfl, SqT.of hr2, SqL.of h2, fun H5 sm5 => ?_⟩
        have sm6 := sm2.trans sm5
        refine ⟨_, rfl, ?_⟩
        refine ite2 (fun d => ?_) (fun d => ?_)
        · refine ⟨_, rfl, _, rfl, a, _, _, _, rfl, rfl, sm6.seq hA, e1, _, rfl, r, a0, _, us, _, rfl, SqT.of (sm5 _ _ hr2), SqL.of (sm5 _ _ h2), ready_vals d, ?_⟩
          refine ⟨_, rfl, _, rfl, a0, _, p, p, rfl, rfl, sm5 _ _ h2, ?_, ?_⟩
          · unfold ixN
            rw [if_pos (by omega), if_pos (by rw [List.length_map]; omega)]; rfl
          rw [show (V.int ((φs.getD p default).worth fun x => numV (valO us x))) = optV (some ((φs.getD p default).worth fun x => numV (valO us x))) from rfl, ← List.map_set]
          refine ⟨_, true, _, rfl, fun b o hb => ?_, upd_same, ?_, by rw [List.length_set]; exact len2, sound_set len2 hp sound2 d, fun _ => ?_, fun z => by cases z⟩
          · rw [upd_ne (fun z => by rw [z, n0] at hb; cases hb)]; exact sm6 _ _ hb
          · rw [upd_ne nap.symm]; exact sm5 _ _ hq2
          · have lt := count_set (v := (φs.getD p default).worth fun x => numV (valO us x)) (by omega) c'
            cases g with
            | true => exact Nat.lt_trans lt (more rfl)
            | false => rw [(same rfl).1] at lt ⊢; exact lt
        · refine ⟨us, g, _, rfl, sm6, sm5 _ _ h2, sm5 _ _ hq2, len2, sound2, more, fun z => ⟨(same z).1, fun x hx hn' => ?_⟩⟩
          rw [tk, List.mem_append] at hx
          rcases hx with hx | hx
          · exact (same z).2 x hx hn'
          · have : x = (p : Int) := by simpa using hx
            subst this
            exact Bool.eq_false_iff.mpr d
      · have c' : ¬ us.getD p none = none := fun z => c (decide_eq_true (optV_non.mpr z))
        refine iteF ?_
        refine ⟨us, g, _, rfl, sm2, h2, hq2, len2, sound2, more, fun z => ⟨(same z).1, fun x hx hn' => ?_⟩⟩
        rw [tk, List.mem_append] at hx
        rcases hx with hx | hx
        · exact (same z).2 x hx hn'
        · have : x = (p : Int) := by simpa using hx
          subst this
          exact absurd hn' c'
    · rintro σ H2 ⟨us, g, v', rfl, sm2, h2, hq2, len2, sound2, more, same⟩
      rw [List.length_map, List.take_of_length_le (Nat.le_refl _)] at same
      refine ⟨_, ?_, us, g, v', rfl, rfl, sm2, h2, hq2, len2, sound2, fun z p hp hn' => (same z).2 p (qa p hp) hn'⟩
      cases g with
      | true => have := more rfl; rw [if_pos rfl]; omega
      | false => rw [(same rfl).1, if_neg (by decide)]; omega
  · have hg' : g = false := Bool.eq_false_iff.mpr hg
    exact ⟨_, rfl, q a0 os H' sm h0 (isRes_of len sound (full hg'))⟩
end
end K08

set_option linter.all false
set_option maxRecDepth 100000
set_option maxHeartbeats 4000000
namespace K08
open PySem L2 LS
seal L2.PE L2.PT L2.PW L2.PA L2.PS L2.PSs L2.PG L2.PI L2.PO L2.OpR L2.UnR L2.CallR L2.IxR L2.SlR L2.TruR
section
variable {P : Program} {w : World} {K : PySem.W.Frag} {mg : Str → Option Value} {base : Heap}
theorem scUp : FnScope ["_law_script", "_law_small", "_law_great"] ["_law_script", "_law_small", "_law_great"] (defScope sUpto) := ⟨rfl, rfl, rfl, by decide +kernel, rfl, by decide +kernel, by decide +kernel⟩
theorem nUp : NOk ["_law_script", "_law_small", "_law_great"] (defScope sUpto) := ⟨scUp.nd, by decide +kernel, by decide +kernel⟩
theorem gUp0 : GN (defScope sUpto) "len" := ⟨by decide +kernel, by decide +kernel, by decide +kernel⟩
theorem ok_upto {f : Addr} {fd : FuncData} (F : Fun K "_law_upto" "_law_upto" sUpto f fd) (T : Txt mg) : FnOk P w K mg base CX0 1 f fd ["_law_script", "_law_small", "_law_great"] (spUpto K) := by
  refine F.ok scUp (fun vs H Q E h => ?_) (fun cdv A outer s H vs Q E hr h => ?_)
  · obtain ⟨a, ns, s', g, rfl, _⟩ := h
    rfl
  obtain ⟨a, ns, s', g, rfl, hS, h63, q⟩ := h
  refine ⟨_, pss_cons (ps_if (pt_cmpR op_gt (pcB call_len_seq gUp0 T.len boo_len (pac (pn nUp 0) pa_nil)) pe_int (nomark _)) (pss_one (ps_ret (pn nUp 2))) pss_nil) (
    pss_one (ps_ret (pn nUp 1))), ?_⟩
  refine ⟨_, rfl, a, _, rfl, .inl hS, _, _, rfl, rfl, _, rfl, ?_⟩
  rw [decide_eq_false (show ¬ (63 : Int) < (((ns.map V.int).length : Nat) : Int) by rw [List.length_map]; omega)]
  refine iteF ?_
  exact ⟨_, rfl, q⟩
theorem scDf : FnScope ["_law_cell", "_law_k", "_law_size", "_law_one", "_law_other", "_law_turn", "_law_scale"] ["_law_cell", "_law_k", "_law_size"] (defScope sDayFormula) := ⟨rfl, rfl, rfl, by decide +kernel, rfl, by decide +kernel, by decide +kernel⟩
theorem nDf : NOk ["_law_cell", "_law_k", "_law_size", "_law_one", "_law_other", "_law_turn", "_law_scale"] (defScope sDayFormula) := ⟨scDf.nd, by decide +kernel, by decide +kernel⟩
theorem gDf0 : GN (defScope sDayFormula) "_law_draw" := ⟨by decide +kernel, by decide +kernel, by decide +kernel⟩
theorem ok_dayFormula {f fD : Addr} {fd dD : FuncData} (F : Fun K "_law_day_formula" "_law_day_formula" sDayFormula f fd) (CDr : Cl P w K mg base 1 "_law_draw" fD dD ["_law_number", "_law_prime", "_law_many"] spDraw) : FnOk P w K mg base CX0 2 f fd ["_law_cell", "_law_k", "_law_size"] spDayFormula := by
  refine F.ok scDf (fun vs H Q E h => ?_) (fun cdv A outer s H vs Q E hr h => ?_)
  · obtain ⟨c, k, n, rfl, _⟩ := h
    rfl
  obtain ⟨c, k, n, rfl, q⟩ := h
  refine ⟨_, pss_cons (psn nDf 3 (pe_op op_sub (pe_op op_mod (pe_op op_add (pe_op op_fdiv (pn nDf 0) pe_int) (pn nDf 1)) (pe_op op_add (pn nDf 2) pe_int)) pe_int)) (
    pss_cons (psn nDf 4 (pe_op op_sub (pcD CDr hr gDf0 (pac (pe_op op_add (pn nDf 0) (pe_op op_mul pe_int (pn nDf 1))) (pac pe_int (pac (pe_op op_add (pn nDf 2) pe_int) pa_nil)))) pe_int)) (
    pss_cut (psn nDf 5 (pe_op op_mod (pe_op op_add (pe_op op_fdiv (pn nDf 0) pe_int) (pn nDf 1)) pe_int)) (
    pss_cons (ps_if (pt_cmpR op_lt (pn nDf 5) pe_int (nomark _)) (pss_cons (psn nDf 6 (pe_ix ix_list (pe_lst (pac pe_int (pac (pe_op op_pow pe_int pe_int) (pac (pe_op op_add pe_int (pe_op op_mod (pn nDf 0) (pe_op op_pow pe_int pe_int))) pa_nil)))) (pe_op op_mod (pn nDf 0) pe_int) (fun _ _ => rfl))) (pss_one (ps_ret (pe_tup (pac pe_str (pac (pe_op op_mul (pe_op op_sub (pcD CDr hr gDf0 (pac (pe_op op_add (pn nDf 0) (pe_op op_mul pe_int (pn nDf 1))) (pac pe_int (pac pe_int pa_nil)))) pe_int) (pn nDf 6)) pa_nil)))))) pss_nil) (
    pss_cons (ps_if (pt_cmpR op_lt (pn nDf 5) pe_int (nomark _)) (pss_one (ps_ret (pe_tup (pac (pe_ix ix_list (pe_lst (pac pe_str (pac pe_str (pac pe_str pa_nil)))) (pe_op op_sub (pn nDf 5) pe_int) (fun _ _ => rfl)) (pac (pn nDf 3) (pac (pn nDf 4) pa_nil)))))) pss_nil) (
    pss_one (ps_ret (pe_tup (pac pe_str (pac (pn nDf 4) (pac (pn nDf 3) (pac (pe_op op_sub (pcD CDr hr gDf0 (pac (pe_op op_add (pn nDf 0) (pe_op op_mul pe_int (pn nDf 1))) (pac pe_int (pac (pe_op op_add (pn nDf 2) pe_int) pa_nil)))) pe_int) pa_nil))))))))))), ?_⟩
  have n2 : (0 : Int) < (n : Int) + 2 := by omega
  refine ⟨_, rfl, _, _, rfl, rfl, ⟨by decide, by decide⟩, _, rfl, _, _, rfl, rfl, _, rfl, _, _, rfl, rfl, _, _, rfl, rfl, n2, _, _, rfl, rfl, ?_⟩
  refine ⟨_, rfl, _, rfl, _, _, rfl, rfl, .inl (by decide), _, _, rfl, rfl, _, rfl, _, _, rfl, rfl, _, 1009, _, rfl, by decide, n2, _, _, rfl, rfl, ?_⟩
  refine ⟨fun σ H' => H' = H ∧ ∃ y z t : Int, σ = [some (.int c), some (.int k), some (.int (n : Int)), some (.int y), some (.int z), some (.int t), none] ∧ 0 ≤ t ∧ t < 7, ?_, ?_⟩
  · exact ⟨_, rfl, _, _, rfl, rfl, ⟨by decide, by decide⟩, _, rfl, _, _, rfl, rfl, _, _, rfl, rfl, (show (0 : Int) < 7 by decide), rfl, _, _, _, rfl, Int.emod_nonneg _ (by decide), Int.emod_lt_of_pos _ (by decide)⟩
  rintro σ1 H1 ⟨rfl, y, z, t, rfl, t0, t7⟩
  refine ⟨_, rfl, _, _, rfl, rfl, _, rfl, ?_⟩
  refine ite2 (fun _ => ?_) (fun d3 => ?_)
  · have p30 : (0 : Int) < (10 : Int) ^ (30 : Int).toNat := by decide
    refine ⟨_, _, rfl, rfl, ⟨by decide, by decide, by decide⟩, _, rfl, _, _, rfl, rfl, ⟨by decide, by decide, by decide⟩, _, _, rfl, rfl, p30, _, _, rfl, rfl, small_line (by simp), fun p hp => ?_⟩
    obtain ⟨u, hu, e⟩ := atI_mem (xs := [V.int 1, V.int ((10 : Int) ^ (20 : Int).toNat), V.int (1 + c % (10 : Int) ^ (30 : Int).toNat)]) (i := c % 3) (by omega) (by simp only [List.length_cons, List.length_nil]; omega)
    obtain ⟨far, rfl⟩ : ∃ z : Int, u = .int z := by
      simp only [List.mem_cons, List.not_mem_nil, or_false] at hu
      rcases hu with rfl | rfl | rfl <;> exact ⟨_, rfl⟩
    refine ⟨_, rfl, _, _, rfl, rfl, (show (0 : Int) < 3 by decide), p, _, _, .int far, rfl, rfl, SqL.of upd_same, e, ?_⟩
    have r1 := Int.emod_nonneg ((c + 7919 * k) * 48271 % 1019) (show (9 : Int) ≠ 0 by decide)
    have r2 := Int.emod_lt_of_pos ((c + 7919 * k) * 48271 % 1019) (show (0 : Int) < 9 by decide)
    refine ⟨_, rfl, _, rfl, _, _, rfl, rfl, .inl (by decide), _, _, rfl, rfl, c + 7919 * k, 1019, 9, rfl, by decide, by decide, _, _, rfl, rfl, _, rfl, _, _, rfl, rfl, .inl (by omega), small_line (by simp), fun r hr' => ?_⟩
    exact q r (.num _) _ ((Same.upd_new hp _).trans (Same.upd_new hr' _)) (by rw [upd_same]; rfl)
  have d3' : ¬ t < 3 := of_decide_eq_false (Bool.eq_false_iff.mpr d3)
  refine ⟨_, rfl, _, _, rfl, rfl, _, rfl, ?_⟩
  refine ite2 (fun d6 => ?_) (fun _ => ?_)
  · have d6' : t < 6 := of_decide_eq_true d6
    refine ⟨small_line (by simp), fun p hp => ?_⟩
    obtain ⟨u, hu, e⟩ := atI_mem (xs := [V.str "sum", V.str "less", V.str "most"]) (i := t - 3) (by omega) (by simp only [List.length_cons, List.length_nil]; omega)
    obtain ⟨φ, hφ⟩ : ∃ φ : Fm, φ.v = [u, .int y, .int z] := by
      simp only [List.mem_cons, List.not_mem_nil, or_false] at hu
      rcases hu with rfl | rfl | rfl
      · exact ⟨.sum y z, rfl⟩
      · exact ⟨.less y z, rfl⟩
      · exact ⟨.most y z, rfl⟩
    refine ⟨_, rfl, _, _, rfl, rfl, p, _, _, u, rfl, rfl, SqL.of upd_same, e, _, rfl, _, rfl, small_line (by simp), fun r hr' => ?_⟩
    exact q r φ _ ((Same.upd_new hp _).trans (Same.upd_new hr' _)) (by rw [upd_same, hφ])
  · exact ⟨_, rfl, _, rfl, _, rfl, _, rfl, _, _, rfl, rfl, .inl (by decide), _, _, rfl, rfl, _, rfl, _, _, rfl, rfl, _, 1013, _, rfl, by decide, n2, _, _, rfl, rfl, small_line (by simp), fun r hr' => q r (.pick _ _ _) _ (Same.upd_new hr' _) (by rw [upd_same]; rfl)⟩
theorem scDe : FnScope ["_law_cells", "_law_size", "_law_asked", "_law_k", "_law_place"] ["_law_cells", "_law_size"] (defScope sDeeds) := ⟨rfl, rfl, rfl, by decide +kernel, rfl, by decide +kernel, by decide +kernel⟩
theorem nDe : NOk ["_law_cells", "_law_size", "_law_asked", "_law_k", "_law_place"] (defScope sDeeds) := ⟨scDe.nd, by decide +kernel, by decide +kernel⟩
theorem gDe0 : GN (defScope sDeeds) "range" := ⟨by decide +kernel, by decide +kernel, by decide +kernel⟩
theorem gDe1 : GN (defScope sDeeds) "len" := ⟨by decide +kernel, by decide +kernel, by decide +kernel⟩
theorem gDe2 : GN (defScope sDeeds) "_law_day_formula" := ⟨by decide +kernel, by decide +kernel, by decide +kernel⟩
theorem ok_deeds {f fD : Addr} {fd dD : FuncData} (F : Fun K "_law_deeds" "_law_deeds" sDeeds f fd) (T : Txt mg) (CDf : Cl P w K mg base 2 "_law_day_formula" fD dD ["_law_cell", "_law_k", "_law_size"] spDayFormula) : FnOk P w K mg base CX0 3 f fd ["_law_cells", "_law_size"] (spDeeds K) := by
  refine F.ok scDe (fun vs H Q E h => ?_) (fun cdv A outer s H vs Q E hr h => ?_)
  · obtain ⟨a, ns, n, rfl, _⟩ := h
    rfl
  obtain ⟨a, ns, n, rfl, hS, hl, q⟩ := h
  refine ⟨_, pss_cons (psn nDe 2 (pe_lst pa_nil)) (
    pss_cons (ps_for PassesOwn.never rfl (pir1 gDe0 T.rng (pac (pcB call_len_seq gDe1 T.len boo_len (pac (pn nDe 0) pa_nil)) pa_nil)) (pgn nDe 3) (pss_cons (psn nDe 4 (pe_op op_sub (pe_op op_mod (pe_op op_add (pe_op op_fdiv (pe_ix ix_list (pn nDe 0) (pn nDe 3) (fun _ _ => rfl)) pe_int) (pn nDe 3)) (pe_op op_add (pn nDe 1) pe_int)) pe_int)) (
    pss_cut (ps_if (pt_cmpR op_eq (pe_op op_mod (pe_ix ix_list (pn nDe 0) (pn nDe 3) (fun _ _ => rfl)) pe_int) pe_int (nomark _)) (pss_one (psn nDe 4 (pe_ix ix_list (pe_lst (pac (pe_un un_neg pe_int) (pac (pe_un un_neg (pe_op op_pow pe_int pe_int)) (pac (pe_op op_pow pe_int pe_int) pa_nil)))) (pe_op op_mod (pn nDe 3) pe_int) (fun _ _ => rfl)))) pss_nil) (
    pss_one (ps_if (pt_cmpR op_eq (pe_op op_mod (pe_ix ix_list (pn nDe 0) (pn nDe 3) (fun _ _ => rfl)) pe_int) pe_int (nomark _)) (pss_one (ps_expr (pl_append (pn nDe 2) (pe_tup (pac pe_str (pac (pn nDe 4) pa_nil)))))) (pss_one (ps_expr (pl_append (pn nDe 2) (pe_tup (pac pe_str (pac (pn nDe 4) (pac (pcD CDf hr gDe2 (pac (pe_ix ix_list (pn nDe 0) (pn nDe 3) (fun _ _ => rfl)) (pac (pn nDe 3) (pac (pn nDe 1) pa_nil)))) pa_nil)))))))))))) (
    pss_one (ps_ret (pn nDe 2)))), ?_⟩
  refine ⟨small_line (by simp), fun l0 hl0 => ?_⟩
  have s0 := Same.upd_new hl0 (.lst [])
  have hn : ((ns.map V.int).length : Int).toNat = ns.length := by rw [List.length_map]; simp
  refine ⟨_, rfl, a, _, rfl, .inl (s0.seq hS), ((ns.map V.int).length : Int), rfl, by rw [List.length_map]; omega, by rw [List.length_map]; omega, ?_⟩
  refine for_range (fun i σ H' => ∃ (rs : List Addr) (ds : List Deed) (v u : Option V), σ = [some (.ref a), some (.int (n : Int)), some (.ref l0), v, u] ∧ rs.length = i ∧ Ds H' rs ds ∧ H' l0 = some (.lst (rs.map V.ref)) ∧ Same H H') ⟨[], [], none, none, rfl, rfl, ⟨rfl, fun i r d z => by simp at z⟩, upd_same, s0⟩ ?_ ?_
  · rintro i σ H' hi ⟨rs, ds, v, u, rfl, rfl, dd, hl', sm⟩
    have hi' : (rs.length : Int) < ns.length := by omega
    have e0 : atI (ns.map V.int) (0 + (rs.length : Int)) = some (.int (ns.getD (0 + (rs.length : Int)).toNat 0)) := atI_int (by omega) (by omega)
    generalize ns.getD (0 + (rs.length : Int)).toNat 0 = c at e0
    refine ⟨_, rfl, _, rfl, a, _, _, _, rfl, rfl, sm.seq hS, e0, _, _, rfl, rfl, ⟨by decide, by decide⟩, _, rfl, _, _, rfl, rfl, _, rfl, _, _, rfl, rfl, _, _, rfl, rfl, (show (0 : Int) < (n : Int) + 2 by omega), _, _, rfl, rfl, ?_⟩
    refine ⟨fun σ H'' => Same H' H'' ∧ ∃ p : Int, σ = [some (.ref a), some (.int (n : Int)), some (.ref l0), some (.int (0 + (rs.length : Int))), some (.int p)], ?_, ?_⟩
    · refine ⟨_, rfl, _, rfl, a, _, _, _, rfl, rfl, sm.seq hS, e0, _, _, rfl, rfl, (show (0 : Int) < 13 by decide), rfl, _, rfl, ?_⟩
      refine ite2 (fun _ => ?_) (fun _ => ?_)
      · refine ⟨2, rfl, _, _, rfl, rfl, ⟨by decide, by decide, by decide⟩, _, rfl, _, _, rfl, rfl, ⟨by decide, by decide, by decide⟩, small_line (by simp), fun p hp => ?_⟩
        obtain ⟨y, hy, e⟩ := atI_mem (xs := [V.int (-2), V.int (-((10 : Int) ^ (20 : Int).toNat)), V.int ((10 : Int) ^ (20 : Int).toNat)]) (i := (0 + (rs.length : Int)) % 3) (by omega) (by simp only [List.length_cons, List.length_nil]; omega)
        obtain ⟨pc, rfl⟩ : ∃ z : Int, y = .int z := by
          simp only [List.mem_cons, List.not_mem_nil, or_false] at hy
          rcases hy with rfl | rfl | rfl <;> exact ⟨_, rfl⟩
        exact ⟨_, rfl, _, _, rfl, rfl, (show (0 : Int) < 3 by decide), p, _, _, .int pc, rfl, rfl, SqL.of upd_same, e, Same.upd_new hp _, pc, rfl⟩
      · exact ⟨Same.refl _, _, rfl⟩
    rintro σ1 H1 ⟨s1, p, rfl⟩
    have sm1 := sm.trans s1
    have hl1 := s1 _ _ hl'
    have ll : (rs.map V.ref).length < sizeLine := by rw [List.length_map]; exact Nat.lt_of_lt_of_le (show rs.length < 101 by omega) (by decide)
    have fin : ∀ {H2 : Hp} {r : Addr} {d : Deed}, Same H1 H2 → DeedAt H2 r d → ∃ (rs' : List Addr) (ds' : List Deed) (v u : Option V), [some (.ref a), some (.int (n : Int)), some (.ref l0), some (.int (0 + (rs.length : Int))), some (.int p)] = [some (.ref a), some (.int (n : Int)), some (.ref l0), v, u] ∧ rs'.length = rs.length + 1 ∧ Ds (upd H2 l0 (.lst (rs.map V.ref ++ [.ref r]))) rs' ds' ∧ upd H2 l0 (.lst (rs.map V.ref ++ [.ref r])) l0 = some (.lst (rs'.map V.ref)) ∧ Same H (upd H2 l0 (.lst (rs.map V.ref ++ [.ref r]))) := fun {H2 r d} s2 hd => by
      refine ⟨rs ++ [r], ds ++ [d], _, _, rfl, by simp, (dd.keep (Keep.of s1)).snoc hl1 s2 hd, by rw [upd_same]; simp, fun b o hb => ?_⟩
      rw [upd_ne (fun z => by rw [z, hl0] at hb; cases hb)]
      exact s2 _ _ (sm1 _ _ hb)
    refine ⟨_, rfl, _, rfl, a, _, _, _, rfl, rfl, sm1.seq hS, e0, _, _, rfl, rfl, (show (0 : Int) < 4 by decide), rfl, _, rfl, ?_⟩
    refine ite2 (fun _ => ?_) (fun _ => ?_)
    · refine ⟨_, rfl, .inl ⟨rfl, _, SqL.of hl1⟩, _, rfl, small_line (by simp), fun r hr' => ?_⟩
      have s2 := Same.upd_new hr' (.tup [V.str "look", V.int p])
      refine ⟨l0, _, _, rfl, rfl, s2 _ _ hl1, ll, ?_⟩
      exact fin (d := .look p) s2 upd_same
    · refine ⟨_, rfl, .inl ⟨rfl, _, SqL.of hl1⟩, _, rfl, _, rfl, _, rfl, a, _, _, _, rfl, rfl, sm1.seq hS, e0, _, rfl, _, rfl, c, _, n, rfl, fun t φ H2 s2 ht => ?_⟩
      refine ⟨small_line (by simp), fun r hr' => ?_⟩
      have s3 := Same.upd_new hr' (.tup [V.str "put", V.int p, V.ref t])
      refine ⟨l0, _, _, rfl, rfl, s3 _ _ (s2 _ _ hl1), ll, ?_⟩
      exact fin (d := .put p φ) (s2.trans s3) ⟨t, upd_same, s3 _ _ ht⟩
  · rintro σ H' ⟨rs, ds, v, u, rfl, hlen, dd, hl', sm⟩
    exact ⟨_, rfl, q l0 rs ds H' sm hl' (by rw [← dd.1, hlen, hn]) dd⟩
theorem scSa : FnScope ["_law_handed", "_law_asked", "_law_k"] ["_law_handed", "_law_asked"] (defScope sSame) := ⟨rfl, rfl, rfl, by decide +kernel, rfl, by decide +kernel, by decide +kernel⟩
theorem nSa : NOk ["_law_handed", "_law_asked", "_law_k"] (defScope sSame) := ⟨scSa.nd, by decide +kernel, by decide +kernel⟩
theorem gSa0 : GN (defScope sSame) "isinstance" := ⟨by decide +kernel, by decide +kernel, by decide +kernel⟩
theorem gSa1 : GN (defScope sSame) "len" := ⟨by decide +kernel, by decide +kernel, by decide +kernel⟩
theorem gSa2 : GN (defScope sSame) "range" := ⟨by decide +kernel, by decide +kernel, by decide +kernel⟩
theorem gSa3 : GN (defScope sSame) "tuple" := ⟨by decide +kernel, by decide +kernel, by decide +kernel⟩
theorem gSa4 : GN (defScope sSame) "str" := ⟨by decide +kernel, by decide +kernel, by decide +kernel⟩
theorem gSa5 : GN (defScope sSame) "_law_whole" := ⟨by decide +kernel, by decide +kernel, by decide +kernel⟩
theorem ok_same {f fW : Addr} {fd dW : FuncData} (F : Fun K "_law_same" "_law_same" sSame f fd) (T : Txt mg) (CW : Cl P w K mg base 1 "_law_whole" fW dW ["_law_found"] spWhole) : FnOk P w K mg base CX0 2 f fd ["_law_handed", "_law_asked"] (spSame K) := by
  refine F.ok scSa (fun vs H Q E h => ?_) (fun cdv A outer s H vs Q E hr h => ?_)
  · obtain ⟨a, b, rs, ds, rfl, _⟩ := h
    rfl
  obtain ⟨a, b, rs, ds, rfl, ha, hb, dd, hl, q⟩ := h
  refine ⟨_, pss_cons (ps_if (pt_cmpR op_ne (pcB call_len_seq gSa1 T.len boo_len (pac (pn nSa 0) pa_nil)) (pcB call_len_seq gSa1 T.len boo_len (pac (pn nSa 1) pa_nil)) (nomark _)) (pss_one (ps_ret pe_bl)) pss_nil) (
    pss_cons (ps_for PassesOwn.never rfl (pir1 gSa2 T.rng (pac (pcB call_len_seq gSa1 T.len boo_len (pac (pn nSa 1) pa_nil)) pa_nil)) (pgn nSa 2) (pss_cons (ps_if (PW.pt (pw_or (pt_not (pt_val (pcB call_isi gSa0 T.isi boo_isi (pac (pe_ix ix_list (pn nSa 0) (pn nSa 2) (fun _ _ => rfl)) (pac (ptyN gSa3 T.tup boo_tuple) pa_nil))))) (pw_or1 (pt_cmpR op_ne (pcB call_len_seq gSa1 T.len boo_len (pac (pe_ix ix_list (pn nSa 0) (pn nSa 2) (fun _ _ => rfl)) pa_nil)) (pcB call_len_seq gSa1 T.len boo_len (pac (pe_ix ix_list (pn nSa 1) (pn nSa 2) (fun _ _ => rfl)) pa_nil)) (nomark _))))) (pss_one (ps_ret pe_bl)) pss_nil) (
    pss_cons (ps_if (PW.pt (pw_or (pt_not (pt_val (pcB call_isi gSa0 T.isi boo_isi (pac (pe_ix ix_tup (pe_ix ix_list (pn nSa 0) (pn nSa 2) (fun _ _ => rfl)) pe_int (fun _ _ => rfl)) (pac (ptyN gSa4 T.str boo_str) pa_nil))))) (pw_or1 (pt_not (pt_val (pcD CW hr gSa5 (pac (pe_ix ix_tup (pe_ix ix_list (pn nSa 0) (pn nSa 2) (fun _ _ => rfl)) pe_int (fun _ _ => rfl)) pa_nil))))))) (pss_one (ps_ret pe_bl)) pss_nil) (
    pss_one (ps_if (pt_cmpR (op_neSelf hr.units0) (pe_ix ix_list (pn nSa 0) (pn nSa 2) (fun _ _ => rfl)) (pe_ix ix_list (pn nSa 1) (pn nSa 2) (fun _ _ => rfl)) (nomark _)) (pss_one (ps_ret pe_bl)) pss_nil))))) (
    pss_one (ps_ret pe_bl))), ?_⟩
  refine ⟨_, rfl, a, _, rfl, .inl ha, _, rfl, b, _, rfl, .inl hb, rfl, _, rfl, ?_⟩
  refine iteNS rfl ?_
  have hn : (((rs.map V.ref).length : Nat) : Int) = ds.length := by rw [List.length_map, dd.1]
  refine ⟨_, rfl, b, _, rfl, .inl hb, ((rs.map V.ref).length : Int), rfl, by omega, by omega, ?_⟩
  refine for_range (fun i σ H' => H' = H ∧ ∃ v, σ = [some (.ref a), some (.ref b), v]) ⟨rfl, none, rfl⟩ ?_ ?_
  · rintro i σ H' hi ⟨rfl, v, rfl⟩
    have hi' : i < ds.length := by omega
    obtain ⟨r, _, e1', hr0⟩ := dd.nth hi'
    obtain ⟨wd, p, xs, hr1⟩ := hr0.tup
    have e1 : atI (rs.map V.ref) (0 + (i : Int)) = some (.ref r) := by rw [Int.zero_add]; exact e1'
    refine ⟨_, rfl, _, rfl, a, _, _, _, rfl, rfl, ha, e1, _, "tuple", _, true, rfl, .tup hr1, kit_tuple_tuple, true, rfl, ?_⟩
    refine iteF ?_
    refine ⟨_, rfl, _, rfl, a, _, _, _, rfl, rfl, ha, e1, r, _, rfl, .inr (SqT.of hr1), _, rfl, _, rfl, b, _, _, _, rfl, rfl, hb, e1, r, _, rfl, .inr (SqT.of hr1), rfl, _, rfl, ?_⟩
    refine iteNS rfl ?_
    refine ⟨_, rfl, _, rfl, a, _, _, _, rfl, rfl, ha, e1, r, _, 0, _, rfl, rfl, SqT.of hr1, atI_nat (j := 0) rfl, _, "str", _, true, rfl, .str _, kit_str_str, true, rfl, ?_⟩
    refine iteF ?_
    refine ⟨_, rfl, _, rfl, a, _, _, _, rfl, rfl, ha, e1, r, _, 1, _, rfl, rfl, SqT.of hr1, atI_nat (j := 1) rfl, p, rfl, true, rfl, ?_⟩
    refine iteF ?_
    refine ⟨_, rfl, _, rfl, a, _, _, _, rfl, rfl, ha, e1, _, rfl, _, rfl, b, _, _, _, rfl, rfl, hb, e1, r, _, rfl, rfl, SqT.of hr1, _, rfl, ?_⟩
    refine iteF ?_
    exact ⟨rfl, _, rfl⟩
  · rintro σ H' ⟨rfl, v, rfl⟩
    exact q
theorem scAl : FnScope ["_law_one", "_law_other"] ["_law_one", "_law_other"] (defScope sAlike) := ⟨rfl, rfl, rfl, by decide +kernel, rfl, by decide +kernel, by decide +kernel⟩
theorem nAl : NOk ["_law_one", "_law_other"] (defScope sAlike) := ⟨scAl.nd, by decide +kernel, by decide +kernel⟩
theorem gAl0 : GN (defScope sAlike) "_law_whole" := ⟨by decide +kernel, by decide +kernel, by decide +kernel⟩
theorem ok_alike {f fW : Addr} {fd dW : FuncData} (F : Fun K "_law_alike" "_law_alike" sAlike f fd) (CW : Cl P w K mg base 1 "_law_whole" fW dW ["_law_found"] spWhole) : FnOk P w K mg base CX0 2 f fd ["_law_one", "_law_other"] spAlikeB := by
  refine F.ok scAl (fun vs H Q E h => ?_) (fun cdv A outer s H vs Q E hr h => ?_)
  · obtain ⟨o, u, rfl, _⟩ := h
    rfl
  obtain ⟨o, u, rfl, q⟩ := h
  refine ⟨_, pss_cons (ps_if (PW.pt (pw_or (pt_cmpR op_isN (pn nAl 0) pe_non (nomark _)) (pw_or1 (pt_cmpR op_isN (pn nAl 1) pe_non (nomark _))))) (pss_one (ps_ret (pe_and (pe_cmpR op_isN (pn nAl 0) pe_non (nomark _)) (pe_one (pe_cmpR op_isN (pn nAl 1) pe_non (nomark _)))))) pss_nil) (
    pss_one (ps_ret (pe_and (pcD CW hr gAl0 (pac (pn nAl 0) pa_nil)) (pe_one (pe_cmpR op_eq (pn nAl 0) (pn nAl 1) (nomark _)))))), ?_⟩
  cases o with
  | none =>
    refine ⟨_, rfl, rfl, true, rfl, ?_⟩
    refine iteT ?_
    refine iteT ?_
    refine ⟨_, rfl, rfl, true, rfl, ?_⟩
    refine iteT ?_
    cases u with
    | none => exact ⟨_, rfl, rfl, q⟩
    | some j => exact ⟨_, rfl, rfl, q⟩
  | some i =>
    refine ⟨_, rfl, rfl, false, rfl, ?_⟩
    refine iteF ?_
    cases u with
    | none =>
      refine ⟨_, rfl, rfl, true, rfl, ?_⟩
      refine iteT ?_
      refine ⟨_, rfl, rfl, false, rfl, ?_⟩
      exact q
    | some j =>
      refine ⟨_, rfl, rfl, false, rfl, ?_⟩
      refine iteF ?_
      refine ⟨_, rfl, i, rfl, true, rfl, ?_⟩
      refine iteT ?_
      refine ⟨_, rfl, _, rfl, rfl, ?_⟩
      have e : decide (V.int i = V.int j) = decide (some i = some j) := by
        rw [Bool.eq_iff_iff]; simp
      show Q (.bl (decide (V.int i = V.int j))) H
      rw [e]
      exact q
theorem scRw : FnScope ["_law_found", "_law_due", "_law_k"] ["_law_found", "_law_due"] (defScope sRow) := ⟨rfl, rfl, rfl, by decide +kernel, rfl, by decide +kernel, by decide +kernel⟩
theorem nRw : NOk ["_law_found", "_law_due", "_law_k"] (defScope sRow) := ⟨scRw.nd, by decide +kernel, by decide +kernel⟩
theorem gRw0 : GN (defScope sRow) "isinstance" := ⟨by decide +kernel, by decide +kernel, by decide +kernel⟩
theorem gRw1 : GN (defScope sRow) "len" := ⟨by decide +kernel, by decide +kernel, by decide +kernel⟩
theorem gRw2 : GN (defScope sRow) "range" := ⟨by decide +kernel, by decide +kernel, by decide +kernel⟩
theorem gRw3 : GN (defScope sRow) "list" := ⟨by decide +kernel, by decide +kernel, by decide +kernel⟩
theorem gRw4 : GN (defScope sRow) "_law_whole" := ⟨by decide +kernel, by decide +kernel, by decide +kernel⟩
theorem ok_row {f fW : Addr} {fd dW : FuncData} (F : Fun K "_law_row" "_law_row" sRow f fd) (T : Txt mg) (CW : Cl P w K mg base 1 "_law_whole" fW dW ["_law_found"] spWhole) : FnOk P w K mg base CX0 2 f fd ["_law_found", "_law_due"] spRow := by
  refine F.ok scRw (fun vs H Q E h => ?_) (fun cdv A outer s H vs Q E hr h => ?_)
  · obtain ⟨a, b, ks, rfl, _⟩ := h
    rfl
  obtain ⟨a, b, ks, rfl, ha, hb, hl, q⟩ := h
  refine ⟨_, pss_cons (ps_if (PW.pt (pw_or (pt_not (pt_val (pcB call_isi gRw0 T.isi boo_isi (pac (pn nRw 0) (pac (ptyN gRw3 T.list boo_list) pa_nil))))) (pw_or1 (pt_cmpR op_ne (pcB call_len_seq gRw1 T.len boo_len (pac (pn nRw 0) pa_nil)) (pcB call_len_seq gRw1 T.len boo_len (pac (pn nRw 1) pa_nil)) (nomark _))))) (pss_one (ps_ret pe_bl)) pss_nil) (
    pss_cons (ps_for PassesOwn.never rfl (pir1 gRw2 T.rng (pac (pcB call_len_seq gRw1 T.len boo_len (pac (pn nRw 1) pa_nil)) pa_nil)) (pgn nRw 2) (pss_one (ps_if (PW.pt (pw_or (pt_not (pt_val (pcD CW hr gRw4 (pac (pe_ix ix_list (pn nRw 0) (pn nRw 2) (fun _ _ => rfl)) pa_nil)))) (pw_or1 (pt_cmpR op_ne (pe_ix ix_list (pn nRw 0) (pn nRw 2) (fun _ _ => rfl)) (pe_ix ix_list (pn nRw 1) (pn nRw 2) (fun _ _ => rfl)) (nomark _))))) (pss_one (ps_ret pe_bl)) pss_nil))) (
    pss_one (ps_ret pe_bl))), ?_⟩
  refine ⟨_, rfl, _, "list", _, true, rfl, .lst ha, kit_list_list, true, rfl, ?_⟩
  refine iteF ?_
  refine ⟨_, rfl, a, _, rfl, .inl (SqL.of ha), _, rfl, b, _, rfl, .inl (SqL.of hb), rfl, _, rfl, ?_⟩
  refine iteNS rfl ?_
  refine ⟨_, rfl, b, _, rfl, .inl (SqL.of hb), ((vN ks).length : Int), rfl, by rw [vN_len]; omega, by rw [vN_len]; omega, ?_⟩
  refine for_range (fun i σ H' => H' = H ∧ ∃ v, σ = [some (.ref a), some (.ref b), v]) ⟨rfl, none, rfl⟩ ?_ ?_
  · rintro i σ H' hi ⟨rfl, v, rfl⟩
    have hi' : i < ks.length := by
      have : (((vN ks).length : Nat) : Int).toNat = ks.length := by rw [vN_len]; omega
      omega
    have ek := List.getElem?_eq_getElem hi'
    generalize ks[i] = k at ek
    have e1 : atI (vN ks) (0 + (i : Int)) = some (.int (k : Int)) := by rw [Int.zero_add]; exact vN_at ek
    refine ⟨_, rfl, _, rfl, a, _, _, _, rfl, rfl, SqL.of ha, e1, _, rfl, true, rfl, ?_⟩
    refine iteF ?_
    refine ⟨_, rfl, _, rfl, a, _, _, _, rfl, rfl, SqL.of ha, e1, _, rfl, _, rfl, b, _, _, _, rfl, rfl, SqL.of hb, e1, rfl, _, rfl, ?_⟩
    refine iteNS rfl ?_
    exact ⟨rfl, _, rfl⟩
  · rintro σ H' ⟨rfl, v, rfl⟩
    exact q
end
end K08

set_option linter.all false
set_option maxRecDepth 100000
set_option maxHeartbeats 4000000
namespace K08
open PySem L2 LS
seal L2.PE L2.PT L2.PW L2.PA L2.PS L2.PSs L2.PG L2.PI L2.PO L2.OpR L2.UnR L2.CallR L2.IxR L2.SlR L2.TruR
section
variable {P : Program} {w : World} {K : PySem.W.Frag} {mg : Str → Option Value} {base : Heap}
theorem scLa : FnScope ["_law_script", "_law_size", "_law_asked", "_law_handed", "_law_found", "_law_sheet", "_law_numbers", "_law_k", "_law_place", "_law_behind", "_law_due", "_law_j"] ["_law_script"] (defScope sLaw) := ⟨rfl, rfl, rfl, by decide +kernel, rfl, by decide +kernel, by decide +kernel⟩
theorem nLa : NOk ["_law_script", "_law_size", "_law_asked", "_law_handed", "_law_found", "_law_sheet", "_law_numbers", "_law_k", "_law_place", "_law_behind", "_law_due", "_law_j"] (defScope sLaw) := ⟨scLa.nd, by decide +kernel, by decide +kernel⟩
theorem gLa0 : GN (defScope sLaw) "_law_upto" := ⟨by decide +kernel, by decide +kernel, by decide +kernel⟩
theorem gLa1 : GN (defScope sLaw) "_law_at" := ⟨by decide +kernel, by decide +kernel, by decide +kernel⟩
theorem gLa2 : GN (defScope sLaw) "list" := ⟨by decide +kernel, by decide +kernel, by decide +kernel⟩
theorem gLa3 : GN (defScope sLaw) "_law_deeds" := ⟨by decide +kernel, by decide +kernel, by decide +kernel⟩
theorem gLa4 : GN (defScope sLaw) "_law_rounds" := ⟨by decide +kernel, by decide +kernel, by decide +kernel⟩
theorem gLa5 : GN (defScope sLaw) "answers" := ⟨by decide +kernel, by decide +kernel, by decide +kernel⟩
theorem gLa6 : GN (defScope sLaw) "len" := ⟨by decide +kernel, by decide +kernel, by decide +kernel⟩
theorem gLa7 : GN (defScope sLaw) "isinstance" := ⟨by decide +kernel, by decide +kernel, by decide +kernel⟩
theorem gLa8 : GN (defScope sLaw) "range" := ⟨by decide +kernel, by decide +kernel, by decide +kernel⟩
theorem gLa9 : GN (defScope sLaw) "_law_alike" := ⟨by decide +kernel, by decide +kernel, by decide +kernel⟩
theorem gLa10 : GN (defScope sLaw) "str" := ⟨by decide +kernel, by decide +kernel, by decide +kernel⟩
theorem gLa11 : GN (defScope sLaw) "_law_same" := ⟨by decide +kernel, by decide +kernel, by decide +kernel⟩
theorem gLa12 : GN (defScope sLaw) "_law_row" := ⟨by decide +kernel, by decide +kernel, by decide +kernel⟩
theorem wd_pk : ¬ (("put" : Str) = "look") := by decide +kernel
theorem ok_law {f fA fU fDe fAs fSa fRo fAl fRw : Addr} {fd dA dU dDe dAs dSa dRo dAl dRw : FuncData} {Z : Hp → Prop} (hZ : ∀ H H', Same H H' → Z H → Z H') (F : Fun K "law" "law" sLaw f fd) (T : Txt mg)
    (CA : Cl P w K mg base 1 "_law_at" fA dA ["_law_script", "_law_k"] (spAt K)) (CUp : Cl P w K mg base 1 "_law_upto" fU dU ["_law_script", "_law_small", "_law_great"] (spUpto K)) (CDe : Cl P w K mg base 3 "_law_deeds" fDe dDe ["_law_cells", "_law_size"] (spDeeds K))
    (CAs : Cl P w K mg base 8 "answers" fAs dAs ["size", "deeds"] (spAnswers Z)) (CSa : Cl P w K mg base 2 "_law_same" fSa dSa ["_law_handed", "_law_asked"] (spSame K)) (CRo : Cl P w K mg base 3 "_law_rounds" fRo dRo ["_law_sheet"] (spRounds K))
    (CAl : Cl P w K mg base 2 "_law_alike" fAl dAl ["_law_one", "_law_other"] spAlikeB) (CRw : Cl P w K mg base 2 "_law_row" fRw dRw ["_law_found", "_law_due"] spRow) : FnOk P w K mg base CX0 9 f fd ["_law_script"] (spLawZ K Z) := by
  refine F.ok scLa (fun vs H Q E h => ?_) (fun cdv A outer s H vs Q E hr h => ?_)
  · obtain ⟨a, ns, rfl, _⟩ := h
    rfl
  obtain ⟨a, ns, rfl, hS, h63, z0, q⟩ := h
  refine ⟨_, pss_cut (psn nLa 0 (pe_slice sl_list (pn nLa 0) po_none (po_some pe_int))) (
    pss_cut (psn nLa 1 (pe_op op_mod (pcD CA (hr.mono (by decide)) gLa1 (pac (pn nLa 0) (pac pe_int pa_nil))) (pcD CUp (hr.mono (by decide)) gLa0 (pac (pn nLa 0) (pac pe_int (pac pe_int pa_nil)))))) (
    pss_cons (psn nLa 2 (pcD CDe (hr.mono (by decide)) gLa3 (pac (pe_slice sl_list (pn nLa 0) (po_some pe_int) po_none) (pac (pn nLa 1) pa_nil)))) (
    pss_cons (psn nLa 3 (pcT call_list_of gLa2 T.list boo_list (pac (pn nLa 2) pa_nil))) (
    pss_cons (psn nLa 4 (pcD CAs hr gLa5 (pac (pn nLa 1) (pac (pn nLa 3) pa_nil)))) (
    pss_cons (ps_if (pt_not (pt_val (pcD CSa (hr.mono (by decide)) gLa11 (pac (pn nLa 3) (pac (pn nLa 2) pa_nil))))) (pss_one (ps_ret pe_bl)) pss_nil) (
    pss_cons (ps_if (PW.pt (pw_or (pt_not (pt_val (pcB call_isi gLa7 T.isi boo_isi (pac (pn nLa 4) (pac (ptyN gLa2 T.list boo_list) pa_nil))))) (pw_or1 (pt_cmpR op_ne (pcB call_len_seq gLa6 T.len boo_len (pac (pn nLa 4) pa_nil)) (pcB call_len_seq gLa6 T.len boo_len (pac (pn nLa 2) pa_nil)) (nomark _))))) (pss_one (ps_ret pe_bl)) pss_nil) (
    pss_cons (psn nLa 5 (pe_op op_rep (pe_lst (pac (pe_tup (pac pe_str (pac pe_int pa_nil))) pa_nil)) (pn nLa 1))) (
    pss_cut (psn nLa 6 (pe_op op_rep (pe_lst (pac pe_int pa_nil)) (pn nLa 1))) (
    pss_cons (ps_for PassesOwn.never rfl (pir1 gLa8 T.rng (pac (pcB call_len_seq gLa6 T.len boo_len (pac (pn nLa 2) pa_nil)) pa_nil)) (pgn nLa 7) (pss_cons (psn nLa 8 (pe_ix ix_tup (pe_ix ix_list (pn nLa 2) (pn nLa 7) (fun _ _ => rfl)) pe_int (fun _ _ => rfl))) (
    pss_one (ps_if (PW.pt (pw_or (pt_cmpR op_lt (pn nLa 8) pe_int (nomark _)) (pw_or1 (pt_cmpR op_ge (pn nLa 8) (pn nLa 1) (nomark _))))) (pss_one (ps_if (PW.pt (pw_or (pt_not (pt_val (pcB call_isi gLa7 T.isi boo_isi (pac (pe_ix ix_list (pn nLa 4) (pn nLa 7) (fun _ _ => rfl)) (pac (ptyN gLa10 T.str boo_str) pa_nil))))) (pw_or1 (pt_cmpR op_ne (pe_ix ix_list (pn nLa 4) (pn nLa 7) (fun _ _ => rfl)) pe_str (nomark _))))) (pss_one (ps_ret pe_bl)) pss_nil)) (pss_one (ps_if (pt_cmpR op_eq (pe_ix ix_tup (pe_ix ix_list (pn nLa 2) (pn nLa 7) (fun _ _ => rfl)) pe_int (fun _ _ => rfl)) pe_str (nomark _)) (pss_one (ps_if (pt_not (pt_val (pcD CAl (hr.mono (by decide)) gLa9 (pac (pe_ix ix_list (pn nLa 4) (pn nLa 7) (fun _ _ => rfl)) (pac (pe_ix ix_list (pn nLa 6) (pn nLa 8) (fun _ _ => rfl)) pa_nil))))) (pss_one (ps_ret pe_bl)) pss_nil)) (pss_cons (ps_asg (pe_ix ix_tup (pe_ix ix_list (pn nLa 2) (pn nLa 7) (fun _ _ => rfl)) pe_int (fun _ _ => rfl)) (pg_sub (pn nLa 5) (pn nLa 8) set_list)) (
    pss_cons (psn nLa 9 (pcD CRo (hr.mono (by decide)) gLa4 (pac (pn nLa 5) pa_nil))) (
    pss_cons (psn nLa 10 (pe_lst pa_nil)) (
    pss_cons (ps_for PassesOwn.never rfl (pir1 gLa8 T.rng (pac (pn nLa 1) pa_nil)) (pgn nLa 11) (pss_one (ps_if (pt_not (pt_val (pcD CAl (hr.mono (by decide)) gLa9 (pac (pe_ix ix_list (pn nLa 9) (pn nLa 11) (fun _ _ => rfl)) (pac (pe_ix ix_list (pn nLa 6) (pn nLa 11) (fun _ _ => rfl)) pa_nil))))) (pss_one (ps_expr (pl_append (pn nLa 10) (pn nLa 11)))) pss_nil))) (
    pss_cons (psn nLa 6 (pn nLa 9)) (
    pss_one (ps_if (pt_not (pt_val (pcD CRw (hr.mono (by decide)) gLa12 (pac (pe_ix ix_list (pn nLa 4) (pn nLa 7) (fun _ _ => rfl)) (pac (pn nLa 10) pa_nil))))) (pss_one (ps_ret pe_bl)) pss_nil))))))))))))) (
    pss_one (ps_ret pe_bl))))))))))), ?_⟩
  refine ⟨fun σ H' => ∃ a1, σ = [some (.ref a1), none, none, none, none, none, none, none, none, none, none, none] ∧ SqL K H' a1 (ns.map V.int) ∧ Z H', ?_, ?_⟩
  · refine ⟨_, rfl, 100, rfl, a, _, rfl, hS, fun p hp => ⟨p, rfl, SqL.of ?_, hZ _ _ (Same.upd_new hp _) z0⟩⟩
    rw [upd_same, show (100 : Int) = ((100 : Nat) : Int) from rfl, cut_to, List.take_of_length_le (by rw [List.length_map]; omega)]
  rintro σ1 H1 ⟨a1, rfl, S1, z1⟩
  refine ⟨fun σ H' => H' = H1 ∧ ∃ n : Nat, σ = [some (.ref a1), some (.int (n : Int)), none, none, none, none, none, none, none, none, none, none] ∧ n ≤ 100, ?_, ?_⟩
  · refine ⟨_, rfl, a1, ns, 0, rfl, S1, by decide, _, rfl, a1, ns, 5, 100, rfl, S1, h63, _, _, rfl, rfl, (show (0 : Int) < 5 by decide), rfl, (ns.getD (0 : Int).toNat 0 % 5).toNat, ?_, by omega⟩
    rw [show (((ns.getD (0 : Int).toNat 0 % 5).toNat : Nat) : Int) = ns.getD (0 : Int).toNat 0 % 5 by omega]; rfl
  rintro σ2 _ ⟨rfl, n, rfl, hn⟩
  refine ⟨_, rfl, 1, rfl, a1, _, rfl, S1, fun c hc => ?_⟩
  have ct : cutV (ns.map V.int) (some 1) none = (ns.drop 1).map V.int := by
    rw [show (1 : Int) = ((1 : Nat) : Int) from rfl, cut_from, List.map_drop]
  rw [ct]
  refine ⟨_, rfl, c, ns.drop 1, n, rfl, SqL.of upd_same, by rw [List.length_drop]; omega, fun A0 rs ds H2 sm2 hA2 len dd2 => ?_⟩
  have dl : ds.length ≤ 100 := by rw [len, List.length_drop]; omega
  have z2 := hZ _ _ ((Same.upd_new hc _).trans sm2) z1
  refine ⟨_, rfl, A0, _, rfl, .inl (SqL.of hA2), fun hd hhd => ?_⟩
  have sm3 := Same.upd_new hhd (.lst (rs.map V.ref))
  have hd3 : upd H2 hd (.lst (rs.map V.ref)) hd = some (.lst (rs.map V.ref)) := upd_same
  have hA3 := sm3 _ _ hA2
  have z3 := hZ _ _ sm3 z2
  have dd3 := dd2.keep (Keep.of sm3)
  generalize upd H2 hd (.lst (rs.map V.ref)) = H3 at sm3 hd3 hA3 z3 dd3 ⊢
  refine ⟨_, rfl, _, rfl, n, hd, rs, ds, rfl, hd3, dd3, hn, dl, z3, fun fo xs H5 k5 hfo xl ans => ?_⟩
  have hA5 := k5 _ _ hA3 (fun _ z => by cases z)
  have hd5 := k5 _ _ hd3 (fun _ z => by cases z)
  have dd5 := dd3.keep k5
  refine ⟨_, rfl, _, rfl, hd, A0, rs, ds, rfl, SqL.of hd5, SqL.of hA5, dd5, dl, true, rfl, ?_⟩
  refine iteF ?_
  refine ⟨_, rfl, _, "list", _, true, rfl, .lst hfo, kit_list_list, true, rfl, ?_⟩
  refine iteF ?_
  have rl : (rs.map V.ref).length = ds.length := by rw [List.length_map, dd5.1]
  refine ⟨_, rfl, fo, _, rfl, .inl (SqL.of hfo), _, rfl, A0, _, rfl, .inl (SqL.of hA5), rfl, _, rfl, ?_⟩
  refine iteNS (congrArg V.int (by rw [rl, xl])) ?_
  -- the sheet and the numbers that are kept here
  refine ⟨small_line (by simp), fun tp htp => ⟨small_line (by simp), fun l0 hl0 => ?_⟩⟩
  have t1 := Same.upd_new htp (.tup [V.str "number", V.int 0])
  have htp1 : upd H5 tp (.tup [V.str "number", V.int 0]) tp = some (.tup (Fm.num 0).v) := upd_same
  generalize upd H5 tp (.tup [V.str "number", V.int 0]) = H6 at t1 htp1 hl0 ⊢
  have t2 := Same.upd_new hl0 (.lst [V.ref tp])
  refine ⟨_, rfl, l0, _, _, rfl, rfl, upd_same, by omega, by omega, ?_, fun sh hsh => ?_⟩
  · rw [Int.toNat_natCast, List.length_singleton, Nat.one_mul]; exact Nat.le_trans hn (by decide)
  have er : (List.replicate (n : Int).toNat [V.ref tp]).flatten = (List.replicate n tp).map V.ref := by rw [Int.toNat_natCast]; simp
  rw [er]
  have t3 := Same.upd_new hsh (.lst ((List.replicate n tp).map V.ref))
  have s36 := t1.trans (t2.trans t3)
  have nsh : H5 sh = none := (t1.trans t2).free hsh
  have hsh7 : upd (upd H6 l0 (.lst [V.ref tp])) sh (.lst ((List.replicate n tp).map V.ref)) sh = some (.lst ((List.replicate n tp).map V.ref)) := upd_same
  have htp7 := (t2.trans t3) _ _ htp1
  generalize upd (upd H6 l0 (.lst [V.ref tp])) sh (.lst ((List.replicate n tp).map V.ref)) = H7 at t3 s36 hsh7 htp7 ⊢
  refine ⟨fun σ H' => ∃ (rs' : List Addr) (os : List (Option Int)) (nb : Addr) (u1 u2 u3 u4 u5 : Option V), σ = [some (.ref a1), some (.int (n : Int)), some (.ref A0), some (.ref hd), some (.ref fo), some (.ref sh), some (.ref nb), u1, u2, u3, u4, u5] ∧ Keep H5 H' ∧ H' sh = some (.lst (rs'.map V.ref)) ∧ Sh H' rs' (sheetAt n ds 0) ∧ H' nb = some (.lst (os.map optV)) ∧ IsRes (sheetAt n ds 0) os, ?_, ?_⟩
  · refine ⟨small_line (by simp), fun l1 hl1 => ?_⟩
    have t4 := Same.upd_new hl1 (.lst [V.int 0])
    refine ⟨_, rfl, l1, _, _, rfl, rfl, upd_same, by omega, by omega, ?_, fun nb hnb => ?_⟩
    · rw [Int.toNat_natCast, List.length_singleton, Nat.one_mul]; exact Nat.le_trans hn (by decide)
    have er2 : (List.replicate (n : Int).toNat [V.int 0]).flatten = (List.replicate n (some (0 : Int))).map optV := by rw [Int.toNat_natCast]; simp [optV]
    rw [er2]
    have t5 := t4.trans (Same.upd_new hnb (.lst ((List.replicate n (some (0 : Int))).map optV)))
    refine ⟨List.replicate n tp, List.replicate n (some 0), nb, none, none, none, none, none, rfl, Keep.of (s36.trans t5), t5 _ _ hsh7, ⟨by simp [sheetAt_zero], fun i r φ h1 h2 => ?_⟩, upd_same, res_nought n⟩
    rw [sheetAt_zero] at h2
    have e1 : r = tp := List.eq_of_mem_replicate (List.mem_of_getElem? h1)
    have e2 : φ = .num 0 := List.eq_of_mem_replicate (List.mem_of_getElem? h2)
    rw [e1, e2]
    exact t5 _ _ htp7
  rintro σ8 H8 inv8
  have hA8 : H8 A0 = some (.lst (rs.map V.ref)) := by
    obtain ⟨_, _, _, _, _, _, _, _, _, kp, _⟩ := inv8
    exact kp _ _ hA5 (fun _ z => by cases z)
  have σ8e : σ8[2]? = some (some (.ref A0)) := by
    obtain ⟨_, _, _, _, _, _, _, _, e, _⟩ := inv8
    rw [e]; rfl
  refine ⟨_, σ8e, A0, _, rfl, .inl (SqL.of hA8), ((rs.map V.ref).length : Int), rfl, by omega, by omega, ?_⟩
  refine for_range (fun i σ H' => ∃ (rs' : List Addr) (os : List (Option Int)) (nb : Addr) (u1 u2 u3 u4 u5 : Option V), σ = [some (.ref a1), some (.int (n : Int)), some (.ref A0), some (.ref hd), some (.ref fo), some (.ref sh), some (.ref nb), u1, u2, u3, u4, u5] ∧ Keep H5 H' ∧ H' sh = some (.lst (rs'.map V.ref)) ∧ Sh H' rs' (sheetAt n ds i) ∧ H' nb = some (.lst (os.map optV)) ∧ IsRes (sheetAt n ds i) os) inv8 ?_ ?_
  · rintro i σ H' hi ⟨rs', os, nb, u1, u2, u3, u4, u5, rfl, kp, hsh, sh', hnb, res⟩
    have hid : i < ds.length := by omega
    have ed : ds[i]? = some ds[i] := List.getElem?_eq_getElem hid
    obtain ⟨r, hrr, eA', _⟩ := dd5.nth hid
    have dr := (dd5.keep kp).2 i r _ hrr ed
    generalize ds[i] = d at ed dr
    have hix : i < xs.length := by omega
    have exx : xs[i]? = some xs[i] := List.getElem?_eq_getElem hix
    have an := ans i d _ ed exx
    generalize xs[i] = x at exx an
    have ef : atI xs (0 + (i : Int)) = some x := by rw [Int.zero_add]; exact atI_nat exx
    have eA : atI (rs.map V.ref) (0 + (i : Int)) = some (.ref r) := by rw [Int.zero_add]; exact eA'
    have hA := kp _ _ hA5 (fun _ z => by cases z)
    have hf := kp _ _ hfo (fun _ z => by cases z)
    obtain ⟨wd, ys, hr1⟩ := dr.tupP
    refine ⟨_, rfl, _, rfl, A0, _, _, _, rfl, rfl, SqL.of hA, eA, r, _, 1, _, rfl, rfl, SqT.of hr1, atI_nat (j := 1) rfl, ?_⟩
    refine ⟨_, rfl, _, _, rfl, rfl, _, rfl, ?_⟩
    refine ite2 (fun c => ?_) (fun c => ?_)
    · refine iteT ?_
      · have of : offB (sheetAt n ds i).length d.place = true := by
          unfold offB; rw [sheetAt_len, decide_eq_true_eq]; exact .inl (of_decide_eq_true c)
        have ex : x = .str "no cell" := by
          cases d with
          | look p => rw [ans_look, if_pos (show offB (sheetAt n ds i).length p = true from of)] at an; exact an
          | put p φ => rw [ans_put, if_pos (show offB (sheetAt n ds i).length p = true from of)] at an; exact an
        have es : stepD (sheetAt n ds i) d = sheetAt n ds i := by
          cases d with
          | look p => rfl
          | put p φ => rw [step_put, if_pos (show offB (sheetAt n ds i).length p = true from of)]
        subst ex
        refine ⟨_, rfl, _, rfl, fo, _, _, _, rfl, rfl, SqL.of hf, ef, _, "str", _, true, rfl, .str _, kit_str_str, true, rfl, ?_⟩
        refine iteF ?_
        refine ⟨_, rfl, _, rfl, fo, _, _, _, rfl, rfl, SqL.of hf, ef, rfl, _, rfl, ?_⟩
        refine iteNS rfl ?_
        exact ⟨rs', os, nb, _, _, _, _, _, rfl, kp, hsh, by rw [sheetAt_succ ed, es]; exact sh', hnb, by rw [sheetAt_succ ed, es]; exact res⟩

    · have c1 : ¬ d.place < 0 := of_decide_eq_false (Bool.eq_false_iff.mpr c)
      refine ⟨_, rfl, _, rfl, _, _, rfl, rfl, _, rfl, ?_⟩
      refine ite2 (fun e => ?_) (fun e => ?_)
      · have of : offB (sheetAt n ds i).length d.place = true := by
          unfold offB; rw [sheetAt_len, decide_eq_true_eq]; exact .inr (of_decide_eq_true e)
        have ex : x = .str "no cell" := by
          cases d with
          | look p => rw [ans_look, if_pos (show offB (sheetAt n ds i).length p = true from of)] at an; exact an
          | put p φ => rw [ans_put, if_pos (show offB (sheetAt n ds i).length p = true from of)] at an; exact an
        have es : stepD (sheetAt n ds i) d = sheetAt n ds i := by
          cases d with
          | look p => rfl
          | put p φ => rw [step_put, if_pos (show offB (sheetAt n ds i).length p = true from of)]
        subst ex
        refine ⟨_, rfl, _, rfl, fo, _, _, _, rfl, rfl, SqL.of hf, ef, _, "str", _, true, rfl, .str _, kit_str_str, true, rfl, ?_⟩
        refine iteF ?_
        refine ⟨_, rfl, _, rfl, fo, _, _, _, rfl, rfl, SqL.of hf, ef, rfl, _, rfl, ?_⟩
        refine iteNS rfl ?_
        exact ⟨rs', os, nb, _, _, _, _, _, rfl, kp, hsh, by rw [sheetAt_succ ed, es]; exact sh', hnb, by rw [sheetAt_succ ed, es]; exact res⟩

      have c2 : ¬ (n : Int) ≤ d.place := of_decide_eq_false (Bool.eq_false_iff.mpr e)
      have on : ¬ offB (sheetAt n ds i).length d.place = true := by unfold offB; rw [sheetAt_len, decide_eq_true_eq]; omega
      have osl : os.length = n := by rw [res.len, sheetAt_len]
      cases d with
      | look p =>
        have c1' : ¬ p < 0 := c1
        have c2' : ¬ (n : Int) ≤ p := c2
        have hr2 : H' r = some (.tup [.str "look", .int p]) := dr
        rw [hr1] at hr2
        have ew : wd = "look" := by injection hr2 with e; injection e with e; injection e with e _; exact V.str.inj e
        rw [ans_look, if_neg (show ¬ offB (sheetAt n ds i).length p = true from on)] at an
        obtain ⟨os0, r0, rfl⟩ := an
        obtain rfl := r0.uniq res
        refine ⟨_, rfl, _, rfl, A0, _, _, _, rfl, rfl, SqL.of hA, eA, r, _, 0, _, rfl, rfl, SqT.of hr1, atI_nat (j := 0) rfl, rfl, _, rfl, ?_⟩
        rw [ew]
        refine ifE ?_
        refine ⟨_, rfl, _, rfl, fo, _, _, _, rfl, rfl, SqL.of hf, ef, _, rfl, _, rfl, nb, _, _, _, rfl, rfl, SqL.of hnb, atI_opt (os := os0) (k := p) (by omega) (by omega), _, _, rfl, ?_⟩
        rw [decide_eq_true rfl]
        refine ⟨true, rfl, ?_⟩
        refine iteF ?_
        exact ⟨rs', os0, nb, _, _, _, _, _, rfl, kp, hsh, by rw [sheetAt_succ ed]; exact sh', hnb, by rw [sheetAt_succ ed]; exact res⟩
      | put p φ =>
        have c1' : ¬ p < 0 := c1
        have c2' : ¬ (n : Int) ≤ p := c2
        obtain ⟨t, dr1, dr2⟩ := dr
        have hrt := hr1.symm.trans dr1
        have ew : wd = "put" := by injection hrt with e; injection e with e; injection e with e _; exact V.str.inj e
        have ey : ys = [.ref t] := by injection hrt with e; injection e with e; injection e with _ e; injection e with _ e
        rw [ans_put, if_neg (show ¬ offB (sheetAt n ds i).length p = true from on)] at an
        obtain ⟨os0, us, m, r0, r1, rfl, _, hm⟩ := an
        obtain rfl := r0.uniq res
        refine ⟨_, rfl, _, rfl, A0, _, _, _, rfl, rfl, SqL.of hA, eA, r, _, 0, _, rfl, rfl, SqT.of hr1, atI_nat (j := 0) rfl, rfl, _, rfl, ?_⟩
        rw [ew]
        refine ifS wd_pk ?_
        rw [ey] at hr1
        have hp : p.toNat < n := by omega
        have rl' : rs'.length = n := by rw [sh'.1, sheetAt_len]
        have nbs : nb ≠ sh := fun z => by
          rw [z, hsh] at hnb
          have e := HO.lst.inj (Option.some.inj hnb)
          cases rs' with
          | nil => simp at rl'; omega
          | cons x1 r1' =>
            cases os0 with
            | nil => simp at osl; omega
            | cons y1 s1' =>
              injection e with e1 _
              cases y1 <;> cases e1
        refine ⟨_, rfl, _, rfl, A0, _, _, _, rfl, rfl, SqL.of hA, eA, r, _, 2, _, rfl, rfl, SqT.of hr1, atI_nat (j := 2) rfl, _, rfl, _, rfl, sh, _, _, p.toNat, rfl, rfl, hsh, ?_, ?_⟩
        · show ixN (rs'.map V.ref).length p = some p.toNat
          unfold ixN
          rw [if_pos (by omega), if_pos (by rw [List.length_map]; omega)]
        rw [← List.map_set]
        have hk : ∀ b o, H5 b = some o → (∀ ps, o ≠ .tbl ps) → upd H' sh (.lst ((rs'.set p.toNat t).map V.ref)) b = some o := fun b o hb no => by
          rw [upd_ne (fun z => by rw [z, nsh] at hb; cases hb)]; exact kp _ _ hb no
        have hsh2 : upd H' sh (.lst ((rs'.set p.toNat t).map V.ref)) sh = some (.lst ((rs'.set p.toNat t).map V.ref)) := upd_same
        have hnb2 : upd H' sh (.lst ((rs'.set p.toNat t).map V.ref)) nb = some (.lst (os0.map optV)) := by rw [upd_ne nbs]; exact hnb
        have tu : ∀ b xs, H' b = some (.tup xs) → upd H' sh (.lst ((rs'.set p.toNat t).map V.ref)) b = some (.tup xs) := fun b xs e => by rw [upd_ne (fun z => by rw [z, hsh] at e; cases e)]; exact e
        have sh2 := sh'.set (j := p.toNat) (r := t) (φ := φ) tu (tu _ _ dr2)
        generalize upd H' sh (.lst ((rs'.set p.toNat t).map V.ref)) = H9 at hk hsh2 hnb2 tu sh2 ⊢
        refine ⟨_, rfl, sh, rs'.set p.toNat t, (sheetAt n ds i).set p.toNat φ, rfl, SqL.of hsh2, sh2, by rw [List.length_set, sheetAt_len]; exact hn, fun l us' H10 s10 hl10 res10 => ?_⟩
        obtain rfl := r1.uniq res10
        have usl : us.length = n := by rw [res10.len, List.length_set, sheetAt_len]
        refine ⟨small_line (by simp), fun g hg => ?_⟩
        have s11 := Same.upd_new hg (.lst [])
        have hg11 : upd H10 g (.lst []) g = some (.lst []) := upd_same
        have ng : H10 g = none := hg
        refine ⟨_, rfl, (n : Int), rfl, by omega, by omega, ?_⟩
        refine for_range (fun j σ H'' => ∃ u5 : Option V, σ = [some (.ref a1), some (.int (n : Int)), some (.ref A0), some (.ref hd), some (.ref fo), some (.ref sh), some (.ref nb), some (.int (0 + (i : Int))), some (.int p), some (.ref l), some (.ref g), u5] ∧ Same H10 H'' ∧ H'' g = some (.lst (vN ((List.range j).filter fun q => !decide (us.getD q none = os0.getD q none))))) ⟨u5, rfl, s11, hg11⟩ ?_ ?_
        · rintro j σ H'' hj ⟨u5', rfl, s'', hg''⟩
          have hj' : j < n := by omega
          have e1 : atI (us.map optV) (0 + (j : Int)) = some (optV (us.getD j none)) := by
            rw [Int.zero_add]; exact atI_opt (os := us) (k := (j : Int)) (by omega) (by omega)
          have e0 : atI (os0.map optV) (0 + (j : Int)) = some (optV (os0.getD j none)) := by
            rw [Int.zero_add]; exact atI_opt (os := os0) (k := (j : Int)) (by omega) (by omega)
          refine ⟨_, rfl, _, rfl, l, _, _, _, rfl, rfl, SqL.of (s'' _ _ hl10), e1, _, rfl, _, rfl, nb, _, _, _, rfl, rfl, SqL.of (s'' _ _ (s10 _ _ hnb2)), e0, us.getD j none, os0.getD j none, rfl, _, rfl, ?_⟩
          have tk : (List.range (j + 1)).filter (fun q => !decide (us.getD q none = os0.getD q none)) = (List.range j).filter (fun q => !decide (us.getD q none = os0.getD q none)) ++ (if (!decide (us.getD j none = os0.getD j none)) = true then [j] else []) := by
            rw [List.range_succ, List.filter_append, filter_one]
          refine ite2 (fun d => ?_) (fun d => ?_)
          · rw [if_pos d] at tk
            refine ⟨_, rfl, .inl ⟨rfl, _, SqL.of hg''⟩, _, rfl, g, _, _, rfl, rfl, hg'', ?_, ?_⟩
            · rw [vN_len]
              have := List.length_filter_le (fun q => !decide (us.getD q none = os0.getD q none)) (List.range j)
              rw [List.length_range] at this
              exact Nat.lt_of_le_of_lt (show _ ≤ 100 by omega) (by decide)
            rw [Int.zero_add (j : Int), vN_snoc, ← tk]
            exact ⟨_, rfl, fun b o hb => by rw [upd_ne (fun z => by rw [z, ng] at hb; cases hb)]; exact s'' _ _ hb, upd_same⟩
          · rw [if_neg d, List.append_nil] at tk
            rw [← tk] at hg''
            exact ⟨_, rfl, s'', hg''⟩
        rintro σ H'' ⟨u5', rfl, s'', hg''⟩
        rw [Int.toNat_natCast] at hg''
        have hm'' := s'' _ _ (s10 _ _ (hk _ _ hm (fun _ z => by cases z)))
        have hf'' := s'' _ _ (s10 _ _ (hk _ _ hfo (fun _ z => by cases z)))
        have emv : moved os0 us = (List.range n).filter fun q => !decide (us.getD q none = os0.getD q none) := by unfold moved; rw [usl]
        rw [emv] at hm''
        refine ⟨_, rfl, _, rfl, _, rfl, fo, _, _, _, rfl, rfl, SqL.of hf'', ef, _, rfl, m, g, _, rfl, hm'', hg'', ?_, true, rfl, ?_⟩
        · have := List.length_filter_le (fun q => !decide (us.getD q none = os0.getD q none)) (List.range n)
          rw [List.length_range] at this
          omega
        refine iteF ?_
        have es : sheetAt n ds (i + 1) = (sheetAt n ds i).set p.toNat φ := by rw [sheetAt_succ ed, step_put, if_neg (show ¬ offB (sheetAt n ds i).length p = true from on)]
        exact ⟨rs'.set p.toNat t, us, l, _, _, _, _, _, rfl, fun b o hb no => s'' _ _ (s10 _ _ (hk _ _ hb no)), s'' _ _ (s10 _ _ hsh2), by rw [es]; exact (sh2.same s10).same s'', s'' _ _ hl10, by rw [es]; exact res10⟩
  · rintro σ H' _
    exact q H'
end
end K08

set_option linter.all false
set_option maxRecDepth 100000
set_option maxHeartbeats 4000000
namespace K08
open PySem L2 LS
theorem all_mk {l : PySem.W.OpenLaw} {w : World} {K : PySem.W.Frag} {h : Heap} {mg : Str → Option Value} {q : Program} {lo : List Str} {mean : ExcName → Option Value} {mb : Str → Option Value} {g1 g2 P1 P2 : Addr} {o1 o2 : Obj} {fa f1 f2 f3 f4 f5 f6 f7 f8 f9 f10 f11 f12 f13 f14 f15 f16 f17 f18 f19 f20 f21 f22 f23 f24 f25 f26 f27 f28 CN : Addr} (X : K.In h) (G : PyProof.Rows.Top q lo mean mg mb h) (hfa : mg "law" = some (.ref fa))
    (T1 : PySem.W.CodeHd h g1 P1 ∧ h.get? P1 = some (PySem.W.tabObj #[])) (T2 : PySem.W.CodeHd h g2 P2 ∧ h.get? P2 = some (PySem.W.tabObj #[])) (hne : P2 ≠ P1)
    (y1 : K.lookup g1 = some o1) (y2 : K.lookup g2 = some o2)
    {od1 an1 od2 an2 od3 an3 od4 an4 od5 an5 od6 an6 od7 an7 od8 an8 od9 an9 od10 an10 od11 an11 od12 an12 od13 an13 od14 an14 od15 an15 od16 an16 od17 an17 od18 an18 od19 an19 od20 an20 od21 an21 od22 an22 od23 an23 od24 an24 od25 an25 od26 an26 od27 an27 od28 an28 : Option Addr} {sl1 sl2 sl3 sl4 sl5 sl6 sl7 sl8 sl9 sl10 sl11 sl12 sl13 sl14 sl15 sl16 sl17 sl18 sl19 sl20 sl21 sl22 sl23 sl24 sl25 sl26 sl27 sl28 : Array (Option Value)} {oc1 kV1 dc1 pm1 ct1 cd1 oc2 kV2 dc2 pm2 ct2 cd2 oc3 kV3 dc3 pm3 ct3 cd3 oc4 kV4 dc4 pm4 ct4 oc5 kV5 dc5 pm5 ct5 oc6 kV6 dc6 pm6 ct6 cd6 oc7 kV7 dc7 pm7 ct7 cd7 oc8 kV8 dc8 pm8 ct8 cd8 oc9 kV9 dc9 pm9 ct9 cd9 oc10 kV10 dc10 pm10 ct10 cd10 oc11 kV11 dc11 pm11 ct11 cd11 oc12 kV12 dc12 pm12 ct12 cd12 oc13 kV13 dc13 pm13 ct13 cd13 oc14 kV14 dc14 pm14 ct14 cd14 oc15 kV15 dc15 pm15 ct15 cd15 oc16 kV16 dc16 pm16 ct16 cd16 oc17 kV17 dc17 pm17 ct17 cd17 oc18 kV18 dc18 pm18 ct18 cd18 oc19 kV19 dc19 pm19 ct19 cd19 oc20 kV20 dc20 pm20 ct20 cd20 oc21 kV21 dc21 pm21 ct21 cd21 oc22 kV22 dc22 pm22 ct22 cd22 oc23 kV23 dc23 pm23 ct23 cd23 oc24 kV24 dc24 pm24 ct24 cd24 oc25 kV25 dc25 pm25 ct25 cd25 oc26 kV26 dc26 pm26 ct26 cd26 oc27 kV27 dc27 pm27 ct27 cd27 oc28 kV28 dc28 pm28 ct28 cd28 : Value}
    (a1 : PySem.W.nsIn K mainGlobals "off" = some (some (.ref f1))) (l1 : K.lookup f1 = some ⟨oc1, od1, .func (PySem.W.fnOf "off" "off" (defArgs sOff) (defBody sOff) (defScope sOff) .none kV1 dc1 pm1 an1 cd1 ct1), sl1⟩) (c1 : PySem.W.codeIn K cd1 "off" = true) (k1 : PySem.W.keepIn K (.ref f1) = true)
    (a2 : PySem.W.nsIn K mainGlobals "require_cell" = some (some (.ref f2))) (l2 : K.lookup f2 = some ⟨oc2, od2, .func (PySem.W.fnOf "require_cell" "require_cell" (defArgs sRequireCell) (defBody sRequireCell) (defScope sRequireCell) .none kV2 dc2 pm2 an2 cd2 ct2), sl2⟩) (c2 : PySem.W.codeIn K cd2 "require_cell" = true) (k2 : PySem.W.keepIn K (.ref f2) = true)
    (a3 : PySem.W.nsIn K mainGlobals "leans" = some (some (.ref f3))) (l3 : K.lookup f3 = some ⟨oc3, od3, .func (PySem.W.fnOf "leans" "leans" (defArgs sLeans) (defBody sLeans) (defScope sLeans) .none kV3 dc3 pm3 an3 cd3 ct3), sl3⟩) (c3 : PySem.W.codeIn K cd3 "leans" = true) (k3 : PySem.W.keepIn K (.ref f3) = true)
    (a4 : PySem.W.nsIn K mainGlobals "looker" = some (some (.ref f4))) (l4 : K.lookup f4 = some ⟨oc4, od4, .func (PySem.W.fnOf "looker" "looker" (defArgs sLooker) (defBody sLooker) (defScope sLooker) .none kV4 dc4 pm4 an4 (.ref g1) ct4), sl4⟩) (c4 : PySem.W.codeIn K (.ref g1) "looker" = true) (k4 : PySem.W.keepIn K (.ref f4) = true)
    (a5 : PySem.W.nsIn K mainGlobals "reading" = some (some (.ref f5))) (l5 : K.lookup f5 = some ⟨oc5, od5, .func (PySem.W.fnOf "reading" "reading" (defArgs sReading) (defBody sReading) (defScope sReading) .none kV5 dc5 pm5 an5 (.ref g2) ct5), sl5⟩) (c5 : PySem.W.codeIn K (.ref g2) "reading" = true) (k5 : PySem.W.keepIn K (.ref f5) = true)
    (a6 : PySem.W.nsIn K mainGlobals "value_of" = some (some (.ref f6))) (l6 : K.lookup f6 = some ⟨oc6, od6, .func (PySem.W.fnOf "value_of" "value_of" (defArgs sValueOf) (defBody sValueOf) (defScope sValueOf) .none kV6 dc6 pm6 an6 cd6 ct6), sl6⟩) (c6 : PySem.W.codeIn K cd6 "value_of" = true) (k6 : PySem.W.keepIn K (.ref f6) = true)
    (a7 : PySem.W.nsIn K mainGlobals "leaned_cells" = some (some (.ref f7))) (l7 : K.lookup f7 = some ⟨oc7, od7, .func (PySem.W.fnOf "leaned_cells" "leaned_cells" (defArgs sLeanedCells) (defBody sLeanedCells) (defScope sLeanedCells) .none kV7 dc7 pm7 an7 cd7 ct7), sl7⟩) (c7 : PySem.W.codeIn K cd7 "leaned_cells" = true) (k7 : PySem.W.keepIn K (.ref f7) = true)
    (a8 : PySem.W.nsIn K mainGlobals "leaners" = some (some (.ref f8))) (l8 : K.lookup f8 = some ⟨oc8, od8, .func (PySem.W.fnOf "leaners" "leaners" (defArgs sLeaners) (defBody sLeaners) (defScope sLeaners) .none kV8 dc8 pm8 an8 cd8 ct8), sl8⟩) (c8 : PySem.W.codeIn K cd8 "leaners" = true) (k8 : PySem.W.keepIn K (.ref f8) = true)
    (a9 : PySem.W.nsIn K mainGlobals "order" = some (some (.ref f9))) (l9 : K.lookup f9 = some ⟨oc9, od9, .func (PySem.W.fnOf "order" "order" (defArgs sOrder) (defBody sOrder) (defScope sOrder) .none kV9 dc9 pm9 an9 cd9 ct9), sl9⟩) (c9 : PySem.W.codeIn K cd9 "order" = true) (k9 : PySem.W.keepIn K (.ref f9) = true)
    (a10 : PySem.W.nsIn K mainGlobals "results" = some (some (.ref f10))) (l10 : K.lookup f10 = some ⟨oc10, od10, .func (PySem.W.fnOf "results" "results" (defArgs sResults) (defBody sResults) (defScope sResults) .none kV10 dc10 pm10 an10 cd10 ct10), sl10⟩) (c10 : PySem.W.codeIn K cd10 "results" = true) (k10 : PySem.W.keepIn K (.ref f10) = true)
    (a11 : PySem.W.nsIn K mainGlobals "changed" = some (some (.ref f11))) (l11 : K.lookup f11 = some ⟨oc11, od11, .func (PySem.W.fnOf "changed" "changed" (defArgs sChanged) (defBody sChanged) (defScope sChanged) .none kV11 dc11 pm11 an11 cd11 ct11), sl11⟩) (c11 : PySem.W.codeIn K cd11 "changed" = true) (k11 : PySem.W.keepIn K (.ref f11) = true)
    (a12 : PySem.W.nsIn K mainGlobals "answer" = some (some (.ref f12))) (l12 : K.lookup f12 = some ⟨oc12, od12, .func (PySem.W.fnOf "answer" "answer" (defArgs sAnswer) (defBody sAnswer) (defScope sAnswer) .none kV12 dc12 pm12 an12 cd12 ct12), sl12⟩) (c12 : PySem.W.codeIn K cd12 "answer" = true) (k12 : PySem.W.keepIn K (.ref f12) = true)
    (a13 : PySem.W.nsIn K mainGlobals "answers" = some (some (.ref f13))) (l13 : K.lookup f13 = some ⟨oc13, od13, .func (PySem.W.fnOf "answers" "answers" (defArgs sAnswers) (defBody sAnswers) (defScope sAnswers) .none kV13 dc13 pm13 an13 cd13 ct13), sl13⟩) (c13 : PySem.W.codeIn K cd13 "answers" = true) (k13 : PySem.W.keepIn K (.ref f13) = true)
    (a14 : PySem.W.nsIn K mainGlobals "_law_upto" = some (some (.ref f14))) (l14 : K.lookup f14 = some ⟨oc14, od14, .func (PySem.W.fnOf "_law_upto" "_law_upto" (defArgs sUpto) (defBody sUpto) (defScope sUpto) .none kV14 dc14 pm14 an14 cd14 ct14), sl14⟩) (c14 : PySem.W.codeIn K cd14 "_law_upto" = true) (k14 : PySem.W.keepIn K (.ref f14) = true)
    (a15 : PySem.W.nsIn K mainGlobals "_law_draw" = some (some (.ref f15))) (l15 : K.lookup f15 = some ⟨oc15, od15, .func (PySem.W.fnOf "_law_draw" "_law_draw" (defArgs sDraw) (defBody sDraw) (defScope sDraw) .none kV15 dc15 pm15 an15 cd15 ct15), sl15⟩) (c15 : PySem.W.codeIn K cd15 "_law_draw" = true) (k15 : PySem.W.keepIn K (.ref f15) = true)
    (a16 : PySem.W.nsIn K mainGlobals "_law_whole" = some (some (.ref f16))) (l16 : K.lookup f16 = some ⟨oc16, od16, .func (PySem.W.fnOf "_law_whole" "_law_whole" (defArgs sWhole) (defBody sWhole) (defScope sWhole) .none kV16 dc16 pm16 an16 cd16 ct16), sl16⟩) (c16 : PySem.W.codeIn K cd16 "_law_whole" = true) (k16 : PySem.W.keepIn K (.ref f16) = true)
    (a17 : PySem.W.nsIn K mainGlobals "_law_at" = some (some (.ref f17))) (l17 : K.lookup f17 = some ⟨oc17, od17, .func (PySem.W.fnOf "_law_at" "_law_at" (defArgs sAt) (defBody sAt) (defScope sAt) .none kV17 dc17 pm17 an17 cd17 ct17), sl17⟩) (c17 : PySem.W.codeIn K cd17 "_law_at" = true) (k17 : PySem.W.keepIn K (.ref f17) = true)
    (a18 : PySem.W.nsIn K mainGlobals "_law_named" = some (some (.ref f18))) (l18 : K.lookup f18 = some ⟨oc18, od18, .func (PySem.W.fnOf "_law_named" "_law_named" (defArgs sNamed) (defBody sNamed) (defScope sNamed) .none kV18 dc18 pm18 an18 cd18 ct18), sl18⟩) (c18 : PySem.W.codeIn K cd18 "_law_named" = true) (k18 : PySem.W.keepIn K (.ref f18) = true)
    (a19 : PySem.W.nsIn K mainGlobals "_law_value" = some (some (.ref f19))) (l19 : K.lookup f19 = some ⟨oc19, od19, .func (PySem.W.fnOf "_law_value" "_law_value" (defArgs sValue) (defBody sValue) (defScope sValue) .none kV19 dc19 pm19 an19 cd19 ct19), sl19⟩) (c19 : PySem.W.codeIn K cd19 "_law_value" = true) (k19 : PySem.W.keepIn K (.ref f19) = true)
    (a20 : PySem.W.nsIn K mainGlobals "_law_worth" = some (some (.ref f20))) (l20 : K.lookup f20 = some ⟨oc20, od20, .func (PySem.W.fnOf "_law_worth" "_law_worth" (defArgs sWorth) (defBody sWorth) (defScope sWorth) .none kV20 dc20 pm20 an20 cd20 ct20), sl20⟩) (c20 : PySem.W.codeIn K cd20 "_law_worth" = true) (k20 : PySem.W.keepIn K (.ref f20) = true)
    (a21 : PySem.W.nsIn K mainGlobals "_law_day_formula" = some (some (.ref f21))) (l21 : K.lookup f21 = some ⟨oc21, od21, .func (PySem.W.fnOf "_law_day_formula" "_law_day_formula" (defArgs sDayFormula) (defBody sDayFormula) (defScope sDayFormula) .none kV21 dc21 pm21 an21 cd21 ct21), sl21⟩) (c21 : PySem.W.codeIn K cd21 "_law_day_formula" = true) (k21 : PySem.W.keepIn K (.ref f21) = true)
    (a22 : PySem.W.nsIn K mainGlobals "_law_deeds" = some (some (.ref f22))) (l22 : K.lookup f22 = some ⟨oc22, od22, .func (PySem.W.fnOf "_law_deeds" "_law_deeds" (defArgs sDeeds) (defBody sDeeds) (defScope sDeeds) .none kV22 dc22 pm22 an22 cd22 ct22), sl22⟩) (c22 : PySem.W.codeIn K cd22 "_law_deeds" = true) (k22 : PySem.W.keepIn K (.ref f22) = true)
    (a23 : PySem.W.nsIn K mainGlobals "_law_same" = some (some (.ref f23))) (l23 : K.lookup f23 = some ⟨oc23, od23, .func (PySem.W.fnOf "_law_same" "_law_same" (defArgs sSame) (defBody sSame) (defScope sSame) .none kV23 dc23 pm23 an23 cd23 ct23), sl23⟩) (c23 : PySem.W.codeIn K cd23 "_law_same" = true) (k23 : PySem.W.keepIn K (.ref f23) = true)
    (a24 : PySem.W.nsIn K mainGlobals "_law_ready" = some (some (.ref f24))) (l24 : K.lookup f24 = some ⟨oc24, od24, .func (PySem.W.fnOf "_law_ready" "_law_ready" (defArgs sReady) (defBody sReady) (defScope sReady) .none kV24 dc24 pm24 an24 cd24 ct24), sl24⟩) (c24 : PySem.W.codeIn K cd24 "_law_ready" = true) (k24 : PySem.W.keepIn K (.ref f24) = true)
    (a25 : PySem.W.nsIn K mainGlobals "_law_rounds" = some (some (.ref f25))) (l25 : K.lookup f25 = some ⟨oc25, od25, .func (PySem.W.fnOf "_law_rounds" "_law_rounds" (defArgs sRounds) (defBody sRounds) (defScope sRounds) .none kV25 dc25 pm25 an25 cd25 ct25), sl25⟩) (c25 : PySem.W.codeIn K cd25 "_law_rounds" = true) (k25 : PySem.W.keepIn K (.ref f25) = true)
    (a26 : PySem.W.nsIn K mainGlobals "_law_alike" = some (some (.ref f26))) (l26 : K.lookup f26 = some ⟨oc26, od26, .func (PySem.W.fnOf "_law_alike" "_law_alike" (defArgs sAlike) (defBody sAlike) (defScope sAlike) .none kV26 dc26 pm26 an26 cd26 ct26), sl26⟩) (c26 : PySem.W.codeIn K cd26 "_law_alike" = true) (k26 : PySem.W.keepIn K (.ref f26) = true)
    (a27 : PySem.W.nsIn K mainGlobals "_law_row" = some (some (.ref f27))) (l27 : K.lookup f27 = some ⟨oc27, od27, .func (PySem.W.fnOf "_law_row" "_law_row" (defArgs sRow) (defBody sRow) (defScope sRow) .none kV27 dc27 pm27 an27 cd27 ct27), sl27⟩) (c27 : PySem.W.codeIn K cd27 "_law_row" = true) (k27 : PySem.W.keepIn K (.ref f27) = true)
    (a28 : PySem.W.nsIn K mainGlobals "law" = some (some (.ref f28))) (l28 : K.lookup f28 = some ⟨oc28, od28, .func (PySem.W.fnOf "law" "law" (defArgs sLaw) (defBody sLaw) (defScope sLaw) .none kV28 dc28 pm28 an28 cd28 ct28), sl28⟩) (c28 : PySem.W.codeIn K cd28 "law" = true) (k28 : PySem.W.keepIn K (.ref f28) = true)
    (eN : PySem.W.nsIn K mainGlobals "NoCell" = some (some (.ref CN))) (xN : PySem.W.excIn K CN vErr "ValueError.__new__" = true)
    (x1 : PySem.W.exmOne K (.ref CN) (.ref CN) = some true)
    {C fI fP fL : Addr} {odI anI odP anP odL anL : Option Addr} {slI slP slL : Array (Option Value)} {ocI kVI dcI pmI cdI ctI ocP kVP dcP pmP cdP ctP ocL kVL dcL pmL cdL ctL : Value}
    (aC : PySem.W.nsIn K mainGlobals "Day" = some (some (.ref C)))
    (aI : PySem.W.findIn K (.ref C) "__init__" = some (some (.ref fI))) (iI : PySem.W.isFn K (.ref fI) = true) (lI : K.lookup fI = some ⟨ocI, odI, .func (PySem.W.fnOf "__init__" "Day.__init__" (defArgs sDInit) (defBody sDInit) (defScope sDInit) .none kVI dcI pmI anI cdI ctI), slI⟩) (cI : PySem.W.codeIn K cdI "Day.__init__" = true) (kI : PySem.W.keepIn K (.ref fI) = true)
    (aP : PySem.W.findIn K (.ref C) "put" = some (some (.ref fP))) (iP : PySem.W.isFn K (.ref fP) = true) (lP : K.lookup fP = some ⟨ocP, odP, .func (PySem.W.fnOf "put" "Day.put" (defArgs sDPut) (defBody sDPut) (defScope sDPut) .none kVP dcP pmP anP cdP ctP), slP⟩) (cP : PySem.W.codeIn K cdP "Day.put" = true) (kP : PySem.W.keepIn K (.ref fP) = true)
    (aL : PySem.W.findIn K (.ref C) "look" = some (some (.ref fL))) (iL : PySem.W.isFn K (.ref fL) = true) (lL : K.lookup fL = some ⟨ocL, odL, .func (PySem.W.fnOf "look" "Day.look" (defArgs sDLook) (defBody sDLook) (defScope sDLook) .none kVL dcL pmL anL cdL ctL), slL⟩) (cL : PySem.W.codeIn K cdL "Day.look" = true) (kL : PySem.W.keepIn K (.ref fL) = true)
    (pg : PySem.W.plainGet K C Str.empty = true) (hd : PySem.W.hasDictIn K C = true) (po : PySem.W.plainOver K C = true) (sa : PySem.W.findIn K (.ref C) "__setattr__" = some (some (.builtin "object.__setattr__"))) (mk : PySem.W.makesIn K C = true) (kc : PySem.W.keepIn K (.ref C) = true) (nS : PySem.W.findIn K (.ref C) "sheet" = some none) (nT : PySem.W.findIn K (.ref C) "told" = some none)
    (z1 : PySem.W.nsIn K mainGlobals "len" = some none) (z2 : PySem.W.nsIn K mainGlobals "max" = some none) (z3 : PySem.W.nsIn K mainGlobals "isinstance" = some none) (z4 : PySem.W.nsIn K mainGlobals "int" = some none) (z5 : PySem.W.nsIn K mainGlobals "bool" = some none) (z6 : PySem.W.nsIn K mainGlobals "list" = some none) (z7 : PySem.W.nsIn K mainGlobals "range" = some none) (z8 : PySem.W.nsIn K mainGlobals "reversed" = some none) (z9 : PySem.W.nsIn K mainGlobals "str" = some none) (z10 : PySem.W.nsIn K mainGlobals "tuple" = some none) (z11 : PySem.W.nsIn K mainGlobals "sorted" = some none) (z12 : PySem.W.nsIn K mainGlobals "set" = some none) (z13 : PySem.W.nsIn K mainGlobals "ValueError" = some none) :
    (∀ t ∈ [P1, P2], h.get? t = some (PySem.W.tabObj #[]) ∧ isCodeTable h t) ∧
    ∃ fd : FuncData, (∀ (s : Shared) (v : Value), BindsTo s fd ⟨[v], []⟩ [("_law_script", v)]) ∧ ∀ base : Heap, K.In base → base.Ns mainGlobals mg → BAt base mg → FnOk l.prog w K mg base CX0 9 fa fd ["_law_script"] (spLawZ K (Tb P1 P2)) := by
  have e := hfa.symm.trans (PySem.W.mg_of X G.g a28)
  cases e
  refine ⟨List.forall_mem_cons.mpr ⟨⟨T1.2, (T1.1.tab T1.2).isCodeTable⟩, List.forall_mem_cons.mpr ⟨⟨T2.2, (T2.1.tab T2.2).isCodeTable⟩, fun _ z => nomatch z⟩⟩, ?_⟩
  have K1 := codeK_of X T1.1 y1
  have K2 := codeK_of X T2.1 y2
  have F_off := fun_mk (st := sOff) l1 c1 k1
  have F_require_cell := fun_mk (st := sRequireCell) l2 c2 k2
  have F_leans := fun_mk (st := sLeans) l3 c3 k3
  have F_looker := fun_mk (st := sLooker) l4 c4 k4
  have F_reading := fun_mk (st := sReading) l5 c5 k5
  have F_value_of := fun_mk (st := sValueOf) l6 c6 k6
  have F_leaned_cells := fun_mk (st := sLeanedCells) l7 c7 k7
  have F_leaners := fun_mk (st := sLeaners) l8 c8 k8
  have F_order := fun_mk (st := sOrder) l9 c9 k9
  have F_results := fun_mk (st := sResults) l10 c10 k10
  have F_changed := fun_mk (st := sChanged) l11 c11 k11
  have F_answer := fun_mk (st := sAnswer) l12 c12 k12
  have F_answers := fun_mk (st := sAnswers) l13 c13 k13
  have F__law_upto := fun_mk (st := sUpto) l14 c14 k14
  have F__law_draw := fun_mk (st := sDraw) l15 c15 k15
  have F__law_whole := fun_mk (st := sWhole) l16 c16 k16
  have F__law_at := fun_mk (st := sAt) l17 c17 k17
  have F__law_named := fun_mk (st := sNamed) l18 c18 k18
  have F__law_value := fun_mk (st := sValue) l19 c19 k19
  have F__law_worth := fun_mk (st := sWorth) l20 c20 k20
  have F__law_day_formula := fun_mk (st := sDayFormula) l21 c21 k21
  have F__law_deeds := fun_mk (st := sDeeds) l22 c22 k22
  have F__law_same := fun_mk (st := sSame) l23 c23 k23
  have F__law_ready := fun_mk (st := sReady) l24 c24 k24
  have F__law_rounds := fun_mk (st := sRounds) l25 c25 k25
  have F__law_alike := fun_mk (st := sAlike) l26 c26 k26
  have F__law_row := fun_mk (st := sRow) l27 c27 k27
  have F_law := fun_mk (st := sLaw) l28 c28 k28
  have b1 := F_off.binds (ps := ["row", "place"]) fun _ _ _ _ _ _ us hl => match us, hl with | [_, _], _ => rfl
  have b2 := F_require_cell.binds (ps := ["sheet", "place"]) fun _ _ _ _ _ _ us hl => match us, hl with | [_, _], _ => rfl
  have b3 := F_leans.binds (ps := ["formula"]) fun _ _ _ _ _ _ us hl => match us, hl with | [_], _ => rfl
  have b4 := F_looker.binds (ps := ["numbers"]) fun _ _ _ _ _ _ us hl => match us, hl with | [_], _ => rfl
  have b5 := F_reading.binds (ps := ["formula"]) fun _ _ _ _ _ _ us hl => match us, hl with | [_], _ => rfl
  have b6 := F_value_of.binds (ps := ["formula", "numbers"]) fun _ _ _ _ _ _ us hl => match us, hl with | [_, _], _ => rfl
  have b7 := F_leaned_cells.binds (ps := ["sheet", "place"]) fun _ _ _ _ _ _ us hl => match us, hl with | [_, _], _ => rfl
  have b8 := F_leaners.binds (ps := ["sheet"]) fun _ _ _ _ _ _ us hl => match us, hl with | [_], _ => rfl
  have b9 := F_order.binds (ps := ["sheet"]) fun _ _ _ _ _ _ us hl => match us, hl with | [_], _ => rfl
  have b10 := F_results.binds (ps := ["sheet"]) fun _ _ _ _ _ _ us hl => match us, hl with | [_], _ => rfl
  have b11 := F_changed.binds (ps := ["sheet", "place", "formula"]) fun _ _ _ _ _ _ us hl => match us, hl with | [_, _, _], _ => rfl
  have b12 := F_answer.binds (ps := ["day", "deed"]) fun _ _ _ _ _ _ us hl => match us, hl with | [_, _], _ => rfl
  have b13 := F_answers.binds (ps := ["size", "deeds"]) fun _ _ _ _ _ _ us hl => match us, hl with | [_, _], _ => rfl
  have b14 := F__law_upto.binds (ps := ["_law_script", "_law_small", "_law_great"]) fun _ _ _ _ _ _ us hl => match us, hl with | [_, _, _], _ => rfl
  have b15 := F__law_draw.binds (ps := ["_law_number", "_law_prime", "_law_many"]) fun _ _ _ _ _ _ us hl => match us, hl with | [_, _, _], _ => rfl
  have b16 := F__law_whole.binds (ps := ["_law_found"]) fun _ _ _ _ _ _ us hl => match us, hl with | [_], _ => rfl
  have b17 := F__law_at.binds (ps := ["_law_script", "_law_k"]) fun _ _ _ _ _ _ us hl => match us, hl with | [_, _], _ => rfl
  have b18 := F__law_named.binds (ps := ["_law_formula"]) fun _ _ _ _ _ _ us hl => match us, hl with | [_], _ => rfl
  have b19 := F__law_value.binds (ps := ["_law_numbers", "_law_place"]) fun _ _ _ _ _ _ us hl => match us, hl with | [_, _], _ => rfl
  have b20 := F__law_worth.binds (ps := ["_law_formula", "_law_numbers"]) fun _ _ _ _ _ _ us hl => match us, hl with | [_, _], _ => rfl
  have b21 := F__law_day_formula.binds (ps := ["_law_cell", "_law_k", "_law_size"]) fun _ _ _ _ _ _ us hl => match us, hl with | [_, _, _], _ => rfl
  have b22 := F__law_deeds.binds (ps := ["_law_cells", "_law_size"]) fun _ _ _ _ _ _ us hl => match us, hl with | [_, _], _ => rfl
  have b23 := F__law_same.binds (ps := ["_law_handed", "_law_asked"]) fun _ _ _ _ _ _ us hl => match us, hl with | [_, _], _ => rfl
  have b24 := F__law_ready.binds (ps := ["_law_formula", "_law_numbers"]) fun _ _ _ _ _ _ us hl => match us, hl with | [_, _], _ => rfl
  have b25 := F__law_rounds.binds (ps := ["_law_sheet"]) fun _ _ _ _ _ _ us hl => match us, hl with | [_], _ => rfl
  have b26 := F__law_alike.binds (ps := ["_law_one", "_law_other"]) fun _ _ _ _ _ _ us hl => match us, hl with | [_, _], _ => rfl
  have b27 := F__law_row.binds (ps := ["_law_found", "_law_due"]) fun _ _ _ _ _ _ us hl => match us, hl with | [_, _], _ => rfl
  have m1 := PySem.W.mg_none_of X G.g z1
  have m2 := PySem.W.mg_none_of X G.g z2
  have m3 := PySem.W.mg_none_of X G.g z3
  have m4 := PySem.W.mg_none_of X G.g z4
  have m5 := PySem.W.mg_none_of X G.g z5
  have m6 := PySem.W.mg_none_of X G.g z6
  have m7 := PySem.W.mg_none_of X G.g z7
  have m8 := PySem.W.mg_none_of X G.g z8
  have m9 := PySem.W.mg_none_of X G.g z9
  have m10 := PySem.W.mg_none_of X G.g z10
  have m11 := PySem.W.mg_none_of X G.g z11
  have m12 := PySem.W.mg_none_of X G.g z12
  have m13 := PySem.W.mg_none_of X G.g z13
  refine ⟨PySem.W.fnOf "law" "law" (defArgs sLaw) (defBody sLaw) (defScope sLaw) .none kV28 dc28 pm28 an28 cd28 ct28, fun s v => .of_eq rfl, fun base _ _ B => ?_⟩
  have T : Txt mg := ⟨m1, m2, m3, m4, m5, m6, m7, m8, m9, m10, m11, m12, m13⟩
  have kN : ErrK K "NoCell" CN := ⟨eN, xN⟩
  have hNC := PySem.W.mg_of X G.g eN
  have DD : TD K mg C := ⟨⟨pg, hd, po, sa⟩, nS, nT, PySem.W.mg_of X G.g aC⟩
  have F_I := fun_mk (st := sDInit) lI cI kI
  have bI := F_I.binds (ps := ["self", "size"]) fun _ _ _ _ _ _ us hl => match us, hl with | [_, _], _ => rfl
  have F_P := fun_mk (st := sDPut) lP cP kP
  have bP := F_P.binds (ps := ["self", "place", "formula"]) fun _ _ _ _ _ _ us hl => match us, hl with | [_, _, _], _ => rfl
  have F_L := fun_mk (st := sDLook) lL cL kL
  have bL := F_L.binds (ps := ["self", "place"]) fun _ _ _ _ _ _ us hl => match us, hl with | [_, _], _ => rfl
  have C_off : Cl l.prog w K mg base 1 "off" f1 _ ["row", "place"] (spOff K) := ⟨ok_off F_off T, b1, k1, PySem.W.mg_of X G.g a1⟩
  have C_require_cell : ClF l.prog w K mg base 2 "require_cell" f2 _ ["sheet", "place"] (spRequire K CN) := ⟨ok_require F_require_cell C_off kN, b2, k2, PySem.W.mg_of X G.g a2⟩
  have C_leans : Cl l.prog w K mg base 1 "leans" f3 _ ["formula"] (spLeans K) := ⟨ok_leans F_leans T, b3, k3, PySem.W.mg_of X G.g a3⟩
  have C_leaned_cells : Cl l.prog w K mg base 2 "leaned_cells" f7 _ ["sheet", "place"] (spLeaned K) := ⟨ok_leaned F_leaned_cells C_off C_leans, b7, k7, PySem.W.mg_of X G.g a7⟩
  have C_leaners : Cl l.prog w K mg base 3 "leaners" f8 _ ["sheet"] (spLeaners K) := ⟨ok_leaners F_leaners T C_leaned_cells, b8, k8, PySem.W.mg_of X G.g a8⟩
  have C_order : Cl l.prog w K mg base 4 "order" f9 _ ["sheet"] (spOrderS K) := ⟨ok_order F_order T C_leaned_cells C_leaners, b9, k9, PySem.W.mg_of X G.g a9⟩
  have C_changed : ClF l.prog w K mg base 3 "changed" f11 _ ["sheet", "place", "formula"] (spChanged CN) := ⟨ok_changed F_changed T C_require_cell, b11, k11, PySem.W.mg_of X G.g a11⟩
  have C_looker : Cl l.prog w K mg base 1 "looker" f4 _ ["numbers"] (spLooker P1) := ⟨ok_looker F_looker rfl K1 B, b4, k4, PySem.W.mg_of X G.g a4⟩
  have C_reading : Cl l.prog w K mg base 1 "reading" f5 _ ["formula"] (spReading K P2) := ⟨ok_reading F_reading rfl K2 B, b5, k5, PySem.W.mg_of X G.g a5⟩
  have C_value_of : Cl l.prog w K mg base 4 "value_of" f6 _ ["formula", "numbers"] (spValueOf K P1 P2) := ⟨ok_valueOf F_value_of T C_off hne C_reading C_looker, b6, k6, PySem.W.mg_of X G.g a6⟩
  have C_results : Cl l.prog w K mg base 5 "results" f10 _ ["sheet"] (spResultsF (Tb P1 P2)) := ⟨ok_results F_results C_order C_value_of, b10, k10, PySem.W.mg_of X G.g a10⟩
  have C_answer : Cl l.prog w K mg base 7 "answer" f12 _ ["day", "deed"] (spAnswer C (Tb P1 P2)) := ⟨ok_answer F_answer DD (ok_dput F_P T DD C_changed C_results) bP ⟨aP, iP, kP⟩ (ok_dlook F_L DD C_require_cell) bL ⟨aL, iL, kL⟩ hNC x1, b12, k12, PySem.W.mg_of X G.g a12⟩
  have C_answers : Cl l.prog w K mg base 8 "answers" f13 _ ["size", "deeds"] (spAnswers (Tb P1 P2)) := ⟨ok_answers F_answers DD ⟨mk, aI, iI, kc⟩ (ok_dinit F_I T DD C_results) bI C_answer, b13, k13, PySem.W.mg_of X G.g a13⟩
  have C__law_upto : Cl l.prog w K mg base 1 "_law_upto" f14 _ ["_law_script", "_law_small", "_law_great"] (spUpto K) := ⟨ok_upto F__law_upto T, b14, k14, PySem.W.mg_of X G.g a14⟩
  have C__law_draw : Cl l.prog w K mg base 1 "_law_draw" f15 _ ["_law_number", "_law_prime", "_law_many"] (spDraw) := ⟨ok_draw F__law_draw, b15, k15, PySem.W.mg_of X G.g a15⟩
  have C__law_whole : Cl l.prog w K mg base 1 "_law_whole" f16 _ ["_law_found"] (spWhole) := ⟨ok_whole F__law_whole T, b16, k16, PySem.W.mg_of X G.g a16⟩
  have C__law_at : Cl l.prog w K mg base 1 "_law_at" f17 _ ["_law_script", "_law_k"] (spAt K) := ⟨ok_at F__law_at T, b17, k17, PySem.W.mg_of X G.g a17⟩
  have C__law_named : Cl l.prog w K mg base 1 "_law_named" f18 _ ["_law_formula"] (spNamed K) := ⟨ok_named F__law_named T, b18, k18, PySem.W.mg_of X G.g a18⟩
  have C__law_value : Cl l.prog w K mg base 1 "_law_value" f19 _ ["_law_numbers", "_law_place"] (spValueO K) := ⟨ok_value F__law_value T, b19, k19, PySem.W.mg_of X G.g a19⟩
  have C__law_worth : Cl l.prog w K mg base 2 "_law_worth" f20 _ ["_law_formula", "_law_numbers"] (spWorthO K) := ⟨ok_worth F__law_worth T C__law_value, b20, k20, PySem.W.mg_of X G.g a20⟩
  have C__law_day_formula : Cl l.prog w K mg base 2 "_law_day_formula" f21 _ ["_law_cell", "_law_k", "_law_size"] (spDayFormula) := ⟨ok_dayFormula F__law_day_formula C__law_draw, b21, k21, PySem.W.mg_of X G.g a21⟩
  have C__law_deeds : Cl l.prog w K mg base 3 "_law_deeds" f22 _ ["_law_cells", "_law_size"] (spDeeds K) := ⟨ok_deeds F__law_deeds T C__law_day_formula, b22, k22, PySem.W.mg_of X G.g a22⟩
  have C__law_same : Cl l.prog w K mg base 2 "_law_same" f23 _ ["_law_handed", "_law_asked"] (spSame K) := ⟨ok_same F__law_same T C__law_whole, b23, k23, PySem.W.mg_of X G.g a23⟩
  have C__law_ready : Cl l.prog w K mg base 2 "_law_ready" f24 _ ["_law_formula", "_law_numbers"] (spReady K) := ⟨ok_ready F__law_ready T C__law_named, b24, k24, PySem.W.mg_of X G.g a24⟩
  have C__law_rounds : Cl l.prog w K mg base 3 "_law_rounds" f25 _ ["_law_sheet"] (spRounds K) := ⟨ok_rounds F__law_rounds T C__law_ready C__law_worth, b25, k25, PySem.W.mg_of X G.g a25⟩
  have C__law_alike : Cl l.prog w K mg base 2 "_law_alike" f26 _ ["_law_one", "_law_other"] (spAlikeB) := ⟨ok_alike F__law_alike C__law_whole, b26, k26, PySem.W.mg_of X G.g a26⟩
  have C__law_row : Cl l.prog w K mg base 2 "_law_row" f27 _ ["_law_found", "_law_due"] (spRow) := ⟨ok_row F__law_row T C__law_whole, b27, k27, PySem.W.mg_of X G.g a27⟩
  exact ok_law (Z := Tb P1 P2) (fun _ _ s t => t.same s) F_law T C__law_at C__law_upto C__law_deeds C_answers C__law_same C__law_rounds C__law_alike C__law_row
theorem walk {l : PySem.W.OpenLaw} {q : Program} {loose : List Str} {XP : (Str → Option Value) → Heap → Prop} {YP : World → Heap → Prop} {d : DefRec} {K : Params → PySem.W.Frag} {P1 P2 : Addr} (hn : l.most = some 63) (hdf : d.params.defaults = [])
    (hY : ∀ (w : World) (h : Heap), YP w h → (K w.params).In h) (hKT : ∀ w : World, PySem.W.noTabs (K w.params) = true)
    (F : ∀ (w : World) (mg mb : Str → Option Value) (mean : ExcName → Option Value) (lo : List Str) (fa : Addr) (h : Heap), (K w.params).In h → PyProof.Rows.Top q lo mean mg mb h → mg d.name = some (.ref fa) →
      (∀ t ∈ [P1, P2], h.get? t = some (PySem.W.tabObj #[]) ∧ isCodeTable h t) ∧
      ∃ fd : FuncData, (∀ (s : Shared) (u : Value), BindsTo s fd ⟨[u], []⟩ [("_law_script", u)]) ∧ ∀ base : Heap, (K w.params).In base → base.Ns mainGlobals mg → BAt base mg → FnOk l.prog w (K w.params) mg base CX0 9 fa fd ["_law_script"] (spLawZ (K w.params) (Tb P1 P2))) :
    PySem.W.WalkO q loose XP YP l.row.toRowW d [] (fun f vs => PySem.call f vs) :=
  L2.walk_ofT (n := 63) (k := 9) (x := "_law_script") (tabs := [P1, P2]) (sp := fun w => spLawZ (K w.params) (Tb P1 P2)) hn (by decide) hdf ⟨rfl, by decide, by decide⟩ hY hKT F
    (fun _ _ a ns hl hT hS => ⟨a, ns, rfl, hS, hl, ⟨.inl (hT _ (.head _)), .inl (hT _ (.tail _ (.head _)))⟩, fun _ => rfl⟩)
end K08
open PySem PySem.W PyProof.Rows
set_option maxRecDepth 100000 in
set_option maxHeartbeats 0 in
theorem PySem.Challenge.cw_leafsheet_k08_whole_day_holds : PySem.Challenge.rw_leafsheet_k08_whole_day.Holds := by
  w_on; o_law; k_head; (case hw => w_witness2)
  k_fill
  refine K08.walk (l := PySem.Challenge.rw_leafsheet_k08_whole_day) (P1 := 62) (P2 := 69) rfl rfl (fun w h Y => PySem.W.km_in_of Y) ?KT ?F
  (case KT => intro w; kernel_rfl)
  case F =>
    intro w mg mb mean lo fa h KX G hmg
    have T1 := tab_of (x := PySem.Str.ofString "looker") (c := 66) (P := 62) G KX rfl (by kernel_rfl)
    have T2 := tab_of (x := PySem.Str.ofString "reading") (c := 73) (P := 69) G KX rfl (by kernel_rfl)
    refine' K08.all_mk KX G hmg T1 T2 (by decide) ?y1 ?y2 ?a1 ?l1 ?c1 ?k1 ?a2 ?l2 ?c2 ?k2 ?a3 ?l3 ?c3 ?k3 ?a4 ?l4 ?c4 ?k4 ?a5 ?l5 ?c5 ?k5 ?a6 ?l6 ?c6 ?k6 ?a7 ?l7 ?c7 ?k7 ?a8 ?l8 ?c8 ?k8 ?a9 ?l9 ?c9 ?k9 ?a10 ?l10 ?c10 ?k10 ?a11 ?l11 ?c11 ?k11 ?a12 ?l12 ?c12 ?k12 ?a13 ?l13 ?c13 ?k13 ?a14 ?l14 ?c14 ?k14 ?a15 ?l15 ?c15 ?k15 ?a16 ?l16 ?c16 ?k16 ?a17 ?l17 ?c17 ?k17 ?a18 ?l18 ?c18 ?k18 ?a19 ?l19 ?c19 ?k19 ?a20 ?l20 ?c20 ?k20 ?a21 ?l21 ?c21 ?k21 ?a22 ?l22 ?c22 ?k22 ?a23 ?l23 ?c23 ?k23 ?a24 ?l24 ?c24 ?k24 ?a25 ?l25 ?c25 ?k25 ?a26 ?l26 ?c26 ?k26 ?a27 ?l27 ?c27 ?k27 ?a28 ?l28 ?c28 ?k28 ?eN ?xN ?x1 ?aC ?aI ?iI ?lI ?cI ?kI ?aP ?iP ?lP ?cP ?kP ?aL ?iL ?lL ?cL ?kL ?pg ?hd ?po ?sa ?mk ?kc ?nS ?nT ?z1 ?z2 ?z3 ?z4 ?z5 ?z6 ?z7 ?z8 ?z9 ?z10 ?z11 ?z12 ?z13
    (case y1 => k_is)
    (case y2 => k_is)
    (case a1 => k_is)
    (case l1 => k_is)
    (case c1 => k_is)
    (case k1 => k_is)
    (case a2 => k_is)
    (case l2 => k_is)
    (case c2 => k_is)
    (case k2 => k_is)
    (case a3 => k_is)
    (case l3 => k_is)
    (case c3 => k_is)
    (case k3 => k_is)
    (case a4 => k_is)
    (case l4 => k_is)
    (case c4 => k_is)
    (case k4 => k_is)
    (case a5 => k_is)
    (case l5 => k_is)
    (case c5 => k_is)
    (case k5 => k_is)
    (case a6 => k_is)
    (case l6 => k_is)
    (case c6 => k_is)
    (case k6 => k_is)
    (case a7 => k_is)
    (case l7 => k_is)
    (case c7 => k_is)
    (case k7 => k_is)
    (case a8 => k_is)
    (case l8 => k_is)
    (case c8 => k_is)
    (case k8 => k_is)
    (case a9 => k_is)
    (case l9 => k_is)
    (case c9 => k_is)
    (case k9 => k_is)
    (case a10 => k_is)
    (case l10 => k_is)
    (case c10 => k_is)
    (case k10 => k_is)
    (case a11 => k_is)
    (case l11 => k_is)
    (case c11 => k_is)
    (case k11 => k_is)
    (case a12 => k_is)
    (case l12 => k_is)
    (case c12 => k_is)
    (case k12 => k_is)
    (case a13 => k_is)
    (case l13 => k_is)
    (case c13 => k_is)
    (case k13 => k_is)
    (case a14 => k_is)
    (case l14 => k_is)
    (case c14 => k_is)
    (case k14 => k_is)
    (case a15 => k_is)
    (case l15 => k_is)
    (case c15 => k_is)
    (case k15 => k_is)
    (case a16 => k_is)
    (case l16 => k_is)
    (case c16 => k_is)
    (case k16 => k_is)
    (case a17 => k_is)
    (case l17 => k_is)
    (case c17 => k_is)
    (case k17 => k_is)
    (case a18 => k_is)
    (case l18 => k_is)
    (case c18 => k_is)
    (case k18 => k_is)
    (case a19 => k_is)
    (case l19 => k_is)
    (case c19 => k_is)
    (case k19 => k_is)
    (case a20 => k_is)
    (case l20 => k_is)
    (case c20 => k_is)
    (case k20 => k_is)
    (case a21 => k_is)
    (case l21 => k_is)
    (case c21 => k_is)
    (case k21 => k_is)
    (case a22 => k_is)
    (case l22 => k_is)
    (case c22 => k_is)
    (case k22 => k_is)
    (case a23 => k_is)
    (case l23 => k_is)
    (case c23 => k_is)
    (case k23 => k_is)
    (case a24 => k_is)
    (case l24 => k_is)
    (case c24 => k_is)
    (case k24 => k_is)
    (case a25 => k_is)
    (case l25 => k_is)
    (case c25 => k_is)
    (case k25 => k_is)
    (case a26 => k_is)
    (case l26 => k_is)
    (case c26 => k_is)
    (case k26 => k_is)
    (case a27 => k_is)
    (case l27 => k_is)
    (case c27 => k_is)
    (case k27 => k_is)
    (case a28 => k_is)
    (case l28 => k_is)
    (case c28 => k_is)
    (case k28 => k_is)
    (case eN => k_is)
    (case xN => kernel_rfl)
    (case x1 => kernel_rfl)
    (case aC => k_is)
    (case aI => k_is)
    (case iI => k_is)
    (case lI => k_is)
    (case cI => k_is)
    (case kI => k_is)
    (case aP => k_is)
    (case iP => k_is)
    (case lP => k_is)
    (case cP => k_is)
    (case kP => k_is)
    (case aL => k_is)
    (case iL => k_is)
    (case lL => k_is)
    (case cL => k_is)
    (case kL => k_is)
    (case pg => k_is)
    (case hd => k_is)
    (case po => k_is)
    (case sa => k_is)
    (case mk => k_is)
    (case kc => k_is)
    (case nS => k_is)
    (case nT => k_is)
    (case z1 => k_is)
    (case z2 => k_is)
    (case z3 => k_is)
    (case z4 => k_is)
    (case z5 => k_is)
    (case z6 => k_is)
    (case z7 => k_is)
    (case z8 => k_is)
    (case z9 => k_is)
    (case z10 => k_is)
    (case z11 => k_is)
    (case z12 => k_is)
    (case z13 => k_is)
