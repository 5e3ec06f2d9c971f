import PyProof.Rows.All
import Wide.All
import OpenK.AllK
import Wide.FinOn
import PyProof.EqAt
import PyProof.EqKinds
import PyProof.TupleCall
import Open.SpecLaws
import KE.OsHead
import KE.OsGo
import PySem.Challenge.RW_askednumbers_s03_rough
set_option Elab.async false
set_option linter.all false
set_option maxRecDepth 100000
namespace L2
open PySem PySem.Spec PyProof.Rows

/-- a key: an int or a str -/
abbrev Key := Sum Int Str
def keyIs : Key → Value → Bool
  | .inl k, v => Value.isInt k v
  | .inr x, v => Value.isStrOf x v
def keyH (w : World) : Key → Int
  | .inl k => hashInt k
  | .inr x => hashStr w x
theorem keyIs_shape : ∀ {k : Key} {v : Value}, keyIs k v = true → (∃ i t, k = Sum.inl i ∧ v = Value.int i t) ∨ (∃ x t, k = Sum.inr x ∧ v = Value.str x t)
  | .inl i, v, h => by
    obtain ⟨t, e⟩ := Value.isInt_shape (k := i) (v := v) h
    exact .inl ⟨i, t, rfl, e⟩
  | .inr x, v, h => by
    obtain ⟨t, e⟩ := Value.isStrOf_shape (x := x) (v := v) h
    exact .inr ⟨x, t, rfl, e⟩
theorem keyIs_int (i : Int) (t : Tok) : keyIs (.inl i) (.int i t) = true := by simp [keyIs, Value.isInt]
theorem keyIs_str (x : Str) (t : Tok) : keyIs (.inr x) (.str x t) = true := by simp [keyIs, Value.isStrOf]
theorem key_ll (a b : Int) : decide ((Sum.inl a : Key) = Sum.inl b) = (a == b) := by
  by_cases e : a = b
  · subst e; simp
  · have h : ¬ (Sum.inl a : Key) = Sum.inl b := fun q => e (Sum.inl.inj q)
    rw [decide_eq_false h]
    exact (beq_eq_false_iff_ne.mpr e).symm
theorem key_rr (a b : Str) : decide ((Sum.inr a : Key) = Sum.inr b) = decide (a = b) := by
  by_cases e : a = b
  · subst e; simp
  · have h : ¬ (Sum.inr a : Key) = Sum.inr b := fun q => e (Sum.inr.inj q)
    rw [decide_eq_false h, decide_eq_false e]
theorem key_lr (a : Int) (b : Str) : decide ((Sum.inl a : Key) = Sum.inr b) = false := decide_eq_false (fun q => nomatch q)
theorem key_rl (a : Str) (b : Int) : decide ((Sum.inr a : Key) = Sum.inl b) = false := decide_eq_false (fun q => nomatch q)

def mixKind (prog : Program) (w : World) : PySem.KeyKind prog w Key where
  is := keyIs
  hash := keyH w
  inj := fun v a b ha hb => by
    rcases keyIs_shape ha with ⟨i, t, rfl, rfl⟩ | ⟨x, t, rfl, rfl⟩
    · rcases keyIs_shape hb with ⟨j, u, rfl, e⟩ | ⟨y, u, rfl, e⟩
      · injection e with e1 _; rw [e1]
      · exact nomatch e
    · rcases keyIs_shape hb with ⟨j, u, rfl, e⟩ | ⟨y, u, rfl, e⟩
      · exact nomatch e
      · injection e with e1 _; rw [e1]
  byValue := fun k v h => by
    rcases keyIs_shape h with ⟨i, t, rfl, rfl⟩ | ⟨x, t, rfl, rfl⟩ <;> rfl
  pyHash := fun hv h => by
    rcases keyIs_shape hv with ⟨i, t, rfl, rfl⟩ | ⟨x, t, rfl, rfl⟩
    · exact wpAny_pyHash_int h
    · exact wpAny_pyHash_str h
  eqBool := fun hu hv h => by
    rcases keyIs_shape hu with ⟨i, t, rfl, rfl⟩ | ⟨x, t, rfl, rfl⟩
    · rcases keyIs_shape hv with ⟨j, u, rfl, rfl⟩ | ⟨y, u, rfl, rfl⟩
      · rw [key_ll] at h; exact wpAny_eqBool_int h
      · rw [key_lr] at h; exact SeqAt.EqAt.int_str i t y u _ _ _ _ h
    · rcases keyIs_shape hv with ⟨j, u, rfl, rfl⟩ | ⟨y, u, rfl, rfl⟩
      · rw [key_rl] at h; exact SeqAt.EqAt.str_int x t j u _ _ _ _ h
      · rw [key_rr] at h; exact wpAny_eqBool_str h
  «strs» := fun k x t v h => by
    rcases keyIs_shape h with ⟨i, u, rfl, e⟩ | ⟨y, u, rfl, e⟩
    · exact nomatch e
    · injection e with e1 _
      subst e1
      cases v <;> rfl

theorem mixKind_is (prog : Program) (w : World) (k : Key) (v : Value) : (mixKind prog w).is k v = keyIs k v := rfl
theorem mixKind_int (prog : Program) (w : World) (i : Int) (t : Tok) : (mixKind prog w).is (.inl i) (.int i t) = true := keyIs_int i t
theorem mixKind_str (prog : Program) (w : World) (x : Str) (t : Tok) : (mixKind prog w).is (.inr x) (.str x t) = true := keyIs_str x t
end L2

namespace L2
open PySem PySem.Spec PyProof.Rows

/-- a value, without the heap -/
inductive V where
  | non | bl (b : Bool) | int (i : Int) | str (x : Str) | byt (b : Array UInt8) | flt (b : UInt64) | ref (a : Addr) | ty (n : String)
  deriving DecidableEq

def RelV : V → Value → Prop
  | .non, u => u = Value.none
  | .bl b, u => u = Value.bool b
  | .int i, u => ∃ t, u = Value.int i t
  | .str x, u => ∃ t, u = Value.str x t
  | .byt b, u => ∃ t, u = Value.bytes b t
  | .flt b, u => ∃ t, u = Value.float b t
  | .ref a, u => u = Value.ref a
  | .ty n, u => u = Value.type n

abbrev Vals : List V → List Value → Prop := Paired RelV
theorem Vals.length {xs : List V} {us : List Value} (r : Vals xs us) : xs.length = us.length := Paired.length r
theorem Vals.get : ∀ {xs : List V} {us : List Value} {i : Nat} {x : V}, Vals xs us → xs[i]? = some x → ∃ u, us[i]? = some u ∧ RelV x u
  | _, _, _, _, .nil, e => by simp at e
  | _, _, 0, _, .cons r _, e => by simp at e; subst e; exact ⟨_, rfl, r⟩
  | _, _, i + 1, x, .cons _ t, e => by
    obtain ⟨u, h1, h2⟩ := Vals.get (i := i) (x := x) t (by simpa using e)
    exact ⟨u, by simpa using h1, h2⟩
theorem Vals.set {x : V} {u : Value} (r : RelV x u) : ∀ {xs : List V} {us : List Value} (i : Nat), Vals xs us → Vals (xs.set i x) (us.set i u)
  | _, _, _, .nil => .nil
  | _, _, 0, .cons _ t => .cons r t
  | _, _, i + 1, .cons q t => .cons q (Vals.set r i t)
theorem Vals.append : ∀ {xs ys : List V} {us ws : List Value}, Vals xs us → Vals ys ws → Vals (xs ++ ys) (us ++ ws)
  | _, _, _, _, .nil, s => s
  | _, _, _, _, .cons r t, s => .cons r (Vals.append t s)
theorem Vals.take : ∀ {xs : List V} {us : List Value} (n : Nat), Vals xs us → Vals (xs.take n) (us.take n)
  | _, _, 0, _ => .nil
  | _, _, _ + 1, .nil => .nil
  | _, _, n + 1, .cons r t => .cons r (Vals.take n t)
theorem Vals.drop : ∀ {xs : List V} {us : List Value} (n : Nat), Vals xs us → Vals (xs.drop n) (us.drop n)
  | _, _, 0, r => r
  | _, _, _ + 1, .nil => .nil
  | _, _, n + 1, .cons _ t => Vals.drop n t
theorem Vals.none_of : ∀ {xs : List V} {us : List Value} {i : Nat}, Vals xs us → xs[i]? = none → us[i]? = none := fun {xs us i} r e => by
  have h1 := r.length
  have h2 : xs.length ≤ i := List.getElem?_eq_none_iff.mp e
  exact List.getElem?_eq_none_iff.mpr (by omega)

def RelO : Option V → Option Value → Prop
  | some v, some u => RelV v u
  | none, none => True
  | _, _ => False
def KV {κ : Type} : List (κ × V) → List (κ × Value) → Prop := Paired fun (p : κ × V) (q : κ × Value) => p.1 = q.1 ∧ RelV p.2 q.2

/-- a key of a dict (00_mix): an int or a text -/
def kV : Key → V
  | .inl i => .int i
  | .inr x => .str x

/-- what stands at a tracked address -/
inductive HO where
  /-- a list -/
  | lst (xs : List V)
  /-- a tuple (never changes) -/
  | tup (xs : List V)
  /-- a dict whose keys are ints and texts; one whose keys are tuples of ints and texts (the empty one is both) -/
  | dK (kvs : List (Key × V)) | dT (kvs : List (List Key × V))
  /-- a set of ints: its members, its size -/
  | set (S : Int → Bool) (n : Nat)
  /-- an instance of the class at C, its dict at dx, its attributes -/
  | ins (C dx : Addr) (fs : List (Str × V))
  /-- the dict of the instance at x -/
  | own (x : Addr)
  /-- the dict of an exception -/
  | xd (fs : List (Str × V))
  /-- a bound method, f of x -/
  | met (f x : Addr)
  /-- a range object lo, lo + 1, .. below hi -/
  | rng (lo hi : Int)
  /-- a thing that is known to the object (the script; a dict while a loop walks it): read, never written while it is so -/
  | frz (o : Obj) (u : HO)
  /-- a code object's table -/
  | tbl (ps : Array Value)
  /-- any other thing, by what is true of its one object (a def of one's own: SetO a S n := HO.ext fun h => ..) -/
  | ext (φ : Heap → Prop)

abbrev Hp := Addr → Option HO
def upd (H : Hp) (a : Addr) (o : HO) : Hp := fun b => if b = a then some o else H b
theorem upd_same {H : Hp} {a : Addr} {o : HO} : upd H a o a = some o := by unfold upd; rw [if_pos rfl]
theorem upd_ne {H : Hp} {a b : Addr} {o : HO} (h : b ≠ a) : upd H a o b = H b := by unfold upd; rw [if_neg h]
theorem upd_upd {H : Hp} {a : Addr} {o u : HO} : upd (upd H a o) a u = upd H a u := by
  funext b; unfold upd; split <;> rfl
/-- two objects of different content stand apart -/
theorem ne_of {H : Hp} {a b : Addr} {o u : HO} (h : H a = some o) (h' : H b = some u) (d : o ≠ u) : a ≠ b := by
  intro e; subst e; rw [h] at h'; exact d (Option.some.inj h')
theorem ne_of_none {H : Hp} {a b : Addr} {o : HO} (h : H a = some o) (h' : H b = none) : a ≠ b := by
  intro e; subst e; rw [h] at h'; cases h'

section
variable (P : Program) (w : World)
def ObjOk (H : Hp) (h : Heap) (a : Addr) : HO → Prop
  | .lst xs => xs.length ≤ sizeLine ∧ ∃ (its : List Value) (n : Nat), Vals xs its ∧ h.get? a = some { cls := .type "list", data := .seq its.toArray n }
  | .tup xs => xs.length ≤ sizeLine ∧ ∃ its : List Value, Vals xs its ∧ IsTup h a its.toArray
  | .dK kvs => kvs.length ≤ sizeLine ∧ (a == sysModules) = false ∧ ∃ vs, KV kvs vs ∧ h.DictOf (mixKind P w) a vs
  | .dT kvs => kvs.length ≤ sizeLine ∧ (a == sysModules) = false ∧ ∃ xs : List (List Key × Addr × Value),
      Paired (fun (p : List Key × V) (q : List Key × Addr × Value) => p.1 = q.1 ∧ H q.2.1 = some (.tup (p.1.map kV)) ∧ RelV p.2 q.2.2) kvs xs ∧
      ∃ o es ep, h.get? a = some o ∧ o.ExactDict ∧ o.data = .dict es ep ∧ es.toList = xs.map (entryOfKey (tupleKind (mixKind P w))) ∧ (xs.map (·.1)).Nodup
  | .set S n => h.SetOf (intKind P w) a S n
  | .ins C dx fs => H dx = some (.own a) ∧ fs.length ≤ 1000 ∧ dx ≠ a ∧ h.get? a = some (PySem.W.instObj C dx) ∧
      ∃ mA, h.Ns1 dx mA ∧ (∀ f, RelO (fs.lookup f) (mA f)) ∧ PySem.Within mA (fs.map (·.1))
  | .own _ => ∃ o, h.get? a = some o
  | .xd fs => ∃ mA, h.Ns1 a mA ∧ ∀ f, RelO (fs.lookup f) (mA f)
  | .rng lo hi => ∃ t u v, h.get? a = some { cls := .type "range", data := .fields #[.int lo t, .int hi u, .int 1 v] }
  | .frz o u => h.get? a = some o ∧ ObjOk H h a u
  | .tbl ps => h.get? a = some { cls := .none, data := .fields ps }
  | .met f x => h.get? a = some (PySem.W.methodObj (.ref f) (.ref x))
  | .ext φ => φ h ∧ (∃ o, h.get? a = some o) ∧ ∀ h1 h2 : Heap, φ h1 → (∀ o, h1.get? a = some o → h2.get? a = some o) → φ h2
/-- the abstract heap is held -/
def HOk (H : Hp) (h : Heap) : Prop := ∀ a o, H a = some o → ObjOk P w H h a o
end

section
variable {P : Program} {w : World} {H H' : Hp} {h h' : Heap} {a : Addr} {o : HO}
theorem ObjOk.lt (x : ObjOk P w H h a o) : a < h.objs.size := by
  cases o with
  | lst xs => obtain ⟨_, _, _, _, e⟩ := x; exact Heap.lt_size e
  | tup xs => obtain ⟨_, _, _, p⟩ := x; exact p.lt
  | dK kvs => obtain ⟨_, _, _, _, o, _, _, e, _⟩ := x; exact Heap.lt_size e
  | dT kvs => obtain ⟨_, _, _, _, o, _, _, e, _⟩ := x; exact Heap.lt_size e
  | set S n => obtain ⟨o, _, _, _, e, _⟩ := x; exact Heap.lt_size e
  | ins C dx fs => obtain ⟨_, _, _, e, _⟩ := x; exact Heap.lt_size e
  | own y => obtain ⟨_, e⟩ := x; exact Heap.lt_size e
  | xd fs => obtain ⟨_, ⟨_, _, _, e, _⟩, _⟩ := x; exact Heap.lt_size e
  | rng lo hi => obtain ⟨_, _, _, e⟩ := x; exact Heap.lt_size e
  | frz ob u => obtain ⟨e, _⟩ := x; exact Heap.lt_size e
  | tbl ps => exact Heap.lt_size (show h.get? a = some _ from x)
  | met f y => exact Heap.lt_size (show h.get? a = some _ from x)
  | ext φ => obtain ⟨_, ⟨_, e⟩, _⟩ := x; exact Heap.lt_size e
theorem Paired.mapP {α β : Type} {F G : α → β → Prop} : ∀ {l₁ : List α} {l₂ : List β}, Paired F l₁ l₂ → (∀ a b, F a b → G a b) → Paired G l₁ l₂
  | _, _, .nil, _ => .nil
  | _, _, .cons r t, f => .cons (f _ _ r) (Paired.mapP t f)
theorem Paired.imp' {α β : Type} {F G : α → β → Prop} (f : ∀ a b, F a b → G a b) {l₁ : List α} {l₂ : List β} (r : Paired F l₁ l₂) : Paired G l₁ l₂ := Paired.mapP r f
/-- what an object's description leans on: its own object, its own dict, the tuples -/
theorem ObjOk.stay (x : ObjOk P w H h a o) (k : ∀ b u, (b = a ∨ H b = some (.own a)) → h.get? b = some u → h'.get? b = some u)
    (ho : ∀ b, H b = some (.own a) → H' b = some (.own a)) (ht : ∀ b xs, H b = some (.tup xs) → H' b = some (.tup xs)) : ObjOk P w H' h' a o := by
  induction o with
  | lst xs => obtain ⟨z, its, n, r, e⟩ := x; exact ⟨z, its, n, r, k _ _ (.inl rfl) e⟩
  | tup xs => obtain ⟨z, its, r, ob, e, c⟩ := x; exact ⟨z, its, r, ob, k _ _ (.inl rfl) e, c⟩
  | dK kvs => obtain ⟨z, y, vs, r, ob, es, ep, e, c⟩ := x; exact ⟨z, y, vs, r, ob, es, ep, k _ _ (.inl rfl) e, c⟩
  | dT kvs =>
    obtain ⟨z, y, xs, r, ob, es, ep, e, c⟩ := x
    exact ⟨z, y, xs, Paired.mapP r fun p q z => ⟨z.1, ht _ _ z.2.1, z.2.2⟩, ob, es, ep, k _ _ (.inl rfl) e, c⟩
  | set S n => obtain ⟨ob, es, ep, t, e, c⟩ := x; exact ⟨ob, es, ep, t, k _ _ (.inl rfl) e, c⟩
  | ins C dx fs =>
    obtain ⟨d, z, ne, e, mA, ⟨od, es, ep, e2, c⟩, r⟩ := x
    exact ⟨ho _ d, z, ne, k _ _ (.inl rfl) e, mA, ⟨od, es, ep, k _ _ (.inr d) e2, c⟩, r⟩
  | own y => obtain ⟨ob, e⟩ := x; exact ⟨ob, k _ _ (.inl rfl) e⟩
  | xd fs => obtain ⟨mA, ⟨od, es, ep, e, c⟩, r⟩ := x; exact ⟨mA, ⟨od, es, ep, k _ _ (.inl rfl) e, c⟩, r⟩
  | rng lo hi => obtain ⟨t, u, v, e⟩ := x; exact ⟨t, u, v, k _ _ (.inl rfl) e⟩
  | frz ob u ih => obtain ⟨e, q⟩ := x; exact ⟨k _ _ (.inl rfl) e, ih q⟩
  | tbl ps =>
    have e : h.get? a = some { cls := .none, data := .fields ps } := x
    show h'.get? a = some { cls := .none, data := .fields ps }
    exact k a _ (.inl rfl) e
  | met f y =>
    have e : h.get? a = some (PySem.W.methodObj (.ref f) (.ref y)) := x
    show h'.get? a = some (PySem.W.methodObj (.ref f) (.ref y))
    exact k a _ (.inl rfl) e
  | ext φ => obtain ⟨p, ⟨o, e⟩, st⟩ := x; exact ⟨st _ _ p fun o q => k _ _ (.inl rfl) q, ⟨o, k _ _ (.inl rfl) e⟩, st⟩
theorem HOk.lt (x : HOk P w H h) (e : H a = some o) : a < h.objs.size := (x a o e).lt
theorem HOk.fresh (x : HOk P w H h) (e : h.objs.size ≤ a) : H a = none := by
  cases q : H a with
  | none => rfl
  | some u => exact absurd (Nat.lt_of_lt_of_le (x.lt q) e) (Nat.lt_irrefl _)
/-- every object of the heap is kept -/
theorem HOk.kept (x : HOk P w H h) (k : ∀ b u, h.get? b = some u → h'.get? b = some u) : HOk P w H h' := fun a o e =>
  (x a o e).stay (fun b u _ q => k b u q) (fun _ q => q) fun _ _ q => q
/-- a new object is laid and tracked -/
theorem HOk.laid (x : HOk P w H h) (k : ∀ b u, h.get? b = some u → h'.get? b = some u) (hp : h.objs.size ≤ a) (new : ObjOk P w (upd H a o) h' a o) : HOk P w (upd H a o) h' := fun b u e => by
  have hn := x.fresh hp
  by_cases hb : b = a
  · subst hb; rw [upd_same] at e; cases e; exact new
  · rw [upd_ne hb] at e
    exact (x b u e).stay (fun c v _ q => k c v q) (fun c q => by rw [upd_ne (ne_of_none q hn)]; exact q) fun c xs q => by rw [upd_ne (ne_of_none q hn)]; exact q
end

/-- what may be read as u: it is u, or a known u -/
def Rd (H : Hp) (a : Addr) (u : HO) : Prop := H a = some u ∨ ∃ o, H a = some (.frz o u)
theorem Rd.of {H : Hp} {a : Addr} {u : HO} (h : H a = some u) : Rd H a u := .inl h
theorem Rd.ok {P : Program} {w : World} {H : Hp} {h : Heap} {a : Addr} {u : HO} (r : Rd H a u) (x : HOk P w H h) : ObjOk P w H h a u := by
  rcases r with r | ⟨o, r⟩
  · exact x a u r
  · obtain ⟨_, q⟩ := x a _ r
    exact q
/-- what may be written -/
def Mut : Option HO → Prop
  | some (.lst _) => True
  | some (.dK _) => True
  | some (.dT _) => True
  | some (.set _ _) => True
  | some (.ins _ _ _) => True
  | some (.ext _) => True
  | _ => False
section
variable {P : Program} {w : World} {H : Hp} {h h' : Heap} {x e : Addr} {o' : HO}
/-- the object at e is changed: x itself, or the dict of the instance x -/
theorem HOk.write (ok : HOk P w H h) (mu : Mut (H x)) (he : e = x ∨ H e = some (.own x)) (k : ∀ b u, b ≠ e → h.get? b = some u → h'.get? b = some u) (heo : ∃ u, h'.get? e = some u)
    (new : ObjOk P w (upd H x o') h' x o') : HOk P w (upd H x o') h' := fun b u q => by
  have nown : ∀ c y, H c = some (.own y) → c ≠ x := fun c y r z => by subst z; rw [r] at mu; exact mu
  have ntup : ∀ c xs, H c = some (.tup xs) → c ≠ x := fun c xs r z => by subst z; rw [r] at mu; exact mu
  by_cases hb : b = x
  · subst hb; rw [upd_same] at q; cases q; exact new
  · rw [upd_ne hb] at q
    by_cases hbe : b = e
    · have q' : H b = some (.own x) := by
        rcases he with z | z
        · exact absurd (hbe.trans z) hb
        · rw [hbe]; exact z
      rw [q] at q'; cases q'
      obtain ⟨v, hv⟩ := heo
      exact ⟨v, by rw [hbe]; exact hv⟩
    · refine (ok b u q).stay (fun c v hc r => k c v ?_ r) (fun c r => by rw [upd_ne (nown c b r)]; exact r) fun c xs r => by rw [upd_ne (ntup c xs r)]; exact r
      rcases hc with rfl | hc
      · exact hbe
      · rintro rfl
        rcases he with z | z
        · exact nown c b hc z
        · rw [hc] at z; cases z; exact hb rfl
end

/-! ### kept unless tracked; of the frames at fs (the callers') the slots may change (an exception that passes writes there); of the records at ex (iterators) nothing is said -/
structure Un (fs ex : List Addr) (H H' : Hp) (h h' : Heap) : Prop where
  keep : ∀ b o, h.get? b = some o → H b = none → b ∉ fs → b ∉ ex → h'.get? b = some o
  slot : ∀ b o, h.get? b = some o → H b = none → b ∈ fs → b ∉ ex → ∃ sl, h'.get? b = some { o with slots := sl }
  free : ∀ b o, h.get? b = some o → H b = none → b ∉ ex → H' b = none
  there : ∀ b o, h.get? b = some o → b ∉ ex → ∃ o', h'.get? b = some o'
  tups : ∀ b xs, H b = some (.tup xs) → H' b = some (.tup xs)
  frzs : ∀ b o u, H b = some (.frz o u) → H' b = some (.frz o u)
  tbls : ∀ b ps, H b = some (.tbl ps) → ∃ more, H' b = some (.tbl (ps ++ more))
section
variable {fs fs' ex ex' : List Addr} {H H1 H2 : Hp} {h h1 h2 h' : Heap} {a x e : Addr} {o : HO}
theorem Un.any (u : Un fs ex H H1 h h1) {b : Addr} {ob : Obj} (q : h.get? b = some ob) (n : H b = none) (hx : b ∉ ex) : ∃ sl, h1.get? b = some { ob with slots := sl } := by
  by_cases hb : b ∈ fs
  · exact u.slot b ob q n hb hx
  · exact ⟨ob.slots, u.keep b ob q n hb hx⟩
theorem Un.trans (a : Un fs ex H H1 h h1) (b : Un fs ex H1 H2 h1 h2) : Un fs ex H H2 h h2 where
  keep := fun c ob q n hc hx => b.keep c ob (a.keep c ob q n hc hx) (a.free c ob q n hx) hc hx
  slot := fun c ob q n hc hx => by
    obtain ⟨sl, e1⟩ := a.slot c ob q n hc hx
    obtain ⟨sl', e2⟩ := b.slot c _ e1 (a.free c ob q n hx) hc hx
    exact ⟨sl', e2⟩
  free := fun c ob q n hx => by
    obtain ⟨o', e1⟩ := a.there c ob q hx
    exact b.free c o' e1 (a.free c ob q n hx) hx
  there := fun c ob q hx => by
    obtain ⟨o', e1⟩ := a.there c ob q hx
    exact b.there c o' e1 hx
  tups := fun c xs q => b.tups c xs (a.tups c xs q)
  frzs := fun c ob xs q => b.frzs c ob xs (a.frzs c ob xs q)
  tbls := fun c ps q => by
    obtain ⟨m1, e1⟩ := a.tbls c ps q
    obtain ⟨m2, e2⟩ := b.tbls c _ e1
    exact ⟨m1 ++ m2, by rw [e2, Array.append_assoc]⟩
theorem Un.kept (k : ∀ b u, h.get? b = some u → h'.get? b = some u) : Un fs ex H H h h' :=
  ⟨fun b ob q _ _ _ => k b ob q, fun b ob q _ _ _ => ⟨ob.slots, k b ob q⟩, fun _ _ _ n _ => n, fun b ob q _ => ⟨ob, k b ob q⟩, fun _ _ q => q, fun _ _ _ q => q, fun _ ps q => ⟨#[], by rw [q]; simp⟩⟩
theorem Un.refl : Un fs ex H H h h := Un.kept fun _ _ q => q
theorem Un.laid (k : ∀ b u, h.get? b = some u → h'.get? b = some u) (hp : h.objs.size ≤ a) (hn : H a = none) : Un fs ex H (upd H a o) h h' where
  keep := fun b u q _ _ _ => k b u q
  slot := fun b u q _ _ _ => ⟨u.slots, k b u q⟩
  free := fun b u q n _ => by rw [upd_ne (Nat.ne_of_lt (Nat.lt_of_lt_of_le (Heap.lt_size q) hp))]; exact n
  there := fun b u q _ => ⟨u, k b u q⟩
  tups := fun b xs q => by rw [upd_ne (ne_of_none q hn)]; exact q
  frzs := fun b u xs q => by rw [upd_ne (ne_of_none q hn)]; exact q
  tbls := fun b ps q => ⟨#[], by rw [upd_ne (ne_of_none q hn), q]; simp⟩
theorem Un.write (mu : Mut (H x)) (he : e = x ∨ H e = some (.own x)) (k : ∀ b u, b ≠ e → h.get? b = some u → h'.get? b = some u) (heo : ∃ u, h'.get? e = some u) : Un fs ex H (upd H x o) h h' := by
  have hx : ∀ b, H b = none → b ≠ x := fun b n z => by subst z; rw [n] at mu; exact mu
  have hb : ∀ b, H b = none → b ≠ e := fun b n z => by
    subst z
    rcases he with r | r
    · exact hx b n r
    · rw [n] at r; cases r
  have hm : ∀ b u, H b = some u → ¬ Mut (some u) → b ≠ x := fun b u q nm z => by subst z; rw [q] at mu; exact nm mu
  refine ⟨fun b u q n _ _ => k b u (hb b n) q, fun b u q n _ _ => ⟨u.slots, k b u (hb b n) q⟩, fun b u q n _ => by rw [upd_ne (hx b n)]; exact n, fun b u q _ => ?_,
    fun b xs q => by rw [upd_ne (hm b _ q fun z => z)]; exact q, fun b u xs q => by rw [upd_ne (hm b _ q fun z => z)]; exact q, fun b ps q => ⟨#[], by rw [upd_ne (hm b _ q fun z => z), q]; simp⟩⟩
  by_cases hbe : b = e
  · subst hbe; exact heo
  · exact ⟨u, k b u hbe q⟩
theorem Un.mono (u : Un fs ex H H1 h h1) (hs : ∀ b ∈ fs, b ∈ fs') (hx : ∀ b ∈ ex, b ∈ ex') : Un fs' ex' H H1 h h1 :=
  ⟨fun b ob q n hb he => u.keep b ob q n (fun z => hb (hs b z)) fun z => he (hx b z), fun _ _ q n _ he => u.any q n fun z => he (hx _ z), fun b ob q n he => u.free b ob q n fun z => he (hx b z), fun b ob q he => u.there b ob q fun z => he (hx b z), u.tups, u.frzs, u.tbls⟩
end

/-! ### the heap without what is tracked -/
def trk (h : Heap) (H : Hp) : List Addr := (List.range h.objs.size).filter fun a => (H a).isSome
def hidT (h : Heap) (H : Hp) : Heap := PySem.W.hideAll h (trk h H)
theorem hidT_size (h : Heap) (H : Hp) : (hidT h H).objs.size = h.objs.size := PySem.W.hideAll_size _ _
theorem hidT_get {h : Heap} {H : Hp} {b : Addr} {o : Obj} (e : h.get? b = some o) (n : H b = none) : (hidT h H).get? b = some o :=
  PySem.W.hideAll_get _ e fun hm => by
    have q : (H b).isSome = true := (List.mem_filter.mp hm).2
    rw [n] at q; simp at q
theorem of_hidT {h : Heap} {H : Hp} {b : Addr} {o : Obj} (e : (hidT h H).get? b = some o) : h.get? b = some o ∧ H b = none := by
  have e' : h.get? b = some o := PySem.W.of_hideAll (trk h H) e
  refine ⟨e', ?_⟩
  cases q : H b with
  | none => rfl
  | some x =>
    have hm : b ∈ trk h H := List.mem_filter.mpr ⟨List.mem_range.mpr (Heap.lt_size e'), by simp [q]⟩
    have z : (hidT h H).get? b = none := PySem.W.hideAll_none (trk h H) hm
    rw [z] at e; cases e

/-! ### OpenK's ledger, filled with every new object but one -/
def allNews (g h : Heap) (L : Addr) : List (Addr × Obj) := (List.range h.objs.size).filterMap fun a => if a = L ∨ (g.get? a).isSome = true then none else (h.get? a).map fun o => (a, o)
theorem mem_allNews {g h : Heap} {L a : Addr} {o : Obj} (h1 : a ≠ L) (h2 : g.get? a = none) (h3 : h.get? a = some o) : (a, o) ∈ allNews g h L :=
  List.mem_filterMap.mpr ⟨a, List.mem_range.mpr (Heap.lt_size h3), by simp [h1, h2, h3]⟩
theorem of_mem_allNews {g h : Heap} {L : Addr} {p : Addr × Obj} (hp : p ∈ allNews g h L) : p.1 ≠ L ∧ g.get? p.1 = none ∧ h.get? p.1 = some p.2 := by
  obtain ⟨b, _, e⟩ := List.mem_filterMap.mp hp
  split at e
  · cases e
  · rename_i hn
    cases q : h.get? b with
    | none => rw [q] at e; simp at e
    | some u =>
      rw [q] at e
      simp only [Option.map_some, Option.some.injEq] at e
      subst e
      refine ⟨fun z => hn (.inl z), ?_, q⟩
      show g.get? b = none
      cases r : g.get? b with
      | none => rfl
      | some v => exact (hn (.inr (by simp [r]))).elim
def rest (g h : Heap) (L d : Addr) : List (Addr × Obj) := (allNews g h L).filter fun p => decide (p.1 ≠ d)
theorem rest_ne {g h : Heap} {L d : Addr} : ∀ p ∈ rest g h L d, p.1 ≠ d := fun p hp => of_decide_eq_true (List.mem_filter.mp hp).2
theorem mem_rest {g h : Heap} {L d a : Addr} {o : Obj} (h1 : a ≠ L) (h2 : g.get? a = none) (h3 : h.get? a = some o) (h4 : a ≠ d) : (a, o) ∈ rest g h L d :=
  List.mem_filter.mpr ⟨mem_allNews h1 h2 h3, decide_eq_true h4⟩
theorem news_all {g h : Heap} {L : Addr} : News g L h (allNews g h L) := fun p hp => let ⟨a, b, c⟩ := of_mem_allNews hp; ⟨c, a, b⟩
theorem news_at {g h : Heap} {L d : Addr} {o : Obj} (h1 : d ≠ L) (h2 : g.get? d = none) (h3 : h.get? d = some o) : News g L h ((d, o) :: rest g h L d) := fun p hp => by
  rcases List.mem_cons.mp hp with rfl | hp
  · exact ⟨h3, h1, h2⟩
  · exact news_all p (List.mem_filter.mp hp).1
/-- behind a rule that changed d alone: all else but the frame is kept -/
theorem kept_of_news {g h h' : Heap} {L d : Addr} {m : Str → Option Value} (k : ∀ b o, g.get? b = some o → h.get? b = some o) (F : Fr g L h' m) (N : News g L h' (rest g h L d)) :
    ∀ b o, b ≠ L → b ≠ d → h.get? b = some o → h'.get? b = some o := fun b o h1 h2 e => by
  cases q : g.get? b with
  | some u =>
    have := k b u q
    rw [e] at this; cases this
    exact F.keep b _ q
  | none => exact (N (b, o) (mem_rest h1 q e h2)).1
end L2

namespace L2
open PySem PySem.Spec PyProof.Rows

/-- the module's facts, over the base: the heap at the law's entry without what is tracked there -/
structure Mod (K : PySem.W.Frag) (mg : Str → Option Value) (base : Heap) : Prop where
  kin : K.In base
  glob : base.Ns mainGlobals mg
  blt : ∃ mb, base.Ns builtinsNs mb ∧ ∀ x : Str, x ≠ "__name__" → mb x = bootBuiltins x
  nolimit : base.NoLimit

/-- the context: a def's body (or a comprehension's block) running. base: fixed through the whole law; s₀, H₀: the entry; outer: the frames whose slots others may change (a def's callers); stack: all frames that run;
   ex: iterators that were made ahead of the entry and are walked here (a comprehension's); fn: the names whose cells were made at the entry (a def: all; a comprehension's block: its own); calm: not within an except suite; pn: pins that every state bears; xe: what is wanted of an exception that leaves the code -/
structure Cx where
  prog : Program
  w : World
  K : PySem.W.Frag
  mg : Str → Option Value
  base : Heap
  A : Around
  N : List Str
  s_0 : Shared
  H_0 : Hp
  env : Env
  outer : List Env
  stack : List Env
  ex : List Addr
  fn : Str → Bool
  calm : Bool
  pn : List (Addr × Obj)
  xe : Value → Shared → Prop
/-- the callers' frames -/
def frs (l : List Env) : List Addr := l.filterMap (·.frame)
abbrev Cx.fs (X : Cx) : List Addr := frs X.outer

def Vis (sc : Scope) (x : Str) : Prop := sc.names.lookup x = some .local ∨ sc.names.lookup x = some .cell ∨ sc.names.lookup x = some .free
def Loc (sc : Scope) (x : Str) : Prop := sc.names.lookup x = some .local ∨ sc.names.lookup x = some .cell
def Look (env : Env) (h : Heap) (m : Str → Option Value) (x : Str) (u : Value) : Prop :=
  (env.kindOf x = some .local ∧ m x = some u) ∨ ((env.kindOf x = some .cell ∨ env.kindOf x = some .free) ∧ ∃ c, env.cells.lookup x = some c ∧ h.IsCell c (some u))

structure Cx.Ok (X : Cx) : Prop where
  mod : Mod X.K X.mg X.base
  kind : X.env.scope.kind = .function
  glob : X.env.globals = mainGlobals
  blt : X.env.builtins = builtinsNs
  above : X.s_0.heap.objs.size ≤ X.env.locals
  inj : ∀ x y c, X.env.cells.lookup x = some c → X.env.cells.lookup y = some c → x = y
  has : ∀ x, (X.env.kindOf x = some .cell ∨ X.env.kindOf x = some .free) → ∃ c, X.env.cells.lookup x = some c
  cab : ∀ x c, X.fn x = true → X.env.cells.lookup x = some c → X.s_0.heap.objs.size ≤ c
  hd : X.calm = true → X.A.handled = none
  frames : X.A.frames = some X.stack
  stk : X.stack = X.outer ∨ (X.stack = X.env :: X.outer ∧ X.env.frame = some X.env.locals)
  exf : ∀ b ∈ X.ex, b ≠ X.env.locals ∧ ∀ x c, X.env.cells.lookup x = some c → c ≠ b
  bs : ∀ b o, X.base.get? b = some o → X.s_0.heap.get? b = some o ∧ X.H_0 b = none
  bsz : X.base.objs.size ≤ X.s_0.heap.objs.size
  noex : ∀ b o, X.base.get? b = some o → b ∉ X.ex
  exfs : ∀ b ∈ X.ex, b ∉ X.fs
  funs : X.s_0.heap.FunFrames X.base X.outer
  frf : ∀ b ∈ X.fs, X.H_0 b = none

structure Inv (X : Cx) (pins : List (Addr × Obj)) (σ : List (Option V)) (H : Hp) (s : Shared) : Prop where
  ok : X.Ok
  os : s.os = X.s_0.os
  bare : AllBare s.gens
  base : Un X.fs X.ex X.H_0 H X.s_0.heap s.heap
  loc : ∃ m, s.heap.Ns X.env.locals m ∧ ∀ (i : Nat) (x : Str) (v : V), X.N[i]? = some x → σ[i]? = some (some v) → Vis X.env.scope x → ∃ u, RelV v u ∧ Look X.env s.heap m x u
  cell : ∀ x c, X.env.cells.lookup x = some c → ∃ v, s.heap.IsCell c v
  free : H X.env.locals = none
  freeC : ∀ x c, X.env.cells.lookup x = some c → H c = none
  pin : ∀ p ∈ X.pn ++ pins, s.heap.get? p.1 = some p.2 ∧ H p.1 = none ∧ p.1 ≠ X.env.locals ∧ p.1 ∉ X.fs ∧ ∀ v, p.2.data ≠ .cell v
  hok : HOk X.prog X.w H s.heap
  len : σ.length = X.N.length

section
variable {X : Cx} {pins : List (Addr × Obj)} {σ : List (Option V)} {H H' : Hp} {s : Shared} {h' : Heap}

theorem Cx.Ok.nofr (ok : X.Ok) {b : Addr} {o : Obj} (e : X.base.get? b = some o) : b ∉ X.fs := fun hb => by
  have := (ok.funs.mem hb).1
  rw [e] at this; cases this
theorem Inv.bs (I : Inv X pins σ H s) : ∀ b o, X.base.get? b = some o → s.heap.get? b = some o ∧ H b = none := fun b o e =>
  ⟨I.base.keep b o (I.ok.bs b o e).1 (I.ok.bs b o e).2 (I.ok.nofr e) (I.ok.noex b o e), I.base.free b o (I.ok.bs b o e).1 (I.ok.bs b o e).2 (I.ok.noex b o e)⟩
theorem Inv.bk (I : Inv X pins σ H s) : ∀ b o, X.base.get? b = some o → s.heap.get? b = some o := fun b o e => (I.bs b o e).1
theorem Inv.mod (I : Inv X pins σ H s) : Mod X.K X.mg X.base := I.ok.mod
theorem Inv.kIn (I : Inv X pins σ H s) : X.K.In s.heap := I.ok.mod.kin.keeps I.bk
theorem Inv.nolimit (I : Inv X pins σ H s) : s.heap.NoLimit := I.ok.mod.nolimit.keeps I.bk
/-- the frame over the base: for OpenK's rules (K.In X.base is I.mod.kin) -/
theorem Inv.fr (I : Inv X pins σ H s) : ∃ m, Fr X.base X.env.locals s.heap m :=
  let ⟨m, hn, _⟩ := I.loc
  ⟨m, hn, I.bk, Nat.le_trans I.ok.bsz I.ok.above⟩
theorem Inv.lt (I : Inv X pins σ H s) : X.env.locals < s.heap.objs.size := let ⟨_, hn, _⟩ := I.loc; hn.lt
theorem Inv.sz (I : Inv X pins σ H s) : X.s_0.heap.objs.size ≤ s.heap.objs.size := Nat.le_trans I.ok.above (Nat.le_of_lt I.lt)
theorem Inv.nofs (I : Inv X pins σ H s) {a : Addr} (h : s.heap.objs.size ≤ a) : a ∉ X.fs := fun hb => by
  obtain ⟨_, o, ho, _⟩ := I.ok.funs.mem hb
  exact absurd (Nat.lt_of_lt_of_le (Heap.lt_size ho) (Nat.le_trans I.sz h)) (Nat.lt_irrefl _)
theorem Inv.cne (I : Inv X pins σ H s) : ∀ x c, X.env.cells.lookup x = some c → c ≠ X.env.locals := fun x c e z => by
  obtain ⟨v, o, ho, hd⟩ := I.cell x c e
  obtain ⟨m, ⟨o', es, ep, ho', hd', _⟩, _⟩ := I.loc
  rw [z, ho'] at ho; cases ho; rw [hd'] at hd; cases hd
theorem Inv.funs (I : Inv X pins σ H s) : s.heap.FunFrames X.base X.outer := by
  have all : ∀ (l : List Env), (∀ b ∈ frs l, b ∈ X.fs) → X.s_0.heap.FunFrames X.base l → s.heap.FunFrames X.base l := by
    intro l
    induction l with
    | nil => intro _ _; trivial
    | cons env r ih =>
      intro hs hl
      obtain ⟨hk, ⟨L, o, hf, hn, ho, hd⟩, hr⟩ := hl
      have hL : L ∈ X.fs := hs L (by unfold frs; rw [List.filterMap_cons, hf]; exact List.mem_cons_self)
      obtain ⟨sl, e⟩ := I.base.slot L o ho (I.ok.frf L hL) hL fun z => I.ok.exfs L z hL
      exact ⟨hk, ⟨L, _, hf, hn, e, hd⟩, ih (fun b hb => hs b (by unfold frs; rw [List.filterMap_cons, hf]; exact List.mem_cons_of_mem _ hb)) hr⟩
  exact all X.outer (fun _ hb => hb) I.ok.funs

/-- the frames that run, for a call -/
theorem Inv.stack (I : Inv X pins σ H s) : s.heap.FunFrames X.base X.stack := by
  rcases I.ok.stk with e | ⟨e, hf⟩
  · rw [e]; exact I.funs
  · rw [e]
    obtain ⟨m, hn, _⟩ := I.loc
    refine .cons (by rw [I.ok.kind]; decide) hf hn ?_ I.funs
    exact Heap.get?_none_of_le (Nat.le_trans I.ok.bsz I.ok.above)
theorem Inv.stkSub (I : Inv X pins σ H s) : ∀ b ∈ frs X.stack, b ∈ X.env.locals :: X.fs := fun b hb => by
  rcases I.ok.stk with e | ⟨e, hf⟩
  · rw [e] at hb; exact List.mem_cons_of_mem _ hb
  · rw [e] at hb
    unfold frs at hb
    rw [List.filterMap_cons, hf] at hb
    exact hb
theorem Inv.stkFree (I : Inv X pins σ H s) : ∀ b ∈ frs X.stack, H b = none := fun b hb => by
  rcases List.mem_cons.mp (I.stkSub b hb) with e | hb
  · rw [e]; exact I.free
  · obtain ⟨_, o, ho, _⟩ := I.ok.funs.mem hb
    exact I.base.free b o ho (I.ok.frf b hb) fun z => I.ok.exfs b z hb

/-- THE STEP: the untracked objects but the frame and the records at ch are kept (the callers' frames up to slots), the frame's map is kept, the new abstract heap is held -/
theorem Inv.step {g' : Array GenState} {t' : Nat} {d' : Drawn} {ch : List Addr} (I : Inv X pins σ H s)
    (hch : ∀ b ∈ ch, (b ∈ X.ex ∨ X.s_0.heap.objs.size ≤ b) ∧ b ≠ X.env.locals ∧ (∀ x c, X.env.cells.lookup x = some c → c ≠ b) ∧ ∀ p ∈ X.pn ++ pins, p.1 ≠ b)
    (keep : ∀ b o, b ≠ X.env.locals → b ∉ X.fs → b ∉ ch → s.heap.get? b = some o → H b = none → h'.get? b = some o)
    (slot : ∀ b o, b ≠ X.env.locals → b ∈ X.fs → b ∉ ch → s.heap.get? b = some o → H b = none → ∃ sl, h'.get? b = some { o with slots := sl }) (free : ∀ b o, b ∉ ch → s.heap.get? b = some o → H b = none → H' b = none)
    (there : ∀ b o, b ∉ ch → s.heap.get? b = some o → ∃ o', h'.get? b = some o')
    (tups : ∀ b xs, H b = some (.tup xs) → H' b = some (.tup xs)) (frzs : ∀ b o u, H b = some (.frz o u) → H' b = some (.frz o u)) (tbls : ∀ b ps, H b = some (.tbl ps) → ∃ more, H' b = some (.tbl (ps ++ more)))
    (ns : ∀ m, s.heap.Ns X.env.locals m → h'.Ns X.env.locals m) (hok : HOk X.prog X.w H' h') (hg : AllBare g') :
    Inv X pins σ H' { s with heap := h', gens := g', drawn := d', toks := t' } := by
  have neL : ∀ b o, X.s_0.heap.get? b = some o → b ≠ X.env.locals := fun b o e => Nat.ne_of_lt (Nat.lt_of_lt_of_le (Heap.lt_size e) I.ok.above)
  have neC : ∀ b o, X.s_0.heap.get? b = some o → b ∉ X.ex → b ∉ ch := fun b o e hx hb => by
    rcases (hch b hb).1 with z | z
    · exact hx z
    · exact absurd (Nat.lt_of_lt_of_le (Heap.lt_size e) z) (Nat.lt_irrefl _)
  have cellK : ∀ x c, X.env.cells.lookup x = some c → ∀ v, s.heap.IsCell c v → h'.IsCell c v := fun x c e v ⟨o, ho, hd⟩ => by
    have nch : c ∉ ch := fun z => (hch c z).2.2.1 x c e rfl
    by_cases hc : c ∈ X.fs
    · obtain ⟨sl, q⟩ := slot c o (I.cne x c e) hc nch ho (I.freeC x c e)
      exact ⟨_, q, hd⟩
    · exact ⟨o, keep c o (I.cne x c e) hc nch ho (I.freeC x c e), hd⟩
  refine ⟨I.ok, I.os, hg, ⟨fun b o e n hb hx => ?_, fun b o e n hb hx => ?_, fun b o e n hx => ?_, fun b o e hx => ?_, fun b xs e => tups b xs (I.base.tups b xs e), fun b o xs e => frzs b o xs (I.base.frzs b o xs e), fun b ps e => ?_⟩, ?_, fun x c e => ?_, ?_, fun x c e => ?_, fun p hp => ?_, hok, I.len⟩
  · exact keep b o (neL b o e) hb (neC b o e hx) (I.base.keep b o e n hb hx) (I.base.free b o e n hx)
  · obtain ⟨sl, e1⟩ := I.base.slot b o e n hb hx
    obtain ⟨sl', e2⟩ := slot b _ (neL b o e) hb (neC b o e hx) e1 (I.base.free b o e n hx)
    exact ⟨sl', e2⟩
  · obtain ⟨o', e1⟩ := I.base.there b o e hx
    exact free b o' (neC b o e hx) e1 (I.base.free b o e n hx)
  · obtain ⟨o', e1⟩ := I.base.there b o e hx
    exact there b o' (neC b o e hx) e1
  · obtain ⟨m1, e1⟩ := I.base.tbls b ps e
    obtain ⟨m2, e2⟩ := tbls b _ e1
    exact ⟨m1 ++ m2, by rw [e2, Array.append_assoc]⟩
  · obtain ⟨m, hn, hl⟩ := I.loc
    refine ⟨m, ns m hn, fun i x v e1 e2 e3 => ?_⟩
    obtain ⟨u, r, l⟩ := hl i x v e1 e2 e3
    refine ⟨u, r, ?_⟩
    rcases l with l | ⟨k, c, e, z⟩
    · exact .inl l
    · exact .inr ⟨k, c, e, cellK x c e _ z⟩
  · obtain ⟨v, z⟩ := I.cell x c e
    exact ⟨v, cellK x c e v z⟩
  · obtain ⟨m, ⟨o, _, _, ho, _⟩, _⟩ := I.loc
    exact free _ o (fun z => (hch _ z).2.1 rfl) ho I.free
  · obtain ⟨v, o, ho, hd⟩ := I.cell x c e
    exact free c o (fun z => (hch c z).2.2.1 x c e rfl) ho (I.freeC x c e)
  · obtain ⟨e, n, ne, nf, d⟩ := I.pin p hp
    have nch : p.1 ∉ ch := fun z => (hch p.1 z).2.2.2 p hp rfl
    exact ⟨keep p.1 p.2 ne nf nch e n, free p.1 p.2 nch e n, ne, nf, d⟩
/-- .. where the frame's own object is kept too -/
theorem Inv.un {t' : Nat} (I : Inv X pins σ H s) (u : Un X.fs [] H H' s.heap h') (hok : HOk X.prog X.w H' h') : Inv X pins σ H' { s with heap := h', toks := t' } := by
  obtain ⟨m, ⟨o, es, ep, ho, r⟩, _⟩ := id I.loc
  obtain ⟨sl, hL⟩ := u.any ho I.free (by simp)
  exact I.step (g' := s.gens) (d' := s.drawn) (ch := []) (fun _ z => nomatch z) (fun b o _ hb _ e n => u.keep b o e n hb (by simp)) (fun b o _ hb _ e n => u.slot b o e n hb (by simp)) (fun b o _ e n => u.free b o e n (by simp)) (fun b o _ e => u.there b o e (by simp)) u.tups u.frzs u.tbls (fun m' hm => by
    obtain ⟨o', es', ep', ho', r'⟩ := hm
    rw [ho] at ho'; cases ho'
    exact ⟨_, es', ep', hL, r'⟩) hok I.bare
/-- behind a call (or a comprehension's block): the slots of this frame may have changed too, the records at ch may have turned -/
theorem Inv.call {g' : Array GenState} {t' : Nat} {d' : Drawn} {ch : List Addr} (I : Inv X pins σ H s) (u : Un (frs X.stack) ch H H' s.heap h') (hok : HOk X.prog X.w H' h') (hg : AllBare g')
    (hch : ∀ b ∈ ch, (b ∈ X.ex ∨ X.s_0.heap.objs.size ≤ b) ∧ b ≠ X.env.locals ∧ (∀ x c, X.env.cells.lookup x = some c → c ≠ b) ∧ ∀ p ∈ X.pn ++ pins, p.1 ≠ b) :
    Inv X pins σ H' { s with heap := h', gens := g', drawn := d', toks := t' } := by
  obtain ⟨m, ⟨o, es, ep, ho, r⟩, _⟩ := id I.loc
  obtain ⟨sl, hL⟩ := u.any ho I.free fun z => (hch _ z).2.1 rfl
  exact I.step (ch := ch) hch (fun b o hL hb hc e n => u.keep b o e n (fun z => (List.mem_cons.mp (I.stkSub b z)).elim hL hb) hc) (fun b o _ _ hc e n => u.any e n hc) (fun b o hc e n => u.free b o e n hc) (fun b o hc e => u.there b o e hc) u.tups u.frzs u.tbls (fun m' hm => by
    obtain ⟨o', es', ep', ho', r'⟩ := hm
    rw [ho] at ho'; cases ho'
    exact ⟨_, es', ep', hL, r'⟩) hok hg
/-- an untracked record of ours (an iterator) has turned -/
theorem Inv.turned {t' : Nat} {it : Addr} (I : Inv X pins σ H s) (k : ∀ b o, b ≠ it → s.heap.get? b = some o → h'.get? b = some o) (hn : H it = none) (hL : it ≠ X.env.locals)
    (h1 : it ∈ X.ex ∨ X.s_0.heap.objs.size ≤ it) (h2 : ∀ x c, X.env.cells.lookup x = some c → c ≠ it) (h3 : ∀ p ∈ X.pn ++ pins, p.1 ≠ it) : Inv X pins σ H { s with heap := h', toks := t' } := by
  have nit : ∀ b u, H b = some u → b ≠ it := fun b u e z => by rw [z, hn] at e; cases e
  refine I.step (g' := s.gens) (d' := s.drawn) (ch := [it]) (fun b hb => ?_) (fun b o _ _ hc e _ => k b o (fun z => hc (by simp [z])) e) (fun b o _ _ hc e _ => ⟨o.slots, k b o (fun z => hc (by simp [z])) e⟩) (fun _ _ _ _ n => n)
    (fun b o hc e => ⟨o, k b o (fun z => hc (by simp [z])) e⟩) (fun _ _ e => e) (fun _ _ _ e => e) (fun b ps e => ⟨#[], by rw [e]; simp⟩) (fun m hm => ?_) (fun b u e => ?_) I.bare
  · have e : b = it := by simpa using hb
    subst e
    exact ⟨h1, hL, h2, h3⟩
  · obtain ⟨o, es, ep, ho, r⟩ := hm
    exact ⟨o, es, ep, k _ o (Ne.symm hL) ho, r⟩
  · refine (I.hok b u e).stay (fun c v hc q => k c v ?_ q) (fun _ q => q) fun _ _ q => q
    rcases hc with z | z
    · rw [z]; exact nit b u e
    · exact nit c _ z
theorem Inv.tok (I : Inv X pins σ H s) (t : Nat) : Inv X pins σ H { s with toks := t } := I.un (h' := s.heap) (t' := t) Un.refl I.hok
/-- all objects kept -/
theorem Inv.kept {t' : Nat} (I : Inv X pins σ H s) (k : ∀ b u, s.heap.get? b = some u → h'.get? b = some u) : Inv X pins σ H { s with heap := h', toks := t' } := I.un (Un.kept k) (I.hok.kept k)
/-- a new object laid and tracked -/
theorem Inv.laid {a : Addr} {o : HO} {t' : Nat} (I : Inv X pins σ H s) (k : ∀ b u, s.heap.get? b = some u → h'.get? b = some u) (hp : s.heap.objs.size ≤ a) (new : ObjOk X.prog X.w (upd H a o) h' a o) :
    Inv X pins σ (upd H a o) { s with heap := h', toks := t' } := I.un (Un.laid k hp (I.hok.fresh hp)) (I.hok.laid k hp new)
/-- an object written -/
theorem Inv.write {x e : Addr} {o : HO} {t' : Nat} (I : Inv X pins σ H s) (mu : Mut (H x)) (he : e = x ∨ H e = some (.own x)) (k : ∀ b u, b ≠ e → s.heap.get? b = some u → h'.get? b = some u) (heo : ∃ u, h'.get? e = some u)
    (new : ObjOk X.prog X.w (upd H x o) h' x o) : Inv X pins σ (upd H x o) { s with heap := h', toks := t' } := I.un (Un.write mu he k heo) (I.hok.write mu he k heo new)
/-- forgetting slots, pins -/
theorem Inv.weak {σ' : List (Option V)} (I : Inv X pins σ H s) (hl : σ'.length = σ.length) (w : ∀ (i : Nat) v, σ'[i]? = some (some v) → σ[i]? = some (some v)) : Inv X pins σ' H s :=
  ⟨I.ok, I.os, I.bare, I.base, let ⟨m, hn, hl'⟩ := I.loc; ⟨m, hn, fun i x v e1 e2 e3 => hl' i x v e1 (w i v e2) e3⟩, I.cell, I.free, I.freeC, I.pin, I.hok, hl.trans I.len⟩
theorem Inv.pins_of {pins' : List (Addr × Obj)} (I : Inv X pins σ H s) (h : ∀ p ∈ pins', s.heap.get? p.1 = some p.2 ∧ H p.1 = none ∧ p.1 ≠ X.env.locals ∧ p.1 ∉ X.fs ∧ ∀ v, p.2.data ≠ .cell v) : Inv X pins' σ H s :=
  ⟨I.ok, I.os, I.bare, I.base, I.loc, I.cell, I.free, I.freeC, fun p hp => (List.mem_append.mp hp).elim (fun z => I.pin p (List.mem_append_left _ z)) (h p), I.hok, I.len⟩

theorem nodup_ix {N : List Str} (hN : N.Nodup) {i j : Nat} {x : Str} (a : N[i]? = some x) (b : N[j]? = some x) : i = j := by
  obtain ⟨h1, e1⟩ := List.getElem?_eq_some_iff.mp a
  obtain ⟨h2, e2⟩ := List.getElem?_eq_some_iff.mp b
  exact (List.getElem_inj hN).mp (e1.trans e2.symm)

/-- a name is stored; what changed -/
theorem store_ok2 {M : Model} {A : Around} {E : Value → Shared → Prop} {i : Nat} {x : Str} {v : V} {u : Value} {Q : Unit → Shared → Prop} (I : Inv X pins σ H s) (hN : X.N.Nodup) (hi : X.N[i]? = some x) (hx : Loc X.env.scope x) (r : RelV v u)
    (h : ∀ s', Inv X pins (σ.set i (some v)) H s' → (∃ a, Heap.SameBut a s.heap s'.heap ∧ (a = X.env.locals ∨ X.env.cells.lookup x = some a)) → Q () s') (hf : X.fn x = true ∨ X.env.scope.names.lookup x = some .local := by first | exact .inl rfl | exact .inr rfl | assumption) : wpAny M A (storeName X.env x u) Q E s := by
  obtain ⟨m, hn, hl⟩ := id I.loc
  have hcls : (X.env.scope.kind == .class || (X.env.scope.kind == .module && X.env.locals != X.env.globals)) = false := by rw [I.ok.kind]; rfl
  have hiσ : i < σ.length := by rw [I.len]; exact (List.getElem?_eq_some_iff.mp hi).1
  have cne := I.cne
  have tracked : ∀ {a : Addr} {h' : Heap}, (∃ o, s.heap.get? a = some o ∧ H a = none) → Heap.SameBut a s.heap h' → HOk X.prog X.w H h' := fun {a h'} ha hs b ob e => by
    obtain ⟨_, _, hfree⟩ := ha
    refine (I.hok b ob e).stay (fun c w' hc q => (hs.2 c ?_).trans q) (fun _ q => q) fun _ _ q => q
    rintro rfl
    rcases hc with rfl | hc
    · rw [hfree] at e; cases e
    · rw [hfree] at hc; cases hc
  rcases hx with hk | hk
  · refine wpAny_storeName_local hk hn (fun h' hn' hs => ?_) hcls
    obtain ⟨oL, _, _, hoL, _⟩ := id hn
    refine h _ ⟨I.ok, I.os, I.bare, ⟨fun b o e n hb hx => ?_, fun b o e n hb hx => ?_, I.base.free, fun b o e hx => ?_, I.base.tups, I.base.frzs, I.base.tbls⟩, ⟨_, hn', fun j y v' e1 e2 e3 => ?_⟩, fun y c e => ?_, I.free, I.freeC, fun p hp => ?_, tracked ⟨oL, hoL, I.free⟩ hs, by simpa using I.len⟩ ⟨_, hs, .inl rfl⟩
    · exact (hs.2 b (Nat.ne_of_lt (Nat.lt_of_lt_of_le (Heap.lt_size e) I.ok.above))).trans (I.base.keep b o e n hb hx)
    · obtain ⟨sl, e1⟩ := I.base.slot b o e n hb hx
      exact ⟨sl, (hs.2 b (Nat.ne_of_lt (Nat.lt_of_lt_of_le (Heap.lt_size e) I.ok.above))).trans e1⟩
    · obtain ⟨o', e1⟩ := I.base.there b o e hx
      exact ⟨o', (hs.2 b (Nat.ne_of_lt (Nat.lt_of_lt_of_le (Heap.lt_size e) I.ok.above))).trans e1⟩
    · by_cases hj : j = i
      · subst hj
        rw [hi] at e1; cases e1
        rw [List.getElem?_set_self hiσ] at e2
        cases e2
        exact ⟨u, r, .inl ⟨hk, by simp⟩⟩
      · rw [List.getElem?_set_ne (Ne.symm hj)] at e2
        obtain ⟨u', r', q⟩ := hl j y v' e1 e2 e3
        refine ⟨u', r', ?_⟩
        rcases q with ⟨k, e⟩ | ⟨k, c, e, z⟩
        · refine .inl ⟨k, ?_⟩
          have : y ≠ x := fun e => hj (nodup_ix hN e1 (e ▸ hi))
          simp [this, e]
        · exact .inr ⟨k, c, e, z.sameBut hs (cne y c e)⟩
    · obtain ⟨w', z⟩ := I.cell y c e
      exact ⟨w', z.sameBut hs (cne y c e)⟩
    · obtain ⟨e, n, ne, nf, d⟩ := I.pin p hp
      exact ⟨(hs.2 p.1 ne).trans e, n, ne, nf, d⟩
  · have hfn : X.fn x = true := by
      rcases hf with z | z
      · exact z
      · rw [z] at hk; cases hk
    obtain ⟨c, hc⟩ := I.ok.has x (.inl hk)
    obtain ⟨w', z⟩ := I.cell x c hc
    refine wpAny_storeName_cell I.ok.kind hk hc z (fun h' hc' hs => ?_)
    obtain ⟨oc, hoc, hocd⟩ := id z
    refine h { s with heap := h' } ⟨I.ok, I.os, I.bare, ⟨fun b o e n hb hx => ?_, fun b o e n hb hx => ?_, I.base.free, fun b o e hx => ?_, I.base.tups, I.base.frzs, I.base.tbls⟩, ⟨m, hn.sameBut hs (Ne.symm (cne x c hc)), fun j y v' e1 e2 e3 => ?_⟩, fun y c' e => ?_, I.free, I.freeC, fun p hp => ?_, tracked ⟨oc, hoc, I.freeC x c hc⟩ hs, by simpa using I.len⟩ ⟨c, hs, .inr hc⟩
    · exact (hs.2 b (Nat.ne_of_lt (Nat.lt_of_lt_of_le (Heap.lt_size e) (I.ok.cab x c hfn hc)))).trans (I.base.keep b o e n hb hx)
    · obtain ⟨sl, e1⟩ := I.base.slot b o e n hb hx
      exact ⟨sl, (hs.2 b (Nat.ne_of_lt (Nat.lt_of_lt_of_le (Heap.lt_size e) (I.ok.cab x c hfn hc)))).trans e1⟩
    · obtain ⟨o', e1⟩ := I.base.there b o e hx
      exact ⟨o', (hs.2 b (Nat.ne_of_lt (Nat.lt_of_lt_of_le (Heap.lt_size e) (I.ok.cab x c hfn hc)))).trans e1⟩
    · by_cases hj : j = i
      · subst hj
        rw [hi] at e1; cases e1
        rw [List.getElem?_set_self hiσ] at e2
        cases e2
        exact ⟨u, r, .inr ⟨.inl hk, c, hc, hc'⟩⟩
      · rw [List.getElem?_set_ne (Ne.symm hj)] at e2
        obtain ⟨u', r', q⟩ := hl j y v' e1 e2 e3
        refine ⟨u', r', ?_⟩
        rcases q with q | ⟨k, c', e, z'⟩
        · exact .inl q
        · refine .inr ⟨k, c', e, z'.sameBut hs ?_⟩
          rintro rfl
          exact hj (nodup_ix hN e1 (I.ok.inj _ _ _ e hc ▸ hi))
    · by_cases hcc : c' = c
      · subst hcc; exact ⟨_, hc'⟩
      · obtain ⟨w2, z2⟩ := I.cell y c' e
        exact ⟨w2, z2.sameBut hs hcc⟩
    · obtain ⟨e, n, ne, nf, d⟩ := I.pin p hp
      refine ⟨(hs.2 p.1 ?_).trans e, n, ne, nf, d⟩
      intro q
      rw [q, hoc] at e
      have q' : oc = p.2 := Option.some.inj e
      exact d w' (by rw [← q']; exact hocd)
theorem store_ok {M : Model} {A : Around} {E : Value → Shared → Prop} {i : Nat} {x : Str} {v : V} {u : Value} {Q : Unit → Shared → Prop} (I : Inv X pins σ H s) (hN : X.N.Nodup) (hi : X.N[i]? = some x) (hx : Loc X.env.scope x) (r : RelV v u)
    (h : ∀ s', Inv X pins (σ.set i (some v)) H s' → Q () s') (hf : X.fn x = true ∨ X.env.scope.names.lookup x = some .local := by first | exact .inl rfl | exact .inr rfl | assumption) : wpAny M A (storeName X.env x u) Q E s :=
  store_ok2 I hN hi hx r (fun s' I' _ => h s' I') hf
/-- behind a call or a block, the state as it is -/
theorem Inv.call' {s' : Shared} {ch : List Addr} (I : Inv X pins σ H s) (ho : s'.os = s.os) (u : Un (frs X.stack) ch H H' s.heap s'.heap) (hok : HOk X.prog X.w H' s'.heap) (hg : AllBare s'.gens)
    (hch : ∀ b ∈ ch, (b ∈ X.ex ∨ X.s_0.heap.objs.size ≤ b) ∧ b ≠ X.env.locals ∧ (∀ x c, X.env.cells.lookup x = some c → c ≠ b) ∧ ∀ p ∈ X.pn ++ pins, p.1 ≠ b) : Inv X pins σ H' s' := by
  obtain ⟨h', g', d', t', o'⟩ := s'
  have e : o' = s.os := ho
  subst e
  exact I.call (g' := g') (t' := t') (d' := d') u hok hg hch
end

/-! ### the judgements -/
/-- an exception: its class, its own dict's address (where it has one), the abstract heap behind it -/
abbrev XK := Value → Option Addr → Hp → Prop
abbrev St := List (Option V)
abbrev VK := V → Hp → Prop
/-- an expression's reading; a test's; an argument list's -/
abbrev TE := St → Hp → VK → Prop
abbrev TT := St → Hp → (Bool → Hp → Prop) → Prop
abbrev TA := St → Hp → (List V → Hp → Prop) → Prop
/-- what is wanted behind a statement -/
structure Ends where
  nx : St → Hp → Prop
  rt : VK
  bk : St → Hp → Prop := fun _ _ => False
  ct : St → Hp → Prop := fun _ _ => False
abbrev TS := Ends → St → Hp → Prop

def EP (X : Cx) (pins : List (Addr × Obj)) (σ : St) (Q : VK) (u : Value) (s' : Shared) : Prop := ∃ v H', Inv X pins σ H' s' ∧ RelV v u ∧ Q v H'
def TP (X : Cx) (pins : List (Addr × Obj)) (σ : St) (Q : Bool → Hp → Prop) (b : Bool) (s' : Shared) : Prop := ∃ H', Inv X pins σ H' s' ∧ Q b H'
def AP (X : Cx) (pins : List (Addr × Obj)) (σ : St) (Q : List V → Hp → Prop) (us : List Value) (s' : Shared) : Prop := ∃ vs H', Inv X pins σ H' s' ∧ Vals vs us ∧ Q vs H'
def SP (X : Cx) (pins : List (Addr × Obj)) (D : Ends) (f : Flow) (s' : Shared) : Prop :=
  match f with
  | .next => ∃ σ' H', Inv X pins σ' H' s' ∧ D.nx σ' H'
  | .brk => ∃ σ' H', Inv X pins σ' H' s' ∧ D.bk σ' H'
  | .cont => ∃ σ' H', Inv X pins σ' H' s' ∧ D.ct σ' H'
  | .ret u => ∃ v σ' H', Inv X pins σ' H' s' ∧ RelV v u ∧ D.rt v H'

def PE (X : Cx) (e : Expr) (t : TE) : Prop :=
  ∀ (pins : List (Addr × Obj)) (s : Shared) (σ : St) (H : Hp) (Q : VK), Inv X pins σ H s → t σ H Q → wpAny (model X.prog X.w) X.A (eval e X.env) (EP X pins σ Q) X.xe s
def PT (X : Cx) (e : Expr) (t : TT) : Prop :=
  ∀ (pins : List (Addr × Obj)) (s : Shared) (σ : St) (H : Hp) (Q : Bool → Hp → Prop), Inv X pins σ H s → t σ H Q → wpAny (model X.prog X.w) X.A (isTrue e X.env (eval e X.env)) (TP X pins σ Q) X.xe s
/-- a test whatever its 'whole' is (and, or) -/
def PW (X : Cx) (e : Expr) (t : TT) : Prop :=
  ∀ (whole : Sem Value) (pins : List (Addr × Obj)) (s : Shared) (σ : St) (H : Hp) (Q : Bool → Hp → Prop), Inv X pins σ H s → t σ H Q → wpAny (model X.prog X.w) X.A (isTrue e X.env whole) (TP X pins σ Q) X.xe s
theorem PW.pt {X : Cx} {e : Expr} {t : TT} (h : PW X e t) : PT X e t := h _
/-- an argument list (no star), from the left -/
def PA (X : Cx) (es : List Expr) (t : TA) : Prop :=
  ∀ (pos : Pos) (pins : List (Addr × Obj)) (s : Shared) (σ : St) (H : Hp) (Q : List V → Hp → Prop), Inv X pins σ H s → t σ H Q → wpAny (model X.prog X.w) X.A (spliced (backTo pos (starEach es X.env))) (AP X pins σ Q) X.xe s
def PS (X : Cx) (st : Stmt) (t : TS) : Prop :=
  ∀ (pins : List (Addr × Obj)) (s : Shared) (σ : St) (H : Hp) (D : Ends), Inv X pins σ H s → t D σ H → wpAny (model X.prog X.w) X.A (exec st X.env) (SP X pins D) X.xe s
def PSs (X : Cx) (st : List Stmt) (t : TS) : Prop :=
  ∀ (pins : List (Addr × Obj)) (s : Shared) (σ : St) (H : Hp) (D : Ends), Inv X pins σ H s → t D σ H → wpAny (model X.prog X.w) X.A (execs st X.env) (SP X pins D) X.xe s
/-- weaken the end -/
theorem thn {α : Type} {t : Sem α} {Q Q' : α → Shared → Prop} {M : Model} {A : Around} {E : Value → Shared → Prop} {s : Shared} (h : wpAny M A t Q E s) (hQ : ∀ a s, Q a s → Q' a s) : wpAny M A t Q' E s := wpAny_mono h hQ fun _ _ x => x
end L2

namespace L2
open PySem PySem.Spec PyProof.Rows
section
variable {X : Cx}

/-- two expressions in a row -/
theorem bin {a b : Expr} {ta tb : TE} (ha : PE X a ta) (hb : PE X b tb) {pins : List (Addr × Obj)} {s : Shared} {σ : St} {H : Hp} {R : V → V → Hp → Prop} (I : Inv X pins σ H s) (h : ta σ H fun x H1 => tb σ H1 fun y H2 => R x y H2)
    {α : Type} {Q : α → Shared → Prop} {f : Value → Value → Sem α}
    (hf : ∀ v u s2 x y H2, Inv X pins σ H2 s2 → RelV x v → RelV y u → R x y H2 → wpAny (model X.prog X.w) X.A (f v u) Q X.xe s2) :
    wpAny (model X.prog X.w) X.A (eval a X.env) (fun v s₁ => wpAny (model X.prog X.w) X.A (eval b X.env) (fun u s₂ => wpAny (model X.prog X.w) X.A (f v u) Q X.xe s₂) X.xe s₁) X.xe s := by
  refine thn (ha pins s σ H _ I h) fun v s1 ⟨x, H1, I1, r1, q1⟩ => ?_
  refine thn (hb pins s1 σ H1 _ I1 q1) fun u s2 ⟨y, H2, I2, r2, q2⟩ => ?_
  exact hf v u s2 x y H2 I2 r1 r2 q2

/-! ### names and constants -/
def tVar (i : Nat) : TE := fun σ H Q => ∃ v, σ[i]? = some (some v) ∧ Q v H
def tC (v : V) : TE := fun _ H Q => Q v H
theorem pe_var {i : Nat} {x : Str} {pos : Pos} (hN : X.N[i]? = some x) (hv : Vis X.env.scope x) (hd : (x == ("__debug__" : Str)) = false := by decide) (hcd : (x == ("__classdict__" : Str)) = false := by decide) : PE X (.Name x pos) (tVar i) := by
  intro pins s σ H Q I h
  obtain ⟨v, e, h⟩ := h
  obtain ⟨m, hn, hl⟩ := I.loc
  obtain ⟨u, r, l⟩ := hl i x v hN e hv
  have fin : EP X pins σ Q u s := ⟨v, H, I, r, h⟩
  rcases l with ⟨hk, hm⟩ | ⟨hk, c, hc, hcell⟩
  · exact wpAny_Name (wpAny_loadName_local I.ok.kind hk hn hm fin) hd
  · rcases hk with hk | hk
    · exact wpAny_Name (wpAny_loadName_cell I.ok.kind hk hc hcell fin) hd
    · exact wpAny_Name (wpAny_loadName_free I.ok.kind hk hc hcell fin hcd) hd
theorem pe_int {i j pos} : PE X (.Constant (.int i) j pos) (tC (.int i)) := fun _ _ _ H _ I h => wpAny_Constant_int ⟨.int i, H, I.tok _, ⟨_, rfl⟩, h⟩
theorem pe_bl {b j pos} : PE X (.Constant (.bool b) j pos) (tC (.bl b)) := fun _ _ _ H _ I h => Constant_bool ⟨.bl b, H, I, rfl, h⟩
theorem pe_non {j pos} : PE X (.Constant .none j pos) (tC .non) := fun _ _ _ H _ I h => Constant_none ⟨.non, H, I, rfl, h⟩
theorem pe_str {x j pos} : PE X (.Constant (.str x) j pos) (tC (.str x)) := fun _ _ _ H _ I h => Calls.Constant_str ⟨.str x, H, I.tok _, ⟨_, rfl⟩, h⟩

/-- a global name of the def -/
def Gl (X : Cx) (x : Str) : Prop := X.env.kindOf x = some .globalImplicit
theorem ld_glob {E : Value → Shared → Prop} {pins : List (Addr × Obj)} {s : Shared} {σ : St} {H : Hp} {x : Str} {u : Value} {pos : Pos} {Q : Value → Shared → Prop} (I : Inv X pins σ H s) (hg : Gl X x) (hm : X.mg x = some u) (h : Q u s)
    (hd : (x == ("__debug__" : Str)) = false := by decide) : wpAny (model X.prog X.w) X.A (eval (.Name x pos) X.env) Q E s :=
  Calls.Name_function_global I.ok.kind hg (Calls.loadGlobal_global (by rw [I.ok.glob]; exact I.mod.glob.keeps I.bk) hm h) hd
theorem ld_blt {E : Value → Shared → Prop} {pins : List (Addr × Obj)} {s : Shared} {σ : St} {H : Hp} {x : Str} {u : Value} {pos : Pos} {Q : Value → Shared → Prop} (I : Inv X pins σ H s) (hg : Gl X x) (hm : X.mg x = none) (hv : bootBuiltins x = some u) (h : Q u s)
    (hn : x ≠ "__name__" := by decide) (hd : (x == ("__debug__" : Str)) = false := by decide) : wpAny (model X.prog X.w) X.A (eval (.Name x pos) X.env) Q E s := by
  obtain ⟨mb, h1, h2⟩ := I.mod.blt
  exact Calls.Name_function_global I.ok.kind hg (Calls.loadGlobal_builtin (by rw [I.ok.glob]; exact I.mod.glob.keeps I.bk) hm (by rw [I.ok.blt]; exact h1.keeps I.bk) ((h2 x hn).trans hv) h) hd
/-- a module's constant, a class, a function, as a value -/
theorem pe_glob {x : Str} {v : V} {u : Value} {pos : Pos} (hg : Gl X x) (hm : X.mg x = some u) (r : RelV v u) (hd : (x == ("__debug__" : Str)) = false := by decide) : PE X (.Name x pos) (tC v) :=
  fun _ _ _ H _ I h => ld_glob I hg hm ⟨v, H, I, r, h⟩ hd
theorem pe_bltn {x : Str} {v : V} {u : Value} {pos : Pos} (hg : Gl X x) (hm : X.mg x = none) (hv : bootBuiltins x = some u) (r : RelV v u) (hn : x ≠ "__name__" := by decide) (hd : (x == ("__debug__" : Str)) = false := by decide) : PE X (.Name x pos) (tC v) :=
  fun _ _ _ H _ I h => ld_blt I hg hm hv ⟨v, H, I, r, h⟩ hn hd

/-! ### arithmetic -/
/-- two ints -/
def t2I (ta tb : TE) (k : Int → Int → Hp → Prop) : St → Hp → Prop := fun σ H => ta σ H fun x H1 => tb σ H1 fun y H2 => ∃ i j, x = .int i ∧ y = .int j ∧ k i j H2
def tAdd (ta tb : TE) : TE := fun σ H Q => t2I ta tb (fun i j H2 => Q (.int (i + j)) H2) σ H
def tSub (ta tb : TE) : TE := fun σ H Q => t2I ta tb (fun i j H2 => Q (.int (i - j)) H2) σ H
/-- the left factor below 2^64 -/
def tMul (ta tb : TE) : TE := fun σ H Q => t2I ta tb (fun i j H2 => (-(2 ^ 64) < i ∧ i < 2 ^ 64) ∧ Q (.int (i * j)) H2) σ H
variable {a b : Expr} {ta tb : TE} {pos : Pos}
theorem pe_add (ha : PE X a ta) (hb : PE X b tb) : PE X (.BinOp a .Add b pos) (tAdd ta tb) := by
  intro pins s σ H Q I h
  refine wpAny_BinOp (bin ha hb I h fun v u s2 x y H2 I2 rx ry q => ?_)
  obtain ⟨i, j, rfl, rfl, q⟩ := q
  obtain ⟨t, rfl⟩ := rx
  obtain ⟨t', rfl⟩ := ry
  exact add_int ⟨.int _, H2, I2.tok _, ⟨_, rfl⟩, q⟩
theorem pe_sub (ha : PE X a ta) (hb : PE X b tb) : PE X (.BinOp a .Sub b pos) (tSub ta tb) := by
  intro pins s σ H Q I h
  refine wpAny_BinOp (bin ha hb I h fun v u s2 x y H2 I2 rx ry q => ?_)
  obtain ⟨i, j, rfl, rfl, q⟩ := q
  obtain ⟨t, rfl⟩ := rx
  obtain ⟨t', rfl⟩ := ry
  exact sub_int ⟨.int _, H2, I2.tok _, ⟨_, rfl⟩, q⟩
theorem pe_mul (ha : PE X a ta) (hb : PE X b tb) : PE X (.BinOp a .Mult b pos) (tMul ta tb) := by
  intro pins s σ H Q I h
  refine wpAny_BinOp (bin ha hb I h fun v u s2 x y H2 I2 rx ry q => ?_)
  obtain ⟨i, j, rfl, rfl, ⟨q1, q2⟩, q⟩ := q
  obtain ⟨t, rfl⟩ := rx
  obtain ⟨t', rfl⟩ := ry
  exact mul_int ⟨.int _, H2, I2.tok _, ⟨_, rfl⟩, q⟩ (.of_left (intBits_le_64 q1 q2))

/-! ### comparisons -/
def PC (X : Cx) (op : CmpOp) (a b : Expr) (t : TE) : Prop :=
  ∀ (pins : List (Addr × Obj)) (s : Shared) (σ : St) (H : Hp) (Q : VK), Inv X pins σ H s → t σ H Q →
    wpAny (model X.prog X.w) X.A (eval a X.env) (fun v s₁ => wpAny (model X.prog X.w) X.A (eval b X.env) (fun u s₂ => wpAny (model X.prog X.w) X.A (compareOp op v u) (EP X pins σ Q) X.xe s₂) X.xe s₁) X.xe s
theorem nobehind (b : Expr) {op : CmpOp} (h : op ≠ .In) (h2 : op ≠ .NotIn) : behindInMarks op b = false := by
  have e1 : (op == CmpOp.In) = false := by cases op <;> first | rfl | exact absurd rfl h
  have e2 : (op == CmpOp.NotIn) = false := by cases op <;> first | rfl | exact absurd rfl h2
  cases b <;> simp [behindInMarks, e1, e2]
def tCmp (p : Int → Int → Bool) (ta tb : TE) : TE := fun σ H Q => t2I ta tb (fun i j H2 => Q (.bl (p i j)) H2) σ H
abbrev tLt : TE → TE → TE := tCmp fun i j => decide (i < j)
abbrev tLe : TE → TE → TE := tCmp fun i j => decide (i ≤ j)
abbrev tGt : TE → TE → TE := tCmp fun i j => decide (j < i)
abbrev tGe : TE → TE → TE := tCmp fun i j => decide (j ≤ i)
abbrev tEqI : TE → TE → TE := tCmp fun i j => decide (i = j)
abbrev tNeI : TE → TE → TE := tCmp fun i j => !decide (i = j)
/-- a comparison of two ints, by its rule -/
theorem pc_int {op : CmpOp} {p : Int → Int → Bool} (ha : PE X a ta) (hb : PE X b tb)
    (rule : ∀ (i j : Int) (t u : Tok) (Q : Value → Shared → Prop) (s : Shared), Q (.bool (p i j)) s → wpAny (model X.prog X.w) X.A (compareOp op (.int i t) (.int j u)) Q X.xe s) : PC X op a b (tCmp p ta tb) := by
  intro pins s σ H Q I h
  refine bin ha hb I h fun v u s2 x y H2 I2 rx ry q => ?_
  obtain ⟨i, j, rfl, rfl, q⟩ := q
  obtain ⟨t, rfl⟩ := rx
  obtain ⟨t', rfl⟩ := ry
  exact rule i j t t' _ s2 ⟨.bl _, H2, I2, rfl, q⟩
theorem pc_lt (ha : PE X a ta) (hb : PE X b tb) : PC X .Lt a b (tLt ta tb) := pc_int ha hb fun _ _ _ _ _ _ h => lt_int h
theorem pc_le (ha : PE X a ta) (hb : PE X b tb) : PC X .LtE a b (tLe ta tb) := pc_int ha hb fun _ _ _ _ _ _ h => le_int h
theorem pc_gt (ha : PE X a ta) (hb : PE X b tb) : PC X .Gt a b (tGt ta tb) := pc_int ha hb fun _ _ _ _ _ _ h => gt_int h
theorem pc_ge (ha : PE X a ta) (hb : PE X b tb) : PC X .GtE a b (tGe ta tb) := pc_int ha hb fun _ _ _ _ _ _ h => ge_int h
theorem pc_eqI (ha : PE X a ta) (hb : PE X b tb) : PC X .Eq a b (tEqI ta tb) := pc_int ha hb fun _ _ _ _ _ _ h => eq_int (by rw [Bool.beq_eq_decide_eq]; exact h)
theorem pc_neI (ha : PE X a ta) (hb : PE X b tb) : PC X .NotEq a b (tNeI ta tb) := pc_int ha hb fun _ _ _ _ _ _ h => ne_int (by rw [bne, Bool.beq_eq_decide_eq]; exact h)
/-- is None -/
def tIsN (ta : TE) : TE := fun σ H Q => ta σ H fun x H1 => Q (.bl (decide (x = .non))) H1
def tNotN (ta : TE) : TE := fun σ H Q => ta σ H fun x H1 => Q (.bl (!decide (x = .non))) H1
theorem RelV.none_iff {x : V} {v : Value} (r : RelV x v) : (v == Value.none) = decide (x = .non) := by
  cases x with
  | non => cases r; rfl
  | bl _ => cases r; rfl
  | int _ => obtain ⟨t, rfl⟩ := r; rfl
  | str _ => obtain ⟨t, rfl⟩ := r; rfl
  | byt _ => obtain ⟨t, rfl⟩ := r; rfl
  | flt _ => obtain ⟨t, rfl⟩ := r; rfl
  | ref _ => cases r; rfl
  | ty _ => cases r; rfl
theorem pc_isN {j pos'} (ha : PE X a ta) : PC X .Is a (.Constant .none j pos') (tIsN ta) := by
  intro pins s σ H Q I h
  refine thn (ha pins s σ H _ I h) fun v s1 ⟨x, H1, I1, r1, q1⟩ => ?_
  exact Constant_none (is_none_gen ⟨.bl _, H1, I1, by rw [r1.none_iff]; rfl, q1⟩)
theorem pc_notN {j pos'} (ha : PE X a ta) : PC X .IsNot a (.Constant .none j pos') (tNotN ta) := by
  intro pins s σ H Q I h
  refine thn (ha pins s σ H _ I h) fun v s1 ⟨x, H1, I1, r1, q1⟩ => ?_
  exact Constant_none (isnot_none_gen ⟨.bl _, H1, I1, by rw [r1.none_iff]; rfl, q1⟩)
/-- a comparison as a value, as a test -/
def tB (t : TE) : TT := fun σ H Q => t σ H fun x H1 => ∃ c, x = .bl c ∧ Q c H1
theorem pe_cmp {op : CmpOp} {t : TE} (h : PC X op a b t) (h1 : behindInMarks op b = false := by first | exact nobehind _ (by decide) (by decide) | rfl) : PE X (.Compare a [op] [b] pos) t := fun pins s σ H Q I hw => wpAny_Compare1 (h pins s σ H Q I hw) h1
theorem pt_cmp {op : CmpOp} {t : TE} (h : PC X op a b t) (h1 : behindInMarks op b = false := by first | exact nobehind _ (by decide) (by decide) | rfl) : PT X (.Compare a [op] [b] pos) (tB t) := by
  intro pins s σ H Q I hw
  refine wpAny_isTrue_Compare1 (thn (h pins s σ H _ I hw) fun v s1 h1 => thn h1 fun u s2 h2 => thn h2 fun c s3 ⟨x, H1, I1, r1, q1⟩ => ?_) h1
  obtain ⟨d, rfl, q⟩ := q1
  cases r1
  exact wpAny_truthy_bool ⟨H1, I1, q⟩
/-- an expression whose value is a bool, as a test -/
theorem pt_val {e : Expr} {t : TE} (h : PE X e t) (he : ∀ whole, isTrue e X.env whole = (do let v ← whole; standAt e.pos; holding [v] (truthy v)) := by intro _; rfl) : PT X e (tB t) := by
  intro pins s σ H Q I hw
  refine isTrue_plain (thn (h pins s σ H _ I hw) fun v s1 ⟨x, H1, I1, r1, q1⟩ => ?_) (he _)
  obtain ⟨d, rfl, q⟩ := q1
  cases r1
  exact wpAny_truthy_bool ⟨H1, I1, q⟩

/-! ### and, or, not -/
variable {tA tB' : TT} {rest : List Expr}
def tAnd (t u : TT) : TT := fun σ H Q => t σ H fun c H1 => if c = true then u σ H1 Q else Q false H1
def tOr (t u : TT) : TT := fun σ H Q => t σ H fun c H1 => if c = true then Q true H1 else u σ H1 Q
def tNot (t : TT) : TT := fun σ H Q => t σ H fun c H1 => Q (!c) H1
theorem pw_and1 (ha : PT X a tA) : PW X (.BoolOp .And [a] pos) tA := by
  intro wh pins s σ H Q I h
  refine isTrue_and (thn (ha pins s σ H Q I h) fun c s1 e => ?_)
  cases c with
  | true => exact isTrue_and_nil e
  | false => exact e
theorem pw_or1 (ha : PT X a tA) : PW X (.BoolOp .Or [a] pos) tA := by
  intro wh pins s σ H Q I h
  refine isTrue_or (thn (ha pins s σ H Q I h) fun c s1 e => ?_)
  cases c with
  | false => exact isTrue_or_nil e
  | true => exact e
theorem pw_and (ha : PT X a tA) (hb : PW X (.BoolOp .And (b :: rest) pos) tB') : PW X (.BoolOp .And (a :: b :: rest) pos) (tAnd tA tB') := by
  intro wh pins s σ H Q I h
  refine isTrue_and (thn (ha pins s σ H _ I h) fun c s1 ⟨H1, I1, q1⟩ => ?_)
  cases c with
  | true => exact hb wh pins s1 σ H1 Q I1 q1
  | false => exact ⟨H1, I1, q1⟩
theorem pw_or (ha : PT X a tA) (hb : PW X (.BoolOp .Or (b :: rest) pos) tB') : PW X (.BoolOp .Or (a :: b :: rest) pos) (tOr tA tB') := by
  intro wh pins s σ H Q I h
  refine isTrue_or (thn (ha pins s σ H _ I h) fun c s1 ⟨H1, I1, q1⟩ => ?_)
  cases c with
  | true => exact ⟨H1, I1, q1⟩
  | false => exact hb wh pins s1 σ H1 Q I1 q1
theorem pt_not (ha : PT X a tA) : PT X (.UnaryOp .Not a pos) (tNot tA) := by
  intro pins s σ H Q I h
  exact isTrue_not (ha pins s σ H (fun c H1 => Q (!c) H1) I h)
/-- .. as values (bools) -/
def tAndV (ta tb : TE) : TE := fun σ H Q => ta σ H fun x H1 => ∃ c, x = .bl c ∧ if c = true then tb σ H1 Q else Q (.bl false) H1
def tOrV (ta tb : TE) : TE := fun σ H Q => ta σ H fun x H1 => ∃ c, x = .bl c ∧ if c = true then Q (.bl true) H1 else tb σ H1 Q
def tNotV (ta : TE) : TE := fun σ H Q => ta σ H fun x H1 => ∃ c, x = .bl c ∧ Q (.bl (!c)) H1
theorem pe_one {op} {t : TE} (h : PE X a t) : PE X (.BoolOp op [a] pos) t := fun pins s σ H Q I hw => BoolOp_one (h pins s σ H Q I hw)
theorem pe_and (ha : PE X a ta) (hb : PE X (.BoolOp .And (b :: rest) pos) tb) : PE X (.BoolOp .And (a :: b :: rest) pos) (tAndV ta tb) := by
  intro pins s σ H Q I h
  refine BoolOp_and (thn (ha pins s σ H _ I h) fun v s1 ⟨x, H1, I1, r1, q1⟩ => ?_)
  obtain ⟨c, rfl, q1⟩ := q1
  cases r1
  refine wpAny_truthy_bool ?_
  cases c with
  | true => exact hb pins s1 σ H1 Q I1 q1
  | false => exact ⟨.bl false, H1, I1, rfl, q1⟩
theorem pe_or (ha : PE X a ta) (hb : PE X (.BoolOp .Or (b :: rest) pos) tb) : PE X (.BoolOp .Or (a :: b :: rest) pos) (tOrV ta tb) := by
  intro pins s σ H Q I h
  refine BoolOp_or (thn (ha pins s σ H _ I h) fun v s1 ⟨x, H1, I1, r1, q1⟩ => ?_)
  obtain ⟨c, rfl, q1⟩ := q1
  cases r1
  refine wpAny_truthy_bool ?_
  cases c with
  | false => exact hb pins s1 σ H1 Q I1 q1
  | true => exact ⟨.bl true, H1, I1, rfl, q1⟩
theorem pe_not (ha : PE X a ta) : PE X (.UnaryOp .Not a pos) (tNotV ta) := by
  intro pins s σ H Q I h
  refine UnaryOp_ (thn (ha pins s σ H _ I h) fun v s1 ⟨x, H1, I1, r1, q1⟩ => ?_)
  obtain ⟨c, rfl, q1⟩ := q1
  cases r1
  exact not_of (wpAny_truthy_bool ⟨.bl (!c), H1, I1, rfl, q1⟩)
/-- a if t else b -/
def tIf (t : TT) (ta tb : TE) : TE := fun σ H Q => t σ H fun c H1 => if c = true then ta σ H1 Q else tb σ H1 Q
theorem pe_ifExp {c : Expr} (hc : PT X c tA) (ha : PE X a ta) (hb : PE X b tb) : PE X (.IfExp c a b pos) (tIf tA ta tb) := by
  intro pins s σ H Q I h
  refine wpAny_IfExp (thn (hc pins s σ H _ I h) fun d s1 ⟨H1, I1, q1⟩ => ?_)
  cases d with
  | true => exact ha pins s1 σ H1 Q I1 q1
  | false => exact hb pins s1 σ H1 Q I1 q1
end
end L2

namespace L2
open PySem PySem.Spec PyProof.Rows

/-! ### a list, a tuple that is read: tracked, frozen, or an object of the module -/
def SqL (K : PySem.W.Frag) (H : Hp) (a : Addr) (xs : List V) : Prop :=
  Rd H a (.lst xs) ∨
    ∃ (o : Obj) (its : Array Value) (n : Nat), K.lookup a = some o ∧ o.cls = .type "list" ∧ o.dict = none ∧ o.data = .seq its n ∧ its.size ≤ sizeLine ∧ Vals xs its.toList
def SqT (K : PySem.W.Frag) (H : Hp) (a : Addr) (xs : List V) : Prop :=
  Rd H a (.tup xs) ∨
    ∃ (o : Obj) (its : Array Value) (n : Nat), K.lookup a = some o ∧ o.cls = .type "tuple" ∧ o.data = .seq its n ∧ its.size ≤ sizeLine ∧ Vals xs its.toList
def absV : Value → Option V
  | .none => some .non
  | .bool b => some (.bl b)
  | .int i _ => some (.int i)
  | .str x _ => some (.str x)
  | .bytes b _ => some (.byt b)
  | .float b _ => some (.flt b)
  | .ref a => some (.ref a)
  | .type n => some (.ty n)
  | _ => none
theorem RelV.abs {x : V} {u : Value} (r : RelV x u) : absV u = some x := by
  cases x with
  | non => cases r; rfl
  | bl _ => cases r; rfl
  | int _ => obtain ⟨t, rfl⟩ := r; rfl
  | str _ => obtain ⟨t, rfl⟩ := r; rfl
  | byt _ => obtain ⟨t, rfl⟩ := r; rfl
  | flt _ => obtain ⟨t, rfl⟩ := r; rfl
  | ref _ => cases r; rfl
  | ty _ => cases r; rfl
theorem RelV.inj {x y : V} {u : Value} (r : RelV x u) (q : RelV y u) : x = y := Option.some.inj (r.abs.symm.trans q.abs)
theorem Vals.inj : ∀ {xs ys : List V} {us : List Value}, Vals xs us → Vals ys us → xs = ys
  | _, _, _, .nil, .nil => rfl
  | _, _, _, .cons r t, .cons r' t' => by rw [r.inj r', Vals.inj t t']
section
variable {X : Cx} {pins : List (Addr × Obj)} {σ : St} {H : Hp} {s : Shared} {a : Addr} {xs ys : List V}
theorem SqL.of {K : PySem.W.Frag} (h : H a = some (.lst xs)) : SqL K H a xs := .inl (.inl h)
theorem SqT.of {K : PySem.W.Frag} (h : H a = some (.tup xs)) : SqT K H a xs := .inl (.inl h)
theorem Inv.list (I : Inv X pins σ H s) (h : SqL X.K H a xs) : ∃ its : List Value, Vals xs its ∧ PlainL s.heap a its.toArray ∧ xs.length ≤ sizeLine := by
  rcases h with h | ⟨o, its, n, hk, hc, hd, hs, hz, r⟩
  · obtain ⟨z, its, n, r, e⟩ := h.ok I.hok
    exact ⟨its, r, ⟨_, n, e, rfl, rfl, rfl⟩, z⟩
  · refine ⟨its.toList, r, ⟨o, n, I.kIn a o hk, hc, hd, by simpa using hs⟩, ?_⟩
    have e := r.length
    simp only [Array.length_toList] at e
    omega
theorem Inv.tuple (I : Inv X pins σ H s) (h : SqT X.K H a xs) : ∃ its : List Value, Vals xs its ∧ IsTup s.heap a its.toArray ∧ xs.length ≤ sizeLine := by
  rcases h with h | ⟨o, its, n, hk, hc, hs, hz, r⟩
  · obtain ⟨z, its, r, p⟩ := h.ok I.hok
    exact ⟨its, r, p, z⟩
  · refine ⟨its.toList, r, ⟨o, I.kIn a o hk, hc, n, by simpa using hs⟩, ?_⟩
    have e := r.length
    simp only [Array.length_toList] at e
    omega
theorem Inv.list_inj (I : Inv X pins σ H s) (h : SqL X.K H a xs) (h' : SqL X.K H a ys) : xs = ys := by
  obtain ⟨its, r, ⟨o, n, e, _, _, d⟩, _⟩ := I.list h
  obtain ⟨its', r', ⟨o', n', e', _, _, d'⟩, _⟩ := I.list h'
  rw [e] at e'; cases e'
  rw [d] at d'
  injection d' with d1 _
  have : its = its' := by simpa using congrArg Array.toList d1
  subst this
  exact r.inj r'
theorem Inv.tuple_inj (I : Inv X pins σ H s) (h : SqT X.K H a xs) (h' : SqT X.K H a ys) : xs = ys := by
  obtain ⟨its, r, ⟨o, e, _, n, d⟩, _⟩ := I.tuple h
  obtain ⟨its', r', ⟨o', e', _, n', d'⟩, _⟩ := I.tuple h'
  rw [e] at e'; cases e'
  rw [d] at d'
  injection d' with d1 _
  have : its = its' := by simpa using congrArg Array.toList d1
  subst this
  exact r.inj r'
end

/-! ### another wish about exceptions -/
abbrev Cx.wish (X : Cx) (E : Value → Shared → Prop) : Cx := { X with xe := E }
/-- no exception leaves -/
abbrev Cx.nox (X : Cx) : Cx := X.wish fun _ _ => False
theorem Cx.Ok.wish {X : Cx} (ok : X.Ok) (E : Value → Shared → Prop) : (X.wish E).Ok :=
  ⟨ok.mod, ok.kind, ok.glob, ok.blt, ok.above, ok.inj, ok.has, ok.cab, ok.hd, ok.frames, ok.stk, ok.exf, ok.bs, ok.bsz, ok.noex, ok.exfs, ok.funs, ok.frf⟩
theorem Cx.Ok.unwish {X : Cx} {E : Value → Shared → Prop} (ok : (X.wish E).Ok) : X.Ok :=
  ⟨ok.mod, ok.kind, ok.glob, ok.blt, ok.above, ok.inj, ok.has, ok.cab, ok.hd, ok.frames, ok.stk, ok.exf, ok.bs, ok.bsz, ok.noex, ok.exfs, ok.funs, ok.frf⟩
section
variable {X : Cx} {pins : List (Addr × Obj)} {σ : St} {H : Hp} {s : Shared} {E : Value → Shared → Prop}
theorem Inv.wish (I : Inv X pins σ H s) (E : Value → Shared → Prop) : Inv (X.wish E) pins σ H s := ⟨I.ok.wish E, I.os, I.bare, I.base, I.loc, I.cell, I.free, I.freeC, I.pin, I.hok, I.len⟩
theorem Inv.unwish (I : Inv (X.wish E) pins σ H s) : Inv X pins σ H s := ⟨I.ok.unwish, I.os, I.bare, I.base, I.loc, I.cell, I.free, I.freeC, I.pin, I.hok, I.len⟩
theorem SP.unwish {D : Ends} {f : Flow} {s' : Shared} (h : SP (X.wish E) pins D f s') : SP X pins D f s' := by
  cases f with
  | next => obtain ⟨σ', H', I, q⟩ := h; exact ⟨σ', H', I.unwish, q⟩
  | brk => obtain ⟨σ', H', I, q⟩ := h; exact ⟨σ', H', I.unwish, q⟩
  | cont => obtain ⟨σ', H', I, q⟩ := h; exact ⟨σ', H', I.unwish, q⟩
  | ret u => obtain ⟨v, σ', H', I, r, q⟩ := h; exact ⟨v, σ', H', I.unwish, r, q⟩
theorem PE.nox {e : Expr} {t : TE} (h : PE X.nox e t) : PE X e t := fun pins s σ H Q I hw =>
  wpAny_mono (h pins s σ H Q (I.wish _) hw) (fun _ _ ⟨v, H', I', r, q⟩ => ⟨v, H', I'.unwish, r, q⟩) fun _ _ z => False.elim z
theorem PT.nox {e : Expr} {t : TT} (h : PT X.nox e t) : PT X e t := fun pins s σ H Q I hw =>
  wpAny_mono (h pins s σ H Q (I.wish _) hw) (fun _ _ ⟨H', I', q⟩ => ⟨H', I'.unwish, q⟩) fun _ _ z => False.elim z
theorem PSs.nox {st : List Stmt} {t : TS} (h : PSs X.nox st t) : PSs X st t := fun pins s σ H D I hw =>
  wpAny_mono (h pins s σ H D (I.wish _) hw) (fun _ _ q => q.unwish) fun _ _ z => False.elim z
end

/-! ### blocks and small statements -/
section
variable {X : Cx} {st : Stmt} {rest : List Stmt} {t u : TS} {e : Expr} {te : TE} {pos : Pos}
def tNext : TS := fun D σ H => D.nx σ H
def tSeq (t u : TS) : TS := fun D σ H => t { D with nx := u D } σ H
theorem pss_nil : PSs X [] tNext := fun _ _ σ H _ I h => wpAny_execs_nil ⟨σ, H, I, h⟩
theorem pss_cons (h1 : PS X st t) (h2 : PSs X rest u) : PSs X (st :: rest) (tSeq t u) := by
  intro pins s σ H D I h
  refine wpAny_execs_cons (thn (h1 pins s σ H { D with nx := u D } I h) fun f s1 q => ?_)
  cases f with
  | next =>
    obtain ⟨σ', H', I', q⟩ := q
    exact h2 pins s1 σ' H' D I' q
  | ret v => exact q
  | brk => exact q
  | cont => exact q
theorem pss_one (h1 : PS X st t) : PSs X [st] t := by
  intro pins s σ H D I h
  refine wpAny_execs_cons (thn (h1 pins s σ H D I h) fun f s1 q => ?_)
  cases f with
  | next => exact wpAny_execs_nil q
  | ret v => exact q
  | brk => exact q
  | cont => exact q
def tBreak : TS := fun D σ H => D.bk σ H
def tCont : TS := fun D σ H => D.ct σ H
theorem ps_pass : PS X (.Pass pos) tNext := fun _ _ σ H _ I h => wpAny_Pass ⟨σ, H, I, h⟩
theorem ps_break : PS X (.Break pos) tBreak := fun _ _ σ H _ I h => wpAny_Break ⟨σ, H, I, h⟩
theorem ps_continue : PS X (.Continue pos) tCont := fun _ _ σ H _ I h => wpAny_Continue ⟨σ, H, I, h⟩
/-- in a def's body nothing is shown -/
theorem Inv.quiet {pins : List (Addr × Obj)} {σ : St} {H : Hp} {s : Shared} (I : Inv X pins σ H s) : interactive X.env = false := by simp [interactive, I.ok.kind]
/-- a docstring -/
theorem ps_doc {x j pos pos'} : PS X (.Expr (.Constant (.str x) j pos) pos') tNext := fun _ s σ H _ I h => wpAny_Expr (Calls.Constant_str (show SP X _ _ .next { s with toks := s.toks + 1 } from ⟨σ, H, I.tok _, h⟩)) I.quiet
/-- an expression whose value is dropped -/
def tDrop (te : TE) : TS := fun D σ H => te σ H fun _ H1 => D.nx σ H1
theorem ps_expr (he : PE X e te) (hs : swapsWith e none pos.line X.env = pure false := by rfl) : PS X (.Expr e pos) (tDrop te) := by
  intro pins s σ H D I h
  exact wpAny_Expr_any (thn (he pins s σ H _ I h) fun v s1 ⟨x, H1, I1, r1, q1⟩ => ⟨σ, H1, I1, q1⟩) I.quiet hs
def tRet (te : TE) : TS := fun D σ H => te σ H D.rt
theorem ps_ret (he : PE X e te) : PS X (.Return (some e) pos) (tRet te) := by
  intro pins s σ H D I h
  exact wpAny_Return_some (thn (he pins s σ H _ I h) fun v s1 ⟨x, H1, I1, r1, q1⟩ => ⟨x, σ, H1, I1, r1, q1⟩)
def tRetN : TS := fun D _ H => D.rt .non H
theorem ps_retN : PS X (.Return none pos) tRetN := fun _ _ σ H _ I h => wpAny_Return_none ⟨.non, σ, H, I, rfl, h⟩
def tIfS (c : TT) (t u : TS) : TS := fun D σ H => c σ H fun b H1 => if b = true then t D σ H1 else u D σ H1
theorem ps_if {c : Expr} {a b : List Stmt} {tc : TT} (hc : PT X c tc) (ha : PSs X a t) (hb : PSs X b u) : PS X (.If c a b pos) (tIfS tc t u) := by
  intro pins s σ H D I h
  refine wpAny_If (thn (hc pins s σ H _ I h) fun d s1 ⟨H1, I1, q1⟩ => ?_)
  cases d with
  | true => exact ha pins s1 σ H1 D I1 q1
  | false => exact hb pins s1 σ H1 D I1 q1
/-- code that the proof never comes to -/
def tNever : TS := fun _ _ _ => False
theorem ps_never : PS X st tNever := fun _ _ _ _ _ _ h => h.elim
theorem pss_never {sts : List Stmt} : PSs X sts tNever := fun _ _ _ _ _ _ h => h.elim
end

/-! ### targets -/
abbrev TG := V → St → Hp → (St → Hp → Prop) → Prop
abbrev TGs := List V → St → Hp → (St → Hp → Prop) → Prop
def PG (X : Cx) (target : Expr) (t : TG) : Prop :=
  ∀ (pins : List (Addr × Obj)) (s : Shared) (σ : St) (H : Hp) (v : V) (u : Value) (Q : St → Hp → Prop), Inv X pins σ H s → RelV v u → t v σ H Q →
    wpAny (model X.prog X.w) X.A (assign target X.env u) (fun _ s' => ∃ σ' H', Inv X pins σ' H' s' ∧ Q σ' H') X.xe s
/-- several targets, one after another -/
def PGs (X : Cx) (ts : List Expr) (t : TGs) : Prop :=
  ∀ (pins : List (Addr × Obj)) (s : Shared) (σ : St) (H : Hp) (vs : List V) (us : List Value) (Q : St → Hp → Prop), Inv X pins σ H s → Vals vs us → t vs σ H Q →
    wpAny (model X.prog X.w) X.A (assignInOrder ((assignEach ts X.env).map (·.2)) us) (fun _ s' => ∃ σ' H', Inv X pins σ' H' s' ∧ Q σ' H') X.xe s
/-- o[i] = v, by values -/
abbrev TSet := V → V → V → Hp → (Hp → Prop) → Prop
def PSet (X : Cx) (t : TSet) : Prop :=
  ∀ (pins : List (Addr × Obj)) (s : Shared) (σ : St) (H : Hp) (o i v : V) (ov iv u : Value) (Q : Hp → Prop), Inv X pins σ H s → RelV o ov → RelV i iv → RelV v u → t o i v H Q →
    wpAny (model X.prog X.w) X.A (setItem ov iv u) (fun _ s' => ∃ H', Inv X pins σ H' s' ∧ Q H') X.xe s
/-- a op= b, by values -/
abbrev TIp := V → V → Hp → VK → Prop
def PIp (X : Cx) (op : Operator) (t : TIp) : Prop :=
  ∀ (pins : List (Addr × Obj)) (s : Shared) (σ : St) (H : Hp) (x y : V) (v u : Value) (Q : VK), Inv X pins σ H s → RelV x v → RelV y u → t x y H Q →
    wpAny (model X.prog X.w) X.A (inplaceOp op v u) (EP X pins σ Q) X.xe s
section
variable {X : Cx} {pos : Pos}
def gName (i : Nat) : TG := fun v σ H Q => Q (σ.set i (some v)) H
theorem pg_name {i : Nat} {x : Str} (hN : X.N.Nodup) (hi : X.N[i]? = some x) (hx : Loc X.env.scope x) (hf : X.fn x = true ∨ X.env.scope.names.lookup x = some .local := by first | exact .inl rfl | exact .inr rfl | assumption) : PG X (.Name x pos) (gName i) := by
  intro pins s σ H v u Q I r h
  exact wpAny_assign_Name (store_ok I hN hi hx r (fun s' I' => ⟨_, H, I', h⟩) hf)
def gNil : TGs := fun vs σ H Q => vs = [] ∧ Q σ H
def gCons (t : TG) (u : TGs) : TGs := fun vs σ H Q => ∃ v r, vs = v :: r ∧ t v σ H fun σ' H' => u r σ' H' Q
theorem pgs_nil : PGs X [] gNil := by
  intro pins s σ H vs us Q I r h
  obtain ⟨e, h⟩ := h
  subst e
  cases r
  exact assignInOrder_nil ⟨σ, H, I, h⟩
theorem pgs_cons {e : Expr} {es : List Expr} {t : TG} {u : TGs} (h1 : PG X e t) (h2 : PGs X es u)
    (hs : (assignEach (e :: es) X.env).map (·.2) = assign e X.env :: (assignEach es X.env).map (·.2) := by rfl) : PGs X (e :: es) (gCons t u) := by
  intro pins s σ H vs us Q I r h
  obtain ⟨v, vr, e1, h⟩ := h
  subst e1
  cases r with
  | cons r rr =>
    rw [hs]
    refine assignInOrder_cons (thn (h1 pins s σ H _ _ _ I r h) fun _ s1 ⟨σ1, H1, I1, q1⟩ => ?_)
    exact h2 pins s1 σ1 H1 _ _ Q I1 rr q1
/-- (a, b, ..) = a tuple of that length -/
def gTup (K : PySem.W.Frag) (n : Nat) (t : TGs) : TG := fun v σ H Q => ∃ a xs, v = .ref a ∧ SqT K H a xs ∧ xs.length = n ∧ t xs σ H Q
theorem pg_tup {es : List Expr} {k : Nat} {t : TGs} {n : Nat} (hc : X.calm = true) (h : PGs X es t)
    (hn : (assignEach es X.env).length = n := by rfl) (hst : (assignEach es X.env).findIdx? (·.1) = none := by rfl) : PG X (.Tuple es k pos) (gTup X.K n t) := by
  intro pins s σ H v u Q I r hw
  obtain ⟨a, xs, e1, hq, hl, hw⟩ := hw
  subst e1
  cases r
  obtain ⟨its, rv, ht, hz⟩ := I.tuple hq
  refine assign_Tuple_tuple (I.ok.hd hc) ht (by simp [hn, ← hl, rv.length]) hst fun h' hx => ?_
  have I1 : Inv X pins σ H { s with heap := h' } := I.kept (t' := s.toks) fun b o e => hx b o (Nat.ne_of_lt (Heap.lt_size e)) e
  exact h pins _ σ H xs _ Q I1 (by simpa using rv) hw
/-- o[i] = .. -/
def gSub (to ti : TE) (t : TSet) : TG := fun v σ H Q => to σ H fun o H1 => ti σ H1 fun i H2 => t o i v H2 fun H3 => Q σ H3
theorem pg_sub {o i : Expr} {to ti : TE} {t : TSet} (ho : PE X o to) (hi : PE X i ti) (hs : PSet X t)
    (ha : ∀ v, assign (.Subscript o i pos) X.env v = (do
      let ov ← holding [v] (eval o X.env)
      let iv ← holding [v, ov] (eval i X.env)
      standAt pos
      holding [v, ov, iv] (setItem ov iv v)
      release [v, ov, iv] []) := by intro _; rfl) : PG X (.Subscript o i pos) (gSub to ti t) := by
  intro pins s σ H v u Q I r h
  rw [ha]
  refine wpAny_bind (wpAny_holding (thn (ho pins s σ H _ I h) fun ov s1 ⟨x, H1, I1, r1, q1⟩ => ?_))
  refine wpAny_bind (wpAny_holding (thn (hi pins s1 σ H1 _ I1 q1) fun iv s2 ⟨y, H2, I2, r2, q2⟩ => ?_))
  refine wpAny_bind (wpAny_standAt (wpAny_bind (wpAny_holding (thn (hs pins s2 σ H2 x y v ov iv u _ I2 r1 r2 r q2) fun _ s3 ⟨H3, I3, q3⟩ => ?_))))
  exact wpAny_release ⟨σ, H3, I3, q3⟩
/-- target = value -/
def tAsg (te : TE) (g : TG) : TS := fun D σ H => te σ H fun x H1 => g x σ H1 D.nx
theorem ps_asg {tg e : Expr} {te : TE} {g : TG} (he : PE X e te) (hg : PG X tg g) (hs : swapsWithSole [tg] e pos.line X.env = pure false := by rfl) (hw : swappedStores [tg] e X.env = pure none := by rfl)
    (h1 : (assignEach [tg] X.env).map (·.2) = [assign tg X.env] := by rfl) : PS X (.Assign [tg] e pos) (tAsg te g) := by
  intro pins s σ H D I h
  refine wpAny_Assign_stores (thn (he pins s σ H _ I h) fun v s1 ⟨x, H1, I1, r1, q1⟩ => ?_) hs hw
  rw [h1]
  exact thn (hg pins s1 σ H1 x v _ I1 r1 q1) fun _ s2 q => q
/-- name = value -/
theorem ps_set {i : Nat} {x : Str} {e : Expr} {te : TE} {pos' : Pos} (hN : X.N.Nodup) (hi : X.N[i]? = some x) (hx : Loc X.env.scope x) (he : PE X e te) (hs : swapsWith e (some (.Name x pos')) pos.line X.env = pure false := by rfl) (hf : X.fn x = true ∨ X.env.scope.names.lookup x = some .local := by first | exact .inl rfl | exact .inr rfl | assumption) :
    PS X (.Assign [.Name x pos'] e pos) (tAsg te (gName i)) := by
  intro pins s σ H D I h
  refine wpAny_Assign_Name (thn (he pins s σ H _ I h) fun v s1 ⟨y, H1, I1, r1, q1⟩ => ?_) hs
  exact store_ok I1 hN hi hx r1 (fun s2 I2 => ⟨_, H1, I2, q1⟩) hf
/-- a, b = x, y with plain local names: stored from the right; the pair itself is not tracked (the opening rows as in PyProof/Rows/TupAssign.lean:23) -/
def tPar (i j : Nat) (ta : TA) : TS := fun D σ H => ta σ H fun vs H1 => ∃ v w, vs = [v, w] ∧ D.nx ((σ.set i (some v)).set j (some w)) H1
theorem ps_par {i j : Nat} {x y : Str} {a b : Expr} {ta : TA} {px py pt : Pos} {kt k2 pt2} (hc : X.calm = true) (hN : X.N.Nodup) (hi : X.N[i]? = some x) (hj : X.N[j]? = some y) (hij : i ≠ j)
    (hx : X.env.scope.names.lookup x = some .local) (hy : X.env.scope.names.lookup y = some .local) (ha : PA X [a, b] ta)
    (hw : swappedStores [.Tuple [.Name x px, .Name y py] kt pt] (.Tuple [a, b] k2 pt2) X.env = pure (some [x, y]))
    (hs : swapsWithSole [.Tuple [.Name x px, .Name y py] kt pt] (.Tuple [a, b] k2 pt2) pos.line X.env = pure false := by rfl) :
    PS X (.Assign [.Tuple [.Name x px, .Name y py] kt pt] (.Tuple [a, b] k2 pt2) pos) (tPar i j ta) := by
  intro pins s σ H D I h
  rw [exec_Assign_arm]
  refine wpAny_bind (wpAny_standAt ?_)
  rw [hs]
  refine wpAny_bind (wpAny_pure ?_)
  rw [if_neg (by decide)]
  refine wpAny_bind (Tuple_ (thn (ha _ pins s σ H _ I h) fun us s1 ⟨vs, H1, I1, r1, q1⟩ => ?_))
  obtain ⟨v, w, e1, q1⟩ := q1
  subst e1
  obtain ⟨u1, u2, rfl, rv, rw'⟩ : ∃ u1 u2, us = [u1, u2] ∧ RelV v u1 ∧ RelV w u2 := by
    cases r1 with
    | cons p q =>
      cases q with
      | cons p' q' =>
        cases q'
        exact ⟨_, _, rfl, p, p'⟩
  refine wpAny_newObj_type ?_ (by show 2 ≤ sizeLine; decide)
  have I2 : Inv X pins σ H1 { s1 with heap := s1.heap.push { cls := .type "tuple", data := .seq [u1, u2].toArray } } := I1.kept (t' := s1.toks) fun b o e => Heap.get?_push_of_some _ e
  rw [hw]
  refine wpAny_bind (wpAny_pure ?_)
  show wpAny (model X.prog X.w) X.A (do rule "assign.swapped-stores"; let items ← unpackItems (.ref s1.heap.objs.size) 2 none; assignInOrder [fun v => bindName X.env y v, fun v => bindName X.env x v] items.reverse; pure Flow.next) _ _ _
  refine wpAny_bind (wpAny_rule (wpAny_bind (unpackItems_tuple (items := #[u1, u2]) (I.ok.hd hc) (IsTup.new s1.heap _) fun h' hx' => ?_)))
  have I3 := I2.kept (h' := h') (t' := s1.toks) fun b o e => hx' b o (Nat.ne_of_lt (Heap.lt_size e)) e
  show wpAny _ _ (assignInOrder [fun v => bindName X.env y v, fun v => bindName X.env x v] [u2, u1] >>= fun _ => pure Flow.next) _ _ _
  refine wpAny_bind (assignInOrder_cons (wpAny_bindName (store_ok I3 hN hj (.inl hy) rw' (fun s2 I4 => ?_) (.inr hy))))
  refine assignInOrder_cons (wpAny_bindName (store_ok I4 hN hi (.inl hx) rv (fun s3 I5 => assignInOrder_nil (wpAny_pure ?_)) (.inr hx)))
  rw [List.set_comm _ _ (Ne.symm hij)] at I5
  exact ⟨_, H1, I5, q1⟩
/-- name op= e -/
def tAug (i : Nat) (te : TE) (ti : TIp) : TS := fun D σ H => ∃ x, σ[i]? = some (some x) ∧ te σ H fun y H1 => ti x y H1 fun z H2 => D.nx (σ.set i (some z)) H2
theorem ps_aug {i : Nat} {x : Str} {e : Expr} {te : TE} {op : Operator} {ti : TIp} {pos' : Pos} (hN : X.N.Nodup) (hi : X.N[i]? = some x) (hx : Loc X.env.scope x) (he : PE X e te) (ho : PIp X op ti) (hf : X.fn x = true ∨ X.env.scope.names.lookup x = some .local := by first | exact .inl rfl | exact .inr rfl | assumption) :
    PS X (.AugAssign (.Name x pos') op e pos) (tAug i te ti) := by
  intro pins s σ H D I h
  obtain ⟨v, e1, h⟩ := h
  obtain ⟨m, hn, hl⟩ := I.loc
  have vis : Vis X.env.scope x := by rcases hx with k | k; exact .inl k; exact .inr (.inl k)
  obtain ⟨u, r, l⟩ := hl i x v hi e1 vis
  refine wpAny_AugAssign_Name ?_
  have go : wpAny (model X.prog X.w) X.A (eval e X.env) (fun w s₂ => wpAny (model X.prog X.w) X.A (inplaceOp op u w) (fun r s₃ => wpAny (model X.prog X.w) X.A (storeName X.env x r) (fun _ => SP X pins D .next) X.xe s₃) X.xe s₂) X.xe s := by
    refine thn (he pins s σ H _ I h) fun w s1 ⟨y, H1, I1, r1, q1⟩ => ?_
    refine thn (ho pins s1 σ H1 v y u w _ I1 r r1 q1) fun z s2 ⟨zv, H2, I2, r2, q2⟩ => ?_
    exact store_ok I2 hN hi hx r2 (fun s3 I3 => ⟨_, H2, I3, q2⟩) hf
  rcases l with ⟨hk, hm⟩ | ⟨hk, c, hc, hcell⟩
  · exact wpAny_loadName_local I.ok.kind hk hn hm go
  · rcases hk with hk | hk
    · exact wpAny_loadName_cell I.ok.kind hk hc hcell go
    · rcases hx with k | k
      · have : X.env.scope.names.lookup x = some .free := hk
        rw [k] at this; cases this
      · have : X.env.scope.names.lookup x = some .free := hk
        rw [k] at this; cases this
/-- o[i] op= e -/
def tAugS (to ti te : TE) (tget : V → V → Hp → VK → Prop) (tip : TIp) (tset : TSet) : TS := fun D σ H => to σ H fun o H1 => ti σ H1 fun i H2 => tget o i H2 fun x H3 => te σ H3 fun y H4 => tip x y H4 fun z H5 => tset o i z H5 fun H6 => D.nx σ H6
/-- o[i], by values -/
def PGet (X : Cx) (t : V → V → Hp → VK → Prop) : Prop :=
  ∀ (pins : List (Addr × Obj)) (s : Shared) (σ : St) (H : Hp) (o i : V) (ov iv : Value) (Q : VK), Inv X pins σ H s → RelV o ov → RelV i iv → t o i H Q →
    wpAny (model X.prog X.w) X.A (getItem ov iv) (EP X pins σ Q) X.xe s
theorem ps_augS {o i e : Expr} {to ti te : TE} {tget : V → V → Hp → VK → Prop} {tip : TIp} {tset : TSet} {op : Operator} {tpos : Pos} (ho : PE X o to) (hi : PE X i ti) (hg : PGet X tget) (he : PE X e te) (hp : PIp X op tip) (hs : PSet X tset)
    (ha : ∀ ov iv new, augStore i ov iv new = (do holding [new, ov, iv] (setItem ov iv new); release [new, ov, iv] []; pure .next) := by intros; rfl) : PS X (.AugAssign (.Subscript o i tpos) op e pos) (tAugS to ti te tget tip tset) := by
  intro pins s σ H D I h
  refine wpAny_AugAssign_SubscriptAny (thn (ho pins s σ H _ I h) fun ov s1 ⟨x1, H1, I1, r1, q1⟩ => ?_) ha
  refine thn (hi pins s1 σ H1 _ I1 q1) fun iv s2 ⟨x2, H2, I2, r2, q2⟩ => ?_
  refine thn (hg pins s2 σ H2 x1 x2 ov iv _ I2 r1 r2 q2) fun old s3 ⟨x3, H3, I3, r3, q3⟩ => ?_
  refine thn (he pins s3 σ H3 _ I3 q3) fun v s4 ⟨x4, H4, I4, r4, q4⟩ => ?_
  refine thn (hp pins s4 σ H4 x3 x4 old v _ I4 r3 r4 q4) fun new s5 ⟨x5, H5, I5, r5, q5⟩ => ?_
  exact thn (hs pins s5 σ H5 x1 x2 x5 ov iv new _ I5 r1 r2 r5 q5) fun _ s6 ⟨H6, I6, q6⟩ => ⟨σ, H6, I6, q6⟩
/-- ints -/
def ipI (f : Int → Int → Int) : TIp := fun x y H Q => ∃ i j, x = .int i ∧ y = .int j ∧ Q (.int (f i j)) H
theorem ip_add : PIp X .Add (ipI fun i j => i + j) := by
  intro pins s σ H x y v u Q I r1 r2 h
  obtain ⟨i, j, e1, e2, q⟩ := h
  subst e1; subst e2
  obtain ⟨t, rfl⟩ := r1
  obtain ⟨t', rfl⟩ := r2
  exact iadd_int ⟨.int _, H, I.tok _, ⟨_, rfl⟩, q⟩
theorem ip_sub : PIp X .Sub (ipI fun i j => i - j) := by
  intro pins s σ H x y v u Q I r1 r2 h
  obtain ⟨i, j, e1, e2, q⟩ := h
  subst e1; subst e2
  obtain ⟨t, rfl⟩ := r1
  obtain ⟨t', rfl⟩ := r2
  exact isub_int ⟨.int _, H, I.tok _, ⟨_, rfl⟩, q⟩
end

/-! ### while -/
section
variable {X : Cx} {pos : Pos}
/-- the invariant W with its measure -/
def tWhile (c : TT) (tb : TS) : TS := fun D σ H => ∃ W : Nat → St → Hp → Prop, (∃ m, W m σ H) ∧ ∀ m σ H, W m σ H →
  c σ H fun b H1 => if b = true then ∃ N : St → Hp → Prop, (∀ σ' H', N σ' H' → ∃ m', m' < m ∧ W m' σ' H') ∧ tb { D with nx := N, ct := N, bk := D.nx } σ H1 else D.nx σ H1
theorem ps_while {c : Expr} {body : List Stmt} {tc : TT} {tb : TS} (hp : PassesOwn (model X.prog X.w) X.A X.env X.xe) (hc : PT X c tc) (hb : PSs X body tb) : PS X (.While c body [] pos) (tWhile tc tb) := by
  intro pins s σ H D I h
  obtain ⟨W, ⟨m0, w0⟩, turn⟩ := h
  refine wpAny_While (codeAny_whileLoop (fun n s' => ∃ σ' H', Inv X pins σ' H' s' ∧ W n σ' H') ?_ m0 ⟨σ, H, I, w0⟩)
  rintro n s1 ⟨σ1, H1, I1, w1⟩
  refine wpAny_passesOwn hp (thn (hc pins s1 σ1 H1 _ I1 (turn n σ1 H1 w1)) fun b s2 ⟨H2, I2, q2⟩ => ?_)
  cases b with
  | true =>
    obtain ⟨N, hN, q2⟩ := q2
    rw [if_pos rfl]
    refine wpAny_passesOwn hp (thn (hb pins s2 σ1 H2 _ I2 q2) fun f s3 q3 => ?_)
    cases f with
    | next =>
      obtain ⟨σ3, H3, I3, n3⟩ := q3
      obtain ⟨m', hm, w3⟩ := hN σ3 H3 n3
      exact ⟨m', hm, σ3, H3, I3, w3⟩
    | cont =>
      obtain ⟨σ3, H3, I3, n3⟩ := q3
      obtain ⟨m', hm, w3⟩ := hN σ3 H3 n3
      exact ⟨m', hm, σ3, H3, I3, w3⟩
    | brk => exact q3
    | ret v => exact q3
  | false =>
    rw [if_neg Bool.false_ne_true]
    exact wpAny_execs_nil ⟨σ1, H2, I2, q2⟩
end

/-! ### what a loop or a comprehension walks -/
/-- at turn i: it yields x (the heap may grow), or it stops -/
structure It where
  go : Nat → Hp → Prop
  yld : Nat → Hp → V → Hp → Prop
  stop : Nat → Hp → Prop
/-- the iterator's own objects may turn: they are not the frame's, not pinned, younger than the entry (or a comprehension's own) -/
def FpOk (X : Cx) (pins : List (Addr × Obj)) (H : Hp) (b : Addr) : Prop :=
  H b = none ∧ b ≠ X.env.locals ∧ b ∉ X.fs ∧ (b ∈ X.ex ∨ X.s_0.heap.objs.size ≤ b) ∧ (∀ x c, X.env.cells.lookup x = some c → c ≠ b) ∧ ∀ p ∈ X.pn ++ pins, p.1 ≠ b
theorem Inv.fpOk {X : Cx} {pins : List (Addr × Obj)} {σ : St} {H H' : Hp} {s : Shared} {b : Addr} (I : Inv X pins σ H s) (hb : s.heap.objs.size ≤ b) (hn : H' b = none) : FpOk X pins H' b := by
  refine ⟨hn, Nat.ne_of_gt (Nat.lt_of_lt_of_le I.lt hb), I.nofs hb, .inr (Nat.le_trans I.sz hb), fun x c e z => ?_, fun p hp z => ?_⟩
  · obtain ⟨v, q⟩ := I.cell x c e
    exact absurd (Nat.lt_of_lt_of_le q.lt (by rw [z]; exact hb)) (Nat.lt_irrefl _)
  · exact absurd (Nat.lt_of_lt_of_le (Heap.lt_size (I.pin p hp).1) (by rw [z]; exact hb)) (Nat.lt_irrefl _)
structure Turn (P : Program) (w : World) (K : PySem.W.Frag) (tg : Expr) (J : It) (fp : List Addr) (it : Addr) (tn : Nat → Heap → Prop) : Prop where
  mem : it ∈ fp
  obj : ∀ i h, tn i h → ∀ b ∈ fp, ∃ o, h.get? b = some o ∧ ∀ v, o.data ≠ .cell v
  keep : ∀ i h h', tn i h → (∀ b ∈ fp, ∀ o, h.get? b = some o → h'.get? b = some o) → tn i h'
  item : ∀ (X : Cx), X.prog = P → X.w = w → X.K = K → X.calm = true → ∀ (i : Nat) (pins : List (Addr × Obj)) (s : Shared) (σ : St) (H : Hp) (E : Value → Shared → Prop), Inv X pins σ H s → (∀ b ∈ fp, FpOk X pins H b) → tn i s.heap → J.go i H →
    wpAny (model P w) X.A (pyNext (.ref it)) (fun r s1 => ∃ u, r = some u ∧
      wpAny (model P w) X.A (letOwnedTupleGo tg (.ref it) u) (fun _ s2 => ∃ x H', Inv X pins σ H' s2 ∧ RelV x u ∧ J.yld i H x H' ∧ tn (i + 1) s2.heap ∧ ∀ b ∈ fp, H' b = none) E s1) E s
  done : ∀ (X : Cx), X.prog = P → X.w = w → X.K = K → X.calm = true → ∀ (i : Nat) (pins : List (Addr × Obj)) (s : Shared) (σ : St) (H : Hp) (E : Value → Shared → Prop), Inv X pins σ H s → (∀ b ∈ fp, FpOk X pins H b) → tn i s.heap → J.stop i H →
    wpAny (model P w) X.A (pyNext (.ref it)) (fun r s1 => r = none ∧ Inv X pins σ H s1) E s
  self : ∀ (A : Around) (i : Nat) (s : Shared) (Q : Value → Shared → Prop) (E : Value → Shared → Prop), tn i s.heap → Q (.ref it) s → wpAny (model P w) A (pyIter (.ref it)) Q E s
abbrev TI := St → Hp → (It → Hp → Prop) → Prop
/-- an iterator has come -/
def PIE (X : Cx) (pins : List (Addr × Obj)) (σ : St) (tg : Expr) (R : It → Hp → Prop) (itv : Value) (s2 : Shared) : Prop :=
  ∃ (it : Addr) (fp : List Addr) (tn : Nat → Heap → Prop) (J : It) (H' : Hp), itv = .ref it ∧ Inv X pins σ H' s2 ∧ Turn X.prog X.w X.K tg J fp it tn ∧ tn 0 s2.heap ∧ (∀ b ∈ fp, FpOk X pins H' b) ∧ R J H'
def PI (X : Cx) (tg iter : Expr) (wi : TI) : Prop :=
  ∀ (pins : List (Addr × Obj)) (s : Shared) (σ : St) (H : Hp) (R : It → Hp → Prop), Inv X pins σ H s → wi σ H R →
    wpAny (model X.prog X.w) X.A (eval iter X.env) (fun v s1 => wpAny (model X.prog X.w) X.A (pyIter v) (PIE X pins σ tg R) X.xe s1) X.xe s

/-- the step ahead of the store is nothing for an iterator that keeps no tuple -/
theorem go_of {M : Model} {A : Around} {E : Value → Shared → Prop} {s : Shared} {tg : Expr} {it : Addr} {u : Value} {o : Obj} {n : String} {vs : Array Value} {Q : Unit → Shared → Prop} (ho : s.heap.get? it = some o) (hc : o.cls = .type n) (hd : o.data = .fields vs)
    (hn : ["enumerate", "zip", "dict_itemiterator", "dict_reverseitemiterator", "odict_iterator", "itertools.zip_longest", "itertools.pairwise"].contains n = false) (hQ : Q () s) : wpAny M A (letOwnedTupleGo tg (.ref it) u) Q E s := by
  unfold letOwnedTupleGo
  cases tg <;> first
    | exact wpAny_pure hQ
    | (cases u <;> first
        | exact wpAny_pure hQ
        | (refine wpAny_bind (wpAny_load ho ?_)
           rw [hc, hd]
           show wpAny M A (if (["enumerate", "zip", "dict_itemiterator", "dict_reverseitemiterator", "odict_iterator", "itertools.zip_longest", "itertools.pairwise"].contains n && vs[0]? == some (rawInt _)) = true then _ else _) Q E s
           rw [if_neg (by intro h; rw [hn, Bool.false_and] at h; cases h)]
           exact wpAny_pure hQ))

/-- the list at a, as it stands at each turn (a loop may append to it) -/
def Itl (K : PySem.W.Frag) (a : Addr) : It :=
  ⟨fun i H => ∃ xs x, SqL K H a xs ∧ xs[i]? = some x, fun i H x H' => H' = H ∧ ∀ xs, SqL K H a xs → xs[i]? = some x, fun i H => ∃ xs, SqL K H a xs ∧ xs.length ≤ i⟩
def Itt (K : PySem.W.Frag) (a : Addr) : It :=
  ⟨fun i H => ∃ xs x, SqT K H a xs ∧ xs[i]? = some x, fun i H x H' => H' = H ∧ ∀ xs, SqT K H a xs → xs[i]? = some x, fun i H => ∃ xs, SqT K H a xs ∧ xs.length ≤ i⟩
/-- lo, lo + 1, .. (n of them) -/
def Itr (lo : Int) (n : Nat) : It := ⟨fun i _ => i < n, fun i H x H' => H' = H ∧ x = .int (lo + i), fun i _ => n ≤ i⟩
theorem turn_list {P : Program} {w : World} {K : PySem.W.Frag} {tg : Expr} (a it : Addr) : Turn P w K tg (Itl K a) [it] it (fun i h => h.IsListIter it a i) where
  mem := by simp
  obj := fun i h st b hb => by
    have e : b = it := by simpa using hb
    subst e
    obtain ⟨o, e, c, d⟩ := st
    exact ⟨o, e, fun v z => by rw [d] at z; cases z⟩
  keep := fun i h h' st k => st.at fun o e => k it (by simp) o e
  item := by
    intro X hP hw hK hc i pins s σ H E I hf st hg
    subst hP hw hK
    obtain ⟨xs, x, hq, hx⟩ := hg
    obtain ⟨its, rv, p, hz⟩ := I.list hq
    obtain ⟨u, hu, ru⟩ := rv.get hx
    obtain ⟨f0, f1, f2, f3, f4, f5⟩ := hf it (by simp)
    refine wpAny_pyNext_list_item st p.isList (x := u) (by simpa using hu) fun h' st' sb => ?_
    have I1 : Inv X pins σ H { s with heap := h' } := I.turned (t' := s.toks) (fun b o hb e => (sb.2 b hb).trans e) f0 f1 f3 f4 f5
    obtain ⟨o, e, c, d⟩ := id st'
    exact ⟨u, rfl, go_of (s := { s with heap := h' }) e c d (by decide) ⟨x, H, I1, ru, ⟨rfl, fun ys hy => by rw [I.list_inj hy hq]; exact hx⟩, st', fun b hb => (hf b hb).1⟩⟩
  done := by
    intro X hP hw hK hc i pins s σ H E I hf st hg
    subst hP hw hK
    obtain ⟨xs, hq, hx⟩ := hg
    obtain ⟨its, rv, p, hz⟩ := I.list hq
    obtain ⟨f0, f1, f2, f3, f4, f5⟩ := hf it (by simp)
    have hl := rv.length
    exact wpAny_pyNext_list_end (I.ok.hd hc) st p.isList (by simp; omega) fun h' eb => ⟨rfl, I.turned (t' := s.toks) (fun b o hb e => eb b o hb e) f0 f1 f3 f4 f5⟩
  self := fun _ _ _ _ _ st h => wpAny_pyIter_listiter st h
theorem turn_tuple {P : Program} {w : World} {K : PySem.W.Frag} {tg : Expr} (a it : Addr) : Turn P w K tg (Itt K a) [it] it (fun i h => h.IsTupleIter it a i) where
  mem := by simp
  obj := fun i h st b hb => by
    have e : b = it := by simpa using hb
    subst e
    obtain ⟨o, e, c, d⟩ := st
    exact ⟨o, e, fun v z => by rw [d] at z; cases z⟩
  keep := fun i h h' st k => st.at fun o e => k it (by simp) o e
  item := by
    intro X hP hw hK hc i pins s σ H E I hf st hg
    subst hP hw hK
    obtain ⟨xs, x, hq, hx⟩ := hg
    obtain ⟨its, rv, p, hz⟩ := I.tuple hq
    obtain ⟨u, hu, ru⟩ := rv.get hx
    obtain ⟨f0, f1, f2, f3, f4, f5⟩ := hf it (by simp)
    refine wpAny_pyNext_tuple_item st (show s.heap.IsTuple a its.toArray from p) (x := u) (by simpa using hu) fun h' st' sb => ?_
    have I1 : Inv X pins σ H { s with heap := h' } := I.turned (t' := s.toks) (fun b o hb e => (sb.2 b hb).trans e) f0 f1 f3 f4 f5
    obtain ⟨o, e, c, d⟩ := id st'
    exact ⟨u, rfl, go_of (s := { s with heap := h' }) e c d (by decide) ⟨x, H, I1, ru, ⟨rfl, fun ys hy => by rw [I.tuple_inj hy hq]; exact hx⟩, st', fun b hb => (hf b hb).1⟩⟩
  done := by
    intro X hP hw hK hc i pins s σ H E I hf st hg
    subst hP hw hK
    obtain ⟨xs, hq, hx⟩ := hg
    obtain ⟨its, rv, p, hz⟩ := I.tuple hq
    obtain ⟨f0, f1, f2, f3, f4, f5⟩ := hf it (by simp)
    have hl := rv.length
    exact wpAny_pyNext_tuple_end (I.ok.hd hc) st (show s.heap.IsTuple a its.toArray from p) (by simp; omega) fun h' eb => ⟨rfl, I.turned (t' := s.toks) (fun b o hb e => eb b o hb e) f0 f1 f3 f4 f5⟩
  self := fun _ _ _ _ _ st h => wpAny_pyIter_tupleiter st h
theorem turn_range {P : Program} {w : World} {K : PySem.W.Frag} {tg : Expr} (it : Addr) (lo : Int) (n : Nat) : Turn P w K tg (Itr lo n) [it] it (fun i h => IsRangeIter h it (lo + (i : Nat) * 1) ((n : Int) - (i : Nat)) 1) where
  mem := by simp
  obj := fun i h st b hb => by
    have e : b = it := by simpa using hb
    subst e
    exact ⟨_, st, fun v z => by
      have z' : Data.fields _ = Data.cell v := z
      cases z'⟩
  keep := fun i h h' st k => k it (by simp) _ st
  item := by
    intro X hP hw hK hc i pins s σ H E I hf st hg
    subst hP hw hK
    obtain ⟨f0, f1, f2, f3, f4, f5⟩ := hf it (by simp)
    have W := Walks.range (prog := X.prog) (w := X.w) (I.ok.hd hc) it lo 1 n
    refine W.item i s _ _ hg st fun v h' tk hv st' kk => ?_
    obtain ⟨t, rfl⟩ := hv
    have I1 : Inv X pins σ H { s with heap := h', toks := tk } := I.turned (fun b o hb e => kk b o (by simpa using hb) e) f0 f1 f3 f4 f5
    refine ⟨_, rfl, go_of (s := { s with heap := h', toks := tk }) (n := "range_iterator") st' rfl rfl (by decide) ⟨.int (lo + i), H, I1, ⟨t, ?_⟩, ⟨rfl, rfl⟩, st', fun b hb => (hf b hb).1⟩⟩
    rw [Int.mul_one]
  done := by
    intro X hP hw hK hc i pins s σ H E I hf st hg
    subst hP hw hK
    obtain ⟨f0, f1, f2, f3, f4, f5⟩ := hf it (by simp)
    exact wpAny_pyNext_range_end (I.ok.hd hc) st (by have : n ≤ i := hg; omega) fun h' eb => ⟨rfl, I.turned (t' := s.toks) (fun b o hb e => eb b o hb e) f0 f1 f3 f4 f5⟩
  self := fun _ _ _ _ _ st h => wpAny_pyIter_rangeiter st h
end L2

namespace L2
open PySem PySem.Spec PyProof.Rows
section
variable {X : Cx} {tg : Expr}
def iList (K : PySem.W.Frag) (tl : TE) : TI := fun σ H R => tl σ H fun x H1 => ∃ a, x = .ref a ∧ (∃ xs, SqL K H1 a xs) ∧ R (Itl K a) H1
def iTup (K : PySem.W.Frag) (tl : TE) : TI := fun σ H R => tl σ H fun x H1 => ∃ a, x = .ref a ∧ (∃ xs, SqT K H1 a xs) ∧ R (Itt K a) H1
theorem pi_list {l : Expr} {tl : TE} (hl : PE X l tl) : PI X tg l (iList X.K tl) := by
  intro pins s σ H R I h
  refine thn (hl pins s σ H _ I h) fun v s1 ⟨x, H1, I1, r1, q1⟩ => ?_
  obtain ⟨a, e, ⟨xs, hq⟩, q⟩ := q1
  subst e
  cases r1
  obtain ⟨its, rv, p, hz⟩ := I1.list hq
  refine wpAny_pyIter_list p.isList ?_
  refine ⟨s1.heap.objs.size, [s1.heap.objs.size], _, _, H1, rfl, I1.kept (t' := s1.toks) fun b o e => Heap.get?_push_of_some _ e, turn_list a _, ⟨_, Heap.get?_push_size _ rfl, rfl, rfl⟩, fun b hb => ?_, q⟩
  have e : b = s1.heap.objs.size := by simpa using hb
  subst e
  exact I1.fpOk (Nat.le_refl _) (I1.hok.fresh (Nat.le_refl _))
theorem pi_tup {l : Expr} {tl : TE} (hl : PE X l tl) : PI X tg l (iTup X.K tl) := by
  intro pins s σ H R I h
  refine thn (hl pins s σ H _ I h) fun v s1 ⟨x, H1, I1, r1, q1⟩ => ?_
  obtain ⟨a, e, ⟨xs, hq⟩, q⟩ := q1
  subst e
  cases r1
  obtain ⟨its, rv, p, hz⟩ := I1.tuple hq
  refine wpAny_pyIter_tuple (show s1.heap.IsTuple a its.toArray from p) ?_
  refine ⟨s1.heap.objs.size, [s1.heap.objs.size], _, _, H1, rfl, I1.kept (t' := s1.toks) fun b o e => Heap.get?_push_of_some _ e, turn_tuple a _, ⟨_, Heap.get?_push_size _ rfl, rfl, rfl⟩, fun b hb => ?_, q⟩
  have e : b = s1.heap.objs.size := by simpa using hb
  subst e
  exact I1.fpOk (Nat.le_refl _) (I1.hok.fresh (Nat.le_refl _))
/-- a range object just made, walked -/
theorem range_it {pins : List (Addr × Obj)} {σ : St} {H : Hp} {s : Shared} {R : It → Hp → Prop} {E : Value → Shared → Prop} {lo hi : Int} {t u v : Tok} {tk : Nat} (I : Inv X pins σ H s) (h1 : -(2 ^ 62) ≤ lo) (h2 : lo < 2 ^ 62) (h3 : -(2 ^ 62) ≤ hi) (h4 : hi < 2 ^ 62)
    (q : R (Itr lo (hi - lo).toNat) H) : wpAny (model X.prog X.w) X.A (pyIter (.ref s.heap.objs.size)) (PIE X pins σ tg R) E { s with heap := s.heap.push { cls := .type "range", data := .fields #[.int lo t, .int hi u, .int 1 v] }, toks := tk } := by
  refine wpAny_pyIter_range (IsRange.new ..) (small_one h1 h2 h3 h4) ?_
  have I1 : Inv X pins σ H { s with heap := s.heap.push { cls := .type "range", data := .fields #[.int lo t, .int hi u, .int 1 v] }, toks := tk } := I.kept fun b o e => Heap.get?_push_of_some _ e
  refine ⟨(s.heap.push { cls := .type "range", data := .fields #[.int lo t, .int hi u, .int 1 v] }).objs.size, [(s.heap.push { cls := .type "range", data := .fields #[.int lo t, .int hi u, .int 1 v] }).objs.size], _, _, H, rfl,
    I1.kept (t' := tk) fun b o e => Heap.get?_push_of_some _ e, turn_range _ lo (hi - lo).toNat, ?_, fun b hb => ?_, q⟩
  · have e1 : lo + ((0 : Nat) : Int) * 1 = lo := by simp
    have e2 : (((hi - lo).toNat : Nat) : Int) - ((0 : Nat) : Int) = Builtin.Range.rangeSize lo hi 1 := by rw [rangeSize_one]; split <;> omega
    show IsRangeIter _ _ (lo + ((0 : Nat) : Int) * 1) ((((hi - lo).toNat : Nat) : Int) - ((0 : Nat) : Int)) 1
    rw [e1, e2]
    exact Heap.get?_push_size _ rfl
  · have e : b = (s.heap.push { cls := .type "range", data := .fields #[.int lo t, .int hi u, .int 1 v] }).objs.size := by simpa using hb
    subst e
    exact I1.fpOk (Nat.le_refl _) (I1.hok.fresh (Nat.le_refl _))
def iRng1 (ta : TA) : TI := fun σ H R => ta σ H fun vs H1 => ∃ j : Int, vs = [.int j] ∧ -(2 ^ 62) ≤ j ∧ j < 2 ^ 62 ∧ R (Itr 0 j.toNat) H1
def iRng2 (ta : TA) : TI := fun σ H R => ta σ H fun vs H1 => ∃ i j : Int, vs = [.int i, .int j] ∧ (-(2 ^ 62) ≤ i ∧ i < 2 ^ 62 ∧ -(2 ^ 62) ≤ j ∧ j < 2 ^ 62) ∧ R (Itr i (j - i).toNat) H1
theorem pi_range1 {a : Expr} {ta : TA} {p pos : Pos} (hg : Gl X "range") (hm : X.mg "range" = none) (ha : PA X [a] ta) (hs : starEach [a] X.env = [(false, eval a X.env)] := by rfl) : PI X tg (.Call (.Name "range" p) [a] [] pos) (iRng1 ta) := by
  intro pins s σ H R I h
  refine Call_ (ld_blt I hg hm boot_range (PyProof.Rows.callWith_type1 (thn (ha pos pins s σ H _ I h) fun us s1 ⟨vs, H1, I1, r1, q1⟩ => ?_) hs rfl))
  obtain ⟨j, e, q1, q2, q⟩ := q1
  subst e
  cases r1 with
  | cons r rr =>
    cases rr
    obtain ⟨t, rfl⟩ := r
    exact call_range_1 (range_it I1 (by omega) (by omega) q1 q2 (by simpa using q))
theorem pi_range2 {a b : Expr} {ta : TA} {p pos : Pos} (hg : Gl X "range") (hm : X.mg "range" = none) (ha : PA X [a, b] ta) (hs : starEach [a, b] X.env = [(false, eval a X.env), (false, eval b X.env)] := by rfl) (hs2 : starEach [b] X.env = [(false, eval b X.env)] := by rfl) :
    PI X tg (.Call (.Name "range" p) [a, b] [] pos) (iRng2 ta) := by
  intro pins s σ H R I h
  refine Call_ (ld_blt I hg hm boot_range (PyProof.Rows.callWith_type1 (thn (ha pos pins s σ H _ I h) fun us s1 ⟨vs, H1, I1, r1, q1⟩ => ?_) (by rw [hs, hs2]) (by rw [hs2]; rfl)))
  obtain ⟨i, j, e, ⟨q1, q2, q3, q4⟩, q⟩ := q1
  subst e
  cases r1 with
  | cons r rr =>
    cases rr with
    | cons r' rr =>
      cases rr
      obtain ⟨t, rfl⟩ := r
      obtain ⟨t', rfl⟩ := r'
      exact call_range_2 (range_it I1 q1 q2 q3 q4 q)

/-! ### for -/
/-- W: the invariant by the turn and a measure; N: what the body is to reach -/
def tFor (wi : TI) (g : TG) (tb : TS) : TS := fun D σ H => wi σ H fun J H1 => ∃ W : Nat → Nat → St → Hp → Prop, (∃ m, W 0 m σ H1) ∧ ∀ i m σ H, W i m σ H →
  (J.stop i H ∧ D.nx σ H) ∨ (J.go i H ∧ ∃ N : St → Hp → Prop, (∀ σ' H', N σ' H' → ∃ m', m' < m ∧ W (i + 1) m' σ' H') ∧ ∀ x H', J.yld i H x H' → g x σ H' fun σ2 H2 => tb { D with nx := N, ct := N, bk := D.nx } σ2 H2)
/-- the records at fp as they stand -/
def pinsAt (fp : List Addr) (h : Heap) : List (Addr × Obj) := fp.filterMap fun b => (h.get? b).map fun o => (b, o)
theorem mem_pinsAt {fp : List Addr} {h : Heap} {b : Addr} {o : Obj} (hb : b ∈ fp) (e : h.get? b = some o) : (b, o) ∈ pinsAt fp h := List.mem_filterMap.mpr ⟨b, hb, by rw [e]; rfl⟩
theorem of_pinsAt {fp : List Addr} {h : Heap} {p : Addr × Obj} (hp : p ∈ pinsAt fp h) : p.1 ∈ fp ∧ h.get? p.1 = some p.2 := by
  obtain ⟨b, hb, e⟩ := List.mem_filterMap.mp hp
  cases q : h.get? b with
  | none => rw [q] at e; cases e
  | some o =>
    rw [q] at e
    have e' : (b, o) = p := Option.some.inj e
    subst e'
    exact ⟨hb, q⟩
theorem Inv.pinned {pins : List (Addr × Obj)} {σ : St} {H : Hp} {s : Shared} {fp : List Addr} (I : Inv X pins σ H s) (hf : ∀ b ∈ fp, FpOk X pins H b) (ho : ∀ b ∈ fp, ∃ o, s.heap.get? b = some o ∧ ∀ v, o.data ≠ .cell v) : Inv X (pins ++ pinsAt fp s.heap) σ H s :=
  I.pins_of fun p hp => (List.mem_append.mp hp).elim (fun z => I.pin p (List.mem_append_right _ z)) fun z => by
    obtain ⟨hb, e⟩ := of_pinsAt z
    obtain ⟨f0, f1, f2, _⟩ := hf p.1 hb
    obtain ⟨o, e', d⟩ := ho p.1 hb
    rw [e] at e'; cases e'
    exact ⟨e, f0, f1, f2, d⟩
theorem Inv.unpinned {pins pl : List (Addr × Obj)} {σ : St} {H : Hp} {s : Shared} (I : Inv X (pins ++ pl) σ H s) : Inv X pins σ H s := I.pins_of fun p hp => I.pin p (List.mem_append_right _ (List.mem_append_left _ hp))
theorem ps_for {iter : Expr} {body : List Stmt} {wi : TI} {g : TG} {tb : TS} {pos : Pos} (hp : PassesOwn (model X.prog X.w) X.A X.env X.xe) (hc : X.calm = true) (hi : PI X tg iter wi) (hg : PG X tg g) (hb : PSs X body tb)
    (hs : ∀ x, foldedSetIterable iter X.env x = pure x := by intro _; rfl) : PS X (.For tg iter body [] pos) (tFor wi g tb) := by
  intro pins s σ H D I h
  refine wpAny_For (thn (hi pins s σ H _ I h) fun v s1 h1 => thn h1 fun itv s2 h2 => ?_) hs
  obtain ⟨it, fp, tn, J, H2, e, I2, T, st2, f2, W, ⟨m0, w0⟩, turn⟩ := h2
  subst e
  -- what stays true of the iterator's objects through the loop
  have stat : ∀ {H' : Hp}, (∀ b ∈ fp, H' b = none) → ∀ b ∈ fp, FpOk X pins H' b := fun hn b hb => ⟨hn b hb, (f2 b hb).2⟩
  refine codeAny_forLoop_any (fun n s' => ∃ i σ' H', Inv X pins σ' H' s' ∧ tn i s'.heap ∧ (∀ b ∈ fp, H' b = none) ∧ W i n σ' H') ?_ m0 ⟨0, σ, H2, I2, st2, fun b hb => (f2 b hb).1, w0⟩
  rintro n s3 ⟨i, σ3, H3, I3, st3, fr3, w3⟩
  rcases turn i n σ3 H3 w3 with ⟨stop, qn⟩ | ⟨go, N, hN, step⟩
  · refine wpAny_passesOwn hp (thn (T.done X rfl rfl rfl hc i pins s3 σ3 H3 X.xe I3 (stat fr3) st3 stop) fun r s4 ⟨hr, I4⟩ => ?_)
    subst hr
    exact wpAny_execs_nil ⟨σ3, H3, I4, qn⟩
  · refine wpAny_passesOwn hp (thn (T.item X rfl rfl rfl hc i pins s3 σ3 H3 X.xe I3 (stat fr3) st3 go) fun r s4 ⟨u, hr, h4⟩ => ?_)
    subst hr
    refine wpAny_passesOwn hp (thn h4 fun _ s5 ⟨x, H5, I5, r5, y5, st5, fr5⟩ => ?_)
    have I5' := I5.pinned (stat fr5) (T.obj _ _ st5)
    refine wpAny_passesOwn hp (thn (hg _ s5 σ3 H5 x u _ I5' r5 (step x H5 y5)) fun _ s6 ⟨σ6, H6, I6, q6⟩ => ?_)
    refine wpAny_passesOwn hp (thn (hb _ s6 σ6 H6 _ I6 q6) fun f s7 q7 => ?_)
    have again : ∀ {σ7 : St} {H7 : Hp}, Inv X (pins ++ pinsAt fp s5.heap) σ7 H7 s7 → N σ7 H7 → ∃ m, m < n ∧ ∃ i σ' H', Inv X pins σ' H' s7 ∧ tn i s7.heap ∧ (∀ b ∈ fp, H' b = none) ∧ W i m σ' H' := fun {σ7 H7} I7 n7 => by
      obtain ⟨m', hm, w7⟩ := hN σ7 H7 n7
      refine ⟨m', hm, i + 1, σ7, H7, I7.unpinned, T.keep _ _ _ st5 fun b hb o e => (I7.pin (b, o) (List.mem_append_right _ (List.mem_append_right _ (mem_pinsAt hb e)))).1, fun b hb => ?_, w7⟩
      obtain ⟨o, e, d⟩ := T.obj _ _ st5 b hb
      exact (I7.pin (b, o) (List.mem_append_right _ (List.mem_append_right _ (mem_pinsAt hb e)))).2.1
    cases f with
    | next => obtain ⟨σ7, H7, I7, n7⟩ := q7; exact again I7 n7
    | cont => obtain ⟨σ7, H7, I7, n7⟩ := q7; exact again I7 n7
    | brk => obtain ⟨σ7, H7, I7, q7⟩ := q7; exact ⟨σ7, H7, I7.unpinned, q7⟩
    | ret v => obtain ⟨x7, σ7, H7, I7, r7, q7⟩ := q7; exact ⟨x7, σ7, H7, I7.unpinned, r7, q7⟩
end

/-! ### the forms one uses -/
/-- over a list that the body leaves as it is -/
theorem for_list {K : PySem.W.Frag} {a : Addr} {xs : List V} {g : TG} {tb : TS} {D : Ends} {σ : St} {H : Hp} (Pv : Nat → St → Hp → Prop) (h0 : Pv 0 σ H) (hl : ∀ i σ H, i ≤ xs.length → Pv i σ H → SqL K H a xs)
    (hs : ∀ i x σ H, xs[i]? = some x → Pv i σ H → g x σ H fun σ2 H2 => tb { D with nx := Pv (i + 1), ct := Pv (i + 1), bk := D.nx } σ2 H2) (hd : ∀ σ H, Pv xs.length σ H → D.nx σ H) :
    ∃ W : Nat → Nat → St → Hp → Prop, (∃ m, W 0 m σ H) ∧ ∀ i m σ H, W i m σ H →
      ((Itl K a).stop i H ∧ D.nx σ H) ∨ ((Itl K a).go i H ∧ ∃ N : St → Hp → Prop, (∀ σ' H', N σ' H' → ∃ m', m' < m ∧ W (i + 1) m' σ' H') ∧ ∀ x H', (Itl K a).yld i H x H' → g x σ H' fun σ2 H2 => tb { D with nx := N, ct := N, bk := D.nx } σ2 H2) := by
  refine ⟨fun i m σ H => m = xs.length - i ∧ i ≤ xs.length ∧ Pv i σ H, ⟨xs.length, by simp, Nat.zero_le _, h0⟩, ?_⟩
  rintro i m σ H ⟨rfl, hi, p⟩
  have q := hl i σ H hi p
  by_cases hlt : i < xs.length
  · refine .inr ⟨⟨xs, xs[i], q, by simp [hlt]⟩, Pv (i + 1), fun σ' H' p' => ⟨xs.length - (i + 1), by omega, rfl, hlt, p'⟩, fun x H' y => ?_⟩
    obtain ⟨e, y⟩ := y
    subst e
    exact hs i x σ _ (y xs q) p
  · have e : i = xs.length := by omega
    subst e
    exact .inl ⟨⟨xs, q, Nat.le_refl _⟩, hd σ H p⟩
theorem for_tup {K : PySem.W.Frag} {a : Addr} {xs : List V} {g : TG} {tb : TS} {D : Ends} {σ : St} {H : Hp} (Pv : Nat → St → Hp → Prop) (h0 : Pv 0 σ H) (hl : ∀ i σ H, i ≤ xs.length → Pv i σ H → SqT K H a xs)
    (hs : ∀ i x σ H, xs[i]? = some x → Pv i σ H → g x σ H fun σ2 H2 => tb { D with nx := Pv (i + 1), ct := Pv (i + 1), bk := D.nx } σ2 H2) (hd : ∀ σ H, Pv xs.length σ H → D.nx σ H) :
    ∃ W : Nat → Nat → St → Hp → Prop, (∃ m, W 0 m σ H) ∧ ∀ i m σ H, W i m σ H →
      ((Itt K a).stop i H ∧ D.nx σ H) ∨ ((Itt K a).go i H ∧ ∃ N : St → Hp → Prop, (∀ σ' H', N σ' H' → ∃ m', m' < m ∧ W (i + 1) m' σ' H') ∧ ∀ x H', (Itt K a).yld i H x H' → g x σ H' fun σ2 H2 => tb { D with nx := N, ct := N, bk := D.nx } σ2 H2) := by
  refine ⟨fun i m σ H => m = xs.length - i ∧ i ≤ xs.length ∧ Pv i σ H, ⟨xs.length, by simp, Nat.zero_le _, h0⟩, ?_⟩
  rintro i m σ H ⟨rfl, hi, p⟩
  have q := hl i σ H hi p
  by_cases hlt : i < xs.length
  · refine .inr ⟨⟨xs, xs[i], q, by simp [hlt]⟩, Pv (i + 1), fun σ' H' p' => ⟨xs.length - (i + 1), by omega, rfl, hlt, p'⟩, fun x H' y => ?_⟩
    obtain ⟨e, y⟩ := y
    subst e
    exact hs i x σ _ (y xs q) p
  · have e : i = xs.length := by omega
    subst e
    exact .inl ⟨⟨xs, q, Nat.le_refl _⟩, hd σ H p⟩
theorem for_range {lo : Int} {n : Nat} {g : TG} {tb : TS} {D : Ends} {σ : St} {H : Hp} (Pv : Nat → St → Hp → Prop) (h0 : Pv 0 σ H)
    (hs : ∀ i σ H, i < n → Pv i σ H → g (.int (lo + i)) σ H fun σ2 H2 => tb { D with nx := Pv (i + 1), ct := Pv (i + 1), bk := D.nx } σ2 H2) (hd : ∀ σ H, Pv n σ H → D.nx σ H) :
    ∃ W : Nat → Nat → St → Hp → Prop, (∃ m, W 0 m σ H) ∧ ∀ i m σ H, W i m σ H →
      ((Itr lo n).stop i H ∧ D.nx σ H) ∨ ((Itr lo n).go i H ∧ ∃ N : St → Hp → Prop, (∀ σ' H', N σ' H' → ∃ m', m' < m ∧ W (i + 1) m' σ' H') ∧ ∀ x H', (Itr lo n).yld i H x H' → g x σ H' fun σ2 H2 => tb { D with nx := N, ct := N, bk := D.nx } σ2 H2) := by
  refine ⟨fun i m σ H => m = n - i ∧ i ≤ n ∧ Pv i σ H, ⟨n, by simp, Nat.zero_le _, h0⟩, ?_⟩
  rintro i m σ H ⟨rfl, hi, p⟩
  by_cases hlt : i < n
  · refine .inr ⟨hlt, Pv (i + 1), fun σ' H' p' => ⟨n - (i + 1), by omega, rfl, hlt, p'⟩, fun x H' y => ?_⟩
    obtain ⟨e, y⟩ := y
    subst e y
    exact hs i σ _ hlt p
  · have e : i = n := by omega
    subst e
    exact .inl ⟨Nat.le_refl _, hd σ H p⟩
/-- while, by a word and a measure of the state -/
theorem while_by {c : TT} {tb : TS} {D : Ends} {σ : St} {H : Hp} (Pv : St → Hp → Prop) (μ : St → Hp → Nat) (h0 : Pv σ H)
    (hs : ∀ σ H, Pv σ H → c σ H fun b H1 => if b = true then tb { D with nx := fun σ' H' => Pv σ' H' ∧ μ σ' H' < μ σ H, ct := fun σ' H' => Pv σ' H' ∧ μ σ' H' < μ σ H, bk := D.nx } σ H1 else D.nx σ H1)
    (mono : ∀ σ H Q Q', (∀ b H1, Q b H1 → Q' b H1) → c σ H Q → c σ H Q') : tWhile c tb D σ H := by
  refine ⟨fun m σ H => m = μ σ H ∧ Pv σ H, ⟨_, rfl, h0⟩, ?_⟩
  rintro m σ H ⟨rfl, p⟩
  refine mono σ H _ _ (fun b H1 q => ?_) (hs σ H p)
  cases b with
  | true => exact ⟨_, fun σ' H' ⟨p', l⟩ => ⟨_, l, rfl, p'⟩, q⟩
  | false => exact q
end L2

namespace L2
open PySem PySem.Spec PyProof.Rows

abbrev R2 := V → V → Hp → VK → Prop
/-- a two-place operation on values: f is binaryOp op, inplaceOp op or compareOp op -/
def OpR (X : Cx) (f : Value → Value → Sem Value) (r : R2) : Prop :=
  ∀ (pins : List (Addr × Obj)) (s : Shared) (σ : St) (H : Hp) (x y : V) (v u : Value) (Q : VK), Inv X pins σ H s → RelV x v → RelV y u → r x y H Q →
    wpAny (model X.prog X.w) X.A (f v u) (EP X pins σ Q) X.xe s
/-- a one-place operation -/
def UnR (X : Cx) (f : Value → Sem Value) (r : V → Hp → VK → Prop) : Prop :=
  ∀ (pins : List (Addr × Obj)) (s : Shared) (σ : St) (H : Hp) (x : V) (v : Value) (Q : VK), Inv X pins σ H s → RelV x v → r x H Q →
    wpAny (model X.prog X.w) X.A (f v) (EP X pins σ Q) X.xe s
/-- a call of a value that is known (a builtin, a type) with values -/
def CallR (X : Cx) (f : Value) (r : List V → Hp → VK → Prop) : Prop :=
  ∀ (pins : List (Addr × Obj)) (s : Shared) (σ : St) (H : Hp) (xs : List V) (us : List Value) (Q : VK), Inv X pins σ H s → Vals xs us → r xs H Q →
    wpAny (model X.prog X.w) X.A (call f us) (EP X pins σ Q) X.xe s
/-- a value's truth -/
def TruR (X : Cx) (r : V → Hp → (Bool → Hp → Prop) → Prop) : Prop :=
  ∀ (pins : List (Addr × Obj)) (s : Shared) (σ : St) (H : Hp) (x : V) (v : Value) (Q : Bool → Hp → Prop), Inv X pins σ H s → RelV x v → r x H Q →
    wpAny (model X.prog X.w) X.A (truthy v) (TP X pins σ Q) X.xe s

def tOp (r : R2) (ta tb : TE) : TE := fun σ H Q => ta σ H fun x H1 => tb σ H1 fun y H2 => r x y H2 Q
def tUn (r : V → Hp → VK → Prop) (ta : TE) : TE := fun σ H Q => ta σ H fun x H1 => r x H1 Q
/-- ints in, under C, and a value out -/
def rI (C : Int → Int → Prop) (g : Int → Int → V) : R2 := fun x y H Q => ∃ i j, x = .int i ∧ y = .int j ∧ C i j ∧ Q (g i j) H
def rI0 (g : Int → Int → V) : R2 := fun x y H Q => ∃ i j, x = .int i ∧ y = .int j ∧ Q (g i j) H
def rU (g : Int → V) : V → Hp → VK → Prop := fun x H Q => ∃ i, x = .int i ∧ Q (g i) H

section
variable {X : Cx} {a b c : Expr} {ta tb tc : TE} {pos : Pos}

theorem binT (ha : PE X a ta) (hb : PE X b tb) {pins : List (Addr × Obj)} {s : Shared} {σ : St} {H : Hp} {R : V → V → Hp → Prop} (I : Inv X pins σ H s)
    (h : ta σ H fun x H1 => tb σ H1 fun y H2 => R x y H2) {Q : Value → Shared → Prop} {f : Value → Value → Sem Value}
    (hf : ∀ v u s2 x y H2, Inv X pins σ H2 s2 → RelV x v → RelV y u → R x y H2 → wpAny (model X.prog X.w) X.A (f v u) Q X.xe s2) :
    wpAny (model X.prog X.w) X.A (eval a X.env) (fun v s₁ => wpAny (model X.prog X.w) X.A (eval b X.env) (fun u s₂ => wpAny (model X.prog X.w) X.A (f v u) Q X.xe s₂) X.xe s₁) X.xe s := by
  refine thn (ha pins s σ H _ I h) fun v s1 ⟨x, H1, I1, r1, q1⟩ => ?_
  refine thn (hb pins s1 σ H1 _ I1 q1) fun u s2 ⟨y, H2, I2, r2, q2⟩ => ?_
  exact hf v u s2 x y H2 I2 r1 r2 q2

theorem pe_op {op : Operator} {r : R2} (ho : OpR X (binaryOp op) r) (ha : PE X a ta) (hb : PE X b tb) : PE X (.BinOp a op b pos) (tOp r ta tb) := by
  intro pins s σ H Q I h
  exact wpAny_BinOp (binT ha hb I h fun v u s2 x y H2 I2 rx ry q => ho pins s2 σ H2 x y v u Q I2 rx ry q)
theorem pe_un {op : UnaryOp} {r : V → Hp → VK → Prop} (ho : UnR X (unaryOp op) r) (ha : PE X a ta) : PE X (.UnaryOp op a pos) (tUn r ta) := by
  intro pins s σ H Q I h
  exact UnaryOp_ (thn (ha pins s σ H _ I h) fun v s1 ⟨x, H1, I1, r1, q1⟩ => ho pins s1 σ H1 x v Q I1 r1 q1)
/-- a op= e at a name: the name's slot i -/
theorem augR {op : Operator} {r : R2} (ho : OpR X (inplaceOp op) r) {pins : List (Addr × Obj)} {s : Shared} {σ : St} {H : Hp} {x y : V} {v u : Value} {Q : VK} (I : Inv X pins σ H s)
    (rx : RelV x v) (ry : RelV y u) (q : r x y H Q) : wpAny (model X.prog X.w) X.A (inplaceOp op v u) (EP X pins σ Q) X.xe s := ho pins s σ H x y v u Q I rx ry q

/-! ### ints -/
theorem opI {f : Value → Value → Sem Value} {C : Int → Int → Prop} {g : Int → Int → Int}
    (rule : ∀ (i j : Int) (t u : Tok) (s : Shared) (Q : Value → Shared → Prop) (E : Value → Shared → Prop), C i j → Q (.int (g i j) s.toks) { s with toks := s.toks + 1 } → wpAny (model X.prog X.w) X.A (f (.int i t) (.int j u)) Q E s) :
    OpR X f (rI C fun i j => .int (g i j)) := by
  intro pins s σ H x y v u Q I rx ry h
  obtain ⟨i, j, rfl, rfl, hc, q⟩ := h
  obtain ⟨t, rfl⟩ := rx
  obtain ⟨t', rfl⟩ := ry
  exact rule i j t t' s _ _ hc ⟨.int (g i j), H, I.tok _, ⟨_, rfl⟩, q⟩
theorem opI0 {f : Value → Value → Sem Value} {g : Int → Int → Int}
    (rule : ∀ (i j : Int) (t u : Tok) (s : Shared) (Q : Value → Shared → Prop) (E : Value → Shared → Prop), Q (.int (g i j) s.toks) { s with toks := s.toks + 1 } → wpAny (model X.prog X.w) X.A (f (.int i t) (.int j u)) Q E s) :
    OpR X f (rI0 fun i j => .int (g i j)) := by
  intro pins s σ H x y v u Q I rx ry h
  obtain ⟨i, j, rfl, rfl, q⟩ := h
  obtain ⟨t, rfl⟩ := rx
  obtain ⟨t', rfl⟩ := ry
  exact rule i j t t' s _ _ ⟨.int (g i j), H, I.tok _, ⟨_, rfl⟩, q⟩
theorem opB0 {f : Value → Value → Sem Value} {g : Int → Int → Bool}
    (rule : ∀ (i j : Int) (t u : Tok) (s : Shared) (Q : Value → Shared → Prop) (E : Value → Shared → Prop), Q (.bool (g i j)) s → wpAny (model X.prog X.w) X.A (f (.int i t) (.int j u)) Q E s) :
    OpR X f (rI0 fun i j => .bl (g i j)) := by
  intro pins s σ H x y v u Q I rx ry h
  obtain ⟨i, j, rfl, rfl, q⟩ := h
  obtain ⟨t, rfl⟩ := rx
  obtain ⟨t', rfl⟩ := ry
  exact rule i j t t' s _ _ ⟨.bl (g i j), H, I, rfl, q⟩

def CDiv (i j : Int) : Prop := 0 < j ∧ j < 1073741824
def CDivN (i j : Int) : Prop := j ≠ 0 ∧ j.natAbs < 1073741824
def CPow (i j : Int) : Prop := 0 ≤ j ∧ j ≤ 1000000 ∧ i.natAbs < 2 ^ 64
def CMul (i j : Int) : Prop := (-(2 ^ 64) < i ∧ i < 2 ^ 64) ∨ (-(2 ^ 64) < j ∧ j < 2 ^ 64)
theorem CMul.ok {i j : Int} (h : CMul i j) : IntMulOk i j := by
  rcases h with ⟨h1, h2⟩ | ⟨h1, h2⟩
  · exact .of_left (intBits_le_64 h1 h2)
  · exact .of_right (intBits_le_64 h1 h2)
theorem two_pow_nn (k : Nat) : (0 : Int) ≤ 2 ^ k := by
  rw [two_pow_cast]
  exact Int.natCast_nonneg _

theorem op_add : OpR X (binaryOp .Add) (rI0 fun i j => .int (i + j)) := opI0 fun _ _ _ _ _ _ _ q => add_int q
theorem op_sub : OpR X (binaryOp .Sub) (rI0 fun i j => .int (i - j)) := opI0 fun _ _ _ _ _ _ _ q => sub_int q
theorem op_mul : OpR X (binaryOp .Mult) (rI CMul fun i j => .int (i * j)) := opI fun _ _ _ _ _ _ _ hc q => mul_int q hc.ok
/-- // by a positive divisor -/
theorem op_fdiv : OpR X (binaryOp .FloorDiv) (rI CDiv fun i j => .int (i / j)) := opI fun i j _ _ _ _ _ hc q => by
  have h1 : (0 : Int) < j := hc.1
  have h2 : j < 1073741824 := hc.2
  exact floordiv_int (by omega) (by rw [Int.fdiv_eq_ediv_of_nonneg i (by omega)]; exact q) (.inl (PyProof.noPylong_small (by omega)))
theorem op_fdivN : OpR X (binaryOp .FloorDiv) (rI CDivN fun i j => .int (i.fdiv j)) := opI fun _ _ _ _ _ _ _ hc q => floordiv_int hc.1 q (.inl (PyProof.noPylong_small hc.2))
/-- % by a positive divisor of any size -/
theorem op_mod : OpR X (binaryOp .Mod) (rI (fun _ j => 0 < j) fun i j => .int (i % j)) := opI fun i j _ _ _ _ _ hc q => by
  have h1 : (0 : Int) < j := hc
  exact mod_int' (by omega) (by rw [Int.fmod_eq_emod_of_nonneg i (by omega)]; exact q)
theorem op_modN : OpR X (binaryOp .Mod) (rI (fun _ j => j ≠ 0) fun i j => .int (i.fmod j)) := opI fun _ _ _ _ _ _ _ hc q => mod_int' hc q
theorem op_pow : OpR X (binaryOp .Pow) (rI CPow fun i j => .int (i ^ j.toNat)) := opI fun _ _ _ _ _ _ _ hc q => pow_int_small hc.1 hc.2.1 hc.2.2 q
theorem op_shl : OpR X (binaryOp .LShift) (rI CPow fun i j => .int (i * 2 ^ j.toNat)) := opI fun _ _ _ _ _ _ _ hc q => lshift_int_small hc.1 hc.2.1 hc.2.2 q
theorem op_shr : OpR X (binaryOp .RShift) (rI (fun _ j => 0 ≤ j) fun i j => .int (i / 2 ^ j.toNat)) := opI fun i j _ _ _ _ _ hc q =>
  rshift_int hc (by rw [Int.fdiv_eq_ediv_of_nonneg i (two_pow_nn _)]; exact q)
theorem op_and : OpR X (binaryOp .BitAnd) (rI0 fun i j => .int (Builtin.bitAnd i j)) := opI0 fun _ _ _ _ _ _ _ q => and_int q
theorem op_or : OpR X (binaryOp .BitOr) (rI0 fun i j => .int (Builtin.bitOr i j)) := opI0 fun _ _ _ _ _ _ _ q => or_int q
theorem op_xor : OpR X (binaryOp .BitXor) (rI0 fun i j => .int (Builtin.bitXor i j)) := opI0 fun _ _ _ _ _ _ _ q => xor_int q

theorem iop_add : OpR X (inplaceOp .Add) (rI0 fun i j => .int (i + j)) := opI0 fun _ _ _ _ _ _ _ q => iadd_int q
theorem iop_sub : OpR X (inplaceOp .Sub) (rI0 fun i j => .int (i - j)) := opI0 fun _ _ _ _ _ _ _ q => isub_int q
theorem iop_mul : OpR X (inplaceOp .Mult) (rI CMul fun i j => .int (i * j)) := opI fun _ _ _ _ _ _ _ hc q => imul_int q hc.ok
theorem iop_fdiv : OpR X (inplaceOp .FloorDiv) (rI CDiv fun i j => .int (i / j)) := opI fun i j _ _ _ _ _ hc q => by
  have h1 : (0 : Int) < j := hc.1
  have h2 : j < 1073741824 := hc.2
  exact ifloordiv_int (by omega) (by rw [Int.fdiv_eq_ediv_of_nonneg i (by omega)]; exact q) (.inl (PyProof.noPylong_small (by omega)))
theorem iop_mod : OpR X (inplaceOp .Mod) (rI (fun _ j => 0 < j) fun i j => .int (i % j)) := opI fun i j _ _ _ _ _ hc q => by
  have h1 : (0 : Int) < j := hc
  exact imod_int (by omega) (by rw [Int.fmod_eq_emod_of_nonneg i (by omega)]; exact q)
theorem iop_shl : OpR X (inplaceOp .LShift) (rI CPow fun i j => .int (i * 2 ^ j.toNat)) := opI fun _ _ _ _ _ _ _ hc q => ilshift_int_small hc.1 hc.2.1 hc.2.2 q
theorem iop_shr : OpR X (inplaceOp .RShift) (rI (fun _ j => 0 ≤ j) fun i j => .int (i / 2 ^ j.toNat)) := opI fun i j _ _ _ _ _ hc q =>
  irshift_int hc (by rw [Int.fdiv_eq_ediv_of_nonneg i (two_pow_nn _)]; exact q)
theorem iop_and : OpR X (inplaceOp .BitAnd) (rI0 fun i j => .int (Builtin.bitAnd i j)) := opI0 fun _ _ _ _ _ _ _ q => iand_int q
theorem iop_or : OpR X (inplaceOp .BitOr) (rI0 fun i j => .int (Builtin.bitOr i j)) := opI0 fun _ _ _ _ _ _ _ q => ior_int q
theorem iop_xor : OpR X (inplaceOp .BitXor) (rI0 fun i j => .int (Builtin.bitXor i j)) := opI0 fun _ _ _ _ _ _ _ q => ixor_int q

theorem unI {f : Value → Sem Value} {g : Int → Int}
    (rule : ∀ (i : Int) (t : Tok) (s : Shared) (Q : Value → Shared → Prop) (E : Value → Shared → Prop), Q (.int (g i) s.toks) { s with toks := s.toks + 1 } → wpAny (model X.prog X.w) X.A (f (.int i t)) Q E s) :
    UnR X f (rU fun i => .int (g i)) := by
  intro pins s σ H x v Q I rx h
  obtain ⟨i, rfl, q⟩ := h
  obtain ⟨t, rfl⟩ := rx
  exact rule i t s _ _ ⟨.int (g i), H, I.tok _, ⟨_, rfl⟩, q⟩
theorem un_neg : UnR X (unaryOp .USub) (rU fun i => .int (-i)) := unI fun _ _ _ _ _ q => neg_int q
theorem un_inv : UnR X (unaryOp .Invert) (rU fun i => .int (Builtin.bitNot i)) := unI fun _ _ _ _ _ q => invert_int q

/-! ### bools among ints: n += (a < b) -/
theorem op_add_ib : OpR X (binaryOp .Add) (fun x y H Q => ∃ i k, x = .int i ∧ y = .bl k ∧ Q (.int (i + b2i k)) H) := by
  intro pins s σ H x y v u Q I rx ry h
  obtain ⟨i, k, rfl, rfl, q⟩ := h
  obtain ⟨t, rfl⟩ := rx
  cases ry
  exact add_int_bool ⟨.int (i + b2i k), H, I.tok _, ⟨_, rfl⟩, q⟩
end

/-! ### comparisons -/
/-- the scalars that == tells apart as data does -/
def scal : V → V → Bool
  | .non, .non => true | .non, .int _ => true | .int _, .non => true | .non, .bl _ => true | .bl _, .non => true | .non, .str _ => true | .str _, .non => true
  | .int _, .int _ => true | .bl _, .bl _ => true | .str _, .str _ => true | .byt _, .byt _ => true
  | .int _, .str _ => true | .str _, .int _ => true | .bl _, .str _ => true | .str _, .bl _ => true
  | _, _ => false
def rEq : R2 := fun x y H Q => scal x y = true ∧ Q (.bl (decide (x = y))) H
def rNe : R2 := fun x y H Q => scal x y = true ∧ Q (.bl (!decide (x = y))) H

theorem dec_int {i j : Int} : decide (V.int i = V.int j) = (i == j) := by
  rw [Bool.eq_iff_iff]
  simp
theorem dec_bl {i j : Bool} : decide (V.bl i = V.bl j) = (i == j) := by
  rw [Bool.eq_iff_iff]
  simp
theorem dec_str {i j : Str} : decide (V.str i = V.str j) = (i == j) := by
  rw [Bool.eq_iff_iff]
  simp
theorem dec_byt {i j : Array UInt8} : decide (V.byt i = V.byt j) = (i.toList == j.toList) := by
  rw [Bool.eq_iff_iff]
  cases i
  cases j
  simp

section
variable {X : Cx} {a b c : Expr} {ta tb tc : TE} {pos : Pos}
theorem fin_bl {pins : List (Addr × Obj)} {σ : St} {H : Hp} {s : Shared} {Q : VK} {k k' : Bool} (I : Inv X pins σ H s) (q : Q (.bl k) H) (e : k = k') : EP X pins σ Q (.bool k') s := by
  subst e
  exact ⟨.bl k, H, I, rfl, q⟩
theorem op_eq : OpR X (compareOp .Eq) rEq := by
  intro pins s σ H x y v u Q I rx ry h
  obtain ⟨hs, q⟩ := h
  cases x with
  | non =>
    cases rx
    cases y with
    | non => cases ry; exact PySem.EqNone.eq_none_none (fin_bl I q (by simp))
    | bl j => cases ry; exact PySem.EqNone.eq_none_bool (fin_bl I q (by simp))
    | int j => obtain ⟨t', rfl⟩ := ry; exact PySem.EqNone.eq_none_int (fin_bl I q (by simp))
    | str j => obtain ⟨t', rfl⟩ := ry; exact PySem.EqNone.eq_none_str (fin_bl I q (by simp))
    | _ => exact absurd (show false = true from hs) Bool.false_ne_true
  | bl i =>
    cases rx
    cases y with
    | non => cases ry; exact PySem.EqNone.eq_bool_none (fin_bl I q (by simp))
    | bl j => cases ry; exact eq_bool (fin_bl I q dec_bl)
    | str j => obtain ⟨t', rfl⟩ := ry; exact PySem.EqMixed.eq_bool_str (fin_bl I q (by simp))
    | _ => exact absurd (show false = true from hs) Bool.false_ne_true
  | int i =>
    obtain ⟨t, rfl⟩ := rx
    cases y with
    | non => cases ry; exact PySem.EqNone.eq_int_none (fin_bl I q (by simp))
    | int j => obtain ⟨t', rfl⟩ := ry; exact eq_int (fin_bl I q dec_int)
    | str j => obtain ⟨t', rfl⟩ := ry; exact PySem.EqMixed.eq_int_str (fin_bl I q (by simp))
    | _ => exact absurd (show false = true from hs) Bool.false_ne_true
  | str i =>
    obtain ⟨t, rfl⟩ := rx
    cases y with
    | non => cases ry; exact PySem.EqNone.eq_str_none (fin_bl I q (by simp))
    | bl j => cases ry; exact PySem.EqMixed.eq_str_bool (fin_bl I q (by simp))
    | int j => obtain ⟨t', rfl⟩ := ry; exact PySem.EqMixed.eq_str_int (fin_bl I q (by simp))
    | str j => obtain ⟨t', rfl⟩ := ry; exact eq_str (fin_bl I q dec_str)
    | _ => exact absurd (show false = true from hs) Bool.false_ne_true
  | byt i =>
    obtain ⟨t, rfl⟩ := rx
    cases y with
    | byt j => obtain ⟨t', rfl⟩ := ry; exact PySem.W.eq_bytes (fin_bl I q dec_byt)
    | _ => exact absurd (show false = true from hs) Bool.false_ne_true
  | _ => cases y <;> exact absurd (show false = true from hs) Bool.false_ne_true
theorem op_ne : OpR X (compareOp .NotEq) rNe := by
  intro pins s σ H x y v u Q I rx ry h
  obtain ⟨hs, q⟩ := h
  cases x with
  | non =>
    cases rx
    cases y with
    | non => cases ry; exact PySem.EqNone.ne_none_none (fin_bl I q (by simp))
    | bl j => cases ry; exact PySem.EqNone.ne_none_bool (fin_bl I q (by simp))
    | int j => obtain ⟨t', rfl⟩ := ry; exact PySem.EqNone.ne_none_int (fin_bl I q (by simp))
    | str j => obtain ⟨t', rfl⟩ := ry; exact PySem.EqNone.ne_none_str (fin_bl I q (by simp))
    | _ => exact absurd (show false = true from hs) Bool.false_ne_true
  | bl i =>
    cases rx
    cases y with
    | non => cases ry; exact PySem.EqNone.ne_bool_none (fin_bl I q (by simp))
    | bl j => cases ry; exact ne_bool (fin_bl I q (congrArg not dec_bl))
    | str j => obtain ⟨t', rfl⟩ := ry; exact PySem.EqMixed.ne_bool_str (fin_bl I q (by simp))
    | _ => exact absurd (show false = true from hs) Bool.false_ne_true
  | int i =>
    obtain ⟨t, rfl⟩ := rx
    cases y with
    | non => cases ry; exact PySem.EqNone.ne_int_none (fin_bl I q (by simp))
    | int j => obtain ⟨t', rfl⟩ := ry; exact ne_int (fin_bl I q (congrArg not dec_int))
    | str j => obtain ⟨t', rfl⟩ := ry; exact PySem.EqMixed.ne_int_str (fin_bl I q (by simp))
    | _ => exact absurd (show false = true from hs) Bool.false_ne_true
  | str i =>
    obtain ⟨t, rfl⟩ := rx
    cases y with
    | non => cases ry; exact PySem.EqNone.ne_str_none (fin_bl I q (by simp))
    | bl j => cases ry; exact PySem.EqMixed.ne_str_bool (fin_bl I q (by simp))
    | int j => obtain ⟨t', rfl⟩ := ry; exact PySem.EqMixed.ne_str_int (fin_bl I q (by simp))
    | str j => obtain ⟨t', rfl⟩ := ry; exact ne_str (fin_bl I q (congrArg not dec_str))
    | _ => exact absurd (show false = true from hs) Bool.false_ne_true
  | byt i =>
    obtain ⟨t, rfl⟩ := rx
    cases y with
    | byt j => obtain ⟨t', rfl⟩ := ry; exact PySem.W.ne_bytes (fin_bl I q (congrArg not dec_byt))
    | _ => exact absurd (show false = true from hs) Bool.false_ne_true
  | _ => cases y <;> exact absurd (show false = true from hs) Bool.false_ne_true

theorem op_lt : OpR X (compareOp .Lt) (rI0 fun i j => .bl (decide (i < j))) := opB0 fun _ _ _ _ _ _ _ q => lt_int q
theorem op_le : OpR X (compareOp .LtE) (rI0 fun i j => .bl (decide (i ≤ j))) := opB0 fun _ _ _ _ _ _ _ q => le_int q
theorem op_gt : OpR X (compareOp .Gt) (rI0 fun i j => .bl (decide (j < i))) := opB0 fun _ _ _ _ _ _ _ q => gt_int q
theorem op_ge : OpR X (compareOp .GtE) (rI0 fun i j => .bl (decide (j ≤ i))) := opB0 fun _ _ _ _ _ _ _ q => ge_int q
theorem op_lt_str : OpR X (compareOp .Lt) (fun x y H Q => ∃ i j, x = .str i ∧ y = .str j ∧ Q (.bl (decide (i.cps.toList < j.cps.toList))) H) := by
  intro pins s σ H x y v u Q I rx ry h
  obtain ⟨i, j, rfl, rfl, q⟩ := h
  obtain ⟨t, rfl⟩ := rx
  obtain ⟨t', rfl⟩ := ry
  exact lt_str (fin_bl I q rfl)
/-- the one string within the other -/
theorem op_in_str : OpR X (compareOp .In) (fun x y H Q => ∃ i j, x = .str i ∧ y = .str j ∧ Q (.bl (!(Builtin.Str.occurrences j i 0 j.length 1).isEmpty)) H) := by
  intro pins s σ H x y v u Q I rx ry h
  obtain ⟨i, j, rfl, rfl, q⟩ := h
  obtain ⟨t, rfl⟩ := rx
  obtain ⟨t', rfl⟩ := ry
  exact in_str (fin_bl I q rfl)

/-- is None, is not None: the right side a value none -/
theorem op_isN : OpR X (compareOp .Is) (fun x y H Q => y = .non ∧ Q (.bl (decide (x = .non))) H) := by
  intro pins s σ H x y v u Q I rx ry h
  obtain ⟨rfl, q⟩ := h
  cases ry
  refine is_none_gen (fin_bl I q ?_)
  cases x <;> first
    | (cases rx; rfl)
    | (obtain ⟨t, rfl⟩ := rx; rfl)
theorem op_notN : OpR X (compareOp .IsNot) (fun x y H Q => y = .non ∧ Q (.bl (!decide (x = .non))) H) := by
  intro pins s σ H x y v u Q I rx ry h
  obtain ⟨rfl, q⟩ := h
  cases ry
  refine isnot_none_gen (fin_bl I q ?_)
  cases x <;> first
    | (cases rx; rfl)
    | (obtain ⟨t, rfl⟩ := rx; rfl)

theorem op_notin_str : OpR X (compareOp .NotIn) (fun x y H Q => ∃ i j, x = .str i ∧ y = .str j ∧ Q (.bl (!(!(Builtin.Str.occurrences j i 0 j.length 1).isEmpty))) H) := by
  intro pins s σ H x y v u Q I rx ry h
  obtain ⟨i, j, rfl, rfl, q⟩ := h
  obtain ⟨t, rfl⟩ := rx
  obtain ⟨t', rfl⟩ := ry
  exact notIn_str (fin_bl I q rfl)
/-- is, is not of two objects that are tracked lists or instances -/
def isObj : HO → Bool
  | .lst _ => true
  | .ins _ _ _ => true
  | _ => false
theorem obj_there {pins : List (Addr × Obj)} {s : Shared} {σ : St} {H : Hp} {a : Addr} {o : HO} (I : Inv X pins σ H s) (h : H a = some o) (p : isObj o = true) : ∃ ob, s.heap.get? a = some ob ∧ ob.cls ≠ .type "tuple" := by
  cases o with
  | lst xs =>
    obtain ⟨_, its, n, _, e⟩ : xs.length ≤ sizeLine ∧ ∃ (its : List Value) (n : Nat), Vals xs its ∧ s.heap.get? a = some { cls := .type "list", data := .seq its.toArray n } := I.hok a _ h
    exact ⟨_, e, (by show Value.type "list" ≠ .type "tuple"; decide +kernel)⟩
  | ins C dx fs =>
    have x := I.hok a _ h
    obtain ⟨_, _, _, e, _⟩ := x
    exact ⟨_, e, (by show Value.ref C ≠ .type "tuple"; exact fun z => by cases z)⟩
  | _ => exact absurd (show false = true from p) Bool.false_ne_true
theorem op_is_ref : OpR X (compareOp .Is) (fun x y H Q => ∃ a b oa ob, x = .ref a ∧ y = .ref b ∧ H a = some oa ∧ isObj oa = true ∧ H b = some ob ∧ isObj ob = true ∧ Q (.bl (decide (a = b))) H) := by
  intro pins s σ H x y v u Q I rx ry h
  obtain ⟨a, b, oa, ob, rfl, rfl, ha, pa, hb, pb, q⟩ := h
  cases rx
  cases ry
  obtain ⟨o1, e1, n1⟩ := obj_there I ha pa
  obtain ⟨o2, e2, _⟩ := obj_there I hb pb
  by_cases z : a = b
  · subst z
    exact wpAny_is_ref_self (fin_bl I q (by simp))
  · exact wpAny_is_ref_other z e1 e2 n1 (fin_bl I q (by simp [z]))
theorem op_isnot_ref : OpR X (compareOp .IsNot) (fun x y H Q => ∃ a b oa ob, x = .ref a ∧ y = .ref b ∧ H a = some oa ∧ isObj oa = true ∧ H b = some ob ∧ isObj ob = true ∧ Q (.bl (!decide (a = b))) H) := by
  intro pins s σ H x y v u Q I rx ry h
  obtain ⟨a, b, oa, ob, rfl, rfl, ha, pa, hb, pb, q⟩ := h
  cases rx
  cases ry
  obtain ⟨o1, e1, n1⟩ := obj_there I ha pa
  obtain ⟨o2, e2, _⟩ := obj_there I hb pb
  by_cases z : a = b
  · subst z
    exact wpAny_isNot_ref_self (fin_bl I q (by simp))
  · exact wpAny_isNot_ref_other z e1 e2 n1 (fin_bl I q (by simp [z]))

/-- two rules for one operation: by cases -/
theorem OpR.or {f : Value → Value → Sem Value} {r r' : R2} (h : OpR X f r) (h' : OpR X f r') : OpR X f (fun x y H Q => r x y H Q ∨ r' x y H Q) := by
  intro pins s σ H x y v u Q I rx ry q
  rcases q with q | q
  · exact h pins s σ H x y v u Q I rx ry q
  · exact h' pins s σ H x y v u Q I rx ry q

theorem nomark (b : Expr) {op : CmpOp} (h : op ≠ .In := by decide) (h2 : op ≠ .NotIn := by decide) : behindInMarks op b = false := by
  have e1 : (op == CmpOp.In) = false := by cases op <;> first | rfl | exact absurd rfl h
  have e2 : (op == CmpOp.NotIn) = false := by cases op <;> first | rfl | exact absurd rfl h2
  cases b <;> simp [behindInMarks, e1, e2]
/-- a comparison as a value; hm: nomark b, or (for in, not in) by with_unfolding_all rfl -/
theorem pe_cmpR {op : CmpOp} {r : R2} (ho : OpR X (compareOp op) r) (ha : PE X a ta) (hb : PE X b tb) (hm : behindInMarks op b = false) : PE X (.Compare a [op] [b] pos) (tOp r ta tb) := by
  intro pins s σ H Q I h
  exact wpAny_Compare1 (binT ha hb I h fun v u s2 x y H2 I2 rx ry q => ho pins s2 σ H2 x y v u Q I2 rx ry q) hm
/-- a reading of a value as a test -/
def tTest (t : TE) : TT := fun σ H Q => t σ H fun x H' => ∃ k, x = .bl k ∧ Q k H'
theorem pt_cmpR {op : CmpOp} {r : R2} (ho : OpR X (compareOp op) r) (ha : PE X a ta) (hb : PE X b tb) (hm : behindInMarks op b = false) : PT X (.Compare a [op] [b] pos) (tTest (tOp r ta tb)) := by
  intro pins s σ H Q I h
  refine wpAny_isTrue_Compare1 (thn (ha pins s σ H _ I h) fun v s1 ⟨x, H1, I1, r1, q1⟩ => thn (hb pins s1 σ H1 _ I1 q1) fun u s2 ⟨y, H2, I2, r2, q2⟩ =>
    thn (ho pins s2 σ H2 x y v u _ I2 r1 r2 q2) fun c s3 ⟨z, H3, I3, r3, k, e, q3⟩ => ?_) hm
  subst e
  cases r3
  exact wpAny_truthy_bool ⟨H3, I3, q3⟩
/-- a op1 b op2 c -/
def tChain (r r' : R2) (ta tb tc : TE) : TE := fun σ H Q => ta σ H fun x H1 => tb σ H1 fun y H2 => r x y H2 fun z H3 => ∃ k, z = .bl k ∧
  (if k = true then tc σ H3 fun w' H4 => r' y w' H4 Q else Q (.bl false) H3)
theorem pe_chain {op op' : CmpOp} {r r' : R2} (ho : OpR X (compareOp op) r) (ho' : OpR X (compareOp op') r') (ha : PE X a ta) (hb : PE X b tb) (hc : PE X c tc)
    (hm : lastMarks [op, op'] [b, c] = false := by with_unfolding_all rfl) : PE X (.Compare a [op, op'] [b, c] pos) (tChain r r' ta tb tc) := by
  intro pins s σ H Q I h
  refine Compare_chain (thn (ha pins s σ H _ I h) fun v s1 ⟨x, H1, I1, r1, q1⟩ => chain_link (thn (hb pins s1 σ H1 _ I1 q1) fun u s2 ⟨y, H2, I2, r2, q2⟩ =>
    thn (ho pins s2 σ H2 x y v u _ I2 r1 r2 q2) fun d s3 ⟨z, H3, I3, r3, k, e, q3⟩ => ?_)) hm
  subst e
  cases r3
  refine wpAny_truthy_bool ?_
  cases k with
  | false => exact ite_ff ⟨.bl false, H3, I3, rfl, q3⟩
  | true => exact ite_tt (chain_last (thn (hc pins s3 σ H3 _ I3 q3) fun w' s4 ⟨z', H4, I4, r4, q4⟩ => ho' pins s4 σ H4 y z' u w' Q I4 r2 r4 q4))
theorem pt_chain {op op' : CmpOp} {r r' : R2} (ho : OpR X (compareOp op) r) (ho' : OpR X (compareOp op') r') (ha : PE X a ta) (hb : PE X b tb) (hc : PE X c tc)
    (hm : lastMarks [op, op'] [b, c] = false := by with_unfolding_all rfl) : PT X (.Compare a [op, op'] [b, c] pos) (tTest (tChain r r' ta tb tc)) := by
  intro pins s σ H Q I h
  refine isTrue_chain (thn (ha pins s σ H _ I h) fun v s1 ⟨x, H1, I1, r1, q1⟩ => test_link (thn (hb pins s1 σ H1 _ I1 q1) fun u s2 ⟨y, H2, I2, r2, q2⟩ =>
    thn (ho pins s2 σ H2 x y v u _ I2 r1 r2 q2) fun d s3 ⟨z, H3, I3, r3, k, e, q3⟩ => ?_)) hm
  subst e
  cases r3
  refine wpAny_truthy_bool ?_
  cases k with
  | false =>
    obtain ⟨k', e', q'⟩ := q3
    cases e'
    exact ite_ff ⟨H3, I3, q'⟩
  | true =>
    refine ite_tt (test_last (thn (hc pins s3 σ H3 _ I3 q3) fun w' s4 ⟨z', H4, I4, r4, q4⟩ => thn (ho' pins s4 σ H4 y z' u w' _ I4 r2 r4 q4) fun d' s5 ⟨z2, H5, I5, r5, k2, e2, q5⟩ => ?_))
    subst e2
    cases r5
    exact wpAny_truthy_bool ⟨H5, I5, q5⟩

/-! ### truth -/
/-- a value's truth by the abstract heap -/
def TruV (K : PySem.W.Frag) (x : V) (H : Hp) (k : Bool) : Prop :=
  match x with
  | .non => k = false
  | .bl b => k = b
  | .int i => k = (i != 0)
  | .str y => y.length ≤ sizeLine ∧ k = ((y.length : Int) != 0)
  | .byt y => y.size ≤ sizeLine ∧ k = ((y.size : Int) != 0)
  | .ref p => (∃ xs, SqL K H p xs ∧ k = !xs.isEmpty) ∨ (∃ xs, SqT K H p xs ∧ k = !xs.isEmpty) ∨ ∃ kvs, H p = some (.dK kvs) ∧ k = !kvs.isEmpty
  | _ => False
theorem isEmpty_kv {κ : Type} {kvs : List (κ × V)} {vs : List (κ × Value)} (r : KV kvs vs) : (!vs.isEmpty) = !kvs.isEmpty := by
  cases r <;> rfl
theorem isEmpty_of {xs : List V} {its : List Value} (r : Vals xs its) : (!its.toArray.isEmpty) = !xs.isEmpty := by
  cases r <;> simp
theorem line63 : (sizeLine : Nat) < 2 ^ 63 := by rw [sizeLine_eq]; decide
theorem tru_ok : TruR X (fun x H Q => ∃ k, TruV X.K x H k ∧ Q k H) := by
  intro pins s σ H x v Q I rx h
  obtain ⟨k, e, q⟩ := h
  have hl := line63
  have hs : sizeLine = 16777216 := sizeLine_eq
  cases x with
  | non =>
    cases rx
    have e' : k = false := e
    subst e'
    exact truthy_none ⟨H, I, q⟩
  | bl b =>
    cases rx
    have e' : k = b := e
    subst e'
    exact wpAny_truthy_bool ⟨H, I, q⟩
  | int i =>
    obtain ⟨t, rfl⟩ := rx
    have e' : k = (i != 0) := e
    subst e'
    exact PySem.P.truthy_int ⟨H, I, q⟩
  | str y =>
    obtain ⟨t, rfl⟩ := rx
    obtain ⟨hy, e'⟩ : y.length ≤ sizeLine ∧ k = ((y.length : Int) != 0) := e
    subst e'
    exact PySem.P.truthy_str (by omega) ⟨H, I.tok _, q⟩
  | byt y =>
    obtain ⟨t, rfl⟩ := rx
    obtain ⟨hy, e'⟩ : y.size ≤ sizeLine ∧ k = ((y.size : Int) != 0) := e
    subst e'
    exact PySem.W.truthy_bytes (by omega) ⟨H, I.tok _, q⟩
  | ref p =>
    cases rx
    have e' : (∃ xs, SqL X.K H p xs ∧ k = !xs.isEmpty) ∨ (∃ xs, SqT X.K H p xs ∧ k = !xs.isEmpty) ∨ ∃ kvs, H p = some (.dK kvs) ∧ k = !kvs.isEmpty := e
    rcases e' with ⟨xs, hx, e'⟩ | ⟨xs, hx, e'⟩ | ⟨kvs, hx, e'⟩
    · subst e'
      obtain ⟨its, r, pl, hz⟩ := I.list hx
      have hlen := r.length
      exact wpAny_truthy_list pl.isList (by simp only [List.size_toArray]; omega) ⟨H, I.tok _, by rw [isEmpty_of r]; exact q⟩
    · subst e'
      obtain ⟨its, r, pl, hz⟩ := I.tuple hx
      have hlen := r.length
      exact truthy_tuple pl (by simp only [List.size_toArray]; omega) ⟨H, I.tok _, by rw [isEmpty_of r]; exact q⟩
    · subst e'
      obtain ⟨hz, hS, vs, r, m⟩ : kvs.length ≤ sizeLine ∧ (p == sysModules) = false ∧ ∃ vs, KV kvs vs ∧ s.heap.DictOf (mixKind X.prog X.w) p vs := I.hok p _ hx
      have hlen : kvs.length = vs.length := Paired.length r
      exact wpAny_truthy_dict hS m (by omega) ⟨H, I.tok _, by rw [isEmpty_kv r]; exact q⟩
  | _ => exact (show False from e).elim
/-- any expression whose test is its value's truth (a name, a call, a subscript, a field ..: he by fun _ => rfl) -/
theorem pt_truth (ha : PE X a ta) (he : ∀ whole, isTrue a X.env whole = (do let v ← whole; standAt a.pos; holding [v] (truthy v))) :
    PT X a (fun σ H Q => ta σ H fun x H' => ∃ k, TruV X.K x H' k ∧ Q k H') := by
  intro pins s σ H Q I h
  exact isTrue_plain (thn (ha pins s σ H _ I h) fun v s1 ⟨x, H1, I1, r1, q1⟩ => tru_ok pins s1 σ H1 x v Q I1 r1 q1) (he _)

/-! ### strs and bytes -/
theorem pe_byt {x : List UInt8} {k : Nat} : PE X (.Constant (.bytes x) k pos) (fun _ H Q => Q (.byt x.toArray) H) := fun _ _ _ H _ I h => PySem.W.Constant_bytes ⟨.byt x.toArray, H, I.tok _, ⟨_, rfl⟩, h⟩
theorem op_add_str : OpR X (binaryOp .Add) (fun x y H Q => ∃ i j, x = .str i ∧ y = .str j ∧ i.length + j.length ≤ sizeLine ∧ Q (.str (i ++ j)) H) := by
  intro pins s σ H x y v u Q I rx ry h
  obtain ⟨i, j, rfl, rfl, hz, q⟩ := h
  obtain ⟨t, rfl⟩ := rx
  obtain ⟨t', rfl⟩ := ry
  exact add_str (fun t' tk => ⟨.str (i ++ j), H, I.tok _, ⟨_, rfl⟩, q⟩) hz
theorem iop_add_str : OpR X (inplaceOp .Add) (fun x y H Q => ∃ i j, x = .str i ∧ y = .str j ∧ i.length + j.length ≤ sizeLine ∧ Q (.str (i ++ j)) H) := by
  intro pins s σ H x y v u Q I rx ry h
  obtain ⟨i, j, rfl, rfl, hz, q⟩ := h
  obtain ⟨t, rfl⟩ := rx
  obtain ⟨t', rfl⟩ := ry
  exact iadd_str (fun t' tk => ⟨.str (i ++ j), H, I.tok _, ⟨_, rfl⟩, q⟩) hz
theorem op_add_byt : OpR X (binaryOp .Add) (fun x y H Q => ∃ i j, x = .byt i ∧ y = .byt j ∧ i.size + j.size ≤ 16777216 ∧ Q (.byt (i ++ j)) H) := by
  intro pins s σ H x y v u Q I rx ry h
  obtain ⟨i, j, rfl, rfl, hz, q⟩ := h
  obtain ⟨t, rfl⟩ := rx
  obtain ⟨t', rfl⟩ := ry
  exact PySem.W.KBy.add_bytes hz (fun t' tk => ⟨.byt (i ++ j), H, I.tok _, ⟨_, rfl⟩, q⟩)

def PlainIxT (b : Expr) : Prop := ∀ o i, subscripted b false o i = operate [o, i] (getItem o i)
/-- s[i], 0 ≤ i < len -/
theorem pe_item_str (ha : PE X a ta) (hb : PE X b tb) (hs : PlainIxT b) :
    PE X (.Subscript a b pos) (tOp (fun x y H Q => ∃ z i c, x = .str z ∧ y = .int i ∧ 0 ≤ i ∧ i < 2 ^ 63 ∧ i < z.length ∧ z.cps[i.toNat]? = some c ∧ Q (.str ⟨#[c]⟩) H) ta tb) := by
  intro pins s σ H Q I h
  refine Subscript_ (binT ha hb I h fun v u s2 x y H2 I2 rx ry q => ?_)
  obtain ⟨z, i, c, rfl, rfl, h0, h63, h1, hc, q⟩ := q
  obtain ⟨t, rfl⟩ := rx
  obtain ⟨t', rfl⟩ := ry
  have e : seqIndex? i z.length = some i.toNat := PySem.StrLaws.seqIndex_nonneg h0 h1
  exact tail_any (typeIs_str s2 z t) slot_str_getitem.lookup (getItem_str (c := c) (by
    have e1 : decide (i < -(2 ^ 63 : Int)) = false := decide_eq_false (by omega)
    have e2 : decide (i ≥ 2 ^ 63) = false := decide_eq_false (by omega)
    rw [e1, e2] <;> rfl) (by rw [e]; exact hc) ⟨.str ⟨#[c]⟩, H2, I2.tok _, ⟨_, rfl⟩, q⟩) (hs _ _)
/-- b[i], 0 ≤ i < len -/
theorem pe_item_byt (ha : PE X a ta) (hb : PE X b tb) (hs : PlainIxT b) :
    PE X (.Subscript a b pos) (tOp (fun x y H Q => ∃ (z : List UInt8) (i : Int), x = .byt z.toArray ∧ y = .int i ∧ z.length ≤ sizeLine ∧ 0 ≤ i ∧ i < z.length ∧ Q (.int ((z.getD i.toNat 0).toNat : Nat)) H) ta tb) := by
  intro pins s σ H Q I h
  refine Subscript_ (binT ha hb I h fun v u s2 x y H2 I2 rx ry q => ?_)
  obtain ⟨z, i, rfl, rfl, hz, h0, h1, q⟩ := q
  obtain ⟨t, rfl⟩ := rx
  obtain ⟨t', rfl⟩ := ry
  have hl : sizeLine = 16777216 := sizeLine_eq
  exact tail_any (PySem.W.typeIs_bytes s2 z.toArray t) PySem.W.FB.slot_bytes_getitem.lookup (PySem.W.getItem_bytes (by omega) h0 h1 ⟨.int ((z.getD i.toNat 0).toNat : Nat), H2, I2.tok _, ⟨_, rfl⟩, q⟩) (hs _ _)

/-! ### scalar builtins, by CallR -/
theorem vals1 {x : V} {us : List Value} (r : Vals [x] us) : ∃ u, us = [u] ∧ RelV x u := by
  cases r with
  | cons r1 r2 => cases r2; exact ⟨_, rfl, r1⟩
theorem vals2 {x y : V} {us : List Value} (r : Vals [x, y] us) : ∃ u w', us = [u, w'] ∧ RelV x u ∧ RelV y w' := by
  cases r with
  | cons r1 r2 =>
    cases r2 with
    | cons r3 r4 => cases r4; exact ⟨_, _, rfl, r1, r3⟩
theorem call_abs : CallR X (.builtin "abs") (fun xs H Q => ∃ i, xs = [.int i] ∧ Q (.int (if i < 0 then -i else i)) H) := by
  intro pins s σ H xs us Q I r h
  obtain ⟨i, rfl, q⟩ := h
  obtain ⟨u, rfl, t, rfl⟩ := vals1 r
  exact call_abs_int fun u tk => ⟨.int (if i < 0 then -i else i), H, I.tok _, ⟨_, rfl⟩, q⟩
theorem call_max2 (hc : X.calm = true) : CallR X (.builtin "max") (fun xs H Q => ∃ i j, xs = [.int i, .int j] ∧ Q (.int (if j > i then j else i)) H) := by
  intro pins s σ H xs us Q I r h
  obtain ⟨i, j, rfl, q⟩ := h
  obtain ⟨u, w', rfl, ⟨t, rfl⟩, ⟨t', rfl⟩⟩ := vals2 r
  refine max_two_ints (I.ok.hd hc) fun h' tk k => ⟨_, H, I.kept k, ?_, q⟩
  by_cases hj : j > i
  · rw [if_pos hj, if_pos hj]; exact ⟨_, rfl⟩
  · rw [if_neg hj, if_neg hj]; exact ⟨_, rfl⟩
theorem call_min2 (hc : X.calm = true) : CallR X (.builtin "min") (fun xs H Q => ∃ i j, xs = [.int i, .int j] ∧ Q (.int (if j < i then j else i)) H) := by
  intro pins s σ H xs us Q I r h
  obtain ⟨i, j, rfl, q⟩ := h
  obtain ⟨u, w', rfl, ⟨t, rfl⟩, ⟨t', rfl⟩⟩ := vals2 r
  refine min_two_ints (I.ok.hd hc) fun h' tk k => ⟨_, H, I.kept k, ?_, q⟩
  by_cases hj : j < i
  · rw [if_pos hj, if_pos hj]; exact ⟨_, rfl⟩
  · rw [if_neg hj, if_neg hj]; exact ⟨_, rfl⟩
theorem call_int1 : CallR X (.type "int") (fun xs H Q => (∃ i, xs = [.int i] ∧ Q (.int i) H) ∨ ∃ k, xs = [.bl k] ∧ Q (.int (if k then 1 else 0)) H) := by
  intro pins s σ H xs us Q I r h
  rcases h with ⟨i, rfl, q⟩ | ⟨k, rfl, q⟩
  · obtain ⟨u, rfl, t, rfl⟩ := vals1 r
    exact call_int_int ⟨.int i, H, I, ⟨_, rfl⟩, q⟩
  · obtain ⟨u, rfl, r1⟩ := vals1 r
    cases r1
    exact call_int_bool ⟨.int (if k then 1 else 0), H, I.tok _, ⟨_, rfl⟩, q⟩
theorem call_bool1 : CallR X (.type "bool") (fun xs H Q => (∃ i, xs = [.int i] ∧ Q (.bl (i != 0)) H) ∨ ∃ k, xs = [.bl k] ∧ Q (.bl k) H) := by
  intro pins s σ H xs us Q I r h
  rcases h with ⟨i, rfl, q⟩ | ⟨k, rfl, q⟩
  · obtain ⟨u, rfl, t, rfl⟩ := vals1 r
    exact call_bool_int ⟨.bl (i != 0), H, I, rfl, q⟩
  · obtain ⟨u, rfl, r1⟩ := vals1 r
    cases r1
    exact call_bool_bool ⟨.bl k, H, I, rfl, q⟩
theorem call_str_int : CallR X (.type "str") (fun xs H Q => ∃ i, xs = [.int i] ∧ i.natAbs.log2 < 1920 ∧ Q (.str (toString i)) H) := by
  intro pins s σ H xs us Q I r h
  obtain ⟨i, rfl, hz, q⟩ := h
  obtain ⟨u, rfl, t, rfl⟩ := vals1 r
  exact PySem.P.str_of_int hz ⟨.str _, H, I.tok _, ⟨_, rfl⟩, q⟩
theorem call_ord : CallR X (.builtin "ord") (fun xs H Q => ∃ x, xs = [.str x] ∧ x.length = 1 ∧ Q (.int (x.cps.getD 0 0 : Nat)) H) := by
  intro pins s σ H xs us Q I r h
  obtain ⟨x, rfl, hz, q⟩ := h
  obtain ⟨u, rfl, t, rfl⟩ := vals1 r
  exact ord_of_one hz ⟨.int _, H, I.tok _, ⟨_, rfl⟩, q⟩
theorem call_chr : CallR X (.builtin "chr") (fun xs H Q => ∃ i, xs = [.int i] ∧ 0 ≤ i ∧ i ≤ 1114111 ∧ Q (.str ⟨#[i.toNat]⟩) H) := by
  intro pins s σ H xs us Q I r h
  obtain ⟨i, rfl, h0, h1, q⟩ := h
  obtain ⟨u, rfl, t, rfl⟩ := vals1 r
  exact chr_of_range h0 h1 ⟨.str _, H, I.tok _, ⟨_, rfl⟩, q⟩
/-- len of a str, a bytes, a list, a tuple -/
def LenV (K : PySem.W.Frag) (x : V) (H : Hp) (n : Nat) : Prop :=
  match x with
  | .str y => y.length ≤ sizeLine ∧ n = y.length
  | .byt y => y.size ≤ sizeLine ∧ n = y.size
  | .ref p => (∃ xs, SqL K H p xs ∧ n = xs.length) ∨ ∃ xs, SqT K H p xs ∧ n = xs.length
  | _ => False
theorem call_len : CallR X (.builtin "len") (fun xs H Q => ∃ x n, xs = [x] ∧ LenV X.K x H n ∧ Q (.int n) H) := by
  intro pins s σ H xs us Q I r h
  obtain ⟨x, n, rfl, e, q⟩ := h
  obtain ⟨u, rfl, rx⟩ := vals1 r
  have hl := line63
  have hs : sizeLine = 16777216 := sizeLine_eq
  cases x with
  | str y =>
    obtain ⟨t, rfl⟩ := rx
    obtain ⟨hy, e'⟩ : y.length ≤ sizeLine ∧ n = y.length := e
    subst e'
    exact len_str (by omega) ⟨.int _, H, I.tok _, ⟨_, rfl⟩, q⟩
  | byt y =>
    obtain ⟨t, rfl⟩ := rx
    obtain ⟨hy, e'⟩ : y.size ≤ sizeLine ∧ n = y.size := e
    subst e'
    exact PySem.W.len_bytes (by omega) ⟨.int _, H, I.tok _, ⟨_, rfl⟩, q⟩
  | ref p =>
    cases rx
    have e' : (∃ xs, SqL X.K H p xs ∧ n = xs.length) ∨ ∃ xs, SqT X.K H p xs ∧ n = xs.length := e
    rcases e' with ⟨xs, hx, e'⟩ | ⟨xs, hx, e'⟩
    · subst e'
      obtain ⟨its, r', pl, hz⟩ := I.list hx
      have hlen := r'.length
      exact Calls.call_len_list pl.isList (by simp only [List.size_toArray]; omega) ⟨.int xs.length, H, I.tok _, ⟨_, by simp only [List.size_toArray]; rw [hlen]⟩, q⟩
    · subst e'
      obtain ⟨its, r', pl, hz⟩ := I.tuple hx
      have hlen := r'.length
      exact len_tuple pl (by simp only [List.size_toArray]; omega) ⟨.int xs.length, H, I.tok _, ⟨_, by simp only [List.size_toArray]; rw [hlen]⟩, q⟩
  | _ => exact (show False from e).elim
/-- divmod: a new tuple -/
theorem call_divmod : CallR X (.builtin "divmod") (fun xs H Q => ∃ i j, xs = [.int i, .int j] ∧ CDiv i j ∧ ∀ p, H p = none → Q (.ref p) (upd H p (.tup [.int (i / j), .int (i % j)]))) := by
  intro pins s σ H xs us Q I r h
  obtain ⟨i, j, rfl, ⟨h1, h2⟩, q⟩ := h
  obtain ⟨u, w', rfl, ⟨t, rfl⟩, ⟨t', rfl⟩⟩ := vals2 r
  refine divmod_int (by omega) ?_ (.inl (PyProof.noPylong_small (by omega)))
  rw [Int.fdiv_eq_ediv_of_nonneg i (by omega), Int.fmod_eq_emod_of_nonneg i (by omega)]
  have hn : H s.heap.objs.size = none := I.hok.fresh (Nat.le_refl _)
  refine ⟨.ref s.heap.objs.size, _, ?_, rfl, q _ hn⟩
  refine I.laid (fun b o e => Heap.get?_push_of_some _ e) (Nat.le_refl _) ⟨by simp only [List.length_cons, List.length_nil]; rw [sizeLine_eq]; decide, [.int (i / j) s.toks, .int (i % j) (s.toks + 1)], .cons ⟨_, rfl⟩ (.cons ⟨_, rfl⟩ .nil), ?_⟩
  exact ⟨_, Heap.get?_push_size s.heap rfl, rfl, 0, rfl⟩
end
end L2

namespace L2
open PySem PySem.Spec PyProof.Rows

/-! ### an instance, its attributes a map -/
structure ObjM (h : Heap) (x dx C : Addr) (mA : Str → Option Value) : Prop where
  obj : h.get? x = some (PySem.W.instObj C dx)
  ns : h.Ns1 dx mA
  ne : dx ≠ x

theorem lookIn_ns {h : Heap} {dx : Addr} {mA : Str → Option Value} (n : h.Ns1 dx mA) : ∃ od, h.get? dx = some od ∧ ∀ name, PySem.W.lookIn name od = some (mA name) := by
  obtain ⟨o, es, ep, ho, hd, hk, _, hm⟩ := n
  refine ⟨o, ho, fun name => ?_⟩
  have e := hm name
  unfold nsFind findBy at e
  rw [← Array.find?_toList] at e
  unfold PySem.W.lookIn
  rw [hd]
  dsimp only
  split
  · rename_i y q
    rw [q] at e
    exact congrArg some e
  · rename_i q
    rw [q] at e
    have a : es.toList.any (·.refKey) = false := by
      rw [List.any_eq_false]
      intro y hy
      obtain ⟨z, t, hkey⟩ := hk y (Array.mem_toList_iff.mp hy)
      simp [DictEntry.refKey, hkey]
    have a' : ¬ es.toList.any (·.refKey) = true := by rw [a]; exact Bool.false_ne_true
    rw [if_neg a']
    exact congrArg some e

theorem ObjM.look {h : Heap} {x dx C : Addr} {mA : Str → Option Value} (I : ObjM h x dx C mA) : ∃ od, PySem.W.InstAt h x (PySem.W.instObj C dx) C (some od) ∧ ∀ name, PySem.W.lookIn name od = some (mA name) :=
  let ⟨od, ho, hl⟩ := lookIn_ns I.ns
  ⟨od, ⟨I.obj, rfl, rfl, ho⟩, hl⟩

section
variable {prog : Program} {w : World} {A : Around} {E : Value → Shared → Prop} {s : Shared} {K : PySem.W.Frag} {x dx C f : Addr} {mA : Str → Option Value} {name : Str} {v : Value}

theorem get_map {expr : Bool} {Q : Value → Shared → Prop} (X : K.In s.heap) (I : ObjM s.heap x dx C mA) (hg : PySem.W.plainGet K C name = true) (hh : PySem.W.hasDictIn K C = true)
    (ha : PySem.W.findIn K (.ref C) name = some none) (hv : mA name = some v) (hv' : PySem.W.handedIn v = true) (h : Q v { s with toks := s.toks + 1 }) :
    wpAny (model prog w) A (getAttr (.ref x) name expr) Q E s := by
  obtain ⟨od, J, hl⟩ := I.look
  exact PySem.W.get_value X J (PySem.W.plainGet_of hg).1 (PySem.W.findObj_own hh ha rfl (by rw [hl, hv])) hv' h

theorem get_const {expr : Bool} {a : Value} {Q : Value → Shared → Prop} (X : K.In s.heap) (I : ObjM s.heap x dx C mA) (hg : PySem.W.plainGet K C name = true) (hh : PySem.W.hasDictIn K C = true)
    (ha : PySem.W.findIn K (.ref C) name = some (some a)) (hn : PySem.W.specialIn K a "__get__" = some none) (hc : PySem.W.copiedNames.contains name = false) (hv : mA name = none) (hv' : PySem.W.handedIn a = true)
    (h : Q a { s with toks := s.toks + 1 }) : wpAny (model prog w) A (getAttr (.ref x) name expr) Q E s := by
  obtain ⟨od, J, hl⟩ := I.look
  exact PySem.W.get_value X J (PySem.W.plainGet_of hg).1 (PySem.W.findObj_cls hh ha hn hv' hc (by rw [hl, hv])) hv' h

theorem get_meth {pl : Sem Bool} {Q : Value × List Value → Shared → Prop} (X : K.In s.heap) (I : ObjM s.heap x dx C mA) (hg : PySem.W.plainGet K C name = true)
    (hf : PySem.W.findIn K (.ref C) name = some (some (.ref f))) (ht : PySem.W.isFn K (.ref f) = true) (hv : mA name = none) (h : Q (.ref f, [.ref x]) s) :
    wpAny (model prog w) A (getMethod (.ref x) name pl) Q E s := by
  obtain ⟨od, J, hl⟩ := I.look
  exact PySem.W.method_fn X J (PySem.W.plainGet_of hg).1 (PySem.W.plainGet_of hg).2 hf (beq_iff_eq.mp ht) (by show (PySem.W.lookIn name od).map (·.isSome) = some false; rw [hl, hv]; rfl) h

theorem set_map {ns : List Str} {Q : Unit → Shared → Prop} (X : K.In s.heap) (I : ObjM s.heap x dx C mA)
    (hs : PySem.W.findIn K (.ref C) "__setattr__" = some (some (.builtin "object.__setattr__"))) (hp : PySem.W.plainOver K C = true) (ht : PySem.W.takerIn K C name = some none) (hh : PySem.W.hasDictIn K C = true)
    (hw : PySem.Within mA ns) (hsz : ns.length ≤ sizeLine)
    (h : ∀ h', ObjM h' x dx C (fun y => if y = name then some v else mA y) → Heap.SameBut dx s.heap h' → Q () { s with heap := h', toks := s.toks + 2 }) :
    wpAny (model prog w) A (setAttr (.ref x) name v) Q E s := by
  obtain ⟨od, J, hl⟩ := I.look
  refine PySem.W.set_plain X J hs (PySem.W.osa_open (s := { s with toks := s.toks + 1 }) (r := none) X J hp ht fun b => ?_)
  obtain ⟨cd, hc, hd'⟩ := PySem.W.any_some hh
  have hx : s.heap.get? x = some ⟨.ref C, some dx, .plain, #[]⟩ := I.obj
  refine wpAny_bind (wpAny_pure (wpAny_bind (wpAny_bind (wpAny_loadPart hx (wpAny_bind (PySem.W.Looks.here (s := { s with toks := s.toks + 1 }) (PySem.W.looks_clsIn X hc) ?_))))))
  rw [hd']
  refine wpAny_pure (a := some dx) (wpAny_bind (wpAny_pure (wpAny_bind ?_)))
  refine wpAny_nsSet1 (s := { s with toks := s.toks + 1 }) I.ns fun h' hn2 hs2 => ?_
  obtain ⟨oD, esD, epD, hoD, hdD, hcD⟩ := hn2.count (PySem.Within.cons name v hw)
  refine wpAny_bind (wpAny_lookBehind hoD (by rw [hdD]; exact pastItsLine_dict (Nat.le_trans hcD (by rw [List.length_cons]; omega))) ?_)
  exact wpAny_pure (h _ ⟨(hs2.2 _ (Ne.symm I.ne)).trans I.obj, hn2, I.ne⟩ hs2)

/-- C(..): the dict at the heap's end, the instance behind it; then its __init__ -/
theorem make_map {R : Result → Shared → Prop} {vs : List Value} {kw : List (Str × Value)} (X : K.In s.heap) (hm : PySem.W.makesIn K C = true)
    (hi : PySem.W.findIn K (.ref C) "__init__" = some (some (.ref f))) (hf : PySem.W.typeIn K (.ref f) = some (.type "function"))
    (h : codeAny (model prog w) (A.under (.builtin "type.__call__" ⟨.ref C :: vs, kw⟩)) (.call (.ref f) ⟨.ref (s.heap.objs.size + 1) :: vs, kw⟩) (PySem.W.InitBack (s.heap.objs.size + 1) R)
      { s with heap := (s.heap.push PySem.W.emptyDict).push (PySem.W.instObj C s.heap.objs.size) }) :
    codeAny (model prog w) A (.call (.ref C) ⟨vs, kw⟩) R s := by
  obtain ⟨hh, g, d, t, os⟩ := s
  exact PySem.W.make_core (PySem.W.makes_of X hm) (PySem.W.looks_findIn X hi) (fun self => PySem.W.bind_fn X self hf) (.inl rfl) h
/-- C() where there is no __init__ but object's -/
theorem make_map0 {R : Result → Shared → Prop} (X : K.In s.heap) (hm : PySem.W.makesIn K C = true)
    (hi : PySem.W.findIn K (.ref C) "__init__" = some (some (.builtin "object.__init__")))
    (hb : ∀ self, PySem.W.Looks (model prog w) s.heap (bindSpecial (.builtin "object.__init__") self) (.builtin "object.__init__", [self]))
    (h : codeAny (model prog w) (A.under (.builtin "type.__call__" ⟨[.ref C], []⟩)) (.call (.builtin "object.__init__") ⟨[.ref (s.heap.objs.size + 1)], []⟩) (PySem.W.InitBack (s.heap.objs.size + 1) R)
      { s with heap := (s.heap.push PySem.W.emptyDict).push (PySem.W.instObj C s.heap.objs.size) }) :
    codeAny (model prog w) A (.call (.ref C) ⟨[], []⟩) R s := by
  obtain ⟨hh, g, d, t, os⟩ := s
  exact PySem.W.make_core (PySem.W.makes_of X hm) (PySem.W.looks_findIn X hi) hb (.inr ⟨rfl, rfl⟩) h
end

/-! ### the attributes as a list of pairs -/
def putF (f : Str) (v : V) : List (Str × V) → List (Str × V)
  | [] => [(f, v)]
  | (g, x) :: r => if g = f then (g, v) :: r else (g, x) :: putF f v r
theorem lookup_putF (f g : Str) (v : V) : ∀ fs : List (Str × V), (putF f v fs).lookup g = if g = f then some v else fs.lookup g
  | [] => by
    show List.lookup g [(f, v)] = _
    by_cases h : g = f
    · have hb : (g == f) = true := beq_iff_eq.mpr h
      simp only [List.lookup, hb, if_pos h]
    · have hb : (g == f) = false := beq_eq_false_iff_ne.mpr h
      simp only [List.lookup, hb, if_neg h]
  | (k, x) :: r => by
    have ih := lookup_putF f g v r
    rw [show putF f v ((k, x) :: r) = (if k = f then (k, v) :: r else (k, x) :: putF f v r) from rfl]
    by_cases hk : k = f
    · rw [if_pos hk]
      by_cases h : g = k
      · have hb : (g == k) = true := beq_iff_eq.mpr h
        simp only [List.lookup, hb, if_pos (h.trans hk)]
      · have hb : (g == k) = false := beq_eq_false_iff_ne.mpr h
        simp only [List.lookup, hb, if_neg (fun e : g = f => h (e.trans hk.symm))]
    · rw [if_neg hk]
      by_cases h : g = k
      · have hb : (g == k) = true := beq_iff_eq.mpr h
        simp only [List.lookup, hb, if_neg (fun e : g = f => hk (h.symm.trans e))]
      · have hb : (g == k) = false := beq_eq_false_iff_ne.mpr h
        simp only [List.lookup, hb]
        exact ih
theorem keys_putF (f : Str) (v : V) : ∀ fs : List (Str × V), f ∈ (putF f v fs).map (·.1) ∧ ∀ g, g ∈ fs.map (·.1) → g ∈ (putF f v fs).map (·.1)
  | [] => ⟨by simp [putF], fun g h => by simp at h⟩
  | (k, x) :: r => by
    obtain ⟨i1, i2⟩ := keys_putF f v r
    rw [show putF f v ((k, x) :: r) = (if k = f then (k, v) :: r else (k, x) :: putF f v r) from rfl]
    by_cases hk : k = f
    · rw [if_pos hk]
      subst hk
      exact ⟨by simp, fun g h => by simpa using h⟩
    · rw [if_neg hk]
      refine ⟨?_, fun g h => ?_⟩
      · rw [List.map_cons]
        exact List.mem_cons_of_mem _ i1
      · rw [List.map_cons] at h ⊢
        rcases List.mem_cons.mp h with e | e
        · exact List.mem_cons.mpr (.inl e)
        · exact List.mem_cons_of_mem _ (i2 g e)
theorem length_putF (f : Str) (v : V) : ∀ fs : List (Str × V), (putF f v fs).length ≤ fs.length + 1
  | [] => by simp [putF]
  | (k, x) :: r => by
    have ih := length_putF f v r
    rw [show putF f v ((k, x) :: r) = (if k = f then (k, v) :: r else (k, x) :: putF f v r) from rfl]
    by_cases hk : k = f
    · rw [if_pos hk, List.length_cons, List.length_cons]; omega
    · rw [if_neg hk, List.length_cons, List.length_cons]; omega

theorem RelO.some_of {v : V} {o : Option Value} (r : RelO (some v) o) : ∃ u, o = some u ∧ RelV v u := by
  cases o with
  | none => exact (show False from r).elim
  | some u => exact ⟨u, rfl, r⟩
theorem RelO.none_of {o : Option Value} (r : RelO none o) : o = none := by
  cases o with
  | none => rfl
  | some u => exact (show False from r).elim
theorem handed_of {v : V} {u : Value} (r : RelV v u) : PySem.W.handedIn u = true := by
  cases v with
  | non => cases (show u = Value.none from r); rfl
  | bl b => cases (show u = Value.bool b from r); rfl
  | int i => obtain ⟨t, e⟩ := (show ∃ t, u = Value.int i t from r); cases e; rfl
  | str x => obtain ⟨t, e⟩ := (show ∃ t, u = Value.str x t from r); cases e; rfl
  | byt b => obtain ⟨t, e⟩ := (show ∃ t, u = Value.bytes b t from r); cases e; rfl
  | flt b => obtain ⟨t, e⟩ := (show ∃ t, u = Value.float b t from r); cases e; rfl
  | ref a => cases (show u = Value.ref a from r); rfl
  | ty n => cases (show u = Value.type n from r); rfl

section
variable {P : Program} {w : World} {H H' : Hp} {h h' : Heap} {a C dx : Addr} {fs fs' : List (Str × V)}
theorem ins_get (hok : HOk P w H h) (e : H a = some (.ins C dx fs)) : ∃ mA, ObjM h a dx C mA ∧ (∀ f, RelO (fs.lookup f) (mA f)) ∧ PySem.Within mA (fs.map (·.1)) ∧ fs.length ≤ 1000 ∧ H dx = some (.own a) := by
  obtain ⟨d, z, ne, ob, mA, n, r, q⟩ := (show ObjOk P w H h a (.ins C dx fs) from hok a _ e)
  exact ⟨mA, ⟨ob, n, ne⟩, r, q, z, d⟩
end

/-! ### what of the text a class must have -/
structure Cls (K : PySem.W.Frag) (C : Addr) : Prop where
  pg : PySem.W.plainGet K C Str.empty = true
  hd : PySem.W.hasDictIn K C = true
  po : PySem.W.plainOver K C = true
  sa : PySem.W.findIn K (.ref C) "__setattr__" = some (some (.builtin "object.__setattr__"))
theorem Cls.get {K : PySem.W.Frag} {C : Addr} (c : Cls K C) (f : Str) : PySem.W.plainGet K C f = true := c.pg
/-- no class of it has the name -/
def NoAttr (K : PySem.W.Frag) (C : Addr) (f : Str) : Prop := PySem.W.findIn K (.ref C) f = some none
theorem NoAttr.taker {K : PySem.W.Frag} {C : Addr} {f : Str} (n : NoAttr K C f) : PySem.W.takerIn K C f = some none := by
  unfold PySem.W.takerIn
  rw [show PySem.W.findIn K (.ref C) f = some none from n]
  rfl
/-- a constant of the class -/
structure Con (K : PySem.W.Frag) (C : Addr) (f : Str) (v : V) (u : Value) : Prop where
  at_ : PySem.W.findIn K (.ref C) f = some (some u)
  rel : RelV v u
  get : PySem.W.specialIn K u "__get__" = some none
  cp : PySem.W.copiedNames.contains f = false
/-- a method: a plain def of the class or of one above it -/
structure Meth (K : PySem.W.Frag) (C : Addr) (m : Str) (f : Addr) : Prop where
  at_ : PySem.W.findIn K (.ref C) m = some (some (.ref f))
  fn : PySem.W.isFn K (.ref f) = true
  kp : PySem.W.keepIn K (.ref f) = true

section
variable {X : Cx} {pins : List (Addr × Obj)} {σ : St} {H : Hp} {s : Shared} {a C dx : Addr} {fs : List (Str × V)} {f : Str} {v : V} {A : Around} {E : Value → Shared → Prop}

theorem getattr_ok {b : Bool} {Q : Value → Shared → Prop} (I : Inv X pins σ H s) (e : H a = some (.ins C dx fs)) (c : Cls X.K C) (n : NoAttr X.K C f) (l : fs.lookup f = some v)
    (h : ∀ u s', Inv X pins σ H s' → RelV v u → Q u s') : wpAny (model X.prog X.w) A (getAttr (.ref a) f b) Q E s := by
  obtain ⟨mA, O, r, _, _, _⟩ := ins_get I.hok e
  obtain ⟨u, hu, ru⟩ := RelO.some_of (v := v) (o := mA f) (by rw [← l]; exact r f)
  exact get_map I.kIn O (c.get f) c.hd n hu (handed_of ru) (h u _ (I.tok _) ru)

theorem getcon_ok {b : Bool} {u : Value} {Q : Value → Shared → Prop} (I : Inv X pins σ H s) (e : H a = some (.ins C dx fs)) (c : Cls X.K C) (k : Con X.K C f v u) (l : fs.lookup f = none)
    (h : ∀ s', Inv X pins σ H s' → Q u s') : wpAny (model X.prog X.w) A (getAttr (.ref a) f b) Q E s := by
  obtain ⟨mA, O, r, _, _, _⟩ := ins_get I.hok e
  have hn : mA f = none := RelO.none_of (by rw [← l]; exact r f)
  exact get_const I.kIn O (c.get f) c.hd k.at_ k.get k.cp hn (handed_of k.rel) (h _ (I.tok _))

theorem getmeth_ok {m : Str} {g : Addr} {pl : Sem Bool} {Q : Value × List Value → Shared → Prop} (I : Inv X pins σ H s) (e : H a = some (.ins C dx fs)) (c : Cls X.K C) (k : Meth X.K C m g) (l : fs.lookup m = none)
    (h : Q (.ref g, [.ref a]) s) : wpAny (model X.prog X.w) A (getMethod (.ref a) m pl) Q E s := by
  obtain ⟨mA, O, r, _, _, _⟩ := ins_get I.hok e
  have hn : mA m = none := RelO.none_of (by rw [← l]; exact r m)
  exact get_meth I.kIn O (c.get m) k.at_ k.fn hn h

theorem setattr_ok {y : V} {u : Value} {Q : Unit → Shared → Prop} (I : Inv X pins σ H s) (e : H a = some (.ins C dx fs)) (c : Cls X.K C) (n : NoAttr X.K C f) (hl : fs.length < 1000) (ry : RelV y u)
    (h : ∀ s', Inv X pins σ (upd H a (.ins C dx (putF f y fs))) s' → Q () s') : wpAny (model X.prog X.w) A (setAttr (.ref a) f u) Q E s := by
  obtain ⟨mA, O, r, wi, _, ho⟩ := ins_get I.hok e
  have hz : (fs.map (·.1)).length ≤ sizeLine := by rw [List.length_map, sizeLine_eq]; omega
  refine set_map I.kIn O c.sa c.po n.taker c.hd wi hz fun h' O' sb => h _ ?_
  have hd : ∃ o, h'.get? dx = some o := let ⟨o, _, _, e', _⟩ := O'.ns; ⟨o, e'⟩
  refine I.write (x := a) (e := dx) (by rw [e]; exact True.intro) (.inr ho) (fun b q hb z => (sb.2 b hb).trans z) hd ?_
  refine ⟨by rw [upd_ne O.ne]; exact ho, ?_, O.ne, O'.obj, _, O'.ns, fun g => ?_, fun g hg => ?_⟩
  · have := length_putF f y fs; omega
  · show RelO ((putF f y fs).lookup g) (if g = f then some u else mA g)
    rw [lookup_putF]
    by_cases q : g = f
    · rw [if_pos q, if_pos q]; exact ry
    · rw [if_neg q, if_neg q]; exact r g
  · by_cases q : g = f
    · rw [q]; exact (keys_putF f y fs).1
    · refine (keys_putF f y fs).2 g (wi g fun z => hg ?_)
      show (if g = f then some u else mA g) = none
      rw [if_neg q]; exact z

/-- a new instance, tracked, without attributes -/
theorem Inv.made (I : Inv X pins σ H s) : Inv X pins σ (upd (upd H s.heap.objs.size (.own (s.heap.objs.size + 1))) (s.heap.objs.size + 1) (.ins C s.heap.objs.size []))
    { s with heap := (s.heap.push PySem.W.emptyDict).push (PySem.W.instObj C s.heap.objs.size) } := by
  have e1 : (s.heap.push PySem.W.emptyDict).get? s.heap.objs.size = some PySem.W.emptyDict := Heap.get?_push_size s.heap rfl
  have e2 : ((s.heap.push PySem.W.emptyDict).push (PySem.W.instObj C s.heap.objs.size)).get? (s.heap.objs.size + 1) = some (PySem.W.instObj C s.heap.objs.size) := by
    have := Heap.get?_push_size (s.heap.push PySem.W.emptyDict) (o := PySem.W.instObj C s.heap.objs.size) rfl
    rwa [Heap.size_push] at this
  have e3 : (s.heap.push PySem.W.emptyDict).Ns s.heap.objs.size (fun _ => none) := ⟨PySem.W.emptyDict, #[], _, e1, rfl, (fun e he => absurd he (by simp)), fun _ => rfl⟩
  have I1 := I.laid (a := s.heap.objs.size) (o := .own (s.heap.objs.size + 1)) (h' := s.heap.push PySem.W.emptyDict) (t' := s.toks) (fun b u q => Heap.get?_push_of_some _ q) (Nat.le_refl _) ⟨_, e1⟩
  refine I1.laid (a := s.heap.objs.size + 1) (o := .ins C s.heap.objs.size []) (t' := s.toks) (fun b u q => Heap.get?_push_of_some _ q) (Nat.le_of_eq (Heap.size_push _ _)) ?_
  have ne : s.heap.objs.size ≠ s.heap.objs.size + 1 := Nat.ne_of_lt (Nat.lt_succ_self _)
  refine ⟨by rw [upd_ne ne, upd_same], Nat.zero_le _, ne, e2, fun _ => none, (Heap.Ns1.of_empty e3).at fun o q => Heap.get?_push_of_some _ q, fun _ => True.intro, fun y hy => absurd rfl hy⟩

/-- e.f where nothing but the object is asked: through attributeBase (super) and the last hold -/
theorem attr_of {prog : Program} {w : World} {env : Env} {e : Expr} {f : Str} {pos : Pos} {s : Shared} {Q : Value → Shared → Prop} (hb : attributeBase e f env (eval e env) = eval e env)
    (h : wpAny (model prog w) A (eval e env) (fun o s₁ => wpAny (model prog w) A (getAttr o f true) Q E s₁) E s) : wpAny (model prog w) A (eval (.Attribute e f pos) env) Q E s :=
  Attribute_any_ h (by rw [arm_eval_Attribute, hb])
end

/-! ### readings and rules -/
/-- e.f, an attribute of the instance -/
def tFld (K : PySem.W.Frag) (ta : TE) (f : Str) : TE := fun σ H Q => ta σ H fun x H1 => ∃ a C dx fs v, x = .ref a ∧ H1 a = some (.ins C dx fs) ∧ Cls K C ∧ NoAttr K C f ∧ fs.lookup f = some v ∧ Q v H1
/-- e.f, a constant of the class -/
def tCon (K : PySem.W.Frag) (ta : TE) (f : Str) : TE := fun σ H Q => ta σ H fun x H1 => ∃ a C dx fs v u, x = .ref a ∧ H1 a = some (.ins C dx fs) ∧ Cls K C ∧ Con K C f v u ∧ fs.lookup f = none ∧ Q v H1
/-- e.f = value -/
def sFld (K : PySem.W.Frag) (ta tv : TE) (f : Str) : TS := fun D σ H => tv σ H fun y H1 => ta σ H1 fun x H2 => ∃ a C dx fs, x = .ref a ∧ H2 a = some (.ins C dx fs) ∧ Cls K C ∧ NoAttr K C f ∧ fs.length < 1000 ∧
  D.nx σ (upd H2 a (.ins C dx (putF f y fs)))
/-- an augmented operator on two values -/
def InOp (X : Cx) (op : Operator) (rd : V → V → Hp → VK → Prop) : Prop :=
  ∀ (pins : List (Addr × Obj)) (s : Shared) (σ : St) (H : Hp) (x y : V) (u v : Value) (Q : VK), Inv X pins σ H s → RelV x u → RelV y v → rd x y H Q → wpAny (model X.prog X.w) X.A (inplaceOp op u v) (EP X pins σ Q) X.xe s
/-- e.f op= value -/
def sFldAug (K : PySem.W.Frag) (ta tv : TE) (rd : V → V → Hp → VK → Prop) (f : Str) : TS := fun D σ H => ta σ H fun x H1 => ∃ a C dx fs v, x = .ref a ∧ H1 a = some (.ins C dx fs) ∧ Cls K C ∧ NoAttr K C f ∧ fs.lookup f = some v ∧
  tv σ H1 fun y H2 => rd v y H2 fun z H3 => ∃ dx' fs', H3 a = some (.ins C dx' fs') ∧ fs'.length < 1000 ∧ D.nx σ (upd H3 a (.ins C dx' (putF f z fs')))

section
variable {X : Cx} {o e value : Expr} {f : Str} {pos pos' tpos : Pos} {ta tv : TE}
theorem pe_fld (he : PE X e ta) (hb : attributeBase e f X.env (eval e X.env) = eval e X.env) : PE X (.Attribute e f pos) (tFld X.K ta f) := by
  intro pins s σ H Q I h
  refine attr_of hb (thn (he pins s σ H _ I h) fun u s1 ⟨x, H1, I1, rx, a, C, dx, fs, v, ex, ea, c, n, l, q⟩ => ?_)
  subst ex
  obtain rfl : u = Value.ref a := rx
  exact getattr_ok I1 ea c n l fun u' s2 I2 ru => ⟨v, H1, I2, ru, q⟩
theorem pe_con (he : PE X e ta) (hb : attributeBase e f X.env (eval e X.env) = eval e X.env) : PE X (.Attribute e f pos) (tCon X.K ta f) := by
  intro pins s σ H Q I h
  refine attr_of hb (thn (he pins s σ H _ I h) fun u s1 ⟨x, H1, I1, rx, a, C, dx, fs, v, u0, ex, ea, c, k, l, q⟩ => ?_)
  subst ex
  obtain rfl : u = Value.ref a := rx
  exact getcon_ok I1 ea c k l fun s2 I2 => ⟨v, H1, I2, k.rel, q⟩
theorem ps_fld (ha : PE X o ta) (hv : PE X value tv) (hs : swapsWith value (some (.Attribute o f pos')) pos.line X.env = pure false) : PS X (.Assign [.Attribute o f pos'] value pos) (sFld X.K ta tv f) := by
  intro pins s σ H D I h
  refine plainObj_wpAny_Assign_Attribute (thn (hv pins s σ H _ I h) fun u s1 ⟨y, H1, I1, ry, q⟩ => thn (ha pins s1 σ H1 _ I1 q) fun ov s2 ⟨x, H2, I2, rx, a, C, dx, fs, ex, ea, c, n, l, q2⟩ => ?_) hs
  subst ex
  obtain rfl : ov = Value.ref a := rx
  exact setattr_ok I2 ea c n l ry fun s3 I3 => ⟨σ, _, I3, q2⟩
theorem ps_fldaug {op : Operator} {rd : V → V → Hp → VK → Prop} (ha : PE X o ta) (hv : PE X value tv) (hop : InOp X op rd) : PS X (.AugAssign (.Attribute o f tpos) op value pos) (sFldAug X.K ta tv rd f) := by
  intro pins s σ H D I h
  refine wpAny_AugAssign_AttributeAny (thn (ha pins s σ H _ I h) fun ov s1 ⟨x, H1, I1, rx, a, C, dx, fs, v, ex, ea, c, n, l, q⟩ => ?_)
  subst ex
  obtain rfl : ov = Value.ref a := rx
  refine getattr_ok I1 ea c n l fun u s2 I2 ru => thn (hv pins s2 σ H1 _ I2 q) fun w3 s3 ⟨y, H2, I3, ry, q3⟩ => thn (hop pins s3 σ H2 v y u w3 _ I3 ru ry q3) fun w4 s4 ⟨z, H3, I4, rz, dx', fs', ea', l', q4⟩ => ?_
  exact setattr_ok I4 ea' c n l' rz fun s5 I5 => ⟨σ, _, I5, q4⟩
def rAdd : V → V → Hp → VK → Prop := fun x y H Q => ∃ i j, x = .int i ∧ y = .int j ∧ Q (.int (i + j)) H
def rSub : V → V → Hp → VK → Prop := fun x y H Q => ∃ i j, x = .int i ∧ y = .int j ∧ Q (.int (i - j)) H
theorem in_add : InOp X .Add rAdd := by
  rintro pins s σ H x y u v Q I rx ry ⟨i, j, rfl, rfl, q⟩
  obtain ⟨t, rfl⟩ := (show ∃ t, u = Value.int i t from rx)
  obtain ⟨t', rfl⟩ := (show ∃ t', v = Value.int j t' from ry)
  exact PyProof.Rows.iadd_int ⟨.int (i + j), H, I.tok _, ⟨_, rfl⟩, q⟩
theorem in_sub : InOp X .Sub rSub := by
  rintro pins s σ H x y u v Q I rx ry ⟨i, j, rfl, rfl, q⟩
  obtain ⟨t, rfl⟩ := (show ∃ t, u = Value.int i t from rx)
  obtain ⟨t', rfl⟩ := (show ∃ t', v = Value.int j t' from ry)
  exact PyProof.Rows.isub_int ⟨.int (i - j), H, I.tok _, ⟨_, rfl⟩, q⟩

/-- what is between an instance and its method: the tree of a method call -/
theorem methcall_of {pl : Sem Bool} {m : Str} {apos : Pos} {args : List Expr} {pins : List (Addr × Obj)} {s : Shared} {σ : St} {H : Hp} {Q : Value → Shared → Prop} {te : TE} (he : PE X e te) (I : Inv X pins σ H s)
    (h : te σ H fun x H1 => ∃ a C dx fs g, x = .ref a ∧ H1 a = some (.ins C dx fs) ∧ Cls X.K C ∧ Meth X.K C m g ∧ fs.lookup m = none ∧
      ∀ s1, Inv X pins σ H1 s1 → wpAny (model X.prog X.w) X.A (callWith pos (.ref g) [.ref a] (backTo pos (starEach args X.env)) (backToKw pos (keywordEach [] X.env))) Q X.xe s1)
    (ht : eval (.Call (.Attribute e m apos) args [] pos) X.env = (do
      let ov ← eval e X.env
      standAt apos.atName
      let (f, first) ← holding [ov] (getMethod ov m pl)
      callWith pos f first (backTo pos (starEach args X.env)) (backToKw pos (keywordEach [] X.env)))) :
    wpAny (model X.prog X.w) X.A (eval (.Call (.Attribute e m apos) args [] pos) X.env) Q X.xe s := by
  refine PySem.W.methodCall_KW (pl := pl) (thn (he pins s σ H _ I h) fun u s1 ⟨x, H1, I1, rx, a, C, dx, fs, g, ex, ea, c, k, l, q⟩ => ?_) ht
  subst ex
  obtain rfl : u = Value.ref a := rx
  exact getmeth_ok I1 ea c k l (q s1 I1)
end

/-! ### isinstance -/
section
variable {X : Cx} {pins : List (Addr × Obj)} {σ : St} {H : Hp} {s : Shared} {A : Around} {E : Value → Shared → Prop} {Q : Value → Shared → Prop} {c : Value} {b : Bool}
/-- the type of a value, as the fragment's deciders take it; for an instance its class -/
inductive TyOf (K : PySem.W.Frag) (H : Hp) : V → Value → Prop where
  | non : TyOf K H .non (.type "NoneType")
  | bl (x : Bool) : TyOf K H (.bl x) (.type "bool")
  | int (i : Int) : TyOf K H (.int i) (.type "int")
  | str (x : Str) : TyOf K H (.str x) (.type "str")
  | flt (x : UInt64) : TyOf K H (.flt x) (.type "float")
  | lst {a : Addr} {xs : List V} (e : H a = some (.lst xs)) : TyOf K H (.ref a) (.type "list")
  | frz {a : Addr} {o : Obj} {xs : List V} (e : H a = some (.frz o (.lst xs))) : TyOf K H (.ref a) (.type "list")
  | tup {a : Addr} {xs : List V} (e : H a = some (.tup xs)) : TyOf K H (.ref a) (.type "tuple")
  | dK {a : Addr} {kvs : List (Key × V)} (e : H a = some (.dK kvs)) : TyOf K H (.ref a) (.type "dict")
  | dT {a : Addr} {kvs : List (List Key × V)} (e : H a = some (.dT kvs)) : TyOf K H (.ref a) (.type "dict")
  | ins {a C dx : Addr} {fs : List (Str × V)} (e : H a = some (.ins C dx fs)) (cl : Cls K C) (ha : PySem.W.findIn K (.ref C) "__class__" = some (some (.builtin "object.__class__")))
      (hn : PySem.W.specialIn K (.builtin "object.__class__") "__get__" = some (some (.builtin "getset_descriptor.__get__"))) (htk : PySem.W.takesIn K (.builtin "object.__class__") = some true)
      (hm : PySem.W.mroIn K C (.type "object") = some true) : TyOf K H (.ref a) (.ref C)
/-- isinstance(x, c) for one class c, a built-in or an own one: kitOne's answer -/
theorem isinst_ok {x : V} {u t : Value} (I : Inv X pins σ H s) (rx : RelV x u) (ty : TyOf X.K H x t) (e : PySem.W.kitOne X.K t c = some b) (h : ∀ tk, Q (.bool b) { s with toks := tk }) :
    wpAny (model X.prog X.w) A (call (.builtin "isinstance") [u, c]) Q E s := by
  cases ty with
  | non => cases (show u = Value.none from rx); exact PySem.W.kia_one PySem.W.kitx_none I.kIn True.intro e (fun z => nomatch z) h
  | bl y => cases (show u = Value.bool y from rx); exact PySem.W.kia_one PySem.W.kitx_bool I.kIn True.intro e (fun z => nomatch z) h
  | int i => obtain ⟨t, q⟩ := (show ∃ t, u = Value.int i t from rx); cases q; exact PySem.W.kia_one PySem.W.kitx_int I.kIn True.intro e (fun z => nomatch z) h
  | str y => obtain ⟨t, q⟩ := (show ∃ t, u = Value.str y t from rx); cases q; exact PySem.W.kia_one PySem.W.kitx_str I.kIn True.intro e (fun z => nomatch z) h
  | flt y => obtain ⟨t, q⟩ := (show ∃ t, u = Value.float y t from rx); cases q; exact PySem.W.kia_one PySem.W.kitx_float I.kIn True.intro e (fun z => nomatch z) h
  | @lst a xs ea =>
    cases (show u = Value.ref a from rx)
    obtain ⟨_, _, n, _, h1⟩ := (show ObjOk X.prog X.w H s.heap a (.lst xs) from I.hok a _ ea)
    exact PySem.W.kia_one PySem.W.kitx_list I.kIn ⟨_, h1, rfl⟩ e (fun z => nomatch z) h
  | @frz a ob xs ea =>
    cases (show u = Value.ref a from rx)
    obtain ⟨_, _, _, n, _, h1⟩ := (show ObjOk X.prog X.w H s.heap a (.frz ob (.lst xs)) from I.hok a _ ea)
    exact PySem.W.kia_one PySem.W.kitx_list I.kIn ⟨_, h1, rfl⟩ e (fun z => nomatch z) h
  | @tup a xs ea =>
    cases (show u = Value.ref a from rx)
    obtain ⟨_, _, _, p⟩ := (show ObjOk X.prog X.w H s.heap a (.tup xs) from I.hok a _ ea)
    obtain ⟨o, h1, h2, _⟩ := p
    exact PySem.W.kia_one PySem.W.kitx_tuple I.kIn ⟨o, h1, h2⟩ e (fun z => nomatch z) h
  | @dK a kvs ea =>
    cases (show u = Value.ref a from rx)
    obtain ⟨_, _, vs, _, p⟩ := (show ObjOk X.prog X.w H s.heap a (.dK kvs) from I.hok a _ ea)
    obtain ⟨o, es, ep, h1, h2, _⟩ := p
    exact PySem.W.kia_one PySem.W.kitx_dict I.kIn ⟨o, h1, h2.1⟩ e (fun z => nomatch z) h
  | @dT a kvs ea =>
    cases (show u = Value.ref a from rx)
    obtain ⟨_, _, xs, _, o, es, ep, h1, h2, _⟩ := (show ObjOk X.prog X.w H s.heap a (.dT kvs) from I.hok a _ ea)
    exact PySem.W.kia_one PySem.W.kitx_dict I.kIn ⟨o, h1, h2.1⟩ e (fun z => nomatch z) h
  | @ins a C dx fs ea cl ha hn htk hm =>
    cases (show u = Value.ref a from rx)
    obtain ⟨mA, O, _⟩ := ins_get I.hok ea
    obtain ⟨od, J, _⟩ := O.look
    exact PySem.W.kia_one (PySem.W.kitx_own (cl.get _) cl.hd ha hn htk hm) I.kIn J e (fun z => nomatch z) h
end
end L2

namespace L2
open PySem PySem.Spec PyProof.Rows

/-! ### room -/
structure Room (k : Nat) (A : Around) : Prop where
  hd : A.handled = none
  dp : A.depth + 3 * k + 5 < recursionLimit
  un : A.units + 16 * k + 200 < cLine
theorem Room.mono {j k : Nat} {A : Around} (r : Room k A) (h : j ≤ k) : Room j A := ⟨r.hd, by have := r.dp; omega, by have := r.un; omega⟩
theorem Room.deeper {k : Nat} {A : Around} (r : Room (k + 1) A) (env : Env) : Room k (A.deeper env) :=
  ⟨r.hd, by have := r.dp; show A.depth + 1 + 3 * k + 5 < _; omega, by have := r.un; show A.units + 3 + 16 * k + 200 < _; omega⟩
theorem Room.in1 {k : Nat} {A : Around} (r : Room (k + 1) A) : Room k A.in1 :=
  ⟨r.hd, by have := r.dp; show A.depth + 3 * k + 5 < _; omega, by have := r.un; show A.units + 1 + 16 * k + 200 < _; omega⟩
theorem make_depth {A : Around} {C : Addr} {us : List Value} {kw : List (Str × Value)} : (A.under (.builtin "type.__call__" ⟨.ref C :: us, kw⟩)).depth = A.depth + 1 := by
  first | rfl | simp [Around.under, Code.weight, Code.isCreation, Code.isGuard, Code.isCaller, Code.frames, Code.isFrame, guardIds]
theorem make_units {A : Around} {C : Addr} {us : List Value} {kw : List (Str × Value)} : (A.under (.builtin "type.__call__" ⟨.ref C :: us, kw⟩)).units = A.units + 1 := by
  first | rfl | simp [Around.under, Code.cUnits, Code.frames, Code.isFrame]
theorem Room.make {k : Nat} {A : Around} (r : Room (k + 1) A) (C : Addr) (us : List Value) (kw : List (Str × Value)) : Room k (A.under (.builtin "type.__call__" ⟨.ref C :: us, kw⟩)) :=
  ⟨r.hd, by have := r.dp; rw [make_depth]; omega, by have := r.un; rw [make_units]; omega⟩
theorem Room.depth {k : Nat} {A : Around} (r : Room k A) : A.depth < recursionLimit := by have := r.dp; omega
theorem Room.units {k : Nat} {A : Around} (r : Room k A) : A.units + 64 < cLine := by have := r.un; omega
theorem Room.units0 {k : Nat} {A : Around} (r : Room k A) : A.units < cLine := by have := r.un; omega

/-! ### argument lists and displays -/
def tNil : TA := fun _ H Q => Q [] H
def tCons (ta : TE) (tr : TA) : TA := fun σ H Q => ta σ H fun x H1 => tr σ H1 fun xs H2 => Q (x :: xs) H2
section
variable {X : Cx} {e : Expr} {es : List Expr} {te : TE} {t : TA} {pos : Pos}
theorem pa_nil : PA X [] tNil := fun _ _ _ _ H Q I h => Calls.spliced_nil ⟨[], H, I, .nil, h⟩
theorem pa_cons (ha : PE X e te) (hr : PA X es t) (hs : starEach (e :: es) X.env = (false, eval e X.env) :: starEach es X.env := by rfl) : PA X (e :: es) (tCons te t) := by
  intro pos pins s σ H Q I h
  rw [hs]
  show wpAny _ _ (spliced ((false, eval e X.env) :: backTo pos (starEach es X.env))) _ _ s
  refine Calls.spliced_cons (thn (ha pins s σ H _ I h) fun u s1 ⟨x, H1, I1, r1, q1⟩ => ?_)
  exact thn (hr pos pins s1 σ H1 _ I1 q1) fun us s2 ⟨xs, H2, I2, r2, q2⟩ => ⟨x :: xs, H2, I2, .cons r1 r2, q2⟩

/-- a tuple, a list of written items -/
def tTup (t : TA) : TE := fun σ H Q => t σ H fun xs H1 => xs.length ≤ sizeLine ∧ ∀ p, H1 p = none → Q (.ref p) (upd H1 p (.tup xs))
def tLst (t : TA) : TE := fun σ H Q => t σ H fun xs H1 => xs.length ≤ sizeLine ∧ ∀ p, H1 p = none → Q (.ref p) (upd H1 p (.lst xs))
theorem pe_tup {x1} (h : PA X es t) : PE X (.Tuple es x1 pos) (tTup t) := by
  intro pins s σ H Q I hq
  refine wpAny_Tuple_spliced (thn (h pos pins s σ H _ I hq) fun us s1 ⟨xs, H1, I1, r, z, q⟩ => ⟨by rw [← r.length]; exact z, ?_⟩)
  have hf : H1 s1.heap.objs.size = none := I1.hok.fresh (Nat.le_refl _)
  refine ⟨.ref s1.heap.objs.size, upd H1 s1.heap.objs.size (.tup xs), I1.laid (t' := s1.toks) (fun b u e => Heap.get?_push_of_some _ e) (Nat.le_refl _) ?_, rfl, q _ hf⟩
  exact ⟨z, us, r, ⟨_, Heap.get?_push_size _ rfl, rfl, _, rfl⟩⟩
theorem pe_lst (h : PA X es t) : PE X (.List es pos) (tLst t) := by
  intro pins s σ H Q I hq
  refine wpAny_List_spliced (thn (h pos pins s σ H _ I hq) fun us s1 ⟨xs, H1, I1, r, z, q⟩ => ⟨by rw [← r.length]; exact z, ?_⟩)
  have hf : H1 s1.heap.objs.size = none := I1.hok.fresh (Nat.le_refl _)
  refine ⟨.ref s1.heap.objs.size, upd H1 s1.heap.objs.size (.lst xs), I1.laid (t' := s1.toks) (fun b u e => Heap.get?_push_of_some _ e) (Nat.le_refl _) ?_, rfl, q _ hf⟩
  exact ⟨z, us, 0, r, Heap.get?_push_size _ rfl⟩
end

/-! ### what a def promises -/
/-- a def's promise: the bound arguments in the parameters' order, the heap, the wanted end, the wanted exception -/
abbrev Sp := List V → Hp → VK → XK → Prop
/-- how an exception lies behind a call (file 08 gives it): the callers' frames, abstract heap and state ahead of the call, the wish, the exception, the state -/
abbrev CXT := List Env → Hp → Shared → XK → Value → Shared → Prop

/-- the state at a call -/
structure Env0 (P : Program) (w : World) (K : PySem.W.Frag) (mg : Str → Option Value) (base : Heap) (A : Around) (outer : List Env) (s : Shared) (H : Hp) : Prop where
  frames : A.frames = some outer
  mod : Mod K mg base
  bs : ∀ b o, base.get? b = some o → s.heap.get? b = some o ∧ H b = none
  bsz : base.objs.size ≤ s.heap.objs.size
  funs : s.heap.FunFrames base outer
  frf : ∀ b ∈ frs outer, H b = none
  hok : HOk P w H s.heap
  bare : AllBare s.gens
/-- a call's end -/
def CE (outer : List Env) (P : Program) (w : World) (H : Hp) (s : Shared) (Q : VK) (u : Value) (s' : Shared) : Prop :=
  ∃ v H', s'.os = s.os ∧ AllBare s'.gens ∧ Un (frs outer) [] H H' s.heap s'.heap ∧ HOk P w H' s'.heap ∧ RelV v u ∧ Q v H'
def CR (CX : CXT) (outer : List Env) (P : Program) (w : World) (H : Hp) (s : Shared) (Q : VK) (E : XK) (r : Result) (s' : Shared) : Prop :=
  match r with
  | .ok (.ret u) => CE outer P w H s Q u s'
  | .ok _ => False
  | .error e => CX outer H s E e s'
structure FnOk (P : Program) (w : World) (K : PySem.W.Frag) (mg : Str → Option Value) (base : Heap) (CX : CXT) (k : Nat) (f : Addr) (fd : FuncData) (ps : List Str) (sp : Sp) : Prop where
  len : ∀ vs H Q E, sp vs H Q E → vs.length = ps.length
  run : ∀ (A : Around) (outer : List Env) (s : Shared) (H : Hp) (args : Args) (us : List Value) (vs : List V) (Q : VK) (E : XK), Room k A → Env0 P w K mg base A outer s H → BindsTo s fd args (ps.zip us) → Vals vs us → sp vs H Q E →
    codeAny (model P w) A (.call (.ref f) args) (CR CX outer P w H s Q E) s
theorem FnOk.mono {P : Program} {w : World} {K : PySem.W.Frag} {mg : Str → Option Value} {base : Heap} {CX : CXT} {j k : Nat} {f : Addr} {fd : FuncData} {ps : List Str} {sp : Sp} (F : FnOk P w K mg base CX j f fd ps sp) (h : j ≤ k) :
    FnOk P w K mg base CX k f fd ps sp := ⟨F.len, fun A outer s H args us vs Q E hr => F.run A outer s H args us vs Q E (hr.mono h)⟩
/-- a weaker promise -/
theorem FnOk.imp {P : Program} {w : World} {K : PySem.W.Frag} {mg : Str → Option Value} {base : Heap} {CX : CXT} {k : Nat} {f : Addr} {fd : FuncData} {ps : List Str} {sp sp' : Sp} (F : FnOk P w K mg base CX k f fd ps sp)
    (h : ∀ vs H Q E, sp' vs H Q E → sp vs H Q E) : FnOk P w K mg base CX k f fd ps sp' :=
  ⟨fun vs H Q E q => F.len vs H Q E (h _ _ _ _ q), fun A outer s H args us vs Q E hr he hb hv hs => F.run A outer s H args us vs Q E hr he hb hv (h _ _ _ _ hs)⟩

theorem Env0.make {P : Program} {w : World} {K : PySem.W.Frag} {mg : Str → Option Value} {base : Heap} {A : Around} {outer : List Env} {s : Shared} {H : Hp} (e : Env0 P w K mg base A outer s H) (C : Addr) (us : List Value) (kw : List (Str × Value)) :
    Env0 P w K mg base (A.under (.builtin "type.__call__" ⟨.ref C :: us, kw⟩)) outer s H := ⟨by first | exact e.frames | (simpa [Around.under, Code.envs, Code.isFrame, pushEnvs] using e.frames), e.mod, e.bs, e.bsz, e.funs, e.frf, e.hok, e.bare⟩
theorem Env0.in1 {P : Program} {w : World} {K : PySem.W.Frag} {mg : Str → Option Value} {base : Heap} {A : Around} {outer : List Env} {s : Shared} {H : Hp} (e : Env0 P w K mg base A outer s H) :
    Env0 P w K mg base A.in1 outer s H := ⟨e.frames, e.mod, e.bs, e.bsz, e.funs, e.frf, e.hok, e.bare⟩

section
variable {X : Cx} {pins : List (Addr × Obj)} {σ : St} {H : Hp} {s s' : Shared}
/-- from a body: what a callee wants -/
theorem Inv.env0 (I : Inv X pins σ H s) : Env0 X.prog X.w X.K X.mg X.base X.A X.stack s H :=
  ⟨I.ok.frames, I.ok.mod, I.bs, Nat.le_trans I.ok.bsz I.sz, I.stack, I.stkFree, I.hok, I.bare⟩
/-- behind a call -/
theorem Inv.after {Q : VK} {u : Value} (I : Inv X pins σ H s) (h : CE X.stack X.prog X.w H s Q u s') : EP X pins σ Q u s' := by
  obtain ⟨v, H', os, bare, un, hok, r, q⟩ := h
  obtain ⟨hh, g, d, t, os'⟩ := s'
  obtain rfl : os' = s.os := os
  exact ⟨v, H', I.call (h' := hh) (g' := g) (d' := d) (t' := t) (ch := []) un hok bare (fun b z => absurd z (by simp)), r, q⟩
end

/-! ### calls -/
/-- f(..): the written arguments, then the defaults dvs; E: what is wanted of an exception -/
def tCall (sp : Sp) (dvs : List V) (E : XK) (t : TA) : TE := fun σ H Q => t σ H fun vs H1 => sp (vs ++ dvs) H1 Q E
/-- o.m(..) of an instance of the class at C -/
def tMeth (C : Addr) (m : Str) (sp : Sp) (dvs : List V) (E : XK) (ta : TE) (t : TA) : TE := fun σ H Q => ta σ H fun x H1 => ∃ a dx fs, x = .ref a ∧ H1 a = some (.ins C dx fs) ∧ fs.lookup m = none ∧
  t σ H1 fun vs H2 => sp (x :: (vs ++ dvs)) H2 Q E
/-- C(..): a new instance and its dict, then __init__ -/
def tMake (C : Addr) (sp : Sp) (dvs : List V) (E : XK) (t : TA) : TE := fun σ H Q => t σ H fun vs H1 => ∀ x dx, H1 x = none → H1 dx = none → dx ≠ x →
  sp (.ref x :: (vs ++ dvs)) (upd (upd H1 dx (.own x)) x (.ins C dx [])) (fun v H2 => v = .non ∧ Q (.ref x) H2) E

/-- how the parameters are bound: us the positional arguments, kw the keywords' values by name, ds the defaults that fill up -/
def Binds (K : PySem.W.Frag) (fd : FuncData) (ps : List Str) (ds : List Value) : Prop :=
  ∀ (s : Shared) (us : List Value), K.In s.heap → (us ++ ds).length = ps.length → BindsTo s fd ⟨us, []⟩ (ps.zip (us ++ ds))
/-- every parameter is given -/
theorem Binds.all {K : PySem.W.Frag} {fd : FuncData} {ps : List Str} (h : ∀ us : List Value, us.length = ps.length → bindArgs fd ⟨us, []⟩ = pure (ps.zip us)) : Binds K fd ps [] := fun s us _ hl => by
  rw [List.append_nil] at hl ⊢
  exact .of_eq (h us hl)

/-- an exception of a callee reaches what this body wants of exceptions -/
def Passes (CX : CXT) (X : Cx) (E : XK) : Prop := ∀ (pins : List (Addr × Obj)) (σ : St) (H : Hp) (s : Shared) (e : Value) (s' : Shared), Inv X pins σ H s → CX X.stack H s E e s' → X.xe e s'

section
variable {X : Cx} {CX : CXT} {k : Nat} {f C : Addr} {fd : FuncData} {ps : List Str} {sp : Sp} {dvs : List V} {ds : List Value} {E : XK} {x m : Str} {p pos apos : Pos} {e o : Expr} {es : List Expr} {ta : TE} {t : TA}

/-- the callee runs -/
theorem run_fn {pins : List (Addr × Obj)} {σ : St} {H : Hp} {s : Shared} {Q : VK} {us : List Value} {vs : List V} (F : FnOk X.prog X.w X.K X.mg X.base CX k f fd ps sp) (hr : Room k X.A) (hb : Binds X.K fd ps ds) (hd : Vals dvs ds) (hx : Passes CX X E)
    (I : Inv X pins σ H s) (r : Vals vs us) (h : sp (vs ++ dvs) H Q E) : wpAny (model X.prog X.w) X.A (call (.ref f) us) (EP X pins σ Q) X.xe s := by
  have r2 : Vals (vs ++ dvs) (us ++ ds) := r.append hd
  have hl : (us ++ ds).length = ps.length := by rw [← r2.length]; exact F.len _ _ _ _ h
  refine wpAny_call (codeAny_mono (F.run X.A X.stack s H ⟨us, []⟩ (us ++ ds) (vs ++ dvs) Q E hr I.env0 (hb s us I.kIn hl) r2 h) fun r s' hq => ?_)
  cases r with
  | error e => exact hx pins σ H s e s' I hq
  | ok fl =>
    cases fl with
    | ret u => exact I.after hq
    | next => exact False.elim hq
    | brk => exact False.elim hq
    | cont => exact False.elim hq

theorem pe_call (F : FnOk X.prog X.w X.K X.mg X.base CX k f fd ps sp) (hr : Room k X.A) (hg : Gl X x) (hm : X.mg x = some (.ref f)) (hk : PySem.W.keepIn X.K (.ref f) = true) (hb : Binds X.K fd ps ds) (hd : Vals dvs ds) (hx : Passes CX X E)
    (ha : PA X (e :: es) t) (hdb : (x == ("__debug__" : Str)) = false := by decide) (he : starEach (e :: es) X.env = (false, eval e X.env) :: starEach es X.env := by rfl) (hpl : (backTo pos (starEach es X.env)).any (·.1) = false := by rfl) :
    PE X (.Call (.Name x p) (e :: es) [] pos) (tCall sp dvs E t) := by
  intro pins s σ H Q I h
  refine wpAny_Call_Name_kw (ld_glob I hg hm ?_ hdb)
  refine PySem.W.callWith_K (h₀ := X.base) I.ok.mod.kin hk (thn (ha pos pins s σ H _ I h) fun us s1 ⟨vs, H1, I1, r, q⟩ => ⟨I1.kIn, ?_⟩) he hpl
  exact run_fn F hr hb hd hx I1 r q
theorem pe_call0 (F : FnOk X.prog X.w X.K X.mg X.base CX k f fd ps sp) (hr : Room k X.A) (hg : Gl X x) (hm : X.mg x = some (.ref f)) (hk : PySem.W.keepIn X.K (.ref f) = true) (hb : Binds X.K fd ps ds) (hd : Vals dvs ds) (hx : Passes CX X E)
    (hdb : (x == ("__debug__" : Str)) = false := by decide) : PE X (.Call (.Name x p) [] [] pos) (tCall sp dvs E tNil) := by
  intro pins s σ H Q I h
  refine wpAny_Call_Name_kw (ld_glob I hg hm ?_ hdb)
  exact PySem.W.callWith_K0 I.kIn hk (run_fn (us := []) F hr hb hd hx I .nil h)

/-- o.m(e, ..) -/
theorem pe_meth {pl : Sem Bool} (he : PE X o ta) (c : Cls X.K C) (hm : Meth X.K C m f) (F : FnOk X.prog X.w X.K X.mg X.base CX k f fd ps sp) (hr : Room k X.A) (hb : Binds X.K fd ps ds) (hd : Vals dvs ds) (hx : Passes CX X E) (ha : PA X (e :: es) t)
    (hst : starEach (e :: es) X.env = (false, eval e X.env) :: starEach es X.env := by rfl) (hpl : (backTo pos (starEach es X.env)).any (·.1) = false := by rfl)
    (ht : eval (.Call (.Attribute o m apos) (e :: es) [] pos) X.env = (do
      let ov ← eval o X.env
      standAt apos.atName
      let (f, first) ← holding [ov] (getMethod ov m pl)
      callWith pos f first (backTo pos (starEach (e :: es) X.env)) (backToKw pos (keywordEach [] X.env))) := by rfl) :
    PE X (.Call (.Attribute o m apos) (e :: es) [] pos) (tMeth C m sp dvs E ta t) := by
  intro pins s σ H Q I h
  refine PySem.W.methodCall_KW (pl := pl) (thn (he pins s σ H _ I h) fun u s1 ⟨x, H1, I1, rx, a, dx, fs, ex, ea, l, q⟩ => ?_) ht
  subst ex
  obtain rfl : u = Value.ref a := rx
  refine getmeth_ok I1 ea c hm l ?_
  refine PySem.W.callWith_K (first := [.ref a]) (h₀ := X.base) I.ok.mod.kin hm.kp (thn (ha pos pins s1 σ H1 _ I1 q) fun us s2 ⟨vs, H2, I2, r, q2⟩ => ⟨I2.kIn, ?_⟩) hst hpl
  exact run_fn (us := .ref a :: us) (vs := .ref a :: vs) F hr hb hd hx I2 (.cons rfl r) q2
/-- o.m() -/
theorem pe_meth0 {pl : Sem Bool} (he : PE X o ta) (c : Cls X.K C) (hm : Meth X.K C m f) (F : FnOk X.prog X.w X.K X.mg X.base CX k f fd ps sp) (hr : Room k X.A) (hb : Binds X.K fd ps ds) (hd : Vals dvs ds) (hx : Passes CX X E)
    (ht : eval (.Call (.Attribute o m apos) [] [] pos) X.env = (do
      let ov ← eval o X.env
      standAt apos.atName
      let (f, first) ← holding [ov] (getMethod ov m pl)
      callWith pos f first (backTo pos (starEach [] X.env)) (backToKw pos (keywordEach [] X.env))) := by rfl) :
    PE X (.Call (.Attribute o m apos) [] [] pos) (tMeth C m sp dvs E ta tNil) := by
  intro pins s σ H Q I h
  refine PySem.W.methodCall_KW (pl := pl) (thn (he pins s σ H _ I h) fun u s1 ⟨x, H1, I1, rx, a, dx, fs, ex, ea, l, q⟩ => ?_) ht
  subst ex
  obtain rfl : u = Value.ref a := rx
  refine getmeth_ok I1 ea c hm l ?_
  exact PySem.W.callWith_K0 (first := [.ref a]) I1.kIn hm.kp (run_fn (us := [.ref a]) (vs := [.ref a]) F hr hb hd hx I1 (.cons rfl .nil) q)

/-- what a class must have to be made -/
structure Mk (K : PySem.W.Frag) (C f : Addr) : Prop where
  makes : PySem.W.makesIn K C = true
  init : PySem.W.findIn K (.ref C) "__init__" = some (some (.ref f))
  fn : PySem.W.isFn K (.ref f) = true
  kp : PySem.W.keepIn K (.ref C) = true

theorem run_make {pins : List (Addr × Obj)} {σ : St} {H : Hp} {s : Shared} {Q : VK} {us : List Value} {vs : List V} (M : Mk X.K C f) (F : FnOk X.prog X.w X.K X.mg X.base CX k f fd ps sp) (hr : Room (k + 1) X.A) (hb : Binds X.K fd ps ds) (hd : Vals dvs ds)
    (hx : Passes CX X E) (I : Inv X pins σ H s) (r : Vals vs us)
    (h : ∀ x dx, H x = none → H dx = none → dx ≠ x → sp (.ref x :: (vs ++ dvs)) (upd (upd H dx (.own x)) x (.ins C dx [])) (fun v H2 => v = .non ∧ Q (.ref x) H2) E) :
    wpAny (model X.prog X.w) X.A (call (.ref C) us) (EP X pins σ Q) X.xe s := by
  have hq := h (s.heap.objs.size + 1) s.heap.objs.size (I.hok.fresh (Nat.le_succ _)) (I.hok.fresh (Nat.le_refl _)) (Nat.ne_of_lt (Nat.lt_succ_self _))
  have I2 := Inv.made (C := C) I
  have r2 : Vals (V.ref (s.heap.objs.size + 1) :: (vs ++ dvs)) (Value.ref (s.heap.objs.size + 1) :: (us ++ ds)) := .cons rfl (r.append hd)
  have hl : (Value.ref (s.heap.objs.size + 1) :: us ++ ds).length = ps.length := by
    have e := r2.length
    rw [F.len _ _ _ _ hq] at e
    exact e.symm
  refine wpAny_call (make_map (f := f) I.kIn M.makes M.init (beq_iff_eq.mp M.fn) (codeAny_mono (F.run _ X.stack _ _ ⟨Value.ref (s.heap.objs.size + 1) :: us, []⟩ (Value.ref (s.heap.objs.size + 1) :: (us ++ ds)) _ _ E (hr.make C us [])
    (I2.env0.make C us []) (hb _ (Value.ref (s.heap.objs.size + 1) :: us) I2.kIn hl) r2 hq) fun r s' hq' => ?_))
  cases r with
  | error e => exact hx pins σ _ _ e s' I2 hq'
  | ok fl =>
    cases fl with
    | ret u =>
      obtain ⟨v, H', I3, rv, ev, q3⟩ := I2.after hq'
      subst ev
      exact ⟨rv, ⟨V.ref (s.heap.objs.size + 1), H', I3, rfl, q3⟩⟩
    | next => exact False.elim hq'
    | brk => exact False.elim hq'
    | cont => exact False.elim hq'
theorem pe_make (M : Mk X.K C f) (F : FnOk X.prog X.w X.K X.mg X.base CX k f fd ps sp) (hr : Room (k + 1) X.A) (hg : Gl X x) (hm : X.mg x = some (.ref C)) (hb : Binds X.K fd ps ds) (hd : Vals dvs ds) (hx : Passes CX X E)
    (ha : PA X (e :: es) t) (hdb : (x == ("__debug__" : Str)) = false := by decide) (he : starEach (e :: es) X.env = (false, eval e X.env) :: starEach es X.env := by rfl) (hpl : (backTo pos (starEach es X.env)).any (·.1) = false := by rfl) :
    PE X (.Call (.Name x p) (e :: es) [] pos) (tMake C sp dvs E t) := by
  intro pins s σ H Q I h
  refine wpAny_Call_Name_kw (ld_glob I hg hm ?_ hdb)
  refine PySem.W.callWith_K (h₀ := X.base) I.ok.mod.kin M.kp (thn (ha pos pins s σ H _ I h) fun us s1 ⟨vs, H1, I1, r, q⟩ => ⟨I1.kIn, ?_⟩) he hpl
  exact run_make M F hr hb hd hx I1 r q
theorem pe_make0 (M : Mk X.K C f) (F : FnOk X.prog X.w X.K X.mg X.base CX k f fd ps sp) (hr : Room (k + 1) X.A) (hg : Gl X x) (hm : X.mg x = some (.ref C)) (hb : Binds X.K fd ps ds) (hd : Vals dvs ds) (hx : Passes CX X E)
    (hdb : (x == ("__debug__" : Str)) = false := by decide) : PE X (.Call (.Name x p) [] [] pos) (tMake C sp dvs E tNil) := by
  intro pins s σ H Q I h
  refine wpAny_Call_Name_kw (ld_glob I hg hm ?_ hdb)
  exact PySem.W.callWith_K0 I.kIn M.kp (run_make (us := []) M F hr hb hd hx I .nil h)
end

/-! ### keywords -/
/-- the values of the keywords, from the left -/
def PK (X : Cx) (kws : List Keyword) (t : TA) : Prop :=
  ∀ (pos : Pos) (pins : List (Addr × Obj)) (s : Shared) (σ : St) (H : Hp) (Q : List V → Hp → Prop), Inv X pins σ H s → t σ H Q → wpAny (model X.prog X.w) X.A (evalAll ((backToKw pos (keywordEach kws X.env)).map (·.2))) (AP X pins σ Q) X.xe s
section
variable {X : Cx} {CX : CXT} {k : Nat} {f C : Addr} {fd : FuncData} {ps ks : List Str} {sp : Sp} {E : XK} {x m : Str} {p pos apos kpos : Pos} {e o : Expr} {es : List Expr} {kws : List Keyword} {te ta : TE} {t tk : TA} {nm : Option Str}
theorem pk_nil : PK X [] tNil := fun _ _ _ _ H Q I h => wpAny_evalAll_nil ⟨[], H, I, .nil, h⟩
theorem pk_cons (ha : PE X e te) (hr : PK X kws t) : PK X (⟨nm, e, kpos⟩ :: kws) (tCons te t) := by
  intro pos pins s σ H Q I h
  show wpAny _ _ (evalAll ((do let v ← eval e X.env; standAt pos; pure v) :: (backToKw pos (keywordEach kws X.env)).map (·.2))) _ _ s
  refine wpAny_evalAll_cons (wpAny_bind (thn (ha pins s σ H _ I h) fun u s1 ⟨x, H1, I1, r1, q1⟩ => wpAny_bind (wpAny_standAt (wpAny_pure ?_))))
  exact thn (hr pos pins s1 σ H1 _ I1 q1) fun us s2 ⟨xs, H2, I2, r2, q2⟩ => ⟨x :: xs, H2, I2, .cons r1 r2, q2⟩

/-- how a call with keywords binds: g puts the positional values us and the keywords' values ws (names ks) in the parameters' order, defaults among them -/
structure KBinds (K : PySem.W.Frag) (fd : FuncData) (ps ks : List Str) (g : List Value → List Value → List Value) (gV : List V → List V → List V) : Prop where
  to : ∀ (s : Shared) (us ws : List Value), K.In s.heap → (g us ws).length = ps.length → BindsTo s fd ⟨us, ks.zip ws⟩ (ps.zip (g us ws))
  rel : ∀ {vs : List V} {us : List Value} {zs : List V} {ws : List Value}, Vals vs us → Vals zs ws → Vals (gV vs zs) (g us ws)
def tCallK (sp : Sp) (gV : List V → List V → List V) (E : XK) (t tk : TA) : TE := fun σ H Q => t σ H fun vs H1 => tk σ H1 fun zs H2 => sp (gV vs zs) H2 Q E
variable {g : List Value → List Value → List Value} {gV : List V → List V → List V}
theorem run_fnk {pins : List (Addr × Obj)} {σ : St} {H : Hp} {s : Shared} {Q : VK} {us ws : List Value} {vs zs : List V} (F : FnOk X.prog X.w X.K X.mg X.base CX k f fd ps sp) (hr : Room k X.A) (hb : KBinds X.K fd ps ks g gV) (hx : Passes CX X E)
    (I : Inv X pins σ H s) (r : Vals vs us) (rz : Vals zs ws) (h : sp (gV vs zs) H Q E) : wpAny (model X.prog X.w) X.A (call (.ref f) us (ks.zip ws)) (EP X pins σ Q) X.xe s := by
  have r2 := hb.rel r rz
  have hl : (g us ws).length = ps.length := by rw [← r2.length]; exact F.len _ _ _ _ h
  refine wpAny_call (codeAny_mono (F.run X.A X.stack s H ⟨us, ks.zip ws⟩ (g us ws) (gV vs zs) Q E hr I.env0 (hb.to s us ws I.kIn hl) r2 h) fun r s' hq => ?_)
  cases r with
  | error e => exact hx pins σ H s e s' I hq
  | ok fl =>
    cases fl with
    | ret u => exact I.after hq
    | next => exact False.elim hq
    | brk => exact False.elim hq
    | cont => exact False.elim hq
/-- f(e, .., k = v, ..) -/
theorem pe_callK (F : FnOk X.prog X.w X.K X.mg X.base CX k f fd ps sp) (hr : Room k X.A) (hg : Gl X x) (hm : X.mg x = some (.ref f)) (hk : PySem.W.keepIn X.K (.ref f) = true) (hb : KBinds X.K fd ps ks g gV) (hx : Passes CX X E)
    (ha : PA X (e :: es) t) (hkw : PK X kws tk) (hall : (backToKw pos (keywordEach kws X.env)).all (·.1.isSome) = true := by rfl) (hks : (backToKw pos (keywordEach kws X.env)).filterMap (·.1) = ks := by rfl)
    (hdb : (x == ("__debug__" : Str)) = false := by decide) (he : starEach (e :: es) X.env = (false, eval e X.env) :: starEach es X.env := by rfl)
    (hpl : ((backTo pos (starEach (e :: es) X.env)).any (·.1) || (backToKw pos (keywordEach kws X.env)).any (·.1.isNone)) = false := by rfl) :
    PE X (.Call (.Name x p) (e :: es) kws pos) (tCallK sp gV E t tk) := by
  intro pins s σ H Q I h
  refine wpAny_Call_Name_kw (ld_glob I hg hm ?_ hdb)
  refine PySem.W.callWith_KW (h₀ := X.base) I.ok.mod.kin hk hall (thn (ha pos pins s σ H _ I h) fun us s1 ⟨vs, H1, I1, r, q⟩ => ?_) hpl he
  refine thn (hkw pos pins s1 σ H1 _ I1 q) fun ws s2 ⟨zs, H2, I2, rz, q2⟩ => ⟨I2.kIn, ?_⟩
  rw [hks]
  exact run_fnk F hr hb hx I2 r rz q2
end

/-! ### a def's body keeps its promise -/
/-- names: the parameters first -/
structure FnScope (N P : List Str) (sc : Scope) : Prop where
  kind : sc.kind = .function
  co : sc.isCoroutine = false
  gen : sc.isGenerator = false
  nd : N.Nodup
  pre : N.take P.length = P
  par : ∀ x ∈ P, sc.names.lookup x = some .local ∨ sc.names.lookup x = some .cell
  nofree : ∀ y ∈ sc.names, y.2 ≠ .free

theorem bindL_out {kindOf : Str → Option NameKind} {x : Str} : ∀ {binds : List (Str × Value)} {m : Str → Option Value}, (∀ v, (x, v) ∉ binds) → bindL kindOf binds m x = m x
  | [], _, _ => rfl
  | (n, v) :: r, m, h => by
    unfold bindL
    rw [bindL_out fun w hw => h w (List.mem_cons_of_mem _ hw)]
    split
    · have : x ≠ n := by rintro rfl; exact h v List.mem_cons_self
      simp [this]
    · rfl
theorem bindC_out {kindOf : Str → Option NameKind} {x : Str} : ∀ {binds : List (Str × Value)} {m : Str → Option Value}, (∀ v, (x, v) ∉ binds) → bindC kindOf binds m x = m x
  | [], _, _ => rfl
  | (n, v) :: r, m, h => by
    unfold bindC
    rw [bindC_out fun w hw => h w (List.mem_cons_of_mem _ hw)]
    split
    · rfl
    · have : x ≠ n := by rintro rfl; exact h v List.mem_cons_self
      simp [this]
theorem bindL_get {kindOf : Str → Option NameKind} {x : Str} {v : Value} : ∀ {P : List Str} {vs : List Value} {i : Nat} {m : Str → Option Value}, P.Nodup → P[i]? = some x → vs[i]? = some v → kindOf x = some .local →
    bindL kindOf (P.zip vs) m x = some v
  | [], _, _, _, _, h, _, _ => by simp at h
  | _ :: _, [], _, _, _, _, h, _ => by simp at h
  | p :: P, w :: vs, 0, m, nd, h1, h2, hk => by
    simp at h1 h2; subst h1; subst h2
    show bindL kindOf ((p, w) :: P.zip vs) m p = _
    unfold bindL
    rw [bindL_out fun v hv => (List.nodup_cons.mp nd).1 (List.of_mem_zip hv).1, if_pos hk]
    simp
  | p :: P, w :: vs, i + 1, m, nd, h1, h2, hk => by
    show bindL kindOf ((p, w) :: P.zip vs) m x = _
    unfold bindL
    exact bindL_get (i := i) (List.nodup_cons.mp nd).2 (by simpa using h1) (by simpa using h2) hk
theorem bindC_get {kindOf : Str → Option NameKind} {x : Str} {v : Value} : ∀ {P : List Str} {vs : List Value} {i : Nat} {m : Str → Option Value}, P.Nodup → P[i]? = some x → vs[i]? = some v → kindOf x ≠ some .local →
    bindC kindOf (P.zip vs) m x = some v
  | [], _, _, _, _, h, _, _ => by simp at h
  | _ :: _, [], _, _, _, _, h, _ => by simp at h
  | p :: P, w :: vs, 0, m, nd, h1, h2, hk => by
    simp at h1 h2; subst h1; subst h2
    show bindC kindOf ((p, w) :: P.zip vs) m p = _
    unfold bindC
    rw [bindC_out fun v hv => (List.nodup_cons.mp nd).1 (List.of_mem_zip hv).1, if_neg hk]
    simp
  | p :: P, w :: vs, i + 1, m, nd, h1, h2, hk => by
    show bindC kindOf ((p, w) :: P.zip vs) m x = _
    unfold bindC
    exact bindC_get (i := i) (List.nodup_cons.mp nd).2 (by simpa using h1) (by simpa using h2) hk

/-- the names' values at the entry -/
def start (N : List Str) (vs : List V) : St := vs.map some ++ List.replicate (N.length - vs.length) none

/-- the context of a def's body, at its entry; an exception leaves the frame, then lies as CX says -/
def cxOf (CX : CXT) (P : Program) (w : World) (K : PySem.W.Frag) (mg : Str → Option Value) (base : Heap) (N : List Str) (qual : Str) (scope : Scope) (f : Addr) (cd : Value) (A : Around) (outer : List Env) (s : Shared) (H : Hp) (E : XK) : Cx where
  prog := P
  w := w
  K := K
  mg := mg
  base := base
  A := A.deeper (envOfC qual scope s.heap.objs.size f cd)
  N := N
  s_0 := s
  H_0 := H
  env := envOfC qual scope s.heap.objs.size f cd
  outer := outer
  stack := envOfC qual scope s.heap.objs.size f cd :: outer
  ex := []
  calm := true
  fn := fun _ => true
  pn := []
  xe := fun e s' => wpAny (model P w) (A.deeper (envOfC qual scope s.heap.objs.size f cd)) (leaving (envOfC qual scope s.heap.objs.size f cd) e) (fun _ s'' => CX outer H s E e s'') (fun e' s'' => CX outer H s E e' s'') s'

theorem cell_has {sc : Scope} {n : Nat} {x : Str} (h : sc.names.lookup x = some .cell) : ∃ c, (cellsFrom n sc.names []).lookup x = some c := by
  have q := PySem.W.cellsFrom_some sc.names n [] (.inl h)
  exact Option.isSome_iff_exists.mp q

theorem inv_start {CX : CXT} {P : Program} {w : World} {K : PySem.W.Frag} {mg : Str → Option Value} {base : Heap} {N ps : List Str} {qual : Str} {scope : Scope} {f : Addr} {cd : Value} {A : Around} {outer : List Env} {s s1 : Shared} {H : Hp} {E : XK} {us : List Value} {vs : List V}
    (S : FnScope N ps scope) (hd : A.handled = none) (e0 : Env0 P w K mg base A outer s H) (hl : vs.length = ps.length) (r : Vals vs us)
    (x : InCallC s s.heap.objs.size (bindL (envOfC qual scope s.heap.objs.size f cd).kindOf (ps.zip us) fun _ => none) (cellsFrom (s.heap.objs.size + 1) scope.names []) (bindC (envOfC qual scope s.heap.objs.size f cd).kindOf (ps.zip us) fun _ => none) s1) :
    Inv (cxOf CX P w K mg base N qual scope f cd A outer s H E) [] (start N vs) H s1 := by
  have hpl : ps.length ≤ N.length := by have := congrArg List.length S.pre; rw [List.length_take] at this; omega
  obtain ⟨h1, tk, rfl, hk⟩ := x.done
  have noA : ∀ b : Addr, b ∉ (cxOf CX P w K mg base N qual scope f cd A outer s H E).ex := fun b z => absurd (show b ∈ ([] : List Addr) from z) (by simp)
  refine ⟨⟨e0.mod, S.kind, rfl, rfl, Nat.le_refl _, fun y z c h1 h2 => ?_, fun y hy => ?_, fun y c _ h => ?_, fun _ => hd, Around.frames_deeper e0.frames, .inr ⟨rfl, rfl⟩, fun b z => absurd z (noA b), e0.bs, e0.bsz, fun b _ _ => noA b, fun b z => absurd z (noA b), e0.funs, e0.frf⟩,
    rfl, e0.bare, Un.kept hk, ⟨_, x.toInCall.ns, fun i y v h1 h2 h3 => ?_⟩, fun y c h => ⟨_, x.cell y c h⟩, e0.hok.fresh (Nat.le_refl _), fun y c h => ?_, fun p hp => absurd (show p ∈ ([] : List (Addr × Obj)) from hp) (by simp), e0.hok.kept hk, ?_⟩
  · exact name_of_addr x.apart (PySem.mem_of_lookup h1) (PySem.mem_of_lookup h2)
  · have hy : scope.names.lookup y = some .cell ∨ scope.names.lookup y = some .free := hy
    rcases hy with hy | hy
    · exact cell_has hy
    · exact absurd rfl (S.nofree _ (PySem.mem_of_lookup hy))
  · exact Nat.le_of_lt (x.above y c (PySem.mem_of_lookup h))
  · have hi : i < vs.length := by
      unfold start at h2
      by_cases hi : i < vs.length
      · exact hi
      · rw [List.getElem?_append_right (by simpa using hi)] at h2
        rw [List.getElem?_replicate] at h2
        split at h2 <;> cases h2
    have ha : vs[i]? = some v := by
      unfold start at h2
      rw [List.getElem?_append_left (by simpa using hi), List.getElem?_map] at h2
      cases e : vs[i]? with
      | none => rw [e] at h2; cases h2
      | some a => rw [e] at h2; cases h2; rfl
    obtain ⟨u, hu, rv⟩ := r.get ha
    have hp : ps[i]? = some y := by
      rw [← S.pre, List.getElem?_take_of_lt (by omega)]; exact h1
    have ndP : ps.Nodup := by rw [← S.pre]; exact S.nd.sublist (List.take_sublist _ _)
    refine ⟨u, rv, ?_⟩
    rcases S.par y (List.mem_of_getElem? hp) with k | k
    · exact .inl ⟨k, bindL_get ndP hp hu k⟩
    · obtain ⟨c, e⟩ := cell_has (n := s.heap.objs.size + 1) k
      refine .inr ⟨.inl k, c, e, ?_⟩
      have q := x.cell y c e
      rw [bindC_get ndP hp hu (by show scope.names.lookup y ≠ _; rw [k]; decide)] at q
      exact q
  · exact e0.hok.fresh (Nat.le_of_lt (x.above y c (PySem.mem_of_lookup h)))
  · unfold start
    show _ = N.length
    rw [List.length_append, List.length_map, List.length_replicate]
    omega

/-- THE RULE: a def (or a method) of the text, by its body. The body's reading t is chosen for each entry; it is run at the parameters' values -/
theorem fn_of {CX : CXT} {P : Program} {w : World} {K : PySem.W.Frag} {mg : Str → Option Value} {base : Heap} {k : Nat} {f : Addr} {name qual : Str} {params : Arguments} {body : List Stmt} {scope : Scope} {dV kV doc pm cdv ct oc : Value} {an od : Option Addr}
    {osl : Array (Option Value)} {N ps : List Str} {sp : Sp} (lk : K.lookup f = some ⟨oc, od, .func (PySem.W.fnOf name qual params body scope dV kV doc pm an cdv ct), osl⟩) (hcd : PySem.W.codeIn K cdv qual = true) (S : FnScope N ps scope)
    (len : ∀ vs H Q E, sp vs H Q E → vs.length = ps.length)
    (hbody : ∀ (A : Around) (outer : List Env) (s : Shared) (H : Hp) (vs : List V) (Q : VK) (E : XK), Room k (A.deeper (envOfC qual scope s.heap.objs.size f cdv)) → sp vs H Q E →
      ∃ t, PSs (cxOf CX P w K mg base N qual scope f cdv A outer s H E) body t ∧ t { nx := fun _ H' => Q .non H', rt := Q } (start N vs) H) :
    FnOk P w K mg base CX (k + 1) f (PySem.W.fnOf name qual params body scope dV kV doc pm an cdv ct) ps sp := by
  refine ⟨len, fun A outer s H args us vs Q E hr e0 hb r hsp => ?_⟩
  have hl := len _ _ _ _ hsp
  have KX : K.In s.heap := e0.mod.kin.keeps fun b o e => (e0.bs b o e).1
  have lim : s.heap.NoLimit := e0.mod.nolimit.keeps fun b o e => (e0.bs b o e).1
  have hkind : ∀ y ∈ ps.zip us, scope.names.lookup y.1 = some .local ∨ (scope.names.lookup y.1 = some .cell ∧ ((cellsFrom (s.heap.objs.size + 1) scope.names []).lookup y.1).isSome = true) := fun ⟨n, v⟩ hy => by
    rcases S.par n (List.of_mem_zip hy).1 with q | q
    · exact .inl q
    · exact .inr ⟨q, PySem.W.cellsFrom_some _ _ _ (.inl q)⟩
  refine codeAny_call_function hr.depth (KX _ _ lk) rfl S.co S.gen rfl (PySem.W.codeRec_of KX hcd) (hb _ _ _ _ ?_)
  refine wpAny_newFunctionEnv_cells S.kind hkind fun env he s1 x => ?_
  subst he
  refine ⟨lim.keeps x.toInCall.keep, codeAny_func ?_⟩
  obtain ⟨t, ht, hq⟩ := hbody A outer s H vs Q E (hr.deeper _) hsp
  have I : Inv (cxOf CX P w K mg base N qual scope f cdv A outer s H E) [] (start N vs) H s1 := inv_start S hr.hd e0 hl r x
  refine wpAny_mono (ht [] s1 (start N vs) H _ I hq) (fun fl s' hs => ?_) fun e s' hs => hs
  have fin : ∀ {σ' : St} {H' : Hp} {v : V} {u : Value}, Inv (cxOf CX P w K mg base N qual scope f cdv A outer s H E) [] σ' H' s' → RelV v u → Q v H' → CE outer P w H s Q u s' :=
    fun {σ' H' v u} J rv q => ⟨v, H', J.os, J.bare, J.base, J.hok, rv, q⟩
  cases fl with
  | ret u =>
    obtain ⟨v, σ', H', J, rv, q⟩ := hs
    exact fin J rv q
  | next =>
    obtain ⟨σ', H', J, q⟩ := hs
    exact fin (v := V.non) (u := Value.none) J rfl q
  | brk =>
    obtain ⟨_, _, _, q⟩ := hs
    exact False.elim q
  | cont =>
    obtain ⟨_, _, _, q⟩ := hs
    exact False.elim q
end L2

namespace L2
open PySem PySem.Spec PyProof.Rows
section
variable {X : Cx} {x : Str} {p pos : Pos} {e : Expr} {es : List Expr} {t : TA} {id T : String} {r : List V → Hp → VK → Prop}

def tCB (r : List V → Hp → VK → Prop) (t : TA) : TE := fun σ H Q => t σ H fun vs H1 => r vs H1 Q
/-- f(e, ..), f a built-in function -/
theorem pe_callB (hc : CallR X (.builtin id) r) (hg : Gl X x) (hm : X.mg x = none) (hv : bootBuiltins x = some (.builtin id)) (ha : PA X (e :: es) t) (hn : x ≠ "__name__" := by decide) (hdb : (x == ("__debug__" : Str)) = false := by decide)
    (he : starEach (e :: es) X.env = (false, eval e X.env) :: starEach es X.env := by rfl) (hpl : (backTo pos (starEach es X.env)).any (·.1) = false := by rfl) : PE X (.Call (.Name x p) (e :: es) [] pos) (tCB r t) := by
  intro pins s σ H Q I h
  refine wpAny_Call_Name_kw (ld_blt I hg hm hv ?_ hn hdb)
  exact PyProof.Rows.callWith_builtin1 (thn (ha pos pins s σ H _ I h) fun us s1 ⟨vs, H1, I1, r1, q1⟩ => hc pins s1 σ H1 vs us Q I1 r1 q1) he hpl
/-- T(e, ..), T a built-in type -/
theorem pe_callTy (hc : CallR X (.type T) r) (hg : Gl X x) (hm : X.mg x = none) (hv : bootBuiltins x = some (.type T)) (ha : PA X (e :: es) t) (hn : x ≠ "__name__" := by decide) (hdb : (x == ("__debug__" : Str)) = false := by decide)
    (he : starEach (e :: es) X.env = (false, eval e X.env) :: starEach es X.env := by rfl) (hpl : (backTo pos (starEach es X.env)).any (·.1) = false := by rfl) : PE X (.Call (.Name x p) (e :: es) [] pos) (tCB r t) := by
  intro pins s σ H Q I h
  refine wpAny_Call_Name_kw (ld_blt I hg hm hv ?_ hn hdb)
  exact PyProof.Rows.callWith_type1 (thn (ha pos pins s σ H _ I h) fun us s1 ⟨vs, H1, I1, r1, q1⟩ => hc pins s1 σ H1 vs us Q I1 r1 q1) he hpl
/-- T() -/
theorem pe_callTy0 (hc : CallR X (.type T) r) (hg : Gl X x) (hm : X.mg x = none) (hv : bootBuiltins x = some (.type T)) (hn : x ≠ "__name__" := by decide) (hdb : (x == ("__debug__" : Str)) = false := by decide) :
    PE X (.Call (.Name x p) [] [] pos) (tCB r tNil) := by
  intro pins s σ H Q I h
  refine wpAny_Call_Name_kw (ld_blt I hg hm hv ?_ hn hdb)
  exact PyProof.Rows.callWith_type0 (hc pins s σ H [] [] Q I .nil h)
end
end L2

namespace HT
open PySem PyProof.Rows

/-- t < u of tuples of ints -/
def lexLt : List Int → List Int → Bool
  | [], [] => false
  | [], _ :: _ => true
  | _ :: _, [] => false
  | x :: xs, y :: ys => if x = y then lexLt xs ys else decide (x < y)
theorem lexLt_cons (x y : Int) (xs ys : List Int) : lexLt (x :: xs) (y :: ys) = if x = y then lexLt xs ys else decide (x < y) := rfl
theorem lexLt_nil_nil : lexLt [] [] = false := rfl
theorem lexLt_nil_cons (y : Int) (ys : List Int) : lexLt [] (y :: ys) = true := rfl
theorem lexLt_cons_nil (x : Int) (xs : List Int) : lexLt (x :: xs) [] = false := rfl

theorem eqAt_int (A : Around) (s : Shared) (a : Int) (t : Tok) (c : Int) (u : Tok) : ∃ e, SeqAt.EqAt A s (.int a t) (.int c u) e ∧ (e = true ↔ a = c) :=
  ⟨(a == c), SeqAt.EqAt.int_int a t c u, by simp⟩
theorem rcLt_int (A : Around) (s : Shared) (a : Int) (t : Tok) (c : Int) (u : Tok) (prog : Program) (w : World) (E : Value → Shared → Prop) (Q : Value → Shared → Prop) (h : Q (.bool (decide (a < c))) s) :
    wpAny (model prog w) A (richCompare .Lt (.int a t) (.int c u)) Q E s :=
  (PyProof.Rows.lt_int h : wpAny (model prog w) A (compareOp .Lt (.int a t) (.int c u)) Q E s)

section
open PySem.SeqAt
open PySem.AutoSeq1 (wpAny_loadPart')
open PySem.MeetsSeq PySem.MeetsSeq2 PySem.MeetsSeq3

theorem tuple_lt_ints (l b : Addr) (items items2 : Array Value) (n n2 : Nat) (dd dd2 : Option Addr) (sl sl2 : Array (Option Value)) (ns ms : List Int) (hi : IntsAre items.toList ns) (hj : IntsAre items2.toList ms) :
    Meets (Builtin.«tuple.__lt__» ⟨[.ref l, .ref b], []⟩)
      (fun _ R s => s.heap.get? l = some { cls := .type "tuple", dict := dd, data := .seq items n, slots := sl } ∧ s.heap.get? b = some { cls := .type "tuple", dict := dd2, data := .seq items2 n2, slots := sl2 } ∧
        R (.ok (.ret (.bool (lexLt ns ms)))) s) :=
  .of_wp fun prog w A R s h => by
    obtain ⟨hp, g, d, tk, os⟩ := s; obtain ⟨hl, hb, h⟩ := h
    have f2 := AutoSeq1.sub_tuple_tuple
    have z1 : items.size = ns.length := by rw [← hi.length]; simp
    have z2 : items2.size = ms.length := by rw [← hj.length]; simp
    wp_walk using wpAny_loadPart' hl, wpAny_loadPart' hb, wpAny_forIn_list _ (fun rest b s' => b.1 = none ∧ s' = ⟨hp, g, d, tk, os⟩ ∧ ∃ (vs ws : List Value) (ns' ms' : List Int), rest = vs.zip ws ∧
      IntsAre vs ns' ∧ IntsAre ws ms' ∧ ns'.length + items2.size = ms'.length + items.size ∧ R (.ok (.ret (.bool (lexLt ns' ms')))) ⟨hp, g, d, tk, os⟩) _
    case turn =>
      rintro ⟨y, x⟩ rest b s' ⟨hb', rfl, vs, ws, ns', ms', hz, hvi, hwi, hlen, hR⟩
      cases hvi with
      | nil => rw [List.zip_nil_left] at hz; cases hz
      | cons a t hvi' =>
        cases hwi with
        | nil => rw [List.zip_nil_right] at hz; cases hz
        | cons c u hwi' =>
          rw [List.zip_cons_cons] at hz
          injection hz with hyx hrest
          injection hyx with hy hx
          subst hy hx
          rw [lexLt_cons] at hR
          simp only [List.length_cons] at hlen
          obtain ⟨e, he, hiff⟩ := eqAt_int A.in1 ⟨hp, g, d, tk, os⟩ a t c u
          refine wpAny_bind (he prog w _ _ ?_)
          cases e with
          | true =>
            rw [if_pos (hiff.mp rfl)] at hR
            wp_walk
            exact ⟨rfl, rfl, _, _, _, _, hrest, hvi', hwi', by omega, hR⟩
          | false =>
            rw [if_neg (fun q => absurd (hiff.mpr q) Bool.false_ne_true)] at hR
            have hri := rcLt_int A.in1 ⟨hp, g, d, tk, os⟩ a t c u prog w
            wp_walk using hri
            exact ⟨_, rfl, by simpa using hR⟩
    case fin =>
      rintro ⟨b1, b2⟩ s' ⟨hb', rfl, vs, ws, ns', ms', hz, hvi, hwi, hlen, hR⟩
      simp only at hb'
      subst hb'
      have hv : lexLt ns' ms' = decide (items.size < items2.size) := by
        cases hvi with
        | nil =>
          cases hwi with
          | nil =>
            simp only [List.length_nil] at hlen
            rw [lexLt_nil_nil]
            exact (decide_eq_false (by omega)).symm
          | cons c u hw =>
            simp only [List.length_nil, List.length_cons] at hlen
            rw [lexLt_nil_cons]
            exact (decide_eq_true (by omega)).symm
        | cons a t hv =>
          cases hwi with
          | nil =>
            simp only [List.length_nil, List.length_cons] at hlen
            rw [lexLt_cons_nil]
            exact (decide_eq_false (by omega)).symm
          | cons c u hw =>
            rw [List.zip_cons_cons] at hz
            cases hz
      rw [hv] at hR
      wp_walk
      exact ⟨_, rfl, by simpa [Builtin.Tuple.tupleCompareSizes] using hR⟩
    case h =>
      exact ⟨rfl, rfl, items.toList, items2.toList, ns, ms, rfl, hi, hj, by omega, h⟩
end

section
variable {prog : Program} {w : World} {A : Around} {E : Value → Shared → Prop} {s : Shared}

theorem lt_tupInts {l b : Addr} {items items2 : Array Value} {ns ms : List Int} {Q : Value → Shared → Prop} (hl : IsTup s.heap l items) (hb : IsTup s.heap b items2) (hi : IntsAre items.toList ns) (hj : IntsAre items2.toList ms)
    (hu : A.units < cLine) (h : Q (.bool (lexLt ns ms)) s) : wpAny (model prog w) A (compareOp .Lt (.ref l) (.ref b)) Q E s := by
  obtain ⟨⟨cls, dd, data, sl⟩, ho, hc, n, hd⟩ := id hl
  obtain ⟨⟨cls2, dd2, data2, sl2⟩, ho2, hc2, n2, hd2⟩ := id hb
  simp only at hc hd hc2 hd2
  subst hc hd hc2 hd2
  exact richCompare_meets_room (op := .Lt) ⟨_, ho, rfl⟩ ⟨_, ho2, rfl⟩ PySem.F.slot_tuple_lt PySem.F.entry_tuple_lt (PySem.F.args_tuple_lt_2 _ _) (tuple_lt_ints l b items items2 n n2 dd dd2 sl sl2 ns ms hi hj)
    ⟨ho, ho2, show Value.bool (lexLt ns ms) ≠ Value.notImplemented ∧ Q (.bool (lexLt ns ms)) s from ⟨(fun x => nomatch x), h⟩⟩ hu

/-- t + u, t not empty -/
theorem cat_tup {t b : Addr} {vs ws : List Value} {Q : Value → Shared → Prop} (ht : IsTup s.heap t vs.toArray) (hb : IsTup s.heap b ws.toArray) (hv : vs ≠ [])
    (h1 : ws = [] → Q (.ref t) s) (h2 : ws ≠ [] → Q (.ref s.heap.objs.size) { s with heap := s.heap.push { cls := .type "tuple", data := .seq (vs ++ ws).toArray } })
    (hsz : vs.length + ws.length ≤ sizeLine) : wpAny (model prog w) A (binaryOp .Add (.ref t) (.ref b)) Q E s := by
  obtain ⟨⟨cls, dd, data, sl⟩, ho, hc, n, hd⟩ := id ht
  obtain ⟨⟨cls2, dd2, data2, sl2⟩, ho2, hc2, n2, hd2⟩ := id hb
  simp only at hc hd hc2 hd2
  subst hc hd hc2 hd2
  have e : vs.toArray ++ ws.toArray = (vs ++ ws).toArray := by simp
  by_cases hw : ws = []
  · exact concat_meets ⟨_, ho, rfl⟩ ⟨_, ho2, rfl⟩ noFill_tuple_add seq_tuple_add PySem.F.slot_tuple_add PySem.F.entry_tuple_add (PySem.F.args_tuple_add_2 _ _)
      (tuple_addW1 t b vs.toArray ws.toArray n n2 dd dd2 sl sl2 (by simpa using hv) (by simp [hw])) ⟨ho, ho2, h1 hw⟩
  · refine concat_meets ⟨_, ho, rfl⟩ ⟨_, ho2, rfl⟩ noFill_tuple_add seq_tuple_add PySem.F.slot_tuple_add PySem.F.entry_tuple_add (PySem.F.args_tuple_add_2 _ _)
      (tuple_addW2 t b vs.toArray ws.toArray n n2 dd dd2 sl sl2 (by simpa using hv) (by simpa using hw) (by rw [List.size_toArray, List.size_toArray]; exact hsz)) ⟨ho, ho2, ?_⟩
    rw [e]
    exact h2 hw

/-! ### t[a:b], not the whole -/
/-- a slice's bound as a place among n (d where it is left out) -/
def sIx (n d : Nat) : Option Int → Nat
  | none => d
  | some v => if v < 0 then (v + (n : Int)).toNat else min v.toNat n
theorem sIx_none (n d : Nat) : sIx n d none = d := rfl
theorem sIx_nat (n d k : Nat) : sIx n d (some (k : Int)) = min k n := by
  show (if (k : Int) < 0 then ((k : Int) + (n : Int)).toNat else min (k : Int).toNat n) = min k n
  rw [if_neg (by omega), Int.toNat_natCast]
theorem sIx_le (n d : Nat) (hd : d ≤ n) (o : Option Int) : sIx n d o ≤ n := by
  cases o with
  | none => exact hd
  | some v =>
    show (if v < 0 then (v + (n : Int)).toNat else min v.toNat n) ≤ n
    by_cases hv : v < 0
    · rw [if_pos hv]; omega
    · rw [if_neg hv]; exact Nat.min_le_right _ _
theorem clip_eq (v : Int) (n d : Nat) : (if v < 0 then max (v + (n : Int)) 0 else min v (n : Int)) = ((sIx n d (some v) : Nat) : Int) := by
  show (if v < 0 then max (v + (n : Int)) 0 else min v (n : Int)) = (((if v < 0 then (v + (n : Int)).toNat else min v.toNat n) : Nat) : Int)
  by_cases hv : v < 0
  · simp only [if_pos hv]; omega
  · simp only [if_neg hv]; omega
theorem adjust_gen (lo hi : Option Int) (n : Nat) : Builtin.Slice.sliceAdjust lo hi 1 (n : Int) = (((sIx n 0 lo : Nat) : Int), ((sIx n n hi : Nat) : Int)) := by
  have h1 : ¬ ((1 : Int) < 0) := by omega
  unfold Builtin.Slice.sliceAdjust
  simp only [h1, if_false]
  refine Prod.ext ?_ ?_
  · cases lo with
    | none => rfl
    | some v => exact clip_eq v n 0
  · cases hi with
    | none => rfl
    | some v => exact clip_eq v n n
theorem places_gen (i j : Nat) : Builtin.Slice.slicePlaces (i : Int) (j : Int) 1 = j - i := by
  unfold Builtin.Slice.slicePlaces
  have h1 : (1 : Int) > 0 := by omega
  simp only [h1, if_true, Int.ediv_one]
  split <;> omega
theorem slicePart_ {v : Value} {o : Option Int} {Q : Option Int → Shared → Prop} (p : IsPart v o) (h : Q o s) : wpAny (model prog w) A (Builtin.Slice.slicePartIndex v) Q E s := by
  cases p with
  | none => exact slicePart_none h
  | int i t => exact slicePart_int h
theorem sliceApplied_gen {sl : Addr} {vl vu : Value} {lo hi : Option Int} {n : Nat} {Q : Int × Int × Nat → Shared → Prop} (hs : s.heap.IsSliceOf sl vl vu .none) (pl : IsPart vl lo) (pu : IsPart vu hi)
    (h : Q (((sIx n 0 lo : Nat) : Int), 1, sIx n n hi - sIx n 0 lo) s) : wpAny (model prog w) A (Builtin.Slice.sliceApplied (.ref sl) (pure (n : Int))) Q E s := by
  obtain ⟨os, hos, hcs, hds⟩ := id hs
  unfold Builtin.Slice.sliceApplied Builtin.Slice.sliceFields
  refine wpAny_bind (wpAny_bind (wpAny_field hos hds (x := vl) rfl (wpAny_bind (wpAny_field hos hds (x := vu) rfl (wpAny_bind (wpAny_field hos hds (x := .none) rfl (wpAny_pure ?_)))))))
  refine wpAny_bind (slicePart_none ?_)
  show wpAny _ _ (if ((1 : Int) == 0) = true then _ else _) _ _ s
  rw [if_neg (by decide)]
  refine wpAny_bind (slicePart_ pl (wpAny_bind (slicePart_ pu (wpAny_bind (wpAny_pure ?_)))))
  show wpAny _ _ (match Builtin.Slice.sliceAdjust lo hi 1 (n : Int) with | (lo, hi) => pure (lo, (1 : Int), Builtin.Slice.slicePlaces lo hi 1)) _ _ s
  rw [adjust_gen lo hi n]
  show wpAny _ _ (pure (((sIx n 0 lo : Nat) : Int), (1 : Int), Builtin.Slice.slicePlaces ((sIx n 0 lo : Nat) : Int) ((sIx n n hi : Nat) : Int) 1)) _ _ s
  rw [places_gen]
  exact wpAny_pure h
theorem pick_gen (xs : Array Value) (i k : Nat) : ((List.range k).filterMap fun (m : Nat) => xs[((i : Int) + (m : Int) * 1).toNat]?).toArray = ((xs.toList.drop i).take k).toArray := by
  have e : (fun (m : Nat) => xs[((i : Int) + (m : Int) * 1).toNat]?) = fun m => xs[i + m]? := by
    funext m
    have : ((i : Int) + (m : Int) * 1).toNat = i + m := by omega
    rw [this]
  rw [e]
  have := pick_run xs i k
  rw [List.filterMap_map] at this
  have e2 : ((fun x => xs[x]?) ∘ fun x => i + x) = fun m => xs[i + m]? := rfl
  rw [e2] at this
  rw [this]

theorem getItem_tuple_cut {t sl : Addr} {items : Array Value} {vl vu : Value} {lo hi : Option Int} {Q : Value → Shared → Prop} (ht : IsTup s.heap t items) (hs : s.heap.IsSliceOf sl vl vu .none) (pl : IsPart vl lo) (pu : IsPart vu hi)
    (hw : ¬ (sIx items.size 0 lo = 0 ∧ sIx items.size items.size hi = items.size))
    (h : Q (.ref s.heap.objs.size) { s with heap := s.heap.push { cls := .type "tuple", data := .seq ((items.toList.drop (sIx items.size 0 lo)).take (sIx items.size items.size hi - sIx items.size 0 lo)).toArray } })
    (hsz : items.size ≤ sizeLine) : wpAny (model prog w) A (getItem (.ref t) (.ref sl)) Q E s := by
  have htake : sizeOk (.seq ((items.toList.drop (sIx items.size 0 lo)).take (sIx items.size items.size hi - sIx items.size 0 lo)).toArray) := by
    show ((items.toList.drop (sIx items.size 0 lo)).take (sIx items.size items.size hi - sIx items.size 0 lo)).toArray.size ≤ sizeLine
    rw [List.size_toArray, List.length_take, List.length_drop, Array.length_toList]
    omega
  have hj : sIx items.size items.size hi ≤ items.size := sIx_le _ _ (Nat.le_refl _) hi
  obtain ⟨os, hos, hcs, hds⟩ := id hs
  have hTs : s.TypeIs (.ref sl) "slice" := ⟨os, hos, hcs⟩
  unfold getItem
  try with_reducible refine wpAny_holding ?_
  first | refine wpAny_bind (wpAny_pure ?_) | skip
  refine wpAny_bind (wpAny_sequenceKey ht.typeIs (by decide) ?_)
  refine wpAny_bind (wpAny_callSpecial?_slot (name := Str.ofString "__getitem__") ht.typeIs PyProof.Rows.slot_tuple_getitem
    (wpAny_call_entry PyProof.Rows.slot_tuple_getitem ht.typeIs entry_tuple_getitem ?_ (args_tuple_getitem _ _)))
  show wpAny _ _ (Builtin.Tuple.tupleItemsOf (.ref t) >>= _) _ _ s
  refine wpAny_bind (tupleItemsOf_ ht ?_)
  refine wpAny_bind (wpAny_typeOf hTs ?_)
  rw [if_pos (by decide)]
  refine wpAny_bind (sliceApplied_gen hs pl pu ?_)
  have hno : ¬ ((((sIx items.size 0 lo : Nat) : Int) == 0 && (1 : Int) == 1 && (sIx items.size items.size hi - sIx items.size 0 lo) == items.size) = true) := by
    intro q
    rw [Bool.and_eq_true, Bool.and_eq_true] at q
    have q1 : ((sIx items.size 0 lo : Nat) : Int) = 0 := eq_of_beq q.1.1
    have q2 : sIx items.size items.size hi - sIx items.size 0 lo = items.size := eq_of_beq q.2
    exact hw ⟨by omega, by omega⟩
  show wpAny _ _ (if (((sIx items.size 0 lo : Nat) : Int) == 0 && (1 : Int) == 1 && (sIx items.size items.size hi - sIx items.size 0 lo) == items.size) = true then _ else _) _ _ s
  rw [if_neg hno, pick_gen]
  first
    | exact wpAny_bind (m := Builtin.Tuple.tupleExact _) (wpAny_newObj_type (wpAny_pure ⟨_, rfl, wpAny_pure h⟩) htake)
    | exact wpAny_bind (m := Builtin.Tuple.tupleExact _) (wpAny_newObj_type (wpAny_bind (wpAny_pure (wpAny_pure ⟨_, rfl, wpAny_pure h⟩))) htake)
    | exact wpAny_bind (wpAny_bind (m := Builtin.Tuple.tupleExact _) (wpAny_newObj_type (wpAny_pure (wpAny_pure ⟨_, rfl, wpAny_pure h⟩)) htake))
    | exact wpAny_bind (wpAny_bind (m := Builtin.Tuple.tupleExact _) (wpAny_newObj_type (wpAny_pure ⟨_, rfl, wpAny_pure h⟩) htake))
end
end HT

namespace L2
open PySem PySem.Spec PyProof.Rows

/-! ### the parts of a slice -/
abbrev TO := St → Hp → (Option Int → Hp → Prop) → Prop
/-- a slice's part (left out, or an int) -/
def PO (X : Cx) (e : Option Expr) (t : TO) : Prop :=
  ∀ (pins : List (Addr × Obj)) (s : Shared) (σ : St) (H : Hp) (Q : Option Int → Hp → Prop), Inv X pins σ H s → t σ H Q →
    wpAny (model X.prog X.w) X.A (evalPart e X.env) (fun u s' => ∃ o H', Inv X pins σ H' s' ∧ IsPart u o ∧ Q o H') X.xe s
def tNoPart : TO := fun _ H Q => Q none H
def tPart (t : TE) : TO := fun σ H Q => t σ H fun x H1 => ∃ i, x = .int i ∧ Q (some i) H1

theorem intsAre_of {ns : List Int} : ∀ {us : List Value}, Vals (ns.map V.int) us → IntsAre us ns := by
  induction ns with
  | nil => intro us r; rw [List.map_nil] at r; cases r; exact .nil
  | cons n ns ih =>
    intro us r
    rw [List.map_cons] at r
    cases r with
    | cons r1 r2 =>
      obtain ⟨t, e⟩ := r1
      subst e
      exact .cons n t (ih r2)

section
variable {X : Cx} {e : Expr} {te : TE} {lo hi : Option Expr} {tl th : TO} {pos p2 : Pos}

theorem po_none : PO X none tNoPart := by
  intro pins s σ H Q I h
  rw [evalPart_none]
  exact wpAny_pure ⟨none, H, I, .none, h⟩
theorem po_some (h : PE X e te) : PO X (some e) (tPart te) := by
  intro pins s σ H Q I hw
  rw [evalPart_some]
  refine thn (h pins s σ H _ I hw) fun u s1 ⟨x, H1, I1, r1, q1⟩ => ?_
  obtain ⟨i, rfl, q⟩ := q1
  obtain ⟨t, rfl⟩ := r1
  exact ⟨some i, H1, I1, .int i t, q⟩

/-- what a slice of a value is, by values: the slice object stands at sl -/
def SlR (X : Cx) (r : V → Option Int → Option Int → Hp → VK → Prop) : Prop :=
  ∀ (pins : List (Addr × Obj)) (s : Shared) (σ : St) (H : Hp) (x : V) (v vl vu : Value) (lo hi : Option Int) (sl : Addr) (Q : VK), Inv X pins σ H s → RelV x v → s.heap.IsSliceOf sl vl vu .none → IsPart vl lo → IsPart vu hi → r x lo hi H Q →
    ∃ T id, typeLookup (.type T) "__getitem__" = pure (some (.builtin id)) ∧ s.TypeIs v T ∧ wpAny (model X.prog X.w) X.A (getItem v (.ref sl)) (EP X pins σ Q) X.xe s
theorem SlR.or {r r' : V → Option Int → Option Int → Hp → VK → Prop} (h : SlR X r) (h' : SlR X r') : SlR X (fun x lo hi H Q => r x lo hi H Q ∨ r' x lo hi H Q) := by
  intro pins s σ H x v vl vu lo hi sl Q I rx hs pl pu q
  rcases q with q | q
  · exact h pins s σ H x v vl vu lo hi sl Q I rx hs pl pu q
  · exact h' pins s σ H x v vl vu lo hi sl Q I rx hs pl pu q
def tSl (r : V → Option Int → Option Int → Hp → VK → Prop) (te : TE) (tl th : TO) : TE := fun σ H Q => te σ H fun x H1 => tl σ H1 fun l H2 => th σ H2 fun u H3 => r x l u H3 Q
/-- a[lo:hi], any a -/
theorem pe_slice {r : V → Option Int → Option Int → Hp → VK → Prop} (hr : SlR X r) (he : PE X e te) (hl : PO X lo tl) (hu : PO X hi th) : PE X (.Subscript e (.Slice lo hi none p2) pos) (tSl r te tl th) := by
  intro pins s σ H Q I h
  refine Subscript_ (thn (he pins s σ H _ I h) fun v s1 ⟨x, H1, I1, r1, q1⟩ => ?_)
  refine wpAny_Slice (thn (hl pins s1 σ H1 _ I1 q1) fun vl s2 ⟨l, H2, I2, pl, q2⟩ => thn (hu pins s2 σ H2 _ I2 q2) fun vu s3 ⟨u, H3, I3, pu, q3⟩ => ?_)
  rw [evalPart_none]
  refine wpAny_pure ?_
  have I4 : Inv X pins σ H3 { s3 with heap := s3.heap.push { cls := .type "slice", data := .fields #[vl, vu, .none] } } := I3.kept (t' := s3.toks) fun b ob q => Heap.get?_push_of_some _ q
  obtain ⟨T, id, hT, ht, hg⟩ := hr pins { s3 with heap := s3.heap.push { cls := .type "slice", data := .fields #[vl, vu, .none] } } σ H3 x v vl vu l u s3.heap.objs.size Q I4 r1 (Heap.IsSliceOf.new ..) pl pu q3
  show wpAny (model X.prog X.w) X.A (subscriptTail e (.Slice lo hi none p2) v (.ref s3.heap.objs.size)) (EP X pins σ Q) X.xe { s3 with heap := s3.heap.push { cls := .type "slice", data := .fields #[vl, vu, .none] } }
  exact tail_any (ops := [.ref s3.heap.objs.size, v]) ht hT hg (by with_unfolding_all rfl)

/-- the items of xs[lo:hi] -/
def cutV (xs : List V) (lo hi : Option Int) : List V := (xs.drop (HT.sIx xs.length 0 lo)).take (HT.sIx xs.length xs.length hi - HT.sIx xs.length 0 lo)
theorem cutV_length (xs : List V) (lo hi : Option Int) : (cutV xs lo hi).length ≤ xs.length := by
  unfold cutV
  rw [List.length_take, List.length_drop]
  omega
/-- t[lo:hi], not the whole of it (the whole would be t itself) -/
def rSlT (K : PySem.W.Frag) : V → Option Int → Option Int → Hp → VK → Prop := fun x lo hi H Q => ∃ a xs, x = .ref a ∧ SqT K H a xs ∧
  ¬ (HT.sIx xs.length 0 lo = 0 ∧ HT.sIx xs.length xs.length hi = xs.length) ∧ ∀ p, H p = none → Q (.ref p) (upd H p (.tup (cutV xs lo hi)))
theorem sl_tup : SlR X (rSlT X.K) := by
  intro pins s σ H x v vl vu lo hi sl Q I rx hs pl pu h
  obtain ⟨a, xs, rfl, hx, hw, q⟩ := h
  cases rx
  obtain ⟨its, r, ht, hz⟩ := I.tuple hx
  have hlen : its.toArray.size = xs.length := by rw [List.size_toArray]; exact r.length.symm
  refine ⟨"tuple", _, PyProof.Rows.slot_tuple_getitem.lookup, ht.typeIs, ?_⟩
  refine HT.getItem_tuple_cut ht hs pl pu (by rw [hlen]; exact hw) ?_ (by rw [hlen]; exact hz)
  rw [hlen]
  refine ⟨.ref s.heap.objs.size, _, I.laid (t' := s.toks) (o := .tup (cutV xs lo hi)) (fun b ob q => Heap.get?_push_of_some _ q) (Nat.le_refl _) ?_, rfl, q _ (I.hok.fresh (Nat.le_refl _))⟩
  exact ⟨Nat.le_trans (cutV_length xs lo hi) hz, _, (r.drop (HT.sIx xs.length 0 lo)).take (HT.sIx xs.length xs.length hi - HT.sIx xs.length 0 lo), IsTup.new _ _⟩

/-! ### t < u, t + u -/
def rLtT (K : PySem.W.Frag) : R2 := fun x y H Q => ∃ a b ns ms, x = .ref a ∧ y = .ref b ∧ SqT K H a (ns.map V.int) ∧ SqT K H b (ms.map V.int) ∧ Q (.bl (HT.lexLt ns ms)) H
theorem op_ltT (hu : X.A.units < cLine) : OpR X (compareOp .Lt) (rLtT X.K) := by
  intro pins s σ H x y v u Q I rx ry h
  obtain ⟨a, b, ns, ms, rfl, rfl, ha, hb, q⟩ := h
  cases rx
  cases ry
  obtain ⟨its, r1, p1, _⟩ := I.tuple ha
  obtain ⟨its2, r2, p2, _⟩ := I.tuple hb
  have i1 : IntsAre its.toArray.toList ns := intsAre_of r1
  have i2 : IntsAre its2.toArray.toList ms := intsAre_of r2
  exact HT.lt_tupInts p1 p2 i1 i2 hu ⟨.bl (HT.lexLt ns ms), H, I, rfl, q⟩
/-- t + u, t not empty: u empty gives t itself -/
def rCatT (K : PySem.W.Frag) : R2 := fun x y H Q => ∃ a b xs ys, x = .ref a ∧ y = .ref b ∧ SqT K H a xs ∧ SqT K H b ys ∧ xs ≠ [] ∧ xs.length + ys.length ≤ sizeLine ∧
  (ys = [] → Q (.ref a) H) ∧ (ys ≠ [] → ∀ p, H p = none → Q (.ref p) (upd H p (.tup (xs ++ ys))))
theorem Vals.nil_iff {xs : List V} {us : List Value} (r : Vals xs us) : us = [] ↔ xs = [] := by
  cases r with
  | nil => simp
  | cons _ _ => simp
theorem op_catT : OpR X (binaryOp .Add) (rCatT X.K) := by
  intro pins s σ H x y v u Q I rx ry h
  obtain ⟨a, b, xs, ys, rfl, rfl, ha, hb, hx, hz, q1, q2⟩ := h
  cases rx
  cases ry
  obtain ⟨its, r1, p1, _⟩ := I.tuple ha
  obtain ⟨its2, r2, p2, _⟩ := I.tuple hb
  refine HT.cat_tup p1 p2 (fun z => hx (r1.nil_iff.mp z)) (fun z => ⟨.ref a, H, I, rfl, q1 (r2.nil_iff.mp z)⟩) (fun z => ?_) (by rw [← r1.length, ← r2.length]; exact hz)
  refine ⟨.ref s.heap.objs.size, _, I.laid (t' := s.toks) (o := .tup (xs ++ ys)) (fun b ob q => Heap.get?_push_of_some _ q) (Nat.le_refl _) ?_, rfl, q2 (fun w => z (r2.nil_iff.mpr w)) _ (I.hok.fresh (Nat.le_refl _))⟩
  exact ⟨by rw [List.length_append]; exact hz, _, r1.append r2, IsTup.new _ _⟩
/-- tuple(t) -/
theorem call_tupleT : CallR X (.type "tuple") (fun xs H Q => ∃ a ys, xs = [.ref a] ∧ SqT X.K H a ys ∧ Q (.ref a) H) := by
  intro pins s σ H xs us Q I r h
  obtain ⟨a, ys, rfl, ha, q⟩ := h
  obtain ⟨u, rfl, ru⟩ := vals1 r
  cases ru
  obtain ⟨its, _, p1, _⟩ := I.tuple ha
  exact call_tuple_same (items := its.toArray) p1 ⟨.ref a, H, I, rfl, q⟩
end
end L2

namespace L2
open PySem PySem.Spec PyProof.Rows

/-! ### places -/
/-- the place that an index of any sign means -/
def ixN (n : Nat) (i : Int) : Option Nat := if 0 ≤ i then (if i < n then some i.toNat else none) else if -(n : Int) ≤ i then some (i + n).toNat else none
def atI {α : Type} (xs : List α) (i : Int) : Option α := (ixN xs.length i).bind fun j => xs[j]?
theorem ixN_seq {n : Nat} {i : Int} {j : Nat} (h : ixN n i = some j) : seqIndex? i n = some j ∧ j < n ∧ -(n : Int) ≤ i ∧ i < n := by
  unfold ixN at h
  by_cases h0 : 0 ≤ i
  · rw [if_pos h0] at h
    by_cases h1 : i < n
    · rw [if_pos h1] at h
      have e : i.toNat = j := Option.some.inj h
      exact ⟨by rw [seqIndex_of h0 h1, e], by omega, by omega, h1⟩
    · rw [if_neg h1] at h; cases h
  · rw [if_neg h0] at h
    by_cases h1 : -(n : Int) ≤ i
    · rw [if_pos h1] at h
      have e : (i + n).toNat = j := Option.some.inj h
      exact ⟨by rw [seqIndex_neg (by omega) h1, e], by omega, h1, by omega⟩
    · rw [if_neg h1] at h; cases h
theorem atI_get {α : Type} {xs : List α} {i : Int} {v : α} (h : atI xs i = some v) : ∃ j, seqIndex? i xs.length = some j ∧ xs[j]? = some v ∧ j < xs.length ∧ -(xs.length : Int) ≤ i ∧ i < xs.length := by
  unfold atI at h
  cases e : ixN xs.length i with
  | none => rw [e] at h; cases h
  | some j =>
    rw [e] at h
    obtain ⟨h1, h2, h3, h4⟩ := ixN_seq e
    exact ⟨j, h1, h, h2, h3, h4⟩
theorem atI_nat {α : Type} {xs : List α} {j : Nat} {v : α} (h : xs[j]? = some v) : atI xs (j : Int) = some v := by
  have hj : j < xs.length := (List.getElem?_eq_some_iff.mp h).1
  have e : ixN xs.length (j : Int) = some j := by
    unfold ixN
    rw [if_pos (by omega), if_pos (by omega)]; simp
  unfold atI; rw [e]; exact h
theorem atI_last {α : Type} (xs : List α) (v : α) : atI (xs ++ [v]) (-1) = some v := by
  have hl : (xs ++ [v]).length = xs.length + 1 := by simp
  have e : ixN (xs ++ [v]).length (-1) = some xs.length := by
    unfold ixN
    rw [hl, if_neg (by decide), if_pos (by omega)]
    congr 1
    omega
  unfold atI
  rw [e]
  show (xs ++ [v])[xs.length]? = some v
  simp

/-! ### what may be subscripted -/
/-- what stands as an index of a plain subscript -/
def PlainIx (b : Expr) : Prop := ∀ o i, subscripted b false o i = operate [o, i] (getItem o i)
/-- a subscript by values -/
def IxR (X : Cx) (r : R2) : Prop :=
  ∀ (value slice : Expr) (pins : List (Addr × Obj)) (s : Shared) (σ : St) (H : Hp) (x y : V) (v u : Value) (Q : VK), Inv X pins σ H s → RelV x v → RelV y u → r x y H Q →
    subscripted slice false v u = operate [v, u] (getItem v u) → wpAny (model X.prog X.w) X.A (subscriptTail value slice v u) (EP X pins σ Q) X.xe s
/-- a call of a builtin's method by values: the receiver, the arguments -/
def MtR (X : Cx) (id : String) (r : V → List V → Hp → VK → Prop) : Prop :=
  ∀ (pins : List (Addr × Obj)) (s : Shared) (σ : St) (H : Hp) (x : V) (xs : List V) (v : Value) (us : List Value) (Q : VK), Inv X pins σ H s → RelV x v → Vals xs us → r x xs H Q →
    wpAny (model X.prog X.w) X.A (call (.builtin id) (v :: us)) (EP X pins σ Q) X.xe s
section
variable {X : Cx} {a b : Expr} {ta tb : TE} {pos : Pos}
theorem IxR.or {r r' : R2} (h : IxR X r) (h' : IxR X r') : IxR X (fun x y H Q => r x y H Q ∨ r' x y H Q) := by
  intro value slice pins s σ H x y v u Q I rx ry q hs
  rcases q with q | q
  · exact h value slice pins s σ H x y v u Q I rx ry q hs
  · exact h' value slice pins s σ H x y v u Q I rx ry q hs
theorem MtR.or {id : String} {r r' : V → List V → Hp → VK → Prop} (h : MtR X id r) (h' : MtR X id r') : MtR X id (fun x xs H Q => r x xs H Q ∨ r' x xs H Q) := by
  intro pins s σ H x xs v us Q I rx rs q
  rcases q with q | q
  · exact h pins s σ H x xs v us Q I rx rs q
  · exact h' pins s σ H x xs v us Q I rx rs q
/-- a[b] -/
theorem pe_ix {r : R2} (hr : IxR X r) (ha : PE X a ta) (hb : PE X b tb) (hs : PlainIx b) : PE X (.Subscript a b pos) (tOp r ta tb) := by
  intro pins s σ H Q I h
  exact Subscript_ (binT ha hb I h fun v u s2 x y H2 I2 rx ry q => hr a b pins s2 σ H2 x y v u Q I2 rx ry q (hs _ _))

def rIxL (K : PySem.W.Frag) : R2 := fun x y H Q => ∃ p xs i v, x = .ref p ∧ y = .int i ∧ SqL K H p xs ∧ atI xs i = some v ∧ Q v H
def rIxT (K : PySem.W.Frag) : R2 := fun x y H Q => ∃ p xs i v, x = .ref p ∧ y = .int i ∧ SqT K H p xs ∧ atI xs i = some v ∧ Q v H
def rIxS : R2 := fun x y H Q => ∃ z i c, x = .str z ∧ y = .int i ∧ z.length ≤ sizeLine ∧ atI z.cps.toList i = some c ∧ Q (.str ⟨#[c]⟩) H
theorem ix_list : IxR X (rIxL X.K) := by
  intro value slice pins s σ H x y v u Q I rx ry h hs
  obtain ⟨p, xs, i, z, rfl, rfl, hq, he, q⟩ := h
  cases rx
  obtain ⟨t, rfl⟩ := ry
  obtain ⟨its, r, pl, hz⟩ := I.list hq
  obtain ⟨j, h1, h2, h3, h4, h5⟩ := atI_get he
  obtain ⟨w, ew, rw'⟩ := r.get h2
  have hl := r.length
  have hn := line63
  have fin : EP X pins σ Q w s := ⟨z, H, I, rw', q⟩
  by_cases h0 : 0 ≤ i
  · have hj : i.toNat = j := by
      rw [seqIndex_of h0 h5] at h1
      exact Option.some.inj h1
    exact item_listR pl.isList h0 (by omega) (by rw [hj]; simpa using ew) fin hs
  · have hj : (i + (its.toArray.size : Int)).toNat = j := by
      rw [seqIndex_neg (by omega) h4] at h1
      rw [List.size_toArray, ← hl]
      exact Option.some.inj h1
    exact subscriptTail_builtinR (x := w) pl.isList.typeIs slot_list_getitem.lookup
      (wpAny_getItem_list_neg (Q := fun r s' => r = w ∧ EP X pins σ Q r s') pl.isList (by omega) (by rw [List.size_toArray] <;> omega) (by omega) (by rw [hj]; simpa using ew) ⟨rfl, fin⟩) hs
theorem ix_tup : IxR X (rIxT X.K) := by
  intro value slice pins s σ H x y v u Q I rx ry h hs
  obtain ⟨p, xs, i, z, rfl, rfl, hq, he, q⟩ := h
  cases rx
  obtain ⟨t, rfl⟩ := ry
  obtain ⟨its, r, pl, hz⟩ := I.tuple hq
  obtain ⟨j, h1, h2, h3, h4, h5⟩ := atI_get he
  obtain ⟨w, ew, rw'⟩ := r.get h2
  have hl := r.length
  have hn := line63
  have fin : EP X pins σ Q w s := ⟨z, H, I, rw', q⟩
  exact subscriptTail_builtinR (x := w) pl.typeIs slot_tuple_getitem.lookup
    (getItem_tuple (j := j) (Q := fun r s' => r = w ∧ EP X pins σ Q r s') pl (by omega) (by omega) (by rw [List.size_toArray, ← hl]; exact h1) (by simpa using ew) ⟨rfl, fin⟩) hs
theorem ix_str : IxR X rIxS := by
  intro value slice pins s σ H x y v u Q I rx ry h hs
  obtain ⟨z, i, c, rfl, rfl, hz, he, q⟩ := h
  obtain ⟨t, rfl⟩ := rx
  obtain ⟨t', rfl⟩ := ry
  obtain ⟨j, h1, h2, h3, h4, h5⟩ := atI_get he
  have hl : z.cps.toList.length = z.length := by simp [Str.length]
  rw [hl] at h1 h4 h5
  have hn := line63
  exact tail_any (typeIs_str s z t) slot_str_getitem.lookup (getItem_str (c := c) (by
    have e1 : decide (i < -(2 ^ 63 : Int)) = false := decide_eq_false (by omega)
    have e2 : decide (i ≥ 2 ^ 63) = false := decide_eq_false (by omega)
    rw [e1, e2, Bool.or_false]) (by rw [h1]; simpa using h2) ⟨.str ⟨#[c]⟩, H, I.tok _, ⟨_, rfl⟩, q⟩) hs
/-- list, tuple or str -/
def rIx (K : PySem.W.Frag) : R2 := fun x y H Q => rIxL K x y H Q ∨ rIxT K x y H Q ∨ rIxS x y H Q
theorem ix_seq : IxR X (rIx X.K) := ix_list.or (ix_tup.or ix_str)

/-! ### xs[i] = v, any sign -/
/-- the list's object behind a store -/
theorem mapSeq_set (its : List Value) (n j : Nat) (u : Value) : Obj.mapSeq (·.setIfInBounds j u) { cls := .type "list", data := .seq its.toArray n } = { cls := .type "list", data := .seq (its.set j u).toArray n } := by
  simp [Obj.mapSeq]
theorem Inv.lst {pins : List (Addr × Obj)} {σ : St} {H : Hp} {s : Shared} {p : Addr} {xs : List V} (I : Inv X pins σ H s) (h : H p = some (.lst xs)) :
    ∃ (its : List Value) (n : Nat), Vals xs its ∧ s.heap.get? p = some { cls := .type "list", data := .seq its.toArray n } ∧ xs.length ≤ sizeLine := by
  obtain ⟨z, its, n, r, e⟩ := I.hok p _ h
  exact ⟨its, n, r, e, z⟩
/-- the list at p is written by an update of its object -/
theorem Inv.lstUpd {pins : List (Addr × Obj)} {σ : St} {H : Hp} {s : Shared} {p : Addr} {xs ys : List V} {its its' : List Value} {n n' : Nat} {f : Obj → Obj} (I : Inv X pins σ H s) (h : H p = some (.lst xs))
    (ho : s.heap.get? p = some { cls := .type "list", data := .seq its.toArray n }) (hf : f { cls := .type "list", data := .seq its.toArray n } = { cls := .type "list", data := .seq its'.toArray n' }) (r : Vals ys its') (hz : ys.length ≤ sizeLine) (t : Nat) :
    Inv X pins σ (upd H p (.lst ys)) { s with heap := s.heap.update p f, toks := t } := by
  have e : (s.heap.update p f).get? p = some { cls := .type "list", data := .seq its'.toArray n' } := by
    rw [Heap.get?_update_self f ho (by rw [hf] <;> rfl), hf]
  refine I.write (x := p) (e := p) (by rw [h]; trivial) (.inl rfl) (fun b u hb q => (Heap.get?_update_other _ _ (Ne.symm hb)).trans q) ⟨_, e⟩ ?_
  exact ⟨hz, its', n', r, e⟩
def rSetL : V → V → V → Hp → (Hp → Prop) → Prop := fun o i v H Q => ∃ p xs k j, o = .ref p ∧ i = .int k ∧ H p = some (.lst xs) ∧ ixN xs.length k = some j ∧ Q (upd H p (.lst (xs.set j v)))
theorem set_list : PSet X rSetL := by
  intro pins s σ H o i v ov iv u Q I ro ri rv h
  obtain ⟨p, xs, k, j, rfl, rfl, hp, hj, q⟩ := h
  cases ro
  obtain ⟨t, rfl⟩ := ri
  obtain ⟨its, n, r, ho, hz⟩ := I.lst hp
  obtain ⟨h1, h2, h3, h4⟩ := ixN_seq hj
  have hl := r.length
  have hn := line63
  have I' : Inv X pins σ (upd H p (.lst (xs.set j v))) { s with heap := s.heap.update p (Obj.mapSeq (·.setIfInBounds j u)) } :=
    I.lstUpd hp ho (mapSeq_set its n j u) (r.set rv j) (by rw [List.length_set]; exact hz) s.toks
  by_cases h0 : 0 ≤ k
  · have hk : k.toNat = j := by
      rw [seqIndex_of h0 h4] at h1
      exact Option.some.inj h1
    exact PySem.W.ki_setAt ho h0 (by omega) (by rw [List.size_toArray, ← hl]; exact h4) (by rw [hk]; exact ⟨_, I', q⟩)
  · have hk : (k + (its.toArray.size : Int)).toNat = j := by
      rw [seqIndex_neg (by omega) h3] at h1
      rw [List.size_toArray, ← hl]
      exact Option.some.inj h1
    exact PySem.W.ki_setBack ho (by omega) (by rw [List.size_toArray, ← hl]; exact h3) (by omega) (by rw [hk]; exact ⟨_, I', q⟩)

/-! ### slices -/
theorem slice_bounds (lo hi : Option Int) (n : Nat) : (sliceBounds lo hi none n).1 = ((HT.sIx n 0 lo : Nat) : Int) ∧ (sliceBounds lo hi none n).2.1 = ((HT.sIx n n hi : Nat) : Int) ∧ (sliceBounds lo hi none n).2.2 = 1 := by
  refine ⟨?_, ?_, rfl⟩
  · cases lo with
    | none => simp [sliceBounds, HT.sIx]
    | some i =>
      simp only [sliceBounds, HT.sIx, Option.getD_none, show (1 : Int) > 0 by decide, if_true]
      by_cases h : i < 0
      · simp only [h, if_true] <;> omega
      · simp only [h, if_false] <;> omega
  · cases hi with
    | none => simp [sliceBounds, HT.sIx]
    | some i =>
      simp only [sliceBounds, HT.sIx, Option.getD_none, show (1 : Int) > 0 by decide, if_true]
      by_cases h : i < 0
      · simp only [h, if_true] <;> omega
      · simp only [h, if_false] <;> omega
theorem slicePick_cut (its : List Value) (lo hi : Option Int) : slicePick its.toArray lo hi none = ((its.drop (HT.sIx its.length 0 lo)).take (HT.sIx its.length its.length hi - HT.sIx its.length 0 lo)).toArray := by
  obtain ⟨h1, h2, h3⟩ := slice_bounds lo hi its.toArray.size
  unfold slicePick
  rw [h1, h2, h3]
  simp only [sliceRange_one, pick_run, List.size_toArray] <;> rfl
/-- xs[lo:hi] of a list: a new list -/
def rSlL (K : PySem.W.Frag) : V → Option Int → Option Int → Hp → VK → Prop := fun x lo hi H Q => ∃ a xs, x = .ref a ∧ SqL K H a xs ∧ ∀ p, H p = none → Q (.ref p) (upd H p (.lst (cutV xs lo hi)))
theorem sl_list : SlR X (rSlL X.K) := by
  intro pins s σ H x v vl vu lo hi sl Q I rx hs pl pu h
  obtain ⟨a, xs, rfl, hx, q⟩ := h
  cases rx
  obtain ⟨its, r, ht, hz⟩ := I.list hx
  have hlen := r.length
  refine ⟨"list", _, slot_list_getitem.lookup, ht.isList.typeIs, ?_⟩
  refine wpAny_getItem_list_slice ht.isList hs pl pu .none (by simp) ?_ (by rw [List.size_toArray] <;> omega)
  rw [slicePick_cut, ← hlen]
  refine ⟨.ref s.heap.objs.size, _, I.laid (t' := s.toks) (o := .lst (cutV xs lo hi)) (fun b ob q => Heap.get?_push_of_some _ q) (Nat.le_refl _) ?_, rfl, q _ (I.hok.fresh (Nat.le_refl _))⟩
  exact ⟨Nat.le_trans (cutV_length xs lo hi) hz, _, 0, (r.drop (HT.sIx xs.length 0 lo)).take (HT.sIx xs.length xs.length hi - HT.sIx xs.length 0 lo), Heap.get?_push_size _ rfl⟩

/-! ### in, not in: flat items -/
def flatV : V → Bool
  | .non => true
  | .bl _ => true
  | .int _ => true
  | .str _ => true
  | _ => false
/-- == of flat values -/
def eqV : V → V → Bool
  | .non, .non => true
  | .bl a, .bl b => a == b
  | .bl a, .int b => (if a then 1 else 0) == b
  | .int a, .bl b => a == (if b then 1 else 0)
  | .int a, .int b => a == b
  | .str a, .str b => a == b
  | _, _ => false
theorem eqAt_V {A : Around} {s : Shared} {y x : V} {u v : Value} (ry : RelV y u) (rx : RelV x v) (fy : flatV y = true) (fx : flatV x = true) : SeqAt.EqAt A s u v (eqV y x) := by
  cases y with
  | non =>
    cases ry
    cases x with
    | non => cases rx; exact SeqAt.EqAt.same _
    | bl b => cases rx; exact SeqAt.EqAt.none_bool b
    | int b => obtain ⟨t, rfl⟩ := rx; exact SeqAt.EqAt.none_int b t
    | str b => obtain ⟨t, rfl⟩ := rx; exact SeqAt.EqAt.none_str b t
    | _ => exact absurd (show false = true from fx) Bool.false_ne_true
  | bl a =>
    cases ry
    cases x with
    | non => cases rx; exact SeqAt.EqAt.bool_none a
    | bl b => cases rx; exact SeqAt.EqAt.bool_bool a b
    | int b => obtain ⟨t, rfl⟩ := rx; exact SeqAt.EqAt.bool_int a b t
    | str b => obtain ⟨t, rfl⟩ := rx; exact SeqAt.EqAt.bool_str a b t
    | _ => exact absurd (show false = true from fx) Bool.false_ne_true
  | int a =>
    obtain ⟨t', rfl⟩ := ry
    cases x with
    | non => cases rx; exact SeqAt.EqAt.int_none a t'
    | bl b => cases rx; exact SeqAt.EqAt.int_bool a t' b
    | int b => obtain ⟨t, rfl⟩ := rx; exact SeqAt.EqAt.int_int a t' b t
    | str b => obtain ⟨t, rfl⟩ := rx; exact SeqAt.EqAt.int_str a t' b t
    | _ => exact absurd (show false = true from fx) Bool.false_ne_true
  | str a =>
    obtain ⟨t', rfl⟩ := ry
    cases x with
    | non => cases rx; exact SeqAt.EqAt.str_none a t'
    | bl b => cases rx; exact SeqAt.EqAt.str_bool a t' b
    | int b => obtain ⟨t, rfl⟩ := rx; exact SeqAt.EqAt.str_int a t' b t
    | str b => obtain ⟨t, rfl⟩ := rx; exact SeqAt.EqAt.str_str a t' b t
    | _ => exact absurd (show false = true from fx) Bool.false_ne_true
  | _ => exact absurd (show false = true from fy) Bool.false_ne_true
/-- the items' answers, read off the values (a value's own answer does not lean on its token) -/
def eqU (x : V) (u : Value) : Bool := match u with
  | .none => eqV .non x
  | .bool b => eqV (.bl b) x
  | .int i _ => eqV (.int i) x
  | .str z _ => eqV (.str z) x
  | _ => false
theorem eqU_of {x y : V} {u : Value} (r : RelV y u) (f : flatV y = true) : eqU x u = eqV y x := by
  cases y with
  | non => cases r; rfl
  | bl b => cases r; rfl
  | int i => obtain ⟨t, rfl⟩ := r; rfl
  | str z => obtain ⟨t, rfl⟩ := r; rfl
  | _ => exact absurd (show false = true from f) Bool.false_ne_true
theorem any_eqU {x : V} : ∀ {xs : List V} {us : List Value}, Vals xs us → xs.all flatV = true → us.any (eqU x) = xs.any fun y => eqV y x
  | _, _, .nil, _ => rfl
  | y :: xs, u :: us, .cons r t, f => by
    rw [List.all_cons, Bool.and_eq_true] at f
    rw [List.any_cons, List.any_cons, eqU_of r f.1, any_eqU t f.2]
theorem mem_eqAt {A : Around} {s : Shared} {x : V} {v : Value} (rx : RelV x v) (fx : flatV x = true) : ∀ {xs : List V} {us : List Value}, Vals xs us → xs.all flatV = true → ∀ u ∈ us, SeqAt.EqAt A s u v (eqU x u)
  | _, _, .nil, _ => fun u hu => by cases hu
  | y :: xs, u :: us, .cons r t, f => fun u' hu => by
    rw [List.all_cons, Bool.and_eq_true] at f
    rcases List.mem_cons.mp hu with rfl | hu
    · rw [eqU_of r f.1]; exact eqAt_V r rx f.1 fx
    · exact mem_eqAt rx fx t f.2 u' hu
def inV (x : V) (xs : List V) : Bool := xs.any fun y => eqV y x
/-- x in a list or tuple of flat items -/
def rIn (K : PySem.W.Frag) (neg : Bool) : R2 := fun x y H Q => ∃ p xs, y = .ref p ∧ (SqL K H p xs ∨ SqT K H p xs) ∧ flatV x = true ∧ xs.all flatV = true ∧ Q (.bl (if neg then !inV x xs else inV x xs)) H
theorem op_in_seq : OpR X (compareOp .In) (rIn X.K false) := by
  intro pins s σ H x y v u Q I rx ry h
  obtain ⟨p, xs, rfl, hq, fx, fs, q⟩ := h
  cases ry
  rcases hq with hq | hq
  · obtain ⟨its, r, pl, hz⟩ := I.list hq
    refine SeqAt.in_listAt (eqU x) pl.isList (fun w hw => mem_eqAt rx fx r fs w (by simpa using hw)) ⟨.bl _, H, I, rfl, ?_⟩
    rw [show its.toArray.any (eqU x) = its.any (eqU x) by simp, any_eqU r fs]
    exact q
  · obtain ⟨its, r, pl, hz⟩ := I.tuple hq
    refine SeqAt.in_tupleAt (eqU x) pl (fun w hw => mem_eqAt rx fx r fs w (by simpa using hw)) ⟨.bl _, H, I, rfl, ?_⟩
    rw [show its.toArray.any (eqU x) = its.any (eqU x) by simp, any_eqU r fs]
    exact q
theorem op_notIn_seq : OpR X (compareOp .NotIn) (rIn X.K true) := by
  intro pins s σ H x y v u Q I rx ry h
  obtain ⟨p, xs, rfl, hq, fx, fs, q⟩ := h
  cases ry
  rcases hq with hq | hq
  · obtain ⟨its, r, pl, hz⟩ := I.list hq
    refine SeqAt.notIn_listAt (eqU x) pl.isList (fun w hw => mem_eqAt rx fx r fs w (by simpa using hw)) ⟨.bl _, H, I, rfl, ?_⟩
    rw [show its.toArray.any (eqU x) = its.any (eqU x) by simp, any_eqU r fs]
    exact q
  · obtain ⟨its, r, pl, hz⟩ := I.tuple hq
    refine SeqAt.notIn_tupleAt (eqU x) pl (fun w hw => mem_eqAt rx fx r fs w (by simpa using hw)) ⟨.bl _, H, I, rfl, ?_⟩
    rw [show its.toArray.any (eqU x) = its.any (eqU x) by simp, any_eqU r fs]
    exact q
theorem op_notIn_str : OpR X (compareOp .NotIn) (fun x y H Q => ∃ i j, x = .str i ∧ y = .str j ∧ Q (.bl (!(!(Builtin.Str.occurrences j i 0 j.length 1).isEmpty))) H) := by
  intro pins s σ H x y v u Q I rx ry h
  obtain ⟨i, j, rfl, rfl, q⟩ := h
  obtain ⟨t, rfl⟩ := rx
  obtain ⟨t', rfl⟩ := ry
  exact notIn_str ⟨.bl _, H, I, rfl, q⟩

/-! ### len, list(x), tuple(x) of any list or tuple that is read -/
theorem call_len_seq : CallR X (.builtin "len") (fun xs H Q => ∃ p ys, xs = [.ref p] ∧ (SqL X.K H p ys ∨ SqT X.K H p ys) ∧ Q (.int ys.length) H) := by
  intro pins s σ H xs us Q I r h
  obtain ⟨p, ys, rfl, hq, q⟩ := h
  obtain ⟨u, rfl, rx⟩ := vals1 r
  cases rx
  have hn := line63
  rcases hq with hq | hq
  · obtain ⟨its, r', pl, hz⟩ := I.list hq
    have hlen := r'.length
    exact Calls.call_len_list pl.isList (by simp only [List.size_toArray] <;> omega) ⟨.int ys.length, H, I.tok _, ⟨s.toks + 1, by rw [List.size_toArray, hlen]⟩, q⟩
  · obtain ⟨its, r', pl, hz⟩ := I.tuple hq
    have hlen := r'.length
    exact len_tuple pl (by simp only [List.size_toArray] <;> omega) ⟨.int ys.length, H, I.tok _, ⟨s.toks + 1, by rw [List.size_toArray, hlen]⟩, q⟩
theorem call_len_str : CallR X (.builtin "len") (fun xs H Q => ∃ z, xs = [.str z] ∧ z.length ≤ sizeLine ∧ Q (.int z.length) H) := by
  intro pins s σ H xs us Q I r h
  obtain ⟨z, rfl, hz, q⟩ := h
  obtain ⟨u, rfl, t, rfl⟩ := vals1 r
  have hn := line63
  exact len_str (by omega) ⟨.int z.length, H, I.tok _, ⟨_, rfl⟩, q⟩
theorem CallR.or {f : Value} {r r' : List V → Hp → VK → Prop} (h : CallR X f r) (h' : CallR X f r') : CallR X f (fun xs H Q => r xs H Q ∨ r' xs H Q) := by
  intro pins s σ H xs us Q I rs q
  rcases q with q | q
  · exact h pins s σ H xs us Q I rs q
  · exact h' pins s σ H xs us Q I rs q
theorem call_list_of : CallR X (.type "list") (fun xs H Q => ∃ p ys, xs = [.ref p] ∧ (SqL X.K H p ys ∨ SqT X.K H p ys) ∧ ∀ l, H l = none → Q (.ref l) (upd H l (.lst ys))) := by
  intro pins s σ H xs us Q I r h
  obtain ⟨p, ys, rfl, hq, q⟩ := h
  obtain ⟨u, rfl, rx⟩ := vals1 r
  cases rx
  have fin : ∀ (its : List Value), Vals ys its → ys.length ≤ sizeLine → ∀ (h' : Heap) (c' : Nat), (∀ b o', s.heap.get? b = some o' → h'.get? b = some o') →
      h'.get? s.heap.objs.size = some { cls := .type "list", dict := none, data := .seq its.toArray c', slots := #[] } → EP X pins σ Q (.ref s.heap.objs.size) { s with heap := h' } := fun its r' hz h' c' kp e =>
    ⟨.ref s.heap.objs.size, _, I.laid (t' := s.toks) kp (Nat.le_refl _) (show ObjOk X.prog X.w _ h' _ (.lst ys) from ⟨hz, its, c', r', e⟩), rfl, q _ (I.hok.fresh (Nat.le_refl _))⟩
  rcases hq with hq | hq
  · obtain ⟨its, r', pl, hz⟩ := I.list hq
    have hlen := r'.length
    obtain ⟨o, ho, hc, n, hd⟩ := pl.isList
    exact call_list_seq p (.inl rfl) ho hc hd (fun h' c' kp e => fin its r' hz h' c' kp e) (by simp only [List.size_toArray] <;> omega)
  · obtain ⟨its, r', pl, hz⟩ := I.tuple hq
    have hlen := r'.length
    obtain ⟨o, ho, hc, n, hd⟩ := pl
    exact call_list_seq p (.inr rfl) ho hc hd (fun h' c' kp e => fin its r' hz h' c' kp e) (by simp only [List.size_toArray] <;> omega)
theorem call_tuple_of : CallR X (.type "tuple") (fun xs H Q => ∃ p ys, xs = [.ref p] ∧ ((SqL X.K H p ys ∧ ∀ l, H l = none → Q (.ref l) (upd H l (.tup ys))) ∨ (SqT X.K H p ys ∧ Q (.ref p) H))) := by
  intro pins s σ H xs us Q I r h
  obtain ⟨p, ys, rfl, h⟩ := h
  obtain ⟨u, rfl, rx⟩ := vals1 r
  cases rx
  rcases h with ⟨hq, q⟩ | ⟨hq, q⟩
  · obtain ⟨its, r', pl, hz⟩ := I.list hq
    have hlen := r'.length
    refine call_tuple_list pl.isList (fun h' kp => ?_) (by simp only [List.size_toArray] <;> omega)
    have I1 : Inv X pins σ H { s with heap := h' } := I.kept (t' := s.toks) kp
    have I2 : Inv X pins σ (upd H h'.objs.size (.tup ys)) { s with heap := h'.push { cls := .type "tuple", data := .seq its.toArray } } :=
      I1.laid (t' := s.toks) (fun b o e => Heap.get?_push_of_some _ e) (Nat.le_refl _) (show ObjOk X.prog X.w _ _ _ (.tup ys) from ⟨hz, its, r', IsTup.new _ _⟩)
    exact ⟨.ref h'.objs.size, _, I2, rfl, q _ (I1.hok.fresh (Nat.le_refl _))⟩
  · obtain ⟨its, r', pl, hz⟩ := I.tuple hq
    exact call_tuple_same pl ⟨.ref p, H, I, rfl, q⟩

/-! ### the call of a builtin's method: o.m(..) -/
/-- the value is of that builtin type -/
def tyV (K : PySem.W.Frag) (T : String) (x : V) (H : Hp) : Prop := match x with
  | .str _ => T = "str"
  | .int _ => T = "int"
  | .ref p => (T = "list" ∧ ∃ xs, SqL K H p xs) ∨ (T = "tuple" ∧ ∃ o, K.lookup p = some o ∧ o.cls = .type "tuple" ∧ o.dict = none) ∨
      (T = "dict" ∧ ((∃ kvs, H p = some (.dK kvs)) ∨ ∃ kvs, H p = some (.dT kvs))) ∨ (T = "set" ∧ ∃ S n, H p = some (.set S n))
  | _ => False
theorem tyV_is {pins : List (Addr × Obj)} {σ : St} {H : Hp} {s : Shared} {T : String} {x : V} {v : Value} (I : Inv X pins σ H s) (r : RelV x v) (ty : tyV X.K T x H) :
    s.TypeIs v T ∧ ∀ a, v = .ref a → ∃ ob, s.heap.get? a = some ob ∧ ob.dict = none := by
  cases x with
  | str z =>
    obtain ⟨t, rfl⟩ := r
    cases (show T = "str" from ty)
    exact ⟨typeIs_str s z t, fun _ e => nomatch e⟩
  | int i =>
    obtain ⟨t, rfl⟩ := r
    cases (show T = "int" from ty)
    exact ⟨typeIs_int s i t, fun _ e => nomatch e⟩
  | ref p =>
    cases r
    rcases ty with ⟨rfl, xs, hq⟩ | ⟨rfl, o, hk, hc, hd⟩ | ⟨rfl, hk⟩ | ⟨rfl, S, n, hk⟩
    · obtain ⟨its, _, pl, _⟩ := I.list hq
      refine ⟨pl.isList.typeIs, fun a e => ?_⟩
      cases e
      obtain ⟨o, n, e, c, hd, _⟩ := pl
      exact ⟨o, e, hd⟩
    · refine ⟨⟨o, I.kIn p o hk, hc⟩, fun a e => ?_⟩
      cases e
      exact ⟨o, I.kIn _ o hk, hd⟩
    · have z : ∃ o, s.heap.get? p = some o ∧ o.ExactDict := by
        rcases hk with ⟨kvs, hk⟩ | ⟨kvs, hk⟩
        · obtain ⟨_, _, _, _, o, _, _, e, ex, _⟩ := I.hok p _ hk
          exact ⟨o, e, ex⟩
        · obtain ⟨_, _, _, _, o, _, _, e, ex, _⟩ := I.hok p _ hk
          exact ⟨o, e, ex⟩
      obtain ⟨o, e, ex⟩ := z
      refine ⟨⟨o, e, ex.1⟩, fun a e2 => ?_⟩
      cases e2
      exact ⟨o, e, ex.2.1⟩
    · obtain ⟨o, _, _, _, e, ex, _⟩ := I.hok p _ hk
      refine ⟨⟨o, e, ex.1⟩, fun a e2 => ?_⟩
      cases e2
      exact ⟨o, e, ex.2.1⟩
  | _ => exact False.elim ty
def tBM0 (K : PySem.W.Frag) (T : String) (r : V → List V → Hp → VK → Prop) (to : TE) : TE := fun σ H Q => to σ H fun x H1 => tyV K T x H1 ∧ r x [] H1 Q
def tBM (K : PySem.W.Frag) (T : String) (r : V → List V → Hp → VK → Prop) (to : TE) (t : TA) : TE := fun σ H Q => to σ H fun x H1 => tyV K T x H1 ∧ t σ H1 fun xs H2 => r x xs H2 Q
variable {o e : Expr} {es : List Expr} {to : TE} {t : TA} {name : Str} {apos cpos : Pos} {T id : String} {r : V → List V → Hp → VK → Prop}
theorem pe_bm0 (pa : PlainAttrs T) (slot : Slot T name id) (hty : typeOf (.builtin id) = pure (.type "method_descriptor")) (hm : MtR X id r) (ho : PE X o to)
    (hbase : attributeBase o name X.env (eval o X.env) = eval o X.env := by rfl) (hline : (apos.endLine == cpos.line) = true := by rfl) : PE X (.Call (.Attribute o name apos) [] [] cpos) (tBM0 X.K T r to) := by
  intro pins s σ H Q I h
  refine wpAny_Call_method0_late hbase hline (thn (ho pins s σ H _ I h) fun v s1 ⟨x, H1, I1, r1, ty, q1⟩ => ?_)
  obtain ⟨h1, h2⟩ := tyV_is I1 r1 ty
  exact ⟨T, id, pa, slot, hty, h1, h2, Calls.callWith_builtin rfl (PySem.evalArgs_none (hm pins s1 σ H1 x [] v [] Q I1 r1 .nil q1))⟩
theorem pe_bm (pa : PlainAttrs T) (slot : Slot T name id) (hty : typeOf (.builtin id) = pure (.type "method_descriptor")) (hm : MtR X id r) (ho : PE X o to) (ha : PA X (e :: es) t)
    (hbase : attributeBase o name X.env (eval o X.env) = eval o X.env := by rfl)
    (hfew : ((backTo cpos (starEach (e :: es) X.env)).all (fun x => !x.1) && (backToKw cpos (keywordEach [] X.env)).all (fun x => x.1.isSome)
      && decide ((e :: es).length + ([] : List Keyword).length + (if ([] : List Keyword).isEmpty then 0 else 1) < 30)) = true := by rfl)
    (hline : (apos.endLine == cpos.line) = true := by rfl) (hs : starEach (e :: es) X.env = (false, eval e X.env) :: starEach es X.env := by rfl) (hplain : (backTo cpos (starEach es X.env)).any (·.1) = false := by rfl) :
    PE X (.Call (.Attribute o name apos) (e :: es) [] cpos) (tBM X.K T r to t) := by
  intro pins s σ H Q I h
  refine wpAny_Call_method_late hbase hfew hline rfl (thn (ho pins s σ H _ I h) fun v s1 ⟨x, H1, I1, r1, ty, q1⟩ => ?_)
  obtain ⟨h1, h2⟩ := tyV_is I1 r1 ty
  refine ⟨T, id, pa, slot, hty, h1, h2, ?_⟩
  have hA := ha cpos pins s1 σ H1 _ I1 q1
  rw [hs] at hA ⊢
  refine Calls.callWith_builtin (by show (false || (backTo cpos (starEach es X.env)).any (·.1)) = false; rw [hplain] <;> rfl) (Calls.evalArgs_plain ?_)
  exact thn hA fun us s2 ⟨vs, H2, I2, r2, q2⟩ => hm pins s2 σ H2 x vs v us Q I2 r1 r2 q2
/- xs.append(e), list.index on a module's tuple .. are MtR facts of 06m -/
end
end L2

namespace L2
open PySem PySem.Spec PyProof.Rows

def MtM (X : Cx) (id : String) (r : V → List V → Hp → VK → Prop) : Prop :=
  ∀ (pins : List (Addr × Obj)) (s : Shared) (σ : St) (H : Hp) (x : V) (xs : List V) (v : Value) (us : List Value) (Q : VK), Inv X pins σ H s → RelV x v → Vals xs us → r x xs H Q →
    wpAny (model X.prog X.w) X.A (call (.builtin id) (v :: us)) (EP X pins σ Q) X.xe s

/-! ### lists of values -/
theorem Vals.one : ∀ {x : V} {us : List Value}, Vals [x] us → ∃ u, us = [u] ∧ RelV x u
  | _, _, .cons r .nil => ⟨_, rfl, r⟩
theorem Vals.two : ∀ {x y : V} {us : List Value}, Vals [x, y] us → ∃ u v, us = [u, v] ∧ RelV x u ∧ RelV y v
  | _, _, _, .cons r (.cons q .nil) => ⟨_, _, rfl, r, q⟩
theorem Vals.zero : ∀ {us : List Value}, Vals [] us → us = []
  | _, .nil => rfl
theorem Vals.dropLast {xs : List V} {us : List Value} (h : Vals xs us) : Vals xs.dropLast us.dropLast := by
  induction h with
  | nil => exact .nil
  | cons r t ih =>
    cases t with
    | nil => exact .nil
    | cons q t' => exact .cons r ih
theorem Vals.eraseIdx : ∀ {xs : List V} {us : List Value} (i : Nat), Vals xs us → Vals (xs.eraseIdx i) (us.eraseIdx i)
  | _, _, _, .nil => .nil
  | _, _, 0, .cons _ t => t
  | _, _, i + 1, .cons r t => .cons r (Vals.eraseIdx i t)
theorem Vals.reverse {xs : List V} {us : List Value} (h : Vals xs us) : Vals xs.reverse us.reverse := by
  induction h with
  | nil => exact .nil
  | cons r t ih => rw [List.reverse_cons, List.reverse_cons]; exact Vals.append ih (.cons r .nil)
theorem Vals.rep {xs : List V} {us : List Value} (h : Vals xs us) : ∀ k : Nat, Vals (List.replicate k xs).flatten (List.replicate k us).flatten
  | 0 => .nil
  | k + 1 => by
    rw [List.replicate_succ, List.replicate_succ, List.flatten_cons, List.flatten_cons]
    exact Vals.append h (Vals.rep h k)
theorem erase_last {α : Type} (l : List α) : l.eraseIdx (l.length - 1) = l.dropLast := by
  induction l with
  | nil => rfl
  | cons a r ih =>
    cases r with
    | nil => rfl
    | cons b r =>
      have e : (a :: b :: r).length - 1 = ((b :: r).length - 1) + 1 := by
        have h1 : (a :: b :: r).length = r.length + 2 := rfl
        have h2 : (b :: r).length = r.length + 1 := rfl
        omega
      rw [e, List.eraseIdx_cons_succ, ih]
      all_goals rfl
theorem len_erase {α : Type} : ∀ (l : List α) (i : Nat), (l.eraseIdx i).length ≤ l.length
  | [], _ => Nat.le_refl _
  | _ :: _, 0 => Nat.le_succ _
  | _ :: r, i + 1 => Nat.succ_le_succ (len_erase r i)
theorem foldl_rep (its : List Value) : ∀ (k : Nat) (acc : List Value),
    List.foldl (fun x1 x2 => x1 ++ x2) acc.toArray (List.replicate k its.toArray) = (acc ++ (List.replicate k its).flatten).toArray
  | 0, acc => by simp
  | k + 1, acc => by
    have e : acc.toArray ++ its.toArray = (acc ++ its).toArray := by simp
    have e2 : (acc ++ its) ++ (List.replicate k its).flatten = acc ++ (List.replicate (k + 1) its).flatten := by
      rw [List.replicate_succ, List.flatten_cons, List.append_assoc]
    rw [← e2, ← foldl_rep its k (acc ++ its), ← e, List.replicate_succ, List.foldl_cons]

section
variable {X : Cx} {pins : List (Addr × Obj)} {σ : St} {H : Hp} {s : Shared} {l b : Addr} {xs ys zs : List V}

/-! ### the two steps: a tracked list is rewritten, a new list is laid -/
theorem Inv.lset {its its' : List Value} {n : Nat} {f : Array Value → Array Value} {t' : Nat} (I : Inv X pins σ H s) (hH : H l = some (.lst xs))
    (e : s.heap.get? l = some { cls := .type "list", data := .seq its.toArray n }) (hf : f its.toArray = its'.toArray) (hv : Vals ys its') (hz : ys.length ≤ sizeLine) :
    Inv X pins σ (upd H l (.lst ys)) { s with heap := s.heap.update l (Obj.mapSeq f), toks := t' } := by
  have q := PySem.IsL.update e f
  rw [hf] at q
  refine I.write (x := l) (e := l) (by rw [hH]; exact trivial) (.inl rfl) (fun b' u hb hu => (Heap.get?_update_other s.heap (Obj.mapSeq f) (Ne.symm hb)).trans hu) ⟨_, q⟩ ?_
  exact ⟨hz, its', _, hv, q⟩
theorem Inv.lnew {its : List Value} {t' : Nat} (I : Inv X pins σ H s) (hv : Vals ys its) (hz : ys.length ≤ sizeLine) :
    Inv X pins σ (upd H s.heap.objs.size (.lst ys)) { s with heap := s.heap.push { cls := .type "list", data := .seq its.toArray }, toks := t' } :=
  I.laid (fun _ _ q => Heap.get?_push_of_some _ q) (Nat.le_refl _) ⟨hz, its, 0, hv, Heap.get?_push_size _ rfl⟩
theorem Inv.fresh (I : Inv X pins σ H s) : H s.heap.objs.size = none := I.hok.fresh (Nat.le_refl _)
theorem Inv.lstM (I : Inv X pins σ H s) (hH : H l = some (.lst xs)) : xs.length ≤ sizeLine ∧ ∃ (its : List Value) (n : Nat), Vals xs its ∧ xs.length = its.length ∧ s.heap.get? l = some { cls := .type "list", data := .seq its.toArray n } := by
  obtain ⟨z, its, n, r, e⟩ := I.hok l _ hH
  exact ⟨z, its, n, r, r.length, e⟩

theorem notLongL {n : Nat} (h : n ≤ sizeLine) : Builtin.List.listTooLong n = false := by
  unfold Builtin.List.listTooLong
  exact decide_eq_false (by omega)
end

section
variable {X : Cx}

/-! ### methods -/
def rAppend : V → List V → Hp → VK → Prop := fun x vs H Q => ∃ l xs y, x = .ref l ∧ vs = [y] ∧ H l = some (.lst xs) ∧ xs.length < sizeLine ∧ Q .non (upd H l (.lst (xs ++ [y])))
theorem mt_append : MtM X "list.append" rAppend := by
  intro pins s σ H x vs v us Q I rx rv h
  obtain ⟨l, xs, y, rfl, rfl, hH, hz, q⟩ := h
  cases rx
  obtain ⟨u, rfl, ru⟩ := rv.one
  obtain ⟨z, its, n, r, hl, e⟩ := I.lstM hH
  refine call_meets F.slot_list_append ⟨_, e, rfl⟩ F.entry_list_append (F.args_list_append_2 _ _) (PySem.list_append l its.toArray n u (by rw [List.size_toArray]; omega)) ⟨e, ?_⟩
  refine ⟨.non, _, I.lset (its' := its ++ [u]) hH e (by simp) (r.append (.cons ru .nil)) ?_, rfl, q⟩
  rw [List.length_append, List.length_singleton]
  omega

def rExtend : V → List V → Hp → VK → Prop := fun x vs H Q => ∃ l b xs zs, x = .ref l ∧ vs = [.ref b] ∧ H l = some (.lst xs) ∧ H b = some (.lst zs) ∧ xs.length + zs.length ≤ sizeLine ∧ Q .non (upd H l (.lst (xs ++ zs)))
theorem mt_extend : MtM X "list.extend" rExtend := by
  intro pins s σ H x vs v us Q I rx rv h
  obtain ⟨l, b, xs, zs, rfl, rfl, hH, hB, hz, q⟩ := h
  cases rx
  obtain ⟨u, rfl, ru⟩ := rv.one
  cases ru
  obtain ⟨z, its, n, r, hl, e⟩ := I.lstM hH
  obtain ⟨z2, its2, n2, r2, hl2, e2⟩ := I.lstM hB
  have hsz : its.toArray.size + its2.toArray.size ≤ sizeLine := by rw [List.size_toArray, List.size_toArray]; omega
  have hlong : ¬ (!its.toArray.isEmpty && Builtin.List.listTooLong (its.toArray.size + its2.toArray.size)) = true := by
    rw [notLongL hsz, Bool.and_false]
    exact Bool.false_ne_true
  refine call_meets F.slot_list_extend ⟨_, e, rfl⟩ F.entry_list_extend (F.args_list_extend_2 _ _)
    (AutoSeq1.list_extend_list_list_0 l its.toArray n b its2.toArray n2 hlong (by rw [List.size_toArray]; omega) (by omega)) ⟨e, e2, ?_⟩
  refine ⟨.non, _, I.lset (its' := its ++ its2) hH e (by simp) (r.append r2) ?_, rfl, q⟩
  rw [List.length_append]
  omega

def rPop : V → List V → Hp → VK → Prop := fun x vs H Q => ∃ l xs y, x = .ref l ∧ vs = [] ∧ H l = some (.lst xs) ∧ xs[xs.length - 1]? = some y ∧ Q y (upd H l (.lst xs.dropLast))
theorem mt_pop : MtM X "list.pop" rPop := by
  intro pins s σ H x vs v us Q I rx rv h
  obtain ⟨l, xs, y, rfl, rfl, hH, hy, q⟩ := h
  cases rx
  have hus := rv.zero
  subst hus
  obtain ⟨z, its, n, r, hl, e⟩ := I.lstM hH
  obtain ⟨u, hu, ru⟩ := r.get hy
  have hy' : its.toArray[its.toArray.size - 1]? = some u := by
    show its.toArray[its.length - 1]? = some u
    rw [← Array.getElem?_toList, ← hl]
    exact hu
  refine call_meets F.slot_list_pop ⟨_, e, rfl⟩ F.entry_list_pop (F.args_list_pop_1 _) (MeetsSeq.list_pop_last l its.toArray n u hy' (by rw [List.size_toArray]; omega)) ⟨e, ?_⟩
  refine ⟨y, _, I.lset (its' := its.dropLast) hH e ?_ r.dropLast ?_, ru, q⟩
  · show its.toArray.eraseIdxIfInBounds (its.toArray.size - 1) = its.dropLast.toArray
    rw [List.size_toArray, List.eraseIdxIfInBounds_toArray, erase_last]
  · rw [List.length_dropLast]
    omega

def rPopAt : V → List V → Hp → VK → Prop := fun x vs H Q => ∃ l xs i k y, x = .ref l ∧ vs = [.int i] ∧ H l = some (.lst xs) ∧ -(2 ^ 63) ≤ i ∧ i < 2 ^ 63 ∧ seqIndex? i xs.length = some k ∧ xs[k]? = some y ∧ Q y (upd H l (.lst (xs.eraseIdx k)))
theorem mt_popAt : MtM X "list.pop" rPopAt := by
  intro pins s σ H x vs v us Q I rx rv h
  obtain ⟨l, xs, i, k, y, rfl, rfl, hH, h1, h2, hk, hy, q⟩ := h
  cases rx
  obtain ⟨u, rfl, ru⟩ := rv.one
  obtain ⟨t, rfl⟩ := ru
  obtain ⟨z, its, n, r, hl, e⟩ := I.lstM hH
  obtain ⟨w, hw, rw'⟩ := r.get hy
  refine call_meets F.slot_list_pop ⟨_, e, rfl⟩ F.entry_list_pop (F.args_list_pop_2 _ _)
    (MeetsSeq.list_pop_at l its.toArray n i t k w (fitsIndex_both h1 h2) (by rw [List.size_toArray, ← hl]; exact hk) (by rw [← Array.getElem?_toList]; exact hw) (by rw [List.size_toArray]; omega)) ⟨e, ?_⟩
  refine ⟨y, _, I.lset (its' := its.eraseIdx k) hH e ?_ (r.eraseIdx k) ?_, rw', q⟩
  · show its.toArray.eraseIdxIfInBounds k = (its.eraseIdx k).toArray
    rw [List.eraseIdxIfInBounds_toArray]
  · have := len_erase xs k
    omega

def rReverse : V → List V → Hp → VK → Prop := fun x vs H Q => ∃ l xs, x = .ref l ∧ vs = [] ∧ H l = some (.lst xs) ∧ Q .non (upd H l (.lst xs.reverse))
theorem mt_reverse : MtM X "list.reverse" rReverse := by
  intro pins s σ H x vs v us Q I rx rv h
  obtain ⟨l, xs, rfl, rfl, hH, q⟩ := h
  cases rx
  have hus := rv.zero
  subst hus
  obtain ⟨z, its, n, r, hl, e⟩ := I.lstM hH
  refine call_meets F.slot_list_reverse ⟨_, e, rfl⟩ F.entry_list_reverse (F.args_list_reverse_1 _) (AutoSeq1.list_reverse_list_0 l its.toArray n (by rw [List.size_toArray]; omega)) ⟨e, ?_⟩
  refine ⟨.non, _, I.lset (its' := its.reverse) hH e (by simp) r.reverse ?_, rfl, q⟩
  rw [List.length_reverse]
  omega

def rClear : V → List V → Hp → VK → Prop := fun x vs H Q => ∃ l xs, x = .ref l ∧ vs = [] ∧ H l = some (.lst xs) ∧ Q .non (upd H l (.lst []))
theorem mt_clear : MtM X "list.clear" rClear := by
  intro pins s σ H x vs v us Q I rx rv h
  obtain ⟨l, xs, rfl, rfl, hH, q⟩ := h
  cases rx
  have hus := rv.zero
  subst hus
  obtain ⟨z, its, n, r, hl, e⟩ := I.lstM hH
  refine call_meets F.slot_list_clear ⟨_, e, rfl⟩ F.entry_list_clear (F.args_list_clear_1 _) (AutoSeq1.list_clear_list_0 l its.toArray n (by rw [List.size_toArray]; omega)) ⟨e, ?_⟩
  exact ⟨.non, _, I.lset (its' := []) (ys := []) hH e rfl .nil (Nat.zero_le _), rfl, q⟩

/-! ### list + list, list += list, list * int -/
def rCat : R2 := fun x y H Q => ∃ l b xs zs, x = .ref l ∧ y = .ref b ∧ H l = some (.lst xs) ∧ H b = some (.lst zs) ∧ xs.length + zs.length ≤ sizeLine ∧ ∀ p, H p = none → Q (.ref p) (upd H p (.lst (xs ++ zs)))
theorem op_cat : OpR X (binaryOp .Add) rCat := by
  intro pins s σ H x y v u Q I rx ry h
  obtain ⟨l, b, xs, zs, rfl, rfl, hH, hB, hz, q⟩ := h
  cases rx
  cases ry
  obtain ⟨z, its, n, r, hl, e⟩ := I.lstM hH
  obtain ⟨z2, its2, n2, r2, hl2, e2⟩ := I.lstM hB
  refine PySem.P.add_list e e2 ?_ (by rw [List.size_toArray, List.size_toArray]; omega)
  have ea : its.toArray ++ its2.toArray = (its ++ its2).toArray := by simp
  rw [ea]
  exact ⟨.ref _, _, I.lnew (t' := s.toks) (r.append r2) (by rw [List.length_append]; omega), rfl, q _ I.fresh⟩
/-- a list times an int (a negative one is nothing) -/
def rRep : R2 := fun x y H Q => ∃ l k xs, x = .ref l ∧ y = .int k ∧ H l = some (.lst xs) ∧ -(2 ^ 63) ≤ k ∧ k < 2 ^ 63 ∧ xs.length * k.toNat ≤ sizeLine ∧
  ∀ p, H p = none → Q (.ref p) (upd H p (.lst (List.replicate k.toNat xs).flatten))
theorem len_rep {α : Type} (xs : List α) (k : Nat) : (List.replicate k xs).flatten.length = k * xs.length := by
  induction k with
  | zero => simp
  | succ k ih => rw [List.replicate_succ, List.flatten_cons, List.length_append, ih, Nat.succ_mul, Nat.add_comm]
theorem op_rep : OpR X (binaryOp .Mult) rRep := by
  intro pins s σ H x y v u Q I rx ry h
  obtain ⟨l, k, xs, rfl, rfl, hH, h1, h2, hz, q⟩ := h
  cases rx
  obtain ⟨t, rfl⟩ := ry
  obtain ⟨z, its, n, r, hl, e⟩ := I.lstM hH
  have hlen : its.toArray.size * k.toNat ≤ sizeLine := by rw [List.size_toArray, ← hl]; exact hz
  have hcap : ¬ its.toArray.size * k.toNat > (2 ^ 63 - 1) / 8 := by
    have : (sizeLine : Nat) ≤ (2 ^ 63 - 1) / 8 := by decide
    omega
  have hfit : ¬ (!Builtin.List.listFitsIndex k) = true := by
    rw [fitsIndex_both h1 h2]
    exact Bool.false_ne_true
  have hlong : ¬ Builtin.List.listTooLong (its.toArray.size * k.toNat) = true := by
    rw [notLongL hlen]
    exact Bool.false_ne_true
  have hnew : List.foldl (fun x1 x2 => x1 ++ x2) #[] (List.replicate (if its.toArray.isEmpty = true then 0 else k.toNat) its.toArray) = (List.replicate k.toNat its).flatten.toArray := by
    have f0 : ∀ m : Nat, List.foldl (fun x1 x2 => x1 ++ x2) #[] (List.replicate m its.toArray) = (List.replicate m its).flatten.toArray := fun m => by
      have := foldl_rep its m []
      rw [List.nil_append] at this
      exact this
    rw [f0]
    cases its with
    | nil => simp
    | cons a r' => rw [if_neg (by simp)]
  refine wpAny_binaryOp_repeat_ref (T := "list") (U := "int") (by decide) ⟨_, e, rfl⟩ (fun s' => typeIs_int s' k t) noFill_list_mul F.fills_int_mul F.slot_int_rmul repeat_list F.slot_int_index.lookup
    (call_meets F.slot_int_rmul (typeIs_int s k t) F.entry_int_rmul (F.args_int_rmul_2 _ _) (int___rmul___int_list k t l its.toArray n)
      ⟨e, rfl, ⟨_, e, rfl⟩, call_meets F.slot_list_mul ⟨_, e, rfl⟩ F.entry_list_mul (F.args_list_mul_2 _ _) (AutoListH.list___mul___list_int_3 l its.toArray n k t hfit hcap hlong) ⟨e, ?_⟩⟩)
  rw [hnew]
  exact ⟨.ref _, _, I.lnew (t' := s.toks) (r.rep k.toNat) (by rw [len_rep, Nat.mul_comm]; exact hz), rfl, q _ I.fresh⟩

/-! ### del xs[i] -/
theorem del_list {pins : List (Addr × Obj)} {s : Shared} {σ : St} {H : Hp} {l : Addr} {xs : List V} {i : Int} {t : Tok} {k : Nat} {Q : Unit → Shared → Prop} (I : Inv X pins σ H s) (hH : H l = some (.lst xs))
    (h1 : -(2 ^ 63) ≤ i) (h2 : i < 2 ^ 63) (hk : seqIndex? i xs.length = some k) (h : ∀ s', Inv X pins σ (upd H l (.lst (xs.eraseIdx k))) s' → Q () s') :
    wpAny (model X.prog X.w) X.A (delItem (.ref l) (.int i t)) Q X.xe s := by
  obtain ⟨z, its, n, r, hl, e⟩ := I.lstM hH
  refine PySem.P.delItem_list (k := k) e (fitsIndex_both h1 h2) (by rw [List.size_toArray, ← hl]; exact hk) (h _ ?_) (by rw [List.size_toArray]; omega)
  refine I.lset (its' := its.eraseIdx k) (t' := s.toks) hH e ?_ (r.eraseIdx k) ?_
  · show its.toArray.eraseIdxIfInBounds k = (its.eraseIdx k).toArray
    rw [List.eraseIdxIfInBounds_toArray]
  · have := len_erase xs k
    omega
end

/-! ### xs[a:b] = ys -/
section
variable {prog : Program} {w : World} {A : Around} {E : Value → Shared → Prop} {s : Shared}
theorem splice_eq (its its2 : List Value) (a c : Nat) : its.toArray.extract 0 a ++ its2.toArray ++ its.toArray.extract c its.toArray.size = (its.take a ++ its2 ++ its.drop c).toArray := by
  apply Array.toList_inj.mp
  first
    | (simp
       exact List.take_of_length_le (by simp))
    | simp [List.take_of_length_le]
    | simp
theorem bounds_run {a c n : Nat} (hac : a ≤ c) (hc : c ≤ n) : sliceBounds (some (a : Int)) (some (c : Int)) none n = ((a : Int), (c : Int), 1) := by
  simp only [sliceBounds, Option.getD_none]
  have h1 : ¬ ((a : Int) < 0) := by omega
  have h2 : ¬ ((c : Int) < 0) := by omega
  simp only [h1, h2, if_false, show (1 : Int) > 0 by decide, if_true]
  congr 1
  · omega
  · congr 1; omega
set_option maxRecDepth 100000 in
/-- list.__setitem__ with a slice of step one and another list -/
theorem setItem_slice {l b sl : Addr} {items new : Array Value} {n n2 : Nat} {vl vu : Value} {a c : Nat} {Q : Unit → Shared → Prop}
    (e : s.heap.get? l = some { cls := .type "list", data := .seq items n }) (e2 : s.heap.get? b = some { cls := .type "list", data := .seq new n2 }) (hne : l ≠ b)
    (hs : s.heap.IsSliceOf sl vl vu .none) (pl : IsPart vl (some (a : Int))) (pu : IsPart vu (some (c : Int))) (hac : a ≤ c) (hc : c ≤ items.size)
    (hsz : items.size + new.size ≤ sizeLine) (h : Q () { s with heap := s.heap.update l (Obj.mapSeq fun xs => xs.extract 0 a ++ new ++ xs.extract c xs.size) }) :
    wpAny (model prog w) A (setItem (.ref l) (.ref sl) (.ref b)) Q E s := by
  have hl : s.heap.IsList l items := PySem.IsL.isList e
  have hb : s.heap.IsList b new := PySem.IsL.isList e2
  obtain ⟨os, hos, hcs, hds⟩ := id hs
  have hTs : s.TypeIs (.ref sl) "slice" := ⟨os, hos, hcs⟩
  have hstep : ¬ ((rawPart none == rawInt 0) = true) := Bool.false_ne_true
  have hsame : Builtin.List.listSameRef (.ref l) (.ref b) = false := by
    unfold Builtin.List.listSameRef
    exact beq_eq_false_iff_ne.mpr hne
  have hmax : (max (a : Int) (c : Int)).toNat = c := by omega
  have hz' : ((fun xs : Array Value => xs.extract 0 a ++ new ++ xs.extract c xs.size) items).size ≤ sizeLine + 1 := by
    simp only [Array.size_append, Array.size_extract]
    omega
  unfold setItem
  try with_reducible refine wpAny_holding ?_
  first | refine wpAny_bind (wpAny_pure ?_) | skip
  refine wpAny_bind (wpAny_sequenceKey hl.typeIs (by decide) ?_)
  refine wpAny_bind (wpAny_callSpecial?_slot (name := Str.ofString "__setitem__") hl.typeIs slot_list_setitem
    (wpAny_call_entry slot_list_setitem hl.typeIs entry_list_setitem ?_ (args_list_setitem _ _ _)))
  show wpAny _ _ (Builtin.List.listSubscript? (.ref sl) >>= _) _ _ s
  refine wpAny_bind ?_
  unfold Builtin.List.listSubscript?
  refine wpAny_bind (wpAny_specialOf hTs slice_no_index ?_)
  simp only [Option.isNone_none, if_true]
  refine wpAny_pure ?_
  show wpAny _ _ (typeOf (.ref sl) >>= _) _ _ s
  refine wpAny_bind (wpAny_typeOf hTs ?_)
  first
    | rw [if_neg (by decide)]
    | refine PySem.W.KFB.if_not (by decide) ?_
  rw [listSliceParts_eq]
  refine wpAny_bind (wpAny_bind (wpAny_field hos hds (x := .none) rfl (wpAny_bind (wpAny_listPart .none ?_))))
  rw [if_neg hstep]
  refine wpAny_bind (wpAny_field hos hds (x := vl) rfl (wpAny_bind (wpAny_listPart pl ?_)))
  refine wpAny_bind (wpAny_field hos hds (x := vu) rfl (wpAny_bind (wpAny_listPart pu (wpAny_pure ?_))))
  first
    | simp only [hsame, Bool.false_eq_true, if_false]
    | refine PySem.W.KFB.if_not hsame ?_
    | (dsimp only
       rw [if_neg (by rw [hsame]; exact Bool.false_ne_true)])
  refine wpAny_bind (m := Builtin.List.listAllItems (.ref b) "must assign iterable to extended slice") ?_
  unfold Builtin.List.listAllItems
  refine wpAny_bind (wpAny_typeOf hb.typeIs ?_)
  first
    | refine PySem.W.KFB.if_so (by decide) ?_
    | rw [if_pos (by decide)]
    | simp only [beq_self_eq_true, Bool.true_or, if_true]
  unfold Builtin.List.listItems
  refine wpAny_bind (wpAny_seqItems e2 rfl (wpAny_pure ?_))
  refine wpAny_bind (wpAny_bind (wpAny_seqItems e rfl (wpAny_pure ?_)))
  refine wpAny_bind (wpAny_of_eq ((sliceIndices_raw (some (a : Int)) (some (c : Int)) none items.size (by simp)).trans (congrArg (pure : Int × Int × Int → Sem (Int × Int × Int)) (bounds_run hac hc))) ?_)
  show wpAny _ _ (if ((1 : Int) == 1) = true then _ else _) _ _ s
  rw [if_pos (by decide)]
  refine wpAny_bind (wpAny_rule ?_)
  first
    | simp only [notLongL hsz, Bool.false_eq_true, if_false]
    | refine PySem.W.KFB.if_not (notLongL hsz) ?_
  first | refine wpAny_bind (wpAny_pure ?_) | skip
  show wpAny _ _ (updateSeq l (fun xs => xs.extract 0 ((a : Int)).toNat ++ new ++ xs.extract (max (a : Int) (c : Int)).toNat xs.size) >>= _) _ _ s
  rw [hmax, Int.toNat_natCast]
  refine wpAny_bind (wpAny_updateSeq (hz := Nat.le_trans (Nat.le_add_right _ _) hsz) (_hz' := hz') e rfl ?_)
  refine wpAny_bind (wpAny_letGo ?_)
  first
    | exact wpAny_bind (wpAny_pure (wpAny_pure ⟨.none, rfl, wpAny_pure h⟩))
    | exact wpAny_pure ⟨.none, rfl, wpAny_pure h⟩
end

section
variable {X : Cx}
/-- xs[a:c] = ys of another list, at the value level: sl is the slice object that was just made -/
theorem set_slice {pins : List (Addr × Obj)} {s : Shared} {σ : St} {H : Hp} {l b sl : Addr} {xs ys : List V} {a c : Int} {vl vu : Value} {Q : Unit → Shared → Prop} (I : Inv X pins σ H s)
    (hH : H l = some (.lst xs)) (hB : H b = some (.lst ys)) (hne : l ≠ b) (hs : s.heap.IsSliceOf sl vl vu .none) (ra : RelV (.int a) vl) (rc : RelV (.int c) vu) (h0 : 0 ≤ a) (hac : a ≤ c) (hc : c ≤ xs.length)
    (hz : xs.length + ys.length ≤ sizeLine) (h : ∀ s', Inv X pins σ (upd H l (.lst (xs.take a.toNat ++ ys ++ xs.drop c.toNat))) s' → Q () s') :
    wpAny (model X.prog X.w) X.A (setItem (.ref l) (.ref sl) (.ref b)) Q X.xe s := by
  obtain ⟨ta, rfl⟩ := ra
  obtain ⟨tc, rfl⟩ := rc
  obtain ⟨z, its, n, r, hl, e⟩ := I.lstM hH
  obtain ⟨z2, its2, n2, r2, hl2, e2⟩ := I.lstM hB
  obtain ⟨a', rfl⟩ := Int.eq_ofNat_of_zero_le h0
  obtain ⟨c', rfl⟩ := Int.eq_ofNat_of_zero_le (Int.le_trans h0 hac)
  simp only [Int.toNat_natCast] at h
  refine setItem_slice (a := a') (c := c') e e2 hne hs (.int _ _) (.int _ _) (by omega) (by rw [List.size_toArray]; omega) (by rw [List.size_toArray, List.size_toArray]; omega) (h _ ?_)
  refine I.lset (its' := its.take a' ++ its2 ++ its.drop c') (t' := s.toks) hH e ?_ (Vals.append (Vals.append (r.take _) r2) (r.drop _)) ?_
  · exact splice_eq its its2 a' c'
  · rw [List.length_append, List.length_append, List.length_take, List.length_drop]
    omega
end
end L2

namespace Att
open PySem PySem.W PySem.Calls PyProof.Rows

/-! ### the script -/
theorem ints_of_wellAll {P : Params} {h : Heap} : ∀ (ns : List Int) (vs : List Value), WellAll P h vs (ns.map WData.int) → IntsAre vs ns := by
  intro ns
  induction ns with
  | nil =>
    intro vs w
    rw [List.map_nil] at w
    cases w
    exact .nil
  | cons n ns ih =>
    intro vs w
    rw [List.map_cons] at w
    cases w with
    | cons a b =>
      cases a
      exact .cons _ _ (ih _ b)

theorem script_of {l : OpenLaw} {n : Nat} (hn : l.most = some n) {P : Params} {h : Heap} {args : List WData} {vals : List Value}
    (hpre : l.row.toRowW.claim.pre args = true) (hwl : WellAll P h vals args) :
    ∃ a vs ns, vals = [Value.ref a] ∧ args = [WData.list (ns.map WData.int)] ∧ h.get? a = some { cls := .type "list", data := .seq vs.toArray } ∧ IntsAre vs ns ∧ ns.length ≤ n := by
  have hsh : WShape.hasAll [] args [.list .int] = true := (pre_splitW hpre).1
  have hc : l.pre.holds [] { args := args } = true := (pre_splitW hpre).2
  obtain ⟨d, r, rfl, h1, h2⟩ := hasAllW_cons hsh
  obtain rfl := hasAllW_nil h2
  obtain ⟨xs, rfl, h3⟩ := hasW_list h1
  obtain ⟨ns, rfl⟩ := items_int h3
  have hlen : ns.length ≤ n := by
    unfold OpenLaw.pre at hc
    have h4 : (WTm.not (.lt (.lit (.int (n : Int))) (.len (.arg 0)))).holds [] { args := [.list (ns.map .int)] } = true := by
      have h4 := (holds_andW hc).1
      rw [hn] at h4
      exact h4
    have h5 := condW_of h4 (w_not (w_lt w_lit (w_len_list (w_arg rfl))))
    rw [List.length_map] at h5
    refine Nat.le_of_not_lt fun q => ?_
    have q' : (n : Int) < ((ns.length : Nat) : Int) := by omega
    first
      | (rw [decide_eq_true q'] at h5; exact absurd h5 (by decide))
      | (simp at h5; omega)
  cases hwl with
  | cons w1 w2 =>
    cases w2
    cases w1 with
    | list ho hall => exact ⟨_, _, ns, rfl, rfl, ho, ints_of_wellAll ns _ hall, hlen⟩

theorem post_true (l : OpenLaw) (args : List WData) : l.row.toRowW.claim.post args (.bool true) args = true :=
  postW_of (r := l.row.toRowW) (X := (true == true))
    (show WShape.has [] (.bool true) .bool = true by first | rfl | decide | simp [WShape.has, WShape.arms, WShape.armsAll])
    (show (WTm.eq .res (.lit (.bool true))).value [] { args := args, res := some (.bool true), after := args } = some (.bool (true == true)) from w_eq_bool (w_res rfl) w_lit) rfl

/-! ### the attachment: holds_open's last premise (the goal 'hc' behind k_head) from a wpAny of the law's body -/
theorem attach {l : OpenLaw} {n : Nat} {q : Program} {loose : List Str} {XP : (Str → Option Value) → Heap → Prop} {YP : World → Heap → Prop} {d : DefRec} {x : Str}
    (hn : l.most = some n) (hdf : d.params.defaults = [])
    (hbind : ∀ pm cd doc v : Value, bindArgs (docDef d.name d.params d.body d.scope pm cd doc) ⟨[v], []⟩ = pure [(x, v)])
    (hx : d.scope.names.lookup x = some .local ∨ d.scope.names.lookup x = some .cell)
    (hk : d.scope.kind = .function) (hco : d.scope.isCoroutine = false) (hgen : d.scope.isGenerator = false)
    (body : ∀ (w : World) (s₀ s₁ s : Shared) (mg mb : Str → Option Value) (fa : Addr) (o : Obj) (pm cd doc : Value) (a : Addr) (vs : List Value) (ns : List Int),
      Ground q loose [] XP w s₀ mg mb s₁.heap → YP w s₁.heap →
      s₁.heap.get? fa = some o → o.data = .func (docDef d.name d.params d.body d.scope pm cd doc) → s₁.heap.CodeRec cd d.name → mg d.name = some (.ref fa) →
      s₁.heap.get? a = some { cls := .type "list", data := .seq vs.toArray } → IntsAre vs ns → ns.length ≤ n →
      s.gens = #[] → s.os = s₁.os →
      Fr s₁.heap s₁.heap.objs.size s.heap (bindL (envOfC d.name d.scope s₁.heap.objs.size fa cd).kindOf [(x, .ref a)] fun _ => none) →
      Cl s₁.heap.objs.size (cellsFrom (s₁.heap.objs.size + 1) d.scope.names []) s.heap (bindC (envOfC d.name d.scope s₁.heap.objs.size fa cd).kindOf [(x, .ref a)] fun _ => none) →
      wpAny (model l.prog w) (callerA.deeper (envOfC d.name d.scope s₁.heap.objs.size fa cd)) (execs d.body (envOfC d.name d.scope s₁.heap.objs.size fa cd))
        (fun f s' => f = .ret (.bool true) ∧ OldK s₁.heap s'.heap ∧ s'.os = s₁.os ∧ AllBare s'.gens) (fun _ _ => False) s) :
    WalkO q loose XP YP l.row.toRowW d [] (fun f vs => PySem.call f vs) := by
  intro w s₀ s₁ mg mb G Y fa o pm cd doc dV kV ho hd hcd hD hmg hg args vals as hpre hlay hrd hwl hlo
  obtain rfl : dV = .none := Dflts.none hD hdf
  obtain rfl : kV = .none := Dflts.noKw hD
  obtain ⟨a, vs, ns, rfl, rfl, hobj, hints, hlen⟩ := script_of hn hpre hwl
  refine enter_call ?_
  refine call_cells_ret (o := o) (by rw [depth_caller]; decide) ho (fd_plain hd) G.T.nolimit hcd (hbind pm cd doc (.ref a)) (fun y hy => ?_) (fun h₁ tk F X => ?_) hco hgen hk
  · obtain rfl : y = (x, Value.ref a) := List.mem_singleton.mp hy
    rcases hx with e | e
    · exact .inl e
    · exact .inr ⟨e, cellsFrom_some _ _ _ (.inl e)⟩
  · refine wpAny_mono (body w s₀ s₁ { s₁ with heap := h₁, toks := tk } mg mb fa o pm cd doc a vs ns G Y ho (fd_plain hd) hcd hmg hobj hints hlen hg rfl F X) (fun f s' hq => ?_) (fun _ _ hq => hq)
    obtain ⟨rfl, h2, h3, h4⟩ := hq
    exact ⟨.inl ⟨.bool true, .bool true, [], rfl, fun _ => rfl, .bool true, post_true l _, fun _ => ⟨List.Pairwise.nil, fun _ hm => (nomatch hm)⟩⟩, h2, h3, h4⟩

/-- the same from a codeAny of the CALL (for a layer whose function contracts speak of calls) -/
theorem attach_call {l : OpenLaw} {n : Nat} {q : Program} {loose : List Str} {XP : (Str → Option Value) → Heap → Prop} {YP : World → Heap → Prop} {d : DefRec}
    (hn : l.most = some n) (hdf : d.params.defaults = [])
    (call : ∀ (w : World) (s₀ s₁ : Shared) (mg mb : Str → Option Value) (fa : Addr) (o : Obj) (pm cd doc : Value) (a : Addr) (vs : List Value) (ns : List Int),
      Ground q loose [] XP w s₀ mg mb s₁.heap → YP w s₁.heap →
      s₁.heap.get? fa = some o → o.data = .func (docDef d.name d.params d.body d.scope pm cd doc) → s₁.heap.CodeRec cd d.name → mg d.name = some (.ref fa) →
      s₁.heap.get? a = some { cls := .type "list", data := .seq vs.toArray } → IntsAre vs ns → ns.length ≤ n → s₁.gens = #[] →
      codeAny (model l.prog w) callerA (.call (.ref fa) ⟨[.ref a], []⟩) (fun r s' => r = .ok (.ret (.bool true)) ∧ OldK s₁.heap s'.heap ∧ s'.os = s₁.os ∧ AllBare s'.gens) s₁) :
    WalkO q loose XP YP l.row.toRowW d [] (fun f vs => PySem.call f vs) := by
  intro w s₀ s₁ mg mb G Y fa o pm cd doc dV kV ho hd hcd hD hmg hg args vals as hpre hlay hrd hwl hlo
  obtain rfl : dV = .none := Dflts.none hD hdf
  obtain rfl : kV = .none := Dflts.noKw hD
  obtain ⟨a, vs, ns, rfl, rfl, hobj, hints, hlen⟩ := script_of hn hpre hwl
  refine enter_call (codeAny_mono (call w s₀ s₁ mg mb fa o pm cd doc a vs ns G Y ho (fd_plain hd) hcd hmg hobj hints hlen hg) fun r s' hq => ?_)
  obtain ⟨rfl, h2, h3, h4⟩ := hq
  exact ⟨.inl ⟨.bool true, .bool true, [], rfl, fun _ => rfl, .bool true, post_true l _, fun _ => ⟨List.Pairwise.nil, fun _ hm => (nomatch hm)⟩⟩, h2, h3, h4⟩

/-- the same where the top left finished generators (o_head chose holds_openN): nothing may have changed at all and no generator may be left -/
theorem attachN {l : OpenLaw} {n : Nat} {q : Program} {loose : List Str} {XP : (Str → Option Value) → Heap → Prop} {YP : World → Heap → Prop} {d : DefRec} {x : Str}
    (hn : l.most = some n) (hdf : d.params.defaults = [])
    (hbind : ∀ pm cd doc v : Value, bindArgs (docDef d.name d.params d.body d.scope pm cd doc) ⟨[v], []⟩ = pure [(x, v)])
    (hx : d.scope.names.lookup x = some .local ∨ d.scope.names.lookup x = some .cell)
    (hk : d.scope.kind = .function) (hco : d.scope.isCoroutine = false) (hgen : d.scope.isGenerator = false)
    (body : ∀ (w : World) (s₀ s₁ s : Shared) (mg mb : Str → Option Value) (fa : Addr) (o : Obj) (pm cd doc : Value) (a : Addr) (vs : List Value) (ns : List Int),
      Ground q loose [] XP w s₀ mg mb s₁.heap → YP w s₁.heap →
      s₁.heap.get? fa = some o → o.data = .func (docDef d.name d.params d.body d.scope pm cd doc) → s₁.heap.CodeRec cd d.name → mg d.name = some (.ref fa) →
      s₁.heap.get? a = some { cls := .type "list", data := .seq vs.toArray } → IntsAre vs ns → ns.length ≤ n →
      s.gens = #[] → s.os = s₁.os →
      Fr s₁.heap s₁.heap.objs.size s.heap (bindL (envOfC d.name d.scope s₁.heap.objs.size fa cd).kindOf [(x, .ref a)] fun _ => none) →
      Cl s₁.heap.objs.size (cellsFrom (s₁.heap.objs.size + 1) d.scope.names []) s.heap (bindC (envOfC d.name d.scope s₁.heap.objs.size fa cd).kindOf [(x, .ref a)] fun _ => none) →
      wpAny (model l.prog w) (callerA.deeper (envOfC d.name d.scope s₁.heap.objs.size fa cd)) (execs d.body (envOfC d.name d.scope s₁.heap.objs.size fa cd))
        (fun f s' => f = .ret (.bool true) ∧ (∀ b o, s₁.heap.get? b = some o → s'.heap.get? b = some o) ∧ s'.os = s₁.os ∧ s'.gens = #[]) (fun _ _ => False) s) :
    WalkN q loose XP YP l.row.toRowW d [] (fun f vs => PySem.call f vs) := by
  intro w s₀ s₁ mg mb G Y fa o pm cd doc dV kV ho hd hcd hD hmg hg args vals as hpre hlay hrd hwl hlo
  obtain rfl : dV = .none := Dflts.none hD hdf
  obtain rfl : kV = .none := Dflts.noKw hD
  obtain ⟨a, vs, ns, rfl, rfl, hobj, hints, hlen⟩ := script_of hn hpre hwl
  refine enter_callW ?_
  refine call_cells_ret (o := o) (by rw [depth_caller]; decide) ho (fd_plain hd) G.T.nolimit hcd (hbind pm cd doc (.ref a)) (fun y hy => ?_) (fun h₁ tk F X => ?_) hco hgen hk
  · obtain rfl : y = (x, Value.ref a) := List.mem_singleton.mp hy
    rcases hx with e | e
    · exact .inl e
    · exact .inr ⟨e, cellsFrom_some _ _ _ (.inl e)⟩
  · refine wpAny_mono (body w s₀ s₁ { s₁ with heap := h₁, toks := tk } mg mb fa o pm cd doc a vs ns G Y ho (fd_plain hd) hcd hmg hobj hints hlen hg rfl F X) (fun f s' hq => ?_) (fun _ _ hq => hq)
    obtain ⟨rfl, h2, h3, h4⟩ := hq
    exact ⟨.inl ⟨.bool true, .bool true, [], rfl, fun _ => rfl, .bool true, post_true l _, fun _ => ⟨List.Pairwise.nil, fun _ hm => (nomatch hm)⟩⟩, h2, h3, h4⟩

/-! ### rules over ANY heap (no ledger) from facts about the written part K: the library's own take a ledger (News) for what they write -/
section
variable {prog : Program} {w : World} {A : Around} {E : Value → Shared → Prop} {s : Shared} {K : Frag}

/-- a def of the module, or a method (qual 'C.m'), entered: the frame is the next address; cells behind it -/
theorem call_fn {R : Result → Shared → Prop} {name qual : Str} {params : Arguments} {body : List Stmt} {scope : Scope} {dV kV doc pm cdv ct oc : Value} {an od : Option Addr} {osl : Array (Option Value)} {f : Addr} {args : Args} {binds : List (Str × Value)}
    (X : K.In s.heap) (hlim : s.heap.NoLimit) (ho : K.lookup f = some ⟨oc, od, .func (fnOf name qual params body scope dV kV doc pm an cdv ct), osl⟩) (hcd : codeIn K cdv qual = true) (hroom : A.depth < recursionLimit)
    (hbind : BindsTo s (fnOf name qual params body scope dV kV doc pm an cdv ct) args binds)
    (hkind : (binds.all fun y => scope.names.lookup y.1 == some .local || scope.names.lookup y.1 == some .cell) = true)
    (h : ∀ s₁, InCallC s s.heap.objs.size (bindL (envOfC qual scope s.heap.objs.size f cdv).kindOf binds fun _ => none) (cellsFrom (s.heap.objs.size + 1) scope.names [])
        (bindC (envOfC qual scope s.heap.objs.size f cdv).kindOf binds fun _ => none) s₁ →
      wpAny (model prog w) (A.deeper (envOfC qual scope s.heap.objs.size f cdv)) (execs body (envOfC qual scope s.heap.objs.size f cdv))
        (fun fl s' => R (.ok (.ret (match fl with | .ret v => v | _ => .none))) s')
        (fun e s' => wpAny (model prog w) (A.deeper (envOfC qual scope s.heap.objs.size f cdv)) (leaving (envOfC qual scope s.heap.objs.size f cdv) e) (fun _ s'' => R (.error e) s'') (fun e' s'' => R (.error e') s'') s') s₁)
    (hco : scope.isCoroutine = false) (hgen : scope.isGenerator = false) (hk : scope.kind = .function) : codeAny (model prog w) A (.call (.ref f) args) R s := by
  refine codeAny_call_function hroom (X _ _ ho) rfl hco hgen rfl (codeRec_of X hcd) (hbind _ _ _ _ ?_)
  refine wpAny_newFunctionEnv_cells hk (kindsX hkind _) fun env he s₁ x => ?_
  subst he
  exact ⟨hlim.keeps x.toInCall.keep, codeAny_func (h s₁ x)⟩

/-- C(..): dict at size, instance at size + 1, then __init__ -/
theorem make_obj {R : Result → Shared → Prop} {C fI : Addr} {rest : List Value} {kw : List (Str × Value)}
    (X : K.In s.heap) (hm : makesIn K C = true) (hi : findIn K (.ref C) "__init__" = some (some (.ref fI))) (hf : isFn K (.ref fI) = true)
    (h : codeAny (model prog w) (A.under (.builtin "type.__call__" ⟨.ref C :: rest, kw⟩)) (.call (.ref fI) ⟨.ref (s.heap.objs.size + 1) :: rest, kw⟩) (InitBack (s.heap.objs.size + 1) R)
      { s with heap := (s.heap.push emptyDict).push (instObj C s.heap.objs.size) }) : codeAny (model prog w) A (.call (.ref C) ⟨rest, kw⟩) R s := by
  obtain ⟨hh, g, d, t, os⟩ := s
  exact make_core (makes_of X hm) (looks_findIn X hi) (fun self => bind_fn X self (beq_iff_eq.mp hf)) (.inl rfl) h

/-- x.name where the instance's dict holds the name and the class does not -/
theorem get_field {x C : Addr} {ox : Obj} {es : List DictEntry} {n : Nat} {name : Str} {expr : Bool} {v : Value} {Q : Value → Shared → Prop}
    (X : K.In s.heap) (I : PySem.W.InstAt s.heap x ox C (some (dictOf es n))) (hg : plainGet K C name = true) (hh : hasDictIn K C = true) (ha : findIn K (.ref C) name = some none)
    (hl : getL name es = some (some v)) (hv : handedIn v = true) (h : Q v { s with toks := s.toks + 1 }) : wpAny (model prog w) A (getAttr (.ref x) name expr) Q E s :=
  get_value X I (plainGet_of hg).1 (findObj_own hh ha rfl hl) hv h

/-- x.m(..): the method found in the class -/
theorem get_method {x C f : Addr} {ox : Obj} {es : List DictEntry} {n : Nat} {name : Str} {pl : Sem Bool} {Q : Value × List Value → Shared → Prop}
    (X : K.In s.heap) (I : PySem.W.InstAt s.heap x ox C (some (dictOf es n))) (hg : plainGet K C name = true) (hf : findIn K (.ref C) name = some (some (.ref f))) (ht : isFn K (.ref f) = true)
    (hl : getL name es = some none) (h : Q (.ref f, [.ref x]) s) : wpAny (model prog w) A (getMethod (.ref x) name pl) Q E s :=
  method_fn X I (plainGet_of hg).1 (plainGet_of hg).2 hf (beq_iff_eq.mp ht) (by show (lookIn name (dictOf es n)).map _ = _; rw [lookIn_dict, hl]; rfl) h

/-! the whole heap as the ledger: makes every rule that writes through a ledger a rule over any heap -/
def noObjs (h : Heap) : Heap := { h with objs := #[] }
theorem noObjs_get (h : Heap) (b : Addr) : (noObjs h).get? b = none := by
  cases e : (noObjs h).get? b with
  | none => rfl
  | some o => exact absurd (Heap.lt_size e) (Nat.not_lt_zero _)
def ledger (h : Heap) (L d : Addr) : List (Addr × Obj) := (List.range h.objs.size).filterMap fun a => if a = L ∨ a = d then none else (h.get? a).map fun o => (a, o)
theorem mem_ledger {h : Heap} {L d a : Addr} {o : Obj} : (a, o) ∈ ledger h L d ↔ a ≠ L ∧ a ≠ d ∧ h.get? a = some o := by
  unfold ledger
  rw [List.mem_filterMap]
  constructor
  · rintro ⟨b, _, e⟩
    split at e
    · cases e
    · rename_i hb
      obtain ⟨o', ho, e'⟩ := Option.map_eq_some_iff.mp e
      cases e'
      exact ⟨fun q => hb (.inl q), fun q => hb (.inr q), ho⟩
  · rintro ⟨n1, n2, ho⟩
    refine ⟨a, List.mem_range.mpr (Heap.lt_size ho), ?_⟩
    rw [if_neg (show ¬ (a = L ∨ a = d) from fun q => q.elim n1 n2), ho] <;> rfl
theorem news_ledger {h : Heap} {L d : Addr} {od : Obj} (hne : d ≠ L) (ho : h.get? d = some od) : News (noObjs h) L h ([] ++ (d, od) :: ledger h L d) := by
  rintro ⟨a, o⟩ hp
  rcases List.mem_cons.mp hp with e | hp
  · cases e
    exact ⟨ho, hne, noObjs_get _ _⟩
  · obtain ⟨n1, n2, e⟩ := mem_ledger.mp hp
    exact ⟨e, n1, noObjs_get _ _⟩
theorem fr_all {h : Heap} {L : Addr} {m : Str → Option Value} (n : h.Ns L m) : Fr (noObjs h) L h m :=
  ⟨n, fun b o e => (by rw [noObjs_get] at e; cases e), Nat.zero_le _⟩
/-- Upd of the head entry (for append_K, setItem_K ..) -/
theorem upd_ledger {h : Heap} {L d : Addr} {o o' : Obj} : Upd d o o' ((d, o) :: ledger h L d) ((d, o') :: ledger h L d) :=
  .head fun ⟨_, _⟩ hp => (mem_ledger.mp hp).2.1

/-- x.name = v over any heap: L is any namespace of the heap (the frame's, say): its map stays, its object is not told; all else but the dict stays -/
theorem set_field {x C dx L : Addr} {ox : Obj} {m : Str → Option Value} {es es' : List DictEntry} {n n' : Nat} {name : Str} {v : Value} {Q : Unit → Shared → Prop}
    (X : K.In s.heap) (I : PySem.W.InstAt s.heap x ox C (some (dictOf es n))) (hd : ox.dict = some dx) (hL : s.heap.Ns L m) (hne : dx ≠ L)
    (hs : findIn K (.ref C) "__setattr__" = some (some (.builtin "object.__setattr__"))) (hp : plainOver K C = true) (ht : takerIn K C name = some none) (hh : hasDictIn K C = true) (hl : (getL name es).isSome = true)
    (e : (putL name (PyData.keyHash w.params name) (.str name (s.toks + 1)) v es, putN name es n) = (es', n')) (hz : es'.length ≤ 1000)
    (h : ∀ h' : Heap, h'.Ns L m → h'.get? dx = some (dictOf es' n') → (∀ b o, b ≠ dx → b ≠ L → s.heap.get? b = some o → h'.get? b = some o) → Q () { s with heap := h', toks := s.toks + 2 }) :
    wpAny (model prog w) A (setAttr (.ref x) name v) Q E s := by
  obtain ⟨e1, e2⟩ := Prod.mk.inj e
  have hdx : s.heap.get? dx = some (dictOf es n) := by
    have := I.dict
    rw [hd] at this
    exact this
  refine set_plain X I hs (osa_dict (s := { s with toks := s.toks + 1 }) (h₀ := noObjs s.heap) (L := L) (m := m) (od := dictOf es n) (od' := dictOf es' n') (es := es') (n := n') (pre := []) (post := ledger s.heap L dx)
    (fr_all hL) (news_ledger hne hdx) X I hd hp ht hh hl (fun _ q => nomatch q) (fun ⟨_, _⟩ q => (mem_ledger.mp q).2.1) (by rw [putName_dict, e1, e2]) rfl hz fun h' F' N' => ?_)
  exact h h' F'.ns (N'.get (List.Mem.head _)) fun b o n1 n2 ho => N'.get (List.Mem.tail _ (mem_ledger.mpr ⟨n2, n1, ho⟩))
end
end Att

namespace L2
open PySem PySem.Spec PyProof.Rows

theorem vals_ints : ∀ {vs : List Value} {ns : List Int}, IntsAre vs ns → Vals (ns.map V.int) vs
  | _, _, .nil => .nil
  | _, _, .cons n t h => .cons ⟨t, rfl⟩ (vals_ints h)

/-- nothing is tracked but the script, known to the object (or it is an object of the module) -/
def Only (H : Hp) : Prop := ∀ b, H b = none ∨ ∃ o xs, H b = some (.frz o (.lst xs))

/-- THE HEAD: the law's promise, at the heap behind the top. F, the promise of the law's def, may use that base is part of the heap (so K.In base, base.Ns mainGlobals mg stand in Mod) -/
theorem law_call {P : Program} {w : World} {K : PySem.W.Frag} {mg mb : Str → Option Value} {CX : CXT} {k : Nat} {fa a : Addr} {fd : FuncData} {x : Str} {sp : Sp} {s₁ : Shared} {vs : List Value} {ns : List Int}
    (KX : K.In s₁.heap) (hns : s₁.heap.Ns mainGlobals mg) (hb : s₁.heap.Ns builtinsNs mb) (hbb : ∀ x : Str, x ≠ "__name__" → mb x = bootBuiltins x) (hlim : s₁.heap.NoLimit) (hg : s₁.gens = #[])
    (ha : s₁.heap.get? a = some { cls := .type "list", data := .seq vs.toArray }) (hi : IntsAre vs ns) (hl : ns.length ≤ sizeLine) (hr : Room k callerA)
    (F : ∀ base : Heap, K.In base → base.Ns mainGlobals mg → FnOk P w K mg base CX k fa fd [x] sp) (hbind : ∀ (s : Shared) (u : Value), BindsTo s fd ⟨[u], []⟩ [(x, u)])
    (hsp : ∀ H : Hp, Only H → SqL K H a (ns.map V.int) → sp [.ref a] H (fun v _ => v = .bl true) fun _ _ _ => False)
    (hCX : ∀ H e s', CX [] H s₁ (fun _ _ _ => False) e s' → False) :
    codeAny (model P w) callerA (.call (.ref fa) ⟨[.ref a], []⟩) (fun r s' => r = .ok (.ret (.bool true)) ∧ OldK s₁.heap s'.heap ∧ s'.os = s₁.os ∧ AllBare s'.gens) s₁ := by
  have rv := vals_ints hi
  have lenV := hi.length
  -- from an abstract heap in which nothing but the script may be tracked
  have core : ∀ H : Hp, Only H → SqL K H a (ns.map V.int) → HOk P w H s₁.heap → (∀ b, H b ≠ none → b = a) → (H a ≠ none → K.lookup a = none) →
      codeAny (model P w) callerA (.call (.ref fa) ⟨[.ref a], []⟩) (fun r s' => r = .ok (.ret (.bool true)) ∧ OldK s₁.heap s'.heap ∧ s'.os = s₁.os ∧ AllBare s'.gens) s₁ := by
    intro H hO hS hok hA hK
    have base_of : ∀ {b : Addr} {o : Obj}, s₁.heap.get? b = some o → H b = none → (hidT s₁.heap H).get? b = some o := fun e n => hidT_get e n
    have noA : ∀ {b : Addr} {o : Obj} {es : Array DictEntry} {ep : Nat}, s₁.heap.get? b = some o → o.data = .dict es ep → H b = none := fun {b o es ep} e d => by
      cases q : H b with
      | none => rfl
      | some u =>
        have e' : b = a := hA b (by rw [q]; simp)
        subst e'
        rw [ha] at e; cases e
        have d' : Data.seq vs.toArray _ = Data.dict es ep := d
        cases d'
    have nsK : ∀ {b : Addr} {m : Str → Option Value}, s₁.heap.Ns b m → (hidT s₁.heap H).Ns b m := fun {b m} ⟨o, es, ep, e, d, r⟩ => ⟨o, es, ep, base_of e (noA e d), d, r⟩
    have hKb : K.In (hidT s₁.heap H) := fun b o e => base_of (KX b o e) (by
      cases q : H b with
      | none => rfl
      | some u =>
        have e' : b = a := hA b (by rw [q]; simp)
        subst e'
        rw [hK (by rw [q]; simp)] at e; cases e)
    have hM : Mod K mg (hidT s₁.heap H) := ⟨hKb, nsK hns, ⟨mb, nsK hb, hbb⟩, let ⟨mc, h1, h2⟩ := hlim; ⟨mc, nsK h1, h2⟩⟩
    have e0 : Env0 P w K mg (hidT s₁.heap H) callerA [] s₁ H := ⟨rfl, hM, fun b o e => of_hidT e, Nat.le_of_eq (hidT_size _ _), trivial, fun b hb => absurd (show b ∈ ([] : List Addr) from hb) (by simp), hok, .of_eq hg⟩
    refine codeAny_mono ((F _ hKb (nsK hns)).run callerA [] s₁ H ⟨[.ref a], []⟩ [.ref a] [.ref a] _ _ hr e0 (hbind s₁ (.ref a)) (.cons rfl .nil) (hsp H hO hS)) fun r s' h => ?_
    cases r with
    | error e => exact (hCX H e s' h).elim
    | ok fl =>
      cases fl with
      | next => exact False.elim h
      | brk => exact False.elim h
      | cont => exact False.elim h
      | ret u =>
        obtain ⟨v, H', os, bare, un, hok', r', q⟩ := h
        have q' : v = .bl true := q
        subst q'
        obtain rfl : u = Value.bool true := r'
        refine ⟨rfl, OldK.of_keep fun b o e => ?_, os, bare⟩
        cases q : H b with
        | none => exact un.keep b o e q (by intro z; exact absurd (show b ∈ ([] : List Addr) from z) (by simp)) (by simp)
        | some u =>
          rcases hO b with z | ⟨ob, xs, z⟩
          · rw [q] at z; cases z
          · have z2 := un.frzs b ob _ z
            obtain ⟨e1, _⟩ := hok b _ z
            obtain ⟨e2, _⟩ := hok' b _ z2
            rw [e] at e1; cases e1
            exact e2
  cases hk : K.lookup a with
  | some o =>
    -- the script is one of the module's own objects
    have e := KX a o hk
    rw [ha] at e
    cases e
    refine core (fun _ => none) (fun _ => .inl rfl) (.inr ⟨_, vs.toArray, _, hk, rfl, rfl, rfl, by rw [List.size_toArray, lenV]; exact hl, by simpa using rv⟩) (fun b u z => by have z' : (none : Option HO) = some u := z; cases z') (fun b z => absurd rfl z) fun z => absurd rfl z
  | none =>
    refine core (fun b => if b = a then some (.frz { cls := .type "list", data := .seq vs.toArray } (.lst (ns.map V.int))) else none) (fun b => ?_) (.inl (.inr ⟨{ cls := .type "list", data := .seq vs.toArray }, if_pos rfl⟩)) (fun b u z => ?_) (fun b z => ?_) fun _ => hk
    · by_cases hb : b = a
      · exact .inr ⟨_, _, if_pos hb⟩
      · exact .inl (if_neg hb)
    · by_cases hb : b = a
      · have z' := (if_pos hb).symm.trans z
        cases z'
        subst hb
        exact ⟨ha, by rw [List.length_map]; exact hl, vs, _, rv, ha⟩
      · have z' := (if_neg hb).symm.trans z
        cases z'
    · by_cases hb : b = a
      · exact hb
      · exact absurd (if_neg hb) z
end L2

namespace L2
open PySem PySem.Spec PyProof.Rows

abbrev KOf {K : PySem.W.Frag} {h : Heap} (_ : K.In h) : PySem.W.Frag := K

/-- the goal that k_head leaves (case hc), from the law's promise. F gives the function object fd (K's own) once, then the promise over every base -/
theorem walk_of {l : PySem.W.OpenLaw} {n k : Nat} {q : Program} {loose : List Str} {XP : (Str → Option Value) → Heap → Prop} {YP : World → Heap → Prop} {d : DefRec} {K : Params → PySem.W.Frag} {CX : World → CXT} {sp : World → Sp} {x : Str}
    (hn : l.most = some n) (hn2 : n ≤ sizeLine) (hdf : d.params.defaults = []) (hr : Room k callerA)
    (hY : ∀ (w : World) (h : Heap), YP w h → (K w.params).In h)
    (F : ∀ (w : World) (mg : Str → Option Value) (fa : Addr) (h : Heap), (K w.params).In h → h.Ns mainGlobals mg → mg d.name = some (.ref fa) →
      ∃ fd : FuncData, (∀ (s : Shared) (u : Value), BindsTo s fd ⟨[u], []⟩ [(x, u)]) ∧
        ∀ base : Heap, (K w.params).In base → base.Ns mainGlobals mg → FnOk l.prog w (K w.params) mg base (CX w) k fa fd [x] (sp w))
    (hsp : ∀ (w : World) (H : Hp) (a : Addr) (ns : List Int), ns.length ≤ n → Only H → SqL (K w.params) H a (ns.map V.int) → sp w [.ref a] H (fun v _ => v = .bl true) fun _ _ _ => False)
    (hCX : ∀ (w : World) (H : Hp) (s : Shared) (e : Value) (s' : Shared), CX w [] H s (fun _ _ _ => False) e s' → False) :
    PySem.W.WalkO q loose XP YP l.row.toRowW d [] (fun f vs => PySem.call f vs) := by
  refine Att.attach_call hn hdf fun w s₀ s₁ mg mb fa o pm cd doc a vs ns G Y ho hd hcd hmg hobj hints hlen hg => ?_
  have KX := hY w _ Y
  obtain ⟨fd, hb, hF⟩ := F w mg fa _ KX G.T.g hmg
  exact law_call KX G.T.g G.T.b G.T.builtins G.T.nolimit hg hobj hints (Nat.le_trans hlen hn2) hr hF hb (fun H hO hS => hsp w H a ns hlen hO hS) fun H e s' => hCX w H s₁ e s'
/-- the same where the promise hangs on the written part alone: (sp := My.sp_law), no hole under a binder -/
theorem walk_ofK {l : PySem.W.OpenLaw} {n k : Nat} {q : Program} {loose : List Str} {XP : (Str → Option Value) → Heap → Prop} {YP : World → Heap → Prop} {d : DefRec} {K : Params → PySem.W.Frag} {CX : CXT} {sp : PySem.W.Frag → Sp} {x : Str}
    (hn : l.most = some n) (hn2 : n ≤ sizeLine) (hdf : d.params.defaults = []) (hr : Room k callerA)
    (hY : ∀ (w : World) (h : Heap), YP w h → (K w.params).In h)
    (F : ∀ (w : World) (mg : Str → Option Value) (fa : Addr) (h : Heap), (K w.params).In h → h.Ns mainGlobals mg → mg d.name = some (.ref fa) →
      ∃ fd : FuncData, (∀ (s : Shared) (u : Value), BindsTo s fd ⟨[u], []⟩ [(x, u)]) ∧
        ∀ base : Heap, (K w.params).In base → base.Ns mainGlobals mg → FnOk l.prog w (K w.params) mg base CX k fa fd [x] (sp (K w.params)))
    (hsp : ∀ (K : PySem.W.Frag) (H : Hp) (a : Addr) (ns : List Int), ns.length ≤ n → Only H → SqL K H a (ns.map V.int) → sp K [.ref a] H (fun v _ => v = .bl true) fun _ _ _ => False)
    (hCX : ∀ (H : Hp) (s : Shared) (e : Value) (s' : Shared), CX [] H s (fun _ _ _ => False) e s' → False) :
    PySem.W.WalkO q loose XP YP l.row.toRowW d [] (fun f vs => PySem.call f vs) :=
  walk_of (K := K) (CX := fun _ => CX) (sp := fun w => sp (K w.params)) hn hn2 hdf hr hY F (fun w H a ns h1 h2 h3 => hsp (K w.params) H a ns h1 h2 h3) fun _ H s e s' => hCX H s e s'
end L2

/- THE LAST THEOREM (shape; LID, My.* are yours):
   My.Adr: a structure of the addresses that your layer names (classes, functions); My.Txt K t: a structure (Prop) of the equations over K;
   My.txt_mk : {K} {implicit addresses ..} (e1 : nsIn K mainGlobals "law" = some (some (.ref f))) (e2 : K.lookup f = some ⟨oc, od, .func (fnOf "law" "law" params body scope dV kV doc pm an cdv ct), sl⟩) (e3 : codeIn K cdv "law" = true) .. : ∃ t, My.Txt K t

set_option maxRecDepth 100000 in
set_option maxHeartbeats 0 in
theorem PySem.Challenge.cw_LID_holds : PySem.Challenge.rw_LID.Holds := by
  w_on; o_law; k_head; (case hw => w_witness2)
  k_fill
  refine L2.walk_of (l := PySem.Challenge.rw_LID) (n := 63) (k := 40) (x := "script") (CX := fun w => ..) (sp := fun _ => My.sp_law) rfl (by decide) rfl ⟨rfl, by decide, by decide⟩ (fun w h Y => PySem.W.kIn_of Y) ?F ?S ?C
  case F =>
    intro w mg fa h KX G hmg
    have T : ∃ t, My.Txt (L2.KOf KX) t := by
      dsimp only [L2.KOf]                          -- K must stand as «<heap const> w.params» for k_is
      refine' My.txt_mk ?e1 ?e2 ?e3 ..
      (case e1 => PySem.W.k_is)                    -- in the order: a name -> its address -> its object -> its parts
      (case e2 => PySem.W.k_is)
      ..
    obtain ⟨t, T⟩ := T
    have e0 := hmg.symm.trans (PySem.W.mg_of KX G T.law)
    cases e0                                       -- fa is the law's own address
    exact ⟨_, fun s u => .of_eq rfl, fun base kb nb => My.law_fn T kb nb⟩     -- if «.of_eq rfl» comes too early: refine' ⟨_, ?b, fun base kb nb => My.law_fn T kb nb⟩; exact fun s u => .of_eq rfl
  case S => exact fun w H a ns hl hO hS => ..
  case C => exact ..
(the tactic k_is has no namespace: write k_is) -/

/-! SHORT WORDS over the layer: a def of the text, its body, what a loop and a test want. -/
namespace L2
open PySem PySem.Spec PyProof.Rows

/-! ### the text by places -/
/-- the j-th statement of a class's body -/
def inClass (s : Stmt) (j : Nat) : Stmt := match s with
  | .ClassDef _ _ _ body _ _ _ _ _ _ _ => body.getD j (.Pass ⟨0, 0, 0, 0⟩)
  | _ => .Pass ⟨0, 0, 0, 0⟩
def defArgs (s : Stmt) : Arguments := match s with
  | .FunctionDef _ a _ _ _ _ _ _ _ _ => a
  | _ => { posonlyargs := [], args := [], vararg := none, kwonlyargs := [], kw_defaults := [], kwarg := none, defaults := [] }
def defBody (s : Stmt) : List Stmt := match s with
  | .FunctionDef _ _ b _ _ _ _ _ _ _ => b
  | _ => []
def defScope (s : Stmt) : Scope := match s with
  | .FunctionDef _ _ _ _ _ _ sc _ _ _ => sc
  | _ => { kind := .function, names := [], isGenerator := false, isCoroutine := false }

/-! ### no exception leaves a def -/
abbrev CX0 : CXT := fun _ _ _ _ _ _ => False
abbrev E0 : XK := fun _ _ _ => False
theorem pass0 {X : Cx} : Passes CX0 X E0 := fun _ _ _ _ _ _ _ h => h.elim

/-! ### a def (or method) of the text as it stands behind the top -/
structure Fun (K : PySem.W.Frag) (x qual : Str) (st : Stmt) (f : Addr) (fd : FuncData) : Prop where
  ex : ∃ (oc : Value) (od : Option Addr) (kV doc pm : Value) (an : Option Addr) (cdv ct : Value) (osl : Array (Option Value)),
    fd = PySem.W.fnOf x qual (defArgs st) (defBody st) (defScope st) .none kV doc pm an cdv ct ∧ K.lookup f = some ⟨oc, od, .func fd, osl⟩ ∧ PySem.W.codeIn K cdv qual = true
  kp : PySem.W.keepIn K (.ref f) = true
section
variable {P : Program} {w : World} {K : PySem.W.Frag} {mg : Str → Option Value} {base : Heap}
/-- THE RULE for a def: its body as a term of rules, and the reading of that term -/
theorem Fun.ok {x qual : Str} {st : Stmt} {f : Addr} {fd : FuncData} {N ps : List Str} {k : Nat} {sp : Sp} (F : Fun K x qual st f fd) (S : FnScope N ps (defScope st)) (len : ∀ vs H Q E, sp vs H Q E → vs.length = ps.length)
    (hbody : ∀ (cdv : Value) (A : Around) (outer : List Env) (s : Shared) (H : Hp) (vs : List V) (Q : VK) (E : XK), Room k (A.deeper (envOfC qual (defScope st) s.heap.objs.size f cdv)) → sp vs H Q E →
      ∃ t, PSs (cxOf CX0 P w K mg base N qual (defScope st) f cdv A outer s H E).nox (defBody st) t ∧ t { nx := fun _ H' => Q .non H', rt := Q } (start N vs) H) : FnOk P w K mg base CX0 (k + 1) f fd ps sp := by
  obtain ⟨oc, od, kV, doc, pm, an, cdv, ct, osl, rfl, lk, hcd⟩ := F.ex
  refine fn_of lk hcd S len fun A outer s H vs Q E hr hsp => ?_
  obtain ⟨t, h, q⟩ := hbody cdv A outer s H vs Q E hr hsp
  exact ⟨t, h.nox, q⟩
/-- how its arguments bind (no defaults): h is «fun _ _ _ _ _ _ us hl => match us, hl with | [_, _], _ => rfl», one _ a parameter -/
theorem Fun.binds {x qual : Str} {st : Stmt} {f : Addr} {fd : FuncData} {ps : List Str} (F : Fun K x qual st f fd)
    (h : ∀ (kV doc pm : Value) (an : Option Addr) (cdv ct : Value) (us : List Value), us.length = ps.length → bindArgs (PySem.W.fnOf x qual (defArgs st) (defBody st) (defScope st) .none kV doc pm an cdv ct) ⟨us, []⟩ = pure (ps.zip us)) : Binds K fd ps [] := by
  obtain ⟨oc, od, kV, doc, pm, an, cdv, ct, osl, rfl, lk, hcd⟩ := F.ex
  exact .all (h kV doc pm an cdv ct)
theorem fun_mk {x qual : Str} {st : Stmt} {f : Addr} {oc : Value} {od an : Option Addr} {osl : Array (Option Value)} {kV doc pm cdv ct : Value} (l : K.lookup f = some ⟨oc, od, .func (PySem.W.fnOf x qual (defArgs st) (defBody st) (defScope st) .none kV doc pm an cdv ct), osl⟩)
    (c : PySem.W.codeIn K cdv qual = true) (k : PySem.W.keepIn K (.ref f) = true) : Fun K x qual st f (PySem.W.fnOf x qual (defArgs st) (defBody st) (defScope st) .none kV doc pm an cdv ct) := ⟨⟨oc, od, kV, doc, pm, an, cdv, ct, osl, rfl, l, c⟩, k⟩
end
theorem hu_of {A : Around} {k : Nat} (hr : Room k A) : A.units + 1 < cLine := Nat.lt_of_le_of_lt (Nat.add_le_add_left (by decide : 1 ≤ 64) _) hr.units
theorem small1000 {n : Nat} (h : n ≤ 1000) : n < sizeLine := Nat.lt_of_le_of_lt h (by decide)

/-! ### expressions in short: the name that stands in the i-th slot -/
section
variable {X : Cx}
theorem pv (i : Nat) {x : Str} {pos : Pos} (hN : X.N[i]? = some x := by rfl) (hv : Vis X.env.scope x := by first | exact Or.inl rfl | exact Or.inr (Or.inl rfl) | exact Or.inr (Or.inr rfl)) (hd : (x == ("__debug__" : Str)) = false := by decide)
    (hcd : (x == ("__classdict__" : Str)) = false := by decide) : PE X (.Name x pos) (tVar i) := pe_var hN hv hd hcd
end

/-! ### tests -/
theorem iteF {A B : Prop} (h : B) : if false = true then A else B := by
  rw [if_neg Bool.false_ne_true]
  exact h
theorem iteT {A B : Prop} (h : A) : if true = true then A else B := by
  rw [if_pos rfl]
  exact h
theorem ite2 {c A B : Prop} [Decidable c] (h1 : c → A) (h2 : ¬ c → B) : if c then A else B := by
  by_cases h : c
  · rw [if_pos h]
    exact h1 h
  · rw [if_neg h]
    exact h2 h
theorem iteNS {c A B : Prop} [Decidable c] (hc : c) (h : B) : if (!decide c) = true then A else B := by
  rw [decide_eq_true hc]
  exact iteF h

/-! ### heaps -/
/-- all that was tracked is as it was -/
def Same (H H' : Hp) : Prop := ∀ b o, H b = some o → H' b = some o
theorem Same.refl (H : Hp) : Same H H := fun _ _ h => h
theorem Same.trans {H H1 H2 : Hp} (a : Same H H1) (b : Same H1 H2) : Same H H2 := fun c o h => b c o (a c o h)
theorem Same.free {H H' : Hp} (e : Same H H') {l : Addr} (h : H' l = Option.none) : H l = Option.none := by
  cases q : H l with
  | none => rfl
  | some o =>
    rw [e l o q] at h
    cases h
theorem Same.seq {K : PySem.W.Frag} {H H' : Hp} {a : Addr} {xs : List V} (e : Same H H') (h : SqL K H a xs) : SqL K H' a xs := by
  rcases h with (h | ⟨o, h⟩) | h
  · exact .inl (.inl (e _ _ h))
  · exact .inl (.inr ⟨o, e _ _ h⟩)
  · exact .inr h

/-! ### lists -/
theorem at_of {xs : List V} {z : Int} {j : Nat} {v : V} (e : z = (j : Int)) (h : xs[j]? = some v) : atI xs z = some v := by
  rw [e]
  exact atI_nat h
theorem nd_ix {α : Type} {l : List α} (hN : l.Nodup) {i j : Nat} {x : α} (a : l[i]? = some x) (b : l[j]? = some x) : i = j := by
  obtain ⟨h1, e1⟩ := List.getElem?_eq_some_iff.mp a
  obtain ⟨h2, e2⟩ := List.getElem?_eq_some_iff.mp b
  exact (List.getElem_inj hN).mp (e1.trans e2.symm)
theorem sum_set : ∀ {l : List Int} {j : Nat} {z y : Int}, l[j]? = some z → (l.set j y).sum = l.sum - z + y
  | [], j, z, y, h => by simp at h
  | a :: r, 0, z, y, h => by
    have e : a = z := Option.some.inj h
    subst e
    show (y :: r).sum = (a :: r).sum - a + y
    rw [List.sum_cons, List.sum_cons]
    omega
  | a :: r, j + 1, z, y, h => by
    have ih := sum_set (l := r) (j := j) (z := z) (y := y) h
    show (a :: r.set j y).sum = (a :: r).sum - z + y
    rw [List.sum_cons, List.sum_cons, ih]
    omega
theorem sum_take : ∀ {l : List Int} {i : Nat} {z : Int}, l[i]? = some z → (l.take (i + 1)).sum = (l.take i).sum + z
  | [], i, z, h => by simp at h
  | a :: r, 0, z, h => by
    have e : a = z := Option.some.inj h
    subst e
    show ([a] : List Int).sum = ([] : List Int).sum + a
    rw [List.sum_cons]
    exact Int.add_comm _ _
  | a :: r, i + 1, z, h => by
    have ih := sum_take (l := r) (i := i) (z := z) h
    show (a :: r.take (i + 1)).sum = (a :: r.take i).sum + z
    rw [List.sum_cons, List.sum_cons, ih]
    omega
/-- a new instance and its __init__ leave all that was tracked as it was -/
theorem Same.made {H H1 : Hp} {x dx C : Addr} (nx : H x = Option.none) (nd : H dx = Option.none) (k : ∀ b o, (upd (upd H dx (.own x)) x (.ins C dx [])) b = some o → b ≠ x → H1 b = some o) : Same H H1 := fun b o e =>
  k b o (by rw [upd_ne (ne_of_none e nx), upd_ne (ne_of_none e nd)]; exact e) (ne_of_none e nx)
end L2

section
set_option maxHeartbeats 2000000
namespace L2
open PySem PySem.Spec PyProof.Rows
open PySem.W (WData Codec OpenSpec Well WellAll ReadsW ReadsAllW)
/-! ### an answer as data -/
mutual
/-- x stands for the datum d, lists and tuples all the way -/
inductive Dw (K : PySem.W.Frag) (H : Hp) : V → WData → Prop
  | non : Dw K H .non .none
  | bl (b : Bool) : Dw K H (.bl b) (.bool b)
  | int (i : Int) : Dw K H (.int i) (.int i)
  | str (x : Str) : Dw K H (.str x) (.str x)
  | byt (b : Array UInt8) : Dw K H (.byt b) (.bytes b.toList)
  | lst {a : Addr} {xs : List V} {ds : List WData} : SqL K H a xs → DwAll K H xs ds → Dw K H (.ref a) (.list ds)
  | tup {a : Addr} {xs : List V} {ds : List WData} : SqT K H a xs → DwAll K H xs ds → Dw K H (.ref a) (.tuple ds)
inductive DwAll (K : PySem.W.Frag) (H : Hp) : List V → List WData → Prop
  | nil : DwAll K H [] []
  | cons {v : V} {vs : List V} {d : WData} {ds : List WData} : Dw K H v d → DwAll K H vs ds → DwAll K H (v :: vs) (d :: ds)
end
theorem dw_ints {K : PySem.W.Frag} {H : Hp} : ∀ ns : List Int, DwAll K H (ns.map V.int) (ns.map WData.int)
  | [] => .nil
  | n :: r => .cons (.int n) (dw_ints r)
theorem ints_dw {K : PySem.W.Frag} {H : Hp} : ∀ (ns : List Int) (xs : List V), DwAll K H xs (ns.map WData.int) → xs = ns.map V.int
  | [], xs, h => by
    cases h
    rfl
  | n :: r, xs, h => by
    cases h with
    | cons h1 h2 =>
      cases h1
      rw [ints_dw r _ h2] <;> rfl
section
variable {P : Program} {w : World} {K : PySem.W.Frag} {H : Hp} {h : Heap} {R : PySem.W.WRecords} {cl : Str → Option Addr}
theorem sqL_at {a : Addr} {xs : List V} (hok : HOk P w H h) (KX : K.In h) (q : SqL K H a xs) : ∃ (its : List Value) (o : Obj) (n : Nat), Vals xs its ∧ h.get? a = some o ∧ o.cls = .type "list" ∧ o.data = .seq its.toArray n := by
  rcases q with q | ⟨o, its, n, e, hc, _, hd, _, hv⟩
  · obtain ⟨_, its, n, hv, e⟩ := (show ObjOk P w H h a (.lst xs) from q.ok hok)
    exact ⟨its, _, n, hv, e, rfl, rfl⟩
  · exact ⟨its.toList, o, n, hv, KX _ _ e, hc, by simp [hd]⟩
theorem sqT_at {a : Addr} {xs : List V} (hok : HOk P w H h) (KX : K.In h) (q : SqT K H a xs) : ∃ (its : List Value) (o : Obj) (n : Nat), Vals xs its ∧ h.get? a = some o ∧ o.cls = .type "tuple" ∧ o.data = .seq its.toArray n := by
  rcases q with q | ⟨o, its, n, e, hc, hd, _, hv⟩
  · obtain ⟨_, its, hv, o, e, hc, n, hd⟩ := (show ObjOk P w H h a (.tup xs) from q.ok hok)
    exact ⟨its, o, n, hv, e, hc, hd⟩
  · exact ⟨its.toList, o, n, hv, KX _ _ e, hc, by simp [hd]⟩
mutual
theorem Dw.reads (hok : HOk P w H h) (KX : K.In h) : ∀ (d : WData) (v : V) (u : Value), Dw K H v d → RelV v u → ∃ as, ReadsW R cl h u d as
  | .none, _, _, x, r => by
    cases x
    cases r
    exact ⟨_, ReadsW.none⟩
  | .bool b, _, _, x, r => by
    cases x
    cases r
    exact ⟨_, ReadsW.bool b⟩
  | .int i, _, _, x, r => by
    cases x
    obtain ⟨t, rfl⟩ := r
    exact ⟨_, ReadsW.int i t⟩
  | .str s, _, _, x, r => by
    cases x
    obtain ⟨t, rfl⟩ := r
    exact ⟨_, ReadsW.str s t⟩
  | .bytes b, _, _, x, r => by
    cases x
    obtain ⟨t, rfl⟩ := r
    exact ⟨_, ReadsW.bytes _ t⟩
  | .list ds, _, _, x, r => by
    cases x with
    | lst hs ha =>
      cases r
      obtain ⟨its, o, n, rv, ho, hc, hd⟩ := sqL_at hok KX hs
      obtain ⟨as, hr⟩ := Dw.readsAll hok KX ds _ its ha rv
      exact ⟨_, ReadsW.list ho hc hd hr⟩
  | .tuple ds, _, _, x, r => by
    cases x with
    | tup hs ha =>
      cases r
      obtain ⟨its, o, n, rv, ho, hc, hd⟩ := sqT_at hok KX hs
      obtain ⟨as, hr⟩ := Dw.readsAll hok KX ds _ its ha rv
      exact ⟨_, ReadsW.tuple ho hc hd hr⟩
  | .float _, _, _, x, _ => by cases x
  | .dict _, _, _, x, _ => by cases x
  | .bytearray _, _, _, x, _ => by cases x
  | .set _, _, _, x, _ => by cases x
  | .frozenset _, _, _, x, _ => by cases x
  | .obj _ _, _, _, x, _ => by cases x
theorem Dw.readsAll (hok : HOk P w H h) (KX : K.In h) : ∀ (ds : List WData) (vs : List V) (us : List Value), DwAll K H vs ds → Vals vs us → ∃ as, ReadsAllW R cl h us ds as
  | [], _, _, x, r => by
    cases x
    cases r
    exact ⟨_, ReadsAllW.nil⟩
  | d :: ds, _, _, x, r => by
    cases x with
    | cons h1 h2 =>
      cases r with
      | cons r1 r2 =>
        obtain ⟨as, q1⟩ := Dw.reads hok KX d _ _ h1 r1
        obtain ⟨bs, q2⟩ := Dw.readsAll hok KX ds _ _ h2 r2
        exact ⟨_, ReadsAllW.cons q1 q2⟩
end
end
/-! ### the arguments -/
mutual
/-- data that a codec tells -/
def plW : WData → Bool
  | .none => true
  | .bool _ => true
  | .int _ => true
  | .str _ => true
  | .bytes _ => true
  | .list xs => plWs xs
  | .tuple xs => plWs xs
  | _ => false
def plWs : List WData → Bool
  | [] => true
  | x :: r => plW x && plWs r
end
theorem plWs_map {α : Type} {f : α → WData} (h : ∀ a, plW (f a) = true) : ∀ l : List α, plWs (l.map f) = true
  | [] => rfl
  | x :: r => by
    show (plW (f x) && plWs (r.map f)) = true
    rw [h x, plWs_map h r] <;> rfl
theorem pl_enc : ∀ (c : Codec) (a : c.denote), plW (c.enc a) = true
  | .unit, _ => rfl
  | .bool, _ => rfl
  | .int _ _, _ => rfl
  | .nat _ _, _ => rfl
  | .u8, _ => rfl
  | .bytes _ _, _ => rfl
  | .text _ _ _ _, _ => rfl
  | .list _ _ c, a => plWs_map (fun x => pl_enc c x) a
  | .pair c d, a => by
    show (plW (c.enc a.1) && (plW (d.enc a.2) && true)) = true
    rw [pl_enc c a.1, pl_enc d a.2] <;> rfl
  | .triple c d e, a => by
    show (plW (c.enc a.1) && (plW (d.enc a.2.1) && (plW (e.enc a.2.2) && true))) = true
    rw [pl_enc c a.1, pl_enc d a.2.1, pl_enc e a.2.2] <;> rfl
  | .option c, none => rfl
  | .option c, some x => pl_enc c x
theorem pl_encAll : ∀ (cs : List Codec) (a : Codec.denoteAll cs), plWs (Codec.encAll cs a) = true
  | [], _ => rfl
  | c :: cs, a => by
    show (plW (c.enc a.1) && plWs (Codec.encAll cs a.2)) = true
    rw [pl_enc c a.1, pl_encAll cs a.2] <;> rfl
theorem weight_mem : ∀ {xs : List WData} {d : WData}, d ∈ xs → d.weight ≤ WData.weightAll xs
  | [], d, h => absurd h (by simp)
  | x :: r, d, h => by
    show d.weight ≤ x.weight + 1 + WData.weightAll r
    rcases List.mem_cons.mp h with e | m
    · rw [e]
      omega
    · have z := weight_mem m
      omega
def toV : Value → V
  | .none => .non
  | .bool b => .bl b
  | .int i _ => .int i
  | .str x _ => .str x
  | .bytes b _ => .byt b
  | .ref a => .ref a
  | _ => .non
/-- a value of the arguments, its objects among A -/
def OkU (A : List Addr) : Value → Prop
  | .none => True
  | .bool _ => True
  | .int _ _ => True
  | .str _ _ => True
  | .bytes _ _ => True
  | .ref a => a ∈ A
  | _ => False
theorem OkU.mono {A B : List Addr} (h : ∀ a ∈ A, a ∈ B) : ∀ {u : Value}, OkU A u → OkU B u := fun {u} x => by
  cases u with
  | ref a => exact h a x
  | none => trivial
  | bool b => trivial
  | int i t => trivial
  | str s t => trivial
  | bytes b t => trivial
  | _ => exact False.elim x
theorem relV_toV {A : List Addr} {u : Value} (x : OkU A u) : RelV (toV u) u := by
  cases u with
  | ref a => rfl
  | none => rfl
  | bool b => rfl
  | int i t => exact ⟨t, rfl⟩
  | str s t => exact ⟨t, rfl⟩
  | bytes b t => exact ⟨t, rfl⟩
  | _ => exact False.elim x
theorem vals_toV {A : List Addr} : ∀ {vs : List Value}, (∀ u ∈ vs, OkU A u) → Vals (vs.map toV) vs
  | [], _ => .nil
  | u :: r, h => .cons (relV_toV (h u (List.mem_cons_self ..))) (vals_toV fun x hx => h x (List.mem_cons_of_mem _ hx))
/-- an object of the arguments -/
def ArgOb (h : Heap) (A : List Addr) (a : Addr) : Prop := ∃ vs : List Value, vs.length ≤ sizeLine ∧ (∀ u ∈ vs, OkU A u) ∧
  (h.get? a = some { cls := .type "list", data := .seq vs.toArray } ∨ h.get? a = some { cls := .type "tuple", data := .seq vs.toArray })
theorem ArgOb.mono {h : Heap} {A B : List Addr} {a : Addr} (k : ∀ a ∈ A, a ∈ B) (x : ArgOb h A a) : ArgOb h B a := by
  obtain ⟨vs, h1, h2, h3⟩ := x
  exact ⟨vs, h1, fun u hu => (h2 u hu).mono k, h3⟩
theorem wellAll_len {P : Params} {h : Heap} : ∀ {vs : List Value} {ds : List WData}, WellAll P h vs ds → vs.length = ds.length
  | _, _, .nil => rfl
  | _, _, .cons _ b => by
    show _ + 1 = _ + 1
    rw [wellAll_len b]
theorem well_list {P : Params} {h : Heap} {v : Value} {ds : List WData} (x : Well P h v (.list ds)) : ∃ (a : Addr) (vs : List Value), v = .ref a ∧ h.get? a = some { cls := .type "list", data := .seq vs.toArray } ∧ WellAll P h vs ds := by
  cases x with
  | list ho hall => exact ⟨_, _, rfl, ho, hall⟩
theorem well_tuple {P : Params} {h : Heap} {v : Value} {ds : List WData} (x : Well P h v (.tuple ds)) : ∃ (a : Addr) (vs : List Value), v = .ref a ∧ h.get? a = some { cls := .type "tuple", data := .seq vs.toArray } ∧ WellAll P h vs ds := by
  cases x with
  | tuple ho hall => exact ⟨_, _, rfl, ho, hall⟩
theorem well_cons {P : Params} {h : Heap} {us : List Value} {d : WData} {ds : List WData} (x : WellAll P h us (d :: ds)) : ∃ (v : Value) (vs : List Value), us = v :: vs ∧ Well P h v d ∧ WellAll P h vs ds := by
  cases x with
  | cons a b => exact ⟨_, _, rfl, a, b⟩
theorem line_of {n : Nat} (h : n ≤ 1048576) : n ≤ sizeLine := Nat.le_trans h (by decide)
section
variable {P : Params} {h : Heap}
mutual
theorem area_one : ∀ (d : WData) (v : Value), Well P h v d → plW d = true → d.weight ≤ 1048576 → ∃ A : List Addr, OkU A v ∧ ∀ a ∈ A, ArgOb h A a
  | .none, _, x, _, _ => by
    cases x
    exact ⟨[], trivial, fun a m => absurd m (by simp)⟩
  | .bool b, _, x, _, _ => by
    cases x
    exact ⟨[], trivial, fun a m => absurd m (by simp)⟩
  | .int i, _, x, _, _ => by
    cases x
    exact ⟨[], trivial, fun a m => absurd m (by simp)⟩
  | .str s, _, x, _, _ => by
    cases x
    exact ⟨[], trivial, fun a m => absurd m (by simp)⟩
  | .bytes b, _, x, _, _ => by
    cases x
    exact ⟨[], trivial, fun a m => absurd m (by simp)⟩
  | .list ds, _, x, p, z => by
    obtain ⟨a, vs, rfl, ho, hall⟩ := well_list x
    have z2 : WData.weightAll ds ≤ 1048576 := z
    obtain ⟨A, h1, h2⟩ := area_all ds _ hall p fun d hd => Nat.le_trans (weight_mem hd) z2
    have k : ∀ b ∈ A, b ∈ a :: A := fun b hb => List.mem_cons_of_mem _ hb
    refine ⟨a :: A, List.mem_cons_self .., fun b hb => ?_⟩
    rcases List.mem_cons.mp hb with e | m
    · rw [e]
      exact ⟨vs, line_of (by rw [wellAll_len hall]; exact Nat.le_trans (PySem.W.length_le_weightAllW ds) z2), fun u hu => (h1 u hu).mono k, .inl ho⟩
    · exact (h2 b m).mono k
  | .tuple ds, _, x, p, z => by
    obtain ⟨a, vs, rfl, ho, hall⟩ := well_tuple x
    have z2 : WData.weightAll ds ≤ 1048576 := z
    obtain ⟨A, h1, h2⟩ := area_all ds _ hall p fun d hd => Nat.le_trans (weight_mem hd) z2
    have k : ∀ b ∈ A, b ∈ a :: A := fun b hb => List.mem_cons_of_mem _ hb
    refine ⟨a :: A, List.mem_cons_self .., fun b hb => ?_⟩
    rcases List.mem_cons.mp hb with e | m
    · rw [e]
      exact ⟨vs, line_of (by rw [wellAll_len hall]; exact Nat.le_trans (PySem.W.length_le_weightAllW ds) z2), fun u hu => (h1 u hu).mono k, .inr ho⟩
    · exact (h2 b m).mono k
  | .float _, _, _, p, _ => Bool.noConfusion (show false = true from p)
  | .dict _, _, _, p, _ => Bool.noConfusion (show false = true from p)
  | .bytearray _, _, _, p, _ => Bool.noConfusion (show false = true from p)
  | .set _, _, _, p, _ => Bool.noConfusion (show false = true from p)
  | .frozenset _, _, _, p, _ => Bool.noConfusion (show false = true from p)
  | .obj _ _, _, _, p, _ => Bool.noConfusion (show false = true from p)
theorem area_all : ∀ (ds : List WData) (vs : List Value), WellAll P h vs ds → plWs ds = true → (∀ d ∈ ds, d.weight ≤ 1048576) → ∃ A : List Addr, (∀ u ∈ vs, OkU A u) ∧ ∀ a ∈ A, ArgOb h A a
  | [], _, x, _, _ => by
    cases x
    exact ⟨[], fun u m => absurd m (by simp), fun a m => absurd m (by simp)⟩
  | d :: ds, _, x, p, z => by
    obtain ⟨v, vs, rfl, x1, x2⟩ := well_cons x
    have q : plW d = true ∧ plWs ds = true := Bool.and_eq_true_iff.mp p
    obtain ⟨A, a1, a2⟩ := area_one d v x1 q.1 (z d (List.mem_cons_self ..))
    obtain ⟨B, b1, b2⟩ := area_all ds vs x2 q.2 fun e he => z e (List.mem_cons_of_mem _ he)
    have kA : ∀ b ∈ A, b ∈ A ++ B := fun b hb => List.mem_append.mpr (.inl hb)
    have kB : ∀ b ∈ B, b ∈ A ++ B := fun b hb => List.mem_append.mpr (.inr hb)
    refine ⟨A ++ B, fun u hu => ?_, fun b hb => ?_⟩
    · rcases List.mem_cons.mp hu with e | m
      · rw [e]
        exact a1.mono kA
      · exact (b1 u m).mono kB
    · rcases List.mem_append.mp hb with m | m
      · exact (a2 b m).mono kA
      · exact (b2 b m).mono kB
end
end
/-- what is tracked of an argument's object -/
def hoOf (o : Obj) : Option HO := match o.data with
  | .seq vs _ => if (o.cls == Value.type "list") = true then some (.frz o (.lst (vs.toList.map toV))) else some (.frz o (.tup (vs.toList.map toV)))
  | _ => none
def argH (K : PySem.W.Frag) (h : Heap) (A : List Addr) : Hp := fun b => if b ∈ A then (if (K.lookup b).isNone = true then (h.get? b).bind hoOf else none) else none
/-- nothing is tracked but what is known to the object -/
def OnlyF (H : Hp) : Prop := ∀ b, H b = none ∨ ∃ o u, H b = some (.frz o u)
theorem hoOf_lst (vs : List Value) : hoOf { cls := .type "list", data := .seq vs.toArray } = some (.frz { cls := .type "list", data := .seq vs.toArray } (.lst (vs.map toV))) := by
  show (if (Value.type "list" == Value.type "list") = true then some (HO.frz { cls := .type "list", data := .seq vs.toArray } (.lst (vs.toArray.toList.map toV))) else some (HO.frz { cls := .type "list", data := .seq vs.toArray } (.tup (vs.toArray.toList.map toV)))) = _
  rw [if_pos (beq_self_eq_true _)]
theorem hoOf_tup (vs : List Value) : hoOf { cls := .type "tuple", data := .seq vs.toArray } = some (.frz { cls := .type "tuple", data := .seq vs.toArray } (.tup (vs.map toV))) := by
  show (if (Value.type "tuple" == Value.type "list") = true then some (HO.frz { cls := .type "tuple", data := .seq vs.toArray } (.lst (vs.toArray.toList.map toV))) else some (HO.frz { cls := .type "tuple", data := .seq vs.toArray } (.tup (vs.toArray.toList.map toV)))) = _
  rw [if_neg (by decide)]
section
variable {P : Program} {w : World} {K : PySem.W.Frag} {h : Heap} {A : List Addr}
theorem argH_at {b : Addr} {o : Obj} (hb : b ∈ A) (hk : K.lookup b = none) (e : h.get? b = some o) : argH K h A b = hoOf o := by
  unfold argH
  rw [if_pos hb, hk, if_pos (show (none : Option Obj).isNone = true from rfl), e] <;> rfl
theorem of_argH {b : Addr} {u : HO} (q : argH K h A b = some u) : b ∈ A ∧ K.lookup b = none := by
  unfold argH at q
  by_cases hb : b ∈ A
  · rw [if_pos hb] at q
    cases hk : K.lookup b with
    | none => exact ⟨hb, rfl⟩
    | some o =>
      rw [hk, if_neg (by simp)] at q
      cases q
  · rw [if_neg hb] at q
    cases q
/-- what stands tracked -/
theorem argH_is (ar : ∀ a ∈ A, ArgOb h A a) {b : Addr} {u : HO} (q : argH K h A b = some u) : K.lookup b = none ∧ ∃ vs : List Value, vs.length ≤ sizeLine ∧ (∀ u ∈ vs, OkU A u) ∧
    ((h.get? b = some { cls := .type "list", data := .seq vs.toArray } ∧ u = .frz { cls := .type "list", data := .seq vs.toArray } (.lst (vs.map toV))) ∨
     (h.get? b = some { cls := .type "tuple", data := .seq vs.toArray } ∧ u = .frz { cls := .type "tuple", data := .seq vs.toArray } (.tup (vs.map toV)))) := by
  obtain ⟨hb, hk⟩ := of_argH q
  obtain ⟨vs, h1, h2, h3⟩ := ar b hb
  refine ⟨hk, vs, h1, h2, ?_⟩
  rcases h3 with e | e
  · rw [argH_at hb hk e, hoOf_lst] at q
    exact .inl ⟨e, (Option.some.inj q).symm⟩
  · rw [argH_at hb hk e, hoOf_tup] at q
    exact .inr ⟨e, (Option.some.inj q).symm⟩
theorem argH_only (ar : ∀ a ∈ A, ArgOb h A a) : OnlyF (argH K h A) := fun b => by
  cases q : argH K h A b with
  | none => exact .inl rfl
  | some u =>
    obtain ⟨_, vs, _, _, ⟨_, e⟩ | ⟨_, e⟩⟩ := argH_is ar q
    · exact .inr ⟨_, _, by rw [e]⟩
    · exact .inr ⟨_, _, by rw [e]⟩
theorem argH_ok (ar : ∀ a ∈ A, ArgOb h A a) : HOk P w (argH K h A) h := fun b u q => by
  obtain ⟨_, vs, h1, h2, ⟨e, rfl⟩ | ⟨e, rfl⟩⟩ := argH_is ar q
  · exact ⟨e, by rw [List.length_map]; exact h1, vs, _, vals_toV h2, e⟩
  · exact ⟨e, by rw [List.length_map]; exact h1, vs, vals_toV h2, _, e, rfl, _, rfl⟩
theorem seq_inj {c c' : Value} {vs us : List Value} (e : (some { cls := c, data := .seq vs.toArray } : Option Obj) = some { cls := c', data := .seq us.toArray }) : c = c' ∧ vs = us := by
  have e1 := Option.some.inj e
  have e2 : c = c' := congrArg Obj.cls e1
  have e3 : Data.seq vs.toArray = Data.seq us.toArray := congrArg Obj.data e1
  injection e3 with e4
  refine ⟨e2, ?_⟩
  have e5 := congrArg Array.toList e4
  simpa using e5
/-- a list argument -/
theorem argL (KX : K.In h) (ar : ∀ a ∈ A, ArgOb h A a) {a : Addr} {vs : List Value} (ha : a ∈ A) (e : h.get? a = some { cls := .type "list", data := .seq vs.toArray }) : (∀ u ∈ vs, OkU A u) ∧ SqL K (argH K h A) a (vs.map toV) := by
  obtain ⟨us, h1, h2, h3⟩ := ar a ha
  have hu : us = vs := by
    rcases h3 with q | q
    · rw [e] at q
      exact (seq_inj q).2.symm
    · rw [e] at q
      exact absurd (Value.type.inj (seq_inj q).1) (by decide)
  subst hu
  refine ⟨h2, ?_⟩
  cases hk : K.lookup a with
  | none => exact .inl (.inr ⟨_, by rw [argH_at ha hk e, hoOf_lst]⟩)
  | some o =>
    have e2 := KX a o hk
    rw [e] at e2
    obtain rfl := Option.some.inj e2
    exact .inr ⟨_, us.toArray, _, hk, rfl, rfl, rfl, by rw [List.size_toArray]; exact h1, by simpa using vals_toV h2⟩
theorem argT (KX : K.In h) (ar : ∀ a ∈ A, ArgOb h A a) {a : Addr} {vs : List Value} (ha : a ∈ A) (e : h.get? a = some { cls := .type "tuple", data := .seq vs.toArray }) : (∀ u ∈ vs, OkU A u) ∧ SqT K (argH K h A) a (vs.map toV) := by
  obtain ⟨us, h1, h2, h3⟩ := ar a ha
  have hu : us = vs := by
    rcases h3 with q | q
    · rw [e] at q
      exact absurd (Value.type.inj (seq_inj q).1) (by decide)
    · rw [e] at q
      exact (seq_inj q).2.symm
  subst hu
  refine ⟨h2, ?_⟩
  cases hk : K.lookup a with
  | none => exact .inl (.inr ⟨_, by rw [argH_at ha hk e, hoOf_tup]⟩)
  | some o =>
    have e2 := KX a o hk
    rw [e] at e2
    obtain rfl := Option.some.inj e2
    exact .inr ⟨_, us.toArray, _, hk, rfl, rfl, by rw [List.size_toArray]; exact h1, by simpa using vals_toV h2⟩
mutual
theorem dw_one {Pm : Params} (KX : K.In h) (ar : ∀ a ∈ A, ArgOb h A a) : ∀ (d : WData) (v : Value), Well Pm h v d → plW d = true → OkU A v → Dw K (argH K h A) (toV v) d
  | .none, _, x, _, _ => by
    cases x
    exact .non
  | .bool b, _, x, _, _ => by
    cases x
    exact .bl b
  | .int i, _, x, _, _ => by
    cases x
    exact .int i
  | .str s, _, x, _, _ => by
    cases x
    exact .str s
  | .bytes b, _, x, _, _ => by
    cases x
    have z := Dw.byt (K := K) (H := argH K h A) b.toArray
    exact z
  | .list ds, _, x, p, hu => by
    obtain ⟨a, vs, rfl, ho, hall⟩ := well_list x
    obtain ⟨h2, hs⟩ := argL KX ar hu ho
    exact .lst hs (dw_all KX ar ds _ hall p h2)
  | .tuple ds, _, x, p, hu => by
    obtain ⟨a, vs, rfl, ho, hall⟩ := well_tuple x
    obtain ⟨h2, hs⟩ := argT KX ar hu ho
    exact .tup hs (dw_all KX ar ds _ hall p h2)
  | .float _, _, _, p, _ => Bool.noConfusion (show false = true from p)
  | .dict _, _, _, p, _ => Bool.noConfusion (show false = true from p)
  | .bytearray _, _, _, p, _ => Bool.noConfusion (show false = true from p)
  | .set _, _, _, p, _ => Bool.noConfusion (show false = true from p)
  | .frozenset _, _, _, p, _ => Bool.noConfusion (show false = true from p)
  | .obj _ _, _, _, p, _ => Bool.noConfusion (show false = true from p)
theorem dw_all {Pm : Params} (KX : K.In h) (ar : ∀ a ∈ A, ArgOb h A a) : ∀ (ds : List WData) (vs : List Value), WellAll Pm h vs ds → plWs ds = true → (∀ u ∈ vs, OkU A u) → DwAll K (argH K h A) (vs.map toV) ds
  | [], _, x, _, _ => by
    cases x
    exact .nil
  | d :: ds, _, x, p, hu => by
    obtain ⟨v, vs, rfl, x1, x2⟩ := well_cons x
    have q : plW d = true ∧ plWs ds = true := Bool.and_eq_true_iff.mp p
    exact .cons (dw_one KX ar d v x1 q.1 (hu _ (List.mem_cons_self ..))) (dw_all KX ar ds vs x2 q.2 fun u m => hu u (List.mem_cons_of_mem _ m))
end
end
/-! ### the call -/
theorem spec_call {P : Program} {w : World} {K : PySem.W.Frag} {mg mb : Str → Option Value} {CX : CXT} {k : Nat} {fa : Addr} {fd : FuncData} {ps : List Str} {sp : Sp} {s₁ : Shared} {vals : List Value} {ds : List WData} {R : PySem.W.WRecords} {cl : Str → Option Addr} {d0 : WData}
    (KX : K.In s₁.heap) (hns : s₁.heap.Ns mainGlobals mg) (hb : s₁.heap.Ns builtinsNs mb) (hbb : ∀ x : Str, x ≠ "__name__" → mb x = bootBuiltins x) (hlim : s₁.heap.NoLimit) (hg : s₁.gens = #[])
    (hwl : WellAll w.params s₁.heap vals ds) (hpl : plWs ds = true) (hwt : ∀ d ∈ ds, d.weight ≤ 1048576) (hr : Room k callerA)
    (F : ∀ base : Heap, K.In base → base.Ns mainGlobals mg → FnOk P w K mg base CX k fa fd ps sp) (hbind : ∀ (s : Shared) (us : List Value), us.length = ps.length → BindsTo s fd ⟨us, []⟩ (ps.zip us)) (hlen : ds.length = ps.length)
    (hsp : ∀ (H : Hp) (xs : List V), OnlyF H → DwAll K H xs ds → sp xs H (fun v H' => Dw K H' v d0) fun _ _ _ => False)
    (hCX : ∀ H e s', CX [] H s₁ (fun _ _ _ => False) e s' → False) :
    codeAny (model P w) callerA (.call (.ref fa) ⟨vals, []⟩) (fun r s' => ∃ u as, r = .ok (.ret u) ∧ ReadsW R cl s'.heap u d0 as ∧ OldK s₁.heap s'.heap ∧ s'.os = s₁.os ∧ AllBare s'.gens) s₁ := by
  obtain ⟨A, ho, ar⟩ := area_all ds vals hwl hpl hwt
  have hO : OnlyF (argH K s₁.heap A) := argH_only ar
  have hok : HOk P w (argH K s₁.heap A) s₁.heap := argH_ok ar
  have hS := dw_all KX ar ds vals hwl hpl ho
  have hV := vals_toV ho
  have hK : ∀ b u, argH K s₁.heap A b = some u → K.lookup b = none := fun b u q => (argH_is ar q).1
  have noA : ∀ {b : Addr} {o : Obj} {es : Array DictEntry} {ep : Nat}, s₁.heap.get? b = some o → o.data = .dict es ep → argH K s₁.heap A b = none := fun {b o es ep} e d => by
    cases q : argH K s₁.heap A b with
    | none => rfl
    | some u =>
      obtain ⟨_, vs, _, _, ⟨e2, _⟩ | ⟨e2, _⟩⟩ := argH_is ar q
      · rw [e2] at e
        cases e
        have d' : Data.seq vs.toArray _ = Data.dict es ep := d
        cases d'
      · rw [e2] at e
        cases e
        have d' : Data.seq vs.toArray _ = Data.dict es ep := d
        cases d'
  generalize argH K s₁.heap A = H at hO hok hS hK noA
  have base_of : ∀ {b : Addr} {o : Obj}, s₁.heap.get? b = some o → H b = none → (hidT s₁.heap H).get? b = some o := fun e n => hidT_get e n
  have nsK : ∀ {b : Addr} {m : Str → Option Value}, s₁.heap.Ns b m → (hidT s₁.heap H).Ns b m := fun {b m} ⟨o, es, ep, e, d, r⟩ => ⟨o, es, ep, base_of e (noA e d), d, r⟩
  have nK : ∀ b o, K.lookup b = some o → H b = none := fun b o e => by
    cases q : H b with
    | none => rfl
    | some u =>
      rw [hK b u q] at e
      cases e
  have hKb : K.In (hidT s₁.heap H) := fun b o e => base_of (KX b o e) (nK b o e)
  have hM : Mod K mg (hidT s₁.heap H) := ⟨hKb, nsK hns, ⟨mb, nsK hb, hbb⟩, let ⟨mc, h1, h2⟩ := hlim; ⟨mc, nsK h1, h2⟩⟩
  have e0 : Env0 P w K mg (hidT s₁.heap H) callerA [] s₁ H := ⟨rfl, hM, fun b o e => of_hidT e, Nat.le_of_eq (hidT_size _ _), trivial, fun b hb => absurd (show b ∈ ([] : List Addr) from hb) (by simp), hok, .of_eq hg⟩
  have hl : vals.length = ps.length := by rw [wellAll_len hwl]; exact hlen
  refine codeAny_mono ((F _ hKb (nsK hns)).run callerA [] s₁ H ⟨vals, []⟩ vals (vals.map toV) _ _ hr e0 (hbind s₁ vals hl) hV (hsp H _ hO hS)) fun r s' x => ?_
  cases r with
  | error e => exact (hCX H e s' x).elim
  | ok fl =>
    cases fl with
    | next => exact False.elim x
    | brk => exact False.elim x
    | cont => exact False.elim x
    | ret u =>
      obtain ⟨v, H', os, bare, un, hok', r', q⟩ := x
      have kept : ∀ b o, s₁.heap.get? b = some o → s'.heap.get? b = some o := fun b o e => by
        cases q2 : H b with
        | none => exact un.keep b o e q2 (by intro z; exact absurd (show b ∈ ([] : List Addr) from z) (by simp)) (by simp)
        | some u2 =>
          rcases hO b with z | ⟨ob, u3, z⟩
          · rw [q2] at z
            cases z
          · have z2 := un.frzs b ob _ z
            obtain ⟨e1, _⟩ := hok b _ z
            obtain ⟨e2, _⟩ := hok' b _ z2
            rw [e] at e1
            cases e1
            exact e2
      have KX' : K.In s'.heap := fun b o e => kept b o (KX b o e)
      obtain ⟨as, hrd⟩ := Dw.reads (R := R) (cl := cl) hok' KX' d0 v u q r'
      exact ⟨u, as, rfl, hrd, OldK.of_keep kept, os, bare⟩
/-! ### the row -/
theorem layable_weight {ds : List WData} (h : WData.layableAll ds = true) : ∀ d ∈ ds, d.weight ≤ 1048576 := fun d hd =>
  (PySem.W.layableW_iff.mp (List.all_eq_true.mp h d hd)).2.2
theorem encAll_len : ∀ (cs : List Codec) (a : Codec.denoteAll cs), (Codec.encAll cs a).length = cs.length
  | [], _ => rfl
  | c :: cs, a => by
    show (Codec.encAll cs a.2).length + 1 = cs.length + 1
    rw [encAll_len cs a.2]
/-- the goal that k_headS leaves (case hc), from the promise of the row's def: whatever the arguments that the codecs let and the row asks for, the def gives what stands for enc (f ..) -/
theorem walk_spec {r : OpenSpec} {k : Nat} {q : Program} {loose : List Str} {XP : (Str → Option Value) → Heap → Prop} {YP : World → Heap → Prop} {d : DefRec} {K : Params → PySem.W.Frag} {CX : World → CXT} {ps : List Str} {sp : World → Sp}
    (hwell : r.wellSaid = true) (hdf : d.params.defaults = []) (hlen : r.args.length = ps.length) (hr : Room k callerA)
    (hY : ∀ (w : World) (h : Heap), YP w h → (K w.params).In h)
    (F : ∀ (w : World) (mg : Str → Option Value) (fa : Addr) (h : Heap), YP w h → (K w.params).In h → h.Ns mainGlobals mg → mg d.name = some (.ref fa) →
      ∃ fd : FuncData, (∀ (s : Shared) (us : List Value), us.length = ps.length → BindsTo s fd ⟨us, []⟩ (ps.zip us)) ∧
        ∀ base : Heap, (K w.params).In base → base.Ns mainGlobals mg → FnOk r.prog w (K w.params) mg base (CX w) k fa fd ps (sp w))
    (hsp : ∀ (w : World) (H : Hp) (xs : List V) (a : Codec.denoteAll r.args), OnlyF H → Codec.withinAll r.args a = true → Codec.app r.args r.asked a = true → DwAll (K w.params) H xs (Codec.encAll r.args a) →
      sp w xs H (fun v H' => Dw (K w.params) H' v (r.ret.enc (Codec.app r.args r.f a))) fun _ _ _ => False)
    (hCX : ∀ (w : World) (H : Hp) (s : Shared) (e : Value) (s' : Shared), CX w [] H s (fun _ _ _ => False) e s' → False) :
    PySem.W.WalkOS q loose XP YP r d [] (fun f vs => PySem.call f vs) := by
  intro w s_0 s₁ mg mb G Y fa o pm cd doc dV kV ho hd hcd hD hmg hg args vals as hpre hlay hrd hwl hlo
  obtain ⟨a, e1, e2⟩ := PySem.W.os_pre_some hpre
  obtain ⟨e3, hwi⟩ := Codec.encAll_of_decAll r.args args a e1
  subst e3
  have KX := hY w _ Y
  obtain ⟨fd, hb, hF⟩ := F w mg fa _ Y KX G.T.g hmg
  refine PySem.W.enter_call (codeAny_mono (spec_call (R := []) (cl := classAt s_0.heap) (d0 := r.ret.enc (Codec.app r.args r.f a)) KX G.T.g G.T.b G.T.builtins G.T.nolimit hg hwl (pl_encAll _ _) (layable_weight hlay) hr hF hb (by rw [encAll_len]; exact hlen)
    (fun H xs hO hS => hsp w H xs a hO hwi e2 hS) fun H e s' => hCX w H s₁ e s') fun r' s' hq => ?_)
  obtain ⟨u, as', rfl, h1, h2, h3, h4⟩ := hq
  exact ⟨.inl ⟨u, _, as', rfl, fun _ => rfl, h1, (OpenSpec.post_iff hwell hwi _ _).mpr rfl, fun z => Bool.noConfusion (show false = true from z)⟩, h2, h3, h4⟩
/-- the same where the promise hangs on the written part alone -/
theorem walk_specK {r : OpenSpec} {k : Nat} {q : Program} {loose : List Str} {XP : (Str → Option Value) → Heap → Prop} {YP : World → Heap → Prop} {d : DefRec} {K : Params → PySem.W.Frag} {CX : CXT} {ps : List Str} {sp : PySem.W.Frag → Sp}
    (hwell : r.wellSaid = true) (hdf : d.params.defaults = []) (hlen : r.args.length = ps.length) (hr : Room k callerA)
    (hY : ∀ (w : World) (h : Heap), YP w h → (K w.params).In h)
    (F : ∀ (w : World) (mg : Str → Option Value) (fa : Addr) (h : Heap), YP w h → (K w.params).In h → h.Ns mainGlobals mg → mg d.name = some (.ref fa) →
      ∃ fd : FuncData, (∀ (s : Shared) (us : List Value), us.length = ps.length → BindsTo s fd ⟨us, []⟩ (ps.zip us)) ∧
        ∀ base : Heap, (K w.params).In base → base.Ns mainGlobals mg → FnOk r.prog w (K w.params) mg base CX k fa fd ps (sp (K w.params)))
    (hsp : ∀ (K : PySem.W.Frag) (H : Hp) (xs : List V) (a : Codec.denoteAll r.args), OnlyF H → Codec.withinAll r.args a = true → Codec.app r.args r.asked a = true → DwAll K H xs (Codec.encAll r.args a) →
      sp K xs H (fun v H' => Dw K H' v (r.ret.enc (Codec.app r.args r.f a))) fun _ _ _ => False)
    (hCX : ∀ (H : Hp) (s : Shared) (e : Value) (s' : Shared), CX [] H s (fun _ _ _ => False) e s' → False) :
    PySem.W.WalkOS q loose XP YP r d [] (fun f vs => PySem.call f vs) :=
  walk_spec (K := K) (CX := fun _ => CX) (sp := fun w => sp (K w.params)) hwell hdf hlen hr hY F (fun w H xs a h1 h2 h3 h4 => hsp (K w.params) H xs a h1 h2 h3 h4) fun _ H s e s' => hCX H s e s'
end L2
end

set_option maxRecDepth 100000
namespace An
/-! ### numbers and their bits -/
theorem land_split (n a b : Nat) : a &&& b = 2 ^ n * (a / 2 ^ n &&& b / 2 ^ n) + (a % 2 ^ n &&& b % 2 ^ n) := by
  rw [← Nat.and_div_two_pow, ← Nat.and_mod_two_pow]
  exact (Nat.div_add_mod _ _).symm
theorem lor_split (n a b : Nat) : a ||| b = 2 ^ n * (a / 2 ^ n ||| b / 2 ^ n) + (a % 2 ^ n ||| b % 2 ^ n) := by
  rw [← Nat.or_div_two_pow, ← Nat.or_mod_two_pow]
  exact (Nat.div_add_mod _ _).symm
def SGN : Nat := 9223372036854775808
theorem sgn_and {x : Nat} (h : x < 2 ^ 64) : x &&& 9223372036854775808 = if Sv21.minus x = true then 9223372036854775808 else 0 := by
  rw [land_split 63]
  have e1 : (9223372036854775808 : Nat) / 2 ^ 63 = 1 := by decide
  have e2 : (9223372036854775808 : Nat) % 2 ^ 63 = 0 := by decide
  rw [e1, e2, Nat.and_zero, Nat.add_zero]
  unfold Sv21.minus Sv21.TOP
  rw [Nat.mod_eq_of_lt h]
  have hx : x / 2 ^ 63 = 0 ∨ x / 2 ^ 63 = 1 := by omega
  rcases hx with e | e
  · rw [e]
    have : ¬ (2 ^ 63 ≤ x) := by omega
    rw [decide_eq_false this]
    decide
  · rw [e]
    have : 2 ^ 63 ≤ x := by omega
    rw [decide_eq_true this]
    decide
theorem mag_and (x : Nat) : x &&& 9223372036854775807 = Sv21.mag x := Nat.and_two_pow_sub_one_eq_mod x 63
theorem frac_and (x : Nat) : x &&& 4503599627370495 = x % 2 ^ 52 := Nat.and_two_pow_sub_one_eq_mod x 52
theorem inf_and (x : Nat) : x &&& 9218868437227405312 = Sv21.mag x / 2 ^ 52 * 2 ^ 52 := by
  rw [land_split 52]
  have e1 : (9218868437227405312 : Nat) / 2 ^ 52 = 2 ^ 11 - 1 := by decide
  have e2 : (9218868437227405312 : Nat) % 2 ^ 52 = 0 := by decide
  rw [e1, e2, Nat.and_zero, Nat.add_zero, Nat.and_two_pow_sub_one_eq_mod]
  unfold Sv21.mag Sv21.TOP
  omega
theorem hid_or (x : Nat) : (x % 2 ^ 52) ||| 4503599627370496 = x % 2 ^ 52 + 2 ^ 52 := by
  have h := Nat.two_pow_add_eq_or_of_lt (i := 52) (b := x % 2 ^ 52) (Nat.mod_lt _ (by decide)) 1
  rw [Nat.or_comm]
  have e : (2 ^ 52 * 1 : Nat) = 4503599627370496 := by decide
  rw [e] at h
  rw [← h]
  omega
/-! ### the spec's looks -/
theorem mag_lt (x : Nat) : Sv21.mag x < 2 ^ 63 := Nat.mod_lt _ (by decide)
theorem finite_iff (x : Nat) : Sv21.finite x = true ↔ Sv21.mag x / 2 ^ 52 < 2047 := by
  unfold Sv21.finite Sv21.infinity
  rw [decide_eq_true_iff]
  omega
theorem fin_test (x : Nat) : (x &&& 9218868437227405312 = 9218868437227405312) ↔ Sv21.finite x = false := by
  rw [inf_and, ← Bool.not_eq_true, finite_iff]
  have := mag_lt x
  omega
theorem zero_iff (x : Nat) : Sv21.zero x = true ↔ Sv21.mag x = 0 := by
  unfold Sv21.zero
  simp
theorem pow_of (x : Nat) : Sv21.scale x = ((max (Sv21.mag x / 2 ^ 52) 1 - 1 : Nat) : Int) - 1074 := by
  unfold Sv21.scale
  omega
def pw (x : Nat) : Nat := max (Sv21.mag x / 2 ^ 52) 1 - 1
theorem scale_pw (x : Nat) : Sv21.scale x = (pw x : Int) - 1074 := pow_of x
theorem pw_le {x : Nat} (h : Sv21.finite x = true) : pw x ≤ 2045 := by
  rw [finite_iff] at h
  unfold pw
  omega
theorem mod52 (x : Nat) : Sv21.mag x % 2 ^ 52 = x % 2 ^ 52 := by
  unfold Sv21.mag Sv21.TOP
  omega
theorem units_eq (x : Nat) : Sv21.units x = if Sv21.mag x / 2 ^ 52 = 0 then x % 2 ^ 52 else x % 2 ^ 52 + 2 ^ 52 := by
  unfold Sv21.units
  have := mod52 x
  split <;> split <;> omega
theorem units_lt (x : Nat) : Sv21.units x < 2 ^ 53 := by
  rw [units_eq]
  split <;> omega
theorem units_zero (x : Nat) : Sv21.units x = 0 ↔ Sv21.zero x = true := by
  rw [zero_iff]
  unfold Sv21.units
  have := mag_lt x
  split <;> omega
theorem units_norm {x : Nat} (h : 0 < pw x) : 2 ^ 52 ≤ Sv21.units x := by
  unfold pw at h
  unfold Sv21.units
  have := mag_lt x
  split <;> omega
/-- the size from its parts -/
theorem mag_parts (x : Nat) : Sv21.mag x = pw x * 2 ^ 52 + Sv21.units x := by
  unfold pw Sv21.units
  have := mag_lt x
  split <;> omega
theorem bits_parts {x : Nat} (h : x < 2 ^ 64) : x = (if Sv21.minus x = true then 2 ^ 63 else 0) + Sv21.mag x := by
  unfold Sv21.minus Sv21.mag Sv21.TOP
  rw [Nat.mod_eq_of_lt h]
  by_cases e : 2 ^ 63 ≤ x
  · rw [decide_eq_true e, if_pos rfl]; omega
  · rw [decide_eq_false e, if_neg Bool.false_ne_true]; omega
/-! ### signs -/
theorem minus_signed (s : Bool) {m : Nat} (h : m < 2 ^ 63) : Sv21.minus (Sv21.signed s m) = s := by
  unfold Sv21.minus Sv21.signed Sv21.TOP
  cases s
  · rw [if_neg Bool.false_ne_true]; exact decide_eq_false (by omega)
  · rw [if_pos rfl]; exact decide_eq_true (by omega)
theorem mag_signed (s : Bool) {m : Nat} (h : m < 2 ^ 63) : Sv21.mag (Sv21.signed s m) = m := by
  unfold Sv21.mag Sv21.signed Sv21.TOP
  cases s
  · rw [if_neg Bool.false_ne_true]; omega
  · rw [if_pos rfl]; omega
theorem signed_lt (s : Bool) {m : Nat} (h : m < 2 ^ 63) : Sv21.signed s m < 2 ^ 64 := by
  unfold Sv21.signed Sv21.TOP
  split <;> omega
def sg (s : Bool) : Nat := if s = true then 9223372036854775808 else 0
theorem signed_sg (s : Bool) (m : Nat) : Sv21.signed s m = sg s + m := by
  unfold Sv21.signed sg Sv21.TOP
  cases s <;> simp
theorem sg_or (s : Bool) {m : Nat} (h : m < 2 ^ 63) : sg s ||| m = Sv21.signed s m := by
  rw [signed_sg]
  unfold sg
  cases s
  · simp
  · have e := Nat.two_pow_add_eq_or_of_lt (i := 63) (b := m) h 1
    have q : (2 ^ 63 * 1 : Nat) = 9223372036854775808 := by decide
    rw [q] at e
    rw [if_pos rfl, e]
theorem sign_of {x : Nat} (h : x < 2 ^ 64) : x &&& 9223372036854775808 = sg (Sv21.minus x) := sgn_and h
theorem mod64 {x : Nat} (h : x < 2 ^ 64) : x / 2 ^ 63 = if Sv21.minus x = true then 1 else 0 := by
  unfold Sv21.minus Sv21.TOP
  rw [Nat.mod_eq_of_lt h]
  by_cases e : 2 ^ 63 ≤ x
  · rw [decide_eq_true e, if_pos rfl]; omega
  · rw [decide_eq_false e, if_neg Bool.false_ne_true]; omega
theorem and_sign {x y : Nat} (hx : x < 2 ^ 64) (hy : y < 2 ^ 64) : (x &&& y) < 2 ^ 64 ∧ Sv21.minus (x &&& y) = (Sv21.minus x && Sv21.minus y) := by
  have hl : (x &&& y) < 2 ^ 64 := Nat.lt_of_le_of_lt Nat.and_le_left hx
  refine ⟨hl, ?_⟩
  have e := mod64 hl
  rw [Nat.and_div_two_pow, mod64 hx, mod64 hy] at e
  cases h1 : Sv21.minus x <;> cases h2 : Sv21.minus y <;> cases h3 : Sv21.minus (x &&& y) <;> simp [h1, h2, h3] at e ⊢
theorem xor_sign {x y : Nat} (hx : x < 2 ^ 64) (hy : y < 2 ^ 64) : (x &&& y) ≤ (x ||| y) ∧ (x ||| y) - (x &&& y) < 2 ^ 64 ∧ Sv21.minus ((x ||| y) - (x &&& y)) = (Sv21.minus x != Sv21.minus y) := by
  have hle : (x &&& y) ≤ (x ||| y) := Nat.le_trans Nat.and_le_left Nat.left_le_or
  have hor : (x ||| y) < 2 ^ 64 := Nat.or_lt_two_pow hx hy
  have hl : (x ||| y) - (x &&& y) < 2 ^ 64 := by omega
  refine ⟨hle, hl, ?_⟩
  have e := mod64 hl
  have a := land_split 63 x y
  have o := lor_split 63 x y
  rw [mod64 hx, mod64 hy] at a o
  have m1 : (x % 2 ^ 63 &&& y % 2 ^ 63) ≤ (x % 2 ^ 63 ||| y % 2 ^ 63) := Nat.le_trans Nat.and_le_left Nat.left_le_or
  have m2 : (x % 2 ^ 63 ||| y % 2 ^ 63) < 2 ^ 63 := Nat.or_lt_two_pow (Nat.mod_lt _ (by decide)) (Nat.mod_lt _ (by decide))
  generalize (x % 2 ^ 63 &&& y % 2 ^ 63) = p at *
  generalize (x % 2 ^ 63 ||| y % 2 ^ 63) = q at *
  generalize (x &&& y) = aa at *
  generalize (x ||| y) = oo at *
  cases h1 : Sv21.minus x <;> cases h2 : Sv21.minus y <;> cases h3 : Sv21.minus (oo - aa) <;> simp [h1, h2, h3] at e a o ⊢ <;> omega
theorem neg_eq {y : Nat} (hy : y < 2 ^ 64) : (y ||| 9223372036854775808) - (y &&& 9223372036854775808) = Sv21.neg y := by
  have a := land_split 63 y 9223372036854775808
  have o := lor_split 63 y 9223372036854775808
  have e1 : (9223372036854775808 : Nat) / 2 ^ 63 = 1 := by decide
  have e2 : (9223372036854775808 : Nat) % 2 ^ 63 = 0 := by decide
  rw [e1, e2, mod64 hy] at a o
  rw [Nat.or_zero] at o
  rw [Nat.and_zero] at a
  unfold Sv21.neg Sv21.signed Sv21.mag Sv21.TOP
  cases h : Sv21.minus y <;> simp [h] at a o ⊢ <;> rw [a, o] <;> omega
theorem neg_lt (y : Nat) : Sv21.neg y < 2 ^ 64 := signed_lt _ (mag_lt y)
theorem neg_finite (y : Nat) : Sv21.finite (Sv21.neg y) = Sv21.finite y := by
  unfold Sv21.finite Sv21.neg
  rw [mag_signed _ (mag_lt y)]
end An

set_option maxRecDepth 100000
namespace An
/-! ### rounding -/
/-- how many bits are dropped -/
def drop (m : Nat) (p : Int) : Int := max ((m.log2 : Int) + 1 - 53) (-p)
/-- what is kept -/
def rnd (m : Nat) (d : Int) : Nat := if d ≤ 0 then m * 2 ^ (-d).toNat else Sv21.nearest m d.toNat
def bits (m : Nat) (p : Int) : Int := (p + drop m p) * 2 ^ 52 + (rnd m (drop m p) : Int)
theorem nearest_ge (m s : Nat) : m / 2 ^ s ≤ Sv21.nearest m s := by
  unfold Sv21.nearest
  dsimp only
  split <;> omega
theorem nearest_le (m s : Nat) : Sv21.nearest m s ≤ m / 2 ^ s + 1 := by
  unfold Sv21.nearest
  dsimp only
  split <;> omega
theorem pow_split {a b : Nat} (h : a ≤ b) : (2 : Nat) ^ b = 2 ^ a * 2 ^ (b - a) := by
  rw [← Nat.pow_add]
  congr 1
  omega
theorem rnd_big {m : Nat} (h0 : m ≠ 0) {d : Int} (h : d = (m.log2 : Int) + 1 - 53) : 2 ^ 52 ≤ rnd m d := by
  have l := Nat.log2_self_le h0
  unfold rnd
  split
  · rename_i hd
    have e : (52 : Nat) = m.log2 + (-d).toNat := by omega
    calc 2 ^ 52 = 2 ^ m.log2 * 2 ^ (-d).toNat := by rw [← Nat.pow_add, ← e]
      _ ≤ m * 2 ^ (-d).toNat := Nat.mul_le_mul_right _ l
  · rename_i hd
    refine Nat.le_trans ?_ (nearest_ge _ _)
    have e : m.log2 = 52 + d.toNat := by omega
    rw [Nat.le_div_iff_mul_le (Nat.two_pow_pos _), ← Nat.pow_add, ← e]
    exact l
theorem rnd_le {m : Nat} {p : Int} : rnd m (drop m p) ≤ 2 ^ 53 := by
  have l := Nat.lt_log2_self (n := m)
  have hd : (m.log2 : Int) + 1 - 53 ≤ drop m p := Int.le_max_left _ _
  unfold rnd
  split
  · rename_i hd'
    have e : m.log2 + 1 + (-drop m p).toNat ≤ 53 := by omega
    calc m * 2 ^ (-drop m p).toNat ≤ 2 ^ (m.log2 + 1) * 2 ^ (-drop m p).toNat := Nat.mul_le_mul_right _ (Nat.le_of_lt l)
      _ = 2 ^ (m.log2 + 1 + (-drop m p).toNat) := (Nat.pow_add _ _ _).symm
      _ ≤ 2 ^ 53 := Nat.pow_le_pow_right (by decide) e
  · rename_i hd'
    refine Nat.le_trans (nearest_le _ _) ?_
    have : m / 2 ^ (drop m p).toNat < 2 ^ 53 := by
      rw [Nat.div_lt_iff_lt_mul (Nat.two_pow_pos _), ← Nat.pow_add]
      exact Nat.lt_of_lt_of_le l (Nat.pow_le_pow_right (by decide) (by omega))
    omega
theorem drop_or (m : Nat) (p : Int) : drop m p = (m.log2 : Int) + 1 - 53 ∨ (drop m p = -p ∧ (m.log2 : Int) + 1 - 53 ≤ -p) := by
  unfold drop
  omega
theorem bits_nonneg {m : Nat} {p : Int} : 0 ≤ bits m p := by
  unfold bits
  have : 0 ≤ p + drop m p := by unfold drop; omega
  have := Int.mul_nonneg this (by decide : (0 : Int) ≤ 2 ^ 52)
  omega
/-- THE LINK: the spec's code of m * 2^(p - 1074) is the program's bits, cut at infinity -/
theorem coded_eq {m : Nat} (h0 : m ≠ 0) (p : Int) : (Sv21.coded m (p - 1074) : Int) = min (Sv21.infinity : Int) (bits m p) := by
  have eq : max (p - 1074 + (m.log2 : Int) - 52) (-1074) = p - 1074 + drop m p := by unfold drop; omega
  have en : (if p - 1074 + drop m p ≤ p - 1074 then m * 2 ^ (p - 1074 - (p - 1074 + drop m p)).toNat else Sv21.nearest m (p - 1074 + drop m p - (p - 1074)).toNat) = rnd m (drop m p) := by
    unfold rnd
    have e1 : p - 1074 - (p - 1074 + drop m p) = -drop m p := by omega
    have e2 : p - 1074 + drop m p - (p - 1074) = drop m p := by omega
    rw [e1, e2]
    by_cases h : drop m p ≤ 0
    · rw [if_pos h, if_pos (by omega)]
    · rw [if_neg h, if_neg (by omega)]
  unfold Sv21.coded
  dsimp only
  rw [eq, en]
  have hle := rnd_le (m := m) (p := p)
  have hd0 : 0 ≤ p + drop m p := by unfold drop; omega
  by_cases hn : rnd m (drop m p) < 2 ^ 52
  · rw [if_pos hn]
    rcases drop_or m p with e | ⟨e, _⟩
    · have := rnd_big h0 e
      omega
    · unfold bits
      have : p + drop m p = 0 := by omega
      rw [this]
      unfold Sv21.infinity
      omega
  · rw [if_neg hn]
    unfold bits
    have e3 : ((p - 1074 + drop m p + 1075).toNat * 2 ^ 52 + (rnd m (drop m p) - 2 ^ 52) : Nat) = (p + drop m p).toNat * 2 ^ 52 + rnd m (drop m p) := by
      have : (p - 1074 + drop m p + 1075).toNat = (p + drop m p).toNat + 1 := by omega
      rw [this, Nat.add_mul]
      omega
    rw [e3]
    have e4 : (((p + drop m p).toNat * 2 ^ 52 + rnd m (drop m p) : Nat) : Int) = (p + drop m p) * 2 ^ 52 + (rnd m (drop m p) : Int) := by
      rw [Int.natCast_add, Int.natCast_mul]
      have : (((p + drop m p).toNat : Nat) : Int) = p + drop m p := Int.toNat_of_nonneg hd0
      rw [this]
      have q : ((2 ^ 52 : Nat) : Int) = 2 ^ 52 := by decide
      rw [q]
    rw [← e4]
    omega
theorem coded_le (m : Nat) (e : Int) : Sv21.coded m e ≤ Sv21.infinity := by
  unfold Sv21.coded
  dsimp only
  generalize (if max (e + (m.log2 : Int) - 52) (-1074) ≤ e then _ else _ : Nat) = n
  split
  · unfold Sv21.infinity; omega
  · exact Nat.min_le_left _ _
theorem inf_lt : Sv21.infinity < 2 ^ 63 := by decide
theorem coded_lt (m : Nat) (e : Int) : Sv21.coded m e < 2 ^ 63 := Nat.lt_of_le_of_lt (coded_le m e) inf_lt
theorem finite_signed (s : Bool) {m : Nat} (h : m < 2 ^ 63) : Sv21.finite (Sv21.signed s m) = decide (m < Sv21.infinity) := by
  unfold Sv21.finite
  rw [mag_signed s h]
/-- not finite: the program's bits reach infinity -/
theorem over_iff {m : Nat} (h0 : m ≠ 0) (p : Int) (s : Bool) : Sv21.finite (Sv21.signed s (Sv21.coded m (p - 1074))) = false ↔ (9218868437227405312 : Int) ≤ bits m p := by
  rw [finite_signed s (coded_lt _ _), decide_eq_false_iff_not]
  have e := coded_eq h0 p
  have i : Sv21.infinity = 9218868437227405312 := by decide
  rw [i] at e ⊢
  omega
theorem bits_eq {m : Nat} (h0 : m ≠ 0) (p : Int) (h : bits m p < (9218868437227405312 : Int)) : bits m p = (Sv21.coded m (p - 1074) : Int) := by
  have e := coded_eq h0 p
  have i : Sv21.infinity = 9218868437227405312 := by decide
  rw [i] at e
  omega
end An

set_option maxRecDepth 100000
namespace An
/-! ### what the program's reckoning comes to -/
/-- the nearest double to m * 2^(p - 1074), with its sign -/
def near (s : Bool) (m : Nat) (p : Int) : Nat := Sv21.signed s (if m = 0 then 0 else Sv21.coded m (p - 1074))
theorem near_zero (s : Bool) (p : Int) : near s 0 p = sg s := by
  unfold near
  rw [if_pos rfl, signed_sg, Nat.add_zero]
theorem near_lt (s : Bool) (m : Nat) (p : Int) : near s m p < 2 ^ 64 := by
  unfold near
  apply signed_lt
  split
  · decide
  · exact coded_lt _ _
theorem fin_sg (s : Bool) : Sv21.finite (sg s) = true := by cases s <;> decide
theorem near_over {s : Bool} {m : Nat} (h0 : m ≠ 0) {p : Int} : Sv21.finite (near s m p) = false ↔ (9218868437227405312 : Int) ≤ bits m p := by
  unfold near
  rw [if_neg h0]
  exact over_iff h0 p s
theorem near_bits {s : Bool} {m : Nat} (h0 : m ≠ 0) {p : Int} (h : bits m p < (9218868437227405312 : Int)) : sg s ||| (bits m p).toNat = near s m p := by
  have e := bits_eq h0 p h
  have e' : (bits m p).toNat = Sv21.coded m (p - 1074) := by omega
  unfold near
  rw [if_neg h0, e', sg_or s (coded_lt _ _)]
/-! ### sums -/
theorem amount_zero {x : Nat} (h : Sv21.amount x = 0) : Sv21.zero x = true := by
  rw [← units_zero]
  unfold Sv21.amount at h
  split at h <;> omega
theorem amount_minus {x : Nat} (h : Sv21.minus x = true) : Sv21.amount x ≤ 0 := by
  unfold Sv21.amount
  rw [if_pos h]
  omega
def tot (x y : Nat) : Int := Sv21.amount x * 2 ^ (pw x - min (pw x) (pw y)) + Sv21.amount y * 2 ^ (pw y - min (pw x) (pw y))
theorem pow_pos_int (n : Nat) : (0 : Int) < 2 ^ n := Int.pow_pos (by decide)
theorem add_eq (x y : Nat) : Sv21.add x y = if tot x y = 0 then sg (Sv21.minus x && Sv21.minus y) else near (decide (tot x y < 0)) (tot x y).natAbs ((min (pw x) (pw y) : Nat) : Int) := by
  have e1 : min (Sv21.scale x) (Sv21.scale y) = ((min (pw x) (pw y) : Nat) : Int) - 1074 := by
    rw [scale_pw, scale_pw]
    omega
  have e2 : (Sv21.scale x - (((min (pw x) (pw y) : Nat) : Int) - 1074)).toNat = pw x - min (pw x) (pw y) := by
    rw [scale_pw]
    omega
  have e3 : (Sv21.scale y - (((min (pw x) (pw y) : Nat) : Int) - 1074)).toNat = pw y - min (pw x) (pw y) := by
    rw [scale_pw]
    omega
  unfold Sv21.add
  dsimp only
  rw [e1, e2, e3]
  show (if tot x y = 0 then _ else _) = _
  by_cases hz : tot x y = 0
  · rw [if_pos hz, if_pos hz, signed_sg, Nat.add_zero]
    congr 1
    cases hx : Sv21.minus x
    · simp
    · cases hy : Sv21.minus y
      · simp
      · have a1 := amount_minus hx
        have a2 := amount_minus hy
        have p1 := pow_pos_int (pw x - min (pw x) (pw y))
        have p2 := pow_pos_int (pw y - min (pw x) (pw y))
        have b1 : Sv21.amount x * 2 ^ (pw x - min (pw x) (pw y)) ≤ 0 := Int.mul_nonpos_of_nonpos_of_nonneg a1 (Int.le_of_lt p1)
        have b2 : Sv21.amount y * 2 ^ (pw y - min (pw x) (pw y)) ≤ 0 := Int.mul_nonpos_of_nonpos_of_nonneg a2 (Int.le_of_lt p2)
        unfold tot at hz
        have c1 : Sv21.amount x * 2 ^ (pw x - min (pw x) (pw y)) = 0 := by omega
        have c2 : Sv21.amount y * 2 ^ (pw y - min (pw x) (pw y)) = 0 := by omega
        have d1 : Sv21.amount x = 0 := by
          rcases Int.mul_eq_zero.mp c1 with q | q
          · exact q
          · omega
        have d2 : Sv21.amount y = 0 := by
          rcases Int.mul_eq_zero.mp c2 with q | q
          · exact q
          · omega
        rw [amount_zero d1, amount_zero d2]
        rfl
  · rw [if_neg hz, if_neg hz]
    unfold Sv21.nearestTo near
    rw [if_neg (by omega)]
    rfl
/-! ### products -/
theorem mul_eq (x y : Nat) : Sv21.mul x y = near (Sv21.minus x != Sv21.minus y) (Sv21.units x * Sv21.units y) ((pw x : Int) + (pw y : Int) - 1074) := by
  unfold Sv21.mul near
  dsimp only
  have hz : (Sv21.units x * Sv21.units y = 0) ↔ (Sv21.zero x = true ∨ Sv21.zero y = true) := by
    rw [Nat.mul_eq_zero, units_zero, units_zero]
  by_cases h : Sv21.zero x = true ∨ Sv21.zero y = true
  · rw [if_pos h, if_pos (hz.mpr h)]
  · rw [if_neg h, if_neg (fun q => h (hz.mp q)), scale_pw, scale_pw]
    congr 2
    omega
/-! ### quotients: a bit that stands for the rest -/
theorem near_sticky {k t s : Nat} {d : Nat} (ht : t < 2 ^ 12) (hs : s ≤ 1) :
    Sv21.nearest (2 * (2 ^ 12 * k + t) + s) (d + 2 + 12) = Sv21.nearest (2 * k + (if t = 0 ∧ s = 0 then 0 else 1)) (d + 2) := by
  have hA : 0 < 2 ^ d := Nat.two_pow_pos d
  have p1 : 2 ^ (d + 2) = 4 * 2 ^ d := by rw [Nat.pow_add]; omega
  have p2 : 2 ^ (d + 2 + 12) = 16384 * 2 ^ d := by rw [Nat.pow_add, Nat.pow_add]; omega
  unfold Sv21.nearest
  rw [p1, p2]
  generalize 2 ^ d = A at *
  have hk := Nat.div_add_mod k (2 * A)
  have hr := Nat.mod_lt k (show 2 * A > 0 by omega)
  generalize hQ : k / (2 * A) = Q at *
  generalize hR : k % (2 * A) = R at *
  generalize hs1 : (if t = 0 ∧ s = 0 then 0 else 1) = s1
  have hs1' : s1 ≤ 1 := by rw [← hs1]; split <;> omega
  have hs2 : s1 = 0 ↔ (t = 0 ∧ s = 0) := by
    rw [← hs1]
    split
    · rename_i h
      exact ⟨fun _ => h, fun _ => rfl⟩
    · rename_i h
      exact ⟨fun q => (by cases q), fun q => absurd q h⟩
  have q1 : (2 * k + s1) / (4 * A) = Q := by
    rw [Nat.div_eq_iff (by omega)]
    have : 2 * A * Q = A * Q * 2 := by rw [Nat.mul_assoc, Nat.mul_comm]
    have h4 : Q * (4 * A) = A * Q * 4 := by rw [Nat.mul_comm Q, Nat.mul_assoc, Nat.mul_comm]
    constructor <;> omega
  have q2 : (2 * (2 ^ 12 * k + t) + s) / (16384 * A) = Q := by
    rw [Nat.div_eq_iff (by omega)]
    have : 2 * A * Q = A * Q * 2 := by rw [Nat.mul_assoc, Nat.mul_comm]
    have h4 : Q * (16384 * A) = A * Q * 16384 := by rw [Nat.mul_comm Q, Nat.mul_assoc, Nat.mul_comm]
    constructor <;> omega
  have r1 := Nat.div_add_mod (2 * k + s1) (4 * A)
  have r2 := Nat.div_add_mod (2 * (2 ^ 12 * k + t) + s) (16384 * A)
  dsimp only
  rw [q1] at r1 ⊢
  rw [q2] at r2 ⊢
  generalize (2 * k + s1) % (4 * A) = R1 at *
  generalize (2 * (2 ^ 12 * k + t) + s) % (16384 * A) = R2 at *
  have m1 : 2 * A * Q = A * Q * 2 := by rw [Nat.mul_assoc, Nat.mul_comm]
  have m2 : 4 * A * Q = A * Q * 4 := by rw [Nat.mul_assoc, Nat.mul_comm]
  have m3 : 16384 * A * Q = A * Q * 16384 := by rw [Nat.mul_assoc, Nat.mul_comm]
  rw [m1] at hk
  rw [m2] at r1
  rw [m3] at r2
  generalize A * Q = AQ at *
  have e1 : R1 = 2 * R + s1 := by omega
  have e2 : R2 = 8192 * R + 2 * t + s := by omega
  have c : (16384 * A < 2 * R2 ∨ (2 * R2 = 16384 * A ∧ Q % 2 = 1)) ↔ (4 * A < 2 * R1 ∨ (2 * R1 = 4 * A ∧ Q % 2 = 1)) := by
    have h1 : 16384 * A < 2 * R2 ↔ 4 * A < 2 * R1 := by
      rw [e1, e2]
      by_cases z : s1 = 0
      · have := hs2.mp z
        omega
      · have : ¬ (t = 0 ∧ s = 0) := fun q => z (hs2.mpr q)
        omega
    have h2 : 2 * R2 = 16384 * A ↔ 2 * R1 = 4 * A := by
      rw [e1, e2]
      by_cases z : s1 = 0
      · have := hs2.mp z
        omega
      · have : ¬ (t = 0 ∧ s = 0) := fun q => z (hs2.mpr q)
        omega
    rw [h1, h2]
  by_cases hc : 4 * A < 2 * R1 ∨ (2 * R1 = 4 * A ∧ Q % 2 = 1)
  · rw [if_pos hc, if_pos (c.mpr hc)]
  · rw [if_neg hc, if_neg (fun q => hc (c.mp q))]
theorem log2_sticky {k t s : Nat} (hk : k ≠ 0) (ht : t < 2 ^ 12) (hs : s ≤ 1) : (2 * (2 ^ 12 * k + t) + s).log2 = k.log2 + 13 := by
  rw [Nat.log2_eq_iff (by omega)]
  have a := Nat.log2_self_le hk
  have b := Nat.lt_log2_self (n := k)
  have e1 : 2 ^ (k.log2 + 13) = 8192 * 2 ^ k.log2 := by rw [Nat.pow_add]; omega
  have e2 : 2 ^ (k.log2 + 13 + 1) = 16384 * 2 ^ k.log2 := by rw [Nat.pow_add, Nat.pow_add]; omega
  have e3 : 2 ^ (k.log2 + 1) = 2 * 2 ^ k.log2 := by rw [Nat.pow_add]; omega
  rw [e1, e2]
  rw [e3] at b
  omega
theorem log2_one {k s : Nat} (hk : k ≠ 0) (hs : s ≤ 1) : (2 * k + s).log2 = k.log2 + 1 := by
  rw [Nat.log2_eq_iff (by omega)]
  have a := Nat.log2_self_le hk
  have b := Nat.lt_log2_self (n := k)
  have e1 : 2 ^ (k.log2 + 1) = 2 * 2 ^ k.log2 := by rw [Nat.pow_add]; omega
  have e2 : 2 ^ (k.log2 + 1 + 1) = 4 * 2 ^ k.log2 := by rw [Nat.pow_add, Nat.pow_add]; omega
  rw [e1] at b ⊢
  rw [e2]
  omega
theorem coded_sticky {k t s : Nat} (hk : 2 ^ 54 ≤ k) (ht : t < 2 ^ 12) (hs : s ≤ 1) (p : Int) :
    Sv21.coded (2 * (2 ^ 12 * k + t) + s) (p - 1074) = Sv21.coded (2 * k + (if t = 0 ∧ s = 0 then 0 else 1)) (p + 12 - 1074) := by
  have k0 : k ≠ 0 := by omega
  have hs1 : (if t = 0 ∧ s = 0 then 0 else 1) ≤ 1 := by split <;> omega
  have l2 := log2_sticky k0 ht hs
  have l1 := log2_one k0 hs1
  have hl : 54 ≤ k.log2 := (Nat.le_log2 k0).mpr hk
  have d2 : drop (2 * (2 ^ 12 * k + t) + s) p = drop (2 * k + (if t = 0 ∧ s = 0 then 0 else 1)) (p + 12) + 12 := by
    unfold drop
    rw [l1, l2]
    omega
  have dpos : 2 ≤ drop (2 * k + (if t = 0 ∧ s = 0 then 0 else 1)) (p + 12) := by
    unfold drop
    rw [l1]
    omega
  have hb : bits (2 * (2 ^ 12 * k + t) + s) p = bits (2 * k + (if t = 0 ∧ s = 0 then 0 else 1)) (p + 12) := by
    unfold bits
    rw [d2]
    generalize drop (2 * k + (if t = 0 ∧ s = 0 then 0 else 1)) (p + 12) = d at *
    unfold rnd
    rw [if_neg (by omega), if_neg (by omega)]
    obtain ⟨n, rfl⟩ : ∃ n : Nat, d = (n : Int) + 2 := ⟨(d - 2).toNat, by omega⟩
    have t1 : ((n : Int) + 2 + 12).toNat = n + 2 + 12 := by omega
    have t2 : ((n : Int) + 2).toNat = n + 2 := by omega
    rw [t1, t2, near_sticky ht hs]
    congr 2
    omega
  have a := coded_eq (m := 2 * (2 ^ 12 * k + t) + s) (by omega) p
  have b := coded_eq (m := 2 * k + (if t = 0 ∧ s = 0 then 0 else 1)) (by omega) (p + 12)
  rw [hb] at a
  omega
theorem sticky_div {N u : Nat} (hu0 : 0 < u) (hbig : 2 ^ 54 ≤ N / u) (p : Int) :
    Sv21.coded (2 * (N * 2 ^ 12 / u) + (if N * 2 ^ 12 % u = 0 then 0 else 1)) (p - 1074) = Sv21.coded (2 * (N / u) + (if N % u = 0 then 0 else 1)) (p + 12 - 1074) := by
  have hd := Nat.div_add_mod N u
  have hm := Nat.mod_lt N hu0
  generalize hK : N / u = K at *
  generalize hRR : N % u = R at *
  have k2 : N * 2 ^ 12 = u * (2 ^ 12 * K) + R * 2 ^ 12 := by
    have : u * (2 ^ 12 * K) = u * K * 2 ^ 12 := by rw [Nat.mul_comm (2 ^ 12) K, Nat.mul_assoc]
    omega
  have q2 : N * 2 ^ 12 / u = 2 ^ 12 * K + R * 2 ^ 12 / u := by
    rw [k2, Nat.mul_add_div hu0]
  have m2 : N * 2 ^ 12 % u = R * 2 ^ 12 % u := by
    rw [k2, Nat.mul_add_mod]
  have ht : R * 2 ^ 12 / u < 2 ^ 12 := by
    rw [Nat.div_lt_iff_lt_mul hu0]
    have := Nat.mul_lt_mul_of_pos_right hm (show 0 < 2 ^ 12 by decide)
    rw [Nat.mul_comm u] at this
    exact this
  have hz : (R * 2 ^ 12 / u = 0 ∧ (if R * 2 ^ 12 % u = 0 then 0 else 1) = 0) ↔ R = 0 := by
    constructor
    · intro ⟨a, b⟩
      have b' : R * 2 ^ 12 % u = 0 := by
        split at b
        · assumption
        · cases b
      have := Nat.div_add_mod (R * 2 ^ 12) u
      rw [a, b'] at this
      omega
    · intro z
      rw [z]
      simp
  rw [q2, m2]
  have hs : (if R * 2 ^ 12 % u = 0 then 0 else 1) ≤ 1 := by split <;> omega
  have cs := coded_sticky (k := K) (t := R * 2 ^ 12 / u) (s := if R * 2 ^ 12 % u = 0 then 0 else 1) hbig ht hs p
  rw [cs]
  have e3 : (if R * 2 ^ 12 / u = 0 ∧ (if R * 2 ^ 12 % u = 0 then 0 else 1) = 0 then 0 else 1) = (if R = 0 then 0 else 1) := by
    by_cases z : R = 0
    · rw [if_pos (hz.mpr z), if_pos z]
    · rw [if_neg (fun q => z (hz.mp q)), if_neg z]
  rw [e3]
/-- the program's quotient: its size -/
def quo (x y : Nat) : Nat := 2 * (Sv21.units x * 2 ^ 108 / Sv21.units y) + (if Sv21.units x * 2 ^ 108 % Sv21.units y = 0 then 0 else 1)
theorem quo_big {v u : Nat} (hv : v ≠ 0) (hu : u < 2 ^ 53) (hu0 : 0 < u) : 2 ^ 54 ≤ v * 2 ^ 108 / u := by
  rw [Nat.le_div_iff_mul_le hu0]
  omega
theorem p120 (v : Nat) : v * 2 ^ 120 = v * 2 ^ 108 * 2 ^ 12 := by omega
theorem div_eq {x y : Nat} (hy : Sv21.zero y = false) : Sv21.div x y = near (Sv21.minus x != Sv21.minus y) (quo x y) ((pw x : Int) - (pw y : Int) + 1074 - 109) := by
  have hu : 0 < Sv21.units y := Nat.pos_of_ne_zero fun q => by
    rw [units_zero] at q
    rw [q] at hy
    cases hy
  unfold Sv21.div near
  dsimp only
  by_cases hx : Sv21.zero x = true
  · rw [if_pos hx]
    have q : quo x y = 0 := by
      unfold quo
      rw [(units_zero x).mpr hx]
      simp
    rw [if_pos q]
  · rw [if_neg hx]
    have hx0 : Sv21.units x ≠ 0 := fun q => hx ((units_zero x).mp q)
    have hbig := quo_big hx0 (units_lt y) hu
    have cs := sticky_div hu hbig (Sv21.scale x - Sv21.scale y - 121 + 1074)
    have ee : Sv21.scale x - Sv21.scale y - 121 + 1074 - 1074 = Sv21.scale x - Sv21.scale y - 121 := by omega
    have ee2 : Sv21.scale x - Sv21.scale y - 121 + 1074 + 12 - 1074 = (pw x : Int) - (pw y : Int) + 1074 - 109 - 1074 := by
      rw [scale_pw, scale_pw]
      omega
    rw [ee, ee2, ← p120] at cs
    rw [cs, if_neg (show ¬ quo x y = 0 by unfold quo; omega)]
    rfl
/-! ### whole numbers -/
theorem whole_eq (n : Nat) : Sv21.whole n = near false n 1074 := by
  unfold Sv21.whole near Sv21.signed
  rw [if_neg Bool.false_ne_true]
  split <;> rfl
end An

set_option maxRecDepth 100000
namespace An
/-! ### comparing -/
/-- the number itself, in steps of 2^-1074 -/
def val (x : Nat) : Int := Sv21.amount x * 2 ^ pw x
theorem val_scale (x y : Nat) (k : Nat) (hk : k ≤ pw x) : Sv21.amount x * 2 ^ (pw x - k) * 2 ^ k = val x := by
  unfold val
  rw [Int.mul_assoc, ← Int.pow_add]
  congr 2
  omega
theorem less_iff (x y : Nat) : Sv21.less x y = decide (val x < val y) := by
  unfold Sv21.less
  dsimp only
  have e1 : min (Sv21.scale x) (Sv21.scale y) = ((min (pw x) (pw y) : Nat) : Int) - 1074 := by
    rw [scale_pw, scale_pw]
    omega
  have e2 : (Sv21.scale x - (((min (pw x) (pw y) : Nat) : Int) - 1074)).toNat = pw x - min (pw x) (pw y) := by
    rw [scale_pw]
    omega
  have e3 : (Sv21.scale y - (((min (pw x) (pw y) : Nat) : Int) - 1074)).toNat = pw y - min (pw x) (pw y) := by
    rw [scale_pw]
    omega
  rw [e1, e2, e3]
  rw [← val_scale x y (min (pw x) (pw y)) (Nat.min_le_left _ _), ← val_scale y x (min (pw x) (pw y)) (Nat.min_le_right _ _)]
  have p := pow_pos_int (min (pw x) (pw y))
  congr 1
  apply propext
  constructor
  · intro h
    exact Int.mul_lt_mul_of_pos_right h p
  · intro h
    exact Int.lt_of_mul_lt_mul_right h (Int.le_of_lt p)
theorem same_iff (x y : Nat) : Sv21.same x y = decide (val x = val y) := by
  unfold Sv21.same
  rw [less_iff, less_iff]
  by_cases h : val x = val y
  · rw [h]
    simp
  · rw [decide_eq_false h]
    rcases Int.lt_or_gt_of_ne h with q | q
    · rw [decide_eq_true q]; rfl
    · rw [decide_eq_true (show val y < val x from q)]; simp
theorem amount_eq (x : Nat) : Sv21.amount x = if Sv21.minus x = true then -(Sv21.units x : Int) else (Sv21.units x : Int) := rfl
theorem val_nat (x : Nat) : val x = if Sv21.minus x = true then -((Sv21.units x * 2 ^ pw x : Nat) : Int) else ((Sv21.units x * 2 ^ pw x : Nat) : Int) := by
  unfold val
  rw [amount_eq]
  split
  · rw [Int.neg_mul, Int.natCast_mul, Int.natCast_pow]; rfl
  · rw [Int.natCast_mul, Int.natCast_pow]; rfl
theorem size_inj {x y : Nat} (h : Sv21.units x * 2 ^ pw x = Sv21.units y * 2 ^ pw y) (hle : pw x ≤ pw y) : Sv21.mag x = Sv21.mag y := by
  have e : 2 ^ pw y = 2 ^ (pw y - pw x) * 2 ^ pw x := by
    rw [← Nat.pow_add]
    congr 1
    omega
  rw [e, ← Nat.mul_assoc] at h
  have h' := Nat.eq_of_mul_eq_mul_right (Nat.two_pow_pos _) h
  by_cases z : pw y - pw x = 0
  · rw [z] at h'
    rw [mag_parts x, mag_parts y]
    have : pw x = pw y := by omega
    rw [this]
    omega
  · have ny := units_norm (x := y) (by omega)
    have lx := units_lt x
    obtain ⟨k, hk⟩ : ∃ k, pw y - pw x = k + 1 := ⟨pw y - pw x - 1, by omega⟩
    rw [hk, Nat.pow_succ] at h'
    have p := Nat.two_pow_pos k
    have : Sv21.units y * 2 ≤ Sv21.units y * (2 ^ k * 2) := Nat.mul_le_mul_left _ (by omega)
    omega
theorem size_inj' {x y : Nat} (h : Sv21.units x * 2 ^ pw x = Sv21.units y * 2 ^ pw y) : Sv21.mag x = Sv21.mag y := by
  rcases Nat.le_total (pw x) (pw y) with q | q
  · exact size_inj h q
  · exact (size_inj h.symm q).symm
theorem same_of {x y : Nat} (hx : x < 2 ^ 64) (hy : y < 2 ^ 64) : Sv21.same x y = (decide (x = y) || (Sv21.zero x && Sv21.zero y)) := by
  rw [same_iff]
  by_cases h : x = y
  · subst h
    simp
  · rw [decide_eq_false h, Bool.false_or]
    by_cases z : (Sv21.zero x && Sv21.zero y) = true
    · rw [z]
      rw [Bool.and_eq_true] at z
      refine decide_eq_true ?_
      rw [val_nat, val_nat, (units_zero x).mpr z.1, (units_zero y).mpr z.2]
      simp
    · rw [Bool.not_eq_true] at z
      rw [z]
      refine decide_eq_false fun q => ?_
      rw [val_nat, val_nat] at q
      have ez : ∀ w : Nat, Sv21.units w * 2 ^ pw w = 0 → Sv21.zero w = true := fun w e => by
        rw [Nat.mul_eq_zero] at e
        rcases e with e | e
        · exact (units_zero w).mp e
        · have := Nat.two_pow_pos (pw w)
          omega
      have hxp := bits_parts hx
      have hyp := bits_parts hy
      cases h1 : Sv21.minus x <;> cases h2 : Sv21.minus y <;> simp only [h1, h2, if_true, if_false, Bool.false_eq_true] at q hxp hyp
      · have := size_inj' (x := x) (y := y) (by omega)
        omega
      · have a : Sv21.units x * 2 ^ pw x = 0 := by omega
        have b : Sv21.units y * 2 ^ pw y = 0 := by omega
        rw [ez x a, ez y b] at z
        cases z
      · have a : Sv21.units x * 2 ^ pw x = 0 := by omega
        have b : Sv21.units y * 2 ^ pw y = 0 := by omega
        rw [ez x a, ez y b] at z
        cases z
      · have := size_inj' (x := x) (y := y) (by omega)
        omega
/-! ### the order of the bits -/
theorem pw_mono {x y : Nat} (h : Sv21.mag x ≤ Sv21.mag y) : pw x ≤ pw y := by
  have := Nat.div_le_div_right (c := 2 ^ 52) h
  unfold pw
  omega
theorem size_mono {x y : Nat} (h : Sv21.mag x ≤ Sv21.mag y) : Sv21.units x * 2 ^ pw x ≤ Sv21.units y * 2 ^ pw y := by
  have hp := pw_mono h
  by_cases e : pw x = pw y
  · rw [mag_parts x, mag_parts y, e] at h
    rw [e]
    exact Nat.mul_le_mul_right _ (by omega)
  · have ny := units_norm (x := y) (by omega)
    have lx := units_lt x
    obtain ⟨k, hk⟩ : ∃ k, pw y = pw x + 1 + k := ⟨pw y - pw x - 1, by omega⟩
    rw [hk, Nat.pow_add, Nat.pow_succ, ← Nat.mul_assoc]
    have p1 := Nat.two_pow_pos k
    have p2 := Nat.two_pow_pos (pw x)
    calc Sv21.units x * 2 ^ pw x ≤ Sv21.units y * 2 * 2 ^ pw x := Nat.mul_le_mul_right _ (by omega)
      _ = Sv21.units y * (2 ^ pw x * 2) := by rw [Nat.mul_assoc, Nat.mul_comm 2]
      _ ≤ Sv21.units y * (2 ^ pw x * 2) * 2 ^ k := Nat.le_mul_of_pos_right _ p1
/-- the bits without the sign, with a sign of its own -/
def rank (x : Nat) : Int := if Sv21.minus x = true then -(Sv21.mag x : Int) else Sv21.mag x
theorem size_lt {x y : Nat} : Sv21.units x * 2 ^ pw x < Sv21.units y * 2 ^ pw y ↔ Sv21.mag x < Sv21.mag y := by
  constructor
  · intro h
    by_cases q : Sv21.mag x < Sv21.mag y
    · exact q
    · have := size_mono (x := y) (y := x) (by omega)
      omega
  · intro h
    have h1 := size_mono (x := x) (y := y) (by omega)
    by_cases e : Sv21.units x * 2 ^ pw x = Sv21.units y * 2 ^ pw y
    · have := size_inj' e
      omega
    · omega
theorem size_zero {x : Nat} : Sv21.units x * 2 ^ pw x = 0 ↔ Sv21.mag x = 0 := by
  rw [Nat.mul_eq_zero]
  constructor
  · rintro (e | e)
    · exact (zero_iff x).mp ((units_zero x).mp e)
    · have := Nat.two_pow_pos (pw x)
      omega
  · intro h
    exact .inl ((units_zero x).mpr ((zero_iff x).mpr h))
theorem less_rank (x y : Nat) : Sv21.less x y = decide (rank x < rank y) := by
  rw [less_iff, val_nat, val_nat]
  unfold rank
  have e1 := size_lt (x := x) (y := y)
  have e2 := size_lt (x := y) (y := x)
  have z1 := size_zero (x := x)
  have z2 := size_zero (x := y)
  congr 1
  apply propext
  cases h1 : Sv21.minus x <;> cases h2 : Sv21.minus y <;> simp only [h1, h2, if_true, if_false, Bool.false_eq_true]
  all_goals (generalize Sv21.units x * 2 ^ pw x = A at *; generalize Sv21.units y * 2 ^ pw y = B at *; generalize Sv21.mag x = C at *; generalize Sv21.mag y = D at *; omega)
end An

set_option maxRecDepth 100000
set_option linter.all false
namespace An
open Sv21 (Io Ans)
/-! ### a program that asks, from where so many questions have been asked -/
/-- ns: all answers; qs: what has been asked so far; R: what is wanted of all that was asked and of the end -/
def Wp (ns : List Nat) (io : Io) (qs : List Nat) (R : List Nat → Option Ans → Prop) : Prop :=
  R (qs ++ (Sv21.play io (ns.drop qs.length)).1.flatten) (Sv21.play io (ns.drop qs.length)).2
theorem wp_ret {ns : List Nat} {a : Ans} {qs : List Nat} {R : List Nat → Option Ans → Prop} : Wp ns (.ret a) qs R ↔ R qs (some a) := by
  unfold Wp
  rw [Sv21.play]
  simp
theorem drop_some {ns : List Nat} {n y : Nat} (h : ns[n]? = some y) : ns.drop n = y :: ns.drop (n + 1) := by
  obtain ⟨h1, h2⟩ := List.getElem?_eq_some_iff.mp h
  rw [List.drop_eq_getElem_cons h1, h2]
theorem drop_none {ns : List Nat} {n : Nat} (h : ns[n]? = none) : ns.drop n = [] := by
  rw [List.drop_eq_nil_iff]
  exact List.getElem?_eq_none_iff.mp h
theorem wp_ask1 {ns : List Nat} {x : Nat} {k : Nat → Io} {qs : List Nat} {R : List Nat → Option Ans → Prop} :
    Wp ns (.ask [x] k) qs R ↔ (match ns[qs.length]? with | none => R (qs ++ [x]) none | some y => Wp ns (k y) (qs ++ [x]) R) := by
  unfold Wp
  cases h : ns[qs.length]? with
  | none =>
    rw [drop_none h, Sv21.play]
    simp
  | some y =>
    rw [drop_some h, Sv21.play]
    simp
theorem wp_need {ns : List Nat} {x : Nat} {k : Nat → Io} {qs : List Nat} {R : List Nat → Option Ans → Prop} :
    Wp ns (Sv21.need x k) qs R ↔ (if Sv21.finite x = true then Wp ns (k x) qs R else R qs (some (Sv21.ok (-4)))) := by
  unfold Sv21.need
  by_cases h : Sv21.finite x = true
  · rw [if_pos h, if_pos h]
  · rw [if_neg h, if_neg h, wp_ret]
theorem wp_question {ns : List Nat} {x : Nat} {k : Nat → Io} {qs : List Nat} {R : List Nat → Option Ans → Prop} (hx : Sv21.finite x = true) (hn : ∀ y ∈ ns, y < 2 ^ 64) :
    Wp ns (Sv21.question [x] k) qs R ↔ (match ns[qs.length]? with | none => R (qs ++ [x]) none | some y => if Sv21.finite y = true then Wp ns (k y) (qs ++ [x]) R else R (qs ++ [x]) (some (Sv21.ok (-4)))) := by
  unfold Sv21.question Sv21.needs Sv21.needs
  rw [wp_need, if_pos hx, wp_ask1]
  cases h : ns[qs.length]? with
  | none => rfl
  | some y =>
    have hy : y % 2 ^ 64 = y := Nat.mod_eq_of_lt (hn y (List.mem_of_getElem? h))
    dsimp only
    rw [hy, wp_need]
theorem wp_mono {ns : List Nat} {io : Io} {qs : List Nat} {R R' : List Nat → Option Ans → Prop} (h : Wp ns io qs R) (k : ∀ q a, R q a → R' q a) : Wp ns io qs R' := k _ _ h
/-- each question is one number, there are few of them, and the end is a refusal or tells how many there were -/
def GoodAt (B n : Nat) (l : List Nat) (r : List (List Nat) × Option Ans) : Prop := (∀ q ∈ r.1, q.length = 1) ∧ r.1.length ≤ l.length + 1 ∧ ∀ a, r.2 = some a → ((a.v = -2 ∨ a.v = -4 ∨ a.v = -5) ∧ a.l = []) ∨ (a.v = ((n + r.1.length : Nat) : Int) ∧ a.l.length ≤ B)
def Good (B : Nat) (io : Io) (n : Nat) : Prop := ∀ l, GoodAt B n l (Sv21.play io l)
theorem good_ret {B n : Nat} {l : List Nat} (h : l.length ≤ B) : Good B (.ret ⟨(n : Int), l⟩) n := fun m => by
  rw [Sv21.play]
  refine ⟨fun q hq => absurd hq (by simp), Nat.zero_le _, fun a e => .inr ?_⟩
  cases e
  exact ⟨rfl, h⟩
theorem good_no {B n : Nat} {v : Int} (h : v = -2 ∨ v = -4 ∨ v = -5) : Good B (.ret (Sv21.ok v)) n := fun m => by
  rw [Sv21.play]
  refine ⟨fun q hq => absurd hq (by simp), Nat.zero_le _, fun a e => .inl ?_⟩
  cases e
  exact ⟨h, rfl⟩
theorem good_need {B x n : Nat} {k : Nat → Io} (h : ∀ y, Good B (k y) n) : Good B (Sv21.need x k) n := by
  unfold Sv21.need
  split
  · exact h x
  · exact good_no (.inr (.inl rfl))
theorem good_ask {B x n : Nat} {k : Nat → Io} (h : ∀ y, Good B (k y) (n + 1)) : Good B (.ask [x] k) n := fun l => by
  cases l with
  | nil =>
    rw [Sv21.play]
    refine ⟨fun q hq => ?_, Nat.le_refl _, fun a e => by cases e⟩
    have : q = [x] := by simpa using hq
    rw [this]; rfl
  | cons y l =>
    rw [Sv21.play]
    obtain ⟨h1, h2, h3⟩ := h y l
    refine ⟨fun q hq => ?_, ?_, fun a e => ?_⟩
    · rcases List.mem_cons.mp hq with e | hq
      · rw [e]; rfl
      · exact h1 q hq
    · show (Sv21.play (k y) l).1.length + 1 ≤ l.length + 1 + 1
      omega
    · rcases h3 a e with z | ⟨z1, z2⟩
      · exact .inl z
      · refine .inr ⟨?_, z2⟩
        rw [z1]
        show ((n + 1 + (Sv21.play (k y) l).1.length : Nat) : Int) = ((n + ((Sv21.play (k y) l).1.length + 1) : Nat) : Int)
        omega
theorem good_needs {B n : Nat} {k : Io} (h : Good B k n) : ∀ l : List Nat, Good B (Sv21.needs l k) n
  | [] => h
  | x :: r => good_need fun _ => good_needs h r
theorem good_asked (g : Nat → Nat) {B x n : Nat} {k : Nat → Io} (h : ∀ y, Good B (k y) (n + 1)) : Good B (Sv21.needs [x] (.ask [x] fun y => Sv21.need (g y) k)) n :=
  good_needs (good_ask fun y => good_need (x := g y) h) [x]
theorem good_question {B x n : Nat} {k : Nat → Io} (h : ∀ y, Good B (k y) (n + 1)) : Good B (Sv21.question [x] k) n := good_asked (fun y => y % 2 ^ 64) h
theorem good_middle {B a b n : Nat} {k : Nat → Io} (h : ∀ y, Good B (k y) n) : Good B (Sv21.middle a b k) n := by
  unfold Sv21.middle Sv21.less_ Sv21.times Sv21.plus
  exact good_need fun _ => good_need fun _ => good_need h
theorem good_rootFrom : ∀ (j n a b fa : Nat), Good 2 (Sv21.rootFrom j n a b fa) n
  | 0, n, a, b, fa => by
    rw [Sv21.rootFrom]
    exact good_ret (Nat.le_refl _)
  | j + 1, n, a, b, fa => by
    rw [Sv21.rootFrom]
    refine good_middle fun m => ?_
    split
    · exact good_ret (Nat.le_refl _)
    · refine good_question fun y => ?_
      split
      · exact good_ret (n := n + 1) (Nat.le_refl _)
      · split
        · exact good_rootFrom j (n + 1) m b y
        · exact good_rootFrom j (n + 1) a m fa
theorem good_root (a b : Nat) (m : Int) : Good 2 (Sv21.program (.root a b m)) 0 := by
  unfold Sv21.program
  dsimp only
  split
  · exact good_no (.inl rfl)
  · unfold Sv21.root
    refine good_needs (good_question fun fa => good_question fun fb => ?_) _
    split
    · exact good_ret (n := 2) (Nat.le_refl _)
    · split
      · exact good_ret (n := 2) (Nat.le_refl _)
      · split
        · exact good_no (.inr (.inr rfl))
        · exact good_rootFrom _ 2 a b fa
theorem good_areaFrom {B a h n : Nat} {k : Nat → Io} : ∀ (j i s m : Nat), (∀ s, Good B (k s) (m + j)) → Good B (Sv21.areaFrom a h n j i s k) m
  | 0, i, s, m, g => by
    rw [Sv21.areaFrom]
    exact g s
  | j + 1, i, s, m, g => by
    rw [Sv21.areaFrom]
    unfold Sv21.place Sv21.times Sv21.plus
    refine good_need fun _ => good_need fun _ => good_question fun _ => good_need fun _ => good_need fun _ => ?_
    exact good_areaFrom j (i + 1) _ (m + 1) fun s => by
      have e : m + 1 + j = m + (j + 1) := by omega
      rw [e]
      exact g s
theorem good_area (a b : Nat) (n : Int) : Good 1 (Sv21.program (.area a b n)) 0 := by
  unfold Sv21.program
  dsimp only
  split
  · exact good_no (.inl rfl)
  · rename_i hn
    have hw : 2 ≤ n.toNat := by
      unfold Sv21.within at hn
      rw [not_or, Bool.not_eq_false, Bool.and_eq_true, decide_eq_true_iff, decide_eq_true_iff] at hn
      omega
    unfold Sv21.area Sv21.less_ Sv21.over Sv21.plus Sv21.times
    refine good_needs (good_need fun _ => good_need fun _ => good_question fun s => ?_) _
    refine good_areaFrom (n.toNat - 1) 1 s 1 fun s => ?_
    refine good_question fun y => good_need fun _ => good_need fun _ => good_need fun r => ?_
    have e : 0 + 1 + (n.toNat - 1) + 1 = n.toNat + 1 := by omega
    rw [show 1 + (n.toNat - 1) + 1 = n.toNat + 1 by omega]
    exact good_ret (n := n.toNat + 1) (Nat.le_refl _)
theorem flat_len : ∀ {l : List (List Nat)}, (∀ q ∈ l, q.length = 1) → l.flatten.length = l.length
  | [], _ => rfl
  | a :: r, h => by
    rw [List.flatten_cons, List.length_append, h a (List.mem_cons_self ..), List.length_cons, flat_len fun q hq => h q (List.mem_cons_of_mem _ hq)]
    omega
theorem flat_map : ∀ l : List (List Nat), (l.map Sv21Neutral.whole).flatten = l.flatten.map (fun (x : Nat) => (x : Int))
  | [] => rfl
  | a :: r => by
    rw [List.map_cons, List.flatten_cons, List.flatten_cons, List.map_append, flat_map r]
    rfl
theorem good_few {B : Nat} {io : Io} {ns : List Nat} (g : Good B io 0) : Wp ns io [] (fun qs r => qs.length ≤ ns.length + 1 ∧ ∀ a, r = some a → ((a.v = -2 ∨ a.v = -4 ∨ a.v = -5) ∧ a.l = []) ∨ (a.v = (qs.length : Int) ∧ a.l.length ≤ B)) := by
  obtain ⟨h1, h2, h3⟩ := g ns
  unfold Wp
  simp only [List.length_nil, List.drop_zero, List.nil_append]
  rw [flat_len h1]
  refine ⟨h2, fun a e => ?_⟩
  rcases h3 a e with z | ⟨z1, z2⟩
  · exact .inl z
  · refine .inr ⟨?_, z2⟩
    rw [z1]
    omega
theorem wp_and {ns : List Nat} {io : Io} {qs : List Nat} {R R' : List Nat → Option Ans → Prop} (h : Wp ns io qs R) (h' : Wp ns io qs R') : Wp ns io qs fun q r => R q r ∧ R' q r := ⟨h, h'⟩
theorem wp_all {ns : List Nat} {io : Io} {qs : List Nat} {R : List Nat → Option Ans → Prop} (h : ∀ q r, R q r) : Wp ns io qs R := h _ _
/-- the specification's list, from the play's end -/
def toldI (n : Nat) (qs : List Nat) (r : Option Ans) : List Int := (n : Int) :: (qs.map (fun (x : Nat) => (x : Int)) ++ match r with
  | some a => a.v :: Sv21Neutral.whole a.l
  | none => [])
theorem spec_told {io : Io} {ns : List Nat} : ((((Sv21.play io ns).1.map Sv21Neutral.whole).length : Nat) : Int) :: (((Sv21.play io ns).1.map Sv21Neutral.whole).flatten ++ match (Sv21.play io ns).2 with
      | some a => a.v :: Sv21Neutral.whole a.l
      | none => []) = toldI (Sv21.play io ns).1.length (Sv21.play io ns).1.flatten (Sv21.play io ns).2 := by
  unfold toldI
  rw [flat_map, List.length_map]
end An

set_option maxRecDepth 100000
set_option linter.all false
namespace An
open Sv21 (Io Ans)
/-! ### the later calls: each end tells how many questions there were -/
theorem good_plus {B a b n : Nat} {k : Nat → Io} (h : ∀ y, Good B (k y) n) : Good B (Sv21.plus a b k) n := by
  unfold Sv21.plus
  exact good_need h
theorem good_less {B a b n : Nat} {k : Nat → Io} (h : ∀ y, Good B (k y) n) : Good B (Sv21.less_ a b k) n := by
  unfold Sv21.less_
  exact good_need h
theorem good_times {B a b n : Nat} {k : Nat → Io} (h : ∀ y, Good B (k y) n) : Good B (Sv21.times a b k) n := by
  unfold Sv21.times
  exact good_need h
theorem good_over {B a b n : Nat} {k : Nat → Io} (h : ∀ y, Good B (k y) n) : Good B (Sv21.over a b k) n := by
  unfold Sv21.over
  exact good_need h
theorem good_simpson {B a b fa fm fb n : Nat} {k : Nat → Io} (h : ∀ y, Good B (k y) n) : Good B (Sv21.simpson a b fa fm fb k) n := by
  unfold Sv21.simpson
  exact good_times fun _ => good_plus fun _ => good_plus fun _ => good_less fun _ => good_over fun _ => good_times h
/-- what a piece does up to its test -/
def pieceTo (e a m b fa fm fb s : Nat) (k : Nat → Nat → Nat → Nat → Nat → Nat → Nat → Nat → Nat → Io) : Io := Sv21.middle a m fun l => Sv21.middle m b fun r => Sv21.question [l] fun fl => Sv21.question [r] fun fr =>
  Sv21.simpson a m fa fl fm fun s1 => Sv21.simpson m b fm fr fb fun s2 => Sv21.plus s1 s2 fun t => Sv21.less_ t s fun D => Sv21.times (Sv21.whole 15) e fun e15 => k l r fl fr s1 s2 t D e15
theorem piece_zero (e a m b fa fm fb s n : Nat) (k : Nat → Nat → Io) : Sv21.piece 0 e a m b fa fm fb s n k = pieceTo e a m b fa fm fb s fun l r fl fr s1 s2 t D e15 => Sv21.over D (Sv21.whole 15) fun c => Sv21.plus t c fun r => k r (n + 2) := by
  with_unfolding_all rfl
theorem piece_succ (d e a m b fa fm fb s n : Nat) (k : Nat → Nat → Io) : Sv21.piece (d + 1) e a m b fa fm fb s n k = pieceTo e a m b fa fm fb s fun l r fl fr s1 s2 t D e15 => if Sv21.less e15 (Sv21.mag D) = false then Sv21.over D (Sv21.whole 15) fun c => Sv21.plus t c fun r => k r (n + 2)
      else Sv21.times e Sv21.half fun e2 => Sv21.piece d e2 a l m fa fl fm s1 (n + 2) fun x n => Sv21.piece d e2 m r b fm fr fb s2 n fun y n => Sv21.plus x y fun z => k z n := by
  with_unfolding_all rfl
theorem good_pieceTo {B e a m b fa fm fb s n : Nat} {k : Nat → Nat → Nat → Nat → Nat → Nat → Nat → Nat → Nat → Io} (h : ∀ l r fl fr s1 s2 t D e15, Good B (k l r fl fr s1 s2 t D e15) (n + 2)) : Good B (pieceTo e a m b fa fm fb s k) n := by
  unfold pieceTo
  exact good_middle fun l => good_middle fun r => good_question fun fl => good_question fun fr => good_simpson fun s1 => good_simpson fun s2 => good_plus fun t => good_less fun D => good_times fun e15 => h l r fl fr s1 s2 t D e15
theorem good_piece {B : Nat} : ∀ (d e a m b fa fm fb s n : Nat) (k : Nat → Nat → Io), (∀ r n2, Good B (k r n2) n2) → Good B (Sv21.piece d e a m b fa fm fb s n k) n := by
  intro d
  induction d with
  | zero =>
    intro e a m b fa fm fb s n k h
    rw [piece_zero]
    exact good_pieceTo fun l r fl fr s1 s2 t D e15 => good_over fun c => good_plus fun r => h r (n + 2)
  | succ d ih =>
    intro e a m b fa fm fb s n k h
    rw [piece_succ]
    refine good_pieceTo fun l r fl fr s1 s2 t D e15 => ?_
    split
    · exact good_over fun c => good_plus fun r => h r (n + 2)
    · refine good_times fun e2 => ih e2 a l m fa fl fm s1 (n + 2) _ fun x n2 => ih e2 m r b fm fr fb s2 n2 _ fun y n3 => good_plus fun z => h z n3
theorem good_rough (a b e : Nat) : Good 1 (Sv21.program (.rough a b e)) 0 := by
  unfold Sv21.program
  dsimp only
  refine good_needs ?_ _
  split
  · exact good_no (.inl rfl)
  · unfold Sv21.rough
    exact good_middle fun m => good_question fun fa => good_question fun fm => good_question fun fb => good_simpson fun s => good_piece 20 e a m b fa fm fb s 3 _ fun r n => good_ret (Nat.le_refl _)
theorem good_inner {B a b n : Nat} {k : Nat → Io} (h : ∀ y, Good B (k y) n) : Good B (Sv21.inner a b k) n := by
  unfold Sv21.inner Sv21.less_ Sv21.times
  exact good_need fun _ => good_need fun _ => good_need h
theorem good_outer {B a b n : Nat} {k : Nat → Io} (h : ∀ y, Good B (k y) n) : Good B (Sv21.outer a b k) n := by
  unfold Sv21.outer Sv21.less_ Sv21.times Sv21.plus
  exact good_need fun _ => good_need fun _ => good_need h
theorem good_leastFrom : ∀ (j n a b x y fx fy : Nat), Good 2 (Sv21.leastFrom j n a b x y fx fy) n
  | 0, n, a, b, x, y, fx, fy => by
    rw [Sv21.leastFrom]
    exact good_ret (Nat.le_refl _)
  | j + 1, n, a, b, x, y, fx, fy => by
    rw [Sv21.leastFrom]
    split
    · exact good_inner fun z => good_question fun fz => good_leastFrom j (n + 1) a y z x fz fx
    · exact good_outer fun z => good_question fun fz => good_leastFrom j (n + 1) x b y z fy fz
theorem good_least (a b : Nat) (m : Int) : Good 2 (Sv21.program (.least a b m)) 0 := by
  unfold Sv21.program
  dsimp only
  split
  · exact good_no (.inl rfl)
  · unfold Sv21.least
    exact good_needs (good_inner fun x => good_outer fun y => good_question fun fx => good_question fun fy => good_leastFrom _ 2 a b x y fx fy) _
theorem good_slope (x h : Nat) : Good 1 (Sv21.program (.slope x h)) 0 := by
  unfold Sv21.program
  dsimp only
  refine good_needs ?_ _
  split
  · exact good_no (.inl rfl)
  · unfold Sv21.slope Sv21.plus Sv21.less_ Sv21.times Sv21.over
    refine good_need fun _ => good_question fun _ => good_need fun _ => good_question fun _ => good_need fun _ => good_need fun _ => good_question fun _ => good_need fun _ => good_question fun _ => ?_
    exact good_need fun _ => good_need fun _ => good_need fun _ => good_need fun _ => good_need fun _ => good_need fun _ => good_need fun _ => good_need fun _ => good_ret (n := 4) (Nat.le_refl _)
theorem good_tableFrom {B a h : Nat} : ∀ (j i : Nat) (l : List Nat), l.length + j ≤ B → Good B (Sv21.tableFrom a h j i l) i
  | 0, i, l, g => by
    rw [Sv21.tableFrom]
    exact good_ret (by omega)
  | j + 1, i, l, g => by
    rw [Sv21.tableFrom]
    unfold Sv21.place Sv21.times Sv21.plus
    exact good_need fun _ => good_need fun _ => good_question fun y => good_tableFrom j (i + 1) (l ++ [y]) (by rw [List.length_append, List.length_singleton]; omega)
theorem good_table (a b : Nat) (n : Int) : Good 65536 (Sv21.program (.table a b n)) 0 := by
  unfold Sv21.program
  dsimp only
  split
  · exact good_no (.inl rfl)
  · rename_i hn
    have hw : n.toNat ≤ 65536 := by
      unfold Sv21.within at hn
      rw [Bool.not_eq_false, Bool.and_eq_true, decide_eq_true_iff, decide_eq_true_iff] at hn
      omega
    unfold Sv21.table
    refine good_needs ?_ _
    split
    · exact good_question fun y => good_ret (n := 1) (show 1 ≤ 65536 by decide)
    · unfold Sv21.less_ Sv21.over
      exact good_need fun _ => good_need fun _ => good_tableFrom n.toNat 0 [] (by rw [List.length_nil]; omega)
/-! ### a step of reckoning -/
theorem wp_plus {ns : List Nat} {a b : Nat} {k : Nat → Io} {qs : List Nat} {R : List Nat → Option Ans → Prop} : Wp ns (Sv21.plus a b k) qs R ↔ (if Sv21.finite (Sv21.add a b) = true then Wp ns (k (Sv21.add a b)) qs R else R qs (some (Sv21.ok (-4)))) := by
  unfold Sv21.plus
  exact wp_need
theorem wp_less {ns : List Nat} {a b : Nat} {k : Nat → Io} {qs : List Nat} {R : List Nat → Option Ans → Prop} : Wp ns (Sv21.less_ a b k) qs R ↔ (if Sv21.finite (Sv21.sub a b) = true then Wp ns (k (Sv21.sub a b)) qs R else R qs (some (Sv21.ok (-4)))) := by
  unfold Sv21.less_
  exact wp_need
theorem wp_times {ns : List Nat} {a b : Nat} {k : Nat → Io} {qs : List Nat} {R : List Nat → Option Ans → Prop} : Wp ns (Sv21.times a b k) qs R ↔ (if Sv21.finite (Sv21.mul a b) = true then Wp ns (k (Sv21.mul a b)) qs R else R qs (some (Sv21.ok (-4)))) := by
  unfold Sv21.times
  exact wp_need
theorem wp_over {ns : List Nat} {a b : Nat} {k : Nat → Io} {qs : List Nat} {R : List Nat → Option Ans → Prop} : Wp ns (Sv21.over a b k) qs R ↔ (if Sv21.finite (Sv21.div a b) = true then Wp ns (k (Sv21.div a b)) qs R else R qs (some (Sv21.ok (-4)))) := by
  unfold Sv21.over
  exact wp_need
end An

set_option maxRecDepth 100000
set_option linter.all false
namespace An
open Sv21 (Io Ans)
/-! ### questions of so many numbers: how many there were is told apart from their numbers -/
/-- ns: all answers; i: how many questions there were so far; qs: their numbers -/
def Wp2 (ns : List Nat) (io : Io) (i : Nat) (qs : List Nat) (R : Nat → List Nat → Option Ans → Prop) : Prop :=
  R (i + (Sv21.play io (ns.drop i)).1.length) (qs ++ (Sv21.play io (ns.drop i)).1.flatten) (Sv21.play io (ns.drop i)).2
theorem wp2_ret {ns : List Nat} {a : Ans} {i : Nat} {qs : List Nat} {R : Nat → List Nat → Option Ans → Prop} : Wp2 ns (.ret a) i qs R ↔ R i qs (some a) := by
  unfold Wp2
  rw [Sv21.play]
  simp
theorem wp2_ask {ns q : List Nat} {k : Nat → Io} {i : Nat} {qs : List Nat} {R : Nat → List Nat → Option Ans → Prop} :
    Wp2 ns (.ask q k) i qs R ↔ (match ns[i]? with | none => R (i + 1) (qs ++ q) none | some y => Wp2 ns (k y) (i + 1) (qs ++ q) R) := by
  unfold Wp2
  cases h : ns[i]? with
  | none =>
    rw [drop_none h, Sv21.play]
    simp
  | some y =>
    rw [drop_some h, Sv21.play]
    simp only [List.length_cons, List.flatten_cons, List.append_assoc]
    rw [Nat.add_assoc, Nat.add_comm 1]
theorem wp2_need {ns : List Nat} {x : Nat} {k : Nat → Io} {i : Nat} {qs : List Nat} {R : Nat → List Nat → Option Ans → Prop} :
    Wp2 ns (Sv21.need x k) i qs R ↔ (if Sv21.finite x = true then Wp2 ns (k x) i qs R else R i qs (some (Sv21.ok (-4)))) := by
  unfold Sv21.need
  by_cases h : Sv21.finite x = true
  · rw [if_pos h, if_pos h]
  · rw [if_neg h, if_neg h, wp2_ret]
theorem wp2_question {ns : List Nat} {x z : Nat} {k : Nat → Io} {i : Nat} {qs : List Nat} {R : Nat → List Nat → Option Ans → Prop} (hx : Sv21.finite x = true) (hz : Sv21.finite z = true) (hn : ∀ y ∈ ns, y < 2 ^ 64) :
    Wp2 ns (Sv21.question [x, z] k) i qs R ↔ (match ns[i]? with | none => R (i + 1) (qs ++ [x, z]) none | some y => if Sv21.finite y = true then Wp2 ns (k y) (i + 1) (qs ++ [x, z]) R else R (i + 1) (qs ++ [x, z]) (some (Sv21.ok (-4)))) := by
  unfold Sv21.question Sv21.needs Sv21.needs Sv21.needs
  rw [wp2_need, if_pos hx, wp2_need, if_pos hz, wp2_ask]
  cases h : ns[i]? with
  | none => rfl
  | some y =>
    have hy : y % 2 ^ 64 = y := Nat.mod_eq_of_lt (hn y (List.mem_of_getElem? h))
    dsimp only
    rw [hy, wp2_need]
theorem wp2_mono {ns : List Nat} {io : Io} {i : Nat} {qs : List Nat} {R R' : Nat → List Nat → Option Ans → Prop} (h : Wp2 ns io i qs R) (k : ∀ n q a, R n q a → R' n q a) : Wp2 ns io i qs R' := k _ _ _ h
theorem wp2_plus {ns : List Nat} {a b : Nat} {k : Nat → Io} {i : Nat} {qs : List Nat} {R : Nat → List Nat → Option Ans → Prop} : Wp2 ns (Sv21.plus a b k) i qs R ↔ (if Sv21.finite (Sv21.add a b) = true then Wp2 ns (k (Sv21.add a b)) i qs R else R i qs (some (Sv21.ok (-4)))) := by
  unfold Sv21.plus
  exact wp2_need
theorem wp2_times {ns : List Nat} {a b : Nat} {k : Nat → Io} {i : Nat} {qs : List Nat} {R : Nat → List Nat → Option Ans → Prop} : Wp2 ns (Sv21.times a b k) i qs R ↔ (if Sv21.finite (Sv21.mul a b) = true then Wp2 ns (k (Sv21.mul a b)) i qs R else R i qs (some (Sv21.ok (-4)))) := by
  unfold Sv21.times
  exact wp2_need
theorem wp2_over {ns : List Nat} {a b : Nat} {k : Nat → Io} {i : Nat} {qs : List Nat} {R : Nat → List Nat → Option Ans → Prop} : Wp2 ns (Sv21.over a b k) i qs R ↔ (if Sv21.finite (Sv21.div a b) = true then Wp2 ns (k (Sv21.div a b)) i qs R else R i qs (some (Sv21.ok (-4)))) := by
  unfold Sv21.over
  exact wp2_need
/-- each question is two numbers, there are few of them, and the end is a refusal or tells how many there were -/
def Good2At (B n : Nat) (l : List Nat) (r : List (List Nat) × Option Ans) : Prop := (∀ q ∈ r.1, q.length = 2) ∧ r.1.length ≤ l.length + 1 ∧ ∀ a, r.2 = some a → ((a.v = -2 ∨ a.v = -4 ∨ a.v = -5) ∧ a.l = []) ∨ (a.v = ((n + r.1.length : Nat) : Int) ∧ a.l.length ≤ B)
def Good2 (B : Nat) (io : Io) (n : Nat) : Prop := ∀ l, Good2At B n l (Sv21.play io l)
theorem good2_ret {B n : Nat} {l : List Nat} (h : l.length ≤ B) : Good2 B (.ret ⟨(n : Int), l⟩) n := fun m => by
  rw [Sv21.play]
  refine ⟨fun q hq => absurd hq (by simp), Nat.zero_le _, fun a e => .inr ?_⟩
  cases e
  exact ⟨rfl, h⟩
theorem good2_no {B n : Nat} {v : Int} (h : v = -2 ∨ v = -4 ∨ v = -5) : Good2 B (.ret (Sv21.ok v)) n := fun m => by
  rw [Sv21.play]
  refine ⟨fun q hq => absurd hq (by simp), Nat.zero_le _, fun a e => .inl ?_⟩
  cases e
  exact ⟨h, rfl⟩
theorem good2_need {B x n : Nat} {k : Nat → Io} (h : ∀ y, Good2 B (k y) n) : Good2 B (Sv21.need x k) n := by
  unfold Sv21.need
  split
  · exact h x
  · exact good2_no (.inr (.inl rfl))
theorem good2_ask {B x z n : Nat} {k : Nat → Io} (h : ∀ y, Good2 B (k y) (n + 1)) : Good2 B (.ask [x, z] k) n := fun l => by
  cases l with
  | nil =>
    rw [Sv21.play]
    refine ⟨fun q hq => ?_, Nat.le_refl _, fun a e => by cases e⟩
    have : q = [x, z] := by simpa using hq
    rw [this]; rfl
  | cons y l =>
    rw [Sv21.play]
    obtain ⟨h1, h2, h3⟩ := h y l
    refine ⟨fun q hq => ?_, ?_, fun a e => ?_⟩
    · rcases List.mem_cons.mp hq with e | hq
      · rw [e]; rfl
      · exact h1 q hq
    · show (Sv21.play (k y) l).1.length + 1 ≤ l.length + 1 + 1
      omega
    · rcases h3 a e with z | ⟨z1, z2⟩
      · exact .inl z
      · refine .inr ⟨?_, z2⟩
        rw [z1]
        show ((n + 1 + (Sv21.play (k y) l).1.length : Nat) : Int) = ((n + ((Sv21.play (k y) l).1.length + 1) : Nat) : Int)
        omega
theorem good2_needs {B n : Nat} {k : Io} (h : Good2 B k n) : ∀ l : List Nat, Good2 B (Sv21.needs l k) n
  | [] => h
  | x :: r => good2_need fun _ => good2_needs h r
theorem good2_asked (g : Nat → Nat) {B x z n : Nat} {k : Nat → Io} (h : ∀ y, Good2 B (k y) (n + 1)) : Good2 B (Sv21.needs [x, z] (.ask [x, z] fun y => Sv21.need (g y) k)) n :=
  good2_needs (good2_ask fun y => good2_need (x := g y) h) [x, z]
theorem good2_question {B x z n : Nat} {k : Nat → Io} (h : ∀ y, Good2 B (k y) (n + 1)) : Good2 B (Sv21.question [x, z] k) n := good2_asked (fun y => y % 2 ^ 64) h
theorem walkFrom_zero (t h p q i y : Nat) (l : List Nat) : Sv21.walkFrom t h p q 0 i y l = .ret ⟨((4 * i : Nat) : Int), l⟩ := by
  rw [Sv21.walkFrom]
  congr 2
/-- one step -/
def walkStep (t h p q i y : Nat) (k : Nat → Io) : Io := Sv21.place t h i fun u => Sv21.question [u, y] fun k1 => Sv21.plus u p fun v => Sv21.times p k1 fun z => Sv21.plus y z fun y1 => Sv21.question [v, y1] fun k2 => Sv21.times p k2 fun z => Sv21.plus y z fun y2 => Sv21.question [v, y2] fun k3 =>
    Sv21.plus u h fun w => Sv21.times h k3 fun z => Sv21.plus y z fun y3 => Sv21.question [w, y3] fun k4 => Sv21.times (Sv21.whole 2) k2 fun a => Sv21.plus k1 a fun s => Sv21.times (Sv21.whole 2) k3 fun b => Sv21.plus s b fun s => Sv21.plus s k4 fun s => Sv21.times q s fun z => Sv21.plus y z k
theorem walkFrom_succ (t h p q j i y : Nat) (l : List Nat) : Sv21.walkFrom t h p q (j + 1) i y l = walkStep t h p q i y fun y => Sv21.walkFrom t h p q j (i + 1) y (l ++ [y]) := by
  with_unfolding_all rfl
theorem good2_step {B t h p q i y n : Nat} {k : Nat → Io} (g : ∀ y, Good2 B (k y) (n + 4)) : Good2 B (walkStep t h p q i y k) n := by
  unfold walkStep Sv21.place Sv21.plus Sv21.times
  refine good2_need fun _ => good2_need fun _ => good2_question fun _ => good2_need fun _ => good2_need fun _ => good2_need fun _ => good2_question fun _ => good2_need fun _ => good2_need fun _ => good2_question fun _ => ?_
  exact good2_need fun _ => good2_need fun _ => good2_need fun _ => good2_question fun _ => good2_need fun _ => good2_need fun _ => good2_need fun _ => good2_need fun _ => good2_need fun _ => good2_need fun _ => good2_need g
theorem good_walkFrom {B t h p q : Nat} : ∀ (j i y : Nat) (l : List Nat), l.length + j ≤ B → Good2 B (Sv21.walkFrom t h p q j i y l) (4 * i)
  | 0, i, y, l, g => by
    rw [walkFrom_zero]
    exact good2_ret (by omega)
  | j + 1, i, y, l, g => by
    rw [walkFrom_succ]
    exact good2_step fun y => good_walkFrom j (i + 1) y (l ++ [y]) (by rw [List.length_append, List.length_singleton]; omega)
theorem good_walk (t y h : Nat) (n : Int) : Good2 65537 (Sv21.program (.walk t y h n)) 0 := by
  unfold Sv21.program
  dsimp only
  split
  · exact good2_no (.inl rfl)
  · rename_i hn
    have hw : n.toNat ≤ 65536 := by
      unfold Sv21.within at hn
      rw [Bool.not_eq_false, Bool.and_eq_true, decide_eq_true_iff, decide_eq_true_iff] at hn
      omega
    unfold Sv21.walk Sv21.times Sv21.over
    exact good2_needs (good2_need fun _ => good2_need fun _ => good_walkFrom n.toNat 0 y [y] (by rw [List.length_singleton]; omega)) _
theorem flat2_len : ∀ {l : List (List Nat)}, (∀ q ∈ l, q.length = 2) → l.flatten.length = 2 * l.length
  | [], _ => rfl
  | a :: r, h => by
    rw [List.flatten_cons, List.length_append, h a (List.mem_cons_self ..), List.length_cons, flat2_len fun q hq => h q (List.mem_cons_of_mem _ hq)]
    omega
/-! ### slope and table, as the specification goes on -/
theorem wp_slope {ns : List Nat} {x h : Nat} {qs : List Nat} {R : List Nat → Option Ans → Prop} : Wp ns (Sv21.program (.slope x h)) qs R ↔ (if Sv21.finite x = true then (if Sv21.finite h = true then
    (if Sv21.zero h = true then R qs (some (Sv21.ok (-2))) else Wp ns (Sv21.slope x h) qs R) else R qs (some (Sv21.ok (-4)))) else R qs (some (Sv21.ok (-4)))) := by
  unfold Sv21.program
  dsimp only
  unfold Sv21.needs Sv21.needs Sv21.needs
  rw [wp_need, wp_need]
  by_cases z : Sv21.zero h = true
  · rw [if_pos z, if_pos z, wp_ret]
  · rw [if_neg z, if_neg z]
theorem wp_table {ns : List Nat} {a b : Nat} {n : Int} {qs : List Nat} {R : List Nat → Option Ans → Prop} : Wp ns (Sv21.program (.table a b n)) qs R ↔ (if Sv21.within n 1 65536 = false then R qs (some (Sv21.ok (-2))) else
    if Sv21.finite a = true then (if Sv21.finite b = true then Wp ns (Sv21.table a b n.toNat) qs R else R qs (some (Sv21.ok (-4)))) else R qs (some (Sv21.ok (-4)))) := by
  unfold Sv21.program
  dsimp only
  by_cases h : Sv21.within n 1 65536 = false
  · rw [if_pos h, if_pos h, wp_ret]
  · rw [if_neg h, if_neg h]
    unfold Sv21.needs Sv21.needs Sv21.needs
    rw [wp_need, wp_need]
theorem within_table (n : Int) : Sv21.within n 1 65536 = false ↔ (n < 1 ∨ 65536 < n) := by
  unfold Sv21.within
  rw [Bool.and_eq_false_iff, decide_eq_false_iff_not, decide_eq_false_iff_not]
  omega
theorem within_walk (n : Int) : Sv21.within n 0 65536 = false ↔ (n < 0 ∨ 65536 < n) := by
  unfold Sv21.within
  rw [Bool.and_eq_false_iff, decide_eq_false_iff_not, decide_eq_false_iff_not]
  omega
theorem wp_tableFrom {ns : List Nat} {a h j i : Nat} {l qs : List Nat} {R : List Nat → Option Ans → Prop} : Wp ns (Sv21.tableFrom a h (j + 1) i l) qs R ↔
    (if Sv21.finite (Sv21.mul (Sv21.whole i) h) = true then (if Sv21.finite (Sv21.add a (Sv21.mul (Sv21.whole i) h)) = true then Wp ns (Sv21.question [Sv21.add a (Sv21.mul (Sv21.whole i) h)] fun y => Sv21.tableFrom a h j (i + 1) (l ++ [y])) qs R
      else R qs (some (Sv21.ok (-4)))) else R qs (some (Sv21.ok (-4)))) := by
  rw [Sv21.tableFrom]
  unfold Sv21.place
  rw [wp_times, wp_plus]
theorem wp2_walk {ns : List Nat} {t y h : Nat} {n : Int} {i : Nat} {qs : List Nat} {R : Nat → List Nat → Option Ans → Prop} : Wp2 ns (Sv21.program (.walk t y h n)) i qs R ↔ (if Sv21.within n 0 65536 = false then R i qs (some (Sv21.ok (-2))) else
    if Sv21.finite t = true then (if Sv21.finite y = true then (if Sv21.finite h = true then Wp2 ns (Sv21.walk t y h n.toNat) i qs R else R i qs (some (Sv21.ok (-4)))) else R i qs (some (Sv21.ok (-4)))) else R i qs (some (Sv21.ok (-4)))) := by
  unfold Sv21.program
  dsimp only
  by_cases z : Sv21.within n 0 65536 = false
  · rw [if_pos z, if_pos z, wp2_ret]
  · rw [if_neg z, if_neg z]
    unfold Sv21.needs Sv21.needs Sv21.needs Sv21.needs
    rw [wp2_need, wp2_need, wp2_need]
/-! ### twice a number -/
theorem bits_pos {m p : Nat} (h0 : m ≠ 0) : 0 < bits m (p : Int) := by
  unfold bits
  rcases drop_or m (p : Int) with e | ⟨e, e2⟩
  · have r := rnd_big h0 e
    have d : -(p : Int) ≤ drop m p := by unfold drop; omega
    have r' : (0 : Int) < (rnd m (drop m p) : Int) := by omega
    have : (0 : Int) ≤ ((p : Int) + drop m p) * 2 ^ 52 := Int.mul_nonneg (by omega) (by decide)
    omega
  · have r : 0 < rnd m (drop m p) := by
      rw [e]
      unfold rnd
      rw [if_pos (by omega)]
      exact Nat.mul_pos (Nat.pos_of_ne_zero h0) (Nat.pow_pos (by decide))
    have : (0 : Int) ≤ ((p : Int) + drop m p) * 2 ^ 52 := Int.mul_nonneg (by omega) (by decide)
    omega
theorem near_nz {s : Bool} {m p : Nat} (h0 : m ≠ 0) : Sv21.zero (near s m (p : Int)) = false := by
  cases z : Sv21.zero (near s m (p : Int))
  · rfl
  · have e := (zero_iff _).mp z
    unfold near at e
    rw [if_neg h0, mag_signed s (coded_lt _ _)] at e
    have c := coded_eq h0 (p : Int)
    rw [e] at c
    have b := bits_pos (p := p) h0
    have i : (0 : Int) < (Sv21.infinity : Int) := by decide
    omega
theorem twice_nz {x : Nat} (hz : Sv21.zero x = false) : Sv21.zero (Sv21.add x x) = false := by
  have ha : Sv21.amount x ≠ 0 := fun z => by rw [amount_zero z] at hz; cases hz
  have et : tot x x = Sv21.amount x + Sv21.amount x := by
    unfold tot
    rw [Nat.min_self, Nat.sub_self]
    omega
  have hn : tot x x ≠ 0 := by rw [et]; omega
  rw [add_eq, if_neg hn]
  exact near_nz (by omega)
/-! ### one step of a walk -/
def slopesTo (u y h p : Nat) (k : Nat → Io) : Io := Sv21.question [u, y] fun k1 => Sv21.plus u p fun v => Sv21.times p k1 fun z => Sv21.plus y z fun y1 => Sv21.question [v, y1] fun k2 => Sv21.times p k2 fun z => Sv21.plus y z fun y2 => Sv21.question [v, y2] fun k3 =>
    Sv21.plus u h fun w => Sv21.times h k3 fun z => Sv21.plus y z fun y3 => Sv21.question [w, y3] fun k4 => Sv21.times (Sv21.whole 2) k2 fun a => Sv21.plus k1 a fun s => Sv21.times (Sv21.whole 2) k3 fun b => Sv21.plus s b fun s => Sv21.plus s k4 k
theorem walkStep_eq (t h p q i y : Nat) (k : Nat → Io) : walkStep t h p q i y k = Sv21.place t h i fun u => slopesTo u y h p fun s => Sv21.times q s fun z => Sv21.plus y z k := rfl
theorem wp2_walkFrom {ns : List Nat} {t h p q j i y : Nat} {l : List Nat} {c : Nat} {qs : List Nat} {R : Nat → List Nat → Option Ans → Prop} : Wp2 ns (Sv21.walkFrom t h p q (j + 1) i y l) c qs R ↔
    (if Sv21.finite (Sv21.mul (Sv21.whole i) h) = true then (if Sv21.finite (Sv21.add t (Sv21.mul (Sv21.whole i) h)) = true then Wp2 ns (slopesTo (Sv21.add t (Sv21.mul (Sv21.whole i) h)) y h p fun s => Sv21.times q s fun z => Sv21.plus y z fun y => Sv21.walkFrom t h p q j (i + 1) y (l ++ [y])) c qs R
      else R c qs (some (Sv21.ok (-4)))) else R c qs (some (Sv21.ok (-4)))) := by
  rw [walkFrom_succ, walkStep_eq]
  unfold Sv21.place
  rw [wp2_times, wp2_plus]
end An

set_option Elab.async false
set_option linter.all false
set_option maxRecDepth 100000
/-! EXCEPTIONS over the layer: raised, passing through frames, caught. -/
namespace L2
open PySem PySem.Spec PyProof.Rows
open PySem.W (hideAll hideAll_get hideAll_none of_hideAll funFrames_hide)

theorem ObjOk.there {P : Program} {w : World} {H : Hp} {h : Heap} {a : Addr} {o : HO} (x : ObjOk P w H h a o) : ∃ ob, h.get? a = some ob := by
  cases o with
  | lst xs => obtain ⟨_, _, _, _, e⟩ := x; exact ⟨_, e⟩
  | tup xs => obtain ⟨_, _, _, ob, e, _⟩ := x; exact ⟨_, e⟩
  | dK kvs => obtain ⟨_, _, _, _, o, _, _, e, _⟩ := x; exact ⟨_, e⟩
  | dT kvs => obtain ⟨_, _, _, _, o, _, _, e, _⟩ := x; exact ⟨_, e⟩
  | set S n => obtain ⟨o, _, _, _, e, _⟩ := x; exact ⟨_, e⟩
  | ins C dx fs => obtain ⟨_, _, _, e, _⟩ := x; exact ⟨_, e⟩
  | own y => exact x
  | xd fs => obtain ⟨_, ⟨_, _, _, e, _⟩, _⟩ := x; exact ⟨_, e⟩
  | rng lo hi => obtain ⟨_, _, _, e⟩ := x; exact ⟨_, e⟩
  | frz ob u => obtain ⟨e, _⟩ := x; exact ⟨_, e⟩
  | tbl ps => exact ⟨_, x⟩
  | met f y => exact ⟨_, x⟩
  | ext φ => obtain ⟨_, e, _⟩ := x; exact e
theorem HOk.gone {P : Program} {w : World} {H : Hp} {h : Heap} {a : Addr} (x : HOk P w H h) (e : h.get? a = none) : H a = none := by
  cases q : H a with
  | none => rfl
  | some u =>
    obtain ⟨ob, z⟩ := (x a u q).there
    rw [e] at z
    cases z

/-- an exception in flight: its object and its head entry are untracked and not among the old ones -/
def Fly (N : Addr → Prop) (H : Hp) (e : Addr) (cls : Value) (h : Heap) : Prop :=
  ∃ a0 oe vs T oT ts, h.get? e = some oe ∧ (oe.cls = cls ∧ vs[0]? = some a0) ∧ oe.data = .fields vs ∧ vs[1]? = some (.ref T) ∧ T ≠ e ∧ h.get? T = some oT ∧ oT.data = .fields ts ∧ ts[3]? = some .none ∧
    H e = none ∧ H T = none ∧ ¬ N e ∧ ¬ N T
theorem Fly.mono {N N' : Addr → Prop} {H : Hp} {e : Addr} {cls : Value} {h : Heap} (x : Fly N H e cls h) (k : ∀ b, N' b → N b) : Fly N' H e cls h := by
  obtain ⟨a0, oe, vs, T, oT, ts, x1, x2, x3, x4, x5, x6, x7, x8, x9, x10, x11, x12⟩ := x
  exact ⟨a0, oe, vs, T, oT, ts, x1, x2, x3, x4, x5, x6, x7, x8, x9, x10, fun z => x11 (k _ z), fun z => x12 (k _ z)⟩
/-- what is old in a body: what stood at its entry, and the pins -/
def OldX (X : Cx) (pins : List (Addr × Obj)) (b : Addr) : Prop := (∃ o, X.s_0.heap.get? b = some o) ∨ ∃ p ∈ X.pn ++ pins, p.1 = b

section
variable {X : Cx} {pins : List (Addr × Obj)} {σ : St} {H : Hp} {s : Shared} {h' : Heap}
theorem Inv.oldIn (I : Inv X pins σ H s) (hx : X.ex = []) {b : Addr} (ob : OldX X pins b) : ∃ o, s.heap.get? b = some o := by
  rcases ob with ⟨o, e⟩ | ⟨p, hp, rfl⟩
  · exact I.base.there b o e (by rw [hx]; simp)
  · exact ⟨_, (I.pin p hp).1⟩
/-- the records at ch have turned (an exception's object and its entry), frames up to slots, all else is kept -/
theorem Inv.flownI (I : Inv X pins σ H s) (hx : X.ex = []) {ch : List Addr} (hc : ∀ b ∈ ch, H b = none ∧ ¬ OldX X pins b ∧ ∃ o vs, s.heap.get? b = some o ∧ o.data = .fields vs)
    (st : (hideAll s.heap (ch ++ frs X.stack)).StaysIn h') (up : s.heap.UpToSlots h') : Inv X pins σ H { s with heap := h' } := by
  have noF : ∀ b ∈ frs X.stack, ∃ o, s.heap.get? b = some o ∧ ∀ vs, o.data ≠ .fields vs := fun b hb => (I.stack.mem hb).2
  have keep : ∀ b o, b ∉ ch → b ∉ frs X.stack → s.heap.get? b = some o → h'.get? b = some o := fun b o h1 h2 e =>
    st b o (hideAll_get _ e fun z => (List.mem_append.mp z).elim h1 h2)
  have slotF : ∀ b o, b ∈ frs X.stack → s.heap.get? b = some o → ∃ sl, h'.get? b = some { o with slots := sl } := fun b o hb e => by
    obtain ⟨o2, e2, hd⟩ := noF b hb
    rw [e] at e2; cases e2
    exact up b o e hd
  have subF : ∀ b, b ≠ X.env.locals → b ∉ X.fs → b ∉ frs X.stack := fun b h1 h2 z => (List.mem_cons.mp (I.stkSub b z)).elim h1 h2
  have hL : ∃ o es ep, s.heap.get? X.env.locals = some o ∧ o.data = .dict es ep := by
    obtain ⟨m, ⟨o, es, ep, ho, hd, _⟩, _⟩ := I.loc
    exact ⟨o, es, ep, ho, hd⟩
  have chL : X.env.locals ∉ ch := fun z => by
    obtain ⟨_, _, o, vs, e, d⟩ := hc _ z
    obtain ⟨o2, es, ep, e2, d2⟩ := hL
    rw [e] at e2; cases e2; rw [d] at d2; cases d2
  have chC : ∀ x c, X.env.cells.lookup x = some c → c ∉ ch := fun x c e z => by
    obtain ⟨_, _, o, vs, e1, d⟩ := hc _ z
    obtain ⟨v, o2, e2, d2⟩ := I.cell x c e
    rw [e1] at e2; cases e2; rw [d] at d2; cases d2
  have cellK : ∀ x c, X.env.cells.lookup x = some c → ∀ v, s.heap.IsCell c v → h'.IsCell c v := fun x c e v ⟨o, ho, hd⟩ => by
    by_cases hcf : c ∈ frs X.stack
    · obtain ⟨sl, q⟩ := slotF c o hcf ho
      exact ⟨_, q, hd⟩
    · exact ⟨o, keep c o (chC x c e) hcf ho, hd⟩
  have oldC : ∀ b o, X.s_0.heap.get? b = some o → b ∉ ch := fun b o e z => (hc b z).2.1 (.inl ⟨o, e⟩)
  have neL : ∀ b o, X.s_0.heap.get? b = some o → b ≠ X.env.locals := fun b o e => Nat.ne_of_lt (Nat.lt_of_lt_of_le (Heap.lt_size e) I.ok.above)
  have nx : ∀ b : Addr, b ∉ X.ex := fun b => by rw [hx]; simp
  refine ⟨I.ok, I.os, I.bare, ⟨fun b o e n hb _ => ?_, fun b o e n hb _ => ?_, I.base.free, fun b o e _ => ?_, I.base.tups, I.base.frzs, I.base.tbls⟩, ?_, fun x c e => ?_, I.free, I.freeC, fun p hp => ?_, fun a o e => ?_, I.len⟩
  · exact keep b o (oldC b o e) (subF b (neL b o e) hb) (I.base.keep b o e n hb (nx b))
  · obtain ⟨sl, e1⟩ := I.base.slot b o e n hb (nx b)
    have hb' : b ∈ frs X.stack := by
      rcases I.ok.stk with q | ⟨q, hf⟩
      · rw [q]; exact hb
      · rw [q]; unfold frs; rw [List.filterMap_cons, hf]; exact List.mem_cons_of_mem _ hb
    obtain ⟨sl', e2⟩ := slotF b _ hb' e1
    exact ⟨sl', e2⟩
  · obtain ⟨o', e1⟩ := I.base.there b o e (nx b)
    by_cases hbf : b ∈ frs X.stack
    · obtain ⟨sl, e2⟩ := slotF b o' hbf e1
      exact ⟨_, e2⟩
    · exact ⟨o', keep b o' (oldC b o e) hbf e1⟩
  · obtain ⟨m, hn, hl⟩ := I.loc
    refine ⟨m, up.ns hn, fun i x v e1 e2 e3 => ?_⟩
    obtain ⟨u, r, l⟩ := hl i x v e1 e2 e3
    refine ⟨u, r, ?_⟩
    rcases l with l | ⟨k, c, e, z⟩
    · exact .inl l
    · exact .inr ⟨k, c, e, cellK x c e _ z⟩
  · obtain ⟨v, z⟩ := I.cell x c e
    exact ⟨v, cellK x c e v z⟩
  · obtain ⟨e, n, ne, nf, d⟩ := I.pin p hp
    exact ⟨keep p.1 p.2 (fun z => (hc _ z).2.1 (.inr ⟨p, hp, rfl⟩)) (subF p.1 ne nf) e, n, ne, nf, d⟩
  · have tr : ∀ b u, H b = some u → b ∉ ch ∧ b ∉ frs X.stack := fun b u e =>
      ⟨fun z => (by have := (hc b z).1; rw [e] at this; cases this), fun z => (by have := I.stkFree b z; rw [e] at this; cases this)⟩
    refine (I.hok a o e).stay (fun b u hb q => ?_) (fun _ q => q) fun _ _ q => q
    rcases hb with rfl | hb
    · exact keep b u (tr b _ e).1 (tr b _ e).2 q
    · exact keep b u (tr b _ hb).1 (tr b _ hb).2 q
/-- .. and the exception flies on -/
theorem Inv.flown (I : Inv X pins σ H s) (hx : X.ex = []) {ch : List Addr} (hc : ∀ b ∈ ch, H b = none ∧ ¬ OldX X pins b ∧ ∃ o vs, s.heap.get? b = some o ∧ o.data = .fields vs)
    {e : Addr} {cls a0 : Value} (he : e ∈ ch) (st : (hideAll s.heap (ch ++ frs X.stack)).StaysIn h') (tr : h'.TracedW (hideAll s.heap (ch ++ frs X.stack)) e cls a0) (up : s.heap.UpToSlots h') :
    Inv X pins σ H { s with heap := h' } ∧ Fly (OldX X pins) H e cls h' := by
  refine ⟨I.flownI hx hc st up, ?_⟩
  obtain ⟨oe, vs, T, oT, ts, x1, x2, x3, x4, x5, x6, x7, x8, x9⟩ := tr
  have hT : H T = none ∧ ¬ OldX X pins T := by
    by_cases h1 : T ∈ ch
    · exact ⟨(hc T h1).1, (hc T h1).2.1⟩
    · by_cases h2 : T ∈ frs X.stack
      · obtain ⟨_, o, ho, hd⟩ := I.stack.mem h2
        obtain ⟨sl, q⟩ := up T o ho hd
        rw [x7] at q; cases q
        exact absurd x8 (hd ts)
      · have hn : s.heap.get? T = none := by
          cases q : s.heap.get? T with
          | none => rfl
          | some o =>
            have := hideAll_get (ch ++ frs X.stack) q fun z => (List.mem_append.mp z).elim h1 h2
            rw [x5] at this; cases this
        refine ⟨I.hok.gone hn, fun z => ?_⟩
        obtain ⟨o, q⟩ := I.oldIn hx z
        rw [hn] at q; cases q
  exact ⟨a0, oe, vs, T, oT, ts, x1, x2, x3, x4, x6, x7, x8, x9, (hc e he).1, hT.1, (hc e he).2.1, hT.2⟩
/-- an exception that flies, as the library tells it -/
theorem Inv.flying (I : Inv X pins σ H s) (hx : X.ex = []) {e : Addr} {cls : Value} (F : Fly (OldX X pins) H e cls s.heap) :
    ∃ (B : Heap) (a0 : Value), Heap.FlyingW B X.stack e cls a0 s.heap ∧ ∀ h' : Heap, B.StaysIn h' → h'.TracedW B e cls a0 → s.heap.UpToSlots h' → Inv X pins σ H { s with heap := h' } ∧ Fly (OldX X pins) H e cls h' := by
  obtain ⟨a0, oe, vs, T, oT, ts, x1, x2, x3, x4, x5, x6, x7, x8, x9, x10, x11, x12⟩ := F
  have hc : ∀ b ∈ [e, T], H b = none ∧ ¬ OldX X pins b ∧ ∃ o vs, s.heap.get? b = some o ∧ o.data = .fields vs := fun b hb => by
    rcases List.mem_cons.mp hb with rfl | hb
    · exact ⟨x9, x11, oe, vs, x1, x3⟩
    · have e2 : b = T := by simpa using hb
      subst e2
      exact ⟨x10, x12, oT, ts, x6, x7⟩
  refine ⟨hideAll s.heap ([e, T] ++ frs X.stack), a0, ⟨fun b o q => of_hideAll _ q, hideAll_none _ (by simp), ?_, oe, vs, T, oT, ts, x1, x2, x3, x4, hideAll_none _ (by simp), x5, x6, x7, x8⟩, fun h' st tr up => I.flown hx hc (by simp) st tr up⟩
  refine funFrames_hide I.stack fun env he a hf => List.mem_append_right _ ?_
  exact List.mem_filterMap.mpr ⟨env, he, hf⟩
end

/-! ### how an exception lies behind a call -/
def CX1 (P : Program) (w : World) : CXT := fun outer H s E ev s' => ∃ (e : Addr) (cls : Value) (H' : Hp), ev = .ref e ∧ s'.os = s.os ∧ AllBare s'.gens ∧ Un (frs outer) [] H H' s.heap s'.heap ∧ HOk P w H' s'.heap ∧
  Fly (fun b => ∃ o, s.heap.get? b = some o) H' e cls s'.heap ∧ E cls none H'
/-- what this body wants of exceptions takes those that fly with E -/
structure Thr (X : Cx) (E : XK) : Prop where
  ex : X.ex = []
  run : ∀ (pins : List (Addr × Obj)) (σ : St) (H : Hp) (s : Shared) (e : Addr) (cls : Value), Inv X pins σ H s → Fly (OldX X pins) H e cls s.heap → E cls none H → X.xe (.ref e) s
theorem pass1 {X : Cx} {E : XK} (T : Thr X E) : Passes (CX1 X.prog X.w) X E := fun pins σ H s ev s' I h => by
  obtain ⟨e, cls, H', rfl, os, bare, un, hok, fl, q⟩ := h
  have I' : Inv X pins σ H' s' := I.call' (ch := []) os un hok bare fun b z => absurd z (by simp)
  exact T.run pins σ H' s' e cls I' (fl.mono fun b ob => I.oldIn T.ex ob) q
section
variable {P : Program} {w : World} {K : PySem.W.Frag} {mg : Str → Option Value} {base : Heap} {N : List Str} {qual : Str} {scope : Scope} {f : Addr} {cd : Value} {A : Around} {outer : List Env} {s : Shared} {H : Hp} {E : XK}
theorem thrC : Thr (cxOf (CX1 P w) P w K mg base N qual scope f cd A outer s H E) E := by
  refine ⟨rfl, fun pins σ H' s' e cls I F q => ?_⟩
  obtain ⟨B, a0, fl, k⟩ := I.flying rfl F
  show wpAny (model P w) (A.deeper (envOfC qual scope s.heap.objs.size f cd)) (leaving (envOfC qual scope s.heap.objs.size f cd) (.ref e)) _ _ s'
  refine wpAny_leaves_onW (L := s.heap.objs.size) I.ok.frames rfl fl fun h' x1 x2 => ?_
  obtain ⟨J, F'⟩ := k h' x1.1 x1.2.2.2 x2
  exact ⟨e, cls, H', rfl, J.os, J.bare, J.base, J.hok, F'.mono fun b ob => .inl ob, q⟩
end

/-! ### an own exception class without a body -/
abbrev excMro : List Value := [.type "Exception", .type "BaseException", .type "object"]
def mroIs (K : PySem.W.Frag) (C : Addr) : Bool := match K.lookup C with
  | some ⟨_, _, .cls cd, _⟩ => cd.mro == .ref C :: excMro
  | _ => false
structure IsExc (K : PySem.W.Frag) (C : Addr) : Prop where
  cls : PySem.W.excIn K C excMro "Exception.__new__" = true
  mro : mroIs K C = true
theorem exc_obj {K : PySem.W.Frag} {h : Heap} {C : Addr} (X : K.In h) (q0 : IsExc K C) : ∃ bm N nm q bs hdct sn sub ab col dd k0 k1 k2 k3 k5 mN,
    h.get? C = some (excClassObj nm q C N bs bm hdct sn sub ab col dd k0 k1 k2 k3 k5 "Exception.__new__") ∧ h.Ns N mN ∧ mN "__init__" = none ∧ OwnTail h excMro bm := by
  have q := q0.cls
  unfold PySem.W.excIn at q
  split at q
  · rename_i dd cd sl ho
    split at q
    · rename_i C' bm k0 k1 k2 k3 n k5 hm hs
      simp only [Bool.and_eq_true, beq_iff_eq, Bool.not_eq_true'] at q
      obtain ⟨⟨⟨⟨⟨rfl, rfl⟩, hdel⟩, ht⟩, hok⟩, hni⟩ := q
      obtain ⟨nm, bs, mro, ns, qn, hd, sn, sub, ab, col, del⟩ := cd
      dsimp only at hm hdel hok hni
      subst hm hdel
      have hsl : sl = #[k0, k1, k2, k3, some (.builtin "Exception.__new__"), k5] := by
        obtain ⟨l⟩ := sl
        simp only at hs
        rw [hs]
      subst hsl
      exact ⟨bm, ns, nm, qn, bs, hd, sn, sub, ab, col, dd, k0, k1, k2, k3, k5, _, X _ _ ho, .of_isNs (PySem.W.isNs_of_in X hok), PySem.W.nsMap_none_of_in X hok hni, PySem.W.tail_of_in X ht⟩
    · cases q
  · cases q
theorem exc_mro {K : PySem.W.Frag} {h : Heap} {C : Addr} (X : K.In h) (q : IsExc K C) {nm qn : Str} {N : Addr} {bs bm : List Value} {hdct : Bool} {sn : List Str} {sub : List Value} {ab : Bool} {col : Option Bool} {dd : Option Addr} {k0 k1 k2 k3 k5 : Option Value} {newId : String}
    (e : h.get? C = some (excClassObj nm qn C N bs bm hdct sn sub ab col dd k0 k1 k2 k3 k5 newId)) : bm = excMro := by
  have m := q.mro
  unfold mroIs at m
  split at m
  · rename_i ho
    have z := X _ _ ho
    rw [e] at z
    have z2 := Option.some.inj z
    injection z2 with _ _ z3 _
    injection z3 with z4
    subst z4
    have m' := beq_iff_eq.mp m
    exact (List.cons.inj m').2
  · cases m
section
variable {P : Program} {w : World} {K : PySem.W.Frag} {mg : Str → Option Value} {base : Heap} {N : List Str} {qual : Str} {scope : Scope} {f : Addr} {cd : Value} {A : Around} {outer : List Env} {s : Shared} {H : Hp} {E : XK}
/-- raise C(): the exception leaves -/
theorem ps_raise {x : Str} {C : Addr} {np cpos pos : Pos} (hcl : IsExc K C) (hg : Gl (cxOf (CX1 P w) P w K mg base N qual scope f cd A outer s H E) x) (hm : mg x = some (.ref C)) (hh : A.handled = none)
    (hdb : (x == ("__debug__" : Str)) = false := by decide) :
    PS (cxOf (CX1 P w) P w K mg base N qual scope f cd A outer s H E) (.Raise (some (.Call (.Name x np) [] [] cpos)) none pos) (fun _ _ H' => E (.ref C) none H') := by
  intro pins s1 σ H1 D I q
  obtain ⟨bm, Na, nm, qn, bs, hdct, sn, sub, ab, col, dd, k0, k1, k2, k3, k5, mN, hC, hN, hni, T⟩ := exc_obj I.kIn hcl
  refine wpAny_Raise_call_subT (C := C) (nm := nm) (q := qn) (N := Na) (bs := bs) (bm := bm) (hdct := hdct) (sn := sn) (sub := sub) (ab := ab) (col := col) (dd := dd) (k0 := k0) (k1 := k1) (k2 := k2) (k3 := k3) (k5 := k5)
    PySem.F.excBase_Exception (mN := mN) (T.hasType rfl) (show (A.deeper _).handled = none from hh) rfl hni (ld_glob I hg hm ⟨rfl, ?_⟩ hdb)
  refine evalArgs_empty ⟨rfl, Nat.zero_le _, hC, hN, T, fun h' e M => ?_⟩
  obtain ⟨t, he, htn, ht⟩ := M.there
  have J : Inv (cxOf (CX1 P w) P w K mg base N qual scope f cd A outer s H E) pins σ H1 { s1 with heap := h' } := I.kept (t' := s1.toks) M.keeps
  have old : ¬ OldX (cxOf (CX1 P w) P w K mg base N qual scope f cd A outer s H E) pins e := fun z => by
    obtain ⟨o, ho⟩ := I.oldIn rfl z
    rw [M.new] at ho; cases ho
  have hc : ∀ b ∈ [e], H1 b = none ∧ ¬ OldX (cxOf (CX1 P w) P w K mg base N qual scope f cd A outer s H E) pins b ∧ ∃ o vs, h'.get? b = some o ∧ o.data = .fields vs := fun b hb => by
    have e2 : b = e := by simpa using hb
    subst e2
    exact ⟨I.hok.gone M.new, old, _, _, he, rfl⟩
  show wpAny (model P w) (A.deeper (envOfC qual scope s.heap.objs.size f cd)) (leaving (envOfC qual scope s.heap.objs.size f cd) (.ref e)) _ _ { s1 with heap := h' }
  refine wpAny_leaving_firstW (base := hideAll h' ([e] ++ frs (cxOf (CX1 P w) P w K mg base N qual scope f cd A outer s H E).stack)) (L := s.heap.objs.size) (a0 := .ref t) I.ok.frames
    (funFrames_hide J.stack fun env he a hf => List.mem_append_right _ (List.mem_filterMap.mpr ⟨env, he, hf⟩)) rfl he (fun b o z => of_hideAll _ z) (hideAll_none _ (by simp)) rfl rfl rfl fun h2 hL => ?_
  obtain ⟨y1, y2, y3, y4⟩ := hL
  obtain ⟨J2, F⟩ := J.flown (h' := h2) rfl hc (e := e) (by simp) y1 y3 y4
  exact ⟨e, .ref C, H1, rfl, J2.os, J2.bare, J2.base, J2.hok, F.mono fun b ob => .inl ob, q⟩
end

/-! ### try .. except own classes -/
theorem exc_miss {M : Model} {A : Around} {E : Value → Shared → Prop} {K : PySem.W.Frag} {h : Heap} {g : Array GenState} {d : Drawn} {t : Nat} {os : OsState} {e C D : Addr} {oe : Obj} {Q : Bool → Shared → Prop} (X : K.In h) (hC : IsExc K C) (hD : IsExc K D) (ne : C ≠ D)
    (he : h.get? e = some oe) (hcls : oe.cls = .ref C) (hq : Q false ⟨h, g, d, t, os⟩) : wpAny M A (excMatches (.ref e) (.ref D)) Q E ⟨h, g, d, t, os⟩ := by
  obtain ⟨bm, Na, nm, qn, bs, hdct, sn, sub, ab, col, dd, k0, k1, k2, k3, k5, mN, oC, hN, hni, T⟩ := exc_obj X hC
  obtain ⟨bm', Na', nm', qn', bs', hdct', sn', sub', ab', col', dd', k0', k1', k2', k3', k5', mN', oD, hN', hni', T'⟩ := exc_obj X hD
  have hcB : (Value.ref D :: bm').contains (.type "BaseException") = true := by rw [List.contains_cons, T'.hasType (X := "BaseException") (b := true) rfl, Bool.or_true]
  have hcC : (Value.ref C :: bm).contains (.ref D) = false := by
    rw [exc_mro X hC oC, List.contains_cons]
    have e1 : (Value.ref D == Value.ref C) = false := beq_eq_false_iff_ne.mpr fun z => ne (by cases z; rfl)
    rw [e1]
    rfl
  have f := tc_notTuple
  unfold excMatches
  repeat (first | (with_reducible refine wpAny_loadPart_at he ?_; rw [hcls]) | with_reducible refine wpAny_loadPart_at oD ?_ | with_reducible refine wpAny_loadPart_at oC ?_ | (with_reducible refine wpAny_isSubtype_exc oD ?_; rw [hcB]) | (with_reducible refine wpAny_isSubtype_exc oC ?_; rw [hcC]) | wp_step)
  exact hq
theorem exc_hit {M : Model} {A : Around} {E : Value → Shared → Prop} {K : PySem.W.Frag} {h : Heap} {g : Array GenState} {d : Drawn} {t : Nat} {os : OsState} {e C : Addr} {oe : Obj} {Q : Bool → Shared → Prop} (X : K.In h) (hC : IsExc K C)
    (he : h.get? e = some oe) (hcls : oe.cls = .ref C) (hq : Q true ⟨h, g, d, t, os⟩) : wpAny M A (excMatches (.ref e) (.ref C)) Q E ⟨h, g, d, t, os⟩ := by
  obtain ⟨bm, Na, nm, qn, bs, hdct, sn, sub, ab, col, dd, k0, k1, k2, k3, k5, mN, oC, hN, hni, T⟩ := exc_obj X hC
  exact wpAny_excMatches_sub_self oC he hcls (T.hasType (X := "BaseException") (b := true) rfl) hq
/-- the context of an except suite -/
abbrev Cx.suite (X : Cx) (e : Addr) : Cx := { X with A := X.A.mark (some (.ref e)), calm := false, xe := fun _ _ => False }
/-- the context of a try's body -/
abbrev Cx.tried (X : Cx) (pins : List (Addr × Obj)) (W : Value → Shared → Prop) : Cx := { X with pn := X.pn ++ pins, xe := W }
section
variable {X : Cx} {pins pins' : List (Addr × Obj)} {σ : St} {H : Hp} {s : Shared} {e : Addr} {W : Value → Shared → Prop} {D : Ends} {f : Flow} {s' : Shared}
theorem Inv.toSuite (I : Inv X pins σ H s) (e : Addr) : Inv (X.suite e) pins σ H s :=
  ⟨⟨I.ok.mod, I.ok.kind, I.ok.glob, I.ok.blt, I.ok.above, I.ok.inj, I.ok.has, I.ok.cab, fun z => Bool.noConfusion (show false = true from z), I.ok.frames, I.ok.stk, I.ok.exf, I.ok.bs, I.ok.bsz, I.ok.noex, I.ok.exfs, I.ok.funs, I.ok.frf⟩,
    I.os, I.bare, I.base, I.loc, I.cell, I.free, I.freeC, I.pin, I.hok, I.len⟩
theorem Inv.ofSuite (o : X.Ok) (I : Inv (X.suite e) pins σ H s) : Inv X pins σ H s := ⟨o, I.os, I.bare, I.base, I.loc, I.cell, I.free, I.freeC, I.pin, I.hok, I.len⟩
theorem SP.ofSuite (o : X.Ok) (h : SP (X.suite e) pins D f s') : SP X pins D f s' := by
  cases f with
  | next => obtain ⟨σ', H', I, q⟩ := h; exact ⟨σ', H', I.ofSuite o, q⟩
  | brk => obtain ⟨σ', H', I, q⟩ := h; exact ⟨σ', H', I.ofSuite o, q⟩
  | cont => obtain ⟨σ', H', I, q⟩ := h; exact ⟨σ', H', I.ofSuite o, q⟩
  | ret u => obtain ⟨v, σ', H', I, r, q⟩ := h; exact ⟨v, σ', H', I.ofSuite o, r, q⟩
theorem Inv.toTried (I : Inv X pins σ H s) (W : Value → Shared → Prop) : Inv (X.tried pins W) [] σ H s :=
  ⟨⟨I.ok.mod, I.ok.kind, I.ok.glob, I.ok.blt, I.ok.above, I.ok.inj, I.ok.has, I.ok.cab, I.ok.hd, I.ok.frames, I.ok.stk, I.ok.exf, I.ok.bs, I.ok.bsz, I.ok.noex, I.ok.exfs, I.ok.funs, I.ok.frf⟩,
    I.os, I.bare, I.base, I.loc, I.cell, I.free, I.freeC, fun p hp => I.pin p (by simpa using hp), I.hok, I.len⟩
theorem Inv.ofTried (o : X.Ok) (I : Inv (X.tried pins W) pins' σ H s) : Inv X pins σ H s :=
  ⟨o, I.os, I.bare, I.base, I.loc, I.cell, I.free, I.freeC, fun p hp => I.pin p (List.mem_append_left _ hp), I.hok, I.len⟩
theorem SP.ofTried (o : X.Ok) (h : SP (X.tried pins W) pins' D f s') : SP X pins D f s' := by
  cases f with
  | next => obtain ⟨σ', H', I, q⟩ := h; exact ⟨σ', H', I.ofTried o, q⟩
  | brk => obtain ⟨σ', H', I, q⟩ := h; exact ⟨σ', H', I.ofTried o, q⟩
  | cont => obtain ⟨σ', H', I, q⟩ := h; exact ⟨σ', H', I.ofTried o, q⟩
  | ret u => obtain ⟨v, σ', H', I, r, q⟩ := h; exact ⟨v, σ', H', I.ofTried o, r, q⟩
end
/-- the clauses: what they want of an exception of the class at C -/
def PH (X : Cx) (hs : List ExceptHandler) (th : Addr → TS) : Prop :=
  ∀ (pins : List (Addr × Obj)) (s : Shared) (σ : St) (H : Hp) (D : Ends) (e C : Addr), Inv X pins σ H s → IsExc X.K C → Fly (OldX X pins) H e (.ref C) s.heap → th C D σ H →
    wpAny (model X.prog X.w) X.A (handleBy (.ref e) X.env hs) (SP X pins D) X.xe s
def hNil : Addr → TS := fun _ _ _ _ => False
def hCons (D0 : Addr) (t : TS) (r : Addr → TS) : Addr → TS := fun C D σ H => if C = D0 then t D σ H else r C D σ H
theorem ph_nil {X : Cx} : PH X [] hNil := fun _ _ _ _ _ _ _ _ _ _ h => h.elim
theorem ph_cons {X : Cx} {x : Str} {D0 : Addr} {np pos : Pos} {b0 : Stmt} {suite : List Stmt} {rest : List ExceptHandler} {t : TS} {r : Addr → TS} (hx : X.ex = []) (hg : Gl X x) (hm : X.mg x = some (.ref D0)) (hD : IsExc X.K D0)
    (hs : ∀ e : Addr, PSs (X.suite e) (b0 :: suite) t) (hr : PH X rest r) (hdb : (x == ("__debug__" : Str)) = false := by decide) : PH X (.ExceptHandler (some (.Name x np)) none (b0 :: suite) pos :: rest) (hCons D0 t r) := by
  intro pins s σ H D e C I hC F h
  have I' := I.toSuite e
  have F0 := F
  obtain ⟨a0, oe, vs, T, oT, ts, x1, x2, x3, _⟩ := F0
  refine wpAny_handleBy_cons (codeAny_handlers_test ?_) (by intro q; cases q)
  refine ld_glob (X := X.suite e) I' hg hm ?_ hdb
  obtain ⟨hp, g, d, tk, os⟩ := s
  by_cases hCD : C = D0
  · subst hCD
    have h : t D σ H := by
      unfold hCons at h
      rw [if_pos rfl] at h
      exact h
    refine exc_hit (K := X.K) I.kIn hC x1 x2.1 ?_
    refine codeAny_handlers_suite ?_
    obtain ⟨B, a0', fl, k⟩ := I.flying hx F
    refine lands_againW fl fun h6 fl6 up6 => ?_
    obtain ⟨J, F6⟩ := k h6 fl6.1 fl6.2.2.2 up6
    exact wpAny_mono (hs e pins _ σ H D (J.toSuite e) h) (fun f s2 q => SP.ofSuite I.ok q) fun _ _ z => False.elim z
  · have h : r C D σ H := by
      unfold hCons at h
      rw [if_neg hCD] at h
      exact h
    refine exc_miss (K := X.K) I.kIn hC hD hCD x1 x2.1 ?_
    exact hr pins _ σ H D e C I hC F h
/-- what a try's body may raise -/
def EhOf (X : Cx) (th : Addr → TS) (D : Ends) : XK := fun cls _ H' => ∃ C, cls = .ref C ∧ IsExc X.K C ∧ ∀ σ', th C D σ' H'
theorem ps_try {X : Cx} {body : List Stmt} {hs : ExceptHandler} {hr : List ExceptHandler} {pos : Pos} {tb : XK → TS} {th : Addr → TS} (hx : X.ex = []) (hfr : X.stack = X.env :: X.outer ∧ X.env.frame = some X.env.locals)
    (hb : ∀ (pins : List (Addr × Obj)) (W : Value → Shared → Prop) (E : XK), Thr (X.tried pins W) E → PSs (X.tried pins W) body (tb E)) (hh : PH X (hs :: hr) th) :
    PS X (.Try body (hs :: hr) [] [] pos) (fun D σ H => tb (EhOf X th D) D σ H) := by
  intro pins s σ H D I h
  show wpAny _ _ (do standAt pos; tryStmt false (execs body X.env) (hs :: hr) (execs [] X.env) [] X.env) _ _ _
  refine wpAny_bind (wpAny_standAt (wpAny_tryStmt_except ?_))
  have T : Thr (X.tried pins (fun ev s1 => wpAny (model X.prog X.w) X.A (noteFrame ev X.env) (fun _ s2 => wpAny (model X.prog X.w) X.A (setFlight ev none) (fun _ s3 => wpAny (model X.prog X.w) X.A (handleBy ev X.env (hs :: hr)) (SP X pins D) X.xe s3) X.xe s2) X.xe s1)) (EhOf X th D) := by
    refine ⟨hx, fun pins' σ' H' s' e cls J F q => ?_⟩
    obtain ⟨C, rfl, hC, q⟩ := q
    have J' : Inv X pins σ' H' s' := J.ofTried I.ok
    have F' : Fly (OldX X pins) H' e (.ref C) s'.heap := F.mono fun b ob => by
      rcases ob with z | ⟨p, hp, z⟩
      · exact .inl z
      · exact .inr ⟨p, List.mem_append_left _ hp, z⟩
    obtain ⟨B, a0, fl, k⟩ := J'.flying hx F'
    have fl' := fl
    rw [hfr.1] at fl'
    refine wpAny_looks_onW (L := X.env.locals) (by rw [I.ok.frames, hfr.1]) hfr.2 fl' fun h4 held up4 => ?_
    refine wpAny_landsW held fun h5 fl5 up5 => ?_
    obtain ⟨J5, F5⟩ := k h5 fl5.1 fl5.2.2.2 (up4.trans up5)
    exact hh pins _ σ' H' D e C J5 hC F5 (q σ')
  refine wpAny_mono (hb pins _ _ T [] s σ H D (I.toTried _) h) (fun f s1 q => ?_) fun ev s1 q => q
  have q' := SP.ofTried I.ok q
  cases f with
  | next => exact wpAny_execs_nil q'
  | brk => exact q'
  | cont => exact q'
  | ret u => exact q'
end L2

set_option Elab.async false
set_option linter.all false
set_option maxRecDepth 100000
/-! A LAMBDA over the layer: made by a top def, handed down, called. -/
namespace L2
open PySem PySem.Spec PyProof.Rows
open PySem.W (hideAll hideAll_get hideAll_none of_hideAll funFrames_hide kla_obj kla_fn envX CodeHd tabObj FnAt)

/-- the context of a lambda's body -/
def cxL (CX : CXT) (P : Program) (w : World) (K : PySem.W.Frag) (mg : Str → Option Value) (base : Heap) (N : List Str) (qual : Str) (scope : Scope) (f : Addr) (cd : Value) (cl : List (Str × Addr)) (A : Around) (outer : List Env) (s : Shared) (H : Hp) (E : XK) : Cx where
  prog := P
  w := w
  K := K
  mg := mg
  base := base
  A := A.deeper (envX qual scope s.heap.objs.size f cd cl)
  N := N
  s_0 := s
  H_0 := H
  env := envX qual scope s.heap.objs.size f cd cl
  outer := outer
  stack := envX qual scope s.heap.objs.size f cd cl :: outer
  ex := []
  calm := true
  fn := fun _ => false
  pn := []
  xe := fun e s' => wpAny (model P w) (A.deeper (envX qual scope s.heap.objs.size f cd cl)) (leaving (envX qual scope s.heap.objs.size f cd cl) e) (fun _ s'' => CX outer H s E e s'') (fun e' s'' => CX outer H s E e' s'') s'
section
variable {P : Program} {w : World} {K : PySem.W.Frag} {mg : Str → Option Value} {base : Heap} {N : List Str} {qual : Str} {scope : Scope} {f : Addr} {cd : Value} {cl : List (Str × Addr)} {A : Around} {outer : List Env} {s : Shared} {H : Hp} {E : XK}
theorem thrL : Thr (cxL (CX1 P w) P w K mg base N qual scope f cd cl A outer s H E) E := by
  refine ⟨rfl, fun pins σ H' s' e cls I F q => ?_⟩
  obtain ⟨B, a0, fl, k⟩ := I.flying rfl F
  show wpAny (model P w) (A.deeper (envX qual scope s.heap.objs.size f cd cl)) (leaving (envX qual scope s.heap.objs.size f cd cl) (.ref e)) _ _ s'
  refine wpAny_leaves_onW (L := s.heap.objs.size) I.ok.frames rfl fl fun h' x1 x2 => ?_
  obtain ⟨J, F'⟩ := k h' x1.1 x1.2.2.2 x2
  exact ⟨e, cls, H', rfl, J.os, J.bare, J.base, J.hok, F'.mono fun b ob => .inl ob, q⟩
end

/-- a lambda of one parameter, as it stands in the base: its body's reading is its promise -/
theorem lam_ok {P : Program} {w : World} {K : PySem.W.Frag} {mg : Str → Option Value} {base : Heap} {k : Nat} {f c : Addr} {name qual x0 : Str} {params : Arguments} {body : Expr} {scope : Scope} {cl : List (Str × Addr)} {pm ctv : Value} {F : List Str} {fv : List V} {sp : Sp}
    (hf : base.get? f = some (kla_obj name qual params body scope cl pm c ctv)) (hcode : base.CodeRec (.ref c) qual) (hk : scope.kind = .function) (hco : scope.isCoroutine = false) (hgen : scope.isGenerator = false)
    (hnc : ∀ x ∈ scope.names, x.2 ≠ .cell) (hx0 : scope.names.lookup x0 = some .local)
    (hfree : ∀ (i : Nat) (x : Str) (v : V), F[i]? = some x → fv[i]? = some v → ∃ a u, cl.lookup x = some a ∧ base.IsCell a (some u) ∧ RelV v u ∧ scope.names.lookup x = some .free)
    (hcl : ∀ x a, cl.lookup x = some a → ∃ v, base.IsCell a v) (hinj : ∀ x y a, cl.lookup x = some a → cl.lookup y = some a → x = y) (hhas : ∀ x, (scope.names.lookup x = some .cell ∨ scope.names.lookup x = some .free) → ∃ a, cl.lookup x = some a)
    (hlen : F.length = fv.length) (len : ∀ vs H Q E, sp vs H Q E → vs.length = 1)
    (hbody : ∀ (A : Around) (outer : List Env) (s : Shared) (H : Hp) (q : V) (Q : VK) (E : XK), Room k (A.deeper (envX qual scope s.heap.objs.size f (.ref c) cl)) → sp [q] H Q E →
      ∃ t : TE, PE (cxL (CX1 P w) P w K mg base (x0 :: F) qual scope f (.ref c) cl A outer s H E) body t ∧ t (some q :: fv.map some) H Q) :
    FnOk P w K mg base (CX1 P w) (k + 1) f (kla_fn name qual params body scope cl pm (.ref c) ctv) [x0] sp := by
  refine ⟨len, fun A outer s H args us vs Q E hr e0 hb r hsp => ?_⟩
  have hl := len _ _ _ _ hsp
  match vs, us, hl, r with
  | [q], [u], _, .cons rq .nil =>
    have lim : s.heap.NoLimit := e0.mod.nolimit.keeps fun b o e => (e0.bs b o e).1
    obtain ⟨c2, oc, cvs, tt, ec, hoc, hcd, hcv⟩ := hcode
    refine PySem.W.kla_callFunE hr.depth (e0.bs f _ hf).1 rfl hco hgen rfl ⟨c2, oc, cvs, tt, ec, (e0.bs _ _ hoc).1, hcd, hcv⟩ (hb _ _ _ _ ?_)
    refine wpAny_newFunctionEnv hnc (fun y hy => ?_) (fun h1 hns hsb => ⟨lim.fresh _ hsb, ?_⟩) hk
    · have e : y = (x0, u) := by simpa using hy
      subst e
      exact hx0
    have hk1 : ∀ b o, s.heap.get? b = some o → h1.get? b = some o := fun b o e => hsb.extBut b o (Nat.ne_of_lt (Heap.lt_size e)) (Heap.get?_push_of_some _ e)
    obtain ⟨t, ht, hq⟩ := hbody A outer s H q Q E (hr.deeper _) hsp
    show codeAny _ _ (.expr body (envX qual scope s.heap.objs.size f (.ref c) cl)) _ _
    have cellS : ∀ a v, base.IsCell a v → s.heap.IsCell a v ∧ H a = none := fun a v ⟨o, ho, hd⟩ => ⟨⟨o, (e0.bs a o ho).1, hd⟩, (e0.bs a o ho).2⟩
    have I : Inv (cxL (CX1 P w) P w K mg base (x0 :: F) qual scope f (.ref c) cl A outer s H E) [] (some q :: fv.map some) H { s with heap := h1, toks := s.toks + (([x0] : List Str).zip [u]).length } := by
      have noA : ∀ b : Addr, b ∉ (cxL (CX1 P w) P w K mg base (x0 :: F) qual scope f (.ref c) cl A outer s H E).ex := fun b z => absurd (show b ∈ ([] : List Addr) from z) (by simp)
      refine ⟨⟨e0.mod, hk, rfl, rfl, Nat.le_refl _, fun x y c h1 h2 => hinj x y c h1 h2, fun x hx => hhas x hx, fun x c z _ => Bool.noConfusion (show false = true from z), fun _ => hr.hd, Around.frames_deeper e0.frames, .inr ⟨rfl, rfl⟩, fun b z => absurd z (noA b), e0.bs, e0.bsz,
        fun b _ _ => noA b, fun b z => absurd z (noA b), e0.funs, e0.frf⟩, rfl, e0.bare, Un.kept hk1, ⟨_, hns, fun i y v a1 a2 a3 => ?_⟩, fun x a e => ?_, e0.hok.fresh (Nat.le_refl _), fun x a e => ?_, fun p hp => absurd (show p ∈ ([] : List (Addr × Obj)) from hp) (by simp), e0.hok.kept hk1, ?_⟩
      · cases i with
        | zero =>
          have ey : x0 = y := Option.some.inj a1
          have ev : q = v := Option.some.inj (Option.some.inj a2)
          subst ey ev
          refine ⟨u, rq, .inl ⟨hx0, ?_⟩⟩
          show ([(x0, u)].reverse : List (Str × Value)).lookup x0 = some u
          simp
        | succ i =>
          have a1 : F[i]? = some y := a1
          have a2 : (fv.map some)[i]? = some (some v) := a2
          rw [List.getElem?_map] at a2
          cases e : fv[i]? with
          | none => rw [e] at a2; cases a2
          | some v' =>
            rw [e] at a2
            cases a2
            obtain ⟨a, u', z1, ⟨o, ho, hd⟩, z3, z4⟩ := hfree i y v a1 e
            exact ⟨u', z3, .inr ⟨.inr z4, a, z1, o, hk1 _ _ (e0.bs a o ho).1, hd⟩⟩
      · obtain ⟨v, z⟩ := hcl x a e
        obtain ⟨o, ho, hd⟩ := (cellS a v z).1
        exact ⟨v, o, hk1 _ _ ho, hd⟩
      · obtain ⟨v, z⟩ := hcl x a e
        exact (cellS a v z).2
      · show (some q :: fv.map some).length = (x0 :: F).length
        rw [List.length_cons, List.length_cons, List.length_map, hlen]
    refine PySem.W.kla_codeExpr (wpAny_mono (ht [] _ _ H Q I hq) (fun v s' hs => ?_) fun e s' hs => hs)
    obtain ⟨v', H', J, rv, qq⟩ := hs
    exact ⟨v', H', J.os, J.bare, J.base, J.hok, rv, qq⟩

section
variable {X : Cx} {CX : CXT} {k : Nat} {f : Addr} {fd : FuncData} {ps : List Str} {sp : Sp} {dvs : List V} {ds : List Value} {E : XK} {x : Str} {p pos : Pos} {e : Expr} {es : List Expr} {t : TA}
/-- x(e, ..), x a name that holds a function made in the run -/
theorem pe_callF {i : Nat} (hv : PE X (.Name x p) (tVar i)) (F : FnOk X.prog X.w X.K X.mg X.base CX k f fd ps sp) (hr : Room k X.A) (hfn : FnAt f X.base) (hb : Binds X.K fd ps ds) (hd : Vals dvs ds) (hx : Passes CX X E)
    (ha : PA X (e :: es) t) (he : starEach (e :: es) X.env = (false, eval e X.env) :: starEach es X.env := by rfl) (hpl : (backTo pos (starEach es X.env)).any (·.1) = false := by rfl) :
    PE X (.Call (.Name x p) (e :: es) [] pos) (fun σ H Q => σ[i]? = some (some (.ref f)) ∧ tCall sp dvs E t σ H Q) := by
  intro pins s σ H Q I h
  have at_ : ∀ {s' : Shared} {H' : Hp}, Inv X pins σ H' s' → FnAt f s'.heap := fun {s' H'} J => by
    obtain ⟨oc, od, fd', sl, z⟩ := hfn
    exact ⟨oc, od, fd', sl, J.bk _ _ z⟩
  refine wpAny_Call_Name_kw (thn (hv pins s σ H (fun v H1 => v = .ref f ∧ H1 = H) I ⟨.ref f, h.1, rfl, rfl⟩) fun u s1 ⟨v, H1, I1, r, q1, q2⟩ => ?_)
  subst q1 q2
  obtain rfl : u = Value.ref f := r
  refine PySem.W.callWith_F (at_ I1) (thn (ha pos pins s1 σ H1 _ I1 h.2) fun us s2 ⟨vs, H2, I2, r2, q⟩ => ⟨at_ I2, ?_⟩) he hpl
  exact run_fn F hr hb hd hx I2 r2 q
end

/-! ### a top def hands a lambda to told -/
theorem spliced1 {M : Model} {A : Around} {E : Value → Shared → Prop} {s : Shared} {env : Env} {pos : Pos} {e : Expr} {rest : List Expr} {Q : List Value → Shared → Prop}
    (h : wpAny M A (eval e env) (fun v s₁ => wpAny M A (spliced (backTo pos (starEach rest env))) (fun vs s₂ => Q (v :: vs) s₂) E s₁) E s)
    (he : starEach (e :: rest) env = (false, eval e env) :: starEach rest env := by rfl) : wpAny M A (spliced (backTo pos (starEach (e :: rest) env))) Q E s := by
  rw [he]; exact Calls.spliced_cons h
theorem Mod.keepsM {K : PySem.W.Frag} {mg : Str → Option Value} {base b2 : Heap} (M : Mod K mg base) (k : ∀ b o, base.get? b = some o → b2.get? b = some o) : Mod K mg b2 :=
  ⟨M.kin.keeps k, M.glob.keeps k, let ⟨mb, h1, h2⟩ := M.blt; ⟨mb, h1.keeps k, h2⟩, M.nolimit.keeps k⟩
section
variable {X : Cx} {pins : List (Addr × Obj)} {σ : St} {H : Hp} {s : Shared} {h' : Heap}
/-- a code object's table has grown, new objects were laid -/
theorem Inv.grown {t' : Nat} {Pt : Addr} {ps more : Array Value} (I : Inv X pins σ H s) (hP : H Pt = some (.tbl ps)) (k : ∀ b o, b ≠ Pt → s.heap.get? b = some o → h'.get? b = some o) (hn : h'.get? Pt = some (tabObj (ps ++ more))) :
    Inv X pins σ (upd H Pt (.tbl (ps ++ more))) { s with heap := h', toks := t' } := by
  have ne : ∀ b, H b = none → b ≠ Pt := fun b n z => by rw [z, hP] at n; cases n
  have neO : ∀ b u, H b = some u → (∀ q, u ≠ .tbl q) → b ≠ Pt := fun b u e n z => by rw [z, hP] at e; cases e; exact n _ rfl
  refine I.step (g' := s.gens) (d' := s.drawn) (ch := []) (fun _ z => nomatch z) (fun b o _ _ _ e n => k b o (ne b n) e) (fun b o _ _ _ e n => ⟨o.slots, k b o (ne b n) e⟩) (fun b o _ e n => by rw [upd_ne (ne b n)]; exact n)
    (fun b o _ e => ?_) (fun b xs e => by rw [upd_ne (neO b _ e (fun _ z => nomatch z))]; exact e) (fun b o u e => by rw [upd_ne (neO b _ e (fun _ z => nomatch z))]; exact e) (fun b qs e => ?_) (fun m hm => ?_) (fun b u e => ?_) I.bare
  · by_cases hb : b = Pt
    · exact ⟨_, by rw [hb]; exact hn⟩
    · exact ⟨o, k b o hb e⟩
  · by_cases hb : b = Pt
    · subst hb
      rw [hP] at e; cases e
      exact ⟨more, upd_same⟩
    · exact ⟨#[], by rw [upd_ne hb, e]; simp⟩
  · obtain ⟨o, es, ep, ho, r⟩ := hm
    exact ⟨o, es, ep, k _ o (ne _ I.free) ho, r⟩
  · by_cases hb : b = Pt
    · subst hb
      rw [upd_same] at e; cases e
      exact hn
    · rw [upd_ne hb] at e
      refine (I.hok b u e).stay (fun c v hc q => k c v ?_ q) (fun c q => by rw [upd_ne (neO c _ q (fun _ z => nomatch z))]; exact q) fun c xs q => by rw [upd_ne (neO c _ q (fun _ z => nomatch z))]; exact q
      rcases hc with z | z
      · rw [z]; exact hb
      · exact neO c _ z (fun _ z => nomatch z)
/-- the heap without what is tracked and without the frames that run -/
def seen (X : Cx) (H : Hp) (h : Heap) : Heap := hideAll h (trk h H ++ frs X.stack)
theorem seen_get {b : Addr} {o : Obj} {h : Heap} (e : h.get? b = some o) (n : H b = none) (hb : b ∉ frs X.stack) : (seen X H h).get? b = some o :=
  hideAll_get _ e fun z => (List.mem_append.mp z).elim (fun hm => by
    have q : (H b).isSome = true := (List.mem_filter.mp hm).2
    rw [n] at q; simp at q) hb
theorem of_seen {b : Addr} {o : Obj} {h : Heap} (e : (seen X H h).get? b = some o) : h.get? b = some o ∧ H b = none := by
  have e' : h.get? b = some o := of_hideAll _ e
  refine ⟨e', ?_⟩
  cases q : H b with
  | none => rfl
  | some x =>
    have hm : b ∈ trk h H := List.mem_filter.mpr ⟨List.mem_range.mpr (Heap.lt_size e'), by simp [q]⟩
    have z : (seen X H h).get? b = none := hideAll_none _ (List.mem_append_left _ hm)
    rw [z] at e; cases e
theorem Inv.baseSeen (I : Inv X pins σ H s) : ∀ b o, X.base.get? b = some o → (seen X H s.heap).get? b = some o := fun b o e => by
  refine seen_get (I.bk b o e) (I.bs b o e).2 fun z => ?_
  rcases List.mem_cons.mp (I.stkSub b z) with q | q
  · have := Nat.lt_of_lt_of_le (Heap.lt_size e) (Nat.le_trans I.ok.bsz I.ok.above)
    rw [q] at this
    exact absurd this (Nat.lt_irrefl _)
  · exact I.ok.nofr e q
theorem Inv.env0S (I : Inv X pins σ H s) : Env0 X.prog X.w X.K X.mg (seen X H s.heap) X.A X.stack s H :=
  ⟨I.ok.frames, I.ok.mod.keepsM I.baseSeen, fun b o e => of_seen e, Nat.le_of_eq (PySem.W.hideAll_size _ _),
    funFrames_hide I.stack fun env he a hf => List.mem_append_right _ (List.mem_filterMap.mpr ⟨env, he, hf⟩), I.stkFree, I.hok, I.bare⟩
end
section
variable {X : Cx} {k : Nat} {ft c Pt : Addr} {fdt : FuncData} {p1 p2 cpos rpos lpos : Pos} {y z : Str} {params : Arguments} {body : Expr} {scope : Scope} {clos : List (Str × Addr)} {E : XK} {i : Nat}
/-- return told(answers, lambda ..) -/
theorem ps_tell {sp : Addr → Sp} {S : St → Prop} (hg : Gl X y) (hm : X.mg y = some (.ref ft)) (hkp : PySem.W.keepIn X.K (.ref ft) = true) (hr : Room k X.A) (hb : Binds X.K fdt ["answers", "reckon"] []) (hpass : Passes (CX1 X.prog X.w) X E)
    (hans : PE X (.Name z p2) (tVar i)) (hcl : closureFor scope X.env = pure clos) (hdef : defaultsOf params X.env = ([], [])) (hcode : X.env.code = .ref c) (hC : CodeHd X.base c Pt) (hB : X.base.BuiltinsAt X.mg Pt) (hPn : X.base.get? Pt = none) (hfn : ∀ x, X.fn x = true)
    (hT : ∀ (σ : St) (base : Heap) (f c' : Addr) (ctv : Value), S σ → Mod X.K X.mg base → base.get? f = some (kla_obj "<lambda>" (X.env.qual ++ "<lambda>") params body scope clos ((X.mg "__name__").getD .none) c' ctv) → base.CodeRec (.ref c') (X.env.qual ++ "<lambda>") →
      (∀ (j : Nat) (x : Str) (v : V), X.N[j]? = some x → σ[j]? = some (some v) → X.env.kindOf x = some .cell → ∃ a u, X.env.cells.lookup x = some a ∧ base.IsCell a (some u) ∧ RelV v u) →
      (∀ x a, X.env.cells.lookup x = some a → ∃ v, base.IsCell a v) → FnOk X.prog X.w X.K X.mg base (CX1 X.prog X.w) k ft fdt ["answers", "reckon"] (sp f))
    (hdb : (y == ("__debug__" : Str)) = false := by decide) :
    PS X (.Return (some (.Call (.Name y p1) [.Name z p2, .Lambda params body scope lpos] [] cpos)) rpos)
      (fun D σ H => S σ ∧ ∃ va, σ[i]? = some (some va) ∧ H Pt = some (.tbl #[]) ∧ ∀ f more, H f = none → sp f [va, .ref f] (upd H Pt (.tbl more)) D.rt E) := by
  intro pins s σ H D I h
  obtain ⟨hS, va, hva, hP, h⟩ := h
  have hbs := I.bk
  obtain ⟨bm, ob, b1, b2, b3, b4, b5, b6⟩ := hB
  have hPs : s.heap.get? Pt = some (tabObj #[]) := I.hok Pt _ hP
  refine wpAny_Return_some (wpAny_Call_Name_kw (ld_glob I hg hm ?_ hdb))
  refine PySem.W.callWith_K (h₀ := X.base) I.ok.mod.kin hkp ?_
  -- the answers
  refine spliced1 (thn (hans pins s σ H (fun v H1 => v = va ∧ H1 = H) I ⟨va, hva, rfl, rfl⟩) fun u s1 ⟨v, H1, I1, r1, q1, q2⟩ => ?_)
  subst q1 q2
  -- the lambda
  refine spliced1 (PySem.W.kla_eval hdef (PySem.W.kla_makeFunction (mg := X.mg) (c := c) (P := Pt) (ps := #[]) hcl I.ok.glob (I.ok.mod.glob.keeps I1.bk) hcode (hC.keeps I1.bk) (I1.hok Pt _ hP) trivial rfl ?_ ⟨bm, ob, b1, b2, b3, b4, I1.bk _ _ b5, b6⟩ fun c' ctv h' tk hx hge hlt hrec htb => ?_))
  · intro q
    obtain ⟨o, es, ep, e, hd, _⟩ := I.ok.mod.glob
    rw [q, hPn] at e; cases e
  refine Calls.spliced_nil ?_
  have I2 := I1.grown (t' := tk) (h' := h'.push (kla_obj "<lambda>" (X.env.qual ++ "<lambda>") params body scope clos ((X.mg "__name__").getD .none) c' ctv)) (more := #[rawInt lpos.line, rawInt lpos.col, .ref c']) hP
    (fun b o hb e => Heap.get?_push_of_some _ (hx b o hb e)) (Heap.get?_push_of_some _ htb)
  refine ⟨I2.kIn, ?_⟩
  have hsz : s1.heap.objs.size ≤ h'.objs.size := Nat.le_trans hge (Nat.le_of_lt hlt)
  have freshA : ∀ b : Addr, s1.heap.objs.size ≤ b → (upd H1 Pt (.tbl (#[] ++ #[rawInt lpos.line, rawInt lpos.col, .ref c']))) b = none ∧ b ∉ frs X.stack := fun b hb => by
    have n1 : H1 b = none := I1.hok.fresh hb
    refine ⟨by rw [upd_ne (fun z => by rw [z, hP] at n1; cases n1)]; exact n1, fun z => ?_⟩
    obtain ⟨_, o, ho, _⟩ := I1.stack.mem z
    exact absurd (Nat.lt_of_lt_of_le (Heap.lt_size ho) hb) (Nat.lt_irrefl _)
  have cellF : ∀ x a, X.env.cells.lookup x = some a → a ∉ frs X.stack := fun x a e z => by
    rcases List.mem_cons.mp (I2.stkSub a z) with q | q
    · exact I2.cne x a e q
    · obtain ⟨_, o, ho, _⟩ := I.ok.funs.mem q
      exact absurd (Nat.lt_of_lt_of_le (Heap.lt_size ho) (I.ok.cab x a (hfn x) e)) (Nat.lt_irrefl _)
  have hfget := Heap.get?_push_size h' (o := kla_obj "<lambda>" (X.env.qual ++ "<lambda>") params body scope clos ((X.mg "__name__").getD .none) c' ctv) rfl
  have G := hT σ (seen X (upd H1 Pt (.tbl (#[] ++ #[rawInt lpos.line, rawInt lpos.col, .ref c']))) (h'.push (kla_obj "<lambda>" (X.env.qual ++ "<lambda>") params body scope clos ((X.mg "__name__").getD .none) c' ctv))) h'.objs.size c' ctv hS
    (I2.ok.mod.keepsM I2.baseSeen) (seen_get hfget (freshA _ hsz).1 (freshA _ hsz).2) ?_ ?_ ?_
  · refine wpAny_call (codeAny_mono (G.run X.A X.stack _ _ ⟨[u, .ref h'.objs.size], []⟩ [u, .ref h'.objs.size] [v, .ref h'.objs.size] D.rt E hr I2.env0S (hb _ [u, .ref h'.objs.size] I2.kIn rfl) (.cons r1 (.cons rfl .nil)) (h h'.objs.size _ (I1.hok.fresh hsz))) fun r s' hq => ?_)
    cases r with
    | error e => exact hpass pins σ _ _ e s' I2 hq
    | ok fl =>
      cases fl with
      | ret u2 =>
        obtain ⟨v, H', J, rv, q⟩ := I2.after hq
        exact ⟨v, σ, H', J, rv, q⟩
      | next => exact False.elim hq
      | brk => exact False.elim hq
      | cont => exact False.elim hq
  · obtain ⟨c2, oc, vs, tt, ec, hoc, hd, hv⟩ := hrec
    cases ec
    exact ⟨c', oc, vs, tt, rfl, seen_get (Heap.get?_push_of_some _ hoc) (freshA _ hge).1 (freshA _ hge).2, hd, hv⟩
  · intro j x v a1 a2 a3
    obtain ⟨m, hn, hl⟩ := I2.loc
    obtain ⟨u', rv, l⟩ := hl j x v a1 a2 (.inr (.inl a3))
    rcases l with ⟨k1, _⟩ | ⟨_, a, e, o, ho, hd⟩
    · rw [a3] at k1; cases k1
    · refine ⟨a, u', e, ⟨o, seen_get ho (I2.freeC x a e) fun z => ?_, hd⟩, rv⟩
      exact cellF x a e z
  · intro x a e
    obtain ⟨v, o, ho, hd⟩ := I2.cell x a e
    exact ⟨v, o, seen_get ho (I2.freeC x a e) (cellF x a e), hd⟩
end
end L2

set_option Elab.async false
set_option linter.all false
set_option maxRecDepth 100000
/-! THE ROW of a def that makes a lambda: its code's table grows. -/
section
set_option maxHeartbeats 2000000
namespace L2
open PySem PySem.Spec PyProof.Rows
open PySem.W (WData Codec OpenSpec Well WellAll ReadsW ReadsAllW CodeHd tabObj)
theorem upd_some {H : Hp} {a b : Addr} {o u : HO} (h : H b = some u) (n : H a = none) : upd H a o b = some u := by rw [upd_ne (ne_of_none h n)]; exact h
theorem spec_callT {P : Program} {w : World} {K : PySem.W.Frag} {mg mb : Str → Option Value} {k : Nat} {fa c Pt : Addr} {fd : FuncData} {ps : List Str} {sp : Sp} {s₁ : Shared} {vals : List Value} {ds : List WData} {R : PySem.W.WRecords} {cl : Str → Option Addr} {d0 : WData}
    (KX : K.In s₁.heap) (hns : s₁.heap.Ns mainGlobals mg) (hb : s₁.heap.Ns builtinsNs mb) (hbb : ∀ x : Str, x ≠ "__name__" → mb x = bootBuiltins x) (hlim : s₁.heap.NoLimit) (hg : s₁.gens = #[])
    (hwl : WellAll w.params s₁.heap vals ds) (hpl : plWs ds = true) (hwt : ∀ d ∈ ds, d.weight ≤ 1048576) (hr : Room k callerA)
    (hC : CodeHd s₁.heap c Pt) (hPt : s₁.heap.get? Pt = some (tabObj #[])) (hKP : K.lookup Pt = none) (hB : s₁.heap.BuiltinsAt mg Pt)
    (F : ∀ base : Heap, Mod K mg base → CodeHd base c Pt → base.BuiltinsAt mg Pt → base.get? Pt = none → FnOk P w K mg base (CX1 P w) k fa fd ps sp)
    (hbind : ∀ (s : Shared) (us : List Value), us.length = ps.length → BindsTo s fd ⟨us, []⟩ (ps.zip us)) (hlen : ds.length = ps.length)
    (hsp : ∀ (H : Hp) (xs : List V), OnlyF H → H Pt = none → DwAll K H xs ds → sp xs (upd H Pt (.tbl #[])) (fun v H' => Dw K H' v d0) fun _ _ _ => False) :
    codeAny (model P w) callerA (.call (.ref fa) ⟨vals, []⟩) (fun r s' => ∃ u as, r = .ok (.ret u) ∧ ReadsW R cl s'.heap u d0 as ∧ OldK s₁.heap s'.heap ∧ s'.os = s₁.os ∧ AllBare s'.gens) s₁ := by
  obtain ⟨A, ho, ar⟩ := area_all ds vals hwl hpl hwt
  have hO : OnlyF (argH K s₁.heap A) := argH_only ar
  have hok : HOk P w (argH K s₁.heap A) s₁.heap := argH_ok ar
  have hS := dw_all KX ar ds vals hwl hpl ho
  have hV := vals_toV ho
  have hK : ∀ b u, argH K s₁.heap A b = some u → K.lookup b = none := fun b u q => (argH_is ar q).1
  have noSeq : ∀ {b : Addr} {o : Obj}, s₁.heap.get? b = some o → (∀ vs n, o.data ≠ .seq vs n) → argH K s₁.heap A b = none := fun {b o} e d => by
    cases q : argH K s₁.heap A b with
    | none => rfl
    | some u =>
      obtain ⟨_, vs, _, _, ⟨e2, _⟩ | ⟨e2, _⟩⟩ := argH_is ar q
      · rw [e2] at e
        cases e
        exact absurd rfl (d _ _)
      · rw [e2] at e
        cases e
        exact absurd rfl (d _ _)
  generalize argH K s₁.heap A = H at hO hok hS hK noSeq
  have hnP : H Pt = none := noSeq hPt (fun _ _ z => nomatch z)
  have hsame : ∀ {b : Addr} {u : HO}, H b = some u → upd H Pt (.tbl #[]) b = some u := fun h => upd_some h hnP
  have hok2 : HOk P w (upd H Pt (.tbl #[])) s₁.heap := fun b u e => by
    by_cases hbP : b = Pt
    · subst hbP
      rw [upd_same] at e
      cases e
      exact hPt
    · rw [upd_ne hbP] at e
      exact (hok b u e).stay (fun _ _ _ q => q) (fun _ q => hsame q) fun _ _ q => hsame q
  have base_of : ∀ {b : Addr} {o : Obj}, s₁.heap.get? b = some o → H b = none → b ≠ Pt → (hidT s₁.heap (upd H Pt (.tbl #[]))).get? b = some o := fun e n ne => hidT_get e (by rw [upd_ne ne]; exact n)
  have nsK : ∀ {b : Addr} {m : Str → Option Value}, s₁.heap.Ns b m → (hidT s₁.heap (upd H Pt (.tbl #[]))).Ns b m := fun {b m} ⟨o, es, ep, e, d, r⟩ =>
    ⟨o, es, ep, base_of e (noSeq e (fun _ _ z => by rw [d] at z; cases z)) (fun z => by rw [z, hPt] at e; cases e; cases d), d, r⟩
  have nK : ∀ b o, K.lookup b = some o → H b = none ∧ b ≠ Pt := fun b o e => by
    refine ⟨?_, fun z => ?_⟩
    · cases q : H b with
      | none => rfl
      | some u =>
        rw [hK b u q] at e
        cases e
    · rw [z, hKP] at e
      cases e
  have hKb : K.In (hidT s₁.heap (upd H Pt (.tbl #[]))) := fun b o e => base_of (KX b o e) (nK b o e).1 (nK b o e).2
  have hM : Mod K mg (hidT s₁.heap (upd H Pt (.tbl #[]))) := ⟨hKb, nsK hns, ⟨mb, nsK hb, hbb⟩, let ⟨mc, h1, h2⟩ := hlim; ⟨mc, nsK h1, h2⟩⟩
  have hC2 : CodeHd (hidT s₁.heap (upd H Pt (.tbl #[]))) c Pt := by
    obtain ⟨o, vs, file, tf, flags, tg, inF, text, tt, e1, r1, r2, r3, r4, r5, r6, r7, r8, hne⟩ := hC
    exact ⟨o, vs, file, tf, flags, tg, inF, text, tt, base_of e1 (noSeq e1 (fun _ _ z => by rw [r2] at z; cases z)) hne, r1, r2, r3, r4, r5, r6, r7, r8, hne⟩
  have hB2 : (hidT s₁.heap (upd H Pt (.tbl #[]))).BuiltinsAt mg Pt := by
    obtain ⟨bm, ob, b1, b2, b3, b4, b5, b6, b7, b8⟩ := hB
    exact ⟨bm, ob, b1, b2, b3, b4, base_of b5 (noSeq b5 (fun _ _ z => by rw [b8] at z; cases z)) b4, b6, b7, b8⟩
  have hP2 : (hidT s₁.heap (upd H Pt (.tbl #[]))).get? Pt = none := by
    cases q : (hidT s₁.heap (upd H Pt (.tbl #[]))).get? Pt with
    | none => rfl
    | some o =>
      have := (of_hidT q).2
      rw [upd_same] at this
      cases this
  have e0 : Env0 P w K mg (hidT s₁.heap (upd H Pt (.tbl #[]))) callerA [] s₁ (upd H Pt (.tbl #[])) := ⟨rfl, hM, fun b o e => of_hidT e, Nat.le_of_eq (hidT_size _ _), trivial, fun b hb => absurd (show b ∈ ([] : List Addr) from hb) (by simp), hok2, .of_eq hg⟩
  have hl : vals.length = ps.length := by rw [wellAll_len hwl]; exact hlen
  refine codeAny_mono ((F _ hM hC2 hB2 hP2).run callerA [] s₁ (upd H Pt (.tbl #[])) ⟨vals, []⟩ vals (vals.map toV) _ _ hr e0 (hbind s₁ vals hl) hV (hsp H _ hO hnP hS)) fun r s' x => ?_
  cases r with
  | error e =>
    obtain ⟨_, _, _, _, _, _, _, _, _, z⟩ := x
    exact z.elim
  | ok fl =>
    cases fl with
    | next => exact False.elim x
    | brk => exact False.elim x
    | cont => exact False.elim x
    | ret u =>
      obtain ⟨v, H', os, bare, un, hok', r', q⟩ := x
      have kept : ∀ b o, b ≠ Pt → s₁.heap.get? b = some o → s'.heap.get? b = some o := fun b o hbP e => by
        cases q2 : H b with
        | none => exact un.keep b o e (by rw [upd_ne hbP]; exact q2) (by intro z; exact absurd (show b ∈ ([] : List Addr) from z) (by simp)) (by simp)
        | some u2 =>
          rcases hO b with z | ⟨ob, u3, z⟩
          · rw [q2] at z
            cases z
          · have z2 := un.frzs b ob _ (hsame z)
            obtain ⟨e1, _⟩ := hok b _ z
            obtain ⟨e2, _⟩ := hok' b _ z2
            rw [e] at e1
            cases e1
            exact e2
      have tab : ∃ more, s'.heap.get? Pt = some (tabObj more) := by
        obtain ⟨more, z⟩ := un.tbls Pt #[] upd_same
        exact ⟨_, hok' Pt _ z⟩
      have KX' : K.In s'.heap := fun b o e => kept b o (nK b o e).2 (KX b o e)
      obtain ⟨as, hrd⟩ := Dw.reads (R := R) (cl := cl) hok' KX' d0 v u q r'
      refine ⟨u, as, rfl, hrd, ⟨fun b o e => ?_, fun b o e => ?_⟩, os, bare⟩
      · by_cases hbP : b = Pt
        · subst hbP
          rw [hPt] at e
          cases e
          obtain ⟨more, z⟩ := tab
          exact .inr (.inl ⟨(hC.tab hPt).isCodeTable, rfl, #[], more, rfl, by rw [Array.empty_append]; exact z⟩)
        · exact .inl (kept b o hbP e)
      · by_cases hbP : b = Pt
        · subst hbP
          obtain ⟨more, z⟩ := tab
          exact ⟨_, z⟩
        · exact ⟨o, kept b o hbP e⟩
/-- the goal that k_headS leaves, from the promise of the row's def, which makes a lambda -/
theorem walk_specT {r : OpenSpec} {k : Nat} {q : Program} {loose : List Str} {XP : (Str → Option Value) → Heap → Prop} {YP : World → Heap → Prop} {d : DefRec} {K : Params → PySem.W.Frag} {ps : List Str} {sp : PySem.W.Frag → Addr → Sp}
    (hwell : r.wellSaid = true) (hdf : d.params.defaults = []) (hlen : r.args.length = ps.length) (hr : Room k callerA) (hrec : (recsOf q).find? (fun e => e.name == d.name) = some d)
    (hY : ∀ (w : World) (h : Heap), YP w h → (K w.params).In h)
    (F : ∀ (w : World) (mg : Str → Option Value) (fa : Addr) (h : Heap), YP w h → (K w.params).In h → h.Ns mainGlobals mg → mg d.name = some (.ref fa) →
      ∃ (fd : FuncData) (c Pt : Addr), PySem.W.tabIn (K w.params) d.name = some (c, Pt) ∧ (K w.params).lookup Pt = none ∧ (∀ (s : Shared) (us : List Value), us.length = ps.length → BindsTo s fd ⟨us, []⟩ (ps.zip us)) ∧
        ∀ base : Heap, Mod (K w.params) mg base → CodeHd base c Pt → base.BuiltinsAt mg Pt → base.get? Pt = none → FnOk r.prog w (K w.params) mg base (CX1 r.prog w) k fa fd ps (sp (K w.params) Pt))
    (hsp : ∀ (K : PySem.W.Frag) (Pt : Addr) (H : Hp) (xs : List V) (a : Codec.denoteAll r.args), K.lookup Pt = none → OnlyF H → H Pt = none → Codec.withinAll r.args a = true → Codec.app r.args r.asked a = true → DwAll K H xs (Codec.encAll r.args a) →
      sp K Pt xs (upd H Pt (.tbl #[])) (fun v H' => Dw K H' v (r.ret.enc (Codec.app r.args r.f a))) fun _ _ _ => False) :
    PySem.W.WalkOS q loose XP YP r d [] (fun f vs => PySem.call f vs) := by
  intro w s_0 s₁ mg mb G Y fa o pm cd doc dV kV ho hd hcd hD hmg hg args vals as hpre hlay hrd hwl hlo
  obtain ⟨a, e1, e2⟩ := PySem.W.os_pre_some hpre
  obtain ⟨e3, hwi⟩ := Codec.encAll_of_decAll r.args args a e1
  subst e3
  have KX := hY w _ Y
  obtain ⟨fd, c, Pt, htab, hKP, hb, hF⟩ := F w mg fa _ Y KX G.T.g hmg
  obtain ⟨hC, hPt⟩ := PySem.W.tab_of G.T KX hrec htab
  have hB : s₁.heap.BuiltinsAt mg Pt := by
    obtain ⟨bm, ob, b1, b2, b3, b4, b5, b6⟩ := G.T.bmain
    refine ⟨bm, ob, b1, b2, fun z => ?_, fun z => ?_, b3, b4, b5, b6⟩
    · obtain ⟨o, es, ep, e, hd, _⟩ := G.T.g
      rw [z, e] at b3; cases b3; rw [hd] at b6; cases b6
    · rw [z, hPt] at b3; cases b3; cases b4
  refine PySem.W.enter_call (codeAny_mono (spec_callT (R := []) (cl := classAt s_0.heap) (d0 := r.ret.enc (Codec.app r.args r.f a)) KX G.T.g G.T.b G.T.builtins G.T.nolimit hg hwl (pl_encAll _ _) (layable_weight hlay) hr hC hPt hKP hB hF hb (by rw [encAll_len]; exact hlen)
    (fun H xs hO hn hS => hsp (K w.params) Pt H xs a hKP hO hn hwi e2 hS)) fun r' s' hq => ?_)
  obtain ⟨u, as', rfl, h1, h2, h3, h4⟩ := hq
  exact ⟨.inl ⟨u, _, as', rfl, fun _ => rfl, h1, (OpenSpec.post_iff hwell hwi _ _).mpr rfl, fun z => Bool.noConfusion (show false = true from z)⟩, h2, h3, h4⟩
end L2
end

set_option Elab.async false
set_option linter.all false
set_option maxRecDepth 100000
/-! THE PROMISES of the program's small defs, and what they come to by the specification. -/
namespace L2
open PySem PySem.Spec PyProof.Rows
section
variable {P : Program} {w : World} {K : PySem.W.Frag} {mg : Str → Option Value} {base : Heap}
theorem Fun.ok1 {x qual : Str} {st : Stmt} {f : Addr} {fd : FuncData} {N ps : List Str} {k : Nat} {sp : Sp} (F : Fun K x qual st f fd) (S : FnScope N ps (defScope st)) (len : ∀ vs H Q E, sp vs H Q E → vs.length = ps.length)
    (hbody : ∀ (cdv : Value) (A : Around) (outer : List Env) (s : Shared) (H : Hp) (vs : List V) (Q : VK) (E : XK), Room k (A.deeper (envOfC qual (defScope st) s.heap.objs.size f cdv)) → sp vs H Q E →
      ∃ t, PSs (cxOf (CX1 P w) P w K mg base N qual (defScope st) f cdv A outer s H E) (defBody st) t ∧ t { nx := fun _ H' => Q .non H', rt := Q } (start N vs) H) : FnOk P w K mg base (CX1 P w) (k + 1) f fd ps sp := by
  obtain ⟨oc, od, kV, doc, pm, an, cdv, ct, osl, rfl, lk, hcd⟩ := F.ex
  exact fn_of lk hcd S len fun A outer s H vs Q E hr hsp => hbody cdv A outer s H vs Q E hr hsp
/-- a def by its name -/
def FnR (P : Program) (w : World) (K : PySem.W.Frag) (mg : Str → Option Value) (base : Heap) (k : Nat) (x : Str) (ps : List Str) (sp : Sp) : Prop :=
  ∃ f fd, FnOk P w K mg base (CX1 P w) k f fd ps sp ∧ Binds K fd ps [] ∧ mg x = some (.ref f) ∧ PySem.W.keepIn K (.ref f) = true
end
section
variable {X : Cx} {E : XK}
theorem pe_fn {k j : Nat} {x : Str} {ps : List Str} {sp : Sp} {p pos : Pos} {e : Expr} {es : List Expr} {t : TA} (F : FnR X.prog X.w X.K X.mg X.base k x ps sp) (hr : Room j X.A) (hg : Gl X x) (T : Thr X E) (ha : PA X (e :: es) t) (hkj : k ≤ j := by decide)
    (hdb : (x == ("__debug__" : Str)) = false := by decide) (he : starEach (e :: es) X.env = (false, eval e X.env) :: starEach es X.env := by rfl) (hpl : (backTo pos (starEach es X.env)).any (·.1) = false := by rfl) :
    PE X (.Call (.Name x p) (e :: es) [] pos) (tCall sp [] E t) := by
  obtain ⟨f, fd, F1, hb, hm, hk⟩ := F
  exact pe_call F1 (hr.mono hkj) hg hm hk hb .nil (pass1 T) ha hdb he hpl
/-- a global int -/
theorem pe_gi {x : Str} {i : Int} {pos : Pos} (hm : ∃ t, X.mg x = some (.int i t)) (hg : Gl X x) (hd : (x == ("__debug__" : Str)) = false := by decide) : PE X (.Name x pos) (tC (.int i)) := by
  obtain ⟨t, hm⟩ := hm
  exact pe_glob hg hm ⟨t, rfl⟩ hd
theorem mt_bits : MtR X "int.bit_length" (fun x xs H Q => ∃ i : Int, x = .int i ∧ xs = [] ∧ Q (.int (Builtin.Int.intBits i : Nat)) H) := by
  intro pins s σ H x xs v us Q I rx rv h
  obtain ⟨i, rfl, rfl, q⟩ := h
  obtain ⟨t, rfl⟩ := rx
  cases rv
  exact PyProof.Rows.call_int_bit_length ⟨.int _, H, I.tok _, ⟨_, rfl⟩, q⟩
/-- // by a positive divisor below 2^64 -/
theorem op_fdiv64 : OpR X (binaryOp .FloorDiv) (rI (fun _ j => 0 < j ∧ j < 18446744073709551616) fun i j => .int (i / j)) := opI fun i j _ _ _ _ _ hc q => by
  have h1 : (0 : Int) < j := hc.1
  have h2 : j < 18446744073709551616 := hc.2
  refine floordiv_int (by omega) (by rw [Int.fdiv_eq_ediv_of_nonneg i (by omega)]; exact q) (.inl (PyProof.noPylong_of_log2 ?_))
  have hn : j.natAbs ≠ 0 := by omega
  have : j.natAbs.log2 < 64 := (Nat.log2_lt hn).mpr (by omega)
  omega
theorem boot_max : bootBuiltins "max" = some (.builtin "max") := by decide +kernel
theorem boot_min : bootBuiltins "min" = some (.builtin "min") := by decide +kernel
theorem boot_abs : bootBuiltins "abs" = some (.builtin "abs") := by decide +kernel
end
end L2
namespace An
open PySem PySem.Spec PyProof.Rows L2
theorem and_nat (x y : Nat) : Builtin.bitAnd (x : Int) (y : Int) = ((x &&& y : Nat) : Int) := by
  unfold Builtin.bitAnd
  rw [decide_eq_true (Int.natCast_nonneg x), decide_eq_true (Int.natCast_nonneg y)]
  rfl
theorem or_nat (x y : Nat) : Builtin.bitOr (x : Int) (y : Int) = ((x ||| y : Nat) : Int) := by
  unfold Builtin.bitOr Builtin.bitNot Builtin.bitAnd
  have h1 : ¬ (0 : Int) ≤ -(x : Int) - 1 := by omega
  have h2 : ¬ (0 : Int) ≤ -(y : Int) - 1 := by omega
  rw [decide_eq_false h1, decide_eq_false h2]
  dsimp only
  unfold Builtin.bitNot
  have e1 : -(-(x : Int) - 1) - 1 = (x : Int) := by omega
  have e2 : -(-(y : Int) - 1) - 1 = (y : Int) := by omega
  rw [e1, e2, Int.toNat_natCast, Int.toNat_natCast]
  omega
theorem xor_nat (x y : Nat) : Builtin.bitXor (x : Int) (y : Int) = (((x ||| y) - (x &&& y) : Nat) : Int) := by
  unfold Builtin.bitXor
  rw [and_nat, or_nat]
  have : (x &&& y) ≤ (x ||| y) := Nat.le_trans Nat.and_le_left Nat.left_le_or
  omega
theorem band_inf (x : Nat) : Builtin.bitAnd (x : Int) 9218868437227405312 = ((Sv21.mag x / 2 ^ 52 * 2 ^ 52 : Nat) : Int) := by
  rw [← inf_and]
  exact and_nat x 9218868437227405312
theorem band_sgn {x : Nat} (h : x < 2 ^ 64) : Builtin.bitAnd (x : Int) 9223372036854775808 = ((sg (Sv21.minus x) : Nat) : Int) := by
  rw [← sign_of h]
  exact and_nat x 9223372036854775808
theorem band_mag (x : Nat) : Builtin.bitAnd (x : Int) 9223372036854775807 = ((Sv21.mag x : Nat) : Int) := by
  rw [← mag_and]
  exact and_nat x 9223372036854775807
theorem band_frac (x : Nat) : Builtin.bitAnd (x : Int) 4503599627370495 = ((x % 2 ^ 52 : Nat) : Int) := by
  rw [← frac_and]
  exact and_nat x 4503599627370495
theorem bor_hid (x : Nat) : Builtin.bitOr (Builtin.bitAnd (x : Int) 4503599627370495) 4503599627370496 = ((x % 2 ^ 52 + 2 ^ 52 : Nat) : Int) := by
  rw [band_frac, ← hid_or]
  exact or_nat (x % 2 ^ 52) 4503599627370496
theorem bor_sg (s : Bool) {m : Nat} (h : m < 2 ^ 63) : Builtin.bitOr ((sg s : Nat) : Int) (m : Int) = ((Sv21.signed s m : Nat) : Int) := by
  rw [← sg_or s h]
  exact or_nat _ _
theorem bxor_sgn {y : Nat} (h : y < 2 ^ 64) : Builtin.bitXor (y : Int) 9223372036854775808 = ((Sv21.neg y : Nat) : Int) := by
  rw [← neg_eq h]
  exact xor_nat y 9223372036854775808
theorem int_inj {a b : Int} : (V.int a = V.int b) ↔ a = b := ⟨fun h => by cases h; rfl, fun h => by rw [h]⟩
theorem dec_int (a b : Int) : decide (V.int a = V.int b) = decide (a = b) := by
  by_cases h : a = b
  · rw [h]; simp
  · rw [decide_eq_false h, decide_eq_false fun q => h (int_inj.mp q)]
theorem fin_dec (x : Nat) : decide (V.int (Builtin.bitAnd (x : Int) 9218868437227405312) = V.int 9218868437227405312) = !Sv21.finite x := by
  rw [dec_int, band_inf]
  have e := fin_test x
  rw [inf_and] at e
  cases h : Sv21.finite x
  · have := e.mpr h
    exact decide_eq_true (by omega)
  · refine decide_eq_false fun q => ?_
    have : Sv21.mag x / 2 ^ 52 * 2 ^ 52 = 9218868437227405312 := by omega
    have := e.mp this
    rw [h] at this
    cases this
theorem zero_dec (x : Nat) : decide (V.int (Builtin.bitAnd (x : Int) (9223372036854775808 - 1)) = V.int 0) = Sv21.zero x := by
  have e : (9223372036854775808 - 1 : Int) = 9223372036854775807 := by decide
  rw [e, dec_int, band_mag]
  cases h : Sv21.zero x
  · refine decide_eq_false fun q => ?_
    have : Sv21.zero x = true := (zero_iff x).mpr (by omega)
    rw [h] at this
    cases this
  · have := (zero_iff x).mp h
    exact decide_eq_true (by omega)
theorem band_mag1 (x : Nat) : Builtin.bitAnd (x : Int) (9223372036854775808 - 1) = ((Sv21.mag x : Nat) : Int) := by
  have e : (9223372036854775808 - 1 : Int) = 9223372036854775807 := by decide
  rw [e, band_mag]
theorem zero_mag (x : Nat) : decide (V.int ((Sv21.mag x : Nat) : Int) = V.int 0) = Sv21.zero x := by
  rw [← zero_dec, band_mag1]
theorem exp_dec (x : Nat) : decide (V.int (Builtin.bitAnd (x : Int) 9218868437227405312) = V.int 0) = decide (Sv21.mag x / 2 ^ 52 = 0) := by
  rw [dec_int, band_inf]
  by_cases h : Sv21.mag x / 2 ^ 52 = 0
  · rw [decide_eq_true h, h]; simp
  · rw [decide_eq_false h]
    exact decide_eq_false (by omega)
theorem pow_int (x : Nat) : (if (1 : Int) > Builtin.bitAnd (x : Int) 9218868437227405312 / 2 ^ (52 : Int).toNat then 1 else Builtin.bitAnd (x : Int) 9218868437227405312 / 2 ^ (52 : Int).toNat) - 1 = ((pw x : Nat) : Int) := by
  rw [band_inf]
  have e : (2 : Int) ^ (52 : Int).toNat = ((2 ^ 52 : Nat) : Int) := by decide
  rw [e, ← Int.natCast_ediv, Nat.mul_div_cancel _ (by decide)]
  unfold pw
  split <;> omega
theorem pw_le' (x : Nat) : pw x ≤ 2046 := by
  have := mag_lt x
  unfold pw
  omega
/-- bits of a positive number -/
theorem bits_log {m : Nat} (h : m ≠ 0) : Builtin.Int.intBits (m : Int) = m.log2 + 1 := by
  unfold Builtin.Int.intBits
  simp [h]
theorem shr_nat (m d : Nat) : (m : Int) / 2 ^ ((d : Int)).toNat = ((m / 2 ^ d : Nat) : Int) := by
  rw [Int.toNat_natCast, Int.natCast_ediv, Int.natCast_pow]
  rfl
theorem shl_nat (m d : Nat) : (m : Int) * 2 ^ ((d : Int)).toNat = ((m * 2 ^ d : Nat) : Int) := by
  rw [Int.toNat_natCast, Int.natCast_mul, Int.natCast_pow]
  rfl
/-! ### the promises -/
def L (l : List Nat) : HO := .lst (l.map fun (x : Nat) => V.int (x : Int))
def spFin (CN : Addr) : Sp := fun vs H Q E => ∃ x : Nat, vs = [.int x] ∧ if Sv21.finite x = true then Q (.int x) H else E (.ref CN) none H
def spSign : Sp := fun vs H Q _ => ∃ x : Nat, vs = [.int x] ∧ x < 2 ^ 64 ∧ Q (.int ((sg (Sv21.minus x) : Nat) : Int)) H
def spAbs : Sp := fun vs H Q _ => ∃ x : Nat, vs = [.int x] ∧ Q (.int ((Sv21.mag x : Nat) : Int)) H
def spRank : Sp := fun vs H Q _ => ∃ x : Nat, vs = [.int x] ∧ x < 2 ^ 64 ∧ Q (.int (rank x)) H
def spLess : Sp := fun vs H Q _ => ∃ x y : Nat, vs = [.int x, .int y] ∧ x < 2 ^ 64 ∧ y < 2 ^ 64 ∧ Q (.bl (Sv21.less x y)) H
def spCheck (CR : Addr) : Sp := fun vs H Q E => ∃ m lo hi : Int, vs = [.int m, .int lo, .int hi] ∧ if Sv21.within m lo hi = false then E (.ref CR) none H else Q .non H
theorem within_gen (m lo hi : Int) : Sv21.within m lo hi = false ↔ (m < lo ∨ hi < m) := by
  unfold Sv21.within
  rw [Bool.and_eq_false_iff, decide_eq_false_iff_not, decide_eq_false_iff_not]
  omega
theorem within_iff (m : Int) : Sv21.within m 0 4000 = false ↔ (m < 0 ∨ 4000 < m) := by
  unfold Sv21.within
  rw [Bool.and_eq_false_iff, decide_eq_false_iff_not, decide_eq_false_iff_not]
  omega
def spZero : Sp := fun vs H Q _ => ∃ x : Nat, vs = [.int x] ∧ Q (.bl (Sv21.zero x)) H
def spSame : Sp := fun vs H Q _ => ∃ x y : Nat, vs = [.int x, .int y] ∧ x < 2 ^ 64 ∧ y < 2 ^ 64 ∧ Q (.bl (Sv21.same x y)) H
def spPow : Sp := fun vs H Q _ => ∃ x : Nat, vs = [.int x] ∧ Q (.int ((pw x : Nat) : Int)) H
def spSize : Sp := fun vs H Q _ => ∃ x : Nat, vs = [.int x] ∧ Q (.int ((Sv21.units x : Nat) : Int)) H
def spSS : Sp := fun vs H Q _ => ∃ x p : Nat, vs = [.int x, .int p] ∧ x < 2 ^ 64 ∧ p ≤ pw x ∧ Q (.int (Sv21.amount x * 2 ^ (pw x - p))) H
def spRnd : Sp := fun vs H Q _ => ∃ (m : Nat) (d : Int), vs = [.int m, .int d] ∧ -10000 ≤ d ∧ d ≤ 10000 ∧ (d ≤ 0 → m < 2 ^ 64) ∧ (0 < d → m / 2 ^ d.toNat < 2 ^ 64) ∧ Q (.int ((rnd m d : Nat) : Int)) H
def spNear (CN : Addr) : Sp := fun vs H Q E => ∃ (s : Bool) (m : Nat) (p : Int), vs = [.int ((sg s : Nat) : Int), .int m, .int p] ∧ -4000 ≤ p ∧ p ≤ 4000 ∧ m < 2 ^ 4000 ∧
  if Sv21.finite (near s m p) = true then Q (.int ((near s m p : Nat) : Int)) H else E (.ref CN) none H
/-- two finite doubles, and one that is made of them -/
def sp2 (CN : Addr) (g : Nat → Nat → Nat) (C : Nat → Nat → Prop) : Sp := fun vs H Q E => ∃ x y : Nat, vs = [.int x, .int y] ∧ (x < 2 ^ 64 ∧ Sv21.finite x = true) ∧ (y < 2 ^ 64 ∧ Sv21.finite y = true) ∧ C x y ∧
  if Sv21.finite (g x y) = true then Q (.int ((g x y : Nat) : Int)) H else E (.ref CN) none H
def spPlus (CN : Addr) : Sp := sp2 CN Sv21.add fun _ _ => True
def spMinus (CN : Addr) : Sp := sp2 CN Sv21.sub fun _ _ => True
def spTimes (CN : Addr) : Sp := sp2 CN Sv21.mul fun _ _ => True
def spDiv (CN : Addr) : Sp := sp2 CN Sv21.div fun _ y => Sv21.zero y = false
/-! ### rounding as it is written -/
theorem rnd_neg {m : Nat} {d : Int} (h : d ≤ 0) : (m : Int) * 2 ^ (-d).toNat = ((rnd m d : Nat) : Int) := by
  unfold rnd
  rw [if_pos h, Int.natCast_mul, Int.natCast_pow]
  rfl
theorem rnd_pos {m : Nat} {d : Int} (h : 0 < d) : rnd m d = if 2 ^ (d.toNat - 1) < m - m / 2 ^ d.toNat * 2 ^ d.toNat ∨ (m - m / 2 ^ d.toNat * 2 ^ d.toNat = 2 ^ (d.toNat - 1) ∧ m / 2 ^ d.toNat % 2 = 1) then m / 2 ^ d.toNat + 1 else m / 2 ^ d.toNat := by
  unfold rnd
  rw [if_neg (by omega)]
  obtain ⟨n, hn⟩ : ∃ n, d.toNat = n + 1 := ⟨d.toNat - 1, by omega⟩
  rw [hn]
  unfold Sv21.nearest
  dsimp only
  have e := Nat.div_add_mod m (2 ^ (n + 1))
  have e2 : m - m / 2 ^ (n + 1) * 2 ^ (n + 1) = m % 2 ^ (n + 1) := by
    rw [Nat.mul_comm]
    omega
  have e3 : 2 ^ (n + 1) = 2 * 2 ^ n := by rw [Nat.pow_succ]; omega
  rw [e2, Nat.add_sub_cancel]
  generalize m / 2 ^ (n + 1) = q
  generalize m % 2 ^ (n + 1) = r
  rw [e3]
  generalize 2 ^ n = A
  by_cases h1 : 2 * A < 2 * r ∨ (2 * r = 2 * A ∧ q % 2 = 1)
  · rw [if_pos h1, if_pos (by omega)]
  · rw [if_neg h1, if_neg (by omega)]
end An
namespace An
open PySem PySem.Spec PyProof.Rows L2
theorem drop_val {m : Nat} {p : Int} (h : m ≠ 0) : (if -p > ((Builtin.Int.intBits (m : Int) : Nat) : Int) - 53 then -p else ((Builtin.Int.intBits (m : Int) : Nat) : Int) - 53) = drop m p := by
  rw [bits_log h]
  unfold drop
  split <;> omega
theorem drop_ok {m : Nat} {p : Int} (h0 : m ≠ 0) (h : m < 2 ^ 4000) (h1 : -4000 ≤ p) (h2 : p ≤ 4000) : -10000 ≤ drop m p ∧ drop m p ≤ 10000 ∧ (drop m p ≤ 0 → m < 2 ^ 64) ∧ (0 < drop m p → m / 2 ^ (drop m p).toNat < 2 ^ 64) ∧ 0 ≤ p + drop m p ∧ p + drop m p ≤ 20000 := by
  have l : m.log2 < 4000 := (Nat.log2_lt h0).mpr h
  have hd : (m.log2 : Int) + 1 - 53 ≤ drop m p := Int.le_max_left _ _
  have hd2 : -p ≤ drop m p := Int.le_max_right _ _
  have hm : drop m p = (m.log2 : Int) + 1 - 53 ∨ drop m p = -p := by unfold drop; omega
  have lt := Nat.lt_log2_self (n := m)
  refine ⟨by omega, by omega, fun q => ?_, fun q => ?_, by omega, by omega⟩
  · exact Nat.lt_of_lt_of_le lt (Nat.pow_le_pow_right (by decide) (by omega))
  · rw [Nat.div_lt_iff_lt_mul (Nat.two_pow_pos _), ← Nat.pow_add]
    exact Nat.lt_of_lt_of_le lt (Nat.pow_le_pow_right (by decide) (by omega))
theorem bits_val (m : Nat) (p : Int) : (p + drop m p) * 2 ^ (52 : Int).toNat + ((rnd m (drop m p) : Nat) : Int) = bits m p := rfl
theorem min_val (a b : Nat) : (if (b : Int) < (a : Int) then (b : Int) else (a : Int)) = ((min a b : Nat) : Int) := by
  split <;> omega
theorem abs_val (z : Int) : (if z < 0 then -z else z) = ((z.natAbs : Nat) : Int) := by
  split <;> omega
theorem amount_abs (x : Nat) : (Sv21.amount x).natAbs = Sv21.units x := by
  unfold Sv21.amount
  split <;> omega
theorem tot_abs (x y : Nat) : (tot x y).natAbs < 2 ^ 4000 := by
  unfold tot
  have b : ∀ z k : Nat, k ≤ 2046 → (Sv21.amount z * 2 ^ k).natAbs < 2 ^ 2100 := fun z k hk => by
    rw [Int.natAbs_mul, amount_abs, Int.natAbs_pow]
    calc Sv21.units z * (2 : Int).natAbs ^ k < 2 ^ 53 * 2 ^ k := Nat.mul_lt_mul_of_pos_right (units_lt z) (Nat.two_pow_pos k)
      _ = 2 ^ (53 + k) := (Nat.pow_add _ _ _).symm
      _ ≤ 2 ^ 2100 := Nat.pow_le_pow_right (by decide) (by omega)
  have h1 := b x (pw x - min (pw x) (pw y)) (by have := pw_le' x; omega)
  have h2 := b y (pw y - min (pw x) (pw y)) (by have := pw_le' y; omega)
  have h3 : (2 : Nat) ^ 2100 + 2 ^ 2100 ≤ 2 ^ 4000 := by
    have : (2 : Nat) ^ 4000 = 2 ^ 2100 * 2 ^ 1900 := by rw [← Nat.pow_add]
    rw [this]
    have : (2 : Nat) ≤ 2 ^ 1900 := Nat.le_trans (by decide : (2 : Nat) ≤ 2 ^ 1) (Nat.pow_le_pow_right (by decide) (by decide))
    have := Nat.mul_le_mul_left (2 ^ 2100) this
    omega
  have h4 := Int.natAbs_add_le (Sv21.amount x * 2 ^ (pw x - min (pw x) (pw y))) (Sv21.amount y * 2 ^ (pw y - min (pw x) (pw y)))
  omega
theorem sg_val (z : Int) : (if decide (z < 0) = true then (9223372036854775808 : Int) else 0) = ((sg (decide (z < 0)) : Nat) : Int) := by
  unfold sg
  split <;> rfl
theorem prod_lt (x y : Nat) : Sv21.units x * Sv21.units y < 2 ^ 4000 := by
  have h1 := units_lt x
  have h2 := units_lt y
  calc Sv21.units x * Sv21.units y ≤ 2 ^ 53 * 2 ^ 53 := Nat.mul_le_mul (Nat.le_of_lt h1) (Nat.le_of_lt h2)
    _ = 2 ^ 106 := by rw [← Nat.pow_add]
    _ < 2 ^ 4000 := Nat.pow_lt_pow_right (by decide) (by decide)
end An

set_option Elab.async false
set_option linter.all false
set_option maxRecDepth 100000
namespace L2
open PySem PySem.Spec PyProof.Rows
theorem SqL.upd_ne {K : PySem.W.Frag} {H : Hp} {a b : Addr} {o : HO} {xs : List V} (h : SqL K H a xs) (ne : a ≠ b) : SqL K (upd H b o) a xs := by
  rcases h with (h | ⟨ob, h⟩) | h
  · exact .inl (.inl (by rw [L2.upd_ne ne]; exact h))
  · exact .inl (.inr ⟨ob, by rw [L2.upd_ne ne]; exact h⟩)
  · exact .inr h
theorem SqL.mono {K : PySem.W.Frag} {H H' : Hp} {a : Addr} {xs : List V} (h : SqL K H a xs) (k : ∀ o, H a = some o → H' a = some o) : SqL K H' a xs := by
  rcases h with (h | ⟨ob, h⟩) | h
  · exact .inl (.inl (k _ h))
  · exact .inl (.inr ⟨ob, k _ h⟩)
  · exact .inr h
/-- a new list stands at a place of its own, not at one of the text's objects -/
def tLstK (K : PySem.W.Frag) (t : TA) : TE := fun σ H Q => t σ H fun xs H1 => xs.length ≤ sizeLine ∧ ∀ p, H1 p = none → K.lookup p = none → Q (.ref p) (upd H1 p (.lst xs))
theorem pe_lstK {X : Cx} {es : List Expr} {t : TA} {pos : Pos} (h : PA X es t) : PE X (.List es pos) (tLstK X.K t) := by
  intro pins s σ H Q I hq
  refine wpAny_List_spliced (thn (h pos pins s σ H _ I hq) fun us s1 ⟨xs, H1, I1, r, z, q⟩ => ⟨by rw [← r.length]; exact z, ?_⟩)
  have hf : H1 s1.heap.objs.size = none := I1.hok.fresh (Nat.le_refl _)
  have hk : X.K.lookup s1.heap.objs.size = none := by
    cases e : X.K.lookup s1.heap.objs.size with
    | none => rfl
    | some o =>
      have := Heap.lt_size (I1.kIn _ _ e)
      exact absurd this (Nat.lt_irrefl _)
  refine ⟨.ref s1.heap.objs.size, upd H1 s1.heap.objs.size (.lst xs), I1.laid (t' := s1.toks) (fun b u e => Heap.get?_push_of_some _ e) (Nat.le_refl _) ?_, rfl, q _ hf hk⟩
  exact ⟨z, us, 0, r, Heap.get?_push_size _ rfl⟩
end L2
namespace An
open PySem PySem.Spec PyProof.Rows L2
open Sv21 (Io Ans)
/-! ### the questions' object -/
def qf (la lq : Addr) (c : Nat) : List (Str × V) := putF "asked" (.ref lq) (putF "count" (.int (c : Int)) (putF "answers" (.ref la) []))
theorem qf_asked (la lq : Addr) {c : Nat} : (qf la lq c).lookup ("asked" : Str) = some (.ref lq) := by
  unfold qf
  rw [lookup_putF, if_pos rfl]
theorem qf_count (la lq : Addr) {c : Nat} : (qf la lq c).lookup ("count" : Str) = some (.int (c : Int)) := by
  unfold qf
  rw [lookup_putF, if_neg (by decide +kernel), lookup_putF, if_pos rfl]
theorem qf_answers (la lq : Addr) {c : Nat} : (qf la lq c).lookup ("answers" : Str) = some (.ref la) := by
  unfold qf
  rw [lookup_putF, if_neg (by decide +kernel), lookup_putF, if_neg (by decide +kernel), lookup_putF, if_pos rfl]
theorem qf_no (la lq : Addr) {c : Nat} {m : Str} (h1 : ¬ m = "asked") (h2 : ¬ m = "count") (h3 : ¬ m = "answers") : (qf la lq c).lookup m = none := by
  unfold qf
  rw [lookup_putF, if_neg h1, lookup_putF, if_neg h2, lookup_putF, if_neg h3]
  all_goals rfl
theorem qf_ask (la lq : Addr) {c : Nat} : (qf la lq c).lookup ("ask" : Str) = none := qf_no la lq (by decide +kernel) (by decide +kernel) (by decide +kernel)
theorem qf_ask_two (la lq : Addr) {c : Nat} : (qf la lq c).lookup ("ask_two" : Str) = none := qf_no la lq (by decide +kernel) (by decide +kernel) (by decide +kernel)
theorem qf_answered (la lq : Addr) {c : Nat} : (qf la lq c).lookup ("answered" : Str) = none := qf_no la lq (by decide +kernel) (by decide +kernel) (by decide +kernel)
theorem putF_nil (f : Str) (v : V) : putF f v [] = [(f, v)] := rfl
theorem putF_eq (f : Str) (v x : V) (r : List (Str × V)) : putF f v ((f, x) :: r) = (f, v) :: r := by
  show (if f = f then (f, v) :: r else _) = _
  rw [if_pos rfl]
theorem putF_ne {f g : Str} (h : ¬ g = f) (v x : V) (r : List (Str × V)) : putF f v ((g, x) :: r) = (g, x) :: putF f v r := by
  show (if g = f then _ else (g, x) :: putF f v r) = _
  rw [if_neg h]
theorem qf_put (la lq : Addr) (c d : Nat) : putF "count" (.int (d : Int)) (qf la lq c) = qf la lq d := by
  unfold qf
  have e1 : ¬ ("answers" : Str) = "count" := by decide +kernel
  have e2 : ¬ ("answers" : Str) = "asked" := by decide +kernel
  have e3 : ¬ ("count" : Str) = "asked" := by decide +kernel
  have e : ∀ c : Nat, putF "asked" (.ref lq) (putF "count" (.int (c : Int)) (putF "answers" (.ref la) [])) = [(("answers" : Str), V.ref la), ("count", .int (c : Int)), ("asked", .ref lq)] := fun c => by
    rw [putF_nil, putF_ne e1, putF_nil, putF_ne e2, putF_ne e3, putF_nil]
  rw [e c, e d, putF_ne e1, putF_eq]
theorem putF_putF (f : Str) (v w : V) : ∀ fs : List (Str × V), putF f v (putF f w fs) = putF f v fs
  | [] => by
    show (if f = f then (f, v) :: [] else _) = [(f, v)]
    rw [if_pos rfl]
  | (g, x) :: r => by
    show putF f v (if g = f then (g, w) :: r else (g, x) :: putF f w r) = if g = f then (g, v) :: r else (g, x) :: putF f v r
    by_cases h : g = f
    · rw [if_pos h, if_pos h]
      show (if g = f then (g, v) :: r else _) = _
      rw [if_pos h]
    · rw [if_neg h, if_neg h]
      show (if g = f then _ else (g, x) :: putF f v (putF f w r)) = _
      rw [if_neg h, putF_putF f v w r]
/-- the same object, another count -/
def recount (o : Option HO) (c : Nat) : HO := match o with
  | some (.ins C dx fs) => .ins C dx (putF "count" (.int (c : Int)) fs)
  | _ => .lst []
theorem recount_recount (o : Option HO) (a b : Nat) : recount (some (recount o a)) b = recount o b := by
  cases o with
  | none => rfl
  | some o =>
    cases o with
    | ins C dx fs =>
      show HO.ins C dx (putF "count" _ (putF "count" _ fs)) = _
      rw [putF_putF]
      rfl
    | _ => rfl
def vI (l : List Nat) : List V := l.map fun (x : Nat) => V.int (x : Int)
theorem L_eq (l : List Nat) : L l = .lst (vI l) := rfl
theorem vI_len (l : List Nat) : (vI l).length = l.length := by unfold vI; rw [List.length_map]
theorem vI_snoc (l : List Nat) (x : Nat) : vI l ++ [V.int (x : Int)] = vI (l ++ [x]) := by unfold vI; rw [List.map_append]; rfl
theorem vI_snoc2 (l : List Nat) (x y : Nat) : vI l ++ [V.int (x : Int), V.int (y : Int)] = vI (l ++ [x, y]) := by unfold vI; rw [List.map_append]; rfl
/-- the heap where c questions have been asked, whose numbers are qs -/
def askc (H : Hp) (q lq : Addr) (c : Nat) (qs : List Nat) : Hp := upd (upd H lq (L qs)) q (recount (H q) c)
def asks (H : Hp) (q lq : Addr) (qs : List Nat) : Hp := askc H q lq qs.length qs
theorem askc_q {H : Hp} {q lq : Addr} {c : Nat} {qs : List Nat} : askc H q lq c qs q = some (recount (H q) c) := upd_same
theorem askc_l {H : Hp} {q lq : Addr} {c : Nat} {qs : List Nat} (h : q ≠ lq) : askc H q lq c qs lq = some (L qs) := by
  unfold askc
  rw [upd_ne (Ne.symm h), upd_same]
theorem askc_ne {H : Hp} {q lq b : Addr} {c : Nat} {qs : List Nat} (h1 : b ≠ q) (h2 : b ≠ lq) : askc H q lq c qs b = H b := by
  unfold askc
  rw [upd_ne h1, upd_ne h2]
theorem askc_askc {H : Hp} {q lq : Addr} {c d : Nat} {qs rs : List Nat} : askc (askc H q lq c qs) q lq d rs = askc H q lq d rs := by
  funext b
  by_cases h1 : b = q
  · rw [h1, askc_q, askc_q, askc_q, recount_recount]
  · by_cases h2 : b = lq
    · have n : q ≠ lq := fun z => h1 (h2.trans z.symm)
      rw [h2, askc_l n, askc_l n]
    · rw [askc_ne h1 h2, askc_ne h1 h2, askc_ne h1 h2]
theorem asks_asks {H : Hp} {q lq : Addr} {qs rs : List Nat} : asks (asks H q lq qs) q lq rs = asks H q lq rs := askc_askc
/-- the object at q: the answers ns at la, c questions asked so far, their numbers qs at lq -/
structure QC (CQ : Addr) (K : PySem.W.Frag) (H : Hp) (q la lq : Addr) (ns : List Nat) (c : Nat) (qs : List Nat) : Prop where
  ob : ∃ dx, H q = some (.ins CQ dx (qf la lq c))
  ans : SqL K H la (vI ns)
  asked : H lq = some (L qs)
  ne : la ≠ lq
abbrev QA (CQ : Addr) (K : PySem.W.Frag) (H : Hp) (q la lq : Addr) (ns qs : List Nat) : Prop := QC CQ K H q la lq ns qs.length qs
theorem sq_ins {K : PySem.W.Frag} {H : Hp} {a b C dx : Addr} {fs : List (Str × V)} {o : HO} {xs : List V} (h : SqL K H a xs) (hb : H b = some (.ins C dx fs)) : SqL K (upd H b o) a xs := by
  rcases h with (h | ⟨ob, h⟩) | h
  · exact .inl (.inl (by rw [upd_ne (ne_of h hb (fun z => nomatch z))]; exact h))
  · exact .inl (.inr ⟨ob, by rw [upd_ne (ne_of h hb (fun z => nomatch z))]; exact h⟩)
  · exact .inr h
section
variable {CQ : Addr} {K : PySem.W.Frag} {H : Hp} {q la lq : Addr} {ns qs qs' : List Nat} {c c' : Nat}
theorem QC.qne (A : QC CQ K H q la lq ns c qs) : q ≠ lq := by
  obtain ⟨dx, h⟩ := A.ob
  exact ne_of h A.asked (fun z => nomatch z)
theorem QC.re (A : QC CQ K H q la lq ns c qs) : ∃ dx, ∀ d, recount (H q) d = .ins CQ dx (qf la lq d) := by
  obtain ⟨dx, h⟩ := A.ob
  refine ⟨dx, fun d => ?_⟩
  rw [h]
  show HO.ins CQ dx _ = _
  rw [qf_put]
theorem QC.stepc (A : QC CQ K H q la lq ns c qs) : QC CQ K (askc H q lq c' qs') q la lq ns c' qs' := by
  have hq := A.qne
  obtain ⟨dx, h⟩ := A.re
  obtain ⟨dx0, h0⟩ := A.ob
  have h1 : (upd H lq (L qs')) q = some (.ins CQ dx0 (qf la lq c)) := by rw [upd_ne hq]; exact h0
  exact ⟨⟨dx, by rw [askc_q, h]⟩, sq_ins (A.ans.upd_ne A.ne) h1, askc_l hq, A.ne⟩
theorem QC.cnt (A : QC CQ K H q la lq ns c qs) : QC CQ K (upd H q (recount (H q) c')) q la lq ns c' qs := by
  have hq := A.qne
  obtain ⟨dx, h⟩ := A.re
  obtain ⟨dx0, h0⟩ := A.ob
  exact ⟨⟨dx, by rw [upd_same, h]⟩, sq_ins A.ans h0, by rw [upd_ne (Ne.symm hq)]; exact A.asked, A.ne⟩
theorem QC.step (A : QC CQ K H q la lq ns c qs) : QA CQ K (asks H q lq qs') q la lq ns qs' := A.stepc
theorem QC.selfc (A : QC CQ K H q la lq ns c qs) : askc H q lq c qs = H := by
  obtain ⟨dx, h⟩ := A.ob
  funext b
  by_cases h1 : b = q
  · rw [h1, askc_q, h]
    show some (HO.ins CQ dx _) = _
    rw [qf_put]
  · by_cases h2 : b = lq
    · rw [h2, askc_l A.qne, A.asked]
    · rw [askc_ne h1 h2]
theorem QC.self (A : QA CQ K H q la lq ns qs) : asks H q lq qs = H := A.selfc
end
/-- the answers: few, each a double -/
structure Few (ns : List Nat) : Prop where
  len : ns.length ≤ 3000
  dbl : ∀ y ∈ ns, y < 2 ^ 64
def spQInit (CQ : Addr) (K : PySem.W.Frag) : Sp := fun vs H Q _ => ∃ p dx la : Addr, vs = [.ref p, .ref la] ∧ H p = some (.ins CQ dx []) ∧ ∀ (H' : Hp) (l : Addr), H l = none → K.lookup l = none → H' p = some (.ins CQ dx (qf la l 0)) → H' l = some (L []) → (∀ b, b ≠ p → b ≠ l → H' b = H b) → Q .non H'
def AskEnd (CN CW : Addr) (Q : VK) (E : XK) (H' : Hp) : Option Nat → Prop
  | none => E (.ref CW) none H'
  | some y => if Sv21.finite y = true then Q (.int (y : Int)) H' else E (.ref CN) none H'
/-- answered: the question's numbers are there already -/
def spAnsd (CQ CN CW : Addr) (K : PySem.W.Frag) : Sp := fun vs H Q E => ∃ (q la lq : Addr) (ns : List Nat) (c : Nat) (qs : List Nat), vs = [.ref q] ∧ QC CQ K H q la lq ns c qs ∧ c ≤ ns.length ∧ ns.length ≤ 3000 ∧
  AskEnd CN CW Q E (upd H q (recount (H q) (c + 1))) ns[c]?
def spAsk (CQ CN CW : Addr) (K : PySem.W.Frag) : Sp := fun vs H Q E => ∃ (q la lq : Addr) (ns qs : List Nat) (x : Nat), vs = [.ref q, .int (x : Int)] ∧ QA CQ K H q la lq ns qs ∧ qs.length ≤ ns.length ∧ ns.length ≤ 3000 ∧
  AskEnd CN CW Q E (asks H q lq (qs ++ [x])) ns[qs.length]?
/-! ### ends -/
theorem ite_imp {c : Prop} [Decidable c] {A B A' B' : Prop} (h : if c then A else B) (h1 : c → A → A') (h2 : ¬ c → B → B') : if c then A' else B' := by
  by_cases q : c
  · rw [if_pos q] at h ⊢
    exact h1 q h
  · rw [if_neg q] at h ⊢
    exact h2 q h
/-- how a reckoning ends, by the specification's answer -/
def EndIs (CN CW CR CO : Addr) (H : Hp) (q lq : Addr) (Q : VK) (E : XK) (qs : List Nat) : Option Ans → Prop
  | none => E (.ref CW) none (asks H q lq qs)
  | some a => if a.v = -2 then E (.ref CR) none (asks H q lq qs) else if a.v = -4 then E (.ref CN) none (asks H q lq qs) else if a.v = -5 then E (.ref CO) none (asks H q lq qs)
      else ∀ p, asks H q lq qs p = none → Q (.ref p) (upd (asks H q lq qs) p (L a.l))
section
variable {CN CW CR CO : Addr} {H : Hp} {q lq : Addr} {Q : VK} {E : XK} {qs l : List Nat} {n : Nat}
theorem end_fin (h : EndIs CN CW CR CO H q lq Q E qs (some (Sv21.ok (-4)))) : E (.ref CN) none (asks H q lq qs) := h
theorem end_two (h : EndIs CN CW CR CO H q lq Q E qs (some (Sv21.ok (-2)))) : E (.ref CR) none (asks H q lq qs) := h
theorem end_five (h : EndIs CN CW CR CO H q lq Q E qs (some (Sv21.ok (-5)))) : E (.ref CO) none (asks H q lq qs) := h
theorem end_out (h : EndIs CN CW CR CO H q lq Q E qs (some ⟨(n : Int), l⟩)) : ∀ p, asks H q lq qs p = none → Q (.ref p) (upd (asks H q lq qs) p (L l)) := by
  unfold EndIs at h
  dsimp only at h
  rw [if_neg (by omega), if_neg (by omega), if_neg (by omega)] at h
  exact h
theorem EndIs.re {qs0 : List Nat} {r : Option Ans} (h : EndIs CN CW CR CO H q lq Q E qs r) : EndIs CN CW CR CO (asks H q lq qs0) q lq Q E qs r := by
  unfold EndIs at h ⊢
  rw [asks_asks]
  exact h
end
/-- c questions have been asked, their numbers are qs -/
def Tail (H H' : Hp) (q lq : Addr) (c : Nat) (qs : List Nat) : Prop := H' q = some (recount (H q) c) ∧ H' lq = some (L qs)
/-- the same, whatever else has been made on the way -/
def EndC (CN CW CR CO : Addr) (H : Hp) (q lq : Addr) (Q : VK) (E : XK) (c : Nat) (qs : List Nat) : Option Ans → Prop
  | none => ∀ H' : Hp, Tail H H' q lq c qs → E (.ref CW) none H'
  | some a => if a.v = -2 then (∀ H' : Hp, Tail H H' q lq c qs → E (.ref CR) none H') else if a.v = -4 then (∀ H' : Hp, Tail H H' q lq c qs → E (.ref CN) none H') else if a.v = -5 then (∀ H' : Hp, Tail H H' q lq c qs → E (.ref CO) none H')
      else ∀ (H' : Hp) (p : Addr), Tail H H' q lq c qs → H' p = some (L a.l) → Q (.ref p) H'
def EndG (CN CW CR CO : Addr) (H : Hp) (q lq : Addr) (Q : VK) (E : XK) (qs : List Nat) (r : Option Ans) : Prop := EndC CN CW CR CO H q lq Q E qs.length qs r
theorem EndG.is {CQ CN CW CR CO : Addr} {K : PySem.W.Frag} {H : Hp} {q la lq : Addr} {Q : VK} {E : XK} {ns qs0 qs : List Nat} {c0 : Nat} {r : Option Ans} (A : QC CQ K H q la lq ns c0 qs0) (h : EndG CN CW CR CO H q lq Q E qs r) : EndIs CN CW CR CO H q lq Q E qs r := by
  have hq : (asks H q lq qs) q = some (recount (H q) qs.length) := askc_q
  have hl : (asks H q lq qs) lq = some (L qs) := askc_l A.qne
  cases r with
  | none => exact h _ ⟨hq, hl⟩
  | some a =>
    unfold EndG EndC at h
    unfold EndIs
    dsimp only at h ⊢
    refine ite_imp h (fun _ h => h _ ⟨hq, hl⟩) fun _ h => ite_imp h (fun _ h => h _ ⟨hq, hl⟩) fun _ h => ite_imp h (fun _ h => h _ ⟨hq, hl⟩) fun _ h => fun p hp => ?_
    have np : lq ≠ p := fun z => by rw [← z, hl] at hp; cases hp
    have nq : q ≠ p := fun z => by rw [← z, hq] at hp; cases hp
    exact h _ p ⟨by rw [upd_ne nq, hq], by rw [upd_ne np, hl]⟩ upd_same
/-- a reckoning's promise: the specification's program, from the first question on -/
def spOut (CQ CN CW CR CO : Addr) (K : PySem.W.Frag) (io : Io) : Sp := fun vs H Q E => ∃ (q la lq : Addr) (ns : List Nat), vs = [.ref q] ∧ QA CQ K H q la lq ns [] ∧ Few ns ∧ Wp2 ns io 0 [] (EndC CN CW CR CO H q lq Q E)
/-- what answer_of gives back -/
def ansV (c : Nat) : Option Ans → List V
  | none => []
  | some a => if a.v = -2 ∨ a.v = -4 ∨ a.v = -5 then [.int a.v] else .int (c : Int) :: vI a.l
def spAns (CQ : Addr) (K : PySem.W.Frag) (io : Io) (f : Addr) : Sp := fun vs H Q _ => ∃ (q la lq : Addr) (ns : List Nat), vs = [.ref q, .ref f] ∧ QA CQ K H q la lq ns [] ∧ Few ns ∧
  Wp2 ns io 0 [] (fun c qs r => (∀ a, r = some a → a.l.length ≤ 100000) ∧ ∀ (H' : Hp) (p : Addr), Tail H H' q lq c qs → H' p = some (.lst (ansV c r)) → Q (.ref p) H')
def toldV (c : Nat) (qs : List Nat) (r : Option Ans) : List V := .int (c : Int) :: (vI qs ++ ansV c r)
def spTold (K : PySem.W.Frag) (io : Io) (f : Addr) : Sp := fun vs H Q _ => ∃ (la : Addr) (ns : List Nat), vs = [.ref la, .ref f] ∧ SqL K H la (vI ns) ∧ Few ns ∧
  Wp2 ns io 0 [] (fun c qs r => qs.length ≤ 10000 ∧ (∀ a, r = some a → a.l.length ≤ 100000) ∧ ∀ (H' : Hp) (p : Addr), H' p = some (.lst (toldV c qs r)) → Q (.ref p) H')
/-- where each question is one number -/
theorem good_wp {B : Nat} {io : Io} {ns : List Nat} {R : Nat → List Nat → Option Ans → Prop} (g : Good B io 0) (h : Wp2 ns io 0 [] R) : Wp ns io [] (fun qs r => R qs.length qs r) := by
  obtain ⟨h1, _⟩ := g ns
  unfold Wp2 at h
  unfold Wp
  simp only [List.length_nil, List.drop_zero, List.nil_append, Nat.zero_add] at h ⊢
  rw [flat_len h1]
  exact h
/-! ### sums and products as the specification takes them -/
def spMid (CN : Addr) : Sp := fun vs H Q E => ∃ a b : Nat, vs = [.int (a : Int), .int (b : Int)] ∧ (a < 2 ^ 64 ∧ Sv21.finite a = true) ∧ (b < 2 ^ 64 ∧ Sv21.finite b = true) ∧
  if Sv21.finite (Sv21.sub b a) = true then (if Sv21.finite (Sv21.mul (Sv21.sub b a) Sv21.half) = true then
    (if Sv21.finite (Sv21.add a (Sv21.mul (Sv21.sub b a) Sv21.half)) = true then Q (.int ((Sv21.add a (Sv21.mul (Sv21.sub b a) Sv21.half) : Nat) : Int)) H else E (.ref CN) none H) else E (.ref CN) none H) else E (.ref CN) none H
theorem add_lt (x y : Nat) : Sv21.add x y < 2 ^ 64 := by
  rw [add_eq]
  split
  · unfold sg; split <;> decide
  · exact near_lt _ _ _
theorem sub_lt (x y : Nat) : Sv21.sub x y < 2 ^ 64 := add_lt _ _
theorem mul_lt (x y : Nat) : Sv21.mul x y < 2 ^ 64 := by
  rw [mul_eq]
  exact near_lt _ _ _
theorem div_lt {x y : Nat} (h : Sv21.zero y = false) : Sv21.div x y < 2 ^ 64 := by
  rw [div_eq h]
  exact near_lt _ _ _
theorem half_ok : Sv21.half < 2 ^ 64 ∧ Sv21.finite Sv21.half = true := by decide
theorem wp_middle {ns : List Nat} {a b : Nat} {k : Nat → Io} {qs : List Nat} {R : List Nat → Option Ans → Prop} : Wp ns (Sv21.middle a b k) qs R ↔
    (if Sv21.finite (Sv21.sub b a) = true then (if Sv21.finite (Sv21.mul (Sv21.sub b a) Sv21.half) = true then
      (if Sv21.finite (Sv21.add a (Sv21.mul (Sv21.sub b a) Sv21.half)) = true then Wp ns (k (Sv21.add a (Sv21.mul (Sv21.sub b a) Sv21.half))) qs R else R qs (some (Sv21.ok (-4)))) else R qs (some (Sv21.ok (-4)))) else R qs (some (Sv21.ok (-4)))) := by
  unfold Sv21.middle Sv21.less_ Sv21.times Sv21.plus
  rw [wp_need, wp_need, wp_need]
/-- a question that is asked by the program, and what the specification does then -/
theorem ask_of {CN CW CR CO : Addr} {ns : List Nat} {x : Nat} {k : Nat → Io} {qs : List Nat} {H : Hp} {q lq : Addr} {Q Q' : VK} {E : XK} (hx : Sv21.finite x = true) (hn : ∀ y ∈ ns, y < 2 ^ 64) (h : Wp ns (Sv21.question [x] k) qs (EndIs CN CW CR CO H q lq Q E))
    (c : ∀ y, ns[qs.length]? = some y → Sv21.finite y = true → Wp ns (k y) (qs ++ [x]) (EndIs CN CW CR CO H q lq Q E) → Q' (.int (y : Int)) (asks H q lq (qs ++ [x]))) : AskEnd CN CW Q' E (asks H q lq (qs ++ [x])) ns[qs.length]? := by
  rw [wp_question hx hn] at h
  cases e : ns[qs.length]? with
  | none =>
    rw [e] at h
    exact h
  | some y =>
    rw [e] at h
    exact ite_imp h (fun q w => c y e q w) fun _ w => end_fin w
end An
namespace An
open PySem PySem.Spec PyProof.Rows L2
/-! ### whole numbers, quotients -/
def spCount : Sp := fun vs H Q _ => ∃ n : Nat, vs = [.int (n : Int)] ∧ n ≤ 65536 ∧ Q (.int ((Sv21.whole n : Nat) : Int)) H
theorem count_lt {n : Nat} (h : n ≤ 65536) : n < 2 ^ 4000 := Nat.lt_of_le_of_lt (Nat.le_trans h (by decide : 65536 ≤ 2 ^ 17)) (Nat.pow_lt_pow_right (by decide) (by decide))
theorem count_bits {n : Nat} (h0 : n ≠ 0) (h : n ≤ 65536) : 0 < bits n 1074 ∧ bits n 1074 < 9218868437227405312 := by
  have l : n.log2 < 17 := (Nat.log2_lt h0).mpr (by omega)
  have r := rnd_le (m := n) (p := 1074)
  have e : drop n 1074 = (n.log2 : Int) + 1 - 53 := by unfold drop; omega
  unfold bits
  rw [e] at r ⊢
  generalize rnd n ((n.log2 : Int) + 1 - 53) = R at *
  omega
theorem whole_ok {n : Nat} (h : n ≤ 65536) : Sv21.whole n < 2 ^ 64 ∧ Sv21.finite (Sv21.whole n) = true := by
  rw [whole_eq]
  refine ⟨near_lt _ _ _, ?_⟩
  by_cases h0 : n = 0
  · rw [h0, near_zero]
    exact fin_sg false
  · cases z : Sv21.finite (near false n 1074)
    · have := (near_over h0).mp z
      have := (count_bits h0 h).2
      omega
    · rfl
theorem whole_nz {n : Nat} (h0 : n ≠ 0) (h : n ≤ 65536) : Sv21.zero (Sv21.whole n) = false := by
  have b := count_bits h0 h
  have e := near_bits (s := false) h0 b.2
  rw [whole_eq, ← e]
  unfold sg
  rw [if_neg Bool.false_ne_true, Nat.zero_or]
  cases z : Sv21.zero (bits n 1074).toNat
  · rfl
  · have := (zero_iff _).mp z
    unfold Sv21.mag Sv21.TOP at this
    omega
theorem shl108 (v : Nat) : ((v : Nat) : Int) * 2 ^ (108 : Int).toNat = ((v * 2 ^ 108 : Nat) : Int) := by
  rw [Int.natCast_mul, Int.natCast_pow]
  rfl
theorem quo_lt (x y : Nat) : quo x y < 2 ^ 4000 := by
  have hu := units_lt x
  have h1 : Sv21.units x * 2 ^ 108 / Sv21.units y ≤ Sv21.units x * 2 ^ 108 := Nat.div_le_self _ _
  have h2 : quo x y < 2 ^ 163 := by
    unfold quo
    split <;> omega
  exact Nat.lt_of_lt_of_le h2 (Nat.pow_le_pow_right (by decide) (by decide))
theorem quo_val {x y r : Nat} (hr : r = (if Sv21.units x * 2 ^ 108 % Sv21.units y = 0 then 0 else 1)) : ((Sv21.units x * 2 ^ 108 : Nat) : Int) / ((Sv21.units y : Nat) : Int) * 2 + (r : Int) = ((quo x y : Nat) : Int) := by
  unfold quo
  rw [← hr, ← Int.natCast_ediv]
  generalize Sv21.units x * 2 ^ 108 / Sv21.units y = k
  omega
end An

set_option Elab.async false
set_option linter.all false
set_option maxRecDepth 100000
namespace An
open PySem PySem.Spec PyProof.Rows L2
open Sv21 (Io Ans)
/-! ### what is made on the way stays; only the list of the questions grows -/
abbrev Dbl (x : Nat) : Prop := x < 2 ^ 64 ∧ Sv21.finite x = true
def Kept (H H' : Hp) (q lq : Addr) : Prop := ∀ c o, c ≠ q → c ≠ lq → H c = some o → H' c = some o
theorem Kept.refl {H : Hp} {q lq : Addr} : Kept H H q lq := fun _ _ _ _ h => h
theorem Kept.trans {H H' H'' : Hp} {q lq : Addr} (h : Kept H H' q lq) (k : Kept H' H'' q lq) : Kept H H'' q lq := fun c o n1 n2 e => k c o n1 n2 (h c o n1 n2 e)
theorem Kept.asked {H : Hp} {q lq : Addr} {c : Nat} {qs : List Nat} : Kept H (askc H q lq c qs) q lq := fun b _ n1 n2 e => by rw [askc_ne n1 n2]; exact e
theorem Tail.asked {H : Hp} {q lq : Addr} {c : Nat} {qs : List Nat} (n : q ≠ lq) : Tail H (askc H q lq c qs) q lq c qs := ⟨askc_q, askc_l n⟩
theorem Tail.trans {H H' H'' : Hp} {q lq : Addr} {c d : Nat} {qs rs : List Nat} (t : Tail H H' q lq c qs) (u : Tail H' H'' q lq d rs) : Tail H H'' q lq d rs := ⟨by rw [u.1, t.1, recount_recount], u.2⟩
theorem Tail.made {H H' H'' : Hp} {q lq : Addr} {c : Nat} {qs : List Nat} (t : Tail H H' q lq c qs) (k : ∀ b o, H' b = some o → H'' b = some o) : Tail H H'' q lq c qs := ⟨k _ _ t.1, k _ _ t.2⟩
/-- a new instance, laid by its __init__ alone -/
theorem made_keep {H H' : Hp} {p dx : Addr} {o1 o2 : HO} (hp : H p = none) (hd : H dx = none) (k : ∀ c, c ≠ p → H' c = (upd (upd H dx o1) p o2) c) : ∀ c o, H c = some o → H' c = some o := fun c o e => by
  have n1 : c ≠ p := ne_of_none e hp
  have n2 : c ≠ dx := ne_of_none e hd
  rw [k c n1, upd_ne n1, upd_ne n2]
  exact e
theorem Kept.of {H H' : Hp} {q lq : Addr} (h : ∀ c o, H c = some o → H' c = some o) : Kept H H' q lq := fun c o _ _ e => h c o e
theorem sq_kept {K : PySem.W.Frag} {H H' : Hp} {a q lq C dx : Addr} {fs : List (Str × V)} {xs : List V} (h : SqL K H a xs) (hq : H q = some (.ins C dx fs)) (hl : a ≠ lq) (k : Kept H H' q lq) : SqL K H' a xs := by
  rcases h with (h | ⟨ob, h⟩) | h
  · exact .inl (.inl (k _ _ (ne_of h hq (fun z => nomatch z)) hl h))
  · exact .inl (.inr ⟨ob, k _ _ (ne_of h hq (fun z => nomatch z)) hl h⟩)
  · exact .inr h
section
variable {CQ : Addr} {K : PySem.W.Frag} {H H' : Hp} {q la lq : Addr} {ns qs qs' : List Nat} {c c' : Nat}
theorem QC.keptc (A : QC CQ K H q la lq ns c qs) (k : Kept H H' q lq) (t : Tail H H' q lq c' qs') : QC CQ K H' q la lq ns c' qs' := by
  obtain ⟨dx, e⟩ := A.re
  obtain ⟨dx0, e0⟩ := A.ob
  exact ⟨⟨dx, by rw [t.1, e]⟩, sq_kept A.ans e0 A.ne k, t.2, A.ne⟩
theorem QC.kept (A : QC CQ K H q la lq ns c qs) (k : Kept H H' q lq) (t : Tail H H' q lq qs'.length qs') : QA CQ K H' q la lq ns qs' := A.keptc k t
theorem QC.tail (A : QC CQ K H q la lq ns c qs) : Tail H H q lq c qs := by
  obtain ⟨dx, e⟩ := A.re
  obtain ⟨dx0, e0⟩ := A.ob
  refine ⟨?_, A.asked⟩
  rw [e0]
  show some _ = some (HO.ins CQ dx0 _)
  rw [qf_put]
end
def spAsk2 (CQ CN CW : Addr) (K : PySem.W.Frag) : Sp := fun vs H Q E => ∃ (q la lq : Addr) (ns : List Nat) (c : Nat) (qs : List Nat) (x y : Nat), vs = [.ref q, .int (x : Int), .int (y : Int)] ∧ QC CQ K H q la lq ns c qs ∧ qs.length ≤ 2 * c ∧ c ≤ ns.length ∧ ns.length ≤ 3000 ∧
  ∀ H' : Hp, Kept H H' q lq → Tail H H' q lq (c + 1) (qs ++ [x, y]) → AskEnd CN CW Q E H' ns[c]?
/-- a question, whatever is wanted of the end -/
theorem ask_r {CN CW : Addr} {ns : List Nat} {x : Nat} {k : Nat → Io} {qs : List Nat} {H : Hp} {Q' : VK} {E : XK} {R : List Nat → Option Ans → Prop} (hx : Sv21.finite x = true) (hn : ∀ y ∈ ns, y < 2 ^ 64) (h : Wp ns (Sv21.question [x] k) qs R)
    (c0 : R (qs ++ [x]) none → E (.ref CW) none H) (c4 : R (qs ++ [x]) (some (Sv21.ok (-4))) → E (.ref CN) none H) (c : ∀ y, Dbl y → (qs ++ [x]).length ≤ ns.length → Wp ns (k y) (qs ++ [x]) R → Q' (.int (y : Int)) H) : AskEnd CN CW Q' E H ns[qs.length]? := by
  rw [wp_question hx hn] at h
  cases e : ns[qs.length]? with
  | none =>
    rw [e] at h
    exact c0 h
  | some y =>
    rw [e] at h
    have hl : qs.length < ns.length := (List.getElem?_eq_some_iff.mp e).1
    exact ite_imp h (fun q w => c y ⟨hn y (List.mem_of_getElem? e), q⟩ (by rw [List.length_append, List.length_singleton]; omega) w) fun _ w => c4 w
/-! ### a piece -/
def pf (a m b fa fm fb s : Nat) : List (Str × V) := putF "estimate" (.int (s : Int)) (putF "at_b" (.int (fb : Int)) (putF "at_m" (.int (fm : Int)) (putF "at_a" (.int (fa : Int)) (putF "b" (.int (b : Int)) (putF "m" (.int (m : Int)) (putF "a" (.int (a : Int)) []))))))
section
variable {a m b fa fm fb s : Nat}
theorem pf_s : (pf a m b fa fm fb s).lookup ("estimate" : Str) = some (.int (s : Int)) := by
  unfold pf; rw [lookup_putF, if_pos rfl]
theorem pf_fb : (pf a m b fa fm fb s).lookup ("at_b" : Str) = some (.int (fb : Int)) := by
  unfold pf; rw [lookup_putF, if_neg (by decide +kernel), lookup_putF, if_pos rfl]
theorem pf_fm : (pf a m b fa fm fb s).lookup ("at_m" : Str) = some (.int (fm : Int)) := by
  unfold pf; rw [lookup_putF, if_neg (by decide +kernel), lookup_putF, if_neg (by decide +kernel), lookup_putF, if_pos rfl]
theorem pf_fa : (pf a m b fa fm fb s).lookup ("at_a" : Str) = some (.int (fa : Int)) := by
  unfold pf; rw [lookup_putF, if_neg (by decide +kernel), lookup_putF, if_neg (by decide +kernel), lookup_putF, if_neg (by decide +kernel), lookup_putF, if_pos rfl]
theorem pf_b : (pf a m b fa fm fb s).lookup ("b" : Str) = some (.int (b : Int)) := by
  unfold pf; rw [lookup_putF, if_neg (by decide +kernel), lookup_putF, if_neg (by decide +kernel), lookup_putF, if_neg (by decide +kernel), lookup_putF, if_neg (by decide +kernel), lookup_putF, if_pos rfl]
theorem pf_m : (pf a m b fa fm fb s).lookup ("m" : Str) = some (.int (m : Int)) := by
  unfold pf; rw [lookup_putF, if_neg (by decide +kernel), lookup_putF, if_neg (by decide +kernel), lookup_putF, if_neg (by decide +kernel), lookup_putF, if_neg (by decide +kernel), lookup_putF, if_neg (by decide +kernel), lookup_putF, if_pos rfl]
theorem pf_a : (pf a m b fa fm fb s).lookup ("a" : Str) = some (.int (a : Int)) := by
  unfold pf; rw [lookup_putF, if_neg (by decide +kernel), lookup_putF, if_neg (by decide +kernel), lookup_putF, if_neg (by decide +kernel), lookup_putF, if_neg (by decide +kernel), lookup_putF, if_neg (by decide +kernel), lookup_putF, if_neg (by decide +kernel), lookup_putF, if_pos rfl]
end
theorem pc_ne {CP dx CQ : Addr} {K : PySem.W.Frag} {H : Hp} {pc q la lq : Addr} {ns qs : List Nat} {c a m b fa fm fb s : Nat} (h : H pc = some (.ins CP dx (pf a m b fa fm fb s))) (A : QC CQ K H q la lq ns c qs) : pc ≠ q := fun z => by
  obtain ⟨dq, e⟩ := A.ob
  rw [z, e] at h
  injection h with h
  injection h with _ _ h
  have e1 : (qf la lq c).lookup ("estimate" : Str) = none := qf_no la lq (by decide +kernel) (by decide +kernel) (by decide +kernel)
  rw [h, pf_s] at e1
  cases e1
theorem putF_len (f : Str) (v : V) : ∀ fs : List (Str × V), (putF f v fs).length ≤ fs.length + 1
  | [] => Nat.le_refl _
  | (g, x) :: r => by
    unfold putF
    split
    · exact Nat.le_succ _
    · exact Nat.succ_le_succ (putF_len f v r)
theorem putF_lt {f : Str} {v : V} {fs : List (Str × V)} {n : Nat} (h : fs.length < n) : (putF f v fs).length < n + 1 := Nat.lt_of_le_of_lt (putF_len f v fs) (Nat.succ_lt_succ h)
/-! ### an estimate -/
def Simp (a b fa fm fb : Nat) (T : Nat → Prop) (F : Prop) : Prop :=
  if Sv21.finite (Sv21.mul (Sv21.whole 4) fm) = true then if Sv21.finite (Sv21.add fa (Sv21.mul (Sv21.whole 4) fm)) = true then if Sv21.finite (Sv21.add (Sv21.add fa (Sv21.mul (Sv21.whole 4) fm)) fb) = true then
    if Sv21.finite (Sv21.sub b a) = true then if Sv21.finite (Sv21.div (Sv21.sub b a) (Sv21.whole 6)) = true then
      if Sv21.finite (Sv21.mul (Sv21.add (Sv21.add fa (Sv21.mul (Sv21.whole 4) fm)) fb) (Sv21.div (Sv21.sub b a) (Sv21.whole 6))) = true then T (Sv21.mul (Sv21.add (Sv21.add fa (Sv21.mul (Sv21.whole 4) fm)) fb) (Sv21.div (Sv21.sub b a) (Sv21.whole 6)))
      else F else F else F else F else F else F
theorem wp_simpson {ns : List Nat} {a b fa fm fb : Nat} {k : Nat → Io} {qs : List Nat} {R : List Nat → Option Ans → Prop} : Wp ns (Sv21.simpson a b fa fm fb k) qs R ↔ Simp a b fa fm fb (fun s => Wp ns (k s) qs R) (R qs (some (Sv21.ok (-4)))) := by
  unfold Sv21.simpson Simp
  rw [wp_times, wp_plus, wp_plus, wp_less, wp_over, wp_times]
theorem simp_mono {a b fa fm fb : Nat} {T T' : Nat → Prop} {F F' : Prop} (h : Simp a b fa fm fb T F) (k1 : ∀ s, Dbl s → T s → T' s) (k2 : F → F') : Simp a b fa fm fb T' F' := by
  unfold Simp at h ⊢
  exact ite_imp h (fun _ h => ite_imp h (fun _ h => ite_imp h (fun _ h => ite_imp h (fun _ h => ite_imp h (fun _ h => ite_imp h (fun g h => k1 _ ⟨mul_lt _ _, g⟩ h) fun _ => k2) fun _ => k2) fun _ => k2) fun _ => k2) fun _ => k2) fun _ => k2
theorem four_eq : (4616189618054758400 : Nat) = Sv21.whole 4 := by decide
theorem six_eq : (4618441417868443648 : Nat) = Sv21.whole 6 := by decide
theorem fifteen_eq : (4624633867356078080 : Nat) = Sv21.whole 15 := by decide
/-! ### above 0 -/
theorem less_zero (e : Nat) : Sv21.less 0 e = !(Sv21.zero e || Sv21.minus e) := by
  rw [less_rank]
  have e0 : rank 0 = 0 := by decide
  rw [e0]
  unfold rank
  by_cases z : Sv21.mag e = 0
  · rw [(zero_iff e).mpr z, z]
    cases Sv21.minus e <;> rfl
  · have h1 : Sv21.zero e = false := by
      cases h1 : Sv21.zero e
      · rfl
      · exact absurd ((zero_iff e).mp h1) z
    rw [h1]
    cases Sv21.minus e
    · rw [if_neg Bool.false_ne_true]
      exact decide_eq_true (by omega)
    · rw [if_pos rfl]
      exact decide_eq_false (by omega)
/-! ### ends -/
section
variable {CN CW CR CO : Addr} {H : Hp} {q lq : Addr} {Q : VK} {E : XK} {qs l : List Nat} {c n : Nat}
theorem endc_two (h : EndC CN CW CR CO H q lq Q E c qs (some (Sv21.ok (-2)))) : ∀ H' : Hp, Tail H H' q lq c qs → E (.ref CR) none H' := h
theorem endc_fin (h : EndC CN CW CR CO H q lq Q E c qs (some (Sv21.ok (-4)))) : ∀ H' : Hp, Tail H H' q lq c qs → E (.ref CN) none H' := h
theorem endc_out (h : EndC CN CW CR CO H q lq Q E c qs (some ⟨(n : Int), l⟩)) : ∀ (H' : Hp) (p : Addr), Tail H H' q lq c qs → H' p = some (L l) → Q (.ref p) H' := by
  unfold EndC at h
  dsimp only at h
  rw [if_neg (by omega), if_neg (by omega), if_neg (by omega)] at h
  exact h
theorem endg_two (h : EndG CN CW CR CO H q lq Q E qs (some (Sv21.ok (-2)))) : ∀ H' : Hp, Tail H H' q lq qs.length qs → E (.ref CR) none H' := h
theorem endg_fin (h : EndG CN CW CR CO H q lq Q E qs (some (Sv21.ok (-4)))) : ∀ H' : Hp, Tail H H' q lq qs.length qs → E (.ref CN) none H' := h
theorem endg_out (h : EndG CN CW CR CO H q lq Q E qs (some ⟨(n : Int), l⟩)) : ∀ (H' : Hp) (p : Addr), Tail H H' q lq qs.length qs → H' p = some (L l) → Q (.ref p) H' := endc_out h
end
/-! ### the rest of a piece -/
def pieceRest (d e a m b fa fm fb n : Nat) (k : Nat → Nat → Io) (l r fl fr s1 s2 t D e15 : Nat) : Io :=
  if d = 0 ∨ Sv21.less e15 (Sv21.mag D) = false then Sv21.over D (Sv21.whole 15) fun c => Sv21.plus t c fun r => k r (n + 2)
  else Sv21.times e Sv21.half fun e2 => Sv21.piece (d - 1) e2 a l m fa fl fm s1 (n + 2) fun x n => Sv21.piece (d - 1) e2 m r b fm fr fb s2 n fun y n => Sv21.plus x y fun z => k z n
theorem piece_eq (d e a m b fa fm fb s n : Nat) (k : Nat → Nat → Io) : Sv21.piece d e a m b fa fm fb s n k = pieceTo e a m b fa fm fb s (pieceRest d e a m b fa fm fb n k) := by
  cases d with
  | zero =>
    rw [piece_zero]
    congr 1
  | succ d =>
    rw [piece_succ]
    congr 1
    funext l r fl fr s1 s2 t D e15
    unfold pieceRest
    by_cases c : Sv21.less e15 (Sv21.mag D) = false
    · rw [if_pos c, if_pos (.inr c)]
    · rw [if_neg c, if_neg (fun z => by rcases z with z | z; exact Nat.succ_ne_zero d z; exact c z)]
      rfl
end An

set_option Elab.async false
set_option linter.all false
set_option maxRecDepth 100000
namespace An
open PySem PySem.Spec PyProof.Rows L2
open PySem.W (WData)
open Sv21 (Io Ans)
theorem tabIn_mk {K : PySem.W.Frag} {x : Str} {f c Pt : Addr} {oc oc2 : Value} {od od2 : Option Addr} {fd : FuncData} {osl sl2 : Array (Option Value)} {vs : Array Value} (a : PySem.W.nsIn K mainGlobals x = some (some (.ref f))) (l : K.lookup f = some ⟨oc, od, .func fd, osl⟩) (hc : fd.code = .ref c)
    (lc : K.lookup c = some ⟨oc2, od2, .fields vs, sl2⟩) (hv : (vs[11]? : Option Value) = some (.ref Pt)) : PySem.W.tabIn K x = some (c, Pt) := by
  unfold PySem.W.tabIn
  simp only [a, l, hc, lc, hv]
theorem vI_of {l : List Int} (h : ∀ x ∈ l, 0 ≤ x) : vI (l.map Int.toNat) = l.map V.int := by
  unfold vI
  rw [List.map_map]
  refine List.map_congr_left fun x hx => ?_
  show V.int ((x.toNat : Nat) : Int) = V.int x
  rw [Int.toNat_of_nonneg (h x hx)]
theorem vI_int (l : List Nat) : vI l = (Sv21Neutral.whole l).map V.int := by
  unfold vI Sv21Neutral.whole
  rw [List.map_map]
  rfl
theorem few_of {l : List Int} (hl : l.length ≤ 3000) (h : ∀ x ∈ l, 0 ≤ x ∧ x ≤ 18446744073709551615) : Few (l.map Int.toNat) := by
  refine ⟨by rw [List.length_map]; exact hl, fun y hy => ?_⟩
  obtain ⟨x, hx, rfl⟩ := List.mem_map.mp hy
  have := h x hx
  omega
theorem sq_ne {K : PySem.W.Frag} {H : Hp} {a b : Addr} {xs : List V} (h : SqL K H a xs) (hn : H b = none) (hk : K.lookup b = none) : a ≠ b := fun z => by
  rcases h with (e | ⟨ob, e⟩) | ⟨o, its, n, e, _⟩
  · rw [z, hn] at e; cases e
  · rw [z, hn] at e; cases e
  · rw [z, hk] at e; cases e
/-- few questions; the end is a refusal or tells how many there were -/
structure GoodX (B : Nat) (io : Io) (ns : List Nat) : Prop where
  few : (Sv21.play io ns).1.flatten.length ≤ 10000
  last : ∀ a, (Sv21.play io ns).2 = some a → ((a.v = -2 ∨ a.v = -4 ∨ a.v = -5) ∧ a.l = []) ∨ (a.v = ((Sv21.play io ns).1.length : Int) ∧ a.l.length ≤ B)
theorem Good.x {B : Nat} {io : Io} {ns : List Nat} (g : Good B io 0) (hns : Few ns) : GoodX B io ns := by
  obtain ⟨h1, h2, h3⟩ := g ns
  have hl := hns.len
  refine ⟨by rw [flat_len h1]; omega, fun a e => ?_⟩
  rcases h3 a e with z | ⟨z1, z2⟩
  · exact .inl z
  · exact .inr ⟨by rw [z1, Nat.zero_add], z2⟩
theorem Good2.x {B : Nat} {io : Io} {ns : List Nat} (g : Good2 B io 0) (hns : Few ns) : GoodX B io ns := by
  obtain ⟨h1, h2, h3⟩ := g ns
  have hl := hns.len
  refine ⟨by rw [flat2_len h1]; omega, fun a e => ?_⟩
  rcases h3 a e with z | ⟨z1, z2⟩
  · exact .inl z
  · exact .inr ⟨by rw [z1, Nat.zero_add], z2⟩
/-- what told gives back is the specification's list -/
theorem told_end {K : PySem.W.Frag} {B : Nat} {io : Io} {ns : List Nat} (g : GoodX B io ns) (hB : B ≤ 100000) :
    Wp2 ns io 0 [] (fun c qs r => qs.length ≤ 10000 ∧ (∀ a, r = some a → a.l.length ≤ 100000) ∧ ∀ (H' : Hp) (p : Addr), H' p = some (.lst (toldV c qs r)) →
      Dw K H' (.ref p) (.list ((toldI (Sv21.play io ns).1.length (Sv21.play io ns).1.flatten (Sv21.play io ns).2).map WData.int))) := by
  obtain ⟨h2, h3⟩ := g
  unfold Wp2
  simp only [List.drop_zero, List.nil_append, Nat.zero_add]
  refine ⟨h2, fun a e => ?_, fun H' p hp => ?_⟩
  · rcases h3 a e with ⟨_, z⟩ | ⟨_, z⟩
    · rw [z]; exact Nat.zero_le _
    · exact Nat.le_trans z hB
  · have ev : toldV (Sv21.play io ns).1.length (Sv21.play io ns).1.flatten (Sv21.play io ns).2 = (toldI (Sv21.play io ns).1.length (Sv21.play io ns).1.flatten (Sv21.play io ns).2).map V.int := by
      unfold toldV toldI
      rw [List.map_cons, List.map_append, vI_int]
      refine congrArg _ (congrArg _ ?_)
      unfold ansV
      cases e : (Sv21.play io ns).2 with
      | none => rfl
      | some a =>
        dsimp only
        rcases h3 a e with ⟨z1, z2⟩ | ⟨z1, z2⟩
        · rw [if_pos z1, z2]
          rfl
        · rw [if_neg (by omega), vI_int, List.map_cons, z1]
    rw [ev] at hp
    exact .lst (SqL.of hp) (dw_ints _)
end An

set_option Elab.async false
set_option linter.all false
set_option maxRecDepth 100000
set_option maxHeartbeats 4000000
namespace An
open PySem PySem.Spec PyProof.Rows L2
def top (i : Nat) : Stmt := PySem.Challenge.pw_askednumbers_s03_rough.main.body.getD i (.Pass ⟨0, 0, 0, 0⟩)
abbrev s__wall : Stmt := top 0
theorem sc__wall : FnScope ["k"] ["k"] (defScope s__wall) := ⟨rfl, rfl, rfl, by decide +kernel, rfl, by decide +kernel, by decide +kernel⟩
abbrev s_finite : Stmt := top 8
theorem sc_finite : FnScope ["x"] ["x"] (defScope s_finite) := ⟨rfl, rfl, rfl, by decide +kernel, rfl, by decide +kernel, by decide +kernel⟩
abbrev s_sign_of : Stmt := top 9
theorem sc_sign_of : FnScope ["x"] ["x"] (defScope s_sign_of) := ⟨rfl, rfl, rfl, by decide +kernel, rfl, by decide +kernel, by decide +kernel⟩
abbrev s_without_sign : Stmt := top 10
theorem sc_without_sign : FnScope ["x"] ["x"] (defScope s_without_sign) := ⟨rfl, rfl, rfl, by decide +kernel, rfl, by decide +kernel, by decide +kernel⟩
abbrev s_is_zero : Stmt := top 11
theorem sc_is_zero : FnScope ["x"] ["x"] (defScope s_is_zero) := ⟨rfl, rfl, rfl, by decide +kernel, rfl, by decide +kernel, by decide +kernel⟩
abbrev s_rank_of : Stmt := top 12
theorem sc_rank_of : FnScope ["x"] ["x"] (defScope s_rank_of) := ⟨rfl, rfl, rfl, by decide +kernel, rfl, by decide +kernel, by decide +kernel⟩
abbrev s_less : Stmt := top 13
theorem sc_less : FnScope ["x", "y"] ["x", "y"] (defScope s_less) := ⟨rfl, rfl, rfl, by decide +kernel, rfl, by decide +kernel, by decide +kernel⟩
abbrev s_power_of : Stmt := top 14
theorem sc_power_of : FnScope ["x"] ["x"] (defScope s_power_of) := ⟨rfl, rfl, rfl, by decide +kernel, rfl, by decide +kernel, by decide +kernel⟩
abbrev s_size_of : Stmt := top 15
theorem sc_size_of : FnScope ["x"] ["x"] (defScope s_size_of) := ⟨rfl, rfl, rfl, by decide +kernel, rfl, by decide +kernel, by decide +kernel⟩
abbrev s_signed_size : Stmt := top 16
theorem sc_signed_size : FnScope ["x", "power", "size"] ["x", "power"] (defScope s_signed_size) := ⟨rfl, rfl, rfl, by decide +kernel, rfl, by decide +kernel, by decide +kernel⟩
abbrev s_rounded : Stmt := top 17
theorem sc_rounded : FnScope ["size", "drop", "kept", "rest", "half"] ["size", "drop"] (defScope s_rounded) := ⟨rfl, rfl, rfl, by decide +kernel, rfl, by decide +kernel, by decide +kernel⟩
abbrev s_nearest : Stmt := top 18
theorem sc_nearest : FnScope ["sign", "size", "power", "drop", "bits"] ["sign", "size", "power"] (defScope s_nearest) := ⟨rfl, rfl, rfl, by decide +kernel, rfl, by decide +kernel, by decide +kernel⟩
abbrev s_plus : Stmt := top 19
theorem sc_plus : FnScope ["x", "y", "power", "total"] ["x", "y"] (defScope s_plus) := ⟨rfl, rfl, rfl, by decide +kernel, rfl, by decide +kernel, by decide +kernel⟩
abbrev s_minus : Stmt := top 20
theorem sc_minus : FnScope ["x", "y"] ["x", "y"] (defScope s_minus) := ⟨rfl, rfl, rfl, by decide +kernel, rfl, by decide +kernel, by decide +kernel⟩
abbrev s_times : Stmt := top 21
theorem sc_times : FnScope ["x", "y"] ["x", "y"] (defScope s_times) := ⟨rfl, rfl, rfl, by decide +kernel, rfl, by decide +kernel, by decide +kernel⟩
abbrev s_divided : Stmt := top 22
theorem sc_divided : FnScope ["x", "y", "widened", "rest", "size"] ["x", "y"] (defScope s_divided) := ⟨rfl, rfl, rfl, by decide +kernel, rfl, by decide +kernel, by decide +kernel⟩
abbrev s_Questions_init : Stmt := inClass (top 33) 0
theorem sc_Questions_init : FnScope ["self", "answers"] ["self", "answers"] (defScope s_Questions_init) := ⟨rfl, rfl, rfl, by decide +kernel, rfl, by decide +kernel, by decide +kernel⟩
abbrev s_Questions_ask : Stmt := inClass (top 33) 1
theorem sc_Questions_ask : FnScope ["self", "x"] ["self", "x"] (defScope s_Questions_ask) := ⟨rfl, rfl, rfl, by decide +kernel, rfl, by decide +kernel, by decide +kernel⟩
abbrev s_Questions_ask_two : Stmt := inClass (top 33) 2
theorem sc_Questions_ask_two : FnScope ["self", "x", "y"] ["self", "x", "y"] (defScope s_Questions_ask_two) := ⟨rfl, rfl, rfl, by decide +kernel, rfl, by decide +kernel, by decide +kernel⟩
abbrev s_Questions_answered : Stmt := inClass (top 33) 3
theorem sc_Questions_answered : FnScope ["self", "place"] ["self"] (defScope s_Questions_answered) := ⟨rfl, rfl, rfl, by decide +kernel, rfl, by decide +kernel, by decide +kernel⟩
abbrev s_Piece_init : Stmt := inClass (top 34) 0
theorem sc_Piece_init : FnScope ["self", "a", "m", "b", "at_a", "at_m", "at_b", "heights"] ["self", "a", "m", "b", "at_a", "at_m", "at_b"] (defScope s_Piece_init) := ⟨rfl, rfl, rfl, by decide +kernel, rfl, by decide +kernel, by decide +kernel⟩
abbrev s_answer_of : Stmt := top 35
theorem sc_answer_of : FnScope ["questions", "reckon", "out"] ["questions", "reckon"] (defScope s_answer_of) := ⟨rfl, rfl, rfl, by decide +kernel, rfl, by decide +kernel, by decide +kernel⟩
abbrev s_told : Stmt := top 36
theorem sc_told : FnScope ["answers", "reckon", "questions", "answer"] ["answers", "reckon"] (defScope s_told) := ⟨rfl, rfl, rfl, by decide +kernel, rfl, by decide +kernel, by decide +kernel⟩
abbrev s_middle : Stmt := top 37
theorem sc_middle : FnScope ["a", "b"] ["a", "b"] (defScope s_middle) := ⟨rfl, rfl, rfl, by decide +kernel, rfl, by decide +kernel, by decide +kernel⟩
abbrev s_rough : Stmt := top 38
theorem sc_rough : FnScope ["a", "b", "near", "answers"] ["a", "b", "near", "answers"] (defScope s_rough) := ⟨rfl, rfl, rfl, by decide +kernel, rfl, by decide +kernel, by decide +kernel⟩
abbrev s_rough_out : Stmt := top 39
theorem sc_rough_out : FnScope ["questions", "a", "b", "near", "m", "at_a", "at_m", "at_b", "whole"] ["questions", "a", "b", "near"] (defScope s_rough_out) := ⟨rfl, rfl, rfl, by decide +kernel, rfl, by decide +kernel, by decide +kernel⟩
abbrev s_area_of_piece : Stmt := top 40
theorem sc_area_of_piece : FnScope ["questions", "piece", "near", "deep", "l", "r", "at_l", "at_r", "left", "right", "both", "change", "allowed", "nearer", "left_area", "right_area"] ["questions", "piece", "near", "deep"] (defScope s_area_of_piece) := ⟨rfl, rfl, rfl, by decide +kernel, rfl, by decide +kernel, by decide +kernel⟩
structure Txt (K : PySem.W.Frag) (mg : Str → Option Value) (CN CW CR : Addr) : Prop where
  sgn : ∃ t, mg "SIGN_BIT" = some (.int 9223372036854775808 t)
  inf : ∃ t, mg "INFINITY" = some (.int 9218868437227405312 t)
  frac : ∃ t, mg "FRACTION_BITS" = some (.int 4503599627370495 t)
  hid : ∃ t, mg "HIDDEN_BIT" = some (.int 4503599627370496 t)
  one : ∃ t, mg "POWER_OF_ONE" = some (.int 1074 t)
  cN : IsExc K CN
  mN : mg "NotFinite" = some (.ref CN)
  cW : IsExc K CW
  mW : mg "AnswerWanting" = some (.ref CW)
  cR : IsExc K CR
  mR : mg "OutOfBounds" = some (.ref CR)
  mx : mg "max" = none
  mn : mg "min" = none
  ab : mg "abs" = none
  ln : mg "len" = none
  rg : mg "range" = none
section
variable {P : Program} {w : World} {K : PySem.W.Frag} {mg : Str → Option Value} {base : Heap} {CN CW CR : Addr}
theorem ok_finite {f : Addr} {fd : FuncData} (F : Fun K "finite" "finite" s_finite f fd) (T : Txt K mg CN CW CR) : FnOk P w K mg base (CX1 P w) 1 f fd ["x"] (spFin CN) := by
  refine F.ok1 (k := 0) sc_finite (fun vs H Q E h => ?_) (fun cdv A outer s H vs Q E hr h => ?_)
  · obtain ⟨x, rfl, _⟩ := h
    rfl
  · obtain ⟨x, rfl, h⟩ := h
    refine ⟨_, pss_cons (ps_if (pt_cmpR op_eq (pe_op op_and (pv 0) (pe_gi T.inf rfl)) (pe_gi T.inf rfl) (nomark _)) (pss_one (ps_raise T.cN rfl T.mN hr.hd)) pss_nil) (pss_one (ps_ret (pv 0))), ?_⟩
    refine ⟨_, rfl, _, _, rfl, rfl, rfl, _, rfl, ?_⟩
    rw [fin_dec]
    cases hx : Sv21.finite x
    · rw [hx, if_neg Bool.false_ne_true] at h
      exact iteT h
    · rw [hx, if_pos rfl] at h
      exact iteF ⟨_, rfl, h⟩
theorem ok_sign_of {f : Addr} {fd : FuncData} (F : Fun K "sign_of" "sign_of" s_sign_of f fd) (T : Txt K mg CN CW CR) : FnOk P w K mg base (CX1 P w) 1 f fd ["x"] spSign := by
  refine F.ok1 (k := 0) sc_sign_of (fun vs H Q E h => ?_) (fun cdv A outer s H vs Q E hr h => ?_)
  · obtain ⟨x, rfl, _⟩ := h
    rfl
  · obtain ⟨x, rfl, hx, h⟩ := h
    refine ⟨_, pss_one (ps_ret (pe_op op_and (pv 0) (pe_gi T.sgn rfl))), ?_⟩
    refine ⟨_, rfl, _, _, rfl, rfl, ?_⟩
    dsimp only
    rw [band_sgn hx]
    exact h
theorem ok_power_of {f : Addr} {fd : FuncData} (F : Fun K "power_of" "power_of" s_power_of f fd) (T : Txt K mg CN CW CR) : FnOk P w K mg base (CX1 P w) 1 f fd ["x"] spPow := by
  refine F.ok1 (k := 0) sc_power_of (fun vs H Q E h => ?_) (fun cdv A outer s H vs Q E hr h => ?_)
  · obtain ⟨x, rfl, _⟩ := h
    rfl
  · obtain ⟨x, rfl, h⟩ := h
    refine ⟨_, pss_one (ps_ret (pe_op op_sub (pe_callB (call_max2 rfl) rfl T.mx L2.boot_max (pa_cons (pe_op op_shr (pe_op op_and (pv 0) (pe_gi T.inf rfl)) pe_int) (pa_cons pe_int pa_nil))) pe_int)), ?_⟩
    refine ⟨_, rfl, _, _, rfl, rfl, _, _, rfl, rfl, (by show (0 : Int) ≤ 52; decide), _, _, rfl, _, _, rfl, rfl, ?_⟩
    dsimp only
    rw [pow_int]
    exact h
theorem ok_size_of {f : Addr} {fd : FuncData} (F : Fun K "size_of" "size_of" s_size_of f fd) (T : Txt K mg CN CW CR) : FnOk P w K mg base (CX1 P w) 1 f fd ["x"] spSize := by
  refine F.ok1 (k := 0) sc_size_of (fun vs H Q E h => ?_) (fun cdv A outer s H vs Q E hr h => ?_)
  · obtain ⟨x, rfl, _⟩ := h
    rfl
  · obtain ⟨x, rfl, h⟩ := h
    refine ⟨_, pss_cons (ps_if (pt_cmpR op_eq (pe_op op_and (pv 0) (pe_gi T.inf rfl)) pe_int (nomark _)) (pss_one (ps_ret (pe_op op_and (pv 0) (pe_gi T.frac rfl)))) pss_nil) (pss_one (ps_ret (pe_op op_or (pe_op op_and (pv 0) (pe_gi T.frac rfl)) (pe_gi T.hid rfl)))), ?_⟩
    refine ⟨_, rfl, _, _, rfl, rfl, rfl, _, rfl, ?_⟩
    rw [exp_dec]
    have e := units_eq x
    by_cases z : Sv21.mag x / 2 ^ 52 = 0
    · rw [if_pos z] at e
      rw [decide_eq_true z]
      refine iteT ⟨_, rfl, _, _, rfl, rfl, ?_⟩
      dsimp only
      rw [band_frac, ← e]
      exact h
    · rw [if_neg z] at e
      rw [decide_eq_false z]
      refine iteF ⟨_, rfl, _, _, rfl, rfl, _, _, rfl, rfl, ?_⟩
      dsimp only
      rw [bor_hid, ← e]
      exact h
theorem ok_signed_size {f : Addr} {fd : FuncData} (F : Fun K "signed_size" "signed_size" s_signed_size f fd) (G1 : FnR P w K mg base 1 "size_of" ["x"] spSize) (G2 : FnR P w K mg base 1 "power_of" ["x"] spPow) (G3 : FnR P w K mg base 1 "sign_of" ["x"] spSign) :
    FnOk P w K mg base (CX1 P w) 2 f fd ["x", "power"] spSS := by
  refine F.ok1 (k := 1) sc_signed_size (fun vs H Q E h => ?_) (fun cdv A outer s H vs Q E hr h => ?_)
  · obtain ⟨x, p, rfl, _⟩ := h
    rfl
  · obtain ⟨x, p, rfl, hx, hp, h⟩ := h
    refine ⟨_, pss_cons (ps_set (i := 2) sc_signed_size.nd rfl (Or.inl rfl) (pe_op op_shl (pe_fn G1 hr rfl thrC (pa_cons (pv 0) pa_nil)) (pe_op op_sub (pe_fn G2 hr rfl thrC (pa_cons (pv 0) pa_nil)) (pv 1))))
      (pss_one (ps_ret (pe_ifExp (pt_truth (pe_fn G3 hr rfl thrC (pa_cons (pv 0) pa_nil)) (fun _ => rfl)) (pe_un un_neg (pv 2)) (pv 2)))), ?_⟩
    have hu := units_lt x
    have hpw := pw_le' x
    refine ⟨_, rfl, x, rfl, _, rfl, x, rfl, _, rfl, _, _, rfl, rfl, _, _, rfl, rfl, ⟨by omega, by omega, by omega⟩, ?_⟩
    refine ⟨_, rfl, x, rfl, hx, _, rfl, ?_⟩
    have e1 : (((pw x : Nat) : Int) - (p : Int)).toNat = pw x - p := by omega
    dsimp only
    rw [e1]
    unfold Sv21.amount at h
    cases hm : Sv21.minus x
    · rw [hm, if_neg Bool.false_ne_true] at h
      exact iteF ⟨_, rfl, h⟩
    · rw [hm, if_pos rfl, Int.neg_mul] at h
      exact iteT ⟨_, rfl, _, rfl, h⟩
theorem ok_rounded {f : Addr} {fd : FuncData} (F : Fun K "rounded" "rounded" s_rounded f fd) : FnOk P w K mg base (CX1 P w) 1 f fd ["size", "drop"] spRnd := by
  refine F.ok1 (k := 0) sc_rounded (fun vs H Q E h => ?_) (fun cdv A outer s H vs Q E hr h => ?_)
  · obtain ⟨m, d, rfl, _⟩ := h
    rfl
  · obtain ⟨m, d, rfl, h1, h2, h3, h4, h⟩ := h
    refine ⟨_, pss_cons (ps_if (pt_cmpR op_le (pv 1) pe_int (nomark _)) (pss_one (ps_ret (pe_op op_shl (pv 0) (pe_un un_neg (pv 1))))) pss_nil)
      (pss_cons (ps_set (i := 2) sc_rounded.nd rfl (Or.inl rfl) (pe_op op_shr (pv 0) (pv 1)))
      (pss_cons (ps_set (i := 3) sc_rounded.nd rfl (Or.inl rfl) (pe_op op_sub (pv 0) (pe_op op_shl (pv 2) (pv 1))))
      (pss_cons (ps_set (i := 4) sc_rounded.nd rfl (Or.inl rfl) (pe_op op_shl pe_int (pe_op op_sub (pv 1) pe_int)))
      (pss_cons (ps_if (pw_or (pt_cmpR op_gt (pv 3) (pv 4) (nomark _)) (pw_or1 (pw_and (pt_cmpR op_eq (pv 3) (pv 4) (nomark _)) (pw_and1 (pt_cmpR op_eq (pe_op op_mod (pv 2) pe_int) pe_int (nomark _)))).pt)).pt
        (pss_one (ps_ret (pe_op op_add (pv 2) pe_int))) pss_nil)
      (pss_one (ps_ret (pv 2))))))), ?_⟩
    refine ⟨_, rfl, _, _, rfl, rfl, _, rfl, ?_⟩
    by_cases hd : d ≤ 0
    · rw [decide_eq_true hd]
      refine iteT ⟨_, rfl, _, rfl, _, rfl, _, _, rfl, rfl, ⟨by omega, by omega, ?_⟩, ?_⟩
      · have := h3 hd
        omega
      · dsimp only
        rw [rnd_neg hd]
        exact h
    · rw [decide_eq_false hd]
      obtain ⟨n, rfl⟩ : ∃ n : Nat, d = (n : Int) := ⟨d.toNat, by omega⟩
      have h4' : m / 2 ^ n < 2 ^ 64 := by
        have z := h4 (by omega)
        rw [Int.toNat_natCast] at z
        exact z
      have er := rnd_pos (m := m) (d := (n : Int)) (by omega)
      rw [Int.toNat_natCast] at er
      refine iteF ⟨_, rfl, _, rfl, _, _, rfl, rfl, (by omega), ?_⟩
      dsimp only
      rw [shr_nat]
      refine ⟨_, rfl, _, rfl, _, rfl, _, _, rfl, rfl, ⟨by omega, by omega, by rw [Int.natAbs_natCast]; exact h4'⟩, _, _, rfl, rfl, ?_⟩
      dsimp only
      rw [shl_nat]
      refine ⟨_, rfl, _, _, rfl, rfl, _, _, rfl, rfl, ⟨by omega, by omega, by decide⟩, ?_⟩
      have en : ((n : Int) - 1).toNat = n - 1 := by omega
      dsimp only
      rw [en]
      have hle : m / 2 ^ n * 2 ^ n ≤ m := Nat.div_mul_le_self m (2 ^ n)
      have p2 : (1 : Int) * 2 ^ (n - 1) = ((2 ^ (n - 1) : Nat) : Int) := by rw [Int.one_mul, Int.natCast_pow]; rfl
      rw [p2]
      refine ⟨_, rfl, _, rfl, _, _, rfl, rfl, _, rfl, ?_⟩
      by_cases c1 : 2 ^ (n - 1) < m - m / 2 ^ n * 2 ^ n
      · rw [if_pos (.inl c1)] at er
        have q : ((2 ^ (n - 1) : Nat) : Int) < (m : Int) - ((m / 2 ^ n * 2 ^ n : Nat) : Int) := by omega
        rw [decide_eq_true q]
        refine iteT (iteT ⟨_, rfl, _, _, rfl, rfl, ?_⟩)
        rw [er] at h
        exact h
      · have q : ¬ ((2 ^ (n - 1) : Nat) : Int) < (m : Int) - ((m / 2 ^ n * 2 ^ n : Nat) : Int) := by omega
        rw [decide_eq_false q]
        refine iteF ⟨_, rfl, _, rfl, rfl, _, rfl, ?_⟩
        dsimp only
        rw [dec_int]
        by_cases c2 : m - m / 2 ^ n * 2 ^ n = 2 ^ (n - 1)
        · have q2 : (m : Int) - ((m / 2 ^ n * 2 ^ n : Nat) : Int) = ((2 ^ (n - 1) : Nat) : Int) := by omega
          rw [decide_eq_true q2]
          refine iteT ⟨_, rfl, _, _, rfl, rfl, (by show (0 : Int) < 2; decide), rfl, _, rfl, ?_⟩
          dsimp only
          rw [dec_int]
          by_cases c3 : m / 2 ^ n % 2 = 1
          · rw [if_pos (.inr ⟨c2, c3⟩)] at er
            have q3 : ((m / 2 ^ n : Nat) : Int) % 2 = 1 := by omega
            rw [decide_eq_true q3]
            refine iteT ⟨_, rfl, _, _, rfl, rfl, ?_⟩
            rw [er] at h
            exact h
          · rw [if_neg (by omega)] at er
            have q3 : ¬ ((m / 2 ^ n : Nat) : Int) % 2 = 1 := by omega
            rw [decide_eq_false q3]
            refine iteF ⟨_, rfl, ?_⟩
            rw [er] at h
            exact h
        · have q2 : ¬ (m : Int) - ((m / 2 ^ n * 2 ^ n : Nat) : Int) = ((2 ^ (n - 1) : Nat) : Int) := by omega
          rw [decide_eq_false q2]
          rw [if_neg (by omega)] at er
          refine iteF (iteF ⟨_, rfl, ?_⟩)
          rw [er] at h
          exact h
end
end An

set_option Elab.async false
set_option linter.all false
set_option maxRecDepth 100000
set_option maxHeartbeats 4000000
namespace An
open PySem PySem.Spec PyProof.Rows L2
section
variable {P : Program} {w : World} {K : PySem.W.Frag} {mg : Str → Option Value} {base : Heap} {CN CW CR : Addr}
theorem ok_nearest {f : Addr} {fd : FuncData} (F : Fun K "nearest" "nearest" s_nearest f fd) (T : Txt K mg CN CW CR) (G : FnR P w K mg base 1 "rounded" ["size", "drop"] spRnd) : FnOk P w K mg base (CX1 P w) 2 f fd ["sign", "size", "power"] (spNear CN) := by
  refine F.ok1 (k := 1) sc_nearest (fun vs H Q E h => ?_) (fun cdv A outer s H vs Q E hr h => ?_)
  · obtain ⟨sb, m, p, rfl, _⟩ := h
    rfl
  · obtain ⟨sb, m, p, rfl, hp1, hp2, hm, h⟩ := h
    refine ⟨_, pss_cons (ps_if (pt_cmpR op_eq (pv 1) pe_int (nomark _)) (pss_one (ps_ret (pv 0))) pss_nil)
      (pss_cons (ps_set (i := 3) sc_nearest.nd rfl (Or.inl rfl) (pe_callB (call_max2 rfl) rfl T.mx L2.boot_max (pa_cons (pe_op op_sub (pe_bm0 PySem.F.plainAttrs_int PySem.F.slot_int_bit_length PySem.F.type_int_bit_length mt_bits (pv 1)) pe_int) (pa_cons (pe_un un_neg (pv 2)) pa_nil))))
      (pss_cons (ps_set (i := 4) sc_nearest.nd rfl (Or.inl rfl) (pe_op op_add (pe_op op_shl (pe_op op_add (pv 2) (pv 3)) pe_int) (pe_fn G hr rfl thrC (pa_cons (pv 1) (pa_cons (pv 3) pa_nil)))))
      (pss_cons (ps_if (pt_cmpR op_ge (pv 4) (pe_gi T.inf rfl) (nomark _)) (pss_one (ps_raise T.cN rfl T.mN hr.hd)) pss_nil)
      (pss_one (ps_ret (pe_op op_or (pv 0) (pv 4))))))), ?_⟩
    refine ⟨_, rfl, rfl, _, rfl, ?_⟩
    rw [dec_int]
    by_cases h0 : m = 0
    · subst h0
      rw [near_zero, fin_sg, if_pos rfl] at h
      exact iteT ⟨_, rfl, h⟩
    · have q : ¬ (m : Int) = 0 := by omega
      rw [decide_eq_false q]
      obtain ⟨d1, d2, d3, d4, d5, d6⟩ := drop_ok h0 hm hp1 hp2
      refine iteF ⟨_, rfl, rfl, _, rfl, rfl, _, _, rfl, rfl, _, rfl, _, rfl, _, _, rfl, ?_⟩
      dsimp only
      rw [drop_val h0]
      refine ⟨_, rfl, _, rfl, _, _, rfl, rfl, _, _, rfl, rfl, ⟨by decide, by decide, by omega⟩, _, rfl, _, rfl, m, drop m p, rfl, d1, d2, d3, d4, _, _, rfl, rfl, ?_⟩
      dsimp only
      rw [bits_val]
      refine ⟨_, rfl, _, _, rfl, rfl, _, rfl, ?_⟩
      by_cases hb : (9218868437227405312 : Int) ≤ bits m p
      · rw [(near_over h0).mpr hb, if_neg Bool.false_ne_true] at h
        rw [decide_eq_true hb]
        exact iteT h
      · have hf : Sv21.finite (near sb m p) = true := by
          cases z : Sv21.finite (near sb m p)
          · exact absurd ((near_over h0).mp z) hb
          · rfl
        rw [hf, if_pos rfl] at h
        rw [decide_eq_false hb]
        refine iteF ⟨_, rfl, _, rfl, _, _, rfl, rfl, ?_⟩
        dsimp only
        have hn : bits m p = (((bits m p).toNat : Nat) : Int) := (Int.toNat_of_nonneg bits_nonneg).symm
        rw [hn, or_nat, near_bits h0 (by omega)]
        exact h
theorem ok_plus {f : Addr} {fd : FuncData} (F : Fun K "plus" "plus" s_plus f fd) (T : Txt K mg CN CW CR) (G1 : FnR P w K mg base 1 "power_of" ["x"] spPow) (G2 : FnR P w K mg base 2 "signed_size" ["x", "power"] spSS) (G3 : FnR P w K mg base 1 "sign_of" ["x"] spSign)
    (G4 : FnR P w K mg base 2 "nearest" ["sign", "size", "power"] (spNear CN)) : FnOk P w K mg base (CX1 P w) 3 f fd ["x", "y"] (spPlus CN) := by
  refine F.ok1 (k := 2) sc_plus (fun vs H Q E h => ?_) (fun cdv A outer s H vs Q E hr h => ?_)
  · obtain ⟨x, y, rfl, _⟩ := h
    rfl
  · obtain ⟨x, y, rfl, ⟨hx, fx⟩, ⟨hy, fy⟩, _, h⟩ := h
    refine ⟨_, pss_cons (ps_set (i := 2) sc_plus.nd rfl (Or.inl rfl) (pe_callB (call_min2 rfl) rfl T.mn L2.boot_min (pa_cons (pe_fn G1 hr rfl thrC (pa_cons (pv 0) pa_nil)) (pa_cons (pe_fn G1 hr rfl thrC (pa_cons (pv 1) pa_nil)) pa_nil))))
      (pss_cons (ps_set (i := 3) sc_plus.nd rfl (Or.inl rfl) (pe_op op_add (pe_fn G2 hr rfl thrC (pa_cons (pv 0) (pa_cons (pv 2) pa_nil))) (pe_fn G2 hr rfl thrC (pa_cons (pv 1) (pa_cons (pv 2) pa_nil)))))
      (pss_cons (ps_if (pt_cmpR op_eq (pv 3) pe_int (nomark _)) (pss_one (ps_ret (pe_fn G3 hr rfl thrC (pa_cons (pe_op op_and (pv 0) (pv 1)) pa_nil)))) pss_nil)
      (pss_one (ps_ret (pe_fn G4 hr rfl thrC (pa_cons (pe_ifExp (pt_cmpR op_lt (pv 3) pe_int (nomark _)) (pe_gi T.sgn rfl) pe_int) (pa_cons (pe_callB call_abs rfl T.ab L2.boot_abs (pa_cons (pv 3) pa_nil)) (pa_cons (pv 2) pa_nil)))))))), ?_⟩
    refine ⟨_, rfl, x, rfl, _, rfl, y, rfl, _, _, rfl, ?_⟩
    dsimp only
    rw [min_val]
    refine ⟨_, rfl, _, rfl, x, min (pw x) (pw y), rfl, hx, Nat.min_le_left _ _, _, rfl, _, rfl, y, min (pw x) (pw y), rfl, hy, Nat.min_le_right _ _, _, _, rfl, rfl, ?_⟩
    dsimp only
    show tSeq _ _ _ (List.set (List.set _ _ _) _ (some (V.int (tot x y)))) _
    refine ⟨_, rfl, rfl, _, rfl, ?_⟩
    rw [dec_int]
    rw [add_eq] at h
    by_cases z : tot x y = 0
    · rw [if_pos z, fin_sg, if_pos rfl] at h
      rw [decide_eq_true z]
      obtain ⟨a1, a2⟩ := and_sign hx hy
      refine iteT ⟨_, rfl, _, rfl, _, _, rfl, rfl, x &&& y, ?_, a1, ?_⟩
      · dsimp only
        rw [and_nat]
        rfl
      · rw [a2]
        exact h
    · rw [if_neg z] at h
      rw [decide_eq_false z]
      have hl : min (pw x) (pw y) ≤ 4000 := Nat.le_trans (Nat.min_le_left _ _) (Nat.le_trans (pw_le' x) (by decide))
      refine iteF ⟨_, rfl, _, _, rfl, rfl, _, rfl, ?_⟩
      cases hs : decide (tot x y < 0)
      · refine iteF ⟨_, rfl, _, rfl, _, rfl, false, (tot x y).natAbs, ((min (pw x) (pw y) : Nat) : Int), ?_, by omega, by omega, tot_abs x y, ?_⟩
        · rw [abs_val]
          rfl
        · rw [hs] at h
          exact h
      · refine iteT ⟨_, rfl, _, rfl, _, rfl, true, (tot x y).natAbs, ((min (pw x) (pw y) : Nat) : Int), ?_, by omega, by omega, tot_abs x y, ?_⟩
        · rw [abs_val]
          rfl
        · rw [hs] at h
          exact h
theorem ok_minus {f : Addr} {fd : FuncData} (F : Fun K "minus" "minus" s_minus f fd) (T : Txt K mg CN CW CR) (G : FnR P w K mg base 3 "plus" ["x", "y"] (spPlus CN)) : FnOk P w K mg base (CX1 P w) 4 f fd ["x", "y"] (spMinus CN) := by
  refine F.ok1 (k := 3) sc_minus (fun vs H Q E h => ?_) (fun cdv A outer s H vs Q E hr h => ?_)
  · obtain ⟨x, y, rfl, _⟩ := h
    rfl
  · obtain ⟨x, y, rfl, hx, ⟨hy, fy⟩, _, h⟩ := h
    refine ⟨_, pss_one (ps_ret (pe_fn G hr rfl thrC (pa_cons (pv 0) (pa_cons (pe_op op_xor (pv 1) (pe_gi T.sgn rfl)) pa_nil)))), ?_⟩
    refine ⟨_, rfl, _, rfl, _, _, rfl, rfl, x, Sv21.neg y, ?_, hx, ⟨neg_lt y, by rw [neg_finite]; exact fy⟩, trivial, h⟩
    dsimp only
    rw [bxor_sgn hy]
    rfl
theorem ok_times {f : Addr} {fd : FuncData} (F : Fun K "times" "times" s_times f fd) (T : Txt K mg CN CW CR) (G1 : FnR P w K mg base 1 "power_of" ["x"] spPow) (G2 : FnR P w K mg base 1 "size_of" ["x"] spSize) (G3 : FnR P w K mg base 1 "sign_of" ["x"] spSign)
    (G4 : FnR P w K mg base 2 "nearest" ["sign", "size", "power"] (spNear CN)) : FnOk P w K mg base (CX1 P w) 3 f fd ["x", "y"] (spTimes CN) := by
  refine F.ok1 (k := 2) sc_times (fun vs H Q E h => ?_) (fun cdv A outer s H vs Q E hr h => ?_)
  · obtain ⟨x, y, rfl, _⟩ := h
    rfl
  · obtain ⟨x, y, rfl, ⟨hx, fx⟩, ⟨hy, fy⟩, _, h⟩ := h
    refine ⟨_, pss_one (ps_ret (pe_fn G4 hr rfl thrC (pa_cons (pe_fn G3 hr rfl thrC (pa_cons (pe_op op_xor (pv 0) (pv 1)) pa_nil)) (pa_cons (pe_op op_mul (pe_fn G2 hr rfl thrC (pa_cons (pv 0) pa_nil)) (pe_fn G2 hr rfl thrC (pa_cons (pv 1) pa_nil)))
      (pa_cons (pe_op op_sub (pe_op op_add (pe_fn G1 hr rfl thrC (pa_cons (pv 0) pa_nil)) (pe_fn G1 hr rfl thrC (pa_cons (pv 1) pa_nil))) (pe_gi T.one rfl)) pa_nil))))), ?_⟩
    obtain ⟨x1, x2, x3⟩ := xor_sign hx hy
    have ux := units_lt x
    have px := pw_le' x
    have py := pw_le' y
    rw [mul_eq] at h
    refine ⟨_, rfl, _, rfl, _, _, rfl, rfl, (x ||| y) - (x &&& y), ?_, x2, ?_⟩
    · dsimp only
      rw [xor_nat]
      rfl
    · rw [x3]
      refine ⟨_, rfl, x, rfl, _, rfl, y, rfl, _, _, rfl, rfl, .inl ⟨by omega, by omega⟩, _, rfl, x, rfl, _, rfl, y, rfl, _, _, rfl, rfl, _, _, rfl, rfl, _, Sv21.units x * Sv21.units y, (pw x : Int) + (pw y : Int) - 1074, ?_, by omega, by omega, prod_lt x y, h⟩
      rfl
end
end An

set_option Elab.async false
set_option linter.all false
set_option maxRecDepth 100000
set_option maxHeartbeats 4000000
namespace An
open PySem PySem.Spec PyProof.Rows L2
structure TxtQ (K : PySem.W.Frag) (mg : Str → Option Value) (CQ : Addr) : Prop where
  cl : Cls K CQ
  nA : NoAttr K CQ "answers"
  nC : NoAttr K CQ "count"
  nQ : NoAttr K CQ "asked"
  mg : mg "Questions" = some (.ref CQ)
section
variable {P : Program} {w : World} {K : PySem.W.Frag} {mg : Str → Option Value} {base : Heap} {CN CW CR CO CQ : Addr}
theorem qf_len (la lq : Addr) (c : Nat) : (qf la lq c).length < 1000 := Nat.lt_of_lt_of_le (putF_lt (putF_lt (putF_lt Nat.zero_lt_one))) (by decide)
theorem ok_qinit {f : Addr} {fd : FuncData} (F : Fun K "__init__" "Questions.__init__" s_Questions_init f fd) (T : TxtQ K mg CQ) : FnOk P w K mg base (CX1 P w) 1 f fd ["self", "answers"] (spQInit CQ K) := by
  refine F.ok1 (k := 0) sc_Questions_init (fun vs H Q E h => ?_) (fun cdv A outer s H vs Q E hr h => ?_)
  · obtain ⟨p, dx, la, rfl, _⟩ := h
    rfl
  · obtain ⟨p, dx, la, rfl, hp, h⟩ := h
    refine ⟨_, (pss_cons (ps_fld (pv 0) (pv 1) rfl)
      (pss_cons (ps_fld (pv 0) pe_int rfl)
      (pss_one (ps_fld (pv 0) (pe_lstK pa_nil) rfl)))), ?_⟩
    refine ⟨_, rfl, _, rfl, p, CQ, dx, [], rfl, hp, T.cl, T.nA, (by show 0 < 1000; decide), ?_⟩
    refine ⟨_, rfl, p, CQ, dx, _, rfl, upd_same, T.cl, T.nC, Nat.lt_of_lt_of_le (putF_lt Nat.zero_lt_one) (by decide), ?_⟩
    rw [upd_upd]
    refine ⟨Nat.zero_le _, fun l hl hlK => ?_⟩
    have npl : p ≠ l := fun z => by rw [← z, upd_same] at hl; cases hl
    have hl' : H l = none := by rw [upd_ne (Ne.symm npl)] at hl; exact hl
    refine ⟨_, rfl, p, CQ, dx, _, rfl, by rw [upd_ne npl, upd_same], T.cl, T.nQ, Nat.lt_of_lt_of_le (putF_lt (putF_lt Nat.zero_lt_one)) (by decide), ?_⟩
    refine h _ l hl' hlK ?_ ?_ fun b b1 b2 => ?_
    · rw [upd_same]
      rfl
    · rw [upd_ne (Ne.symm npl), upd_same]
      rfl
    · rw [upd_ne b1, upd_ne b2, upd_ne b1]
theorem ok_answered {f : Addr} {fd : FuncData} (F : Fun K "answered" "Questions.answered" s_Questions_answered f fd) (T : Txt K mg CN CW CR) (TQ : TxtQ K mg CQ) (G : FnR P w K mg base 1 "finite" ["x"] (spFin CN)) : FnOk P w K mg base (CX1 P w) 2 f fd ["self"] (spAnsd CQ CN CW K) := by
  refine F.ok1 (k := 1) sc_Questions_answered (fun vs H Q E h => ?_) (fun cdv A outer s H vs Q E hr h => ?_)
  · obtain ⟨q, la, lq, ns, c, qs, rfl, _⟩ := h
    rfl
  · obtain ⟨q, la, lq, ns, c, qs, rfl, A0, hle, hns, h⟩ := h
    refine ⟨_,  (pss_cons (ps_set (i := 1) sc_Questions_answered.nd rfl (Or.inl rfl) (pe_fld (pv 0) rfl))
      (pss_cons (ps_fld (pv 0) (pe_op op_add (pv 1) pe_int) rfl)
      (pss_cons (ps_if (pt_cmpR op_eq (pv 1) (pe_callB call_len_seq rfl T.ln PySem.boot_len (pa_cons (pe_fld (pv 0) rfl) pa_nil)) (nomark _)) (pss_one (ps_raise T.cW rfl T.mW hr.hd)) pss_nil)
      (pss_one (ps_ret (pe_fn G hr rfl thrC (pa_cons (pe_ix ix_list (pe_fld (pv 0) rfl) (pv 1) (fun _ _ => rfl)) pa_nil))))))), ?_⟩
    obtain ⟨dx, hq⟩ := A0.ob
    refine ⟨_, rfl, q, CQ, dx, _, _, rfl, hq, TQ.cl, TQ.nC, qf_count la lq, ?_⟩
    refine ⟨_, rfl, _, _, rfl, rfl, _, rfl, q, CQ, dx, _, rfl, hq, TQ.cl, TQ.nC, qf_len la lq c, ?_⟩
    have er : HO.ins CQ dx (putF "count" (V.int ((c : Int) + 1)) (qf la lq c)) = recount (H q) (c + 1) := by rw [hq]; rfl
    show tSeq _ _ _ _ (upd H q (HO.ins CQ dx (putF "count" (V.int ((c : Int) + 1)) (qf la lq c))))
    rw [er]
    have A1 : QC CQ K (upd H q (recount (H q) (c + 1))) q la lq ns (c + 1) qs := A0.cnt
    obtain ⟨dx1, hq1⟩ := A1.ob
    refine ⟨_, rfl, _, rfl, q, CQ, dx1, _, _, rfl, hq1, TQ.cl, TQ.nA, qf_answers la lq, la, _, rfl, .inl A1.ans, rfl, _, rfl, ?_⟩
    rw [dec_int]
    show if decide ((c : Int) = ((vI ns).length : Int)) = true then _ else _
    rw [vI_len]
    by_cases z : c = ns.length
    · rw [decide_eq_true (by omega : (c : Int) = (ns.length : Int))]
      have e : ns[c]? = none := List.getElem?_eq_none_iff.mpr (by omega)
      rw [e] at h
      exact iteT h
    · rw [decide_eq_false (by omega : ¬ (c : Int) = (ns.length : Int))]
      have hlt : c < ns.length := by omega
      have e : ns[c]? = some ns[c] := List.getElem?_eq_getElem hlt
      rw [e] at h
      refine iteF ⟨_, rfl, q, CQ, dx1, _, _, rfl, hq1, TQ.cl, TQ.nA, qf_answers la lq, _, rfl, la, _, _, V.int ((ns[c] : Nat) : Int), rfl, rfl, A1.ans, ?_, ns[c], rfl, h⟩
      refine at_of (j := c) rfl ?_
      unfold vI
      rw [List.getElem?_map, e]
      rfl
/-- Questions.answered -/
def AnsR (P : Program) (w : World) (K : PySem.W.Frag) (mg : Str → Option Value) (base : Heap) (CQ CN CW : Addr) : Prop :=
  ∃ f fd, FnOk P w K mg base (CX1 P w) 2 f fd ["self"] (spAnsd CQ CN CW K) ∧ Binds K fd ["self"] [] ∧ Meth K CQ "answered" f
theorem ok_ask {f : Addr} {fd : FuncData} (F : Fun K "ask" "Questions.ask" s_Questions_ask f fd) (TQ : TxtQ K mg CQ) (GA : AnsR P w K mg base CQ CN CW) : FnOk P w K mg base (CX1 P w) 3 f fd ["self", "x"] (spAsk CQ CN CW K) := by
  obtain ⟨fA, fdA, FA, bA, mA⟩ := GA
  refine F.ok1 (k := 2) sc_Questions_ask (fun vs H Q E h => ?_) (fun cdv A outer s H vs Q E hr h => ?_)
  · obtain ⟨q, la, lq, ns, qs, x, rfl, _⟩ := h
    rfl
  · obtain ⟨q, la, lq, ns, qs, x, rfl, A0, hle, hns, h⟩ := h
    refine ⟨_, (pss_cons (ps_expr (pe_bm PySem.F.plainAttrs_list PySem.F.slot_list_append PySem.F.type_list_append mt_append (pe_fld (pv 0) rfl) (pa_cons (pv 1) pa_nil)))
      (pss_one (ps_ret (pe_meth0 (pv 0) TQ.cl mA FA hr bA .nil (pass1 thrC))))), ?_⟩
    obtain ⟨dx, hq⟩ := A0.ob
    refine ⟨_, rfl, q, CQ, dx, _, _, rfl, hq, TQ.cl, TQ.nQ, qf_asked la lq, .inl ⟨rfl, _, SqL.of A0.asked⟩, _, rfl, lq, _, _, rfl, rfl, A0.asked, ?_, ?_⟩
    · show (vI qs).length < sizeLine
      rw [vI_len]
      exact Nat.lt_of_le_of_lt (Nat.le_trans hle hns) (by decide)
    · have e3 : HO.lst (List.map (fun (x : Nat) => V.int (x : Int)) qs ++ [V.int (x : Int)]) = L (qs ++ [x]) := by
        show HO.lst (vI qs ++ [V.int (x : Int)]) = _
        rw [vI_snoc]
        rfl
      dsimp only
      rw [e3]
      have hqn := A0.qne
      have e1 : (upd H lq (L (qs ++ [x]))) q = H q := by rw [upd_ne hqn]
      have A1 : QC CQ K (upd H lq (L (qs ++ [x]))) q la lq ns qs.length (qs ++ [x]) := ⟨⟨dx, e1.trans hq⟩, A0.ans.upd_ne A0.ne, upd_same, A0.ne⟩
      refine ⟨_, rfl, q, dx, _, rfl, e1.trans hq, qf_answered la lq, q, la, lq, ns, qs.length, qs ++ [x], rfl, A1, hle, hns, ?_⟩
      have e2 : asks H q lq (qs ++ [x]) = upd (upd H lq (L (qs ++ [x]))) q (recount ((upd H lq (L (qs ++ [x]))) q) (qs.length + 1)) := by
        rw [e1]
        unfold asks askc
        rw [List.length_append, List.length_singleton]
      rw [e2] at h
      exact h
/-- Questions.ask -/
def AskR (P : Program) (w : World) (K : PySem.W.Frag) (mg : Str → Option Value) (base : Heap) (CQ CN CW : Addr) : Prop :=
  ∃ f fd, FnOk P w K mg base (CX1 P w) 3 f fd ["self", "x"] (spAsk CQ CN CW K) ∧ Binds K fd ["self", "x"] [] ∧ Meth K CQ "ask" f
end
end An

set_option Elab.async false
set_option linter.all false
set_option maxRecDepth 100000
set_option maxHeartbeats 4000000
namespace An
open PySem PySem.Spec PyProof.Rows L2
section
variable {P : Program} {w : World} {K : PySem.W.Frag} {mg : Str → Option Value} {base : Heap} {CN CW CR CO CQ : Addr}
open Sv21 (Io Ans)
open PySem.W (FnAt)
theorem ok_answer_of {f fl : Addr} {fd fdl : FuncData} {io : Io} {kl : Nat} (F : Fun K "answer_of" "answer_of" s_answer_of f fd) (T : Txt K mg CN CW CR) (TQ : TxtQ K mg CQ) (cO : IsExc K CO) (mO : mg "OneSign" = some (.ref CO))
    (n1 : CW ≠ CR) (n2 : CW ≠ CN) (n3 : CW ≠ CO) (n4 : CR ≠ CN) (n5 : CR ≠ CO) (n6 : CN ≠ CO)
    (FL : FnOk P w K mg base (CX1 P w) kl fl fdl ["questions"] (spOut CQ CN CW CR CO K io)) (bL : Binds K fdl ["questions"] []) (aL : FnAt fl base) : FnOk P w K mg base (CX1 P w) (kl + 1) f fd ["questions", "reckon"] (spAns CQ K io fl) := by
  refine F.ok1 (k := kl) sc_answer_of (fun vs H Q E h => ?_) (fun cdv A outer s H vs Q E hr h => ?_)
  · obtain ⟨q, la, lq, ns, rfl, _⟩ := h
    rfl
  · obtain ⟨q, la, lq, ns, rfl, A0, hns, h⟩ := h
    refine ⟨_, pss_cons (ps_try rfl ⟨rfl, rfl⟩ (fun pins W E' T' => pss_one (ps_set (i := 2) sc_answer_of.nd rfl (Or.inl rfl) (pe_callF (pv 1) FL hr aL bL .nil (pass1 T') (pa_cons (pv 0) pa_nil))))
        (ph_cons rfl rfl T.mW T.cW (fun e => pss_one (ps_ret (pe_lst pa_nil))) (ph_cons rfl rfl T.mR T.cR (fun e => pss_one (ps_ret (pe_lst (pa_cons (pe_un un_neg pe_int) pa_nil))))
        (ph_cons rfl rfl T.mN T.cN (fun e => pss_one (ps_ret (pe_lst (pa_cons (pe_un un_neg pe_int) pa_nil)))) (ph_cons rfl rfl mO cO (fun e => pss_one (ps_ret (pe_lst (pa_cons (pe_un un_neg pe_int) pa_nil)))) ph_nil)))))
      (pss_one (ps_ret (pe_op op_cat (pe_lst (pa_cons (pe_fld (pv 0) rfl) pa_nil)) (pv 2)))), ?_⟩
    have hqn := A0.qne
    have ends : ∀ (H1 : Hp) c qs (p : Addr) (l : List V), Tail H H1 q lq c qs → H1 p = none → Tail H (upd H1 p (.lst l)) q lq c qs ∧ (upd H1 p (.lst l)) p = some (.lst l) := fun H1 c qs p l t hp => by
      refine ⟨t.made fun b o e => ?_, upd_same⟩
      rw [upd_ne (fun z => by rw [z, hp] at e; cases e)]
      exact e
    refine ⟨rfl, _, rfl, q, la, lq, ns, rfl, A0, hns, wp2_mono h fun c qs r hr' => ?_⟩
    obtain ⟨hl, hr'⟩ := hr'
    cases r with
    | none =>
      intro H1 d1
      refine ⟨CW, rfl, T.cW, fun σ' => ?_⟩
      unfold hCons
      rw [if_pos rfl]
      refine ⟨Nat.zero_le _, fun p hp => ?_⟩
      obtain ⟨e1, e3⟩ := ends H1 c qs p [] d1 hp
      exact hr' _ p e1 e3
    | some a =>
      unfold EndC
      dsimp only
      by_cases c2 : a.v = -2
      · rw [if_pos c2]
        intro H1 d1
        refine ⟨CR, rfl, T.cR, fun σ' => ?_⟩
        unfold hCons
        rw [if_neg (Ne.symm n1), if_pos rfl]
        refine ⟨_, rfl, Nat.le_trans (by decide : 1 ≤ 2) (by decide), fun p hp => ?_⟩
        obtain ⟨e1, e3⟩ := ends H1 c qs p _ d1 hp
        refine hr' _ p e1 ?_
        rw [e3]
        unfold ansV
        dsimp only
        rw [if_pos (.inl c2), c2]
      · rw [if_neg c2]
        by_cases c4 : a.v = -4
        · rw [if_pos c4]
          intro H1 d1
          refine ⟨CN, rfl, T.cN, fun σ' => ?_⟩
          unfold hCons
          rw [if_neg (Ne.symm n2), if_neg (Ne.symm n4), if_pos rfl]
          refine ⟨_, rfl, Nat.le_trans (by decide : 1 ≤ 2) (by decide), fun p hp => ?_⟩
          obtain ⟨e1, e3⟩ := ends H1 c qs p _ d1 hp
          refine hr' _ p e1 ?_
          rw [e3]
          unfold ansV
          dsimp only
          rw [if_pos (.inr (.inl c4)), c4]
        · rw [if_neg c4]
          by_cases c5 : a.v = -5
          · rw [if_pos c5]
            intro H1 d1
            refine ⟨CO, rfl, cO, fun σ' => ?_⟩
            unfold hCons
            rw [if_neg (Ne.symm n3), if_neg (Ne.symm n5), if_neg (Ne.symm n6), if_pos rfl]
            refine ⟨_, rfl, Nat.le_trans (by decide : 1 ≤ 2) (by decide), fun p hp => ?_⟩
            obtain ⟨e1, e3⟩ := ends H1 c qs p _ d1 hp
            refine hr' _ p e1 ?_
            rw [e3]
            unfold ansV
            dsimp only
            rw [if_pos (.inr (.inr c5)), c5]
          · rw [if_neg c5]
            intro H1 p e1 e3
            obtain ⟨dx, ho⟩ := A0.re
            have hq1 : H1 q = some (.ins CQ dx (qf la lq c)) := by rw [e1.1, ho]
            refine ⟨_, rfl, q, CQ, dx, _, _, rfl, hq1, TQ.cl, TQ.nC, qf_count la lq, Nat.le_trans (by decide : 1 ≤ 2) (by decide), fun p1 hp1 => ?_⟩
            have np : p ≠ p1 := fun z => by
              rw [← z, e3] at hp1
              cases hp1
            refine ⟨_, rfl, p1, p, _, _, rfl, rfl, upd_same, by rw [upd_ne np]; exact e3, ?_, fun p2 hp2 => ?_⟩
            · show 1 + (vI a.l).length ≤ sizeLine
              rw [vI_len]
              have := hl a rfl
              exact Nat.le_trans (Nat.add_le_add_left this 1) (by decide)
            · refine hr' _ p2 ?_ ?_
              · refine e1.made fun b o e => ?_
                have n1' : b ≠ p1 := fun z => by rw [z, hp1] at e; cases e
                have n2' : b ≠ p2 := fun z => by
                  have hp2' : (upd H1 p1 (.lst [V.int (c : Int)])) p2 = none := hp2
                  rw [← z, upd_ne n1', e] at hp2'
                  cases hp2'
                rw [upd_ne n2', upd_ne n1']
                exact e
              · rw [upd_same]
                unfold ansV
                dsimp only
                rw [if_neg (by omega)]
                rfl
theorem ok_told {f fl fI : Addr} {fd fdI : FuncData} {io : Io} {kl : Nat} (F : Fun K "told" "told" s_told f fd) (T : Txt K mg CN CW CR) (TQ : TxtQ K mg CQ) (M : Mk K CQ fI) (GI : FnOk P w K mg base (CX1 P w) 1 fI fdI ["self", "answers"] (spQInit CQ K)) (bI : Binds K fdI ["self", "answers"] [])
    (GA : FnR P w K mg base (kl + 2) "answer_of" ["questions", "reckon"] (spAns CQ K io fl)) : FnOk P w K mg base (CX1 P w) (kl + 3) f fd ["answers", "reckon"] (spTold K io fl) := by
  refine F.ok1 (k := kl + 2) sc_told (fun vs H Q E h => ?_) (fun cdv A outer s H vs Q E hr h => ?_)
  · obtain ⟨la, ns, rfl, _⟩ := h
    rfl
  · obtain ⟨la, ns, rfl, hS, hns, h⟩ := h
    refine ⟨_, pss_cons (ps_set (i := 2) sc_told.nd rfl (Or.inl rfl) (pe_make M GI (hr.mono (by omega)) rfl TQ.mg bI .nil (pass1 thrC) (pa_cons (pv 0) pa_nil)))
      (pss_cons (ps_set (i := 3) sc_told.nd rfl (Or.inl rfl) (pe_fn GA hr rfl thrC (pa_cons (pv 2) (pa_cons (pv 1) pa_nil)) (Nat.le_refl _)))
      (pss_one (ps_ret (pe_op op_cat (pe_op op_cat (pe_lst (pa_cons (pe_fld (pv 2) rfl) pa_nil)) (pe_fld (pv 2) rfl)) (pv 3))))), ?_⟩
    refine ⟨_, rfl, fun q dx nq ndx ndq => ?_⟩
    refine ⟨q, dx, la, rfl, upd_same, fun H' l hl hlK h1 h2 h3 => ⟨rfl, ?_⟩⟩
    have lq' : l ≠ q := fun z => by rw [z, h1] at h2; cases h2
    have nl : H l = none := by
      by_cases z : l = dx
      · rw [z]; exact ndx
      · rw [upd_ne lq', upd_ne z] at hl
        exact hl
    have kp : ∀ b o, H b = some o → H' b = some o := fun b o e => by
      have b1 : b ≠ q := ne_of_none e nq
      have b2 : b ≠ dx := ne_of_none e ndx
      have b3 : b ≠ l := ne_of_none e nl
      rw [h3 b b1 b3, upd_ne b1, upd_ne b2]
      exact e
    have hlal : la ≠ l := fun z => by
      rcases hS with (e | ⟨ob, e⟩) | ⟨o, its, n, e, _⟩
      · rw [z, nl] at e; cases e
      · rw [z, nl] at e; cases e
      · rw [z, hlK] at e; cases e
    have A1 : QA CQ K H' q la l ns [] := ⟨⟨dx, h1⟩, hS.mono (kp la), h2, hlal⟩
    refine ⟨_, rfl, _, rfl, q, la, l, ns, rfl, A1, hns, wp2_mono h fun c qs r hr' => ?_⟩
    obtain ⟨hq, hl2, hr'⟩ := hr'
    refine ⟨hl2, fun H2 p e1 e3 => ?_⟩
    obtain ⟨dx1, ho⟩ := A1.re
    have hq1 : H2 q = some (.ins CQ dx1 (qf la l c)) := by rw [e1.1, ho]
    refine ⟨_, rfl, q, CQ, dx1, _, _, rfl, hq1, TQ.cl, TQ.nC, qf_count la l, Nat.le_trans (by decide : 1 ≤ 2) (by decide), fun p1 hp1 => ?_⟩
    have ne1 : ∀ b o, H2 b = some o → b ≠ p1 := fun b o e z => by rw [z, hp1] at e; cases e
    have q1 := ne1 _ _ hq1
    have l1 := ne1 _ _ e1.2
    have pp1 := ne1 _ _ e3
    refine ⟨_, rfl, q, CQ, dx1, _, _, rfl, by rw [upd_ne q1]; exact hq1, TQ.cl, TQ.nQ, qf_asked la l, p1, l, _, _, rfl, rfl, upd_same, by rw [upd_ne l1]; exact e1.2, ?_, fun p2 hp2 => ?_⟩
    · show 1 + (vI qs).length ≤ sizeLine
      rw [vI_len]
      exact Nat.le_trans (Nat.add_le_add_left hq 1) (by decide)
    have ne2 : ∀ b o, (upd H2 p1 (.lst [V.int (c : Int)])) b = some o → b ≠ p2 := fun b o e z => by
      rw [z] at e
      have hp2' : (upd H2 p1 (.lst [V.int (c : Int)])) p2 = none := hp2
      rw [hp2'] at e
      cases e
    have pp2 := ne2 p _ (by rw [upd_ne pp1]; exact e3)
    refine ⟨_, rfl, p2, p, _, _, rfl, rfl, upd_same, by rw [upd_ne pp2, upd_ne pp1]; exact e3, ?_, fun p3 hp3 => ?_⟩
    · show ([V.int (c : Int)] ++ vI qs).length + (ansV c r).length ≤ sizeLine
      have la2 : (ansV c r).length ≤ 100001 := by
        unfold ansV
        cases r with
        | none => exact Nat.zero_le _
        | some a =>
          dsimp only
          split
          · show 1 ≤ 100001
            decide
          · rw [List.length_cons, vI_len]
            exact Nat.succ_le_succ (hl2 a rfl)
      rw [List.length_append, vI_len]
      have : 1 + qs.length + (ansV c r).length ≤ 1 + 10000 + 100001 := by omega
      exact Nat.le_trans this (by decide)
    · refine hr' _ p3 ?_
      rw [upd_same]
      unfold toldV
      rfl
end
end An

set_option Elab.async false
set_option linter.all false
set_option maxRecDepth 100000
set_option maxHeartbeats 4000000
namespace An
open PySem PySem.Spec PyProof.Rows L2
section
variable {P : Program} {w : World} {K : PySem.W.Frag} {mg : Str → Option Value} {base : Heap} {CN CW CR CO CQ : Addr}
theorem ok_without_sign {f : Addr} {fd : FuncData} (F : Fun K "without_sign" "without_sign" s_without_sign f fd) (T : Txt K mg CN CW CR) : FnOk P w K mg base (CX1 P w) 1 f fd ["x"] spAbs := by
  refine F.ok1 (k := 0) sc_without_sign (fun vs H Q E h => ?_) (fun cdv A outer s H vs Q E hr h => ?_)
  · obtain ⟨x, rfl, _⟩ := h
    rfl
  · obtain ⟨x, rfl, h⟩ := h
    refine ⟨_, pss_one (ps_ret (pe_op op_and (pv 0) (pe_op op_sub (pe_gi T.sgn rfl) pe_int))), ?_⟩
    refine ⟨_, rfl, _, _, rfl, rfl, _, _, rfl, rfl, ?_⟩
    dsimp only
    rw [band_mag1]
    exact h
end
section
variable {P : Program} {w : World} {K : PySem.W.Frag} {mg : Str → Option Value} {base : Heap} {CN CW CR CO CQ : Addr}
theorem ok_is_zero {f : Addr} {fd : FuncData} (F : Fun K "is_zero" "is_zero" s_is_zero f fd) (G : FnR P w K mg base 1 "without_sign" ["x"] spAbs) : FnOk P w K mg base (CX1 P w) 2 f fd ["x"] spZero := by
  refine F.ok1 (k := 1) sc_is_zero (fun vs H Q E h => ?_) (fun cdv A outer s H vs Q E hr h => ?_)
  · obtain ⟨x, rfl, _⟩ := h
    rfl
  · obtain ⟨x, rfl, h⟩ := h
    refine ⟨_, pss_one (ps_ret (pe_cmpR op_eq (pe_fn G hr rfl thrC (pa_cons (pv 0) pa_nil)) pe_int (nomark _))), ?_⟩
    refine ⟨_, rfl, x, rfl, rfl, ?_⟩
    rw [zero_mag]
    exact h
end
section
variable {P : Program} {w : World} {K : PySem.W.Frag} {mg : Str → Option Value} {base : Heap} {CN CW CR CO CQ : Addr}
theorem ok_rank_of {f : Addr} {fd : FuncData} (F : Fun K "rank_of" "rank_of" s_rank_of f fd) (G1 : FnR P w K mg base 1 "without_sign" ["x"] spAbs) (G2 : FnR P w K mg base 1 "sign_of" ["x"] spSign) : FnOk P w K mg base (CX1 P w) 2 f fd ["x"] spRank := by
  refine F.ok1 (k := 1) sc_rank_of (fun vs H Q E h => ?_) (fun cdv A outer s H vs Q E hr h => ?_)
  · obtain ⟨x, rfl, _⟩ := h
    rfl
  · obtain ⟨x, rfl, hx, h⟩ := h
    refine ⟨_, pss_one (ps_ret (pe_ifExp (pt_truth (pe_fn G2 hr rfl thrC (pa_cons (pv 0) pa_nil)) (fun _ => rfl)) (pe_un un_neg (pe_fn G1 hr rfl thrC (pa_cons (pv 0) pa_nil))) (pe_fn G1 hr rfl thrC (pa_cons (pv 0) pa_nil)))), ?_⟩
    refine ⟨_, rfl, x, rfl, hx, _, rfl, ?_⟩
    unfold rank at h
    cases hm : Sv21.minus x
    · rw [hm, if_neg Bool.false_ne_true] at h
      exact iteF ⟨_, rfl, x, rfl, h⟩
    · rw [hm, if_pos rfl] at h
      exact iteT ⟨_, rfl, x, rfl, _, rfl, h⟩
theorem ok_less {f : Addr} {fd : FuncData} (F : Fun K "less" "less" s_less f fd) (G : FnR P w K mg base 2 "rank_of" ["x"] spRank) : FnOk P w K mg base (CX1 P w) 3 f fd ["x", "y"] spLess := by
  refine F.ok1 (k := 2) sc_less (fun vs H Q E h => ?_) (fun cdv A outer s H vs Q E hr h => ?_)
  · obtain ⟨x, y, rfl, _⟩ := h
    rfl
  · obtain ⟨x, y, rfl, hx, hy, h⟩ := h
    refine ⟨_, pss_one (ps_ret (pe_cmpR op_lt (pe_fn G hr rfl thrC (pa_cons (pv 0) pa_nil)) (pe_fn G hr rfl thrC (pa_cons (pv 1) pa_nil)) (nomark _))), ?_⟩
    rw [less_rank] at h
    exact ⟨_, rfl, x, rfl, hx, _, rfl, y, rfl, hy, _, _, rfl, rfl, h⟩
end
section
variable {P : Program} {w : World} {K : PySem.W.Frag} {mg : Str → Option Value} {base : Heap} {CN CW CR CO CQ : Addr}
theorem ok_divided {f : Addr} {fd : FuncData} (F : Fun K "divided" "divided" s_divided f fd) (T : Txt K mg CN CW CR) (G0 : FnR P w K mg base 2 "is_zero" ["x"] spZero) (G1 : FnR P w K mg base 1 "power_of" ["x"] spPow) (G2 : FnR P w K mg base 1 "size_of" ["x"] spSize) (G3 : FnR P w K mg base 1 "sign_of" ["x"] spSign)
    (G4 : FnR P w K mg base 2 "nearest" ["sign", "size", "power"] (spNear CN)) : FnOk P w K mg base (CX1 P w) 3 f fd ["x", "y"] (spDiv CN) := by
  refine F.ok1 (k := 2) sc_divided (fun vs H Q E h => ?_) (fun cdv A outer s H vs Q E hr h => ?_)
  · obtain ⟨x, y, rfl, _⟩ := h
    rfl
  · obtain ⟨x, y, rfl, ⟨hx, fx⟩, ⟨hy, fy⟩, hz, h⟩ := h
    refine ⟨_, pss_cons (ps_if (pt_val (pe_fn G0 hr rfl thrC (pa_cons (pv 1) pa_nil))) (pss_one (ps_raise T.cN rfl T.mN hr.hd)) pss_nil)
      (pss_cons (ps_set (i := 2) sc_divided.nd rfl (Or.inl rfl) (pe_op op_shl (pe_fn G2 hr rfl thrC (pa_cons (pv 0) pa_nil)) pe_int))
      (pss_cons (ps_set (i := 3) sc_divided.nd rfl (Or.inl rfl) (pe_ifExp (pt_truth (pe_op op_mod (pv 2) (pe_fn G2 hr rfl thrC (pa_cons (pv 1) pa_nil))) (fun _ => rfl)) pe_int pe_int))
      (pss_cons (ps_set (i := 4) sc_divided.nd rfl (Or.inl rfl) (pe_op op_add (pe_op op_mul (pe_op op_fdiv64 (pv 2) (pe_fn G2 hr rfl thrC (pa_cons (pv 1) pa_nil))) pe_int) (pv 3)))
      (pss_one (ps_ret (pe_fn G4 hr rfl thrC (pa_cons (pe_fn G3 hr rfl thrC (pa_cons (pe_op op_xor (pv 0) (pv 1)) pa_nil)) (pa_cons (pv 4)
        (pa_cons (pe_op op_sub (pe_op op_add (pe_op op_sub (pe_fn G1 hr rfl thrC (pa_cons (pv 0) pa_nil)) (pe_fn G1 hr rfl thrC (pa_cons (pv 1) pa_nil))) (pe_gi T.one rfl)) pe_int) pa_nil))))))))), ?_⟩
    obtain ⟨x1, x2, x3⟩ := xor_sign hx hy
    have ux := units_lt x
    have uy := units_lt y
    have uy0 : 0 < Sv21.units y := Nat.pos_of_ne_zero fun q => by
      rw [units_zero] at q
      rw [q] at hz
      cases hz
    have px := pw_le' x
    have py := pw_le' y
    rw [div_eq hz] at h
    refine ⟨_, rfl, y, rfl, _, rfl, ?_⟩
    rw [hz]
    refine iteF ⟨_, rfl, x, rfl, _, _, rfl, rfl, ⟨by decide, by decide, by omega⟩, ?_⟩
    dsimp only
    rw [shl108]
    refine ⟨_, rfl, _, rfl, y, rfl, _, _, rfl, rfl, (by omega), _, rfl, ?_⟩
    have last : ∀ (r : Nat), r = (if Sv21.units x * 2 ^ 108 % Sv21.units y = 0 then 0 else 1) → ∀ H',
        H' = H → tSeq (tAsg (tOp (rI0 fun i j => V.int (i + j)) (tOp (rI CMul fun i j => V.int (i * j)) (tOp (rI (fun _ j => 0 < j ∧ j < 18446744073709551616) fun i j => V.int (i / j)) (tVar 2) (tCall spSize [] E (tCons (tVar 1) tNil))) (tC (V.int 2))) (tVar 3)) (gName 4))
          (tRet (tCall (spNear CN) [] E (tCons (tCall spSign [] E (tCons (tOp (rI0 fun i j => V.int (Builtin.bitXor i j)) (tVar 0) (tVar 1)) tNil)) (tCons (tVar 4)
            (tCons (tOp (rI0 fun i j => V.int (i - j)) (tOp (rI0 fun i j => V.int (i + j)) (tOp (rI0 fun i j => V.int (i - j)) (tCall spPow [] E (tCons (tVar 0) tNil)) (tCall spPow [] E (tCons (tVar 1) tNil))) (tC (V.int 1074))) (tC (V.int 109))) tNil)))))
          { nx := fun x H' => Q V.non H', rt := Q } [some (V.int (x : Int)), some (V.int (y : Int)), some (V.int ((Sv21.units x * 2 ^ 108 : Nat) : Int)), some (V.int (r : Int)), none] H' := by
      intro r hr' H' eH
      subst eH
      refine ⟨_, rfl, _, rfl, y, rfl, _, _, rfl, rfl, ⟨by omega, by omega⟩, _, _, rfl, rfl, .inr ⟨by decide, by decide⟩, _, rfl, _, _, rfl, rfl, ?_⟩
      refine ⟨_, rfl, _, rfl, _, _, rfl, rfl, (x ||| y) - (x &&& y), ?_, x2, ?_⟩
      · dsimp only
        rw [xor_nat]
        rfl
      · rw [x3]
        refine ⟨_, rfl, _, rfl, x, rfl, _, rfl, y, rfl, _, _, rfl, rfl, _, _, rfl, rfl, _, _, rfl, rfl, _, quo x y, (pw x : Int) - (pw y : Int) + 1074 - 109, ?_, by omega, by omega, quo_lt x y, h⟩
        dsimp only
        rw [quo_val hr']
        rfl
    by_cases hm : Sv21.units x * 2 ^ 108 % Sv21.units y = 0
    · rw [show ((((Sv21.units x * 2 ^ 108 : Nat) : Int) % ((Sv21.units y : Nat) : Int)) != 0) = false from by rw [← Int.natCast_emod, hm]; rfl]
      exact iteF (last 0 (by rw [if_pos hm]) H rfl)
    · rw [show ((((Sv21.units x * 2 ^ 108 : Nat) : Int) % ((Sv21.units y : Nat) : Int)) != 0) = true from by
        rw [← Int.natCast_emod]
        exact bne_iff_ne.mpr (by omega)]
      exact iteT (last 1 (by rw [if_neg hm]) H rfl)
end
section
variable {P : Program} {w : World} {K : PySem.W.Frag} {mg : Str → Option Value} {base : Heap} {CN CW CR CO CQ : Addr}
theorem ok_middle {f : Addr} {fd : FuncData} (F : Fun K "middle" "middle" s_middle f fd) (hH : ∃ t, mg "HALF" = some (.int 4602678819172646912 t)) (G1 : FnR P w K mg base 3 "plus" ["x", "y"] (spPlus CN)) (G2 : FnR P w K mg base 3 "times" ["x", "y"] (spTimes CN)) (G3 : FnR P w K mg base 4 "minus" ["x", "y"] (spMinus CN)) :
    FnOk P w K mg base (CX1 P w) 5 f fd ["a", "b"] (spMid CN) := by
  refine F.ok1 (k := 4) sc_middle (fun vs H Q E h => ?_) (fun cdv A outer s H vs Q E hr h => ?_)
  · obtain ⟨a, b, rfl, _⟩ := h
    rfl
  · obtain ⟨a, b, rfl, ha, hb, h⟩ := h
    refine ⟨_, pss_one (ps_ret (pe_fn G1 hr rfl thrC (pa_cons (pv 0) (pa_cons (pe_fn G2 hr rfl thrC (pa_cons (pe_fn G3 hr rfl thrC (pa_cons (pv 1) (pa_cons (pv 0) pa_nil))) (pa_cons (pe_gi hH rfl) pa_nil))) pa_nil)))), ?_⟩
    refine ⟨_, rfl, _, rfl, _, rfl, b, a, rfl, hb, ha, trivial, ite_imp h (fun f1 h => ?_) fun _ h => h⟩
    refine ⟨Sv21.sub b a, Sv21.half, rfl, ⟨sub_lt b a, f1⟩, half_ok, trivial, ite_imp h (fun f2 h => ?_) fun _ h => h⟩
    exact ⟨a, Sv21.mul (Sv21.sub b a) Sv21.half, rfl, ha, ⟨mul_lt _ _, f2⟩, trivial, h⟩
end
structure TxtPiece (K : PySem.W.Frag) (mg : Str → Option Value) (C : Addr) : Prop where
  cl : Cls K C
  n_a : NoAttr K C "a"
  n_m : NoAttr K C "m"
  n_b : NoAttr K C "b"
  n_at_a : NoAttr K C "at_a"
  n_at_m : NoAttr K C "at_m"
  n_at_b : NoAttr K C "at_b"
  n_estimate : NoAttr K C "estimate"
  mg : mg "Piece" = some (.ref C)
section
variable {P : Program} {w : World} {K : PySem.W.Frag} {mg : Str → Option Value} {base : Heap} {CN CW CR CO CQ CP : Addr}
open Sv21 (Io Ans)
def spPInit (CP CN : Addr) : Sp := fun vs H Q E => ∃ (p dx : Addr) (a m b fa fm fb : Nat), vs = [.ref p, .int (a : Int), .int (m : Int), .int (b : Int), .int (fa : Int), .int (fm : Int), .int (fb : Int)] ∧ H p = some (.ins CP dx []) ∧ Dbl a ∧ Dbl b ∧ Dbl fa ∧ Dbl fm ∧ Dbl fb ∧
  Simp a b fa fm fb (fun s => ∀ H' : Hp, H' p = some (.ins CP dx (pf a m b fa fm fb s)) → (∀ c, c ≠ p → H' c = H c) → Q .non H') (∀ H' : Hp, (∀ c, c ≠ p → H' c = H c) → E (.ref CN) none H')
theorem ok_pinit {f : Addr} {fd : FuncData} (F : Fun K "__init__" "Piece.__init__" s_Piece_init f fd) (TP : TxtPiece K mg CP) (h4 : ∃ t, mg "FOUR" = some (.int 4616189618054758400 t)) (h6 : ∃ t, mg "SIX" = some (.int 4618441417868443648 t))
    (GP : FnR P w K mg base 3 "plus" ["x", "y"] (spPlus CN)) (GT : FnR P w K mg base 3 "times" ["x", "y"] (spTimes CN)) (GM : FnR P w K mg base 4 "minus" ["x", "y"] (spMinus CN)) (GD : FnR P w K mg base 3 "divided" ["x", "y"] (spDiv CN)) :
    FnOk P w K mg base (CX1 P w) 5 f fd ["self", "a", "m", "b", "at_a", "at_m", "at_b"] (spPInit CP CN) := by
  refine F.ok1 (k := 4) sc_Piece_init (fun vs H Q E h => ?_) (fun cdv A outer s H vs Q E hr h => ?_)
  · obtain ⟨p, dx, a, m, b, fa, fm, fb, rfl, _⟩ := h
    rfl
  · obtain ⟨p, dx, a, m, b, fa, fm, fb, rfl, hp, ha, hb, hfa, hfm, hfb, h⟩ := h
    refine ⟨_,  (pss_cons (ps_fld (pv 0) (pv 1) rfl)
      (pss_cons (ps_fld (pv 0) (pv 2) rfl)
      (pss_cons (ps_fld (pv 0) (pv 3) rfl)
      (pss_cons (ps_fld (pv 0) (pv 4) rfl)
      (pss_cons (ps_fld (pv 0) (pv 5) rfl)
      (pss_cons (ps_fld (pv 0) (pv 6) rfl)
      (pss_cons (ps_set (i := 7) sc_Piece_init.nd rfl (Or.inl rfl) (pe_fn GP hr rfl thrC (pa_cons (pe_fn GP hr rfl thrC (pa_cons (pv 4) (pa_cons (pe_fn GT hr rfl thrC (pa_cons (pe_gi h4 rfl) (pa_cons (pv 5) pa_nil))) pa_nil))) (pa_cons (pv 6) pa_nil))))
      (pss_one (ps_fld (pv 0) (pe_fn GT hr rfl thrC (pa_cons (pv 7) (pa_cons (pe_fn GD hr rfl thrC (pa_cons (pe_fn GM hr rfl thrC (pa_cons (pv 3) (pa_cons (pv 1) pa_nil))) (pa_cons (pe_gi h6 rfl) pa_nil))) pa_nil))) rfl))))))))), ?_⟩
    unfold Simp at h
    refine ⟨_, rfl, _, rfl, p, CP, dx, [], rfl, hp, TP.cl, TP.n_a, (by show 0 < 1000; decide), ?_⟩
    refine ⟨_, rfl, _, rfl, p, CP, dx, _, rfl, upd_same, TP.cl, TP.n_m, Nat.lt_of_lt_of_le (putF_lt Nat.zero_lt_one) (by decide), ?_⟩
    rw [upd_upd]
    refine ⟨_, rfl, _, rfl, p, CP, dx, _, rfl, upd_same, TP.cl, TP.n_b, Nat.lt_of_lt_of_le (putF_lt (putF_lt Nat.zero_lt_one)) (by decide), ?_⟩
    rw [upd_upd]
    refine ⟨_, rfl, _, rfl, p, CP, dx, _, rfl, upd_same, TP.cl, TP.n_at_a, Nat.lt_of_lt_of_le (putF_lt (putF_lt (putF_lt Nat.zero_lt_one))) (by decide), ?_⟩
    rw [upd_upd]
    refine ⟨_, rfl, _, rfl, p, CP, dx, _, rfl, upd_same, TP.cl, TP.n_at_m, Nat.lt_of_lt_of_le (putF_lt (putF_lt (putF_lt (putF_lt Nat.zero_lt_one)))) (by decide), ?_⟩
    rw [upd_upd]
    refine ⟨_, rfl, _, rfl, p, CP, dx, _, rfl, upd_same, TP.cl, TP.n_at_b, Nat.lt_of_lt_of_le (putF_lt (putF_lt (putF_lt (putF_lt (putF_lt Nat.zero_lt_one))))) (by decide), ?_⟩
    rw [upd_upd]
    refine ⟨_, rfl, _, rfl, Sv21.whole 4, fm, by rw [← four_eq]; rfl, whole_ok (by decide), hfm, trivial, ite_imp h (fun f1 h => ?_) fun _ h => h _ fun c hc => by rw [upd_ne hc]⟩
    refine ⟨fa, Sv21.mul (Sv21.whole 4) fm, rfl, hfa, ⟨mul_lt _ _, f1⟩, trivial, ite_imp h (fun f2 h => ?_) fun _ h => h _ fun c hc => by rw [upd_ne hc]⟩
    refine ⟨_, rfl, Sv21.add fa (Sv21.mul (Sv21.whole 4) fm), fb, rfl, ⟨add_lt _ _, f2⟩, hfb, trivial, ite_imp h (fun f3 h => ?_) fun _ h => h _ fun c hc => by rw [upd_ne hc]⟩
    refine ⟨_, rfl, _, rfl, _, rfl, b, a, rfl, hb, ha, trivial, ite_imp h (fun f4 h => ?_) fun _ h => h _ fun c hc => by rw [upd_ne hc]⟩
    refine ⟨Sv21.sub b a, Sv21.whole 6, by rw [← six_eq]; rfl, ⟨sub_lt _ _, f4⟩, whole_ok (by decide), whole_nz (by decide) (by decide), ite_imp h (fun f5 h => ?_) fun _ h => h _ fun c hc => by rw [upd_ne hc]⟩
    refine ⟨_, _, rfl, ⟨add_lt _ _, f3⟩, ⟨div_lt (whole_nz (by decide) (by decide)), f5⟩, trivial, ite_imp h (fun f6 h => ?_) fun _ h => h _ fun c hc => by rw [upd_ne hc]⟩
    refine ⟨_, rfl, p, CP, dx, _, rfl, upd_same, TP.cl, TP.n_estimate, Nat.lt_of_lt_of_le (putF_lt (putF_lt (putF_lt (putF_lt (putF_lt (putF_lt Nat.zero_lt_one)))))) (by decide), ?_⟩
    refine h _ ?_ fun c hc => by rw [upd_ne hc, upd_ne hc]
    rw [upd_same]
    rfl
end
end An

set_option Elab.async false
set_option linter.all false
set_option maxRecDepth 100000
set_option maxHeartbeats 4000000
namespace An
open PySem PySem.Spec PyProof.Rows L2
section
variable {P : Program} {w : World} {K : PySem.W.Frag} {mg : Str → Option Value} {base : Heap} {CN CW CR CO CQ CP : Addr}
open Sv21 (Io Ans)
def spPiece (CQ CN CW CP : Addr) (K : PySem.W.Frag) (d : Nat) : Sp := fun vs H Q E => ∃ (q la lq pc dx : Addr) (ns qs : List Nat) (e a m b fa fm fb s n : Nat) (k : Nat → Nat → Io) (R : List Nat → Option Ans → Prop),
  vs = [.ref q, .ref pc, .int (e : Int), .int (d : Int)] ∧ QA CQ K H q la lq ns qs ∧ Few ns ∧ qs.length ≤ ns.length ∧ H pc = some (.ins CP dx (pf a m b fa fm fb s)) ∧ Dbl e ∧ Dbl a ∧ Dbl m ∧ Dbl b ∧ Dbl fa ∧ Dbl fm ∧ Dbl fb ∧ Dbl s ∧
  Wp ns (Sv21.piece d e a m b fa fm fb s n k) qs R ∧
  ∀ (H' : Hp) (qs' : List Nat), Kept H H' q lq → Tail H H' q lq qs'.length qs' → (R qs' none → E (.ref CW) none H') ∧ (R qs' (some (Sv21.ok (-4))) → E (.ref CN) none H') ∧ ∀ r n', Dbl r → qs'.length ≤ ns.length → Wp ns (k r n') qs' R → Q (.int (r : Int)) H'
/-- one deeper -/
def spRec (CQ CN CW CP : Addr) (K : PySem.W.Frag) (d : Nat) : Sp := fun vs H Q E => ∃ d', d = d' + 1 ∧ spPiece CQ CN CW CP K d' vs H Q E
theorem ok_area_of_piece {f fI : Addr} {fd fdI : FuncData} {d : Nat} (hd20 : d ≤ 20) (F : Fun K "area_of_piece" "area_of_piece" s_area_of_piece f fd) (TQ : TxtQ K mg CQ) (TP : TxtPiece K mg CP) (MP : Mk K CP fI) (GI : FnOk P w K mg base (CX1 P w) 5 fI fdI ["self", "a", "m", "b", "at_a", "at_m", "at_b"] (spPInit CP CN))
    (bI : Binds K fdI ["self", "a", "m", "b", "at_a", "at_m", "at_b"] []) (hH : ∃ t, mg "HALF" = some (.int 4602678819172646912 t)) (h15 : ∃ t, mg "FIFTEEN" = some (.int 4624633867356078080 t))
    (GMd : FnR P w K mg base 5 "middle" ["a", "b"] (spMid CN)) (GP : FnR P w K mg base 3 "plus" ["x", "y"] (spPlus CN)) (GT : FnR P w K mg base 3 "times" ["x", "y"] (spTimes CN)) (GM : FnR P w K mg base 4 "minus" ["x", "y"] (spMinus CN)) (GD : FnR P w K mg base 3 "divided" ["x", "y"] (spDiv CN))
    (GL : FnR P w K mg base 3 "less" ["x", "y"] spLess) (GW : FnR P w K mg base 1 "without_sign" ["x"] spAbs) (GA : AskR P w K mg base CQ CN CW) (GR : FnR P w K mg base (6 + d) "area_of_piece" ["questions", "piece", "near", "deep"] (spRec CQ CN CW CP K d)) :
    FnOk P w K mg base (CX1 P w) (6 + d + 1) f fd ["questions", "piece", "near", "deep"] (spPiece CQ CN CW CP K d) := by
  obtain ⟨fA, fdA, FA, bA, mA⟩ := GA
  refine F.ok1 (k := 6 + d) sc_area_of_piece (fun vs H Q E h => ?_) (fun cdv A outer s H vs Q E hrd h => ?_)
  · obtain ⟨q, la, lq, pc, dx, ns, qs, e, a, m, b, fa, fm, fb, s, n, k, R, rfl, _⟩ := h
    rfl
  · obtain ⟨q, la, lq, pc, dx, ns, qs, e, a, m, b, fa, fm, fb, s0, n, k, R, rfl, A0, hns, hle, hpc, he, ha, hm, hb, hfa, hfm, hfb, hs0, h, fin⟩ := h
    have hr := hrd.mono (show 6 ≤ 6 + d from Nat.le_add_right _ _)
    refine ⟨_,  (pss_cons (ps_set (i := 4) sc_area_of_piece.nd rfl (Or.inl rfl) (pe_fn GMd hr rfl thrC (pa_cons (pe_fld (pv 1) rfl) (pa_cons (pe_fld (pv 1) rfl) pa_nil))))
      (pss_cons (ps_set (i := 5) sc_area_of_piece.nd rfl (Or.inl rfl) (pe_fn GMd hr rfl thrC (pa_cons (pe_fld (pv 1) rfl) (pa_cons (pe_fld (pv 1) rfl) pa_nil))))
      (pss_cons (ps_set (i := 6) sc_area_of_piece.nd rfl (Or.inl rfl) (pe_meth (pv 0) TQ.cl mA FA (hr.mono (by decide)) bA .nil (pass1 thrC) (pa_cons (pv 4) pa_nil)))
      (pss_cons (ps_set (i := 7) sc_area_of_piece.nd rfl (Or.inl rfl) (pe_meth (pv 0) TQ.cl mA FA (hr.mono (by decide)) bA .nil (pass1 thrC) (pa_cons (pv 5) pa_nil)))
      (pss_cons (ps_set (i := 8) sc_area_of_piece.nd rfl (Or.inl rfl) (pe_make MP GI hr rfl TP.mg bI .nil (pass1 thrC) (pa_cons (pe_fld (pv 1) rfl) (pa_cons (pv 4) (pa_cons (pe_fld (pv 1) rfl) (pa_cons (pe_fld (pv 1) rfl) (pa_cons (pv 6) (pa_cons (pe_fld (pv 1) rfl) pa_nil))))))))
      (pss_cons (ps_set (i := 9) sc_area_of_piece.nd rfl (Or.inl rfl) (pe_make MP GI hr rfl TP.mg bI .nil (pass1 thrC) (pa_cons (pe_fld (pv 1) rfl) (pa_cons (pv 5) (pa_cons (pe_fld (pv 1) rfl) (pa_cons (pe_fld (pv 1) rfl) (pa_cons (pv 7) (pa_cons (pe_fld (pv 1) rfl) pa_nil))))))))
      (pss_cons (ps_set (i := 10) sc_area_of_piece.nd rfl (Or.inl rfl) (pe_fn GP hr rfl thrC (pa_cons (pe_fld (pv 8) rfl) (pa_cons (pe_fld (pv 9) rfl) pa_nil))))
      (pss_cons (ps_set (i := 11) sc_area_of_piece.nd rfl (Or.inl rfl) (pe_fn GM hr rfl thrC (pa_cons (pv 10) (pa_cons (pe_fld (pv 1) rfl) pa_nil))))
      (pss_cons (ps_set (i := 12) sc_area_of_piece.nd rfl (Or.inl rfl) (pe_fn GT hr rfl thrC (pa_cons (pe_gi h15 rfl) (pa_cons (pv 2) pa_nil))))
      (pss_cons (ps_if (PW.pt (pw_or (pt_cmpR op_eq (pv 3) pe_int (nomark _)) (pw_or1 (pt_not (pt_val (pe_fn GL hr rfl thrC (pa_cons (pv 12) (pa_cons (pe_fn GW hr rfl thrC (pa_cons (pv 11) pa_nil)) pa_nil)))))))) (pss_one (ps_ret (pe_fn GP hr rfl thrC (pa_cons (pv 10) (pa_cons (pe_fn GD hr rfl thrC (pa_cons (pv 11) (pa_cons (pe_gi h15 rfl) pa_nil))) pa_nil))))) pss_nil)
      (pss_cons (ps_set (i := 13) sc_area_of_piece.nd rfl (Or.inl rfl) (pe_fn GT hr rfl thrC (pa_cons (pv 2) (pa_cons (pe_gi hH rfl) pa_nil))))
      (pss_cons (ps_set (i := 14) sc_area_of_piece.nd rfl (Or.inl rfl) (pe_fn GR hrd rfl thrC (pa_cons (pv 0) (pa_cons (pv 8) (pa_cons (pv 13) (pa_cons (pe_op op_sub (pv 3) pe_int) pa_nil)))) (Nat.le_refl _)))
      (pss_cons (ps_set (i := 15) sc_area_of_piece.nd rfl (Or.inl rfl) (pe_fn GR hrd rfl thrC (pa_cons (pv 0) (pa_cons (pv 9) (pa_cons (pv 13) (pa_cons (pe_op op_sub (pv 3) pe_int) pa_nil)))) (Nat.le_refl _)))
      (pss_one (ps_ret (pe_fn GP hr rfl thrC (pa_cons (pv 14) (pa_cons (pv 15) pa_nil)))))))))))))))))), ?_⟩
    have no0 : ∀ {H' : Hp} {qs' : List Nat}, Kept H H' q lq → Tail H H' q lq qs'.length qs' → R qs' none → E (.ref CW) none H' := fun k1 k2 => (fin _ _ k1 k2).1
    have no4 : ∀ {H' : Hp} {qs' : List Nat}, Kept H H' q lq → Tail H H' q lq qs'.length qs' → R qs' (some (Sv21.ok (-4))) → E (.ref CN) none H' := fun k1 k2 => (fin _ _ k1 k2).2.1
    rw [piece_eq] at h
    unfold pieceTo at h
    rw [wp_middle] at h
    refine ⟨_, rfl, pc, CP, dx, _, _, rfl, hpc, TP.cl, TP.n_a, pf_a, _, rfl, pc, CP, dx, _, _, rfl, hpc, TP.cl, TP.n_m, pf_m, a, m, rfl, ha, hm, ite_imp h (fun f1 h => ite_imp h (fun f2 h => ite_imp h (fun f3 h => ?_) fun _ h => no4 .refl A0.tail h) fun _ h => no4 .refl A0.tail h) fun _ h => no4 .refl A0.tail h⟩
    have hl : Dbl (Sv21.add a (Sv21.mul (Sv21.sub m a) Sv21.half)) := ⟨add_lt _ _, f3⟩
    generalize Sv21.add a (Sv21.mul (Sv21.sub m a) Sv21.half) = l at h hl ⊢
    rw [wp_middle] at h
    refine ⟨_, rfl, pc, CP, dx, _, _, rfl, hpc, TP.cl, TP.n_m, pf_m, _, rfl, pc, CP, dx, _, _, rfl, hpc, TP.cl, TP.n_b, pf_b, m, b, rfl, hm, hb, ite_imp h (fun f1 h => ite_imp h (fun f2 h => ite_imp h (fun f3 h => ?_) fun _ h => no4 .refl A0.tail h) fun _ h => no4 .refl A0.tail h) fun _ h => no4 .refl A0.tail h⟩
    have hr2 : Dbl (Sv21.add m (Sv21.mul (Sv21.sub b m) Sv21.half)) := ⟨add_lt _ _, f3⟩
    generalize Sv21.add m (Sv21.mul (Sv21.sub b m) Sv21.half) = r at h hr2 ⊢
    obtain ⟨dq, ho⟩ := A0.ob
    refine ⟨_, rfl, q, dq, _, rfl, ho, qf_ask la lq, _, rfl, q, la, lq, ns, qs, l, rfl, A0, hle, hns.len, ?_⟩
    refine ask_r hl.2 hns.dbl h (no0 .asked (.asked A0.qne)) (no4 .asked (.asked A0.qne)) fun fl hfl hle1 h => ?_
    have A1 : QA CQ K (asks H q lq (qs ++ [l])) q la lq ns (qs ++ [l]) := A0.step
    obtain ⟨dq1, ho1⟩ := A1.ob
    refine ⟨_, rfl, q, dq1, _, rfl, ho1, qf_ask la lq, _, rfl, q, la, lq, ns, qs ++ [l], r, rfl, A1, hle1, hns.len, ?_⟩
    rw [asks_asks]
    refine ask_r hr2.2 hns.dbl h (no0 .asked (.asked A0.qne)) (no4 .asked (.asked A0.qne)) fun fr hfr hle2 h => ?_
    have pcne : pc ≠ lq := ne_of hpc A0.asked (fun z => nomatch z)
    have pcnq : pc ≠ q := pc_ne hpc A0
    have k1 : Kept H (asks H q lq (qs ++ [l] ++ [r])) q lq := .asked
    have l1 : Tail H (asks H q lq (qs ++ [l] ++ [r])) q lq (qs ++ [l] ++ [r]).length (qs ++ [l] ++ [r]) := .asked A0.qne
    have p1 := k1 pc _ pcnq pcne hpc
    generalize asks H q lq (qs ++ [l] ++ [r]) = H1 at k1 l1 p1 ⊢
    generalize qs ++ [l] ++ [r] = qs2 at h l1 hle2
    refine ⟨_, rfl, pc, CP, dx, _, _, rfl, p1, TP.cl, TP.n_a, pf_a, _, rfl, _, rfl, pc, CP, dx, _, _, rfl, p1, TP.cl, TP.n_m, pf_m, _, rfl, pc, CP, dx, _, _, rfl, p1, TP.cl, TP.n_at_a, pf_fa, _, rfl, _, rfl, pc, CP, dx, _, _, rfl, p1, TP.cl, TP.n_at_m, pf_fm, fun x dx1 nx ndx _ => ?_⟩
    refine ⟨x, dx1, a, l, m, fa, fl, fm, rfl, upd_same, ha, hm, hfa, hfl, hfm, simp_mono (wp_simpson.mp h) (fun s1 hs1 h H2 e2 k2 => ⟨rfl, ?_⟩) fun h H2 k2 => no4 (k1.trans (.of (made_keep nx ndx k2))) (l1.made (made_keep nx ndx k2)) h⟩
    have m2 := made_keep nx ndx k2
    have p2 := m2 _ _ p1
    have l2 := l1.made m2
    have k02 := k1.trans (.of m2)
    refine ⟨_, rfl, pc, CP, dx, _, _, rfl, p2, TP.cl, TP.n_m, pf_m, _, rfl, _, rfl, pc, CP, dx, _, _, rfl, p2, TP.cl, TP.n_b, pf_b, _, rfl, pc, CP, dx, _, _, rfl, p2, TP.cl, TP.n_at_m, pf_fm, _, rfl, _, rfl, pc, CP, dx, _, _, rfl, p2, TP.cl, TP.n_at_b, pf_fb, fun y dx2 ny ndy _ => ?_⟩
    refine ⟨y, dx2, m, r, b, fm, fr, fb, rfl, upd_same, hm, hb, hfm, hfr, hfb, simp_mono (wp_simpson.mp h) (fun s2 hs2 h H3 e3 k3 => ⟨rfl, ?_⟩) fun h H3 k3 => no4 (k02.trans (.of (made_keep ny ndy k3))) (l2.made (made_keep ny ndy k3)) h⟩
    have m3 := made_keep ny ndy k3
    have p3 := m3 _ _ p2
    have l3 := l2.made m3
    have x3 := m3 _ _ e2
    have k03 := k02.trans (.of m3)
    rw [wp_plus] at h
    refine ⟨_, rfl, x, CP, dx1, _, _, rfl, x3, TP.cl, TP.n_estimate, pf_s, _, rfl, y, CP, dx2, _, _, rfl, e3, TP.cl, TP.n_estimate, pf_s, s1, s2, rfl, hs1, hs2, trivial, ite_imp h (fun g1 h => ?_) fun _ h => no4 k03 l3 h⟩
    have ht : Dbl (Sv21.add s1 s2) := ⟨add_lt _ _, g1⟩
    generalize Sv21.add s1 s2 = t at h ht ⊢
    rw [wp_less] at h
    refine ⟨_, rfl, _, rfl, pc, CP, dx, _, _, rfl, p3, TP.cl, TP.n_estimate, pf_s, t, s0, rfl, ht, hs0, trivial, ite_imp h (fun g2 h => ?_) fun _ h => no4 k03 l3 h⟩
    have hD : Dbl (Sv21.sub t s0) := ⟨sub_lt _ _, g2⟩
    generalize Sv21.sub t s0 = D at h hD ⊢
    rw [wp_times] at h
    refine ⟨_, rfl, Sv21.whole 15, e, by rw [← fifteen_eq]; rfl, whole_ok (by decide), he, trivial, ite_imp h (fun g3 h => ?_) fun _ h => no4 k03 l3 h⟩
    have hE : Dbl (Sv21.mul (Sv21.whole 15) e) := ⟨mul_lt _ _, g3⟩
    generalize Sv21.mul (Sv21.whole 15) e = e15 at h hE ⊢
    unfold pieceRest at h
    -- near enough, or as deep as may be
    have stop : Wp ns (Sv21.over D (Sv21.whole 15) fun c => Sv21.plus t c fun r => k r (n + 2)) qs2 R → tRet (tCall (spPlus CN) [] E (tCons (tVar 10) (tCons (tCall (spDiv CN) [] E (tCons (tVar 11) (tCons (tC (V.int 4624633867356078080)) tNil))) tNil)))
        { nx := fun _ H' => Q V.non H', rt := Q } [some (.ref q), some (.ref pc), some (.int (e : Int)), some (.int (d : Int)), some (.int (l : Int)), some (.int (r : Int)), some (.int (fl : Int)), some (.int (fr : Int)), some (.ref x), some (.ref y), some (.int (t : Int)), some (.int (D : Int)), some (.int (e15 : Int)), none, none, none] H3 := by
      intro h
      rw [wp_over] at h
      refine ⟨_, rfl, _, rfl, D, Sv21.whole 15, by rw [← fifteen_eq]; rfl, hD, whole_ok (by decide), whole_nz (by decide) (by decide), ite_imp h (fun g4 h => ?_) fun _ h => no4 k03 l3 h⟩
      rw [wp_plus] at h
      refine ⟨t, _, rfl, ht, ⟨div_lt (whole_nz (by decide) (by decide)), g4⟩, trivial, ite_imp h (fun g5 h => ?_) fun _ h => no4 k03 l3 h⟩
      exact (fin _ _ k03 l3).2.2 _ _ ⟨add_lt _ _, g5⟩ hle2 h
    refine ⟨_, rfl, rfl, _, rfl, ?_⟩
    rw [dec_int]
    by_cases z : d = 0
    · rw [decide_eq_true (show (d : Int) = 0 by omega)]
      rw [if_pos (.inl z)] at h
      exact iteT (iteT (stop h))
    · rw [decide_eq_false (show ¬ (d : Int) = 0 by omega)]
      have hmag : Sv21.mag D < 2 ^ 64 := Nat.lt_of_lt_of_le (mag_lt D) (by decide)
      refine iteF ⟨_, rfl, _, rfl, D, rfl, e15, Sv21.mag D, rfl, hE.1, hmag, _, rfl, ?_⟩
      cases c : Sv21.less e15 (Sv21.mag D)
      · rw [if_pos (.inr c)] at h
        exact iteT (stop h)
      · rw [if_neg (fun w => by rcases w with w | w; exact z w; rw [c] at w; cases w)] at h
        refine iteF ?_
        rw [wp_times] at h
        refine ⟨_, rfl, e, Sv21.half, rfl, he, half_ok, trivial, ite_imp h (fun g4 h => ?_) fun _ h => no4 k03 l3 h⟩
        have he2 : Dbl (Sv21.mul e Sv21.half) := ⟨mul_lt _ _, g4⟩
        generalize Sv21.mul e Sv21.half = e2' at h he2 ⊢
        obtain ⟨d', rfl⟩ : ∃ d', d = d' + 1 := ⟨d - 1, by omega⟩
        rw [Nat.add_sub_cancel] at h
        have ed : ((d' + 1 : Nat) : Int) - 1 = (d' : Int) := by omega
        have A3 : QA CQ K H3 q la lq ns qs2 := A0.kept k03 l3
        refine ⟨_, rfl, _, rfl, _, rfl, _, rfl, _, _, rfl, rfl, d', rfl, q, la, lq, x, dx1, ns, qs2, e2', a, l, m, fa, fl, fm, s1, n + 2, _, R, ?_, A3, hns, hle2, x3, he2, ha, hl, hm, hfa, hfl, hfm, hs1, h, fun H4 qs4 k4 l4 => ⟨no0 (k03.trans k4) (l3.trans l4), no4 (k03.trans k4) (l3.trans l4), fun r1 n1 hr1 hle4 h => ?_⟩⟩
        · dsimp only
          rw [ed]
          rfl
        have yne : y ≠ lq := ne_of e3 l3.2 (fun z => nomatch z)
        have ynq : y ≠ q := pc_ne e3 A3
        have A4 : QA CQ K H4 q la lq ns qs4 := A3.kept k4 l4
        refine ⟨_, rfl, _, rfl, _, rfl, _, rfl, _, _, rfl, rfl, d', rfl, q, la, lq, y, dx2, ns, qs4, e2', m, r, b, fm, fr, fb, s2, n1, _, R, ?_, A4, hns, hle4, k4 _ _ ynq yne e3, he2, hm, hr2, hb, hfm, hfr, hfb, hs2, h, fun H5 qs5 k5 l5 => ⟨no0 ((k03.trans k4).trans k5) ((l3.trans l4).trans l5), no4 ((k03.trans k4).trans k5) ((l3.trans l4).trans l5), fun r2 n2 hr3 hle5 h => ?_⟩⟩
        · dsimp only
          rw [ed]
          rfl
        rw [wp_plus] at h
        refine ⟨_, rfl, _, rfl, r1, r2, rfl, hr1, hr3, trivial, ite_imp h (fun g6 h => ?_) fun _ h => no4 ((k03.trans k4).trans k5) ((l3.trans l4).trans l5) h⟩
        exact (fin _ _ ((k03.trans k4).trans k5) ((l3.trans l4).trans l5)).2.2 _ _ ⟨add_lt _ _, g6⟩ hle5 h
end
end An

set_option Elab.async false
set_option linter.all false
set_option maxRecDepth 100000
set_option maxHeartbeats 4000000
namespace An
open PySem PySem.Spec PyProof.Rows L2
section
variable {P : Program} {w : World} {K : PySem.W.Frag} {mg : Str → Option Value} {base : Heap} {CN CW CR CO CQ CP : Addr}
open Sv21 (Io Ans)
theorem rough_piece {f : Addr} {fd : FuncData} (F : Fun K "area_of_piece" "area_of_piece" s_area_of_piece f fd) (b : Binds K fd ["questions", "piece", "near", "deep"] []) (hm : mg "area_of_piece" = some (.ref f))
    (step : ∀ d, d ≤ 20 → FnR P w K mg base (6 + d) "area_of_piece" ["questions", "piece", "near", "deep"] (spRec CQ CN CW CP K d) → FnOk P w K mg base (CX1 P w) (6 + d + 1) f fd ["questions", "piece", "near", "deep"] (spPiece CQ CN CW CP K d)) :
    ∀ d, d ≤ 20 → FnOk P w K mg base (CX1 P w) (6 + d + 1) f fd ["questions", "piece", "near", "deep"] (spPiece CQ CN CW CP K d) := by
  intro d
  induction d with
  | zero =>
    intro h
    refine step 0 h ⟨f, fd, ?_, b, hm, F.kp⟩
    refine F.ok1 (k := 5) sc_area_of_piece (fun vs H Q E h => ?_) (fun cdv A outer s H vs Q E hr h => ?_)
    · obtain ⟨d', z, _⟩ := h
      cases z
    · obtain ⟨d', z, _⟩ := h
      cases z
  | succ d ih =>
    intro h
    refine step (d + 1) h ⟨f, fd, (ih (by omega)).imp fun vs H Q E h => ?_, b, hm, F.kp⟩
    obtain ⟨d', z, h⟩ := h
    cases z
    exact h
theorem wp_rough {ns : List Nat} {a b e : Nat} {qs : List Nat} {R : List Nat → Option Ans → Prop} : Wp ns (Sv21.program (.rough a b e)) qs R ↔ (if Sv21.finite a = true then (if Sv21.finite b = true then (if Sv21.finite e = true then
    (if Sv21.less 0 e = false then R qs (some (Sv21.ok (-2))) else Wp ns (Sv21.rough a b e) qs R) else R qs (some (Sv21.ok (-4)))) else R qs (some (Sv21.ok (-4)))) else R qs (some (Sv21.ok (-4)))) := by
  unfold Sv21.program
  dsimp only
  unfold Sv21.needs Sv21.needs Sv21.needs Sv21.needs
  rw [wp_need, wp_need, wp_need, less_zero]
  by_cases h : Sv21.zero e = true ∨ Sv21.minus e = true
  · have hz : (!(Sv21.zero e || Sv21.minus e)) = false := by
      rcases h with h | h
      · rw [h]; rfl
      · rw [h, Bool.or_true]; rfl
    rw [if_pos h, wp_ret, if_pos hz]
  · have hz : ¬ (!(Sv21.zero e || Sv21.minus e)) = false := by
      intro z
      rw [Bool.not_eq_false', Bool.or_eq_true] at z
      exact h z
    rw [if_neg h, if_neg hz]
def spRoughOut (CQ CN CW CR CO : Addr) (K : PySem.W.Frag) : Sp := fun vs H Q E => ∃ (q la lq : Addr) (ns : List Nat) (a b e : Nat), vs = [.ref q, .int (a : Int), .int (b : Int), .int (e : Int)] ∧ a < 2 ^ 64 ∧ b < 2 ^ 64 ∧ e < 2 ^ 64 ∧
  QA CQ K H q la lq ns [] ∧ Few ns ∧ Wp ns (Sv21.program (.rough a b e)) [] (EndG CN CW CR CO H q lq Q E)
theorem ok_rough_out {f fI : Addr} {fd fdI : FuncData} (F : Fun K "rough_out" "rough_out" s_rough_out f fd) (T : Txt K mg CN CW CR) (TQ : TxtQ K mg CQ) (TP : TxtPiece K mg CP) (MP : Mk K CP fI) (GI : FnOk P w K mg base (CX1 P w) 5 fI fdI ["self", "a", "m", "b", "at_a", "at_m", "at_b"] (spPInit CP CN))
    (bI : Binds K fdI ["self", "a", "m", "b", "at_a", "at_m", "at_b"] []) (h0 : ∃ t, mg "ZERO" = some (.int 0 t)) (h20 : ∃ t, mg "DEEPEST" = some (.int 20 t)) (G1 : FnR P w K mg base 1 "finite" ["x"] (spFin CN))
    (GMd : FnR P w K mg base 5 "middle" ["a", "b"] (spMid CN)) (GL : FnR P w K mg base 3 "less" ["x", "y"] spLess) (GA : AskR P w K mg base CQ CN CW) (GR : FnR P w K mg base 27 "area_of_piece" ["questions", "piece", "near", "deep"] (spPiece CQ CN CW CP K 20)) :
    FnOk P w K mg base (CX1 P w) 28 f fd ["questions", "a", "b", "near"] (spRoughOut CQ CN CW CR CO K) := by
  obtain ⟨fA, fdA, FA, bA, mA⟩ := GA
  refine F.ok1 (k := 27) sc_rough_out (fun vs H Q E h => ?_) (fun cdv A outer s H vs Q E hr h => ?_)
  · obtain ⟨q, la, lq, ns, a, b, e, rfl, _⟩ := h
    rfl
  · obtain ⟨q, la, lq, ns, a, b, e, rfl, ha, hb, he, A0, hns, h⟩ := h
    refine ⟨_,  (pss_cons (ps_expr (pe_fn G1 hr rfl thrC (pa_cons (pv 1) pa_nil)))
      (pss_cons (ps_expr (pe_fn G1 hr rfl thrC (pa_cons (pv 2) pa_nil)))
      (pss_cons (ps_expr (pe_fn G1 hr rfl thrC (pa_cons (pv 3) pa_nil)))
      (pss_cons (ps_if (pt_not (pt_val (pe_fn GL hr rfl thrC (pa_cons (pe_gi h0 rfl) (pa_cons (pv 3) pa_nil))))) (pss_one (ps_raise T.cR rfl T.mR hr.hd)) pss_nil)
      (pss_cons (ps_set (i := 4) sc_rough_out.nd rfl (Or.inl rfl) (pe_fn GMd hr rfl thrC (pa_cons (pv 1) (pa_cons (pv 2) pa_nil))))
      (pss_cons (ps_set (i := 5) sc_rough_out.nd rfl (Or.inl rfl) (pe_meth (pv 0) TQ.cl mA FA (hr.mono (by decide)) bA .nil (pass1 thrC) (pa_cons (pv 1) pa_nil)))
      (pss_cons (ps_set (i := 6) sc_rough_out.nd rfl (Or.inl rfl) (pe_meth (pv 0) TQ.cl mA FA (hr.mono (by decide)) bA .nil (pass1 thrC) (pa_cons (pv 4) pa_nil)))
      (pss_cons (ps_set (i := 7) sc_rough_out.nd rfl (Or.inl rfl) (pe_meth (pv 0) TQ.cl mA FA (hr.mono (by decide)) bA .nil (pass1 thrC) (pa_cons (pv 2) pa_nil)))
      (pss_cons (ps_set (i := 8) sc_rough_out.nd rfl (Or.inl rfl) (pe_make MP GI (hr.mono (by decide)) rfl TP.mg bI .nil (pass1 thrC) (pa_cons (pv 1) (pa_cons (pv 4) (pa_cons (pv 2) (pa_cons (pv 5) (pa_cons (pv 6) (pa_cons (pv 7) pa_nil))))))))
      (pss_one (ps_ret (pe_lst (pa_cons (pe_fn GR hr rfl thrC (pa_cons (pv 0) (pa_cons (pv 8) (pa_cons (pv 3) (pa_cons (pe_gi h20 rfl) pa_nil))))) pa_nil))))))))))))), ?_⟩
    have no0 : ∀ {H' : Hp} {qs' : List Nat}, Kept H H' q lq → Tail H H' q lq qs'.length qs' → EndG CN CW CR CO H q lq Q E qs' none → E (.ref CW) none H' := fun _ k2 z => z _ k2
    have no4 : ∀ {H' : Hp} {qs' : List Nat}, Kept H H' q lq → Tail H H' q lq qs'.length qs' → EndG CN CW CR CO H q lq Q E qs' (some (Sv21.ok (-4))) → E (.ref CN) none H' := fun _ k2 z => endg_fin z _ k2
    rw [wp_rough] at h
    refine ⟨_, rfl, a, rfl, ite_imp h (fun fa h => ?_) fun _ h => no4 .refl A0.tail h⟩
    refine ⟨_, rfl, b, rfl, ite_imp h (fun fb h => ?_) fun _ h => no4 .refl A0.tail h⟩
    refine ⟨_, rfl, e, rfl, ite_imp h (fun fe h => ?_) fun _ h => no4 .refl A0.tail h⟩
    have ha : Dbl a := ⟨ha, fa⟩
    have hb : Dbl b := ⟨hb, fb⟩
    have he : Dbl e := ⟨he, fe⟩
    refine ⟨_, rfl, 0, e, rfl, by decide, he.1, _, rfl, ?_⟩
    cases c : Sv21.less 0 e
    · rw [if_pos c] at h
      exact iteT (endg_two h _ A0.tail)
    · rw [if_neg (by rw [c]; exact Bool.noConfusion)] at h
      refine iteF ?_
      unfold Sv21.rough at h
      rw [wp_middle] at h
      refine ⟨_, rfl, _, rfl, a, b, rfl, ha, hb, ite_imp h (fun f1 h => ite_imp h (fun f2 h => ite_imp h (fun f3 h => ?_) fun _ h => no4 .refl A0.tail h) fun _ h => no4 .refl A0.tail h) fun _ h => no4 .refl A0.tail h⟩
      have hm : Dbl (Sv21.add a (Sv21.mul (Sv21.sub b a) Sv21.half)) := ⟨add_lt _ _, f3⟩
      generalize Sv21.add a (Sv21.mul (Sv21.sub b a) Sv21.half) = m at h hm ⊢
      obtain ⟨dq, ho⟩ := A0.ob
      refine ⟨_, rfl, q, dq, _, rfl, ho, qf_ask la lq, _, rfl, q, la, lq, ns, [], a, rfl, A0, Nat.zero_le _, hns.len, ?_⟩
      refine ask_r fa hns.dbl h (no0 .asked (.asked A0.qne)) (no4 .asked (.asked A0.qne)) fun ya hya hle1 h => ?_
      have A1 : QA CQ K (asks H q lq ([] ++ [a])) q la lq ns ([] ++ [a]) := A0.step
      obtain ⟨dq1, ho1⟩ := A1.ob
      refine ⟨_, rfl, q, dq1, _, rfl, ho1, qf_ask la lq, _, rfl, q, la, lq, ns, [] ++ [a], m, rfl, A1, hle1, hns.len, ?_⟩
      rw [asks_asks]
      refine ask_r hm.2 hns.dbl h (no0 .asked (.asked A0.qne)) (no4 .asked (.asked A0.qne)) fun ym hym hle2 h => ?_
      have A2 : QA CQ K (asks H q lq ([] ++ [a] ++ [m])) q la lq ns ([] ++ [a] ++ [m]) := A0.step
      obtain ⟨dq2, ho2⟩ := A2.ob
      refine ⟨_, rfl, q, dq2, _, rfl, ho2, qf_ask la lq, _, rfl, q, la, lq, ns, [] ++ [a] ++ [m], b, rfl, A2, hle2, hns.len, ?_⟩
      rw [asks_asks]
      refine ask_r fb hns.dbl h (no0 .asked (.asked A0.qne)) (no4 .asked (.asked A0.qne)) fun yb hyb hle3 h => ?_
      have k1 : Kept H (asks H q lq ([] ++ [a] ++ [m] ++ [b])) q lq := .asked
      have l1 : Tail H (asks H q lq ([] ++ [a] ++ [m] ++ [b])) q lq ([] ++ [a] ++ [m] ++ [b]).length ([] ++ [a] ++ [m] ++ [b]) := .asked A0.qne
      generalize asks H q lq ([] ++ [a] ++ [m] ++ [b]) = H1 at k1 l1 ⊢
      generalize [] ++ [a] ++ [m] ++ [b] = qs1 at h l1 hle3
      refine ⟨_, rfl, _, rfl, _, rfl, _, rfl, _, rfl, _, rfl, fun x dx1 nx ndx _ => ?_⟩
      refine ⟨x, dx1, a, m, b, ya, ym, yb, rfl, upd_same, ha, hb, hya, hym, hyb, simp_mono (wp_simpson.mp h) (fun s1 hs1 h H2 e2 k2 => ⟨rfl, ?_⟩) fun h H2 k2 => no4 (k1.trans (.of (made_keep nx ndx k2))) (l1.made (made_keep nx ndx k2)) h⟩
      have m2 := made_keep nx ndx k2
      have l2 := l1.made m2
      have k02 := k1.trans (.of m2)
      refine ⟨_, rfl, _, rfl, _, rfl, q, la, lq, x, dx1, ns, qs1, e, a, m, b, ya, ym, yb, s1, 3, _, _, rfl, A0.kept k02 l2, hns, hle3, e2, he, ha, hm, hb, hya, hym, hyb, hs1, h, fun H3 qs3 k3 l3 => ⟨no0 (k02.trans k3) (l2.trans l3), no4 (k02.trans k3) (l2.trans l3), fun r n' hr' hle4 h => ?_⟩⟩
      refine ⟨(by show 1 ≤ sizeLine; decide), fun p hp => ?_⟩
      refine endg_out (n := n') (wp_ret.mp h) _ p ((l2.trans l3).made fun b o e => ?_) (by rw [upd_same]; rfl)
      rw [upd_ne (fun z => by rw [z] at e; have hp' : H3 p = none := hp; rw [hp'] at e; cases e)]
      exact e
end
end An

set_option Elab.async false
set_option linter.all false
set_option maxRecDepth 100000
set_option maxHeartbeats 4000000
namespace An
open PySem PySem.Spec PyProof.Rows L2
section
open PySem.W (FnAt kla_obj kla_fn CodeHd envX)
/-- a def of the text, bound to its name -/
def FunAt (K : PySem.W.Frag) (mg : Str → Option Value) (x : Str) (st : Stmt) (ps : List Str) : Prop := ∃ f fd, Fun K x x st f fd ∧ Binds K fd ps [] ∧ mg x = some (.ref f)
theorem FunAt.r {P : Program} {w : World} {K : PySem.W.Frag} {mg : Str → Option Value} {base : Heap} {k : Nat} {x : Str} {st : Stmt} {ps : List Str} {sp : Sp} (h : FunAt K mg x st ps) (ok : ∀ f fd, Fun K x x st f fd → FnOk P w K mg base (CX1 P w) k f fd ps sp) : FnR P w K mg base k x ps sp :=
  let ⟨f, fd, F, b, m⟩ := h; ⟨f, fd, ok f fd F, b, m, F.kp⟩
theorem funAt_mk {K : PySem.W.Frag} {mg : Str → Option Value} {h : Heap} {x : Str} {st : Stmt} {ps : List Str} {f : Addr} {oc kV doc pm cd ct : Value} {od an : Option Addr} {osl : Array (Option Value)} (X : K.In h) (G : h.Ns mainGlobals mg)
    (hb : ∀ (kV doc pm : Value) (an : Option Addr) (cdv ct : Value) (us : List Value), us.length = ps.length → bindArgs (PySem.W.fnOf x x (defArgs st) (defBody st) (defScope st) .none kV doc pm an cdv ct) ⟨us, []⟩ = pure (ps.zip us))
    (a : PySem.W.nsIn K mainGlobals x = some (some (.ref f))) (l : K.lookup f = some ⟨oc, od, .func (PySem.W.fnOf x x (defArgs st) (defBody st) (defScope st) .none kV doc pm an cd ct), osl⟩) (c : PySem.W.codeIn K cd x = true) (k : PySem.W.keepIn K (.ref f) = true) : FunAt K mg x st ps :=
  let F := fun_mk (st := st) l c k
  ⟨f, _, F, F.binds hb, PySem.W.mg_of X G a⟩
theorem gi_mk {K : PySem.W.Frag} {mg : Str → Option Value} {h : Heap} {x : Str} {i : Int} {t : Tok} (X : K.In h) (G : h.Ns mainGlobals mg) (a : PySem.W.nsIn K mainGlobals x = some (some (.int i t))) : ∃ t, mg x = some (.int i t) := ⟨t, PySem.W.mg_of X G a⟩
def lamA (s : Stmt) : Arguments := match defBody s with
  | [.Return (some (.Call _ [_, .Lambda a _ _ _] _ _)) _] => a
  | _ => { posonlyargs := [], args := [], vararg := none, kwonlyargs := [], kw_defaults := [], kwarg := none, defaults := [] }
def lamB (s : Stmt) : Expr := match defBody s with
  | [.Return (some (.Call _ [_, .Lambda _ b _ _] _ _)) _] => b
  | _ => .Constant .none 0 ⟨0, 0, 0, 0⟩
def lamS (s : Stmt) : Scope := match defBody s with
  | [.Return (some (.Call _ [_, .Lambda _ _ sc _] _ _)) _] => sc
  | _ => { kind := .function, names := [], isGenerator := false, isCoroutine := false }
def cells3 (x y z : Str) (n : Nat) : List (Str × Addr) := [(z, n + 3), (y, n + 2), (x, n + 1)]
theorem cells3_mem {x y z s : Str} {n : Nat} {a : Addr} (h : (cells3 x y z n).lookup s = some a) : (s = z ∧ a = n + 3) ∨ (s = y ∧ a = n + 2) ∨ (s = x ∧ a = n + 1) := by
  have m := PySem.mem_of_lookup h
  unfold cells3 at m
  simp only [List.mem_cons, Prod.mk.injEq, List.not_mem_nil, or_false] at m
  exact m
theorem cells3_inj {x y z : Str} {n : Nat} : ∀ s t a, (cells3 x y z n).lookup s = some a → (cells3 x y z n).lookup t = some a → s = t := fun s t a h1 h2 => by
  rcases cells3_mem h1 with ⟨e1, a1⟩ | ⟨e1, a1⟩ | ⟨e1, a1⟩ <;> rcases cells3_mem h2 with ⟨e2, a2⟩ | ⟨e2, a2⟩ | ⟨e2, a2⟩ <;> first | exact e1.trans e2.symm | exact absurd (Nat.add_left_cancel (a1.symm.trans a2)) (by decide)
/-- what holds of the text -/
structure Defs (K : PySem.W.Frag) (mg : Str → Option Value) (CN CW CR CO CQ : Addr) : Prop where
  T : Txt K mg CN CW CR
  TQ : TxtQ K mg CQ
  cO : IsExc K CO
  mO : mg "OneSign" = some (.ref CO)
  n1 : CW ≠ CR
  n2 : CW ≠ CN
  n3 : CW ≠ CO
  n4 : CR ≠ CN
  n5 : CR ≠ CO
  n6 : CN ≠ CO
  init : ∃ f fd, Fun K "__init__" "Questions.__init__" s_Questions_init f fd ∧ Binds K fd ["self", "answers"] [] ∧ Mk K CQ f
  ask : ∃ f fd, Fun K "ask" "Questions.ask" s_Questions_ask f fd ∧ Binds K fd ["self", "x"] [] ∧ Meth K CQ "ask" f
  answered : ∃ f fd, Fun K "answered" "Questions.answered" s_Questions_answered f fd ∧ Binds K fd ["self"] [] ∧ Meth K CQ "answered" f
  finite : FunAt K mg "finite" s_finite ["x"]
  sign_of : FunAt K mg "sign_of" s_sign_of ["x"]
  power_of : FunAt K mg "power_of" s_power_of ["x"]
  size_of : FunAt K mg "size_of" s_size_of ["x"]
  signed_size : FunAt K mg "signed_size" s_signed_size ["x", "power"]
  rounded : FunAt K mg "rounded" s_rounded ["size", "drop"]
  nearest : FunAt K mg "nearest" s_nearest ["sign", "size", "power"]
  plus : FunAt K mg "plus" s_plus ["x", "y"]
  minus : FunAt K mg "minus" s_minus ["x", "y"]
  times : FunAt K mg "times" s_times ["x", "y"]
  answer_of : FunAt K mg "answer_of" s_answer_of ["questions", "reckon"]
section
variable {P : Program} {w : World} {K : PySem.W.Frag} {mg : Str → Option Value} {base : Heap} {CN CW CR CO CQ : Addr}
theorem Defs.rFinite (D : Defs K mg CN CW CR CO CQ) : FnR P w K mg base 1 "finite" ["x"] (spFin CN) := D.finite.r fun f fd F => ok_finite F D.T
theorem Defs.rSign (D : Defs K mg CN CW CR CO CQ) : FnR P w K mg base 1 "sign_of" ["x"] spSign := D.sign_of.r fun f fd F => ok_sign_of F D.T
theorem Defs.rPow (D : Defs K mg CN CW CR CO CQ) : FnR P w K mg base 1 "power_of" ["x"] spPow := D.power_of.r fun f fd F => ok_power_of F D.T
theorem Defs.rSize (D : Defs K mg CN CW CR CO CQ) : FnR P w K mg base 1 "size_of" ["x"] spSize := D.size_of.r fun f fd F => ok_size_of F D.T
theorem Defs.rSS (D : Defs K mg CN CW CR CO CQ) : FnR P w K mg base 2 "signed_size" ["x", "power"] spSS := D.signed_size.r fun f fd F => ok_signed_size F D.rSize D.rPow D.rSign
theorem Defs.rRnd (D : Defs K mg CN CW CR CO CQ) : FnR P w K mg base 1 "rounded" ["size", "drop"] spRnd := D.rounded.r fun f fd F => ok_rounded F
theorem Defs.rNear (D : Defs K mg CN CW CR CO CQ) : FnR P w K mg base 2 "nearest" ["sign", "size", "power"] (spNear CN) := D.nearest.r fun f fd F => ok_nearest F D.T D.rRnd
theorem Defs.rPlus (D : Defs K mg CN CW CR CO CQ) : FnR P w K mg base 3 "plus" ["x", "y"] (spPlus CN) := D.plus.r fun f fd F => ok_plus F D.T D.rPow D.rSS D.rSign D.rNear
theorem Defs.rMinus (D : Defs K mg CN CW CR CO CQ) : FnR P w K mg base 4 "minus" ["x", "y"] (spMinus CN) := D.minus.r fun f fd F => ok_minus F D.T D.rPlus
theorem Defs.rTimes (D : Defs K mg CN CW CR CO CQ) : FnR P w K mg base 3 "times" ["x", "y"] (spTimes CN) := D.times.r fun f fd F => ok_times F D.T D.rPow D.rSize D.rSign D.rNear
theorem Defs.rAnsd (D : Defs K mg CN CW CR CO CQ) : AnsR P w K mg base CQ CN CW := let ⟨f, fd, F, b, m⟩ := D.answered; ⟨f, fd, ok_answered F D.T D.TQ D.rFinite, b, m⟩
theorem Defs.rAsk (D : Defs K mg CN CW CR CO CQ) : AskR P w K mg base CQ CN CW := let ⟨f, fd, F, b, m⟩ := D.ask; ⟨f, fd, ok_ask F D.TQ D.rAnsd, b, m⟩
/-- told, of a lambda that stands in the base -/
theorem Defs.rTold (D : Defs K mg CN CW CR CO CQ) {io : Sv21.Io} {kl : Nat} {fl ft : Addr} {fdl fdt : FuncData} (F : Fun K "told" "told" s_told ft fdt) (FL : FnOk P w K mg base (CX1 P w) (kl + 1) fl fdl ["questions"] (spOut CQ CN CW CR CO K io)) (bL : Binds K fdl ["questions"] []) (aL : FnAt fl base) :
    FnOk P w K mg base (CX1 P w) (kl + 3) ft fdt ["answers", "reckon"] (spTold K io fl) := by
  obtain ⟨fi, fdi, Fi, bi, mi⟩ := D.init
  exact ok_told F D.T D.TQ mi (ok_qinit Fi D.TQ) bi (D.answer_of.r fun f fd Fa => ok_answer_of Fa D.T D.TQ D.cO D.mO D.n1 D.n2 D.n3 D.n4 D.n5 D.n6 FL bL aL)
end
end
section
variable {P : Program} {w : World} {K : PySem.W.Frag} {mg : Str → Option Value} {base : Heap} {CN CW CR CO CQ : Addr}
open Sv21 (Io Ans)
open PySem.W (FnAt kla_obj kla_fn CodeHd envX)
structure DefsU (K : PySem.W.Frag) (mg : Str → Option Value) (CN CW CR CO CQ : Addr) : Prop extends Defs K mg CN CW CR CO CQ where
  i_ZERO : ∃ t, mg "ZERO" = some (.int 0 t)
  i_HALF : ∃ t, mg "HALF" = some (.int 4602678819172646912 t)
  i_FOUR : ∃ t, mg "FOUR" = some (.int 4616189618054758400 t)
  i_SIX : ∃ t, mg "SIX" = some (.int 4618441417868443648 t)
  i_FIFTEEN : ∃ t, mg "FIFTEEN" = some (.int 4624633867356078080 t)
  i_DEEPEST : ∃ t, mg "DEEPEST" = some (.int 20 t)
  without_sign : FunAt K mg "without_sign" s_without_sign ["x"]
  is_zero : FunAt K mg "is_zero" s_is_zero ["x"]
  rank_of : FunAt K mg "rank_of" s_rank_of ["x"]
  less : FunAt K mg "less" s_less ["x", "y"]
  divided : FunAt K mg "divided" s_divided ["x", "y"]
  middle : FunAt K mg "middle" s_middle ["a", "b"]
  rough_out : FunAt K mg "rough_out" s_rough_out ["questions", "a", "b", "near"]
  area_of_piece : FunAt K mg "area_of_piece" s_area_of_piece ["questions", "piece", "near", "deep"]
  c_Piece : ∃ C, TxtPiece K mg C ∧ ∃ f fd, Fun K "__init__" "Piece.__init__" s_Piece_init f fd ∧ Binds K fd ["self", "a", "m", "b", "at_a", "at_m", "at_b"] [] ∧ Mk K C f
theorem DefsU.rAbs (D : DefsU K mg CN CW CR CO CQ) : FnR P w K mg base 1 "without_sign" ["x"] spAbs := D.without_sign.r fun f fd F => ok_without_sign F D.T
theorem DefsU.rLess (D : DefsU K mg CN CW CR CO CQ) : FnR P w K mg base 3 "less" ["x", "y"] spLess := D.less.r fun f fd F => ok_less F (D.rank_of.r fun f fd F => ok_rank_of F D.rAbs D.toDefs.rSign)
theorem DefsU.rDiv (D : DefsU K mg CN CW CR CO CQ) : FnR P w K mg base 3 "divided" ["x", "y"] (spDiv CN) := D.divided.r fun f fd F => ok_divided F D.T (D.is_zero.r fun f fd F => ok_is_zero F D.rAbs) D.toDefs.rPow D.toDefs.rSize D.toDefs.rSign D.toDefs.rNear
theorem DefsU.rMid (D : DefsU K mg CN CW CR CO CQ) : FnR P w K mg base 5 "middle" ["a", "b"] (spMid CN) := D.middle.r fun f fd F => ok_middle F D.i_HALF D.toDefs.rPlus D.toDefs.rTimes D.toDefs.rMinus
theorem DefsU.rOut (D : DefsU K mg CN CW CR CO CQ) : FnR P w K mg base 28 "rough_out" ["questions", "a", "b", "near"] (spRoughOut CQ CN CW CR CO K) := by
  obtain ⟨CP, TP, fI, fdI, FI, bI, MP⟩ := D.c_Piece
  have GI : FnOk P w K mg base (CX1 P w) 5 fI fdI ["self", "a", "m", "b", "at_a", "at_m", "at_b"] (spPInit CP CN) := ok_pinit FI TP D.i_FOUR D.i_SIX D.toDefs.rPlus D.toDefs.rTimes D.toDefs.rMinus D.rDiv
  obtain ⟨fp, fdp, Fp, bp, mp⟩ := D.area_of_piece
  have GR := rough_piece (P := P) (w := w) (base := base) (CQ := CQ) (CN := CN) (CW := CW) (CP := CP) Fp bp mp (fun d hd G => ok_area_of_piece hd Fp D.TQ TP MP GI bI D.i_HALF D.i_FIFTEEN D.rMid D.toDefs.rPlus D.toDefs.rTimes D.toDefs.rMinus D.rDiv D.rLess D.rAbs D.toDefs.rAsk G) 20 (Nat.le_refl _)
  exact D.rough_out.r fun f fd F => ok_rough_out F D.T D.TQ TP MP GI bI D.i_ZERO D.i_DEEPEST D.toDefs.rFinite D.rMid D.rLess D.toDefs.rAsk ⟨fp, fdp, GR, bp, mp, Fp.kp⟩
end
section
variable {P : Program} {w : World} {K : PySem.W.Frag} {mg : Str → Option Value} {base : Heap} {CN CW CR CO CQ : Addr}
open Sv21 (Io Ans)
open PySem.W (FnAt kla_obj kla_fn CodeHd envX)
theorem ok_lam_rough {fl c : Addr} {qual : Str} {pm ctv : Value} {n_0 : Nat} {v_a : Nat} {v_b : Nat} {v_near : Nat} (D : DefsU K mg CN CW CR CO CQ) (h_a : v_a < 2 ^ 64) (h_b : v_b < 2 ^ 64) (h_near : v_near < 2 ^ 64)
    (hf : base.get? fl = some (kla_obj "<lambda>" qual (lamA s_rough) (lamB s_rough) (lamS s_rough) (cells3 "a" "b" "near" n_0) pm c ctv)) (hcode : base.CodeRec (.ref c) qual)
    (c1 : ∃ u, base.IsCell (n_0 + 1) (some u) ∧ RelV (.int (v_a : Int)) u) (c2 : ∃ u, base.IsCell (n_0 + 2) (some u) ∧ RelV (.int (v_b : Int)) u) (c3 : ∃ u, base.IsCell (n_0 + 3) (some u) ∧ RelV (.int (v_near : Int)) u) :
    FnOk P w K mg base (CX1 P w) 29 fl (kla_fn "<lambda>" qual (lamA s_rough) (lamB s_rough) (lamS s_rough) (cells3 "a" "b" "near" n_0) pm (.ref c) ctv) ["questions"] (spOut CQ CN CW CR CO K (Sv21.program (.rough v_a v_b v_near))) := by
  obtain ⟨u1, k1, r1⟩ := c1
  obtain ⟨u2, k2, r2⟩ := c2
  obtain ⟨u3, k3, r3⟩ := c3
  refine lam_ok (x0 := "questions") (F := ["a", "b", "near"]) (fv := [.int (v_a : Int), .int (v_b : Int), .int (v_near : Int)]) (k := 28) hf hcode rfl rfl rfl (by decide +kernel) rfl (fun i x v h1 h2 => ?_) (fun x a h => ?_) cells3_inj (fun x hx => ?_) rfl (fun vs H Q E h => ?_) (fun A outer s H q Q E hr h => ?_)
  · match i, h1, h2 with
    | 0, h1, h2 =>
      cases h1; cases h2
      exact ⟨n_0 + 1, u1, rfl, k1, r1, rfl⟩
    | 1, h1, h2 =>
      cases h1; cases h2
      exact ⟨n_0 + 2, u2, rfl, k2, r2, rfl⟩
    | 2, h1, h2 =>
      cases h1; cases h2
      exact ⟨n_0 + 3, u3, rfl, k3, r3, rfl⟩
    | i + 3, h1, h2 => cases h1
  · rcases cells3_mem h with ⟨_, e⟩ | ⟨_, e⟩ | ⟨_, e⟩ <;> subst e
    · exact ⟨_, k3⟩
    · exact ⟨_, k2⟩
    · exact ⟨_, k1⟩
  · have nm : ∀ k, (lamS s_rough).names.lookup x = some k → (x, k) ∈ ([(("questions" : Str), NameKind.local), ("a", .free), ("b", .free), ("near", .free), ("rough_out", .globalImplicit)] : List (Str × NameKind)) := fun k h => PySem.mem_of_lookup h
    rcases hx with h | h
    · have m := nm _ h
      simp only [List.mem_cons, Prod.mk.injEq, List.not_mem_nil, or_false, reduceCtorEq, and_false] at m
    · have m := nm _ h
      simp only [List.mem_cons, Prod.mk.injEq, List.not_mem_nil, or_false, reduceCtorEq, and_false, and_true, false_or] at m
      rcases m with e | e | e <;> subst e <;> exact ⟨_, rfl⟩
  · obtain ⟨q, la, lq, ns, rfl, _⟩ := h
    rfl
  · obtain ⟨q_0, la, lq, ns, e, A0, hns, h⟩ := h
    cases e
    refine ⟨_, pe_fn D.rOut hr rfl thrL (pa_cons (pv 0) (pa_cons (pv 1) (pa_cons (pv 2) (pa_cons (pv 3) pa_nil)))), ?_⟩
    exact ⟨_, rfl, _, rfl, _, rfl, _, rfl, q_0, la, lq, ns, v_a, v_b, v_near, rfl, h_a, h_b, h_near, A0, hns, good_wp (good_rough _ _ _) h⟩
def spRough (K : PySem.W.Frag) (Pt : Addr) : Sp := fun vs H Q _ => ∃ (v_a : Nat) (v_b : Nat) (v_near : Nat) (la : Addr) (ns : List Nat), vs = [.int (v_a : Int), .int (v_b : Int), .int (v_near : Int), .ref la] ∧ v_a < 2 ^ 64 ∧ v_b < 2 ^ 64 ∧ v_near < 2 ^ 64 ∧ SqL K H la (vI ns) ∧ la ≠ Pt ∧ Few ns ∧ H Pt = some (.tbl #[]) ∧
  Wp2 ns (Sv21.program (.rough v_a v_b v_near)) 0 [] (fun c qs r => qs.length ≤ 10000 ∧ (∀ a, r = some a → a.l.length ≤ 100000) ∧ ∀ (H_1 : Hp) (p : Addr), H_1 p = some (.lst (toldV c qs r)) → Q (.ref p) H_1)
theorem ok_rough {f c Pt ft : Addr} {fdt : FuncData} {oc kV doc pm ct : Value} {od an : Option Addr} {osl : Array (Option Value)} (D : DefsU K mg CN CW CR CO CQ) (FT : Fun K "told" "told" s_told ft fdt) (bT : Binds K fdt ["answers", "reckon"] []) (mT : mg "told" = some (.ref ft))
    (lk : K.lookup f = some ⟨oc, od, .func (PySem.W.fnOf "rough" "rough" (defArgs s_rough) (defBody s_rough) (defScope s_rough) .none kV doc pm an (.ref c) ct), osl⟩) (hcd : PySem.W.codeIn K (.ref c) "rough" = true)
    (hC : CodeHd base c Pt) (hB : base.BuiltinsAt mg Pt) (hP : base.get? Pt = none) :
    FnOk P w K mg base (CX1 P w) 32 f (PySem.W.fnOf "rough" "rough" (defArgs s_rough) (defBody s_rough) (defScope s_rough) .none kV doc pm an (.ref c) ct) ["a", "b", "near", "answers"] (spRough K Pt) := by
  refine fn_of (k := 31) lk hcd sc_rough (fun vs H Q E h => ?_) (fun A outer s H vs Q E hr h => ?_)
  · obtain ⟨v_a, v_b, v_near, la, ns, rfl, _⟩ := h
    rfl
  · obtain ⟨v_a, v_b, v_near, la, ns, rfl, h_a, h_b, h_near, hS, hne, hns, hPt, h⟩ := h
    refine ⟨_, pss_one (ps_tell (sp := fun fl => spTold K (Sv21.program (.rough v_a v_b v_near)) fl) (S := fun σ => σ = start ["a", "b", "near", "answers"] [.int (v_a : Int), .int (v_b : Int), .int (v_near : Int), .ref la]) (clos := cells3 "a" "b" "near" s.heap.objs.size) (c := c) (Pt := Pt)
      rfl mT FT.kp hr bT (pass1 thrC) (pv 3) rfl rfl rfl hC hB hP (fun _ => rfl) ?_), ?_⟩
    · intro σ base2 fl c_1 ctv hσ hM hf hrec hcell hcells
      subst hσ
      have FL := ok_lam_rough (P := P) (w := w) (base := base2) (n_0 := s.heap.objs.size) (v_a := v_a) (v_b := v_b) (v_near := v_near) D h_a h_b h_near hf hrec ?_ ?_ ?_
      · refine D.toDefs.rTold (kl := 28) FT FL (.all fun us hl => match us, hl with | [_], _ => rfl) ⟨_, _, _, _, hf⟩
      · obtain ⟨ad, u, e, z, r⟩ := hcell 0 "a" _ rfl rfl rfl
        cases e
        exact ⟨u, z, r⟩
      · obtain ⟨ad, u, e, z, r⟩ := hcell 1 "b" _ rfl rfl rfl
        cases e
        exact ⟨u, z, r⟩
      · obtain ⟨ad, u, e, z, r⟩ := hcell 2 "near" _ rfl rfl rfl
        cases e
        exact ⟨u, z, r⟩
    · refine ⟨rfl, _, rfl, hPt, fun fl more hfl => ?_⟩
      exact ⟨la, ns, rfl, hS.upd_ne hne, hns, h⟩
end
end An

set_option Elab.async false
set_option linter.all false
set_option maxRecDepth 100000
set_option maxHeartbeats 4000000
namespace An
open PySem PySem.Spec PyProof.Rows L2
theorem all_rough {P : Program} {w : World} {K : PySem.W.Frag} {h : Heap} {mg : Str → Option Value} {fa : Addr} {f_finite : Addr} {oc_finite kV_finite doc_finite pm_finite cd_finite ct_finite : Value} {od_finite an_finite : Option Addr} {osl_finite : Array (Option Value)} {f_sign_of : Addr} {oc_sign_of kV_sign_of doc_sign_of pm_sign_of cd_sign_of ct_sign_of : Value} {od_sign_of an_sign_of : Option Addr} {osl_sign_of : Array (Option Value)} {f_power_of : Addr} {oc_power_of kV_power_of doc_power_of pm_power_of cd_power_of ct_power_of : Value} {od_power_of an_power_of : Option Addr} {osl_power_of : Array (Option Value)} {f_size_of : Addr} {oc_size_of kV_size_of doc_size_of pm_size_of cd_size_of ct_size_of : Value} {od_size_of an_size_of : Option Addr} {osl_size_of : Array (Option Value)} {f_signed_size : Addr} {oc_signed_size kV_signed_size doc_signed_size pm_signed_size cd_signed_size ct_signed_size : Value} {od_signed_size an_signed_size : Option Addr} {osl_signed_size : Array (Option Value)} {f_rounded : Addr} {oc_rounded kV_rounded doc_rounded pm_rounded cd_rounded ct_rounded : Value} {od_rounded an_rounded : Option Addr} {osl_rounded : Array (Option Value)} {f_nearest : Addr} {oc_nearest kV_nearest doc_nearest pm_nearest cd_nearest ct_nearest : Value} {od_nearest an_nearest : Option Addr} {osl_nearest : Array (Option Value)} {f_plus : Addr} {oc_plus kV_plus doc_plus pm_plus cd_plus ct_plus : Value} {od_plus an_plus : Option Addr} {osl_plus : Array (Option Value)} {f_minus : Addr} {oc_minus kV_minus doc_minus pm_minus cd_minus ct_minus : Value} {od_minus an_minus : Option Addr} {osl_minus : Array (Option Value)} {f_times : Addr} {oc_times kV_times doc_times pm_times cd_times ct_times : Value} {od_times an_times : Option Addr} {osl_times : Array (Option Value)} {f_answer_of : Addr} {oc_answer_of kV_answer_of doc_answer_of pm_answer_of cd_answer_of ct_answer_of : Value} {od_answer_of an_answer_of : Option Addr} {osl_answer_of : Array (Option Value)} {f_without_sign : Addr} {oc_without_sign kV_without_sign doc_without_sign pm_without_sign cd_without_sign ct_without_sign : Value} {od_without_sign an_without_sign : Option Addr} {osl_without_sign : Array (Option Value)} {f_is_zero : Addr} {oc_is_zero kV_is_zero doc_is_zero pm_is_zero cd_is_zero ct_is_zero : Value} {od_is_zero an_is_zero : Option Addr} {osl_is_zero : Array (Option Value)} {f_rank_of : Addr} {oc_rank_of kV_rank_of doc_rank_of pm_rank_of cd_rank_of ct_rank_of : Value} {od_rank_of an_rank_of : Option Addr} {osl_rank_of : Array (Option Value)} {f_less : Addr} {oc_less kV_less doc_less pm_less cd_less ct_less : Value} {od_less an_less : Option Addr} {osl_less : Array (Option Value)} {f_divided : Addr} {oc_divided kV_divided doc_divided pm_divided cd_divided ct_divided : Value} {od_divided an_divided : Option Addr} {osl_divided : Array (Option Value)} {f_middle : Addr} {oc_middle kV_middle doc_middle pm_middle cd_middle ct_middle : Value} {od_middle an_middle : Option Addr} {osl_middle : Array (Option Value)} {f_rough_out : Addr} {oc_rough_out kV_rough_out doc_rough_out pm_rough_out cd_rough_out ct_rough_out : Value} {od_rough_out an_rough_out : Option Addr} {osl_rough_out : Array (Option Value)} {f_area_of_piece : Addr} {oc_area_of_piece kV_area_of_piece doc_area_of_piece pm_area_of_piece cd_area_of_piece ct_area_of_piece : Value} {od_area_of_piece an_area_of_piece : Option Addr} {osl_area_of_piece : Array (Option Value)} {f_told : Addr} {oc_told kV_told doc_told pm_told cd_told ct_told : Value} {od_told an_told : Option Addr} {osl_told : Array (Option Value)} {f_qi : Addr} {oc_qi kV_qi doc_qi pm_qi cd_qi ct_qi : Value} {od_qi an_qi : Option Addr} {osl_qi : Array (Option Value)} {f_qa : Addr} {oc_qa kV_qa doc_qa pm_qa cd_qa ct_qa : Value} {od_qa an_qa : Option Addr} {osl_qa : Array (Option Value)} {f_qd : Addr} {oc_qd kV_qd doc_qd pm_qd cd_qd ct_qd : Value} {od_qd an_qd : Option Addr} {osl_qd : Array (Option Value)} {CN CW CR CO CQ : Addr} {C_Piece : Addr} {f_pi : Addr} {oc_pi kV_pi doc_pi pm_pi cd_pi ct_pi : Value} {od_pi an_pi : Option Addr} {osl_pi : Array (Option Value)} {t_SIGN_BIT : Tok} {t_INFINITY : Tok} {t_FRACTION_BITS : Tok} {t_HIDDEN_BIT : Tok} {t_POWER_OF_ONE : Tok} {t_ZERO : Tok} {t_HALF : Tok} {t_FOUR : Tok} {t_SIX : Tok} {t_FIFTEEN : Tok} {t_DEEPEST : Tok} {f_rough c_t Pt : Addr} {oc_rough kV_rough doc_rough pm_rough ct_rough oc2 : Value} {od_rough an_rough od2 : Option Addr} {osl_rough sl2 : Array (Option Value)} {cvs : Array Value}
    (X : K.In h) (G : h.Ns mainGlobals mg) (hfa : mg "rough" = some (.ref fa))
    (a_finite : PySem.W.nsIn K mainGlobals "finite" = some (some (.ref f_finite)))
    (l_finite : K.lookup f_finite = some ⟨oc_finite, od_finite, .func (PySem.W.fnOf "finite" "finite" (defArgs s_finite) (defBody s_finite) (defScope s_finite) .none kV_finite doc_finite pm_finite an_finite cd_finite ct_finite), osl_finite⟩)
    (c_finite : PySem.W.codeIn K cd_finite "finite" = true)
    (k_finite : PySem.W.keepIn K (.ref f_finite) = true)
    (a_sign_of : PySem.W.nsIn K mainGlobals "sign_of" = some (some (.ref f_sign_of)))
    (l_sign_of : K.lookup f_sign_of = some ⟨oc_sign_of, od_sign_of, .func (PySem.W.fnOf "sign_of" "sign_of" (defArgs s_sign_of) (defBody s_sign_of) (defScope s_sign_of) .none kV_sign_of doc_sign_of pm_sign_of an_sign_of cd_sign_of ct_sign_of), osl_sign_of⟩)
    (c_sign_of : PySem.W.codeIn K cd_sign_of "sign_of" = true)
    (k_sign_of : PySem.W.keepIn K (.ref f_sign_of) = true)
    (a_power_of : PySem.W.nsIn K mainGlobals "power_of" = some (some (.ref f_power_of)))
    (l_power_of : K.lookup f_power_of = some ⟨oc_power_of, od_power_of, .func (PySem.W.fnOf "power_of" "power_of" (defArgs s_power_of) (defBody s_power_of) (defScope s_power_of) .none kV_power_of doc_power_of pm_power_of an_power_of cd_power_of ct_power_of), osl_power_of⟩)
    (c_power_of : PySem.W.codeIn K cd_power_of "power_of" = true)
    (k_power_of : PySem.W.keepIn K (.ref f_power_of) = true)
    (a_size_of : PySem.W.nsIn K mainGlobals "size_of" = some (some (.ref f_size_of)))
    (l_size_of : K.lookup f_size_of = some ⟨oc_size_of, od_size_of, .func (PySem.W.fnOf "size_of" "size_of" (defArgs s_size_of) (defBody s_size_of) (defScope s_size_of) .none kV_size_of doc_size_of pm_size_of an_size_of cd_size_of ct_size_of), osl_size_of⟩)
    (c_size_of : PySem.W.codeIn K cd_size_of "size_of" = true)
    (k_size_of : PySem.W.keepIn K (.ref f_size_of) = true)
    (a_signed_size : PySem.W.nsIn K mainGlobals "signed_size" = some (some (.ref f_signed_size)))
    (l_signed_size : K.lookup f_signed_size = some ⟨oc_signed_size, od_signed_size, .func (PySem.W.fnOf "signed_size" "signed_size" (defArgs s_signed_size) (defBody s_signed_size) (defScope s_signed_size) .none kV_signed_size doc_signed_size pm_signed_size an_signed_size cd_signed_size ct_signed_size), osl_signed_size⟩)
    (c_signed_size : PySem.W.codeIn K cd_signed_size "signed_size" = true)
    (k_signed_size : PySem.W.keepIn K (.ref f_signed_size) = true)
    (a_rounded : PySem.W.nsIn K mainGlobals "rounded" = some (some (.ref f_rounded)))
    (l_rounded : K.lookup f_rounded = some ⟨oc_rounded, od_rounded, .func (PySem.W.fnOf "rounded" "rounded" (defArgs s_rounded) (defBody s_rounded) (defScope s_rounded) .none kV_rounded doc_rounded pm_rounded an_rounded cd_rounded ct_rounded), osl_rounded⟩)
    (c_rounded : PySem.W.codeIn K cd_rounded "rounded" = true)
    (k_rounded : PySem.W.keepIn K (.ref f_rounded) = true)
    (a_nearest : PySem.W.nsIn K mainGlobals "nearest" = some (some (.ref f_nearest)))
    (l_nearest : K.lookup f_nearest = some ⟨oc_nearest, od_nearest, .func (PySem.W.fnOf "nearest" "nearest" (defArgs s_nearest) (defBody s_nearest) (defScope s_nearest) .none kV_nearest doc_nearest pm_nearest an_nearest cd_nearest ct_nearest), osl_nearest⟩)
    (c_nearest : PySem.W.codeIn K cd_nearest "nearest" = true)
    (k_nearest : PySem.W.keepIn K (.ref f_nearest) = true)
    (a_plus : PySem.W.nsIn K mainGlobals "plus" = some (some (.ref f_plus)))
    (l_plus : K.lookup f_plus = some ⟨oc_plus, od_plus, .func (PySem.W.fnOf "plus" "plus" (defArgs s_plus) (defBody s_plus) (defScope s_plus) .none kV_plus doc_plus pm_plus an_plus cd_plus ct_plus), osl_plus⟩)
    (c_plus : PySem.W.codeIn K cd_plus "plus" = true)
    (k_plus : PySem.W.keepIn K (.ref f_plus) = true)
    (a_minus : PySem.W.nsIn K mainGlobals "minus" = some (some (.ref f_minus)))
    (l_minus : K.lookup f_minus = some ⟨oc_minus, od_minus, .func (PySem.W.fnOf "minus" "minus" (defArgs s_minus) (defBody s_minus) (defScope s_minus) .none kV_minus doc_minus pm_minus an_minus cd_minus ct_minus), osl_minus⟩)
    (c_minus : PySem.W.codeIn K cd_minus "minus" = true)
    (k_minus : PySem.W.keepIn K (.ref f_minus) = true)
    (a_times : PySem.W.nsIn K mainGlobals "times" = some (some (.ref f_times)))
    (l_times : K.lookup f_times = some ⟨oc_times, od_times, .func (PySem.W.fnOf "times" "times" (defArgs s_times) (defBody s_times) (defScope s_times) .none kV_times doc_times pm_times an_times cd_times ct_times), osl_times⟩)
    (c_times : PySem.W.codeIn K cd_times "times" = true)
    (k_times : PySem.W.keepIn K (.ref f_times) = true)
    (a_answer_of : PySem.W.nsIn K mainGlobals "answer_of" = some (some (.ref f_answer_of)))
    (l_answer_of : K.lookup f_answer_of = some ⟨oc_answer_of, od_answer_of, .func (PySem.W.fnOf "answer_of" "answer_of" (defArgs s_answer_of) (defBody s_answer_of) (defScope s_answer_of) .none kV_answer_of doc_answer_of pm_answer_of an_answer_of cd_answer_of ct_answer_of), osl_answer_of⟩)
    (c_answer_of : PySem.W.codeIn K cd_answer_of "answer_of" = true)
    (k_answer_of : PySem.W.keepIn K (.ref f_answer_of) = true)
    (a_without_sign : PySem.W.nsIn K mainGlobals "without_sign" = some (some (.ref f_without_sign)))
    (l_without_sign : K.lookup f_without_sign = some ⟨oc_without_sign, od_without_sign, .func (PySem.W.fnOf "without_sign" "without_sign" (defArgs s_without_sign) (defBody s_without_sign) (defScope s_without_sign) .none kV_without_sign doc_without_sign pm_without_sign an_without_sign cd_without_sign ct_without_sign), osl_without_sign⟩)
    (c_without_sign : PySem.W.codeIn K cd_without_sign "without_sign" = true)
    (k_without_sign : PySem.W.keepIn K (.ref f_without_sign) = true)
    (a_is_zero : PySem.W.nsIn K mainGlobals "is_zero" = some (some (.ref f_is_zero)))
    (l_is_zero : K.lookup f_is_zero = some ⟨oc_is_zero, od_is_zero, .func (PySem.W.fnOf "is_zero" "is_zero" (defArgs s_is_zero) (defBody s_is_zero) (defScope s_is_zero) .none kV_is_zero doc_is_zero pm_is_zero an_is_zero cd_is_zero ct_is_zero), osl_is_zero⟩)
    (c_is_zero : PySem.W.codeIn K cd_is_zero "is_zero" = true)
    (k_is_zero : PySem.W.keepIn K (.ref f_is_zero) = true)
    (a_rank_of : PySem.W.nsIn K mainGlobals "rank_of" = some (some (.ref f_rank_of)))
    (l_rank_of : K.lookup f_rank_of = some ⟨oc_rank_of, od_rank_of, .func (PySem.W.fnOf "rank_of" "rank_of" (defArgs s_rank_of) (defBody s_rank_of) (defScope s_rank_of) .none kV_rank_of doc_rank_of pm_rank_of an_rank_of cd_rank_of ct_rank_of), osl_rank_of⟩)
    (c_rank_of : PySem.W.codeIn K cd_rank_of "rank_of" = true)
    (k_rank_of : PySem.W.keepIn K (.ref f_rank_of) = true)
    (a_less : PySem.W.nsIn K mainGlobals "less" = some (some (.ref f_less)))
    (l_less : K.lookup f_less = some ⟨oc_less, od_less, .func (PySem.W.fnOf "less" "less" (defArgs s_less) (defBody s_less) (defScope s_less) .none kV_less doc_less pm_less an_less cd_less ct_less), osl_less⟩)
    (c_less : PySem.W.codeIn K cd_less "less" = true)
    (k_less : PySem.W.keepIn K (.ref f_less) = true)
    (a_divided : PySem.W.nsIn K mainGlobals "divided" = some (some (.ref f_divided)))
    (l_divided : K.lookup f_divided = some ⟨oc_divided, od_divided, .func (PySem.W.fnOf "divided" "divided" (defArgs s_divided) (defBody s_divided) (defScope s_divided) .none kV_divided doc_divided pm_divided an_divided cd_divided ct_divided), osl_divided⟩)
    (c_divided : PySem.W.codeIn K cd_divided "divided" = true)
    (k_divided : PySem.W.keepIn K (.ref f_divided) = true)
    (a_middle : PySem.W.nsIn K mainGlobals "middle" = some (some (.ref f_middle)))
    (l_middle : K.lookup f_middle = some ⟨oc_middle, od_middle, .func (PySem.W.fnOf "middle" "middle" (defArgs s_middle) (defBody s_middle) (defScope s_middle) .none kV_middle doc_middle pm_middle an_middle cd_middle ct_middle), osl_middle⟩)
    (c_middle : PySem.W.codeIn K cd_middle "middle" = true)
    (k_middle : PySem.W.keepIn K (.ref f_middle) = true)
    (a_rough_out : PySem.W.nsIn K mainGlobals "rough_out" = some (some (.ref f_rough_out)))
    (l_rough_out : K.lookup f_rough_out = some ⟨oc_rough_out, od_rough_out, .func (PySem.W.fnOf "rough_out" "rough_out" (defArgs s_rough_out) (defBody s_rough_out) (defScope s_rough_out) .none kV_rough_out doc_rough_out pm_rough_out an_rough_out cd_rough_out ct_rough_out), osl_rough_out⟩)
    (c_rough_out : PySem.W.codeIn K cd_rough_out "rough_out" = true)
    (k_rough_out : PySem.W.keepIn K (.ref f_rough_out) = true)
    (a_area_of_piece : PySem.W.nsIn K mainGlobals "area_of_piece" = some (some (.ref f_area_of_piece)))
    (l_area_of_piece : K.lookup f_area_of_piece = some ⟨oc_area_of_piece, od_area_of_piece, .func (PySem.W.fnOf "area_of_piece" "area_of_piece" (defArgs s_area_of_piece) (defBody s_area_of_piece) (defScope s_area_of_piece) .none kV_area_of_piece doc_area_of_piece pm_area_of_piece an_area_of_piece cd_area_of_piece ct_area_of_piece), osl_area_of_piece⟩)
    (c_area_of_piece : PySem.W.codeIn K cd_area_of_piece "area_of_piece" = true)
    (k_area_of_piece : PySem.W.keepIn K (.ref f_area_of_piece) = true)
    (a_told : PySem.W.nsIn K mainGlobals "told" = some (some (.ref f_told)))
    (l_told : K.lookup f_told = some ⟨oc_told, od_told, .func (PySem.W.fnOf "told" "told" (defArgs s_told) (defBody s_told) (defScope s_told) .none kV_told doc_told pm_told an_told cd_told ct_told), osl_told⟩)
    (c_told : PySem.W.codeIn K cd_told "told" = true)
    (k_told : PySem.W.keepIn K (.ref f_told) = true)
    (a_CN : PySem.W.nsIn K mainGlobals "NotFinite" = some (some (.ref CN)))
    (e_CN : PySem.W.excIn K CN excMro "Exception.__new__" = true)
    (m_CN : mroIs K CN = true)
    (a_CW : PySem.W.nsIn K mainGlobals "AnswerWanting" = some (some (.ref CW)))
    (e_CW : PySem.W.excIn K CW excMro "Exception.__new__" = true)
    (m_CW : mroIs K CW = true)
    (a_CR : PySem.W.nsIn K mainGlobals "OutOfBounds" = some (some (.ref CR)))
    (e_CR : PySem.W.excIn K CR excMro "Exception.__new__" = true)
    (m_CR : mroIs K CR = true)
    (a_CO : PySem.W.nsIn K mainGlobals "OneSign" = some (some (.ref CO)))
    (e_CO : PySem.W.excIn K CO excMro "Exception.__new__" = true)
    (m_CO : mroIs K CO = true)
    (n_CW_CR : CW ≠ CR)
    (n_CW_CN : CW ≠ CN)
    (n_CW_CO : CW ≠ CO)
    (n_CR_CN : CR ≠ CN)
    (n_CR_CO : CR ≠ CO)
    (n_CN_CO : CN ≠ CO)
    (a_CQ : PySem.W.nsIn K mainGlobals "Questions" = some (some (.ref CQ)))
    (a_qi : PySem.W.findIn K (.ref CQ) "__init__" = some (some (.ref f_qi)))
    (i_qi : PySem.W.isFn K (.ref f_qi) = true)
    (l_qi : K.lookup f_qi = some ⟨oc_qi, od_qi, .func (PySem.W.fnOf "__init__" "Questions.__init__" (defArgs s_Questions_init) (defBody s_Questions_init) (defScope s_Questions_init) .none kV_qi doc_qi pm_qi an_qi cd_qi ct_qi), osl_qi⟩)
    (c_qi : PySem.W.codeIn K cd_qi "Questions.__init__" = true)
    (k_qi : PySem.W.keepIn K (.ref f_qi) = true)
    (a_qa : PySem.W.findIn K (.ref CQ) "ask" = some (some (.ref f_qa)))
    (i_qa : PySem.W.isFn K (.ref f_qa) = true)
    (l_qa : K.lookup f_qa = some ⟨oc_qa, od_qa, .func (PySem.W.fnOf "ask" "Questions.ask" (defArgs s_Questions_ask) (defBody s_Questions_ask) (defScope s_Questions_ask) .none kV_qa doc_qa pm_qa an_qa cd_qa ct_qa), osl_qa⟩)
    (c_qa : PySem.W.codeIn K cd_qa "Questions.ask" = true)
    (k_qa : PySem.W.keepIn K (.ref f_qa) = true)
    (a_qd : PySem.W.findIn K (.ref CQ) "answered" = some (some (.ref f_qd)))
    (i_qd : PySem.W.isFn K (.ref f_qd) = true)
    (l_qd : K.lookup f_qd = some ⟨oc_qd, od_qd, .func (PySem.W.fnOf "answered" "Questions.answered" (defArgs s_Questions_answered) (defBody s_Questions_answered) (defScope s_Questions_answered) .none kV_qd doc_qd pm_qd an_qd cd_qd ct_qd), osl_qd⟩)
    (c_qd : PySem.W.codeIn K cd_qd "Questions.answered" = true)
    (k_qd : PySem.W.keepIn K (.ref f_qd) = true)
    (pg : PySem.W.plainGet K CQ Str.empty = true)
    (hd : PySem.W.hasDictIn K CQ = true)
    (po : PySem.W.plainOver K CQ = true)
    (sa : PySem.W.findIn K (.ref CQ) "__setattr__" = some (some (.builtin "object.__setattr__")))
    (mk : PySem.W.makesIn K CQ = true)
    (kc : PySem.W.keepIn K (.ref CQ) = true)
    (nA : PySem.W.findIn K (.ref CQ) "answers" = some none)
    (nC : PySem.W.findIn K (.ref CQ) "count" = some none)
    (nQ : PySem.W.findIn K (.ref CQ) "asked" = some none)
    (a_C_Piece : PySem.W.nsIn K mainGlobals "Piece" = some (some (.ref C_Piece)))
    (a_pi : PySem.W.findIn K (.ref C_Piece) "__init__" = some (some (.ref f_pi)))
    (i_pi : PySem.W.isFn K (.ref f_pi) = true)
    (l_pi : K.lookup f_pi = some ⟨oc_pi, od_pi, .func (PySem.W.fnOf "__init__" "Piece.__init__" (defArgs s_Piece_init) (defBody s_Piece_init) (defScope s_Piece_init) .none kV_pi doc_pi pm_pi an_pi cd_pi ct_pi), osl_pi⟩)
    (c_pi : PySem.W.codeIn K cd_pi "Piece.__init__" = true)
    (k_pi : PySem.W.keepIn K (.ref f_pi) = true)
    (pg_Piece : PySem.W.plainGet K C_Piece Str.empty = true)
    (hd_Piece : PySem.W.hasDictIn K C_Piece = true)
    (po_Piece : PySem.W.plainOver K C_Piece = true)
    (sa_Piece : PySem.W.findIn K (.ref C_Piece) "__setattr__" = some (some (.builtin "object.__setattr__")))
    (mk_Piece : PySem.W.makesIn K C_Piece = true)
    (kc_Piece : PySem.W.keepIn K (.ref C_Piece) = true)
    (n_Piece_a : PySem.W.findIn K (.ref C_Piece) "a" = some none)
    (n_Piece_m : PySem.W.findIn K (.ref C_Piece) "m" = some none)
    (n_Piece_b : PySem.W.findIn K (.ref C_Piece) "b" = some none)
    (n_Piece_at_a : PySem.W.findIn K (.ref C_Piece) "at_a" = some none)
    (n_Piece_at_m : PySem.W.findIn K (.ref C_Piece) "at_m" = some none)
    (n_Piece_at_b : PySem.W.findIn K (.ref C_Piece) "at_b" = some none)
    (n_Piece_estimate : PySem.W.findIn K (.ref C_Piece) "estimate" = some none)
    (g_SIGN_BIT : PySem.W.nsIn K mainGlobals "SIGN_BIT" = some (some (.int 9223372036854775808 t_SIGN_BIT)))
    (g_INFINITY : PySem.W.nsIn K mainGlobals "INFINITY" = some (some (.int 9218868437227405312 t_INFINITY)))
    (g_FRACTION_BITS : PySem.W.nsIn K mainGlobals "FRACTION_BITS" = some (some (.int 4503599627370495 t_FRACTION_BITS)))
    (g_HIDDEN_BIT : PySem.W.nsIn K mainGlobals "HIDDEN_BIT" = some (some (.int 4503599627370496 t_HIDDEN_BIT)))
    (g_POWER_OF_ONE : PySem.W.nsIn K mainGlobals "POWER_OF_ONE" = some (some (.int 1074 t_POWER_OF_ONE)))
    (g_ZERO : PySem.W.nsIn K mainGlobals "ZERO" = some (some (.int 0 t_ZERO)))
    (g_HALF : PySem.W.nsIn K mainGlobals "HALF" = some (some (.int 4602678819172646912 t_HALF)))
    (g_FOUR : PySem.W.nsIn K mainGlobals "FOUR" = some (some (.int 4616189618054758400 t_FOUR)))
    (g_SIX : PySem.W.nsIn K mainGlobals "SIX" = some (some (.int 4618441417868443648 t_SIX)))
    (g_FIFTEEN : PySem.W.nsIn K mainGlobals "FIFTEEN" = some (some (.int 4624633867356078080 t_FIFTEEN)))
    (g_DEEPEST : PySem.W.nsIn K mainGlobals "DEEPEST" = some (some (.int 20 t_DEEPEST)))
    (b_max : PySem.W.nsIn K mainGlobals "max" = some none)
    (b_min : PySem.W.nsIn K mainGlobals "min" = some none)
    (b_abs : PySem.W.nsIn K mainGlobals "abs" = some none)
    (b_len : PySem.W.nsIn K mainGlobals "len" = some none)
    (b_range : PySem.W.nsIn K mainGlobals "range" = some none)
    (a_rough : PySem.W.nsIn K mainGlobals "rough" = some (some (.ref f_rough)))
    (l_rough : K.lookup f_rough = some ⟨oc_rough, od_rough, .func (PySem.W.fnOf "rough" "rough" (defArgs s_rough) (defBody s_rough) (defScope s_rough) .none kV_rough doc_rough pm_rough an_rough (.ref c_t) ct_rough), osl_rough⟩)
    (c_rough : PySem.W.codeIn K (.ref c_t) "rough" = true)
    (lc : K.lookup c_t = some ⟨oc2, od2, .fields cvs, sl2⟩)
    (hv : (cvs[11]? : Option Value) = some (.ref Pt))
    (hKP : K.lookup Pt = none) :
    ∃ (fd : FuncData) (c Pt : Addr), PySem.W.tabIn K "rough" = some (c, Pt) ∧ K.lookup Pt = none ∧ (∀ (s : Shared) (us : List Value), us.length = (["a", "b", "near", "answers"] : List Str).length → BindsTo s fd ⟨us, []⟩ ((["a", "b", "near", "answers"] : List Str).zip us)) ∧
      ∀ base : Heap, Mod K mg base → PySem.W.CodeHd base c Pt → base.BuiltinsAt mg Pt → base.get? Pt = none → FnOk P w K mg base (CX1 P w) 32 fa fd ["a", "b", "near", "answers"] (spRough K Pt) := by
  have e := hfa.symm.trans (PySem.W.mg_of X G a_rough)
  cases e
  have Fi := fun_mk (st := s_Questions_init) l_qi c_qi k_qi
  have Fa := fun_mk (st := s_Questions_ask) l_qa c_qa k_qa
  have Fd := fun_mk (st := s_Questions_answered) l_qd c_qd k_qd
  have F_pi := fun_mk (st := s_Piece_init) l_pi c_pi k_pi
  have D : DefsU K mg CN CW CR CO CQ := ⟨⟨⟨gi_mk X G g_SIGN_BIT, gi_mk X G g_INFINITY, gi_mk X G g_FRACTION_BITS, gi_mk X G g_HIDDEN_BIT, gi_mk X G g_POWER_OF_ONE, ⟨e_CN, m_CN⟩, PySem.W.mg_of X G a_CN, ⟨e_CW, m_CW⟩, PySem.W.mg_of X G a_CW, ⟨e_CR, m_CR⟩, PySem.W.mg_of X G a_CR, PySem.W.ns_none_of X G b_max, PySem.W.ns_none_of X G b_min, PySem.W.ns_none_of X G b_abs, PySem.W.ns_none_of X G b_len, PySem.W.ns_none_of X G b_range⟩, ⟨⟨pg, hd, po, sa⟩, nA, nC, nQ, PySem.W.mg_of X G a_CQ⟩, ⟨e_CO, m_CO⟩, PySem.W.mg_of X G a_CO, n_CW_CR, n_CW_CN, n_CW_CO, n_CR_CN, n_CR_CO, n_CN_CO, ⟨f_qi, _, Fi, Fi.binds (fun _ _ _ _ _ _ us hl => match us, hl with | [_, _], _ => rfl), ⟨mk, a_qi, i_qi, kc⟩⟩, ⟨f_qa, _, Fa, Fa.binds (fun _ _ _ _ _ _ us hl => match us, hl with | [_, _], _ => rfl), ⟨a_qa, i_qa, k_qa⟩⟩, ⟨f_qd, _, Fd, Fd.binds (fun _ _ _ _ _ _ us hl => match us, hl with | [_], _ => rfl), ⟨a_qd, i_qd, k_qd⟩⟩, (funAt_mk X G (fun _ _ _ _ _ _ us hl => match us, hl with | [_], _ => rfl) a_finite l_finite c_finite k_finite), (funAt_mk X G (fun _ _ _ _ _ _ us hl => match us, hl with | [_], _ => rfl) a_sign_of l_sign_of c_sign_of k_sign_of), (funAt_mk X G (fun _ _ _ _ _ _ us hl => match us, hl with | [_], _ => rfl) a_power_of l_power_of c_power_of k_power_of), (funAt_mk X G (fun _ _ _ _ _ _ us hl => match us, hl with | [_], _ => rfl) a_size_of l_size_of c_size_of k_size_of), (funAt_mk X G (fun _ _ _ _ _ _ us hl => match us, hl with | [_, _], _ => rfl) a_signed_size l_signed_size c_signed_size k_signed_size), (funAt_mk X G (fun _ _ _ _ _ _ us hl => match us, hl with | [_, _], _ => rfl) a_rounded l_rounded c_rounded k_rounded), (funAt_mk X G (fun _ _ _ _ _ _ us hl => match us, hl with | [_, _, _], _ => rfl) a_nearest l_nearest c_nearest k_nearest), (funAt_mk X G (fun _ _ _ _ _ _ us hl => match us, hl with | [_, _], _ => rfl) a_plus l_plus c_plus k_plus), (funAt_mk X G (fun _ _ _ _ _ _ us hl => match us, hl with | [_, _], _ => rfl) a_minus l_minus c_minus k_minus), (funAt_mk X G (fun _ _ _ _ _ _ us hl => match us, hl with | [_, _], _ => rfl) a_times l_times c_times k_times), (funAt_mk X G (fun _ _ _ _ _ _ us hl => match us, hl with | [_, _], _ => rfl) a_answer_of l_answer_of c_answer_of k_answer_of)⟩, gi_mk X G g_ZERO, gi_mk X G g_HALF, gi_mk X G g_FOUR, gi_mk X G g_SIX, gi_mk X G g_FIFTEEN, gi_mk X G g_DEEPEST, (funAt_mk X G (fun _ _ _ _ _ _ us hl => match us, hl with | [_], _ => rfl) a_without_sign l_without_sign c_without_sign k_without_sign), (funAt_mk X G (fun _ _ _ _ _ _ us hl => match us, hl with | [_], _ => rfl) a_is_zero l_is_zero c_is_zero k_is_zero), (funAt_mk X G (fun _ _ _ _ _ _ us hl => match us, hl with | [_], _ => rfl) a_rank_of l_rank_of c_rank_of k_rank_of), (funAt_mk X G (fun _ _ _ _ _ _ us hl => match us, hl with | [_, _], _ => rfl) a_less l_less c_less k_less), (funAt_mk X G (fun _ _ _ _ _ _ us hl => match us, hl with | [_, _], _ => rfl) a_divided l_divided c_divided k_divided), (funAt_mk X G (fun _ _ _ _ _ _ us hl => match us, hl with | [_, _], _ => rfl) a_middle l_middle c_middle k_middle), (funAt_mk X G (fun _ _ _ _ _ _ us hl => match us, hl with | [_, _, _, _], _ => rfl) a_rough_out l_rough_out c_rough_out k_rough_out), (funAt_mk X G (fun _ _ _ _ _ _ us hl => match us, hl with | [_, _, _, _], _ => rfl) a_area_of_piece l_area_of_piece c_area_of_piece k_area_of_piece), ⟨C_Piece, ⟨⟨pg_Piece, hd_Piece, po_Piece, sa_Piece⟩, n_Piece_a, n_Piece_m, n_Piece_b, n_Piece_at_a, n_Piece_at_m, n_Piece_at_b, n_Piece_estimate, PySem.W.mg_of X G a_C_Piece⟩, f_pi, _, F_pi, F_pi.binds (fun _ _ _ _ _ _ us hl => match us, hl with | [_, _, _, _, _, _, _], _ => rfl), ⟨mk_Piece, a_pi, i_pi, kc_Piece⟩⟩⟩
  have FT := fun_mk (st := s_told) l_told c_told k_told
  have bT := FT.binds (ps := ["answers", "reckon"]) (fun _ _ _ _ _ _ us hl => match us, hl with | [_, _], _ => rfl)
  exact ⟨_, c_t, Pt, tabIn_mk a_rough l_rough rfl lc hv, hKP, fun s us hu => match us, hu with | [_, _, _, _], _ => .of_eq rfl, fun base hM hC hB hP => ok_rough D FT bT (PySem.W.mg_of X G a_told) l_rough c_rough hC hB hP⟩
end An
open PySem PySem.W PyProof.Rows
set_option maxRecDepth 100000 in
set_option maxHeartbeats 0 in
theorem PySem.Challenge.cw_askednumbers_s03_rough_holds : PySem.Challenge.rw_askednumbers_s03_rough.Holds := by
  w_on; k_headS; (case hw => exact ⟨[.int 0, .int 0, .int 0, .list []], by decide +kernel, by decide +kernel⟩)
  k_fillS
  refine L2.walk_specT (r := PySem.Challenge.rw_askednumbers_s03_rough) (k := 32) (ps := ["a", "b", "near", "answers"]) (sp := An.spRough) (by decide +kernel) rfl rfl ⟨rfl, by decide, by decide⟩ rfl (fun w h Y => PySem.W.kIn_of Y) ?F ?S
  case F =>
    intro w mg fa h Y KX G hmg
    refine' An.all_rough KX G hmg ?a_finite ?l_finite ?c_finite ?k_finite ?a_sign_of ?l_sign_of ?c_sign_of ?k_sign_of ?a_power_of ?l_power_of ?c_power_of ?k_power_of ?a_size_of ?l_size_of ?c_size_of ?k_size_of ?a_signed_size ?l_signed_size ?c_signed_size ?k_signed_size ?a_rounded ?l_rounded ?c_rounded ?k_rounded ?a_nearest ?l_nearest ?c_nearest ?k_nearest ?a_plus ?l_plus ?c_plus ?k_plus ?a_minus ?l_minus ?c_minus ?k_minus ?a_times ?l_times ?c_times ?k_times ?a_answer_of ?l_answer_of ?c_answer_of ?k_answer_of ?a_without_sign ?l_without_sign ?c_without_sign ?k_without_sign ?a_is_zero ?l_is_zero ?c_is_zero ?k_is_zero ?a_rank_of ?l_rank_of ?c_rank_of ?k_rank_of ?a_less ?l_less ?c_less ?k_less ?a_divided ?l_divided ?c_divided ?k_divided ?a_middle ?l_middle ?c_middle ?k_middle ?a_rough_out ?l_rough_out ?c_rough_out ?k_rough_out ?a_area_of_piece ?l_area_of_piece ?c_area_of_piece ?k_area_of_piece ?a_told ?l_told ?c_told ?k_told ?a_CN ?e_CN ?m_CN ?a_CW ?e_CW ?m_CW ?a_CR ?e_CR ?m_CR ?a_CO ?e_CO ?m_CO ?n_CW_CR ?n_CW_CN ?n_CW_CO ?n_CR_CN ?n_CR_CO ?n_CN_CO ?a_CQ ?a_qi ?i_qi ?l_qi ?c_qi ?k_qi ?a_qa ?i_qa ?l_qa ?c_qa ?k_qa ?a_qd ?i_qd ?l_qd ?c_qd ?k_qd ?pg ?hd ?po ?sa ?mk ?kc ?nA ?nC ?nQ ?a_C_Piece ?a_pi ?i_pi ?l_pi ?c_pi ?k_pi ?pg_Piece ?hd_Piece ?po_Piece ?sa_Piece ?mk_Piece ?kc_Piece ?n_Piece_a ?n_Piece_m ?n_Piece_b ?n_Piece_at_a ?n_Piece_at_m ?n_Piece_at_b ?n_Piece_estimate ?g_SIGN_BIT ?g_INFINITY ?g_FRACTION_BITS ?g_HIDDEN_BIT ?g_POWER_OF_ONE ?g_ZERO ?g_HALF ?g_FOUR ?g_SIX ?g_FIFTEEN ?g_DEEPEST ?b_max ?b_min ?b_abs ?b_len ?b_range ?a_rough ?l_rough ?c_rough ?lc ?hv ?hKP
    (case a_finite => k_is)
    (case l_finite => k_is)
    (case c_finite => k_is)
    (case k_finite => k_is)
    (case a_sign_of => k_is)
    (case l_sign_of => k_is)
    (case c_sign_of => k_is)
    (case k_sign_of => k_is)
    (case a_power_of => k_is)
    (case l_power_of => k_is)
    (case c_power_of => k_is)
    (case k_power_of => k_is)
    (case a_size_of => k_is)
    (case l_size_of => k_is)
    (case c_size_of => k_is)
    (case k_size_of => k_is)
    (case a_signed_size => k_is)
    (case l_signed_size => k_is)
    (case c_signed_size => k_is)
    (case k_signed_size => k_is)
    (case a_rounded => k_is)
    (case l_rounded => k_is)
    (case c_rounded => k_is)
    (case k_rounded => k_is)
    (case a_nearest => k_is)
    (case l_nearest => k_is)
    (case c_nearest => k_is)
    (case k_nearest => k_is)
    (case a_plus => k_is)
    (case l_plus => k_is)
    (case c_plus => k_is)
    (case k_plus => k_is)
    (case a_minus => k_is)
    (case l_minus => k_is)
    (case c_minus => k_is)
    (case k_minus => k_is)
    (case a_times => k_is)
    (case l_times => k_is)
    (case c_times => k_is)
    (case k_times => k_is)
    (case a_answer_of => k_is)
    (case l_answer_of => k_is)
    (case c_answer_of => k_is)
    (case k_answer_of => k_is)
    (case a_without_sign => k_is)
    (case l_without_sign => k_is)
    (case c_without_sign => k_is)
    (case k_without_sign => k_is)
    (case a_is_zero => k_is)
    (case l_is_zero => k_is)
    (case c_is_zero => k_is)
    (case k_is_zero => k_is)
    (case a_rank_of => k_is)
    (case l_rank_of => k_is)
    (case c_rank_of => k_is)
    (case k_rank_of => k_is)
    (case a_less => k_is)
    (case l_less => k_is)
    (case c_less => k_is)
    (case k_less => k_is)
    (case a_divided => k_is)
    (case l_divided => k_is)
    (case c_divided => k_is)
    (case k_divided => k_is)
    (case a_middle => k_is)
    (case l_middle => k_is)
    (case c_middle => k_is)
    (case k_middle => k_is)
    (case a_rough_out => k_is)
    (case l_rough_out => k_is)
    (case c_rough_out => k_is)
    (case k_rough_out => k_is)
    (case a_area_of_piece => k_is)
    (case l_area_of_piece => k_is)
    (case c_area_of_piece => k_is)
    (case k_area_of_piece => k_is)
    (case a_told => k_is)
    (case l_told => k_is)
    (case c_told => k_is)
    (case k_told => k_is)
    (case a_CN => k_is)
    (case e_CN => k_exc)
    (case m_CN => kernel_rfl)
    (case a_CW => k_is)
    (case e_CW => k_exc)
    (case m_CW => kernel_rfl)
    (case a_CR => k_is)
    (case e_CR => k_exc)
    (case m_CR => kernel_rfl)
    (case a_CO => k_is)
    (case e_CO => k_exc)
    (case m_CO => kernel_rfl)
    (case n_CW_CR => decide)
    (case n_CW_CN => decide)
    (case n_CW_CO => decide)
    (case n_CR_CN => decide)
    (case n_CR_CO => decide)
    (case n_CN_CO => decide)
    (case a_CQ => k_is)
    (case a_qi => k_is)
    (case i_qi => k_is)
    (case l_qi => k_is)
    (case c_qi => k_is)
    (case k_qi => k_is)
    (case a_qa => k_is)
    (case i_qa => k_is)
    (case l_qa => k_is)
    (case c_qa => k_is)
    (case k_qa => k_is)
    (case a_qd => k_is)
    (case i_qd => k_is)
    (case l_qd => k_is)
    (case c_qd => k_is)
    (case k_qd => k_is)
    (case pg => k_is)
    (case hd => k_is)
    (case po => k_is)
    (case sa => k_is)
    (case mk => k_is)
    (case kc => k_is)
    (case nA => k_is)
    (case nC => k_is)
    (case nQ => k_is)
    (case a_C_Piece => k_is)
    (case a_pi => k_is)
    (case i_pi => k_is)
    (case l_pi => k_is)
    (case c_pi => k_is)
    (case k_pi => k_is)
    (case pg_Piece => k_is)
    (case hd_Piece => k_is)
    (case po_Piece => k_is)
    (case sa_Piece => k_is)
    (case mk_Piece => k_is)
    (case kc_Piece => k_is)
    (case n_Piece_a => k_is)
    (case n_Piece_m => k_is)
    (case n_Piece_b => k_is)
    (case n_Piece_at_a => k_is)
    (case n_Piece_at_m => k_is)
    (case n_Piece_at_b => k_is)
    (case n_Piece_estimate => k_is)
    (case g_SIGN_BIT => k_is)
    (case g_INFINITY => k_is)
    (case g_FRACTION_BITS => k_is)
    (case g_HIDDEN_BIT => k_is)
    (case g_POWER_OF_ONE => k_is)
    (case g_ZERO => k_is)
    (case g_HALF => k_is)
    (case g_FOUR => k_is)
    (case g_SIX => k_is)
    (case g_FIFTEEN => k_is)
    (case g_DEEPEST => k_is)
    (case b_max => k_is)
    (case b_min => k_is)
    (case b_abs => k_is)
    (case b_len => k_is)
    (case b_range => k_is)
    (case a_rough => k_is)
    (case l_rough => k_is)
    (case c_rough => k_is)
    (case lc => k_is)
    (case hv => exact rfl)
    (case hKP => kernel_rfl)
  case S =>
    intro K Pt H xs a hKP hO hn hwi hask hx
    obtain ⟨a1, a2, a3, al, u⟩ := a
    cases hx with
    | cons h1 hx =>
      cases h1
      cases hx with
      | cons h2 hx =>
        cases h2
        cases hx with
        | cons h3 hx =>
          cases h3
          cases hx with
          | cons hl hx =>
            cases hx
            cases hl with
            | @lst la _ _ hs ha =>
              have e := L2.ints_dw al _ ha
              subst e
              have q : (Codec.inInt 0 18446744073709551615 a1 && (Codec.inInt 0 18446744073709551615 a2 && (Codec.inInt 0 18446744073709551615 a3 && ((Codec.inLen 0 3000 al && al.all (Codec.inInt 0 18446744073709551615)) && true)))) = true := hwi
              simp only [Bool.and_eq_true, Bool.and_true] at q
              obtain ⟨q1, q2, q3, ql, qa⟩ := q
              have b1 := Codec.inInt_iff.mp q1
              have b2 := Codec.inInt_iff.mp q2
              have b3 := Codec.inInt_iff.mp q3
              have ba : ∀ x ∈ al, 0 ≤ x ∧ x ≤ 18446744073709551615 := fun x hx => Codec.inInt_iff.mp (List.all_eq_true.mp qa x hx)
              have hns := An.few_of (Codec.inNat_iff.mp ql).2 ba
              have hne : la ≠ Pt := An.sq_ne hs hn hKP
              refine ⟨a1.toNat, a2.toNat, a3.toNat, la, al.map Int.toNat, ?_, by omega, by omega, by omega, ?_, ?_, hns, L2.upd_same, ?_⟩
              · rw [Int.toNat_of_nonneg b1.1, Int.toNat_of_nonneg b2.1, Int.toNat_of_nonneg b3.1]
              · rw [An.vI_of fun x hx => (ba x hx).1]
                exact hs.upd_ne hne
              · exact hne
              · have es : PySv21.rough a1 a2 a3 al = An.toldI (Sv21.play (Sv21.program (.rough (Int.toNat a1) (Int.toNat a2) (Int.toNat a3))) (al.map Int.toNat)).1.length (Sv21.play (Sv21.program (.rough (Int.toNat a1) (Int.toNat a2) (Int.toNat a3))) (al.map Int.toNat)).1.flatten (Sv21.play (Sv21.program (.rough (Int.toNat a1) (Int.toNat a2) (Int.toNat a3))) (al.map Int.toNat)).2 := An.spec_told
                refine An.wp2_mono (An.told_end (K := K) ((An.good_rough _ _ _).x hns) (by decide)) fun c qs r ⟨x1, x2, x3⟩ => ⟨x1, x2, fun H_1 p hp => ?_⟩
                show L2.Dw K H_1 (.ref p) (.list ((PySv21.rough a1 a2 a3 al).map WData.int))
                rw [es]
                exact x3 H_1 p hp
#print axioms PySem.Challenge.cw_askednumbers_s03_rough_holds
