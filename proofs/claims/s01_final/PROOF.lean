import PyProof.Rows.All
import Wide.All
import OpenK.AllK
import Wide.FinOn
import PyProof.EqAt
import PyProof.EqKinds
import PyProof.TupleCall
import KE.BitLaws
import KE.OsGo
import KE.KDictSum
import KE.KDictList
import PyProof.Rows.SortShellAny
import Open.SpecLaws
import Sz43Spec
import PySz43
import PySem.Challenge.RW_sameruns_s01_bt_known
set_option Elab.async false
set_option linter.all false
set_option maxRecDepth 100000
noncomputable section

set_option Elab.async false
set_option linter.all false
set_option maxRecDepth 100000
namespace L2
open PySem PySem.Spec PyProof.Rows

/-- a key: an int or a str -/
abbrev Key := Sum Int Str
def keyIs : Key → Value → Bool
  | .inl k, v => Value.isInt k v
  | .inr x, v => Value.isStrOf x v
def keyH (w : World) : Key → Int
  | .inl k => hashInt k
  | .inr x => hashStr w x
theorem keyIs_shape : ∀ {k : Key} {v : Value}, keyIs k v = true → (∃ i t, k = Sum.inl i ∧ v = Value.int i t) ∨ (∃ x t, k = Sum.inr x ∧ v = Value.str x t)
  | .inl i, v, h => by
    obtain ⟨t, e⟩ := Value.isInt_shape (k := i) (v := v) h
    exact .inl ⟨i, t, rfl, e⟩
  | .inr x, v, h => by
    obtain ⟨t, e⟩ := Value.isStrOf_shape (x := x) (v := v) h
    exact .inr ⟨x, t, rfl, e⟩
theorem keyIs_int (i : Int) (t : Tok) : keyIs (.inl i) (.int i t) = true := by simp [keyIs, Value.isInt]
theorem keyIs_str (x : Str) (t : Tok) : keyIs (.inr x) (.str x t) = true := by simp [keyIs, Value.isStrOf]
theorem key_ll (a b : Int) : decide ((Sum.inl a : Key) = Sum.inl b) = (a == b) := by
  by_cases e : a = b
  · subst e; simp
  · have h : ¬ (Sum.inl a : Key) = Sum.inl b := fun q => e (Sum.inl.inj q)
    rw [decide_eq_false h]
    exact (beq_eq_false_iff_ne.mpr e).symm
theorem key_rr (a b : Str) : decide ((Sum.inr a : Key) = Sum.inr b) = decide (a = b) := by
  by_cases e : a = b
  · subst e; simp
  · have h : ¬ (Sum.inr a : Key) = Sum.inr b := fun q => e (Sum.inr.inj q)
    rw [decide_eq_false h, decide_eq_false e]
theorem key_lr (a : Int) (b : Str) : decide ((Sum.inl a : Key) = Sum.inr b) = false := decide_eq_false (fun q => nomatch q)
theorem key_rl (a : Str) (b : Int) : decide ((Sum.inr a : Key) = Sum.inl b) = false := decide_eq_false (fun q => nomatch q)

def mixKind (prog : Program) (w : World) : PySem.KeyKind prog w Key where
  is := keyIs
  hash := keyH w
  inj := fun v a b ha hb => by
    rcases keyIs_shape ha with ⟨i, t, rfl, rfl⟩ | ⟨x, t, rfl, rfl⟩
    · rcases keyIs_shape hb with ⟨j, u, rfl, e⟩ | ⟨y, u, rfl, e⟩
      · injection e with e1 _; rw [e1]
      · exact nomatch e
    · rcases keyIs_shape hb with ⟨j, u, rfl, e⟩ | ⟨y, u, rfl, e⟩
      · exact nomatch e
      · injection e with e1 _; rw [e1]
  byValue := fun k v h => by
    rcases keyIs_shape h with ⟨i, t, rfl, rfl⟩ | ⟨x, t, rfl, rfl⟩ <;> rfl
  pyHash := fun hv h => by
    rcases keyIs_shape hv with ⟨i, t, rfl, rfl⟩ | ⟨x, t, rfl, rfl⟩
    · exact wpAny_pyHash_int h
    · exact wpAny_pyHash_str h
  eqBool := fun hu hv h => by
    rcases keyIs_shape hu with ⟨i, t, rfl, rfl⟩ | ⟨x, t, rfl, rfl⟩
    · rcases keyIs_shape hv with ⟨j, u, rfl, rfl⟩ | ⟨y, u, rfl, rfl⟩
      · rw [key_ll] at h; exact wpAny_eqBool_int h
      · rw [key_lr] at h; exact SeqAt.EqAt.int_str i t y u _ _ _ _ h
    · rcases keyIs_shape hv with ⟨j, u, rfl, rfl⟩ | ⟨y, u, rfl, rfl⟩
      · rw [key_rl] at h; exact SeqAt.EqAt.str_int x t j u _ _ _ _ h
      · rw [key_rr] at h; exact wpAny_eqBool_str h
  «strs» := fun k x t v h => by
    rcases keyIs_shape h with ⟨i, u, rfl, e⟩ | ⟨y, u, rfl, e⟩
    · exact nomatch e
    · injection e with e1 _
      subst e1
      cases v <;> rfl

theorem mixKind_int (prog : Program) (w : World) (i : Int) (t : Tok) : (mixKind prog w).is (.inl i) (.int i t) = true := keyIs_int i t
theorem mixKind_str (prog : Program) (w : World) (x : Str) (t : Tok) : (mixKind prog w).is (.inr x) (.str x t) = true := keyIs_str x t
end L2

namespace L2
open PySem PySem.Spec PyProof.Rows

/-- a value, without the heap -/
inductive V where
  | non | bl (b : Bool) | int (i : Int) | str (x : Str) | byt (b : Array UInt8) | flt (b : UInt64) | ref (a : Addr) | ty (n : String)
  deriving DecidableEq

def RelV : V → Value → Prop
  | .non, u => u = Value.none
  | .bl b, u => u = Value.bool b
  | .int i, u => ∃ t, u = Value.int i t
  | .str x, u => ∃ t, u = Value.str x t
  | .byt b, u => ∃ t, u = Value.bytes b t
  | .flt b, u => ∃ t, u = Value.float b t
  | .ref a, u => u = Value.ref a
  | .ty n, u => u = Value.type n

abbrev Vals : List V → List Value → Prop := Paired RelV
theorem Vals.length {xs : List V} {us : List Value} (r : Vals xs us) : xs.length = us.length := Paired.length r
theorem Vals.get : ∀ {xs : List V} {us : List Value} {i : Nat} {x : V}, Vals xs us → xs[i]? = some x → ∃ u, us[i]? = some u ∧ RelV x u
  | _, _, _, _, .nil, e => by simp at e
  | _, _, 0, _, .cons r _, e => by simp at e; subst e; exact ⟨_, rfl, r⟩
  | _, _, i + 1, x, .cons _ t, e => by
    obtain ⟨u, h1, h2⟩ := Vals.get (i := i) (x := x) t (by simpa using e)
    exact ⟨u, by simpa using h1, h2⟩
theorem Vals.set {x : V} {u : Value} (r : RelV x u) : ∀ {xs : List V} {us : List Value} (i : Nat), Vals xs us → Vals (xs.set i x) (us.set i u)
  | _, _, _, .nil => .nil
  | _, _, 0, .cons _ t => .cons r t
  | _, _, i + 1, .cons q t => .cons q (Vals.set r i t)
theorem Vals.append : ∀ {xs ys : List V} {us ws : List Value}, Vals xs us → Vals ys ws → Vals (xs ++ ys) (us ++ ws)
  | _, _, _, _, .nil, s => s
  | _, _, _, _, .cons r t, s => .cons r (Vals.append t s)
theorem Vals.take : ∀ {xs : List V} {us : List Value} (n : Nat), Vals xs us → Vals (xs.take n) (us.take n)
  | _, _, 0, _ => .nil
  | _, _, _ + 1, .nil => .nil
  | _, _, n + 1, .cons r t => .cons r (Vals.take n t)
theorem Vals.drop : ∀ {xs : List V} {us : List Value} (n : Nat), Vals xs us → Vals (xs.drop n) (us.drop n)
  | _, _, 0, r => r
  | _, _, _ + 1, .nil => .nil
  | _, _, n + 1, .cons _ t => Vals.drop n t
def RelO : Option V → Option Value → Prop
  | some v, some u => RelV v u
  | none, none => True
  | _, _ => False
def KV {κ : Type} : List (κ × V) → List (κ × Value) → Prop := Paired fun (p : κ × V) (q : κ × Value) => p.1 = q.1 ∧ RelV p.2 q.2

/-- a key of a dict (00_mix): an int or a text -/
def kV : Key → V
  | .inl i => .int i
  | .inr x => .str x

/-- what stands at a tracked address -/
inductive HO where
  /-- a list -/
  | lst (xs : List V)
  /-- a tuple (never changes) -/
  | tup (xs : List V)
  /-- a dict whose keys are ints and texts; one whose keys are tuples of ints and texts (the empty one is both) -/
  | dK (kvs : List (Key × V)) | dT (kvs : List (List Key × V))
  /-- a set of ints: its members, its size -/
  | set (S : Int → Bool) (n : Nat)
  /-- an instance of the class at C, its dict at dx, its attributes -/
  | ins (C dx : Addr) (fs : List (Str × V))
  /-- the dict of the instance at x -/
  | own (x : Addr)
  /-- the dict of an exception -/
  | xd (fs : List (Str × V))
  /-- a bound method, f of x -/
  | met (f x : Addr)
  /-- a range object lo, lo + 1, .. below hi -/
  | rng (lo hi : Int)
  /-- a thing that is known to the object (the script; a dict while a loop walks it): read, never written while it is so -/
  | frz (o : Obj) (u : HO)
  /-- a code object's table -/
  | tbl (ps : Array Value)
  /-- any other thing, by what is true of its one object (a def of one's own: SetO a S n := HO.ext fun h => ..) -/
  | ext (φ : Heap → Prop)

abbrev Hp := Addr → Option HO
def upd (H : Hp) (a : Addr) (o : HO) : Hp := fun b => if b = a then some o else H b
theorem upd_same {H : Hp} {a : Addr} {o : HO} : upd H a o a = some o := by unfold upd; rw [if_pos rfl]
theorem upd_ne {H : Hp} {a b : Addr} {o : HO} (h : b ≠ a) : upd H a o b = H b := by unfold upd; rw [if_neg h]
/-- two objects of different content stand apart -/
theorem ne_of {H : Hp} {a b : Addr} {o u : HO} (h : H a = some o) (h' : H b = some u) (d : o ≠ u) : a ≠ b := by
  intro e; subst e; rw [h] at h'; exact d (Option.some.inj h')
theorem ne_of_none {H : Hp} {a b : Addr} {o : HO} (h : H a = some o) (h' : H b = none) : a ≠ b := by
  intro e; subst e; rw [h] at h'; cases h'

section
variable (P : Program) (w : World)
def ObjOk (H : Hp) (h : Heap) (a : Addr) : HO → Prop
  | .lst xs => xs.length ≤ sizeLine ∧ ∃ (its : List Value) (n : Nat), Vals xs its ∧ h.get? a = some { cls := .type "list", data := .seq its.toArray n }
  | .tup xs => xs.length ≤ sizeLine ∧ ∃ its : List Value, Vals xs its ∧ IsTup h a its.toArray
  | .dK kvs => kvs.length ≤ sizeLine ∧ (a == sysModules) = false ∧ ∃ vs, KV kvs vs ∧ h.DictOf (mixKind P w) a vs
  | .dT kvs => kvs.length ≤ sizeLine ∧ (a == sysModules) = false ∧ ∃ xs : List (List Key × Addr × Value),
      Paired (fun (p : List Key × V) (q : List Key × Addr × Value) => p.1 = q.1 ∧ H q.2.1 = some (.tup (p.1.map kV)) ∧ RelV p.2 q.2.2) kvs xs ∧
      ∃ o es ep, h.get? a = some o ∧ o.ExactDict ∧ o.data = .dict es ep ∧ es.toList = xs.map (entryOfKey (tupleKind (mixKind P w))) ∧ (xs.map (·.1)).Nodup
  | .set S n => h.SetOf (intKind P w) a S n
  | .ins C dx fs => H dx = some (.own a) ∧ fs.length ≤ 1000 ∧ dx ≠ a ∧ h.get? a = some (PySem.W.instObj C dx) ∧
      ∃ mA, h.Ns1 dx mA ∧ (∀ f, RelO (fs.lookup f) (mA f)) ∧ PySem.Within mA (fs.map (·.1))
  | .own _ => ∃ o, h.get? a = some o
  | .xd fs => ∃ mA, h.Ns1 a mA ∧ ∀ f, RelO (fs.lookup f) (mA f)
  | .rng lo hi => ∃ t u v, h.get? a = some { cls := .type "range", data := .fields #[.int lo t, .int hi u, .int 1 v] }
  | .frz o u => h.get? a = some o ∧ ObjOk H h a u
  | .tbl ps => h.get? a = some { cls := .none, data := .fields ps }
  | .met f x => h.get? a = some (PySem.W.methodObj (.ref f) (.ref x))
  | .ext φ => φ h ∧ (∃ o, h.get? a = some o) ∧ ∀ h1 h2 : Heap, φ h1 → (∀ o, h1.get? a = some o → h2.get? a = some o) → φ h2
/-- the abstract heap is held -/
def HOk (H : Hp) (h : Heap) : Prop := ∀ a o, H a = some o → ObjOk P w H h a o
end

section
variable {P : Program} {w : World} {H H' : Hp} {h h' : Heap} {a : Addr} {o : HO}
theorem ObjOk.lt (x : ObjOk P w H h a o) : a < h.objs.size := by
  cases o with
  | lst xs => obtain ⟨_, _, _, _, e⟩ := x; exact Heap.lt_size e
  | tup xs => obtain ⟨_, _, _, p⟩ := x; exact p.lt
  | dK kvs => obtain ⟨_, _, _, _, o, _, _, e, _⟩ := x; exact Heap.lt_size e
  | dT kvs => obtain ⟨_, _, _, _, o, _, _, e, _⟩ := x; exact Heap.lt_size e
  | set S n => obtain ⟨o, _, _, _, e, _⟩ := x; exact Heap.lt_size e
  | ins C dx fs => obtain ⟨_, _, _, e, _⟩ := x; exact Heap.lt_size e
  | own y => obtain ⟨_, e⟩ := x; exact Heap.lt_size e
  | xd fs => obtain ⟨_, ⟨_, _, _, e, _⟩, _⟩ := x; exact Heap.lt_size e
  | rng lo hi => obtain ⟨_, _, _, e⟩ := x; exact Heap.lt_size e
  | frz ob u => obtain ⟨e, _⟩ := x; exact Heap.lt_size e
  | tbl ps => exact Heap.lt_size (show h.get? a = some _ from x)
  | met f y => exact Heap.lt_size (show h.get? a = some _ from x)
  | ext φ => obtain ⟨_, ⟨_, e⟩, _⟩ := x; exact Heap.lt_size e
theorem Paired.mapP {α β : Type} {F G : α → β → Prop} : ∀ {l₁ : List α} {l₂ : List β}, Paired F l₁ l₂ → (∀ a b, F a b → G a b) → Paired G l₁ l₂
  | _, _, .nil, _ => .nil
  | _, _, .cons r t, f => .cons (f _ _ r) (Paired.mapP t f)
/-- what an object's description leans on: its own object, its own dict, the tuples -/
theorem ObjOk.stay (x : ObjOk P w H h a o) (k : ∀ b u, (b = a ∨ H b = some (.own a)) → h.get? b = some u → h'.get? b = some u)
    (ho : ∀ b, H b = some (.own a) → H' b = some (.own a)) (ht : ∀ b xs, H b = some (.tup xs) → H' b = some (.tup xs)) : ObjOk P w H' h' a o := by
  induction o with
  | lst xs => obtain ⟨z, its, n, r, e⟩ := x; exact ⟨z, its, n, r, k _ _ (.inl rfl) e⟩
  | tup xs => obtain ⟨z, its, r, ob, e, c⟩ := x; exact ⟨z, its, r, ob, k _ _ (.inl rfl) e, c⟩
  | dK kvs => obtain ⟨z, y, vs, r, ob, es, ep, e, c⟩ := x; exact ⟨z, y, vs, r, ob, es, ep, k _ _ (.inl rfl) e, c⟩
  | dT kvs =>
    obtain ⟨z, y, xs, r, ob, es, ep, e, c⟩ := x
    exact ⟨z, y, xs, Paired.mapP r fun p q z => ⟨z.1, ht _ _ z.2.1, z.2.2⟩, ob, es, ep, k _ _ (.inl rfl) e, c⟩
  | set S n => obtain ⟨ob, es, ep, t, e, c⟩ := x; exact ⟨ob, es, ep, t, k _ _ (.inl rfl) e, c⟩
  | ins C dx fs =>
    obtain ⟨d, z, ne, e, mA, ⟨od, es, ep, e2, c⟩, r⟩ := x
    exact ⟨ho _ d, z, ne, k _ _ (.inl rfl) e, mA, ⟨od, es, ep, k _ _ (.inr d) e2, c⟩, r⟩
  | own y => obtain ⟨ob, e⟩ := x; exact ⟨ob, k _ _ (.inl rfl) e⟩
  | xd fs => obtain ⟨mA, ⟨od, es, ep, e, c⟩, r⟩ := x; exact ⟨mA, ⟨od, es, ep, k _ _ (.inl rfl) e, c⟩, r⟩
  | rng lo hi => obtain ⟨t, u, v, e⟩ := x; exact ⟨t, u, v, k _ _ (.inl rfl) e⟩
  | frz ob u ih => obtain ⟨e, q⟩ := x; exact ⟨k _ _ (.inl rfl) e, ih q⟩
  | tbl ps =>
    have e : h.get? a = some { cls := .none, data := .fields ps } := x
    show h'.get? a = some { cls := .none, data := .fields ps }
    exact k a _ (.inl rfl) e
  | met f y =>
    have e : h.get? a = some (PySem.W.methodObj (.ref f) (.ref y)) := x
    show h'.get? a = some (PySem.W.methodObj (.ref f) (.ref y))
    exact k a _ (.inl rfl) e
  | ext φ => obtain ⟨p, ⟨o, e⟩, st⟩ := x; exact ⟨st _ _ p fun o q => k _ _ (.inl rfl) q, ⟨o, k _ _ (.inl rfl) e⟩, st⟩
theorem HOk.lt (x : HOk P w H h) (e : H a = some o) : a < h.objs.size := (x a o e).lt
theorem HOk.fresh (x : HOk P w H h) (e : h.objs.size ≤ a) : H a = none := by
  cases q : H a with
  | none => rfl
  | some u => exact absurd (Nat.lt_of_lt_of_le (x.lt q) e) (Nat.lt_irrefl _)
/-- every object of the heap is kept -/
theorem HOk.kept (x : HOk P w H h) (k : ∀ b u, h.get? b = some u → h'.get? b = some u) : HOk P w H h' := fun a o e =>
  (x a o e).stay (fun b u _ q => k b u q) (fun _ q => q) fun _ _ q => q
/-- a new object is laid and tracked -/
theorem HOk.laid (x : HOk P w H h) (k : ∀ b u, h.get? b = some u → h'.get? b = some u) (hp : h.objs.size ≤ a) (new : ObjOk P w (upd H a o) h' a o) : HOk P w (upd H a o) h' := fun b u e => by
  have hn := x.fresh hp
  by_cases hb : b = a
  · subst hb; rw [upd_same] at e; cases e; exact new
  · rw [upd_ne hb] at e
    exact (x b u e).stay (fun c v _ q => k c v q) (fun c q => by rw [upd_ne (ne_of_none q hn)]; exact q) fun c xs q => by rw [upd_ne (ne_of_none q hn)]; exact q
end

/-- what may be read as u: it is u, or a known u -/
def Rd (H : Hp) (a : Addr) (u : HO) : Prop := H a = some u ∨ ∃ o, H a = some (.frz o u)
theorem Rd.ok {P : Program} {w : World} {H : Hp} {h : Heap} {a : Addr} {u : HO} (r : Rd H a u) (x : HOk P w H h) : ObjOk P w H h a u := by
  rcases r with r | ⟨o, r⟩
  · exact x a u r
  · obtain ⟨_, q⟩ := x a _ r
    exact q
/-- what may be written -/
def Mut : Option HO → Prop
  | some (.lst _) => True
  | some (.dK _) => True
  | some (.dT _) => True
  | some (.set _ _) => True
  | some (.ins _ _ _) => True
  | some (.ext _) => True
  | _ => False
section
variable {P : Program} {w : World} {H : Hp} {h h' : Heap} {x e : Addr} {o' : HO}
/-- the object at e is changed: x itself, or the dict of the instance x -/
theorem HOk.write (ok : HOk P w H h) (mu : Mut (H x)) (he : e = x ∨ H e = some (.own x)) (k : ∀ b u, b ≠ e → h.get? b = some u → h'.get? b = some u) (heo : ∃ u, h'.get? e = some u)
    (new : ObjOk P w (upd H x o') h' x o') : HOk P w (upd H x o') h' := fun b u q => by
  have nown : ∀ c y, H c = some (.own y) → c ≠ x := fun c y r z => by subst z; rw [r] at mu; exact mu
  have ntup : ∀ c xs, H c = some (.tup xs) → c ≠ x := fun c xs r z => by subst z; rw [r] at mu; exact mu
  by_cases hb : b = x
  · subst hb; rw [upd_same] at q; cases q; exact new
  · rw [upd_ne hb] at q
    by_cases hbe : b = e
    · have q' : H b = some (.own x) := by
        rcases he with z | z
        · exact absurd (hbe.trans z) hb
        · rw [hbe]; exact z
      rw [q] at q'; cases q'
      obtain ⟨v, hv⟩ := heo
      exact ⟨v, by rw [hbe]; exact hv⟩
    · refine (ok b u q).stay (fun c v hc r => k c v ?_ r) (fun c r => by rw [upd_ne (nown c b r)]; exact r) fun c xs r => by rw [upd_ne (ntup c xs r)]; exact r
      rcases hc with rfl | hc
      · exact hbe
      · rintro rfl
        rcases he with z | z
        · exact nown c b hc z
        · rw [hc] at z; cases z; exact hb rfl
end

structure Un (fs ex : List Addr) (H H' : Hp) (h h' : Heap) : Prop where
  keep : ∀ b o, h.get? b = some o → H b = none → b ∉ fs → b ∉ ex → h'.get? b = some o
  slot : ∀ b o, h.get? b = some o → H b = none → b ∈ fs → b ∉ ex → ∃ sl, h'.get? b = some { o with slots := sl }
  free : ∀ b o, h.get? b = some o → H b = none → b ∉ ex → H' b = none
  there : ∀ b o, h.get? b = some o → b ∉ ex → ∃ o', h'.get? b = some o'
  tups : ∀ b xs, H b = some (.tup xs) → H' b = some (.tup xs)
  frzs : ∀ b o u, H b = some (.frz o u) → H' b = some (.frz o u)
  tbls : ∀ b ps, H b = some (.tbl ps) → ∃ more, H' b = some (.tbl (ps ++ more))
section
variable {fs fs' ex ex' : List Addr} {H H1 H2 : Hp} {h h1 h2 h' : Heap} {a x e : Addr} {o : HO}
theorem Un.any (u : Un fs ex H H1 h h1) {b : Addr} {ob : Obj} (q : h.get? b = some ob) (n : H b = none) (hx : b ∉ ex) : ∃ sl, h1.get? b = some { ob with slots := sl } := by
  by_cases hb : b ∈ fs
  · exact u.slot b ob q n hb hx
  · exact ⟨ob.slots, u.keep b ob q n hb hx⟩
theorem Un.kept (k : ∀ b u, h.get? b = some u → h'.get? b = some u) : Un fs ex H H h h' :=
  ⟨fun b ob q _ _ _ => k b ob q, fun b ob q _ _ _ => ⟨ob.slots, k b ob q⟩, fun _ _ _ n _ => n, fun b ob q _ => ⟨ob, k b ob q⟩, fun _ _ q => q, fun _ _ _ q => q, fun _ ps q => ⟨#[], by rw [q]; simp⟩⟩
theorem Un.refl : Un fs ex H H h h := Un.kept fun _ _ q => q
theorem Un.laid (k : ∀ b u, h.get? b = some u → h'.get? b = some u) (hp : h.objs.size ≤ a) (hn : H a = none) : Un fs ex H (upd H a o) h h' where
  keep := fun b u q _ _ _ => k b u q
  slot := fun b u q _ _ _ => ⟨u.slots, k b u q⟩
  free := fun b u q n _ => by rw [upd_ne (Nat.ne_of_lt (Nat.lt_of_lt_of_le (Heap.lt_size q) hp))]; exact n
  there := fun b u q _ => ⟨u, k b u q⟩
  tups := fun b xs q => by rw [upd_ne (ne_of_none q hn)]; exact q
  frzs := fun b u xs q => by rw [upd_ne (ne_of_none q hn)]; exact q
  tbls := fun b ps q => ⟨#[], by rw [upd_ne (ne_of_none q hn), q]; simp⟩
theorem Un.write (mu : Mut (H x)) (he : e = x ∨ H e = some (.own x)) (k : ∀ b u, b ≠ e → h.get? b = some u → h'.get? b = some u) (heo : ∃ u, h'.get? e = some u) : Un fs ex H (upd H x o) h h' := by
  have hx : ∀ b, H b = none → b ≠ x := fun b n z => by subst z; rw [n] at mu; exact mu
  have hb : ∀ b, H b = none → b ≠ e := fun b n z => by
    subst z
    rcases he with r | r
    · exact hx b n r
    · rw [n] at r; cases r
  have hm : ∀ b u, H b = some u → ¬ Mut (some u) → b ≠ x := fun b u q nm z => by subst z; rw [q] at mu; exact nm mu
  refine ⟨fun b u q n _ _ => k b u (hb b n) q, fun b u q n _ _ => ⟨u.slots, k b u (hb b n) q⟩, fun b u q n _ => by rw [upd_ne (hx b n)]; exact n, fun b u q _ => ?_,
    fun b xs q => by rw [upd_ne (hm b _ q fun z => z)]; exact q, fun b u xs q => by rw [upd_ne (hm b _ q fun z => z)]; exact q, fun b ps q => ⟨#[], by rw [upd_ne (hm b _ q fun z => z), q]; simp⟩⟩
  by_cases hbe : b = e
  · subst hbe; exact heo
  · exact ⟨u, k b u hbe q⟩
end

def trk (h : Heap) (H : Hp) : List Addr := (List.range h.objs.size).filter fun a => (H a).isSome
def hidT (h : Heap) (H : Hp) : Heap := PySem.W.hideAll h (trk h H)
theorem hidT_size (h : Heap) (H : Hp) : (hidT h H).objs.size = h.objs.size := PySem.W.hideAll_size _ _
theorem hidT_get {h : Heap} {H : Hp} {b : Addr} {o : Obj} (e : h.get? b = some o) (n : H b = none) : (hidT h H).get? b = some o :=
  PySem.W.hideAll_get _ e fun hm => by
    have q : (H b).isSome = true := (List.mem_filter.mp hm).2
    rw [n] at q; simp at q
theorem of_hidT {h : Heap} {H : Hp} {b : Addr} {o : Obj} (e : (hidT h H).get? b = some o) : h.get? b = some o ∧ H b = none := by
  have e' : h.get? b = some o := PySem.W.of_hideAll (trk h H) e
  refine ⟨e', ?_⟩
  cases q : H b with
  | none => rfl
  | some x =>
    have hm : b ∈ trk h H := List.mem_filter.mpr ⟨List.mem_range.mpr (Heap.lt_size e'), by simp [q]⟩
    have z : (hidT h H).get? b = none := PySem.W.hideAll_none (trk h H) hm
    rw [z] at e; cases e

end L2

namespace L2
open PySem PySem.Spec PyProof.Rows

/-- the module's facts, over the base: the heap at the law's entry without what is tracked there -/
structure Mod (K : PySem.W.Frag) (mg : Str → Option Value) (base : Heap) : Prop where
  kin : K.In base
  glob : base.Ns mainGlobals mg
  blt : ∃ mb, base.Ns builtinsNs mb ∧ ∀ x : Str, x ≠ "__name__" → mb x = bootBuiltins x
  nolimit : base.NoLimit

/-- the context: a def's body (or a comprehension's block) running. base: fixed through the whole law; s₀, H₀: the entry; outer: the frames whose slots others may change (a def's callers); stack: all frames that run;
   ex: iterators that were made ahead of the entry and are walked here (a comprehension's); fn: the names whose cells were made at the entry (a def: all; a comprehension's block: its own); calm: not within an except suite; pn: pins that every state bears; xe: what is wanted of an exception that leaves the code -/
structure Cx where
  prog : Program
  w : World
  K : PySem.W.Frag
  mg : Str → Option Value
  base : Heap
  A : Around
  N : List Str
  s₀ : Shared
  H₀ : Hp
  env : Env
  outer : List Env
  stack : List Env
  ex : List Addr
  fn : Str → Bool
  calm : Bool
  pn : List (Addr × Obj)
  xe : Value → Shared → Prop
/-- the callers' frames -/
def frs (l : List Env) : List Addr := l.filterMap (·.frame)
abbrev Cx.fs (X : Cx) : List Addr := frs X.outer

def Vis (sc : Scope) (x : Str) : Prop := sc.names.lookup x = some .local ∨ sc.names.lookup x = some .cell ∨ sc.names.lookup x = some .free
def Loc (sc : Scope) (x : Str) : Prop := sc.names.lookup x = some .local ∨ sc.names.lookup x = some .cell
def Look (env : Env) (h : Heap) (m : Str → Option Value) (x : Str) (u : Value) : Prop :=
  (env.kindOf x = some .local ∧ m x = some u) ∨ ((env.kindOf x = some .cell ∨ env.kindOf x = some .free) ∧ ∃ c, env.cells.lookup x = some c ∧ h.IsCell c (some u))

structure Cx.Ok (X : Cx) : Prop where
  mod : Mod X.K X.mg X.base
  kind : X.env.scope.kind = .function
  glob : X.env.globals = mainGlobals
  blt : X.env.builtins = builtinsNs
  above : X.s₀.heap.objs.size ≤ X.env.locals
  inj : ∀ x y c, X.env.cells.lookup x = some c → X.env.cells.lookup y = some c → x = y
  has : ∀ x, (X.env.kindOf x = some .cell ∨ X.env.kindOf x = some .free) → ∃ c, X.env.cells.lookup x = some c
  cab : ∀ x c, X.fn x = true → X.env.cells.lookup x = some c → X.s₀.heap.objs.size ≤ c
  hd : X.calm = true → X.A.handled = none
  frames : X.A.frames = some X.stack
  stk : X.stack = X.outer ∨ (X.stack = X.env :: X.outer ∧ X.env.frame = some X.env.locals)
  exf : ∀ b ∈ X.ex, b ≠ X.env.locals ∧ ∀ x c, X.env.cells.lookup x = some c → c ≠ b
  bs : ∀ b o, X.base.get? b = some o → X.s₀.heap.get? b = some o ∧ X.H₀ b = none
  bsz : X.base.objs.size ≤ X.s₀.heap.objs.size
  noex : ∀ b o, X.base.get? b = some o → b ∉ X.ex
  exfs : ∀ b ∈ X.ex, b ∉ X.fs
  funs : X.s₀.heap.FunFrames X.base X.outer
  frf : ∀ b ∈ X.fs, X.H₀ b = none

structure Inv (X : Cx) (pins : List (Addr × Obj)) (σ : List (Option V)) (H : Hp) (s : Shared) : Prop where
  ok : X.Ok
  os : s.os = X.s₀.os
  bare : AllBare s.gens
  base : Un X.fs X.ex X.H₀ H X.s₀.heap s.heap
  loc : ∃ m, s.heap.Ns X.env.locals m ∧ ∀ (i : Nat) (x : Str) (v : V), X.N[i]? = some x → σ[i]? = some (some v) → Vis X.env.scope x → ∃ u, RelV v u ∧ Look X.env s.heap m x u
  cell : ∀ x c, X.env.cells.lookup x = some c → ∃ v, s.heap.IsCell c v
  free : H X.env.locals = none
  freeC : ∀ x c, X.env.cells.lookup x = some c → H c = none
  pin : ∀ p ∈ X.pn ++ pins, s.heap.get? p.1 = some p.2 ∧ H p.1 = none ∧ p.1 ≠ X.env.locals ∧ p.1 ∉ X.fs ∧ ∀ v, p.2.data ≠ .cell v
  hok : HOk X.prog X.w H s.heap
  len : σ.length = X.N.length

section
variable {X : Cx} {pins : List (Addr × Obj)} {σ : List (Option V)} {H H' : Hp} {s : Shared} {h' : Heap}

theorem Cx.Ok.nofr (ok : X.Ok) {b : Addr} {o : Obj} (e : X.base.get? b = some o) : b ∉ X.fs := fun hb => by
  have := (ok.funs.mem hb).1
  rw [e] at this; cases this
theorem Inv.bs (I : Inv X pins σ H s) : ∀ b o, X.base.get? b = some o → s.heap.get? b = some o ∧ H b = none := fun b o e =>
  ⟨I.base.keep b o (I.ok.bs b o e).1 (I.ok.bs b o e).2 (I.ok.nofr e) (I.ok.noex b o e), I.base.free b o (I.ok.bs b o e).1 (I.ok.bs b o e).2 (I.ok.noex b o e)⟩
theorem Inv.bk (I : Inv X pins σ H s) : ∀ b o, X.base.get? b = some o → s.heap.get? b = some o := fun b o e => (I.bs b o e).1
theorem Inv.mod (I : Inv X pins σ H s) : Mod X.K X.mg X.base := I.ok.mod
theorem Inv.kIn (I : Inv X pins σ H s) : X.K.In s.heap := I.ok.mod.kin.keeps I.bk
theorem Inv.lt (I : Inv X pins σ H s) : X.env.locals < s.heap.objs.size := let ⟨_, hn, _⟩ := I.loc; hn.lt
theorem Inv.sz (I : Inv X pins σ H s) : X.s₀.heap.objs.size ≤ s.heap.objs.size := Nat.le_trans I.ok.above (Nat.le_of_lt I.lt)
theorem Inv.nofs (I : Inv X pins σ H s) {a : Addr} (h : s.heap.objs.size ≤ a) : a ∉ X.fs := fun hb => by
  obtain ⟨_, o, ho, _⟩ := I.ok.funs.mem hb
  exact absurd (Nat.lt_of_lt_of_le (Heap.lt_size ho) (Nat.le_trans I.sz h)) (Nat.lt_irrefl _)
theorem Inv.cne (I : Inv X pins σ H s) : ∀ x c, X.env.cells.lookup x = some c → c ≠ X.env.locals := fun x c e z => by
  obtain ⟨v, o, ho, hd⟩ := I.cell x c e
  obtain ⟨m, ⟨o', es, ep, ho', hd', _⟩, _⟩ := I.loc
  rw [z, ho'] at ho; cases ho; rw [hd'] at hd; cases hd
theorem Inv.funs (I : Inv X pins σ H s) : s.heap.FunFrames X.base X.outer := by
  have all : ∀ (l : List Env), (∀ b ∈ frs l, b ∈ X.fs) → X.s₀.heap.FunFrames X.base l → s.heap.FunFrames X.base l := by
    intro l
    induction l with
    | nil => intro _ _; trivial
    | cons env r ih =>
      intro hs hl
      obtain ⟨hk, ⟨L, o, hf, hn, ho, hd⟩, hr⟩ := hl
      have hL : L ∈ X.fs := hs L (by unfold frs; rw [List.filterMap_cons, hf]; exact List.mem_cons_self)
      obtain ⟨sl, e⟩ := I.base.slot L o ho (I.ok.frf L hL) hL fun z => I.ok.exfs L z hL
      exact ⟨hk, ⟨L, _, hf, hn, e, hd⟩, ih (fun b hb => hs b (by unfold frs; rw [List.filterMap_cons, hf]; exact List.mem_cons_of_mem _ hb)) hr⟩
  exact all X.outer (fun _ hb => hb) I.ok.funs

/-- the frames that run, for a call -/
theorem Inv.stack (I : Inv X pins σ H s) : s.heap.FunFrames X.base X.stack := by
  rcases I.ok.stk with e | ⟨e, hf⟩
  · rw [e]; exact I.funs
  · rw [e]
    obtain ⟨m, hn, _⟩ := I.loc
    refine .cons (by rw [I.ok.kind]; decide) hf hn ?_ I.funs
    exact Heap.get?_none_of_le (Nat.le_trans I.ok.bsz I.ok.above)
theorem Inv.stkSub (I : Inv X pins σ H s) : ∀ b ∈ frs X.stack, b ∈ X.env.locals :: X.fs := fun b hb => by
  rcases I.ok.stk with e | ⟨e, hf⟩
  · rw [e] at hb; exact List.mem_cons_of_mem _ hb
  · rw [e] at hb
    unfold frs at hb
    rw [List.filterMap_cons, hf] at hb
    exact hb
theorem Inv.stkFree (I : Inv X pins σ H s) : ∀ b ∈ frs X.stack, H b = none := fun b hb => by
  rcases List.mem_cons.mp (I.stkSub b hb) with e | hb
  · rw [e]; exact I.free
  · obtain ⟨_, o, ho, _⟩ := I.ok.funs.mem hb
    exact I.base.free b o ho (I.ok.frf b hb) fun z => I.ok.exfs b z hb

/-- THE STEP: the untracked objects but the frame and the records at ch are kept (the callers' frames up to slots), the frame's map is kept, the new abstract heap is held -/
theorem Inv.step {g' : Array GenState} {t' : Nat} {d' : Drawn} {ch : List Addr} (I : Inv X pins σ H s)
    (hch : ∀ b ∈ ch, (b ∈ X.ex ∨ X.s₀.heap.objs.size ≤ b) ∧ b ≠ X.env.locals ∧ (∀ x c, X.env.cells.lookup x = some c → c ≠ b) ∧ ∀ p ∈ X.pn ++ pins, p.1 ≠ b)
    (keep : ∀ b o, b ≠ X.env.locals → b ∉ X.fs → b ∉ ch → s.heap.get? b = some o → H b = none → h'.get? b = some o)
    (slot : ∀ b o, b ≠ X.env.locals → b ∈ X.fs → b ∉ ch → s.heap.get? b = some o → H b = none → ∃ sl, h'.get? b = some { o with slots := sl }) (free : ∀ b o, b ∉ ch → s.heap.get? b = some o → H b = none → H' b = none)
    (there : ∀ b o, b ∉ ch → s.heap.get? b = some o → ∃ o', h'.get? b = some o')
    (tups : ∀ b xs, H b = some (.tup xs) → H' b = some (.tup xs)) (frzs : ∀ b o u, H b = some (.frz o u) → H' b = some (.frz o u)) (tbls : ∀ b ps, H b = some (.tbl ps) → ∃ more, H' b = some (.tbl (ps ++ more)))
    (ns : ∀ m, s.heap.Ns X.env.locals m → h'.Ns X.env.locals m) (hok : HOk X.prog X.w H' h') (hg : AllBare g') :
    Inv X pins σ H' { s with heap := h', gens := g', drawn := d', toks := t' } := by
  have neL : ∀ b o, X.s₀.heap.get? b = some o → b ≠ X.env.locals := fun b o e => Nat.ne_of_lt (Nat.lt_of_lt_of_le (Heap.lt_size e) I.ok.above)
  have neC : ∀ b o, X.s₀.heap.get? b = some o → b ∉ X.ex → b ∉ ch := fun b o e hx hb => by
    rcases (hch b hb).1 with z | z
    · exact hx z
    · exact absurd (Nat.lt_of_lt_of_le (Heap.lt_size e) z) (Nat.lt_irrefl _)
  have cellK : ∀ x c, X.env.cells.lookup x = some c → ∀ v, s.heap.IsCell c v → h'.IsCell c v := fun x c e v ⟨o, ho, hd⟩ => by
    have nch : c ∉ ch := fun z => (hch c z).2.2.1 x c e rfl
    by_cases hc : c ∈ X.fs
    · obtain ⟨sl, q⟩ := slot c o (I.cne x c e) hc nch ho (I.freeC x c e)
      exact ⟨_, q, hd⟩
    · exact ⟨o, keep c o (I.cne x c e) hc nch ho (I.freeC x c e), hd⟩
  refine ⟨I.ok, I.os, hg, ⟨fun b o e n hb hx => ?_, fun b o e n hb hx => ?_, fun b o e n hx => ?_, fun b o e hx => ?_, fun b xs e => tups b xs (I.base.tups b xs e), fun b o xs e => frzs b o xs (I.base.frzs b o xs e), fun b ps e => ?_⟩, ?_, fun x c e => ?_, ?_, fun x c e => ?_, fun p hp => ?_, hok, I.len⟩
  · exact keep b o (neL b o e) hb (neC b o e hx) (I.base.keep b o e n hb hx) (I.base.free b o e n hx)
  · obtain ⟨sl, e1⟩ := I.base.slot b o e n hb hx
    obtain ⟨sl', e2⟩ := slot b _ (neL b o e) hb (neC b o e hx) e1 (I.base.free b o e n hx)
    exact ⟨sl', e2⟩
  · obtain ⟨o', e1⟩ := I.base.there b o e hx
    exact free b o' (neC b o e hx) e1 (I.base.free b o e n hx)
  · obtain ⟨o', e1⟩ := I.base.there b o e hx
    exact there b o' (neC b o e hx) e1
  · obtain ⟨m1, e1⟩ := I.base.tbls b ps e
    obtain ⟨m2, e2⟩ := tbls b _ e1
    exact ⟨m1 ++ m2, by rw [e2, Array.append_assoc]⟩
  · obtain ⟨m, hn, hl⟩ := I.loc
    refine ⟨m, ns m hn, fun i x v e1 e2 e3 => ?_⟩
    obtain ⟨u, r, l⟩ := hl i x v e1 e2 e3
    refine ⟨u, r, ?_⟩
    rcases l with l | ⟨k, c, e, z⟩
    · exact .inl l
    · exact .inr ⟨k, c, e, cellK x c e _ z⟩
  · obtain ⟨v, z⟩ := I.cell x c e
    exact ⟨v, cellK x c e v z⟩
  · obtain ⟨m, ⟨o, _, _, ho, _⟩, _⟩ := I.loc
    exact free _ o (fun z => (hch _ z).2.1 rfl) ho I.free
  · obtain ⟨v, o, ho, hd⟩ := I.cell x c e
    exact free c o (fun z => (hch c z).2.2.1 x c e rfl) ho (I.freeC x c e)
  · obtain ⟨e, n, ne, nf, d⟩ := I.pin p hp
    have nch : p.1 ∉ ch := fun z => (hch p.1 z).2.2.2 p hp rfl
    exact ⟨keep p.1 p.2 ne nf nch e n, free p.1 p.2 nch e n, ne, nf, d⟩
/-- .. where the frame's own object is kept too -/
theorem Inv.un {t' : Nat} (I : Inv X pins σ H s) (u : Un X.fs [] H H' s.heap h') (hok : HOk X.prog X.w H' h') : Inv X pins σ H' { s with heap := h', toks := t' } := by
  obtain ⟨m, ⟨o, es, ep, ho, r⟩, _⟩ := id I.loc
  obtain ⟨sl, hL⟩ := u.any ho I.free (by simp)
  exact I.step (g' := s.gens) (d' := s.drawn) (ch := []) (fun _ z => nomatch z) (fun b o _ hb _ e n => u.keep b o e n hb (by simp)) (fun b o _ hb _ e n => u.slot b o e n hb (by simp)) (fun b o _ e n => u.free b o e n (by simp)) (fun b o _ e => u.there b o e (by simp)) u.tups u.frzs u.tbls (fun m' hm => by
    obtain ⟨o', es', ep', ho', r'⟩ := hm
    rw [ho] at ho'; cases ho'
    exact ⟨_, es', ep', hL, r'⟩) hok I.bare
/-- behind a call (or a comprehension's block): the slots of this frame may have changed too, the records at ch may have turned -/
theorem Inv.call {g' : Array GenState} {t' : Nat} {d' : Drawn} {ch : List Addr} (I : Inv X pins σ H s) (u : Un (frs X.stack) ch H H' s.heap h') (hok : HOk X.prog X.w H' h') (hg : AllBare g')
    (hch : ∀ b ∈ ch, (b ∈ X.ex ∨ X.s₀.heap.objs.size ≤ b) ∧ b ≠ X.env.locals ∧ (∀ x c, X.env.cells.lookup x = some c → c ≠ b) ∧ ∀ p ∈ X.pn ++ pins, p.1 ≠ b) :
    Inv X pins σ H' { s with heap := h', gens := g', drawn := d', toks := t' } := by
  obtain ⟨m, ⟨o, es, ep, ho, r⟩, _⟩ := id I.loc
  obtain ⟨sl, hL⟩ := u.any ho I.free fun z => (hch _ z).2.1 rfl
  exact I.step (ch := ch) hch (fun b o hL hb hc e n => u.keep b o e n (fun z => (List.mem_cons.mp (I.stkSub b z)).elim hL hb) hc) (fun b o _ _ hc e n => u.any e n hc) (fun b o hc e n => u.free b o e n hc) (fun b o hc e => u.there b o e hc) u.tups u.frzs u.tbls (fun m' hm => by
    obtain ⟨o', es', ep', ho', r'⟩ := hm
    rw [ho] at ho'; cases ho'
    exact ⟨_, es', ep', hL, r'⟩) hok hg
/-- an untracked record of ours (an iterator) has turned -/
theorem Inv.turned {t' : Nat} {it : Addr} (I : Inv X pins σ H s) (k : ∀ b o, b ≠ it → s.heap.get? b = some o → h'.get? b = some o) (hn : H it = none) (hL : it ≠ X.env.locals)
    (h1 : it ∈ X.ex ∨ X.s₀.heap.objs.size ≤ it) (h2 : ∀ x c, X.env.cells.lookup x = some c → c ≠ it) (h3 : ∀ p ∈ X.pn ++ pins, p.1 ≠ it) : Inv X pins σ H { s with heap := h', toks := t' } := by
  have nit : ∀ b u, H b = some u → b ≠ it := fun b u e z => by rw [z, hn] at e; cases e
  refine I.step (g' := s.gens) (d' := s.drawn) (ch := [it]) (fun b hb => ?_) (fun b o _ _ hc e _ => k b o (fun z => hc (by simp [z])) e) (fun b o _ _ hc e _ => ⟨o.slots, k b o (fun z => hc (by simp [z])) e⟩) (fun _ _ _ _ n => n)
    (fun b o hc e => ⟨o, k b o (fun z => hc (by simp [z])) e⟩) (fun _ _ e => e) (fun _ _ _ e => e) (fun b ps e => ⟨#[], by rw [e]; simp⟩) (fun m hm => ?_) (fun b u e => ?_) I.bare
  · have e : b = it := by simpa using hb
    subst e
    exact ⟨h1, hL, h2, h3⟩
  · obtain ⟨o, es, ep, ho, r⟩ := hm
    exact ⟨o, es, ep, k _ o (Ne.symm hL) ho, r⟩
  · refine (I.hok b u e).stay (fun c v hc q => k c v ?_ q) (fun _ q => q) fun _ _ q => q
    rcases hc with z | z
    · rw [z]; exact nit b u e
    · exact nit c _ z
theorem Inv.tok (I : Inv X pins σ H s) (t : Nat) : Inv X pins σ H { s with toks := t } := I.un (h' := s.heap) (t' := t) Un.refl I.hok
/-- all objects kept -/
theorem Inv.kept {t' : Nat} (I : Inv X pins σ H s) (k : ∀ b u, s.heap.get? b = some u → h'.get? b = some u) : Inv X pins σ H { s with heap := h', toks := t' } := I.un (Un.kept k) (I.hok.kept k)
/-- a new object laid and tracked -/
theorem Inv.laid {a : Addr} {o : HO} {t' : Nat} (I : Inv X pins σ H s) (k : ∀ b u, s.heap.get? b = some u → h'.get? b = some u) (hp : s.heap.objs.size ≤ a) (new : ObjOk X.prog X.w (upd H a o) h' a o) :
    Inv X pins σ (upd H a o) { s with heap := h', toks := t' } := I.un (Un.laid k hp (I.hok.fresh hp)) (I.hok.laid k hp new)
/-- an object written -/
theorem Inv.write {x e : Addr} {o : HO} {t' : Nat} (I : Inv X pins σ H s) (mu : Mut (H x)) (he : e = x ∨ H e = some (.own x)) (k : ∀ b u, b ≠ e → s.heap.get? b = some u → h'.get? b = some u) (heo : ∃ u, h'.get? e = some u)
    (new : ObjOk X.prog X.w (upd H x o) h' x o) : Inv X pins σ (upd H x o) { s with heap := h', toks := t' } := I.un (Un.write mu he k heo) (I.hok.write mu he k heo new)
/-- forgetting slots, pins -/
theorem Inv.weak {σ' : List (Option V)} (I : Inv X pins σ H s) (hl : σ'.length = σ.length) (w : ∀ (i : Nat) v, σ'[i]? = some (some v) → σ[i]? = some (some v)) : Inv X pins σ' H s :=
  ⟨I.ok, I.os, I.bare, I.base, let ⟨m, hn, hl'⟩ := I.loc; ⟨m, hn, fun i x v e1 e2 e3 => hl' i x v e1 (w i v e2) e3⟩, I.cell, I.free, I.freeC, I.pin, I.hok, hl.trans I.len⟩
theorem Inv.pins_of {pins' : List (Addr × Obj)} (I : Inv X pins σ H s) (h : ∀ p ∈ pins', s.heap.get? p.1 = some p.2 ∧ H p.1 = none ∧ p.1 ≠ X.env.locals ∧ p.1 ∉ X.fs ∧ ∀ v, p.2.data ≠ .cell v) : Inv X pins' σ H s :=
  ⟨I.ok, I.os, I.bare, I.base, I.loc, I.cell, I.free, I.freeC, fun p hp => (List.mem_append.mp hp).elim (fun z => I.pin p (List.mem_append_left _ z)) (h p), I.hok, I.len⟩

theorem nodup_ix {N : List Str} (hN : N.Nodup) {i j : Nat} {x : Str} (a : N[i]? = some x) (b : N[j]? = some x) : i = j := by
  obtain ⟨h1, e1⟩ := List.getElem?_eq_some_iff.mp a
  obtain ⟨h2, e2⟩ := List.getElem?_eq_some_iff.mp b
  exact (List.getElem_inj hN).mp (e1.trans e2.symm)

/-- a name is stored; what changed -/
theorem store_ok2 {M : Model} {A : Around} {E : Value → Shared → Prop} {i : Nat} {x : Str} {v : V} {u : Value} {Q : Unit → Shared → Prop} (I : Inv X pins σ H s) (hN : X.N.Nodup) (hi : X.N[i]? = some x) (hx : Loc X.env.scope x) (r : RelV v u)
    (h : ∀ s', Inv X pins (σ.set i (some v)) H s' → (∃ a, Heap.SameBut a s.heap s'.heap ∧ (a = X.env.locals ∨ X.env.cells.lookup x = some a)) → Q () s') (hf : X.fn x = true ∨ X.env.scope.names.lookup x = some .local := by first | exact .inl rfl | exact .inr rfl | assumption) : wpAny M A (storeName X.env x u) Q E s := by
  obtain ⟨m, hn, hl⟩ := id I.loc
  have hcls : (X.env.scope.kind == .class || (X.env.scope.kind == .module && X.env.locals != X.env.globals)) = false := by rw [I.ok.kind]; rfl
  have hiσ : i < σ.length := by rw [I.len]; exact (List.getElem?_eq_some_iff.mp hi).1
  have cne := I.cne
  have tracked : ∀ {a : Addr} {h' : Heap}, (∃ o, s.heap.get? a = some o ∧ H a = none) → Heap.SameBut a s.heap h' → HOk X.prog X.w H h' := fun {a h'} ha hs b ob e => by
    obtain ⟨_, _, hfree⟩ := ha
    refine (I.hok b ob e).stay (fun c w' hc q => (hs.2 c ?_).trans q) (fun _ q => q) fun _ _ q => q
    rintro rfl
    rcases hc with rfl | hc
    · rw [hfree] at e; cases e
    · rw [hfree] at hc; cases hc
  rcases hx with hk | hk
  · refine wpAny_storeName_local hk hn (fun h' hn' hs => ?_) hcls
    obtain ⟨oL, _, _, hoL, _⟩ := id hn
    refine h _ ⟨I.ok, I.os, I.bare, ⟨fun b o e n hb hx => ?_, fun b o e n hb hx => ?_, I.base.free, fun b o e hx => ?_, I.base.tups, I.base.frzs, I.base.tbls⟩, ⟨_, hn', fun j y v' e1 e2 e3 => ?_⟩, fun y c e => ?_, I.free, I.freeC, fun p hp => ?_, tracked ⟨oL, hoL, I.free⟩ hs, by simpa using I.len⟩ ⟨_, hs, .inl rfl⟩
    · exact (hs.2 b (Nat.ne_of_lt (Nat.lt_of_lt_of_le (Heap.lt_size e) I.ok.above))).trans (I.base.keep b o e n hb hx)
    · obtain ⟨sl, e1⟩ := I.base.slot b o e n hb hx
      exact ⟨sl, (hs.2 b (Nat.ne_of_lt (Nat.lt_of_lt_of_le (Heap.lt_size e) I.ok.above))).trans e1⟩
    · obtain ⟨o', e1⟩ := I.base.there b o e hx
      exact ⟨o', (hs.2 b (Nat.ne_of_lt (Nat.lt_of_lt_of_le (Heap.lt_size e) I.ok.above))).trans e1⟩
    · by_cases hj : j = i
      · subst hj
        rw [hi] at e1; cases e1
        rw [List.getElem?_set_self hiσ] at e2
        cases e2
        exact ⟨u, r, .inl ⟨hk, by simp⟩⟩
      · rw [List.getElem?_set_ne (Ne.symm hj)] at e2
        obtain ⟨u', r', q⟩ := hl j y v' e1 e2 e3
        refine ⟨u', r', ?_⟩
        rcases q with ⟨k, e⟩ | ⟨k, c, e, z⟩
        · refine .inl ⟨k, ?_⟩
          have : y ≠ x := fun e => hj (nodup_ix hN e1 (e ▸ hi))
          simp [this, e]
        · exact .inr ⟨k, c, e, z.sameBut hs (cne y c e)⟩
    · obtain ⟨w', z⟩ := I.cell y c e
      exact ⟨w', z.sameBut hs (cne y c e)⟩
    · obtain ⟨e, n, ne, nf, d⟩ := I.pin p hp
      exact ⟨(hs.2 p.1 ne).trans e, n, ne, nf, d⟩
  · have hfn : X.fn x = true := by
      rcases hf with z | z
      · exact z
      · rw [z] at hk; cases hk
    obtain ⟨c, hc⟩ := I.ok.has x (.inl hk)
    obtain ⟨w', z⟩ := I.cell x c hc
    refine wpAny_storeName_cell I.ok.kind hk hc z (fun h' hc' hs => ?_)
    obtain ⟨oc, hoc, hocd⟩ := id z
    refine h { s with heap := h' } ⟨I.ok, I.os, I.bare, ⟨fun b o e n hb hx => ?_, fun b o e n hb hx => ?_, I.base.free, fun b o e hx => ?_, I.base.tups, I.base.frzs, I.base.tbls⟩, ⟨m, hn.sameBut hs (Ne.symm (cne x c hc)), fun j y v' e1 e2 e3 => ?_⟩, fun y c' e => ?_, I.free, I.freeC, fun p hp => ?_, tracked ⟨oc, hoc, I.freeC x c hc⟩ hs, by simpa using I.len⟩ ⟨c, hs, .inr hc⟩
    · exact (hs.2 b (Nat.ne_of_lt (Nat.lt_of_lt_of_le (Heap.lt_size e) (I.ok.cab x c hfn hc)))).trans (I.base.keep b o e n hb hx)
    · obtain ⟨sl, e1⟩ := I.base.slot b o e n hb hx
      exact ⟨sl, (hs.2 b (Nat.ne_of_lt (Nat.lt_of_lt_of_le (Heap.lt_size e) (I.ok.cab x c hfn hc)))).trans e1⟩
    · obtain ⟨o', e1⟩ := I.base.there b o e hx
      exact ⟨o', (hs.2 b (Nat.ne_of_lt (Nat.lt_of_lt_of_le (Heap.lt_size e) (I.ok.cab x c hfn hc)))).trans e1⟩
    · by_cases hj : j = i
      · subst hj
        rw [hi] at e1; cases e1
        rw [List.getElem?_set_self hiσ] at e2
        cases e2
        exact ⟨u, r, .inr ⟨.inl hk, c, hc, hc'⟩⟩
      · rw [List.getElem?_set_ne (Ne.symm hj)] at e2
        obtain ⟨u', r', q⟩ := hl j y v' e1 e2 e3
        refine ⟨u', r', ?_⟩
        rcases q with q | ⟨k, c', e, z'⟩
        · exact .inl q
        · refine .inr ⟨k, c', e, z'.sameBut hs ?_⟩
          rintro rfl
          exact hj (nodup_ix hN e1 (I.ok.inj _ _ _ e hc ▸ hi))
    · by_cases hcc : c' = c
      · subst hcc; exact ⟨_, hc'⟩
      · obtain ⟨w2, z2⟩ := I.cell y c' e
        exact ⟨w2, z2.sameBut hs hcc⟩
    · obtain ⟨e, n, ne, nf, d⟩ := I.pin p hp
      refine ⟨(hs.2 p.1 ?_).trans e, n, ne, nf, d⟩
      intro q
      rw [q, hoc] at e
      have q' : oc = p.2 := Option.some.inj e
      exact d w' (by rw [← q']; exact hocd)
theorem store_ok {M : Model} {A : Around} {E : Value → Shared → Prop} {i : Nat} {x : Str} {v : V} {u : Value} {Q : Unit → Shared → Prop} (I : Inv X pins σ H s) (hN : X.N.Nodup) (hi : X.N[i]? = some x) (hx : Loc X.env.scope x) (r : RelV v u)
    (h : ∀ s', Inv X pins (σ.set i (some v)) H s' → Q () s') (hf : X.fn x = true ∨ X.env.scope.names.lookup x = some .local := by first | exact .inl rfl | exact .inr rfl | assumption) : wpAny M A (storeName X.env x u) Q E s :=
  store_ok2 I hN hi hx r (fun s' I' _ => h s' I') hf
/-- behind a call or a block, the state as it is -/
theorem Inv.call' {s' : Shared} {ch : List Addr} (I : Inv X pins σ H s) (ho : s'.os = s.os) (u : Un (frs X.stack) ch H H' s.heap s'.heap) (hok : HOk X.prog X.w H' s'.heap) (hg : AllBare s'.gens)
    (hch : ∀ b ∈ ch, (b ∈ X.ex ∨ X.s₀.heap.objs.size ≤ b) ∧ b ≠ X.env.locals ∧ (∀ x c, X.env.cells.lookup x = some c → c ≠ b) ∧ ∀ p ∈ X.pn ++ pins, p.1 ≠ b) : Inv X pins σ H' s' := by
  obtain ⟨h', g', d', t', o'⟩ := s'
  have e : o' = s.os := ho
  subst e
  exact I.call (g' := g') (t' := t') (d' := d') u hok hg hch
end

/-- an exception: its class, its own dict's address (where it has one), the abstract heap behind it -/
abbrev XK := Value → Option Addr → Hp → Prop
abbrev St := List (Option V)
abbrev VK := V → Hp → Prop
/-- an expression's reading; a test's; an argument list's -/
abbrev TE := St → Hp → VK → Prop
abbrev TT := St → Hp → (Bool → Hp → Prop) → Prop
abbrev TA := St → Hp → (List V → Hp → Prop) → Prop
/-- what is wanted behind a statement -/
structure Ends where
  nx : St → Hp → Prop
  rt : VK
  bk : St → Hp → Prop := fun _ _ => False
  ct : St → Hp → Prop := fun _ _ => False
abbrev TS := Ends → St → Hp → Prop

def EP (X : Cx) (pins : List (Addr × Obj)) (σ : St) (Q : VK) (u : Value) (s' : Shared) : Prop := ∃ v H', Inv X pins σ H' s' ∧ RelV v u ∧ Q v H'
def TP (X : Cx) (pins : List (Addr × Obj)) (σ : St) (Q : Bool → Hp → Prop) (b : Bool) (s' : Shared) : Prop := ∃ H', Inv X pins σ H' s' ∧ Q b H'
def AP (X : Cx) (pins : List (Addr × Obj)) (σ : St) (Q : List V → Hp → Prop) (us : List Value) (s' : Shared) : Prop := ∃ vs H', Inv X pins σ H' s' ∧ Vals vs us ∧ Q vs H'
def SP (X : Cx) (pins : List (Addr × Obj)) (D : Ends) (f : Flow) (s' : Shared) : Prop :=
  match f with
  | .next => ∃ σ' H', Inv X pins σ' H' s' ∧ D.nx σ' H'
  | .brk => ∃ σ' H', Inv X pins σ' H' s' ∧ D.bk σ' H'
  | .cont => ∃ σ' H', Inv X pins σ' H' s' ∧ D.ct σ' H'
  | .ret u => ∃ v σ' H', Inv X pins σ' H' s' ∧ RelV v u ∧ D.rt v H'

def PE (X : Cx) (e : Expr) (t : TE) : Prop :=
  ∀ (pins : List (Addr × Obj)) (s : Shared) (σ : St) (H : Hp) (Q : VK), Inv X pins σ H s → t σ H Q → wpAny (model X.prog X.w) X.A (eval e X.env) (EP X pins σ Q) X.xe s
def PT (X : Cx) (e : Expr) (t : TT) : Prop :=
  ∀ (pins : List (Addr × Obj)) (s : Shared) (σ : St) (H : Hp) (Q : Bool → Hp → Prop), Inv X pins σ H s → t σ H Q → wpAny (model X.prog X.w) X.A (isTrue e X.env (eval e X.env)) (TP X pins σ Q) X.xe s
/-- a test whatever its 'whole' is (and, or) -/
def PW (X : Cx) (e : Expr) (t : TT) : Prop :=
  ∀ (whole : Sem Value) (pins : List (Addr × Obj)) (s : Shared) (σ : St) (H : Hp) (Q : Bool → Hp → Prop), Inv X pins σ H s → t σ H Q → wpAny (model X.prog X.w) X.A (isTrue e X.env whole) (TP X pins σ Q) X.xe s
theorem PW.pt {X : Cx} {e : Expr} {t : TT} (h : PW X e t) : PT X e t := h _
/-- an argument list (no star), from the left -/
def PA (X : Cx) (es : List Expr) (t : TA) : Prop :=
  ∀ (pos : Pos) (pins : List (Addr × Obj)) (s : Shared) (σ : St) (H : Hp) (Q : List V → Hp → Prop), Inv X pins σ H s → t σ H Q → wpAny (model X.prog X.w) X.A (spliced (backTo pos (starEach es X.env))) (AP X pins σ Q) X.xe s
def PS (X : Cx) (st : Stmt) (t : TS) : Prop :=
  ∀ (pins : List (Addr × Obj)) (s : Shared) (σ : St) (H : Hp) (D : Ends), Inv X pins σ H s → t D σ H → wpAny (model X.prog X.w) X.A (exec st X.env) (SP X pins D) X.xe s
def PSs (X : Cx) (st : List Stmt) (t : TS) : Prop :=
  ∀ (pins : List (Addr × Obj)) (s : Shared) (σ : St) (H : Hp) (D : Ends), Inv X pins σ H s → t D σ H → wpAny (model X.prog X.w) X.A (execs st X.env) (SP X pins D) X.xe s
/-- weaken the end -/
theorem thn {α : Type} {t : Sem α} {Q Q' : α → Shared → Prop} {M : Model} {A : Around} {E : Value → Shared → Prop} {s : Shared} (h : wpAny M A t Q E s) (hQ : ∀ a s, Q a s → Q' a s) : wpAny M A t Q' E s := wpAny_mono h hQ fun _ _ x => x
end L2

namespace L2
open PySem PySem.Spec PyProof.Rows
section
variable {X : Cx}

inductive tVar (i : Nat) (σ : St) (H : Hp) (Q : VK) : Prop
  | mk v : σ[i]? = some (some v) → Q v H → tVar i σ H Q
def tC (v : V) : TE := fun _ H Q => Q v H
theorem pe_var {i : Nat} {x : Str} {pos : Pos} (hN : X.N[i]? = some x) (hv : Vis X.env.scope x) (hd : (x == ("__debug__" : Str)) = false := by decide) (hcd : (x == ("__classdict__" : Str)) = false := by decide) : PE X (.Name x pos) (tVar i) := by
  intro pins s σ H Q I h
  obtain ⟨v, e, h⟩ := h
  obtain ⟨m, hn, hl⟩ := I.loc
  obtain ⟨u, r, l⟩ := hl i x v hN e hv
  have fin : EP X pins σ Q u s := ⟨v, H, I, r, h⟩
  rcases l with ⟨hk, hm⟩ | ⟨hk, c, hc, hcell⟩
  · exact wpAny_Name (wpAny_loadName_local I.ok.kind hk hn hm fin) hd
  · rcases hk with hk | hk
    · exact wpAny_Name (wpAny_loadName_cell I.ok.kind hk hc hcell fin) hd
    · exact wpAny_Name (wpAny_loadName_free I.ok.kind hk hc hcell fin hcd) hd
theorem pe_int {i j pos} : PE X (.Constant (.int i) j pos) (tC (.int i)) := fun _ _ _ H _ I h => wpAny_Constant_int ⟨.int i, H, I.tok _, ⟨_, rfl⟩, h⟩
theorem pe_bl {b j pos} : PE X (.Constant (.bool b) j pos) (tC (.bl b)) := fun _ _ _ H _ I h => Constant_bool ⟨.bl b, H, I, rfl, h⟩
theorem pe_non {j pos} : PE X (.Constant .none j pos) (tC .non) := fun _ _ _ H _ I h => Constant_none ⟨.non, H, I, rfl, h⟩
theorem pe_str {x j pos} : PE X (.Constant (.str x) j pos) (tC (.str x)) := fun _ _ _ H _ I h => Calls.Constant_str ⟨.str x, H, I.tok _, ⟨_, rfl⟩, h⟩

/-- a global name of the def -/
def Gl (X : Cx) (x : Str) : Prop := X.env.kindOf x = some .globalImplicit
theorem ld_glob {E : Value → Shared → Prop} {pins : List (Addr × Obj)} {s : Shared} {σ : St} {H : Hp} {x : Str} {u : Value} {pos : Pos} {Q : Value → Shared → Prop} (I : Inv X pins σ H s) (hg : Gl X x) (hm : X.mg x = some u) (h : Q u s)
    (hd : (x == ("__debug__" : Str)) = false := by decide) : wpAny (model X.prog X.w) X.A (eval (.Name x pos) X.env) Q E s :=
  Calls.Name_function_global I.ok.kind hg (Calls.loadGlobal_global (by rw [I.ok.glob]; exact I.mod.glob.keeps I.bk) hm h) hd
theorem ld_blt {E : Value → Shared → Prop} {pins : List (Addr × Obj)} {s : Shared} {σ : St} {H : Hp} {x : Str} {u : Value} {pos : Pos} {Q : Value → Shared → Prop} (I : Inv X pins σ H s) (hg : Gl X x) (hm : X.mg x = none) (hv : bootBuiltins x = some u) (h : Q u s)
    (hn : x ≠ "__name__" := by decide) (hd : (x == ("__debug__" : Str)) = false := by decide) : wpAny (model X.prog X.w) X.A (eval (.Name x pos) X.env) Q E s := by
  obtain ⟨mb, h1, h2⟩ := I.mod.blt
  exact Calls.Name_function_global I.ok.kind hg (Calls.loadGlobal_builtin (by rw [I.ok.glob]; exact I.mod.glob.keeps I.bk) hm (by rw [I.ok.blt]; exact h1.keeps I.bk) ((h2 x hn).trans hv) h) hd
/-- a module's constant, a class, a function, as a value -/
theorem pe_glob {x : Str} {v : V} {u : Value} {pos : Pos} (hg : Gl X x) (hm : X.mg x = some u) (r : RelV v u) (hd : (x == ("__debug__" : Str)) = false := by decide) : PE X (.Name x pos) (tC v) :=
  fun _ _ _ H _ I h => ld_glob I hg hm ⟨v, H, I, r, h⟩ hd
variable {a b : Expr} {ta tb : TE} {pos : Pos}
def PC (X : Cx) (op : CmpOp) (a b : Expr) (t : TE) : Prop :=
  ∀ (pins : List (Addr × Obj)) (s : Shared) (σ : St) (H : Hp) (Q : VK), Inv X pins σ H s → t σ H Q →
    wpAny (model X.prog X.w) X.A (eval a X.env) (fun v s₁ => wpAny (model X.prog X.w) X.A (eval b X.env) (fun u s₂ => wpAny (model X.prog X.w) X.A (compareOp op v u) (EP X pins σ Q) X.xe s₂) X.xe s₁) X.xe s
theorem nobehind (b : Expr) {op : CmpOp} (h : op ≠ .In) (h2 : op ≠ .NotIn) : behindInMarks op b = false := by
  have e1 : (op == CmpOp.In) = false := by cases op <;> first | rfl | exact absurd rfl h
  have e2 : (op == CmpOp.NotIn) = false := by cases op <;> first | rfl | exact absurd rfl h2
  cases b <;> simp [behindInMarks, e1, e2]
/-- is None -/
def tIsN (ta : TE) : TE := fun σ H Q => ta σ H fun x H1 => Q (.bl (decide (x = .non))) H1
def tNotN (ta : TE) : TE := fun σ H Q => ta σ H fun x H1 => Q (.bl (!decide (x = .non))) H1
theorem RelV.none_iff {x : V} {v : Value} (r : RelV x v) : (v == Value.none) = decide (x = .non) := by
  cases x with
  | non => cases r; rfl
  | bl _ => cases r; rfl
  | int _ => obtain ⟨t, rfl⟩ := r; rfl
  | str _ => obtain ⟨t, rfl⟩ := r; rfl
  | byt _ => obtain ⟨t, rfl⟩ := r; rfl
  | flt _ => obtain ⟨t, rfl⟩ := r; rfl
  | ref _ => cases r; rfl
  | ty _ => cases r; rfl
theorem pc_isN {j pos'} (ha : PE X a ta) : PC X .Is a (.Constant .none j pos') (tIsN ta) := by
  intro pins s σ H Q I h
  refine thn (ha pins s σ H _ I h) fun v s1 ⟨x, H1, I1, r1, q1⟩ => ?_
  exact Constant_none (is_none_gen ⟨.bl _, H1, I1, by rw [r1.none_iff]; rfl, q1⟩)
theorem pc_notN {j pos'} (ha : PE X a ta) : PC X .IsNot a (.Constant .none j pos') (tNotN ta) := by
  intro pins s σ H Q I h
  refine thn (ha pins s σ H _ I h) fun v s1 ⟨x, H1, I1, r1, q1⟩ => ?_
  exact Constant_none (isnot_none_gen ⟨.bl _, H1, I1, by rw [r1.none_iff]; rfl, q1⟩)
/-- a comparison as a value, as a test -/
inductive ItB (Q : (Bool → Hp → Prop)) (x : V) (H1 : Hp) : Prop
  | mk c : x = .bl c → Q c H1 → ItB Q x H1
def tB (t : TE) : TT := fun σ H Q => t σ H fun x H1 => ItB Q x H1
theorem pe_cmp {op : CmpOp} {t : TE} (h : PC X op a b t) (h1 : behindInMarks op b = false := by first | exact nobehind _ (by decide) (by decide) | rfl) : PE X (.Compare a [op] [b] pos) t := fun pins s σ H Q I hw => wpAny_Compare1 (h pins s σ H Q I hw) h1
theorem pt_cmp {op : CmpOp} {t : TE} (h : PC X op a b t) (h1 : behindInMarks op b = false := by first | exact nobehind _ (by decide) (by decide) | rfl) : PT X (.Compare a [op] [b] pos) (tB t) := by
  intro pins s σ H Q I hw
  refine wpAny_isTrue_Compare1 (thn (h pins s σ H _ I hw) fun v s1 h1 => thn h1 fun u s2 h2 => thn h2 fun c s3 ⟨x, H1, I1, r1, q1⟩ => ?_) h1
  obtain ⟨d, rfl, q⟩ := q1
  cases r1
  exact wpAny_truthy_bool ⟨H1, I1, q⟩
/-- an expression whose value is a bool, as a test -/
theorem pt_val {e : Expr} {t : TE} (h : PE X e t) (he : ∀ whole, isTrue e X.env whole = (do let v ← whole; standAt e.pos; holding [v] (truthy v)) := by intro _; rfl) : PT X e (tB t) := by
  intro pins s σ H Q I hw
  refine isTrue_plain (thn (h pins s σ H _ I hw) fun v s1 ⟨x, H1, I1, r1, q1⟩ => ?_) (he _)
  obtain ⟨d, rfl, q⟩ := q1
  cases r1
  exact wpAny_truthy_bool ⟨H1, I1, q⟩

variable {tA tB' : TT} {rest : List Expr}
def tAnd (t u : TT) : TT := fun σ H Q => t σ H fun c H1 => if c = true then u σ H1 Q else Q false H1
def tOr (t u : TT) : TT := fun σ H Q => t σ H fun c H1 => if c = true then Q true H1 else u σ H1 Q
def tNot (t : TT) : TT := fun σ H Q => t σ H fun c H1 => Q (!c) H1
theorem pw_and1 (ha : PT X a tA) : PW X (.BoolOp .And [a] pos) tA := by
  intro wh pins s σ H Q I h
  refine isTrue_and (thn (ha pins s σ H Q I h) fun c s1 e => ?_)
  cases c with
  | true => exact isTrue_and_nil e
  | false => exact e
theorem pw_or1 (ha : PT X a tA) : PW X (.BoolOp .Or [a] pos) tA := by
  intro wh pins s σ H Q I h
  refine isTrue_or (thn (ha pins s σ H Q I h) fun c s1 e => ?_)
  cases c with
  | false => exact isTrue_or_nil e
  | true => exact e
theorem pw_and (ha : PT X a tA) (hb : PW X (.BoolOp .And (b :: rest) pos) tB') : PW X (.BoolOp .And (a :: b :: rest) pos) (tAnd tA tB') := by
  intro wh pins s σ H Q I h
  refine isTrue_and (thn (ha pins s σ H _ I h) fun c s1 ⟨H1, I1, q1⟩ => ?_)
  cases c with
  | true => exact hb wh pins s1 σ H1 Q I1 q1
  | false => exact ⟨H1, I1, q1⟩
theorem pw_or (ha : PT X a tA) (hb : PW X (.BoolOp .Or (b :: rest) pos) tB') : PW X (.BoolOp .Or (a :: b :: rest) pos) (tOr tA tB') := by
  intro wh pins s σ H Q I h
  refine isTrue_or (thn (ha pins s σ H _ I h) fun c s1 ⟨H1, I1, q1⟩ => ?_)
  cases c with
  | true => exact ⟨H1, I1, q1⟩
  | false => exact hb wh pins s1 σ H1 Q I1 q1
theorem pt_not (ha : PT X a tA) : PT X (.UnaryOp .Not a pos) (tNot tA) := by
  intro pins s σ H Q I h
  exact isTrue_not (ha pins s σ H (fun c H1 => Q (!c) H1) I h)
inductive ItOrV (tb : TE) (σ : St) (Q : VK) (x : V) (H1 : Hp) : Prop
  | mk c : x = .bl c → (if c = true then Q (.bl true) H1 else tb σ H1 Q) → ItOrV tb σ Q x H1
def tOrV (ta tb : TE) : TE := fun σ H Q => ta σ H fun x H1 => ItOrV tb σ Q x H1
theorem pe_one {op} {t : TE} (h : PE X a t) : PE X (.BoolOp op [a] pos) t := fun pins s σ H Q I hw => BoolOp_one (h pins s σ H Q I hw)
theorem pe_or (ha : PE X a ta) (hb : PE X (.BoolOp .Or (b :: rest) pos) tb) : PE X (.BoolOp .Or (a :: b :: rest) pos) (tOrV ta tb) := by
  intro pins s σ H Q I h
  refine BoolOp_or (thn (ha pins s σ H _ I h) fun v s1 ⟨x, H1, I1, r1, q1⟩ => ?_)
  obtain ⟨c, rfl, q1⟩ := q1
  cases r1
  refine wpAny_truthy_bool ?_
  cases c with
  | false => exact hb pins s1 σ H1 Q I1 q1
  | true => exact ⟨.bl true, H1, I1, rfl, q1⟩
/-- a if t else b -/
def tIf (t : TT) (ta tb : TE) : TE := fun σ H Q => t σ H fun c H1 => if c = true then ta σ H1 Q else tb σ H1 Q
theorem pe_ifExp {c : Expr} (hc : PT X c tA) (ha : PE X a ta) (hb : PE X b tb) : PE X (.IfExp c a b pos) (tIf tA ta tb) := by
  intro pins s σ H Q I h
  refine wpAny_IfExp (thn (hc pins s σ H _ I h) fun d s1 ⟨H1, I1, q1⟩ => ?_)
  cases d with
  | true => exact ha pins s1 σ H1 Q I1 q1
  | false => exact hb pins s1 σ H1 Q I1 q1
end
end L2

namespace L2
open PySem PySem.Spec PyProof.Rows

def SqL (K : PySem.W.Frag) (H : Hp) (a : Addr) (xs : List V) : Prop :=
  Rd H a (.lst xs) ∨
    ∃ (o : Obj) (its : Array Value) (n : Nat), K.lookup a = some o ∧ o.cls = .type "list" ∧ o.dict = none ∧ o.data = .seq its n ∧ its.size ≤ sizeLine ∧ Vals xs its.toList
def SqT (K : PySem.W.Frag) (H : Hp) (a : Addr) (xs : List V) : Prop :=
  Rd H a (.tup xs) ∨
    ∃ (o : Obj) (its : Array Value) (n : Nat), K.lookup a = some o ∧ o.cls = .type "tuple" ∧ o.data = .seq its n ∧ its.size ≤ sizeLine ∧ Vals xs its.toList
def absV : Value → Option V
  | .none => some .non
  | .bool b => some (.bl b)
  | .int i _ => some (.int i)
  | .str x _ => some (.str x)
  | .bytes b _ => some (.byt b)
  | .float b _ => some (.flt b)
  | .ref a => some (.ref a)
  | .type n => some (.ty n)
  | _ => none
theorem RelV.abs {x : V} {u : Value} (r : RelV x u) : absV u = some x := by
  cases x with
  | non => cases r; rfl
  | bl _ => cases r; rfl
  | int _ => obtain ⟨t, rfl⟩ := r; rfl
  | str _ => obtain ⟨t, rfl⟩ := r; rfl
  | byt _ => obtain ⟨t, rfl⟩ := r; rfl
  | flt _ => obtain ⟨t, rfl⟩ := r; rfl
  | ref _ => cases r; rfl
  | ty _ => cases r; rfl
theorem RelV.inj {x y : V} {u : Value} (r : RelV x u) (q : RelV y u) : x = y := Option.some.inj (r.abs.symm.trans q.abs)
theorem Vals.inj : ∀ {xs ys : List V} {us : List Value}, Vals xs us → Vals ys us → xs = ys
  | _, _, _, .nil, .nil => rfl
  | _, _, _, .cons r t, .cons r' t' => by rw [r.inj r', Vals.inj t t']
section
variable {X : Cx} {pins : List (Addr × Obj)} {σ : St} {H : Hp} {s : Shared} {a : Addr} {xs ys : List V}
theorem SqL.of {K : PySem.W.Frag} (h : H a = some (.lst xs)) : SqL K H a xs := .inl (.inl h)
theorem SqT.of {K : PySem.W.Frag} (h : H a = some (.tup xs)) : SqT K H a xs := .inl (.inl h)
theorem Inv.list (I : Inv X pins σ H s) (h : SqL X.K H a xs) : ∃ its : List Value, Vals xs its ∧ PlainL s.heap a its.toArray ∧ xs.length ≤ sizeLine := by
  rcases h with h | ⟨o, its, n, hk, hc, hd, hs, hz, r⟩
  · obtain ⟨z, its, n, r, e⟩ := h.ok I.hok
    exact ⟨its, r, ⟨_, n, e, rfl, rfl, rfl⟩, z⟩
  · refine ⟨its.toList, r, ⟨o, n, I.kIn a o hk, hc, hd, by simpa using hs⟩, ?_⟩
    have e := r.length
    simp only [Array.length_toList] at e
    omega
theorem Inv.tuple (I : Inv X pins σ H s) (h : SqT X.K H a xs) : ∃ its : List Value, Vals xs its ∧ IsTup s.heap a its.toArray ∧ xs.length ≤ sizeLine := by
  rcases h with h | ⟨o, its, n, hk, hc, hs, hz, r⟩
  · obtain ⟨z, its, r, p⟩ := h.ok I.hok
    exact ⟨its, r, p, z⟩
  · refine ⟨its.toList, r, ⟨o, I.kIn a o hk, hc, n, by simpa using hs⟩, ?_⟩
    have e := r.length
    simp only [Array.length_toList] at e
    omega
theorem Inv.list_inj (I : Inv X pins σ H s) (h : SqL X.K H a xs) (h' : SqL X.K H a ys) : xs = ys := by
  obtain ⟨its, r, ⟨o, n, e, _, _, d⟩, _⟩ := I.list h
  obtain ⟨its', r', ⟨o', n', e', _, _, d'⟩, _⟩ := I.list h'
  rw [e] at e'; cases e'
  rw [d] at d'
  injection d' with d1 _
  have : its = its' := by simpa using congrArg Array.toList d1
  subst this
  exact r.inj r'
theorem Inv.tuple_inj (I : Inv X pins σ H s) (h : SqT X.K H a xs) (h' : SqT X.K H a ys) : xs = ys := by
  obtain ⟨its, r, ⟨o, e, _, n, d⟩, _⟩ := I.tuple h
  obtain ⟨its', r', ⟨o', e', _, n', d'⟩, _⟩ := I.tuple h'
  rw [e] at e'; cases e'
  rw [d] at d'
  injection d' with d1 _
  have : its = its' := by simpa using congrArg Array.toList d1
  subst this
  exact r.inj r'
end

abbrev Cx.wish (X : Cx) (E : Value → Shared → Prop) : Cx := { X with xe := E }
/-- no exception leaves -/
abbrev Cx.nox (X : Cx) : Cx := X.wish fun _ _ => False
theorem Cx.Ok.wish {X : Cx} (ok : X.Ok) (E : Value → Shared → Prop) : (X.wish E).Ok :=
  ⟨ok.mod, ok.kind, ok.glob, ok.blt, ok.above, ok.inj, ok.has, ok.cab, ok.hd, ok.frames, ok.stk, ok.exf, ok.bs, ok.bsz, ok.noex, ok.exfs, ok.funs, ok.frf⟩
theorem Cx.Ok.unwish {X : Cx} {E : Value → Shared → Prop} (ok : (X.wish E).Ok) : X.Ok :=
  ⟨ok.mod, ok.kind, ok.glob, ok.blt, ok.above, ok.inj, ok.has, ok.cab, ok.hd, ok.frames, ok.stk, ok.exf, ok.bs, ok.bsz, ok.noex, ok.exfs, ok.funs, ok.frf⟩
section
variable {X : Cx} {pins : List (Addr × Obj)} {σ : St} {H : Hp} {s : Shared} {E : Value → Shared → Prop}
theorem Inv.wish (I : Inv X pins σ H s) (E : Value → Shared → Prop) : Inv (X.wish E) pins σ H s := ⟨I.ok.wish E, I.os, I.bare, I.base, I.loc, I.cell, I.free, I.freeC, I.pin, I.hok, I.len⟩
theorem Inv.unwish (I : Inv (X.wish E) pins σ H s) : Inv X pins σ H s := ⟨I.ok.unwish, I.os, I.bare, I.base, I.loc, I.cell, I.free, I.freeC, I.pin, I.hok, I.len⟩
theorem SP.unwish {D : Ends} {f : Flow} {s' : Shared} (h : SP (X.wish E) pins D f s') : SP X pins D f s' := by
  cases f with
  | next => obtain ⟨σ', H', I, q⟩ := h; exact ⟨σ', H', I.unwish, q⟩
  | brk => obtain ⟨σ', H', I, q⟩ := h; exact ⟨σ', H', I.unwish, q⟩
  | cont => obtain ⟨σ', H', I, q⟩ := h; exact ⟨σ', H', I.unwish, q⟩
  | ret u => obtain ⟨v, σ', H', I, r, q⟩ := h; exact ⟨v, σ', H', I.unwish, r, q⟩
theorem PSs.nox {st : List Stmt} {t : TS} (h : PSs X.nox st t) : PSs X st t := fun pins s σ H D I hw =>
  wpAny_mono (h pins s σ H D (I.wish _) hw) (fun _ _ q => q.unwish) fun _ _ z => False.elim z
end

section
variable {X : Cx} {st : Stmt} {rest : List Stmt} {t u : TS} {e : Expr} {te : TE} {pos : Pos}
def tNext : TS := fun D σ H => D.nx σ H
def tSeq (t u : TS) : TS := fun D σ H => t { D with nx := u D } σ H
theorem pss_nil : PSs X [] tNext := fun _ _ σ H _ I h => wpAny_execs_nil ⟨σ, H, I, h⟩
theorem pss_cons (h1 : PS X st t) (h2 : PSs X rest u) : PSs X (st :: rest) (tSeq t u) := by
  intro pins s σ H D I h
  refine wpAny_execs_cons (thn (h1 pins s σ H { D with nx := u D } I h) fun f s1 q => ?_)
  cases f with
  | next =>
    obtain ⟨σ', H', I', q⟩ := q
    exact h2 pins s1 σ' H' D I' q
  | ret v => exact q
  | brk => exact q
  | cont => exact q
theorem pss_one (h1 : PS X st t) : PSs X [st] t := by
  intro pins s σ H D I h
  refine wpAny_execs_cons (thn (h1 pins s σ H D I h) fun f s1 q => ?_)
  cases f with
  | next => exact wpAny_execs_nil q
  | ret v => exact q
  | brk => exact q
  | cont => exact q
def tCont : TS := fun D σ H => D.ct σ H
theorem ps_continue : PS X (.Continue pos) tCont := fun _ _ σ H _ I h => wpAny_Continue ⟨σ, H, I, h⟩
/-- in a def's body nothing is shown -/
theorem Inv.quiet {pins : List (Addr × Obj)} {σ : St} {H : Hp} {s : Shared} (I : Inv X pins σ H s) : interactive X.env = false := by simp [interactive, I.ok.kind]
/-- an expression whose value is dropped -/
def tDrop (te : TE) : TS := fun D σ H => te σ H fun _ H1 => D.nx σ H1
theorem ps_expr (he : PE X e te) (hs : swapsWith e none pos.line X.env = pure false := by rfl) : PS X (.Expr e pos) (tDrop te) := by
  intro pins s σ H D I h
  exact wpAny_Expr_any (thn (he pins s σ H _ I h) fun v s1 ⟨x, H1, I1, r1, q1⟩ => ⟨σ, H1, I1, q1⟩) I.quiet hs
def tRet (te : TE) : TS := fun D σ H => te σ H D.rt
theorem ps_ret (he : PE X e te) : PS X (.Return (some e) pos) (tRet te) := by
  intro pins s σ H D I h
  exact wpAny_Return_some (thn (he pins s σ H _ I h) fun v s1 ⟨x, H1, I1, r1, q1⟩ => ⟨x, σ, H1, I1, r1, q1⟩)
def tRetN : TS := fun D _ H => D.rt .non H
theorem ps_retN : PS X (.Return none pos) tRetN := fun _ _ σ H _ I h => wpAny_Return_none ⟨.non, σ, H, I, rfl, h⟩
def tIfS (c : TT) (t u : TS) : TS := fun D σ H => c σ H fun b H1 => if b = true then t D σ H1 else u D σ H1
theorem ps_if {c : Expr} {a b : List Stmt} {tc : TT} (hc : PT X c tc) (ha : PSs X a t) (hb : PSs X b u) : PS X (.If c a b pos) (tIfS tc t u) := by
  intro pins s σ H D I h
  refine wpAny_If (thn (hc pins s σ H _ I h) fun d s1 ⟨H1, I1, q1⟩ => ?_)
  cases d with
  | true => exact ha pins s1 σ H1 D I1 q1
  | false => exact hb pins s1 σ H1 D I1 q1
end

abbrev TG := V → St → Hp → (St → Hp → Prop) → Prop
abbrev TGs := List V → St → Hp → (St → Hp → Prop) → Prop
def PG (X : Cx) (target : Expr) (t : TG) : Prop :=
  ∀ (pins : List (Addr × Obj)) (s : Shared) (σ : St) (H : Hp) (v : V) (u : Value) (Q : St → Hp → Prop), Inv X pins σ H s → RelV v u → t v σ H Q →
    wpAny (model X.prog X.w) X.A (assign target X.env u) (fun _ s' => ∃ σ' H', Inv X pins σ' H' s' ∧ Q σ' H') X.xe s
/-- several targets, one after another -/
def PGs (X : Cx) (ts : List Expr) (t : TGs) : Prop :=
  ∀ (pins : List (Addr × Obj)) (s : Shared) (σ : St) (H : Hp) (vs : List V) (us : List Value) (Q : St → Hp → Prop), Inv X pins σ H s → Vals vs us → t vs σ H Q →
    wpAny (model X.prog X.w) X.A (assignInOrder ((assignEach ts X.env).map (·.2)) us) (fun _ s' => ∃ σ' H', Inv X pins σ' H' s' ∧ Q σ' H') X.xe s
/-- o[i] = v, by values -/
abbrev TSet := V → V → V → Hp → (Hp → Prop) → Prop
def PSet (X : Cx) (t : TSet) : Prop :=
  ∀ (pins : List (Addr × Obj)) (s : Shared) (σ : St) (H : Hp) (o i v : V) (ov iv u : Value) (Q : Hp → Prop), Inv X pins σ H s → RelV o ov → RelV i iv → RelV v u → t o i v H Q →
    wpAny (model X.prog X.w) X.A (setItem ov iv u) (fun _ s' => ∃ H', Inv X pins σ H' s' ∧ Q H') X.xe s
section
variable {X : Cx} {pos : Pos}
def gName (i : Nat) : TG := fun v σ H Q => Q (σ.set i (some v)) H
theorem pg_name {i : Nat} {x : Str} (hN : X.N.Nodup) (hi : X.N[i]? = some x) (hx : Loc X.env.scope x) (hf : X.fn x = true ∨ X.env.scope.names.lookup x = some .local := by first | exact .inl rfl | exact .inr rfl | assumption) : PG X (.Name x pos) (gName i) := by
  intro pins s σ H v u Q I r h
  exact wpAny_assign_Name (store_ok I hN hi hx r (fun s' I' => ⟨_, H, I', h⟩) hf)
def gNil : TGs := fun vs σ H Q => vs = [] ∧ Q σ H
inductive gCons (t : TG) (u : TGs) (vs : List V) (σ : St) (H : Hp) (Q : (St → Hp → Prop)) : Prop
  | mk v r : vs = v :: r → (t v σ H fun σ' H' => u r σ' H' Q) → gCons t u vs σ H Q
theorem pgs_nil : PGs X [] gNil := by
  intro pins s σ H vs us Q I r h
  obtain ⟨e, h⟩ := h
  subst e
  cases r
  exact assignInOrder_nil ⟨σ, H, I, h⟩
theorem pgs_cons {e : Expr} {es : List Expr} {t : TG} {u : TGs} (h1 : PG X e t) (h2 : PGs X es u)
    (hs : (assignEach (e :: es) X.env).map (·.2) = assign e X.env :: (assignEach es X.env).map (·.2) := by rfl) : PGs X (e :: es) (gCons t u) := by
  intro pins s σ H vs us Q I r h
  obtain ⟨v, vr, e1, h⟩ := h
  subst e1
  cases r with
  | cons r rr =>
    rw [hs]
    refine assignInOrder_cons (thn (h1 pins s σ H _ _ _ I r h) fun _ s1 ⟨σ1, H1, I1, q1⟩ => ?_)
    exact h2 pins s1 σ1 H1 _ _ Q I1 rr q1
/-- (a, b, ..) = a tuple of that length -/
inductive gTup (K : PySem.W.Frag) (n : Nat) (t : TGs) (v : V) (σ : St) (H : Hp) (Q : (St → Hp → Prop)) : Prop
  | mk a xs : v = .ref a → SqT K H a xs → xs.length = n → t xs σ H Q → gTup K n t v σ H Q
theorem pg_tup {es : List Expr} {k : Nat} {t : TGs} {n : Nat} (hc : X.calm = true) (h : PGs X es t)
    (hn : (assignEach es X.env).length = n := by rfl) (hst : (assignEach es X.env).findIdx? (·.1) = none := by rfl) : PG X (.Tuple es k pos) (gTup X.K n t) := by
  intro pins s σ H v u Q I r hw
  obtain ⟨a, xs, e1, hq, hl, hw⟩ := hw
  subst e1
  cases r
  obtain ⟨its, rv, ht, hz⟩ := I.tuple hq
  refine assign_Tuple_tuple (I.ok.hd hc) ht (by simp [hn, ← hl, rv.length]) hst fun h' hx => ?_
  have I1 : Inv X pins σ H { s with heap := h' } := I.kept (t' := s.toks) fun b o e => hx b o (Nat.ne_of_lt (Heap.lt_size e)) e
  exact h pins _ σ H xs _ Q I1 (by simpa using rv) hw
/-- o[i] = .. -/
def gSub (to ti : TE) (t : TSet) : TG := fun v σ H Q => to σ H fun o H1 => ti σ H1 fun i H2 => t o i v H2 fun H3 => Q σ H3
theorem pg_sub {o i : Expr} {to ti : TE} {t : TSet} (ho : PE X o to) (hi : PE X i ti) (hs : PSet X t)
    (ha : ∀ v, assign (.Subscript o i pos) X.env v = (do
      let ov ← holding [v] (eval o X.env)
      let iv ← holding [v, ov] (eval i X.env)
      standAt pos
      holding [v, ov, iv] (setItem ov iv v)
      release [v, ov, iv] []) := by intro _; rfl) : PG X (.Subscript o i pos) (gSub to ti t) := by
  intro pins s σ H v u Q I r h
  rw [ha]
  refine wpAny_bind (wpAny_holding (thn (ho pins s σ H _ I h) fun ov s1 ⟨x, H1, I1, r1, q1⟩ => ?_))
  refine wpAny_bind (wpAny_holding (thn (hi pins s1 σ H1 _ I1 q1) fun iv s2 ⟨y, H2, I2, r2, q2⟩ => ?_))
  refine wpAny_bind (wpAny_standAt (wpAny_bind (wpAny_holding (thn (hs pins s2 σ H2 x y v ov iv u _ I2 r1 r2 r q2) fun _ s3 ⟨H3, I3, q3⟩ => ?_))))
  exact wpAny_release ⟨σ, H3, I3, q3⟩
/-- target = value -/
def tAsg (te : TE) (g : TG) : TS := fun D σ H => te σ H fun x H1 => g x σ H1 D.nx
theorem ps_asg {tg e : Expr} {te : TE} {g : TG} (he : PE X e te) (hg : PG X tg g) (hs : swapsWithSole [tg] e pos.line X.env = pure false := by rfl) (hw : swappedStores [tg] e X.env = pure none := by rfl)
    (h1 : (assignEach [tg] X.env).map (·.2) = [assign tg X.env] := by rfl) : PS X (.Assign [tg] e pos) (tAsg te g) := by
  intro pins s σ H D I h
  refine wpAny_Assign_stores (thn (he pins s σ H _ I h) fun v s1 ⟨x, H1, I1, r1, q1⟩ => ?_) hs hw
  rw [h1]
  exact thn (hg pins s1 σ H1 x v _ I1 r1 q1) fun _ s2 q => q
/-- name = value -/
theorem ps_set {i : Nat} {x : Str} {e : Expr} {te : TE} {pos' : Pos} (hN : X.N.Nodup) (hi : X.N[i]? = some x) (hx : Loc X.env.scope x) (he : PE X e te) (hs : swapsWith e (some (.Name x pos')) pos.line X.env = pure false := by rfl) (hf : X.fn x = true ∨ X.env.scope.names.lookup x = some .local := by first | exact .inl rfl | exact .inr rfl | assumption) :
    PS X (.Assign [.Name x pos'] e pos) (tAsg te (gName i)) := by
  intro pins s σ H D I h
  refine wpAny_Assign_Name (thn (he pins s σ H _ I h) fun v s1 ⟨y, H1, I1, r1, q1⟩ => ?_) hs
  exact store_ok I1 hN hi hx r1 (fun s2 I2 => ⟨_, H1, I2, q1⟩) hf
end

section
variable {X : Cx} {pos : Pos}
/-- the invariant W with its measure -/
def tWhile (c : TT) (tb : TS) : TS := fun D σ H => ∃ W : Nat → St → Hp → Prop, (∃ m, W m σ H) ∧ ∀ m σ H, W m σ H →
  c σ H fun b H1 => if b = true then ∃ N : St → Hp → Prop, (∀ σ' H', N σ' H' → ∃ m', m' < m ∧ W m' σ' H') ∧ tb { D with nx := N, ct := N, bk := D.nx } σ H1 else D.nx σ H1
theorem ps_while {c : Expr} {body : List Stmt} {tc : TT} {tb : TS} (hp : PassesOwn (model X.prog X.w) X.A X.env X.xe) (hc : PT X c tc) (hb : PSs X body tb) : PS X (.While c body [] pos) (tWhile tc tb) := by
  intro pins s σ H D I h
  obtain ⟨W, ⟨m0, w0⟩, turn⟩ := h
  refine wpAny_While (codeAny_whileLoop (fun n s' => ∃ σ' H', Inv X pins σ' H' s' ∧ W n σ' H') ?_ m0 ⟨σ, H, I, w0⟩)
  rintro n s1 ⟨σ1, H1, I1, w1⟩
  refine wpAny_passesOwn hp (thn (hc pins s1 σ1 H1 _ I1 (turn n σ1 H1 w1)) fun b s2 ⟨H2, I2, q2⟩ => ?_)
  cases b with
  | true =>
    obtain ⟨N, hN, q2⟩ := q2
    rw [if_pos rfl]
    refine wpAny_passesOwn hp (thn (hb pins s2 σ1 H2 _ I2 q2) fun f s3 q3 => ?_)
    cases f with
    | next =>
      obtain ⟨σ3, H3, I3, n3⟩ := q3
      obtain ⟨m', hm, w3⟩ := hN σ3 H3 n3
      exact ⟨m', hm, σ3, H3, I3, w3⟩
    | cont =>
      obtain ⟨σ3, H3, I3, n3⟩ := q3
      obtain ⟨m', hm, w3⟩ := hN σ3 H3 n3
      exact ⟨m', hm, σ3, H3, I3, w3⟩
    | brk => exact q3
    | ret v => exact q3
  | false =>
    rw [if_neg Bool.false_ne_true]
    exact wpAny_execs_nil ⟨σ1, H2, I2, q2⟩
end

/-- at turn i: it yields x (the heap may grow), or it stops -/
structure It where
  go : Nat → Hp → Prop
  yld : Nat → Hp → V → Hp → Prop
  stop : Nat → Hp → Prop
/-- the iterator's own objects may turn: they are not the frame's, not pinned, younger than the entry (or a comprehension's own) -/
def FpOk (X : Cx) (pins : List (Addr × Obj)) (H : Hp) (b : Addr) : Prop :=
  H b = none ∧ b ≠ X.env.locals ∧ b ∉ X.fs ∧ (b ∈ X.ex ∨ X.s₀.heap.objs.size ≤ b) ∧ (∀ x c, X.env.cells.lookup x = some c → c ≠ b) ∧ ∀ p ∈ X.pn ++ pins, p.1 ≠ b
theorem Inv.fpOk {X : Cx} {pins : List (Addr × Obj)} {σ : St} {H H' : Hp} {s : Shared} {b : Addr} (I : Inv X pins σ H s) (hb : s.heap.objs.size ≤ b) (hn : H' b = none) : FpOk X pins H' b := by
  refine ⟨hn, Nat.ne_of_gt (Nat.lt_of_lt_of_le I.lt hb), I.nofs hb, .inr (Nat.le_trans I.sz hb), fun x c e z => ?_, fun p hp z => ?_⟩
  · obtain ⟨v, q⟩ := I.cell x c e
    exact absurd (Nat.lt_of_lt_of_le q.lt (by rw [z]; exact hb)) (Nat.lt_irrefl _)
  · exact absurd (Nat.lt_of_lt_of_le (Heap.lt_size (I.pin p hp).1) (by rw [z]; exact hb)) (Nat.lt_irrefl _)
structure Turn (P : Program) (w : World) (K : PySem.W.Frag) (tg : Expr) (J : It) (fp : List Addr) (it : Addr) (tn : Nat → Heap → Prop) : Prop where
  mem : it ∈ fp
  obj : ∀ i h, tn i h → ∀ b ∈ fp, ∃ o, h.get? b = some o ∧ ∀ v, o.data ≠ .cell v
  keep : ∀ i h h', tn i h → (∀ b ∈ fp, ∀ o, h.get? b = some o → h'.get? b = some o) → tn i h'
  item : ∀ (X : Cx), X.prog = P → X.w = w → X.K = K → X.calm = true → ∀ (i : Nat) (pins : List (Addr × Obj)) (s : Shared) (σ : St) (H : Hp) (E : Value → Shared → Prop), Inv X pins σ H s → (∀ b ∈ fp, FpOk X pins H b) → tn i s.heap → J.go i H →
    wpAny (model P w) X.A (pyNext (.ref it)) (fun r s1 => ∃ u, r = some u ∧
      wpAny (model P w) X.A (letOwnedTupleGo tg (.ref it) u) (fun _ s2 => ∃ x H', Inv X pins σ H' s2 ∧ RelV x u ∧ J.yld i H x H' ∧ tn (i + 1) s2.heap ∧ ∀ b ∈ fp, H' b = none) E s1) E s
  done : ∀ (X : Cx), X.prog = P → X.w = w → X.K = K → X.calm = true → ∀ (i : Nat) (pins : List (Addr × Obj)) (s : Shared) (σ : St) (H : Hp) (E : Value → Shared → Prop), Inv X pins σ H s → (∀ b ∈ fp, FpOk X pins H b) → tn i s.heap → J.stop i H →
    wpAny (model P w) X.A (pyNext (.ref it)) (fun r s1 => r = none ∧ Inv X pins σ H s1) E s
  self : ∀ (A : Around) (i : Nat) (s : Shared) (Q : Value → Shared → Prop) (E : Value → Shared → Prop), tn i s.heap → Q (.ref it) s → wpAny (model P w) A (pyIter (.ref it)) Q E s
abbrev TI := St → Hp → (It → Hp → Prop) → Prop
/-- an iterator has come -/
def PIE (X : Cx) (pins : List (Addr × Obj)) (σ : St) (tg : Expr) (R : It → Hp → Prop) (itv : Value) (s2 : Shared) : Prop :=
  ∃ (it : Addr) (fp : List Addr) (tn : Nat → Heap → Prop) (J : It) (H' : Hp), itv = .ref it ∧ Inv X pins σ H' s2 ∧ Turn X.prog X.w X.K tg J fp it tn ∧ tn 0 s2.heap ∧ (∀ b ∈ fp, FpOk X pins H' b) ∧ R J H'
def PI (X : Cx) (tg iter : Expr) (wi : TI) : Prop :=
  ∀ (pins : List (Addr × Obj)) (s : Shared) (σ : St) (H : Hp) (R : It → Hp → Prop), Inv X pins σ H s → wi σ H R →
    wpAny (model X.prog X.w) X.A (eval iter X.env) (fun v s1 => wpAny (model X.prog X.w) X.A (pyIter v) (PIE X pins σ tg R) X.xe s1) X.xe s

/-- the step ahead of the store is nothing for an iterator that keeps no tuple -/
theorem go_of {M : Model} {A : Around} {E : Value → Shared → Prop} {s : Shared} {tg : Expr} {it : Addr} {u : Value} {o : Obj} {n : String} {vs : Array Value} {Q : Unit → Shared → Prop} (ho : s.heap.get? it = some o) (hc : o.cls = .type n) (hd : o.data = .fields vs)
    (hn : ["enumerate", "zip", "dict_itemiterator", "dict_reverseitemiterator", "odict_iterator", "itertools.zip_longest", "itertools.pairwise"].contains n = false) (hQ : Q () s) : wpAny M A (letOwnedTupleGo tg (.ref it) u) Q E s := by
  unfold letOwnedTupleGo
  cases tg <;> first
    | exact wpAny_pure hQ
    | (cases u <;> first
        | exact wpAny_pure hQ
        | (refine wpAny_bind (wpAny_load ho ?_)
           rw [hc, hd]
           show wpAny M A (if (["enumerate", "zip", "dict_itemiterator", "dict_reverseitemiterator", "odict_iterator", "itertools.zip_longest", "itertools.pairwise"].contains n && vs[0]? == some (rawInt _)) = true then _ else _) Q E s
           rw [if_neg (by intro h; rw [hn, Bool.false_and] at h; cases h)]
           exact wpAny_pure hQ))

/-- the list at a, as it stands at each turn (a loop may append to it) -/
def Itl (K : PySem.W.Frag) (a : Addr) : It :=
  ⟨fun i H => ∃ xs x, SqL K H a xs ∧ xs[i]? = some x, fun i H x H' => H' = H ∧ ∀ xs, SqL K H a xs → xs[i]? = some x, fun i H => ∃ xs, SqL K H a xs ∧ xs.length ≤ i⟩
def Itt (K : PySem.W.Frag) (a : Addr) : It :=
  ⟨fun i H => ∃ xs x, SqT K H a xs ∧ xs[i]? = some x, fun i H x H' => H' = H ∧ ∀ xs, SqT K H a xs → xs[i]? = some x, fun i H => ∃ xs, SqT K H a xs ∧ xs.length ≤ i⟩
/-- lo, lo + 1, .. (n of them) -/
def Itr (lo : Int) (n : Nat) : It := ⟨fun i _ => i < n, fun i H x H' => H' = H ∧ x = .int (lo + i), fun i _ => n ≤ i⟩
theorem turn_list {P : Program} {w : World} {K : PySem.W.Frag} {tg : Expr} (a it : Addr) : Turn P w K tg (Itl K a) [it] it (fun i h => h.IsListIter it a i) where
  mem := by simp
  obj := fun i h st b hb => by
    have e : b = it := by simpa using hb
    subst e
    obtain ⟨o, e, c, d⟩ := st
    exact ⟨o, e, fun v z => by rw [d] at z; cases z⟩
  keep := fun i h h' st k => st.at fun o e => k it (by simp) o e
  item := by
    intro X hP hw hK hc i pins s σ H E I hf st hg
    subst hP hw hK
    obtain ⟨xs, x, hq, hx⟩ := hg
    obtain ⟨its, rv, p, hz⟩ := I.list hq
    obtain ⟨u, hu, ru⟩ := rv.get hx
    obtain ⟨f0, f1, f2, f3, f4, f5⟩ := hf it (by simp)
    refine wpAny_pyNext_list_item st p.isList (x := u) (by simpa using hu) fun h' st' sb => ?_
    have I1 : Inv X pins σ H { s with heap := h' } := I.turned (t' := s.toks) (fun b o hb e => (sb.2 b hb).trans e) f0 f1 f3 f4 f5
    obtain ⟨o, e, c, d⟩ := id st'
    exact ⟨u, rfl, go_of (s := { s with heap := h' }) e c d (by decide) ⟨x, H, I1, ru, ⟨rfl, fun ys hy => by rw [I.list_inj hy hq]; exact hx⟩, st', fun b hb => (hf b hb).1⟩⟩
  done := by
    intro X hP hw hK hc i pins s σ H E I hf st hg
    subst hP hw hK
    obtain ⟨xs, hq, hx⟩ := hg
    obtain ⟨its, rv, p, hz⟩ := I.list hq
    obtain ⟨f0, f1, f2, f3, f4, f5⟩ := hf it (by simp)
    have hl := rv.length
    exact wpAny_pyNext_list_end (I.ok.hd hc) st p.isList (by simp; omega) fun h' eb => ⟨rfl, I.turned (t' := s.toks) (fun b o hb e => eb b o hb e) f0 f1 f3 f4 f5⟩
  self := fun _ _ _ _ _ st h => wpAny_pyIter_listiter st h
theorem turn_tuple {P : Program} {w : World} {K : PySem.W.Frag} {tg : Expr} (a it : Addr) : Turn P w K tg (Itt K a) [it] it (fun i h => h.IsTupleIter it a i) where
  mem := by simp
  obj := fun i h st b hb => by
    have e : b = it := by simpa using hb
    subst e
    obtain ⟨o, e, c, d⟩ := st
    exact ⟨o, e, fun v z => by rw [d] at z; cases z⟩
  keep := fun i h h' st k => st.at fun o e => k it (by simp) o e
  item := by
    intro X hP hw hK hc i pins s σ H E I hf st hg
    subst hP hw hK
    obtain ⟨xs, x, hq, hx⟩ := hg
    obtain ⟨its, rv, p, hz⟩ := I.tuple hq
    obtain ⟨u, hu, ru⟩ := rv.get hx
    obtain ⟨f0, f1, f2, f3, f4, f5⟩ := hf it (by simp)
    refine wpAny_pyNext_tuple_item st (show s.heap.IsTuple a its.toArray from p) (x := u) (by simpa using hu) fun h' st' sb => ?_
    have I1 : Inv X pins σ H { s with heap := h' } := I.turned (t' := s.toks) (fun b o hb e => (sb.2 b hb).trans e) f0 f1 f3 f4 f5
    obtain ⟨o, e, c, d⟩ := id st'
    exact ⟨u, rfl, go_of (s := { s with heap := h' }) e c d (by decide) ⟨x, H, I1, ru, ⟨rfl, fun ys hy => by rw [I.tuple_inj hy hq]; exact hx⟩, st', fun b hb => (hf b hb).1⟩⟩
  done := by
    intro X hP hw hK hc i pins s σ H E I hf st hg
    subst hP hw hK
    obtain ⟨xs, hq, hx⟩ := hg
    obtain ⟨its, rv, p, hz⟩ := I.tuple hq
    obtain ⟨f0, f1, f2, f3, f4, f5⟩ := hf it (by simp)
    have hl := rv.length
    exact wpAny_pyNext_tuple_end (I.ok.hd hc) st (show s.heap.IsTuple a its.toArray from p) (by simp; omega) fun h' eb => ⟨rfl, I.turned (t' := s.toks) (fun b o hb e => eb b o hb e) f0 f1 f3 f4 f5⟩
  self := fun _ _ _ _ _ st h => wpAny_pyIter_tupleiter st h
theorem turn_range {P : Program} {w : World} {K : PySem.W.Frag} {tg : Expr} (it : Addr) (lo : Int) (n : Nat) : Turn P w K tg (Itr lo n) [it] it (fun i h => IsRangeIter h it (lo + (i : Nat) * 1) ((n : Int) - (i : Nat)) 1) where
  mem := by simp
  obj := fun i h st b hb => by
    have e : b = it := by simpa using hb
    subst e
    exact ⟨_, st, fun v z => by
      have z' : Data.fields _ = Data.cell v := z
      cases z'⟩
  keep := fun i h h' st k => k it (by simp) _ st
  item := by
    intro X hP hw hK hc i pins s σ H E I hf st hg
    subst hP hw hK
    obtain ⟨f0, f1, f2, f3, f4, f5⟩ := hf it (by simp)
    have W := Walks.range (prog := X.prog) (w := X.w) (I.ok.hd hc) it lo 1 n
    refine W.item i s _ _ hg st fun v h' tk hv st' kk => ?_
    obtain ⟨t, rfl⟩ := hv
    have I1 : Inv X pins σ H { s with heap := h', toks := tk } := I.turned (fun b o hb e => kk b o (by simpa using hb) e) f0 f1 f3 f4 f5
    refine ⟨_, rfl, go_of (s := { s with heap := h', toks := tk }) (n := "range_iterator") st' rfl rfl (by decide) ⟨.int (lo + i), H, I1, ⟨t, ?_⟩, ⟨rfl, rfl⟩, st', fun b hb => (hf b hb).1⟩⟩
    rw [Int.mul_one]
  done := by
    intro X hP hw hK hc i pins s σ H E I hf st hg
    subst hP hw hK
    obtain ⟨f0, f1, f2, f3, f4, f5⟩ := hf it (by simp)
    exact wpAny_pyNext_range_end (I.ok.hd hc) st (by have : n ≤ i := hg; omega) fun h' eb => ⟨rfl, I.turned (t' := s.toks) (fun b o hb e => eb b o hb e) f0 f1 f3 f4 f5⟩
  self := fun _ _ _ _ _ st h => wpAny_pyIter_rangeiter st h
end L2

namespace L2
open PySem PySem.Spec PyProof.Rows
section
variable {X : Cx} {tg : Expr}
inductive IiList (K : PySem.W.Frag) (R : (It → Hp → Prop)) (x : V) (H1 : Hp) : Prop
  | mk a : x = .ref a → ((∃ xs, SqL K H1 a xs)) → R (Itl K a) H1 → IiList K R x H1
def iList (K : PySem.W.Frag) (tl : TE) : TI := fun σ H R => tl σ H fun x H1 => IiList K R x H1
inductive IiTup (K : PySem.W.Frag) (R : (It → Hp → Prop)) (x : V) (H1 : Hp) : Prop
  | mk a : x = .ref a → ((∃ xs, SqT K H1 a xs)) → R (Itt K a) H1 → IiTup K R x H1
def iTup (K : PySem.W.Frag) (tl : TE) : TI := fun σ H R => tl σ H fun x H1 => IiTup K R x H1
theorem pi_list {l : Expr} {tl : TE} (hl : PE X l tl) : PI X tg l (iList X.K tl) := by
  intro pins s σ H R I h
  refine thn (hl pins s σ H _ I h) fun v s1 ⟨x, H1, I1, r1, q1⟩ => ?_
  obtain ⟨a, e, ⟨xs, hq⟩, q⟩ := q1
  subst e
  cases r1
  obtain ⟨its, rv, p, hz⟩ := I1.list hq
  refine wpAny_pyIter_list p.isList ?_
  refine ⟨s1.heap.objs.size, [s1.heap.objs.size], _, _, H1, rfl, I1.kept (t' := s1.toks) fun b o e => Heap.get?_push_of_some _ e, turn_list a _, ⟨_, Heap.get?_push_size _ rfl, rfl, rfl⟩, fun b hb => ?_, q⟩
  have e : b = s1.heap.objs.size := by simpa using hb
  subst e
  exact I1.fpOk (Nat.le_refl _) (I1.hok.fresh (Nat.le_refl _))
theorem pi_tup {l : Expr} {tl : TE} (hl : PE X l tl) : PI X tg l (iTup X.K tl) := by
  intro pins s σ H R I h
  refine thn (hl pins s σ H _ I h) fun v s1 ⟨x, H1, I1, r1, q1⟩ => ?_
  obtain ⟨a, e, ⟨xs, hq⟩, q⟩ := q1
  subst e
  cases r1
  obtain ⟨its, rv, p, hz⟩ := I1.tuple hq
  refine wpAny_pyIter_tuple (show s1.heap.IsTuple a its.toArray from p) ?_
  refine ⟨s1.heap.objs.size, [s1.heap.objs.size], _, _, H1, rfl, I1.kept (t' := s1.toks) fun b o e => Heap.get?_push_of_some _ e, turn_tuple a _, ⟨_, Heap.get?_push_size _ rfl, rfl, rfl⟩, fun b hb => ?_, q⟩
  have e : b = s1.heap.objs.size := by simpa using hb
  subst e
  exact I1.fpOk (Nat.le_refl _) (I1.hok.fresh (Nat.le_refl _))
/-- a range object just made, walked -/
theorem range_it {pins : List (Addr × Obj)} {σ : St} {H : Hp} {s : Shared} {R : It → Hp → Prop} {E : Value → Shared → Prop} {lo hi : Int} {t u v : Tok} {tk : Nat} (I : Inv X pins σ H s) (h1 : -(2 ^ 62) ≤ lo) (h2 : lo < 2 ^ 62) (h3 : -(2 ^ 62) ≤ hi) (h4 : hi < 2 ^ 62)
    (q : R (Itr lo (hi - lo).toNat) H) : wpAny (model X.prog X.w) X.A (pyIter (.ref s.heap.objs.size)) (PIE X pins σ tg R) E { s with heap := s.heap.push { cls := .type "range", data := .fields #[.int lo t, .int hi u, .int 1 v] }, toks := tk } := by
  refine wpAny_pyIter_range (IsRange.new ..) (small_one h1 h2 h3 h4) ?_
  have I1 : Inv X pins σ H { s with heap := s.heap.push { cls := .type "range", data := .fields #[.int lo t, .int hi u, .int 1 v] }, toks := tk } := I.kept fun b o e => Heap.get?_push_of_some _ e
  refine ⟨(s.heap.push { cls := .type "range", data := .fields #[.int lo t, .int hi u, .int 1 v] }).objs.size, [(s.heap.push { cls := .type "range", data := .fields #[.int lo t, .int hi u, .int 1 v] }).objs.size], _, _, H, rfl,
    I1.kept (t' := tk) fun b o e => Heap.get?_push_of_some _ e, turn_range _ lo (hi - lo).toNat, ?_, fun b hb => ?_, q⟩
  · have e1 : lo + ((0 : Nat) : Int) * 1 = lo := by simp
    have e2 : (((hi - lo).toNat : Nat) : Int) - ((0 : Nat) : Int) = Builtin.Range.rangeSize lo hi 1 := by rw [rangeSize_one]; split <;> omega
    show IsRangeIter _ _ (lo + ((0 : Nat) : Int) * 1) ((((hi - lo).toNat : Nat) : Int) - ((0 : Nat) : Int)) 1
    rw [e1, e2]
    exact Heap.get?_push_size _ rfl
  · have e : b = (s.heap.push { cls := .type "range", data := .fields #[.int lo t, .int hi u, .int 1 v] }).objs.size := by simpa using hb
    subst e
    exact I1.fpOk (Nat.le_refl _) (I1.hok.fresh (Nat.le_refl _))
inductive IiRng1 (R : (It → Hp → Prop)) (vs : List V) (H1 : Hp) : Prop
  | mk (j : Int) : vs = [.int j] → -(2 ^ 62) ≤ j → j < 2 ^ 62 → R (Itr 0 j.toNat) H1 → IiRng1 R vs H1
def iRng1 (ta : TA) : TI := fun σ H R => ta σ H fun vs H1 => IiRng1 R vs H1
theorem pi_range1 {a : Expr} {ta : TA} {p pos : Pos} (hg : Gl X "range") (hm : X.mg "range" = none) (ha : PA X [a] ta) (hs : starEach [a] X.env = [(false, eval a X.env)] := by rfl) : PI X tg (.Call (.Name "range" p) [a] [] pos) (iRng1 ta) := by
  intro pins s σ H R I h
  refine Call_ (ld_blt I hg hm boot_range (PyProof.Rows.callWith_type1 (thn (ha pos pins s σ H _ I h) fun us s1 ⟨vs, H1, I1, r1, q1⟩ => ?_) hs rfl))
  obtain ⟨j, e, q1, q2, q⟩ := q1
  subst e
  cases r1 with
  | cons r rr =>
    cases rr
    obtain ⟨t, rfl⟩ := r
    exact call_range_1 (range_it I1 (by omega) (by omega) q1 q2 (by simpa using q))
/-- W: the invariant by the turn and a measure; N: what the body is to reach -/
def tFor (wi : TI) (g : TG) (tb : TS) : TS := fun D σ H => wi σ H fun J H1 => ∃ W : Nat → Nat → St → Hp → Prop, (∃ m, W 0 m σ H1) ∧ ∀ i m σ H, W i m σ H →
  (J.stop i H ∧ D.nx σ H) ∨ (J.go i H ∧ ∃ N : St → Hp → Prop, (∀ σ' H', N σ' H' → ∃ m', m' < m ∧ W (i + 1) m' σ' H') ∧ ∀ x H', J.yld i H x H' → g x σ H' fun σ2 H2 => tb { D with nx := N, ct := N, bk := D.nx } σ2 H2)
/-- the records at fp as they stand -/
def pinsAt (fp : List Addr) (h : Heap) : List (Addr × Obj) := fp.filterMap fun b => (h.get? b).map fun o => (b, o)
theorem mem_pinsAt {fp : List Addr} {h : Heap} {b : Addr} {o : Obj} (hb : b ∈ fp) (e : h.get? b = some o) : (b, o) ∈ pinsAt fp h := List.mem_filterMap.mpr ⟨b, hb, by rw [e]; rfl⟩
theorem of_pinsAt {fp : List Addr} {h : Heap} {p : Addr × Obj} (hp : p ∈ pinsAt fp h) : p.1 ∈ fp ∧ h.get? p.1 = some p.2 := by
  obtain ⟨b, hb, e⟩ := List.mem_filterMap.mp hp
  cases q : h.get? b with
  | none => rw [q] at e; cases e
  | some o =>
    rw [q] at e
    have e' : (b, o) = p := Option.some.inj e
    subst e'
    exact ⟨hb, q⟩
theorem Inv.pinned {pins : List (Addr × Obj)} {σ : St} {H : Hp} {s : Shared} {fp : List Addr} (I : Inv X pins σ H s) (hf : ∀ b ∈ fp, FpOk X pins H b) (ho : ∀ b ∈ fp, ∃ o, s.heap.get? b = some o ∧ ∀ v, o.data ≠ .cell v) : Inv X (pins ++ pinsAt fp s.heap) σ H s :=
  I.pins_of fun p hp => (List.mem_append.mp hp).elim (fun z => I.pin p (List.mem_append_right _ z)) fun z => by
    obtain ⟨hb, e⟩ := of_pinsAt z
    obtain ⟨f0, f1, f2, _⟩ := hf p.1 hb
    obtain ⟨o, e', d⟩ := ho p.1 hb
    rw [e] at e'; cases e'
    exact ⟨e, f0, f1, f2, d⟩
theorem Inv.unpinned {pins pl : List (Addr × Obj)} {σ : St} {H : Hp} {s : Shared} (I : Inv X (pins ++ pl) σ H s) : Inv X pins σ H s := I.pins_of fun p hp => I.pin p (List.mem_append_right _ (List.mem_append_left _ hp))
theorem ps_for {iter : Expr} {body : List Stmt} {wi : TI} {g : TG} {tb : TS} {pos : Pos} (hp : PassesOwn (model X.prog X.w) X.A X.env X.xe) (hc : X.calm = true) (hi : PI X tg iter wi) (hg : PG X tg g) (hb : PSs X body tb)
    (hs : ∀ x, foldedSetIterable iter X.env x = pure x := by intro _; rfl) : PS X (.For tg iter body [] pos) (tFor wi g tb) := by
  intro pins s σ H D I h
  refine wpAny_For (thn (hi pins s σ H _ I h) fun v s1 h1 => thn h1 fun itv s2 h2 => ?_) hs
  obtain ⟨it, fp, tn, J, H2, e, I2, T, st2, f2, W, ⟨m0, w0⟩, turn⟩ := h2
  subst e
  -- what stays true of the iterator's objects through the loop
  have stat : ∀ {H' : Hp}, (∀ b ∈ fp, H' b = none) → ∀ b ∈ fp, FpOk X pins H' b := fun hn b hb => ⟨hn b hb, (f2 b hb).2⟩
  refine codeAny_forLoop_any (fun n s' => ∃ i σ' H', Inv X pins σ' H' s' ∧ tn i s'.heap ∧ (∀ b ∈ fp, H' b = none) ∧ W i n σ' H') ?_ m0 ⟨0, σ, H2, I2, st2, fun b hb => (f2 b hb).1, w0⟩
  rintro n s3 ⟨i, σ3, H3, I3, st3, fr3, w3⟩
  rcases turn i n σ3 H3 w3 with ⟨stop, qn⟩ | ⟨go, N, hN, step⟩
  · refine wpAny_passesOwn hp (thn (T.done X rfl rfl rfl hc i pins s3 σ3 H3 X.xe I3 (stat fr3) st3 stop) fun r s4 ⟨hr, I4⟩ => ?_)
    subst hr
    exact wpAny_execs_nil ⟨σ3, H3, I4, qn⟩
  · refine wpAny_passesOwn hp (thn (T.item X rfl rfl rfl hc i pins s3 σ3 H3 X.xe I3 (stat fr3) st3 go) fun r s4 ⟨u, hr, h4⟩ => ?_)
    subst hr
    refine wpAny_passesOwn hp (thn h4 fun _ s5 ⟨x, H5, I5, r5, y5, st5, fr5⟩ => ?_)
    have I5' := I5.pinned (stat fr5) (T.obj _ _ st5)
    refine wpAny_passesOwn hp (thn (hg _ s5 σ3 H5 x u _ I5' r5 (step x H5 y5)) fun _ s6 ⟨σ6, H6, I6, q6⟩ => ?_)
    refine wpAny_passesOwn hp (thn (hb _ s6 σ6 H6 _ I6 q6) fun f s7 q7 => ?_)
    have again : ∀ {σ7 : St} {H7 : Hp}, Inv X (pins ++ pinsAt fp s5.heap) σ7 H7 s7 → N σ7 H7 → ∃ m, m < n ∧ ∃ i σ' H', Inv X pins σ' H' s7 ∧ tn i s7.heap ∧ (∀ b ∈ fp, H' b = none) ∧ W i m σ' H' := fun {σ7 H7} I7 n7 => by
      obtain ⟨m', hm, w7⟩ := hN σ7 H7 n7
      refine ⟨m', hm, i + 1, σ7, H7, I7.unpinned, T.keep _ _ _ st5 fun b hb o e => (I7.pin (b, o) (List.mem_append_right _ (List.mem_append_right _ (mem_pinsAt hb e)))).1, fun b hb => ?_, w7⟩
      obtain ⟨o, e, d⟩ := T.obj _ _ st5 b hb
      exact (I7.pin (b, o) (List.mem_append_right _ (List.mem_append_right _ (mem_pinsAt hb e)))).2.1
    cases f with
    | next => obtain ⟨σ7, H7, I7, n7⟩ := q7; exact again I7 n7
    | cont => obtain ⟨σ7, H7, I7, n7⟩ := q7; exact again I7 n7
    | brk => obtain ⟨σ7, H7, I7, q7⟩ := q7; exact ⟨σ7, H7, I7.unpinned, q7⟩
    | ret v => obtain ⟨x7, σ7, H7, I7, r7, q7⟩ := q7; exact ⟨x7, σ7, H7, I7.unpinned, r7, q7⟩
end

/-- over a list that the body leaves as it is -/
theorem for_list {K : PySem.W.Frag} {a : Addr} {xs : List V} {g : TG} {tb : TS} {D : Ends} {σ : St} {H : Hp} (Pv : Nat → St → Hp → Prop) (h0 : Pv 0 σ H) (hl : ∀ i σ H, i ≤ xs.length → Pv i σ H → SqL K H a xs)
    (hs : ∀ i x σ H, xs[i]? = some x → Pv i σ H → g x σ H fun σ2 H2 => tb { D with nx := Pv (i + 1), ct := Pv (i + 1), bk := D.nx } σ2 H2) (hd : ∀ σ H, Pv xs.length σ H → D.nx σ H) :
    ∃ W : Nat → Nat → St → Hp → Prop, (∃ m, W 0 m σ H) ∧ ∀ i m σ H, W i m σ H →
      ((Itl K a).stop i H ∧ D.nx σ H) ∨ ((Itl K a).go i H ∧ ∃ N : St → Hp → Prop, (∀ σ' H', N σ' H' → ∃ m', m' < m ∧ W (i + 1) m' σ' H') ∧ ∀ x H', (Itl K a).yld i H x H' → g x σ H' fun σ2 H2 => tb { D with nx := N, ct := N, bk := D.nx } σ2 H2) := by
  refine ⟨fun i m σ H => m = xs.length - i ∧ i ≤ xs.length ∧ Pv i σ H, ⟨xs.length, by simp, Nat.zero_le _, h0⟩, ?_⟩
  rintro i m σ H ⟨rfl, hi, p⟩
  have q := hl i σ H hi p
  by_cases hlt : i < xs.length
  · refine .inr ⟨⟨xs, xs[i], q, by simp [hlt]⟩, Pv (i + 1), fun σ' H' p' => ⟨xs.length - (i + 1), by omega, rfl, hlt, p'⟩, fun x H' y => ?_⟩
    obtain ⟨e, y⟩ := y
    subst e
    exact hs i x σ _ (y xs q) p
  · have e : i = xs.length := by omega
    subst e
    exact .inl ⟨⟨xs, q, Nat.le_refl _⟩, hd σ H p⟩
theorem for_tup {K : PySem.W.Frag} {a : Addr} {xs : List V} {g : TG} {tb : TS} {D : Ends} {σ : St} {H : Hp} (Pv : Nat → St → Hp → Prop) (h0 : Pv 0 σ H) (hl : ∀ i σ H, i ≤ xs.length → Pv i σ H → SqT K H a xs)
    (hs : ∀ i x σ H, xs[i]? = some x → Pv i σ H → g x σ H fun σ2 H2 => tb { D with nx := Pv (i + 1), ct := Pv (i + 1), bk := D.nx } σ2 H2) (hd : ∀ σ H, Pv xs.length σ H → D.nx σ H) :
    ∃ W : Nat → Nat → St → Hp → Prop, (∃ m, W 0 m σ H) ∧ ∀ i m σ H, W i m σ H →
      ((Itt K a).stop i H ∧ D.nx σ H) ∨ ((Itt K a).go i H ∧ ∃ N : St → Hp → Prop, (∀ σ' H', N σ' H' → ∃ m', m' < m ∧ W (i + 1) m' σ' H') ∧ ∀ x H', (Itt K a).yld i H x H' → g x σ H' fun σ2 H2 => tb { D with nx := N, ct := N, bk := D.nx } σ2 H2) := by
  refine ⟨fun i m σ H => m = xs.length - i ∧ i ≤ xs.length ∧ Pv i σ H, ⟨xs.length, by simp, Nat.zero_le _, h0⟩, ?_⟩
  rintro i m σ H ⟨rfl, hi, p⟩
  have q := hl i σ H hi p
  by_cases hlt : i < xs.length
  · refine .inr ⟨⟨xs, xs[i], q, by simp [hlt]⟩, Pv (i + 1), fun σ' H' p' => ⟨xs.length - (i + 1), by omega, rfl, hlt, p'⟩, fun x H' y => ?_⟩
    obtain ⟨e, y⟩ := y
    subst e
    exact hs i x σ _ (y xs q) p
  · have e : i = xs.length := by omega
    subst e
    exact .inl ⟨⟨xs, q, Nat.le_refl _⟩, hd σ H p⟩
theorem for_range {lo : Int} {n : Nat} {g : TG} {tb : TS} {D : Ends} {σ : St} {H : Hp} (Pv : Nat → St → Hp → Prop) (h0 : Pv 0 σ H)
    (hs : ∀ i σ H, i < n → Pv i σ H → g (.int (lo + i)) σ H fun σ2 H2 => tb { D with nx := Pv (i + 1), ct := Pv (i + 1), bk := D.nx } σ2 H2) (hd : ∀ σ H, Pv n σ H → D.nx σ H) :
    ∃ W : Nat → Nat → St → Hp → Prop, (∃ m, W 0 m σ H) ∧ ∀ i m σ H, W i m σ H →
      ((Itr lo n).stop i H ∧ D.nx σ H) ∨ ((Itr lo n).go i H ∧ ∃ N : St → Hp → Prop, (∀ σ' H', N σ' H' → ∃ m', m' < m ∧ W (i + 1) m' σ' H') ∧ ∀ x H', (Itr lo n).yld i H x H' → g x σ H' fun σ2 H2 => tb { D with nx := N, ct := N, bk := D.nx } σ2 H2) := by
  refine ⟨fun i m σ H => m = n - i ∧ i ≤ n ∧ Pv i σ H, ⟨n, by simp, Nat.zero_le _, h0⟩, ?_⟩
  rintro i m σ H ⟨rfl, hi, p⟩
  by_cases hlt : i < n
  · refine .inr ⟨hlt, Pv (i + 1), fun σ' H' p' => ⟨n - (i + 1), by omega, rfl, hlt, p'⟩, fun x H' y => ?_⟩
    obtain ⟨e, y⟩ := y
    subst e y
    exact hs i σ _ hlt p
  · have e : i = n := by omega
    subst e
    exact .inl ⟨Nat.le_refl _, hd σ H p⟩
end L2

namespace L2
open PySem PySem.Spec PyProof.Rows

abbrev R2 := V → V → Hp → VK → Prop
/-- a two-place operation on values: f is binaryOp op, inplaceOp op or compareOp op -/
def OpR (X : Cx) (f : Value → Value → Sem Value) (r : R2) : Prop :=
  ∀ (pins : List (Addr × Obj)) (s : Shared) (σ : St) (H : Hp) (x y : V) (v u : Value) (Q : VK), Inv X pins σ H s → RelV x v → RelV y u → r x y H Q →
    wpAny (model X.prog X.w) X.A (f v u) (EP X pins σ Q) X.xe s
/-- a one-place operation -/
def UnR (X : Cx) (f : Value → Sem Value) (r : V → Hp → VK → Prop) : Prop :=
  ∀ (pins : List (Addr × Obj)) (s : Shared) (σ : St) (H : Hp) (x : V) (v : Value) (Q : VK), Inv X pins σ H s → RelV x v → r x H Q →
    wpAny (model X.prog X.w) X.A (f v) (EP X pins σ Q) X.xe s
/-- a call of a value that is known (a builtin, a type) with values -/
def CallR (X : Cx) (f : Value) (r : List V → Hp → VK → Prop) : Prop :=
  ∀ (pins : List (Addr × Obj)) (s : Shared) (σ : St) (H : Hp) (xs : List V) (us : List Value) (Q : VK), Inv X pins σ H s → Vals xs us → r xs H Q →
    wpAny (model X.prog X.w) X.A (call f us) (EP X pins σ Q) X.xe s
def tOp (r : R2) (ta tb : TE) : TE := fun σ H Q => ta σ H fun x H1 => tb σ H1 fun y H2 => r x y H2 Q
def tUn (r : V → Hp → VK → Prop) (ta : TE) : TE := fun σ H Q => ta σ H fun x H1 => r x H1 Q
/-- ints in, under C, and a value out -/
inductive rI (C : Int → Int → Prop) (g : Int → Int → V) (x : V) (y : V) (H : Hp) (Q : VK) : Prop
  | mk i j : x = .int i → y = .int j → C i j → Q (g i j) H → rI C g x y H Q
inductive rI0 (g : Int → Int → V) (x : V) (y : V) (H : Hp) (Q : VK) : Prop
  | mk i j : x = .int i → y = .int j → Q (g i j) H → rI0 g x y H Q
inductive rU (g : Int → V) (x : V) (H : Hp) (Q : VK) : Prop
  | mk i : x = .int i → Q (g i) H → rU g x H Q

section
variable {X : Cx} {a b c : Expr} {ta tb tc : TE} {pos : Pos}

theorem binT (ha : PE X a ta) (hb : PE X b tb) {pins : List (Addr × Obj)} {s : Shared} {σ : St} {H : Hp} {R : V → V → Hp → Prop} (I : Inv X pins σ H s)
    (h : ta σ H fun x H1 => tb σ H1 fun y H2 => R x y H2) {Q : Value → Shared → Prop} {f : Value → Value → Sem Value}
    (hf : ∀ v u s2 x y H2, Inv X pins σ H2 s2 → RelV x v → RelV y u → R x y H2 → wpAny (model X.prog X.w) X.A (f v u) Q X.xe s2) :
    wpAny (model X.prog X.w) X.A (eval a X.env) (fun v s₁ => wpAny (model X.prog X.w) X.A (eval b X.env) (fun u s₂ => wpAny (model X.prog X.w) X.A (f v u) Q X.xe s₂) X.xe s₁) X.xe s := by
  refine thn (ha pins s σ H _ I h) fun v s1 ⟨x, H1, I1, r1, q1⟩ => ?_
  refine thn (hb pins s1 σ H1 _ I1 q1) fun u s2 ⟨y, H2, I2, r2, q2⟩ => ?_
  exact hf v u s2 x y H2 I2 r1 r2 q2

theorem pe_op {op : Operator} {r : R2} (ho : OpR X (binaryOp op) r) (ha : PE X a ta) (hb : PE X b tb) : PE X (.BinOp a op b pos) (tOp r ta tb) := by
  intro pins s σ H Q I h
  exact wpAny_BinOp (binT ha hb I h fun v u s2 x y H2 I2 rx ry q => ho pins s2 σ H2 x y v u Q I2 rx ry q)
theorem pe_un {op : UnaryOp} {r : V → Hp → VK → Prop} (ho : UnR X (unaryOp op) r) (ha : PE X a ta) : PE X (.UnaryOp op a pos) (tUn r ta) := by
  intro pins s σ H Q I h
  exact UnaryOp_ (thn (ha pins s σ H _ I h) fun v s1 ⟨x, H1, I1, r1, q1⟩ => ho pins s1 σ H1 x v Q I1 r1 q1)
theorem opI {f : Value → Value → Sem Value} {C : Int → Int → Prop} {g : Int → Int → Int}
    (rule : ∀ (i j : Int) (t u : Tok) (s : Shared) (Q : Value → Shared → Prop) (E : Value → Shared → Prop), C i j → Q (.int (g i j) s.toks) { s with toks := s.toks + 1 } → wpAny (model X.prog X.w) X.A (f (.int i t) (.int j u)) Q E s) :
    OpR X f (rI C fun i j => .int (g i j)) := by
  intro pins s σ H x y v u Q I rx ry h
  obtain ⟨i, j, rfl, rfl, hc, q⟩ := h
  obtain ⟨t, rfl⟩ := rx
  obtain ⟨t', rfl⟩ := ry
  exact rule i j t t' s _ _ hc ⟨.int (g i j), H, I.tok _, ⟨_, rfl⟩, q⟩
theorem opI0 {f : Value → Value → Sem Value} {g : Int → Int → Int}
    (rule : ∀ (i j : Int) (t u : Tok) (s : Shared) (Q : Value → Shared → Prop) (E : Value → Shared → Prop), Q (.int (g i j) s.toks) { s with toks := s.toks + 1 } → wpAny (model X.prog X.w) X.A (f (.int i t) (.int j u)) Q E s) :
    OpR X f (rI0 fun i j => .int (g i j)) := by
  intro pins s σ H x y v u Q I rx ry h
  obtain ⟨i, j, rfl, rfl, q⟩ := h
  obtain ⟨t, rfl⟩ := rx
  obtain ⟨t', rfl⟩ := ry
  exact rule i j t t' s _ _ ⟨.int (g i j), H, I.tok _, ⟨_, rfl⟩, q⟩
theorem opB0 {f : Value → Value → Sem Value} {g : Int → Int → Bool}
    (rule : ∀ (i j : Int) (t u : Tok) (s : Shared) (Q : Value → Shared → Prop) (E : Value → Shared → Prop), Q (.bool (g i j)) s → wpAny (model X.prog X.w) X.A (f (.int i t) (.int j u)) Q E s) :
    OpR X f (rI0 fun i j => .bl (g i j)) := by
  intro pins s σ H x y v u Q I rx ry h
  obtain ⟨i, j, rfl, rfl, q⟩ := h
  obtain ⟨t, rfl⟩ := rx
  obtain ⟨t', rfl⟩ := ry
  exact rule i j t t' s _ _ ⟨.bl (g i j), H, I, rfl, q⟩

def CPow (i j : Int) : Prop := 0 ≤ j ∧ j ≤ 1000000 ∧ i.natAbs < 2 ^ 64
def CMul (i j : Int) : Prop := (-(2 ^ 64) < i ∧ i < 2 ^ 64) ∨ (-(2 ^ 64) < j ∧ j < 2 ^ 64)
theorem CMul.ok {i j : Int} (h : CMul i j) : IntMulOk i j := by
  rcases h with ⟨h1, h2⟩ | ⟨h1, h2⟩
  · exact .of_left (intBits_le_64 h1 h2)
  · exact .of_right (intBits_le_64 h1 h2)
theorem two_pow_nn (k : Nat) : (0 : Int) ≤ 2 ^ k := by
  rw [two_pow_cast]
  exact Int.natCast_nonneg _

theorem op_add : OpR X (binaryOp .Add) (rI0 fun i j => .int (i + j)) := opI0 fun _ _ _ _ _ _ _ q => add_int q
theorem op_sub : OpR X (binaryOp .Sub) (rI0 fun i j => .int (i - j)) := opI0 fun _ _ _ _ _ _ _ q => sub_int q
theorem op_mul : OpR X (binaryOp .Mult) (rI CMul fun i j => .int (i * j)) := opI fun _ _ _ _ _ _ _ hc q => mul_int q hc.ok
/-- % by a positive divisor of any size -/
theorem op_mod : OpR X (binaryOp .Mod) (rI (fun _ j => 0 < j) fun i j => .int (i % j)) := opI fun i j _ _ _ _ _ hc q => by
  have h1 : (0 : Int) < j := hc
  exact mod_int' (by omega) (by rw [Int.fmod_eq_emod_of_nonneg i (by omega)]; exact q)
theorem op_shl : OpR X (binaryOp .LShift) (rI CPow fun i j => .int (i * 2 ^ j.toNat)) := opI fun _ _ _ _ _ _ _ hc q => lshift_int_small hc.1 hc.2.1 hc.2.2 q
theorem op_shr : OpR X (binaryOp .RShift) (rI (fun _ j => 0 ≤ j) fun i j => .int (i / 2 ^ j.toNat)) := opI fun i j _ _ _ _ _ hc q =>
  rshift_int hc (by rw [Int.fdiv_eq_ediv_of_nonneg i (two_pow_nn _)]; exact q)
theorem op_and : OpR X (binaryOp .BitAnd) (rI0 fun i j => .int (Builtin.bitAnd i j)) := opI0 fun _ _ _ _ _ _ _ q => and_int q
theorem op_or : OpR X (binaryOp .BitOr) (rI0 fun i j => .int (Builtin.bitOr i j)) := opI0 fun _ _ _ _ _ _ _ q => or_int q
theorem op_xor : OpR X (binaryOp .BitXor) (rI0 fun i j => .int (Builtin.bitXor i j)) := opI0 fun _ _ _ _ _ _ _ q => xor_int q

theorem unI {f : Value → Sem Value} {g : Int → Int}
    (rule : ∀ (i : Int) (t : Tok) (s : Shared) (Q : Value → Shared → Prop) (E : Value → Shared → Prop), Q (.int (g i) s.toks) { s with toks := s.toks + 1 } → wpAny (model X.prog X.w) X.A (f (.int i t)) Q E s) :
    UnR X f (rU fun i => .int (g i)) := by
  intro pins s σ H x v Q I rx h
  obtain ⟨i, rfl, q⟩ := h
  obtain ⟨t, rfl⟩ := rx
  exact rule i t s _ _ ⟨.int (g i), H, I.tok _, ⟨_, rfl⟩, q⟩
theorem un_neg : UnR X (unaryOp .USub) (rU fun i => .int (-i)) := unI fun _ _ _ _ _ q => neg_int q
end

/-- the scalars that == tells apart as data does -/
def scal : V → V → Bool
  | .non, .non => true | .non, .int _ => true | .int _, .non => true | .non, .bl _ => true | .bl _, .non => true | .non, .str _ => true | .str _, .non => true
  | .int _, .int _ => true | .bl _, .bl _ => true | .str _, .str _ => true | .byt _, .byt _ => true
  | .int _, .str _ => true | .str _, .int _ => true | .bl _, .str _ => true | .str _, .bl _ => true
  | _, _ => false
def rEq : R2 := fun x y H Q => scal x y = true ∧ Q (.bl (decide (x = y))) H
def rNe : R2 := fun x y H Q => scal x y = true ∧ Q (.bl (!decide (x = y))) H

theorem dec_int {i j : Int} : decide (V.int i = V.int j) = (i == j) := by
  rw [Bool.eq_iff_iff]
  simp
theorem dec_bl {i j : Bool} : decide (V.bl i = V.bl j) = (i == j) := by
  rw [Bool.eq_iff_iff]
  simp
theorem dec_str {i j : Str} : decide (V.str i = V.str j) = (i == j) := by
  rw [Bool.eq_iff_iff]
  simp
theorem dec_byt {i j : Array UInt8} : decide (V.byt i = V.byt j) = (i.toList == j.toList) := by
  rw [Bool.eq_iff_iff]
  cases i
  cases j
  simp

section
variable {X : Cx} {a b c : Expr} {ta tb tc : TE} {pos : Pos}
theorem fin_bl {pins : List (Addr × Obj)} {σ : St} {H : Hp} {s : Shared} {Q : VK} {k k' : Bool} (I : Inv X pins σ H s) (q : Q (.bl k) H) (e : k = k') : EP X pins σ Q (.bool k') s := by
  subst e
  exact ⟨.bl k, H, I, rfl, q⟩
theorem op_eq : OpR X (compareOp .Eq) rEq := by
  intro pins s σ H x y v u Q I rx ry h
  obtain ⟨hs, q⟩ := h
  cases x with
  | non =>
    cases rx
    cases y with
    | non => cases ry; exact PySem.EqNone.eq_none_none (fin_bl I q (by simp))
    | bl j => cases ry; exact PySem.EqNone.eq_none_bool (fin_bl I q (by simp))
    | int j => obtain ⟨t', rfl⟩ := ry; exact PySem.EqNone.eq_none_int (fin_bl I q (by simp))
    | str j => obtain ⟨t', rfl⟩ := ry; exact PySem.EqNone.eq_none_str (fin_bl I q (by simp))
    | _ => exact absurd (show false = true from hs) Bool.false_ne_true
  | bl i =>
    cases rx
    cases y with
    | non => cases ry; exact PySem.EqNone.eq_bool_none (fin_bl I q (by simp))
    | bl j => cases ry; exact eq_bool (fin_bl I q dec_bl)
    | str j => obtain ⟨t', rfl⟩ := ry; exact PySem.EqMixed.eq_bool_str (fin_bl I q (by simp))
    | _ => exact absurd (show false = true from hs) Bool.false_ne_true
  | int i =>
    obtain ⟨t, rfl⟩ := rx
    cases y with
    | non => cases ry; exact PySem.EqNone.eq_int_none (fin_bl I q (by simp))
    | int j => obtain ⟨t', rfl⟩ := ry; exact eq_int (fin_bl I q dec_int)
    | str j => obtain ⟨t', rfl⟩ := ry; exact PySem.EqMixed.eq_int_str (fin_bl I q (by simp))
    | _ => exact absurd (show false = true from hs) Bool.false_ne_true
  | str i =>
    obtain ⟨t, rfl⟩ := rx
    cases y with
    | non => cases ry; exact PySem.EqNone.eq_str_none (fin_bl I q (by simp))
    | bl j => cases ry; exact PySem.EqMixed.eq_str_bool (fin_bl I q (by simp))
    | int j => obtain ⟨t', rfl⟩ := ry; exact PySem.EqMixed.eq_str_int (fin_bl I q (by simp))
    | str j => obtain ⟨t', rfl⟩ := ry; exact eq_str (fin_bl I q dec_str)
    | _ => exact absurd (show false = true from hs) Bool.false_ne_true
  | byt i =>
    obtain ⟨t, rfl⟩ := rx
    cases y with
    | byt j => obtain ⟨t', rfl⟩ := ry; exact PySem.W.eq_bytes (fin_bl I q dec_byt)
    | _ => exact absurd (show false = true from hs) Bool.false_ne_true
  | _ => cases y <;> exact absurd (show false = true from hs) Bool.false_ne_true
theorem op_ne : OpR X (compareOp .NotEq) rNe := by
  intro pins s σ H x y v u Q I rx ry h
  obtain ⟨hs, q⟩ := h
  cases x with
  | non =>
    cases rx
    cases y with
    | non => cases ry; exact PySem.EqNone.ne_none_none (fin_bl I q (by simp))
    | bl j => cases ry; exact PySem.EqNone.ne_none_bool (fin_bl I q (by simp))
    | int j => obtain ⟨t', rfl⟩ := ry; exact PySem.EqNone.ne_none_int (fin_bl I q (by simp))
    | str j => obtain ⟨t', rfl⟩ := ry; exact PySem.EqNone.ne_none_str (fin_bl I q (by simp))
    | _ => exact absurd (show false = true from hs) Bool.false_ne_true
  | bl i =>
    cases rx
    cases y with
    | non => cases ry; exact PySem.EqNone.ne_bool_none (fin_bl I q (by simp))
    | bl j => cases ry; exact ne_bool (fin_bl I q (congrArg not dec_bl))
    | str j => obtain ⟨t', rfl⟩ := ry; exact PySem.EqMixed.ne_bool_str (fin_bl I q (by simp))
    | _ => exact absurd (show false = true from hs) Bool.false_ne_true
  | int i =>
    obtain ⟨t, rfl⟩ := rx
    cases y with
    | non => cases ry; exact PySem.EqNone.ne_int_none (fin_bl I q (by simp))
    | int j => obtain ⟨t', rfl⟩ := ry; exact ne_int (fin_bl I q (congrArg not dec_int))
    | str j => obtain ⟨t', rfl⟩ := ry; exact PySem.EqMixed.ne_int_str (fin_bl I q (by simp))
    | _ => exact absurd (show false = true from hs) Bool.false_ne_true
  | str i =>
    obtain ⟨t, rfl⟩ := rx
    cases y with
    | non => cases ry; exact PySem.EqNone.ne_str_none (fin_bl I q (by simp))
    | bl j => cases ry; exact PySem.EqMixed.ne_str_bool (fin_bl I q (by simp))
    | int j => obtain ⟨t', rfl⟩ := ry; exact PySem.EqMixed.ne_str_int (fin_bl I q (by simp))
    | str j => obtain ⟨t', rfl⟩ := ry; exact ne_str (fin_bl I q (congrArg not dec_str))
    | _ => exact absurd (show false = true from hs) Bool.false_ne_true
  | byt i =>
    obtain ⟨t, rfl⟩ := rx
    cases y with
    | byt j => obtain ⟨t', rfl⟩ := ry; exact PySem.W.ne_bytes (fin_bl I q (congrArg not dec_byt))
    | _ => exact absurd (show false = true from hs) Bool.false_ne_true
  | _ => cases y <;> exact absurd (show false = true from hs) Bool.false_ne_true

theorem op_lt : OpR X (compareOp .Lt) (rI0 fun i j => .bl (decide (i < j))) := opB0 fun _ _ _ _ _ _ _ q => lt_int q
theorem op_le : OpR X (compareOp .LtE) (rI0 fun i j => .bl (decide (i ≤ j))) := opB0 fun _ _ _ _ _ _ _ q => le_int q
theorem op_gt : OpR X (compareOp .Gt) (rI0 fun i j => .bl (decide (j < i))) := opB0 fun _ _ _ _ _ _ _ q => gt_int q
theorem op_ge : OpR X (compareOp .GtE) (rI0 fun i j => .bl (decide (j ≤ i))) := opB0 fun _ _ _ _ _ _ _ q => ge_int q
theorem nomark (b : Expr) {op : CmpOp} (h : op ≠ .In := by decide) (h2 : op ≠ .NotIn := by decide) : behindInMarks op b = false := by
  have e1 : (op == CmpOp.In) = false := by cases op <;> first | rfl | exact absurd rfl h
  have e2 : (op == CmpOp.NotIn) = false := by cases op <;> first | rfl | exact absurd rfl h2
  cases b <;> simp [behindInMarks, e1, e2]
/-- a comparison as a value; hm: nomark b, or (for in, not in) by with_unfolding_all rfl -/
theorem pe_cmpR {op : CmpOp} {r : R2} (ho : OpR X (compareOp op) r) (ha : PE X a ta) (hb : PE X b tb) (hm : behindInMarks op b = false) : PE X (.Compare a [op] [b] pos) (tOp r ta tb) := by
  intro pins s σ H Q I h
  exact wpAny_Compare1 (binT ha hb I h fun v u s2 x y H2 I2 rx ry q => ho pins s2 σ H2 x y v u Q I2 rx ry q) hm
/-- a reading of a value as a test -/
inductive ItTest (Q : (Bool → Hp → Prop)) (x : V) (H' : Hp) : Prop
  | mk k : x = .bl k → Q k H' → ItTest Q x H'
def tTest (t : TE) : TT := fun σ H Q => t σ H fun x H' => ItTest Q x H'
theorem pt_cmpR {op : CmpOp} {r : R2} (ho : OpR X (compareOp op) r) (ha : PE X a ta) (hb : PE X b tb) (hm : behindInMarks op b = false) : PT X (.Compare a [op] [b] pos) (tTest (tOp r ta tb)) := by
  intro pins s σ H Q I h
  refine wpAny_isTrue_Compare1 (thn (ha pins s σ H _ I h) fun v s1 ⟨x, H1, I1, r1, q1⟩ => thn (hb pins s1 σ H1 _ I1 q1) fun u s2 ⟨y, H2, I2, r2, q2⟩ =>
    thn (ho pins s2 σ H2 x y v u _ I2 r1 r2 q2) fun c s3 ⟨z, H3, I3, r3, k, e, q3⟩ => ?_) hm
  subst e
  cases r3
  exact wpAny_truthy_bool ⟨H3, I3, q3⟩
/-- a op1 b op2 c -/
inductive ItChain (r' : R2) (tc : TE) (σ : St) (Q : VK) (y : V) (z : V) (H3 : Hp) : Prop
  | mk k : z = .bl k → ((if k = true then tc σ H3 fun w' H4 => r' y w' H4 Q else Q (.bl false) H3)) → ItChain r' tc σ Q y z H3
def tChain (r r' : R2) (ta tb tc : TE) : TE := fun σ H Q => ta σ H fun x H1 => tb σ H1 fun y H2 => r x y H2 fun z H3 => ItChain r' tc σ Q y z H3
theorem pe_chain {op op' : CmpOp} {r r' : R2} (ho : OpR X (compareOp op) r) (ho' : OpR X (compareOp op') r') (ha : PE X a ta) (hb : PE X b tb) (hc : PE X c tc)
    (hm : lastMarks [op, op'] [b, c] = false := by with_unfolding_all rfl) : PE X (.Compare a [op, op'] [b, c] pos) (tChain r r' ta tb tc) := by
  intro pins s σ H Q I h
  refine Compare_chain (thn (ha pins s σ H _ I h) fun v s1 ⟨x, H1, I1, r1, q1⟩ => chain_link (thn (hb pins s1 σ H1 _ I1 q1) fun u s2 ⟨y, H2, I2, r2, q2⟩ =>
    thn (ho pins s2 σ H2 x y v u _ I2 r1 r2 q2) fun d s3 ⟨z, H3, I3, r3, k, e, q3⟩ => ?_)) hm
  subst e
  cases r3
  refine wpAny_truthy_bool ?_
  cases k with
  | false => exact ite_ff ⟨.bl false, H3, I3, rfl, q3⟩
  | true => exact ite_tt (chain_last (thn (hc pins s3 σ H3 _ I3 q3) fun w' s4 ⟨z', H4, I4, r4, q4⟩ => ho' pins s4 σ H4 y z' u w' Q I4 r2 r4 q4))
theorem pt_chain {op op' : CmpOp} {r r' : R2} (ho : OpR X (compareOp op) r) (ho' : OpR X (compareOp op') r') (ha : PE X a ta) (hb : PE X b tb) (hc : PE X c tc)
    (hm : lastMarks [op, op'] [b, c] = false := by with_unfolding_all rfl) : PT X (.Compare a [op, op'] [b, c] pos) (tTest (tChain r r' ta tb tc)) := by
  intro pins s σ H Q I h
  refine isTrue_chain (thn (ha pins s σ H _ I h) fun v s1 ⟨x, H1, I1, r1, q1⟩ => test_link (thn (hb pins s1 σ H1 _ I1 q1) fun u s2 ⟨y, H2, I2, r2, q2⟩ =>
    thn (ho pins s2 σ H2 x y v u _ I2 r1 r2 q2) fun d s3 ⟨z, H3, I3, r3, k, e, q3⟩ => ?_)) hm
  subst e
  cases r3
  refine wpAny_truthy_bool ?_
  cases k with
  | false =>
    obtain ⟨k', e', q'⟩ := q3
    cases e'
    exact ite_ff ⟨H3, I3, q'⟩
  | true =>
    refine ite_tt (test_last (thn (hc pins s3 σ H3 _ I3 q3) fun w' s4 ⟨z', H4, I4, r4, q4⟩ => thn (ho' pins s4 σ H4 y z' u w' _ I4 r2 r4 q4) fun d' s5 ⟨z2, H5, I5, r5, k2, e2, q5⟩ => ?_))
    subst e2
    cases r5
    exact wpAny_truthy_bool ⟨H5, I5, q5⟩

theorem line63 : (sizeLine : Nat) < 2 ^ 63 := by rw [sizeLine_eq]; decide
theorem vals1 {x : V} {us : List Value} (r : Vals [x] us) : ∃ u, us = [u] ∧ RelV x u := by
  cases r with
  | cons r1 r2 => cases r2; exact ⟨_, rfl, r1⟩
theorem call_abs : CallR X (.builtin "abs") (fun xs H Q => ∃ i, xs = [.int i] ∧ Q (.int (if i < 0 then -i else i)) H) := by
  intro pins s σ H xs us Q I r h
  obtain ⟨i, rfl, q⟩ := h
  obtain ⟨u, rfl, t, rfl⟩ := vals1 r
  exact call_abs_int fun u tk => ⟨.int (if i < 0 then -i else i), H, I.tok _, ⟨_, rfl⟩, q⟩
theorem call_ord : CallR X (.builtin "ord") (fun xs H Q => ∃ x, xs = [.str x] ∧ x.length = 1 ∧ Q (.int (x.cps.getD 0 0 : Nat)) H) := by
  intro pins s σ H xs us Q I r h
  obtain ⟨x, rfl, hz, q⟩ := h
  obtain ⟨u, rfl, t, rfl⟩ := vals1 r
  exact ord_of_one hz ⟨.int _, H, I.tok _, ⟨_, rfl⟩, q⟩
end
end L2

namespace L2
open PySem PySem.Spec PyProof.Rows

structure ObjM (h : Heap) (x dx C : Addr) (mA : Str → Option Value) : Prop where
  obj : h.get? x = some (PySem.W.instObj C dx)
  ns : h.Ns1 dx mA
  ne : dx ≠ x

theorem lookIn_ns {h : Heap} {dx : Addr} {mA : Str → Option Value} (n : h.Ns1 dx mA) : ∃ od, h.get? dx = some od ∧ ∀ name, PySem.W.lookIn name od = some (mA name) := by
  obtain ⟨o, es, ep, ho, hd, hk, _, hm⟩ := n
  refine ⟨o, ho, fun name => ?_⟩
  have e := hm name
  unfold nsFind findBy at e
  rw [← Array.find?_toList] at e
  unfold PySem.W.lookIn
  rw [hd]
  dsimp only
  split
  · rename_i y q
    rw [q] at e
    exact congrArg some e
  · rename_i q
    rw [q] at e
    have a : es.toList.any (·.refKey) = false := by
      rw [List.any_eq_false]
      intro y hy
      obtain ⟨z, t, hkey⟩ := hk y (Array.mem_toList_iff.mp hy)
      simp [DictEntry.refKey, hkey]
    have a' : ¬ es.toList.any (·.refKey) = true := by rw [a]; exact Bool.false_ne_true
    rw [if_neg a']
    exact congrArg some e

theorem ObjM.look {h : Heap} {x dx C : Addr} {mA : Str → Option Value} (I : ObjM h x dx C mA) : ∃ od, PySem.W.InstAt h x (PySem.W.instObj C dx) C (some od) ∧ ∀ name, PySem.W.lookIn name od = some (mA name) :=
  let ⟨od, ho, hl⟩ := lookIn_ns I.ns
  ⟨od, ⟨I.obj, rfl, rfl, ho⟩, hl⟩

section
variable {prog : Program} {w : World} {A : Around} {E : Value → Shared → Prop} {s : Shared} {K : PySem.W.Frag} {x dx C f : Addr} {mA : Str → Option Value} {name : Str} {v : Value}

theorem get_map {expr : Bool} {Q : Value → Shared → Prop} (X : K.In s.heap) (I : ObjM s.heap x dx C mA) (hg : PySem.W.plainGet K C name = true) (hh : PySem.W.hasDictIn K C = true)
    (ha : PySem.W.findIn K (.ref C) name = some none) (hv : mA name = some v) (hv' : PySem.W.handedIn v = true) (h : Q v { s with toks := s.toks + 1 }) :
    wpAny (model prog w) A (getAttr (.ref x) name expr) Q E s := by
  obtain ⟨od, J, hl⟩ := I.look
  exact PySem.W.get_value X J (PySem.W.plainGet_of hg).1 (PySem.W.findObj_own hh ha rfl (by rw [hl, hv])) hv' h

theorem get_meth {pl : Sem Bool} {Q : Value × List Value → Shared → Prop} (X : K.In s.heap) (I : ObjM s.heap x dx C mA) (hg : PySem.W.plainGet K C name = true)
    (hf : PySem.W.findIn K (.ref C) name = some (some (.ref f))) (ht : PySem.W.isFn K (.ref f) = true) (hv : mA name = none) (h : Q (.ref f, [.ref x]) s) :
    wpAny (model prog w) A (getMethod (.ref x) name pl) Q E s := by
  obtain ⟨od, J, hl⟩ := I.look
  exact PySem.W.method_fn X J (PySem.W.plainGet_of hg).1 (PySem.W.plainGet_of hg).2 hf (beq_iff_eq.mp ht) (by show (PySem.W.lookIn name od).map (·.isSome) = some false; rw [hl, hv]; rfl) h

theorem set_map {ns : List Str} {Q : Unit → Shared → Prop} (X : K.In s.heap) (I : ObjM s.heap x dx C mA)
    (hs : PySem.W.findIn K (.ref C) "__setattr__" = some (some (.builtin "object.__setattr__"))) (hp : PySem.W.plainOver K C = true) (ht : PySem.W.takerIn K C name = some none) (hh : PySem.W.hasDictIn K C = true)
    (hw : PySem.Within mA ns) (hsz : ns.length ≤ sizeLine)
    (h : ∀ h', ObjM h' x dx C (fun y => if y = name then some v else mA y) → Heap.SameBut dx s.heap h' → Q () { s with heap := h', toks := s.toks + 2 }) :
    wpAny (model prog w) A (setAttr (.ref x) name v) Q E s := by
  obtain ⟨od, J, hl⟩ := I.look
  refine PySem.W.set_plain X J hs (PySem.W.osa_open (s := { s with toks := s.toks + 1 }) (r := none) X J hp ht fun b => ?_)
  obtain ⟨cd, hc, hd'⟩ := PySem.W.any_some hh
  have hx : s.heap.get? x = some ⟨.ref C, some dx, .plain, #[]⟩ := I.obj
  refine wpAny_bind (wpAny_pure (wpAny_bind (wpAny_bind (wpAny_loadPart hx (wpAny_bind (PySem.W.Looks.here (s := { s with toks := s.toks + 1 }) (PySem.W.looks_clsIn X hc) ?_))))))
  rw [hd']
  refine wpAny_pure (a := some dx) (wpAny_bind (wpAny_pure (wpAny_bind ?_)))
  refine wpAny_nsSet1 (s := { s with toks := s.toks + 1 }) I.ns fun h' hn2 hs2 => ?_
  obtain ⟨oD, esD, epD, hoD, hdD, hcD⟩ := hn2.count (PySem.Within.cons name v hw)
  refine wpAny_bind (wpAny_lookBehind hoD (by rw [hdD]; exact pastItsLine_dict (Nat.le_trans hcD (by rw [List.length_cons]; omega))) ?_)
  exact wpAny_pure (h _ ⟨(hs2.2 _ (Ne.symm I.ne)).trans I.obj, hn2, I.ne⟩ hs2)

/-- C(..): the dict at the heap's end, the instance behind it; then its __init__ -/
theorem make_map {R : Result → Shared → Prop} {vs : List Value} {kw : List (Str × Value)} (X : K.In s.heap) (hm : PySem.W.makesIn K C = true)
    (hi : PySem.W.findIn K (.ref C) "__init__" = some (some (.ref f))) (hf : PySem.W.typeIn K (.ref f) = some (.type "function"))
    (h : codeAny (model prog w) (A.under (.builtin "type.__call__" ⟨.ref C :: vs, kw⟩)) (.call (.ref f) ⟨.ref (s.heap.objs.size + 1) :: vs, kw⟩) (PySem.W.InitBack (s.heap.objs.size + 1) R)
      { s with heap := (s.heap.push PySem.W.emptyDict).push (PySem.W.instObj C s.heap.objs.size) }) :
    codeAny (model prog w) A (.call (.ref C) ⟨vs, kw⟩) R s := by
  obtain ⟨hh, g, d, t, os⟩ := s
  exact PySem.W.make_core (PySem.W.makes_of X hm) (PySem.W.looks_findIn X hi) (fun self => PySem.W.bind_fn X self hf) (.inl rfl) h
end

def putF (f : Str) (v : V) : List (Str × V) → List (Str × V)
  | [] => [(f, v)]
  | (g, x) :: r => if g = f then (g, v) :: r else (g, x) :: putF f v r
theorem lookup_putF (f g : Str) (v : V) : ∀ fs : List (Str × V), (putF f v fs).lookup g = if g = f then some v else fs.lookup g
  | [] => by
    show List.lookup g [(f, v)] = _
    by_cases h : g = f
    · have hb : (g == f) = true := beq_iff_eq.mpr h
      simp only [List.lookup, hb, if_pos h]
    · have hb : (g == f) = false := beq_eq_false_iff_ne.mpr h
      simp only [List.lookup, hb, if_neg h]
  | (k, x) :: r => by
    have ih := lookup_putF f g v r
    rw [show putF f v ((k, x) :: r) = (if k = f then (k, v) :: r else (k, x) :: putF f v r) from rfl]
    by_cases hk : k = f
    · rw [if_pos hk]
      by_cases h : g = k
      · have hb : (g == k) = true := beq_iff_eq.mpr h
        simp only [List.lookup, hb, if_pos (h.trans hk)]
      · have hb : (g == k) = false := beq_eq_false_iff_ne.mpr h
        simp only [List.lookup, hb, if_neg (fun e : g = f => h (e.trans hk.symm))]
    · rw [if_neg hk]
      by_cases h : g = k
      · have hb : (g == k) = true := beq_iff_eq.mpr h
        simp only [List.lookup, hb, if_neg (fun e : g = f => hk (h.symm.trans e))]
      · have hb : (g == k) = false := beq_eq_false_iff_ne.mpr h
        simp only [List.lookup, hb]
        exact ih
theorem keys_putF (f : Str) (v : V) : ∀ fs : List (Str × V), f ∈ (putF f v fs).map (·.1) ∧ ∀ g, g ∈ fs.map (·.1) → g ∈ (putF f v fs).map (·.1)
  | [] => ⟨by simp [putF], fun g h => by simp at h⟩
  | (k, x) :: r => by
    obtain ⟨i1, i2⟩ := keys_putF f v r
    rw [show putF f v ((k, x) :: r) = (if k = f then (k, v) :: r else (k, x) :: putF f v r) from rfl]
    by_cases hk : k = f
    · rw [if_pos hk]
      subst hk
      exact ⟨by simp, fun g h => by simpa using h⟩
    · rw [if_neg hk]
      refine ⟨?_, fun g h => ?_⟩
      · rw [List.map_cons]
        exact List.mem_cons_of_mem _ i1
      · rw [List.map_cons] at h ⊢
        rcases List.mem_cons.mp h with e | e
        · exact List.mem_cons.mpr (.inl e)
        · exact List.mem_cons_of_mem _ (i2 g e)
theorem length_putF (f : Str) (v : V) : ∀ fs : List (Str × V), (putF f v fs).length ≤ fs.length + 1
  | [] => by simp [putF]
  | (k, x) :: r => by
    have ih := length_putF f v r
    rw [show putF f v ((k, x) :: r) = (if k = f then (k, v) :: r else (k, x) :: putF f v r) from rfl]
    by_cases hk : k = f
    · rw [if_pos hk, List.length_cons, List.length_cons]; omega
    · rw [if_neg hk, List.length_cons, List.length_cons]; omega

theorem RelO.some_of {v : V} {o : Option Value} (r : RelO (some v) o) : ∃ u, o = some u ∧ RelV v u := by
  cases o with
  | none => exact (show False from r).elim
  | some u => exact ⟨u, rfl, r⟩
theorem RelO.none_of {o : Option Value} (r : RelO none o) : o = none := by
  cases o with
  | none => rfl
  | some u => exact (show False from r).elim
theorem handed_of {v : V} {u : Value} (r : RelV v u) : PySem.W.handedIn u = true := by
  cases v with
  | non => cases (show u = Value.none from r); rfl
  | bl b => cases (show u = Value.bool b from r); rfl
  | int i => obtain ⟨t, e⟩ := (show ∃ t, u = Value.int i t from r); cases e; rfl
  | str x => obtain ⟨t, e⟩ := (show ∃ t, u = Value.str x t from r); cases e; rfl
  | byt b => obtain ⟨t, e⟩ := (show ∃ t, u = Value.bytes b t from r); cases e; rfl
  | flt b => obtain ⟨t, e⟩ := (show ∃ t, u = Value.float b t from r); cases e; rfl
  | ref a => cases (show u = Value.ref a from r); rfl
  | ty n => cases (show u = Value.type n from r); rfl

section
variable {P : Program} {w : World} {H H' : Hp} {h h' : Heap} {a C dx : Addr} {fs fs' : List (Str × V)}
theorem ins_get (hok : HOk P w H h) (e : H a = some (.ins C dx fs)) : ∃ mA, ObjM h a dx C mA ∧ (∀ f, RelO (fs.lookup f) (mA f)) ∧ PySem.Within mA (fs.map (·.1)) ∧ fs.length ≤ 1000 ∧ H dx = some (.own a) := by
  obtain ⟨d, z, ne, ob, mA, n, r, q⟩ := (show ObjOk P w H h a (.ins C dx fs) from hok a _ e)
  exact ⟨mA, ⟨ob, n, ne⟩, r, q, z, d⟩
end

structure Cls (K : PySem.W.Frag) (C : Addr) : Prop where
  pg : PySem.W.plainGet K C Str.empty = true
  hd : PySem.W.hasDictIn K C = true
  po : PySem.W.plainOver K C = true
  sa : PySem.W.findIn K (.ref C) "__setattr__" = some (some (.builtin "object.__setattr__"))
theorem Cls.get {K : PySem.W.Frag} {C : Addr} (c : Cls K C) (f : Str) : PySem.W.plainGet K C f = true := c.pg
/-- no class of it has the name -/
def NoAttr (K : PySem.W.Frag) (C : Addr) (f : Str) : Prop := PySem.W.findIn K (.ref C) f = some none
theorem NoAttr.taker {K : PySem.W.Frag} {C : Addr} {f : Str} (n : NoAttr K C f) : PySem.W.takerIn K C f = some none := by
  unfold PySem.W.takerIn
  rw [show PySem.W.findIn K (.ref C) f = some none from n]
  rfl
/-- a method: a plain def of the class or of one above it -/
structure Meth (K : PySem.W.Frag) (C : Addr) (m : Str) (f : Addr) : Prop where
  at_ : PySem.W.findIn K (.ref C) m = some (some (.ref f))
  fn : PySem.W.isFn K (.ref f) = true
  kp : PySem.W.keepIn K (.ref f) = true

section
variable {X : Cx} {pins : List (Addr × Obj)} {σ : St} {H : Hp} {s : Shared} {a C dx : Addr} {fs : List (Str × V)} {f : Str} {v : V} {A : Around} {E : Value → Shared → Prop}

theorem getattr_ok {b : Bool} {Q : Value → Shared → Prop} (I : Inv X pins σ H s) (e : H a = some (.ins C dx fs)) (c : Cls X.K C) (n : NoAttr X.K C f) (l : fs.lookup f = some v)
    (h : ∀ u s', Inv X pins σ H s' → RelV v u → Q u s') : wpAny (model X.prog X.w) A (getAttr (.ref a) f b) Q E s := by
  obtain ⟨mA, O, r, _, _, _⟩ := ins_get I.hok e
  obtain ⟨u, hu, ru⟩ := RelO.some_of (v := v) (o := mA f) (by rw [← l]; exact r f)
  exact get_map I.kIn O (c.get f) c.hd n hu (handed_of ru) (h u _ (I.tok _) ru)

theorem getmeth_ok {m : Str} {g : Addr} {pl : Sem Bool} {Q : Value × List Value → Shared → Prop} (I : Inv X pins σ H s) (e : H a = some (.ins C dx fs)) (c : Cls X.K C) (k : Meth X.K C m g) (l : fs.lookup m = none)
    (h : Q (.ref g, [.ref a]) s) : wpAny (model X.prog X.w) A (getMethod (.ref a) m pl) Q E s := by
  obtain ⟨mA, O, r, _, _, _⟩ := ins_get I.hok e
  have hn : mA m = none := RelO.none_of (by rw [← l]; exact r m)
  exact get_meth I.kIn O (c.get m) k.at_ k.fn hn h

theorem setattr_ok {y : V} {u : Value} {Q : Unit → Shared → Prop} (I : Inv X pins σ H s) (e : H a = some (.ins C dx fs)) (c : Cls X.K C) (n : NoAttr X.K C f) (hl : fs.length < 1000) (ry : RelV y u)
    (h : ∀ s', Inv X pins σ (upd H a (.ins C dx (putF f y fs))) s' → Q () s') : wpAny (model X.prog X.w) A (setAttr (.ref a) f u) Q E s := by
  obtain ⟨mA, O, r, wi, _, ho⟩ := ins_get I.hok e
  have hz : (fs.map (·.1)).length ≤ sizeLine := by rw [List.length_map, sizeLine_eq]; omega
  refine set_map I.kIn O c.sa c.po n.taker c.hd wi hz fun h' O' sb => h _ ?_
  have hd : ∃ o, h'.get? dx = some o := let ⟨o, _, _, e', _⟩ := O'.ns; ⟨o, e'⟩
  refine I.write (x := a) (e := dx) (by rw [e]; exact True.intro) (.inr ho) (fun b q hb z => (sb.2 b hb).trans z) hd ?_
  refine ⟨by rw [upd_ne O.ne]; exact ho, ?_, O.ne, O'.obj, _, O'.ns, fun g => ?_, fun g hg => ?_⟩
  · have := length_putF f y fs; omega
  · show RelO ((putF f y fs).lookup g) (if g = f then some u else mA g)
    rw [lookup_putF]
    by_cases q : g = f
    · rw [if_pos q, if_pos q]; exact ry
    · rw [if_neg q, if_neg q]; exact r g
  · by_cases q : g = f
    · rw [q]; exact (keys_putF f y fs).1
    · refine (keys_putF f y fs).2 g (wi g fun z => hg ?_)
      show (if g = f then some u else mA g) = none
      rw [if_neg q]; exact z

/-- a new instance, tracked, without attributes -/
theorem Inv.made (I : Inv X pins σ H s) : Inv X pins σ (upd (upd H s.heap.objs.size (.own (s.heap.objs.size + 1))) (s.heap.objs.size + 1) (.ins C s.heap.objs.size []))
    { s with heap := (s.heap.push PySem.W.emptyDict).push (PySem.W.instObj C s.heap.objs.size) } := by
  have e1 : (s.heap.push PySem.W.emptyDict).get? s.heap.objs.size = some PySem.W.emptyDict := Heap.get?_push_size s.heap rfl
  have e2 : ((s.heap.push PySem.W.emptyDict).push (PySem.W.instObj C s.heap.objs.size)).get? (s.heap.objs.size + 1) = some (PySem.W.instObj C s.heap.objs.size) := by
    have := Heap.get?_push_size (s.heap.push PySem.W.emptyDict) (o := PySem.W.instObj C s.heap.objs.size) rfl
    rwa [Heap.size_push] at this
  have e3 : (s.heap.push PySem.W.emptyDict).Ns s.heap.objs.size (fun _ => none) := ⟨PySem.W.emptyDict, #[], _, e1, rfl, (fun e he => absurd he (by simp)), fun _ => rfl⟩
  have I1 := I.laid (a := s.heap.objs.size) (o := .own (s.heap.objs.size + 1)) (h' := s.heap.push PySem.W.emptyDict) (t' := s.toks) (fun b u q => Heap.get?_push_of_some _ q) (Nat.le_refl _) ⟨_, e1⟩
  refine I1.laid (a := s.heap.objs.size + 1) (o := .ins C s.heap.objs.size []) (t' := s.toks) (fun b u q => Heap.get?_push_of_some _ q) (Nat.le_of_eq (Heap.size_push _ _)) ?_
  have ne : s.heap.objs.size ≠ s.heap.objs.size + 1 := Nat.ne_of_lt (Nat.lt_succ_self _)
  refine ⟨by rw [upd_ne ne, upd_same], Nat.zero_le _, ne, e2, fun _ => none, (Heap.Ns1.of_empty e3).at fun o q => Heap.get?_push_of_some _ q, fun _ => True.intro, fun y hy => absurd rfl hy⟩

/-- e.f where nothing but the object is asked: through attributeBase (super) and the last hold -/
theorem attr_of {prog : Program} {w : World} {env : Env} {e : Expr} {f : Str} {pos : Pos} {s : Shared} {Q : Value → Shared → Prop} (hb : attributeBase e f env (eval e env) = eval e env)
    (h : wpAny (model prog w) A (eval e env) (fun o s₁ => wpAny (model prog w) A (getAttr o f true) Q E s₁) E s) : wpAny (model prog w) A (eval (.Attribute e f pos) env) Q E s :=
  Attribute_any_ h (by rw [arm_eval_Attribute, hb])
end

/-- e.f, an attribute of the instance -/
inductive ItFld (K : PySem.W.Frag) (f : Str) (Q : VK) (x : V) (H1 : Hp) : Prop
  | mk a C dx fs v : x = .ref a → H1 a = some (.ins C dx fs) → Cls K C → NoAttr K C f → fs.lookup f = some v → Q v H1 → ItFld K f Q x H1
def tFld (K : PySem.W.Frag) (ta : TE) (f : Str) : TE := fun σ H Q => ta σ H fun x H1 => ItFld K f Q x H1
/-- e.f = value -/
inductive IsFld (K : PySem.W.Frag) (f : Str) (D : Ends) (σ : St) (y : V) (x : V) (H2 : Hp) : Prop
  | mk a C dx fs : x = .ref a → H2 a = some (.ins C dx fs) → Cls K C → NoAttr K C f → fs.length < 1000 → D.nx σ (upd H2 a (.ins C dx (putF f y fs))) → IsFld K f D σ y x H2
def sFld (K : PySem.W.Frag) (ta tv : TE) (f : Str) : TS := fun D σ H => tv σ H fun y H1 => ta σ H1 fun x H2 => IsFld K f D σ y x H2
section
variable {X : Cx} {o e value : Expr} {f : Str} {pos pos' tpos : Pos} {ta tv : TE}
theorem pe_fld (he : PE X e ta) (hb : attributeBase e f X.env (eval e X.env) = eval e X.env) : PE X (.Attribute e f pos) (tFld X.K ta f) := by
  intro pins s σ H Q I h
  refine attr_of hb (thn (he pins s σ H _ I h) fun u s1 ⟨x, H1, I1, rx, a, C, dx, fs, v, ex, ea, c, n, l, q⟩ => ?_)
  subst ex
  obtain rfl : u = Value.ref a := rx
  exact getattr_ok I1 ea c n l fun u' s2 I2 ru => ⟨v, H1, I2, ru, q⟩
theorem ps_fld (ha : PE X o ta) (hv : PE X value tv) (hs : swapsWith value (some (.Attribute o f pos')) pos.line X.env = pure false) : PS X (.Assign [.Attribute o f pos'] value pos) (sFld X.K ta tv f) := by
  intro pins s σ H D I h
  refine plainObj_wpAny_Assign_Attribute (thn (hv pins s σ H _ I h) fun u s1 ⟨y, H1, I1, ry, q⟩ => thn (ha pins s1 σ H1 _ I1 q) fun ov s2 ⟨x, H2, I2, rx, a, C, dx, fs, ex, ea, c, n, l, q2⟩ => ?_) hs
  subst ex
  obtain rfl : ov = Value.ref a := rx
  exact setattr_ok I2 ea c n l ry fun s3 I3 => ⟨σ, _, I3, q2⟩
end

section
variable {X : Cx} {pins : List (Addr × Obj)} {σ : St} {H : Hp} {s : Shared} {A : Around} {E : Value → Shared → Prop} {Q : Value → Shared → Prop} {c : Value} {b : Bool}
end
end L2

namespace L2
open PySem PySem.Spec PyProof.Rows

structure Room (k : Nat) (A : Around) : Prop where
  hd : A.handled = none
  dp : A.depth + 3 * k + 5 < recursionLimit
  un : A.units + 16 * k + 200 < cLine
theorem Room.mono {j k : Nat} {A : Around} (r : Room k A) (h : j ≤ k) : Room j A := ⟨r.hd, by have := r.dp; omega, by have := r.un; omega⟩
theorem Room.deeper {k : Nat} {A : Around} (r : Room (k + 1) A) (env : Env) : Room k (A.deeper env) :=
  ⟨r.hd, by have := r.dp; show A.depth + 1 + 3 * k + 5 < _; omega, by have := r.un; show A.units + 3 + 16 * k + 200 < _; omega⟩
theorem make_depth {A : Around} {C : Addr} {us : List Value} {kw : List (Str × Value)} : (A.under (.builtin "type.__call__" ⟨.ref C :: us, kw⟩)).depth = A.depth + 1 := by
  first | rfl | simp [Around.under, Code.weight, Code.isCreation, Code.isGuard, Code.isCaller, Code.frames, Code.isFrame, guardIds]
theorem make_units {A : Around} {C : Addr} {us : List Value} {kw : List (Str × Value)} : (A.under (.builtin "type.__call__" ⟨.ref C :: us, kw⟩)).units = A.units + 1 := by
  first | rfl | simp [Around.under, Code.cUnits, Code.frames, Code.isFrame]
theorem Room.make {k : Nat} {A : Around} (r : Room (k + 1) A) (C : Addr) (us : List Value) (kw : List (Str × Value)) : Room k (A.under (.builtin "type.__call__" ⟨.ref C :: us, kw⟩)) :=
  ⟨r.hd, by have := r.dp; rw [make_depth]; omega, by have := r.un; rw [make_units]; omega⟩
theorem Room.depth {k : Nat} {A : Around} (r : Room k A) : A.depth < recursionLimit := by have := r.dp; omega
theorem Room.units {k : Nat} {A : Around} (r : Room k A) : A.units + 64 < cLine := by have := r.un; omega
def tNil : TA := fun _ H Q => Q [] H
def tCons (ta : TE) (tr : TA) : TA := fun σ H Q => ta σ H fun x H1 => tr σ H1 fun xs H2 => Q (x :: xs) H2
section
variable {X : Cx} {e : Expr} {es : List Expr} {te : TE} {t : TA} {pos : Pos}
theorem pa_nil : PA X [] tNil := fun _ _ _ _ H Q I h => Calls.spliced_nil ⟨[], H, I, .nil, h⟩
theorem pa_cons (ha : PE X e te) (hr : PA X es t) (hs : starEach (e :: es) X.env = (false, eval e X.env) :: starEach es X.env := by rfl) : PA X (e :: es) (tCons te t) := by
  intro pos pins s σ H Q I h
  rw [hs]
  show wpAny _ _ (spliced ((false, eval e X.env) :: backTo pos (starEach es X.env))) _ _ s
  refine Calls.spliced_cons (thn (ha pins s σ H _ I h) fun u s1 ⟨x, H1, I1, r1, q1⟩ => ?_)
  exact thn (hr pos pins s1 σ H1 _ I1 q1) fun us s2 ⟨xs, H2, I2, r2, q2⟩ => ⟨x :: xs, H2, I2, .cons r1 r2, q2⟩

/-- a tuple, a list of written items -/
def tTup (t : TA) : TE := fun σ H Q => t σ H fun xs H1 => xs.length ≤ sizeLine ∧ ∀ p, H1 p = none → Q (.ref p) (upd H1 p (.tup xs))
def tLst (t : TA) : TE := fun σ H Q => t σ H fun xs H1 => xs.length ≤ sizeLine ∧ ∀ p, H1 p = none → Q (.ref p) (upd H1 p (.lst xs))
theorem pe_tup {x1} (h : PA X es t) : PE X (.Tuple es x1 pos) (tTup t) := by
  intro pins s σ H Q I hq
  refine wpAny_Tuple_spliced (thn (h pos pins s σ H _ I hq) fun us s1 ⟨xs, H1, I1, r, z, q⟩ => ⟨by rw [← r.length]; exact z, ?_⟩)
  have hf : H1 s1.heap.objs.size = none := I1.hok.fresh (Nat.le_refl _)
  refine ⟨.ref s1.heap.objs.size, upd H1 s1.heap.objs.size (.tup xs), I1.laid (t' := s1.toks) (fun b u e => Heap.get?_push_of_some _ e) (Nat.le_refl _) ?_, rfl, q _ hf⟩
  exact ⟨z, us, r, ⟨_, Heap.get?_push_size _ rfl, rfl, _, rfl⟩⟩
theorem pe_lst (h : PA X es t) : PE X (.List es pos) (tLst t) := by
  intro pins s σ H Q I hq
  refine wpAny_List_spliced (thn (h pos pins s σ H _ I hq) fun us s1 ⟨xs, H1, I1, r, z, q⟩ => ⟨by rw [← r.length]; exact z, ?_⟩)
  have hf : H1 s1.heap.objs.size = none := I1.hok.fresh (Nat.le_refl _)
  refine ⟨.ref s1.heap.objs.size, upd H1 s1.heap.objs.size (.lst xs), I1.laid (t' := s1.toks) (fun b u e => Heap.get?_push_of_some _ e) (Nat.le_refl _) ?_, rfl, q _ hf⟩
  exact ⟨z, us, 0, r, Heap.get?_push_size _ rfl⟩
end

/-- a def's promise: the bound arguments in the parameters' order, the heap, the wanted end, the wanted exception -/
abbrev Sp := List V → Hp → VK → XK → Prop
/-- how an exception lies behind a call (file 08 gives it): the callers' frames, abstract heap and state ahead of the call, the wish, the exception, the state -/
abbrev CXT := List Env → Hp → Shared → XK → Value → Shared → Prop

/-- the state at a call -/
structure Env0 (P : Program) (w : World) (K : PySem.W.Frag) (mg : Str → Option Value) (base : Heap) (A : Around) (outer : List Env) (s : Shared) (H : Hp) : Prop where
  frames : A.frames = some outer
  mod : Mod K mg base
  bs : ∀ b o, base.get? b = some o → s.heap.get? b = some o ∧ H b = none
  bsz : base.objs.size ≤ s.heap.objs.size
  funs : s.heap.FunFrames base outer
  frf : ∀ b ∈ frs outer, H b = none
  hok : HOk P w H s.heap
  bare : AllBare s.gens
/-- a call's end -/
def CE (outer : List Env) (P : Program) (w : World) (H : Hp) (s : Shared) (Q : VK) (u : Value) (s' : Shared) : Prop :=
  ∃ v H', s'.os = s.os ∧ AllBare s'.gens ∧ Un (frs outer) [] H H' s.heap s'.heap ∧ HOk P w H' s'.heap ∧ RelV v u ∧ Q v H'
def CR (CX : CXT) (outer : List Env) (P : Program) (w : World) (H : Hp) (s : Shared) (Q : VK) (E : XK) (r : Result) (s' : Shared) : Prop :=
  match r with
  | .ok (.ret u) => CE outer P w H s Q u s'
  | .ok _ => False
  | .error e => CX outer H s E e s'
structure FnOk (P : Program) (w : World) (K : PySem.W.Frag) (mg : Str → Option Value) (base : Heap) (CX : CXT) (k : Nat) (f : Addr) (fd : FuncData) (ps : List Str) (sp : Sp) : Prop where
  len : ∀ vs H Q E, sp vs H Q E → vs.length = ps.length
  run : ∀ (A : Around) (outer : List Env) (s : Shared) (H : Hp) (args : Args) (us : List Value) (vs : List V) (Q : VK) (E : XK), Room k A → Env0 P w K mg base A outer s H → BindsTo s fd args (ps.zip us) → Vals vs us → sp vs H Q E →
    codeAny (model P w) A (.call (.ref f) args) (CR CX outer P w H s Q E) s
theorem Env0.make {P : Program} {w : World} {K : PySem.W.Frag} {mg : Str → Option Value} {base : Heap} {A : Around} {outer : List Env} {s : Shared} {H : Hp} (e : Env0 P w K mg base A outer s H) (C : Addr) (us : List Value) (kw : List (Str × Value)) :
    Env0 P w K mg base (A.under (.builtin "type.__call__" ⟨.ref C :: us, kw⟩)) outer s H := ⟨by first | exact e.frames | (simpa [Around.under, Code.envs, Code.isFrame, pushEnvs] using e.frames), e.mod, e.bs, e.bsz, e.funs, e.frf, e.hok, e.bare⟩
section
variable {X : Cx} {pins : List (Addr × Obj)} {σ : St} {H : Hp} {s s' : Shared}
/-- from a body: what a callee wants -/
theorem Inv.env0 (I : Inv X pins σ H s) : Env0 X.prog X.w X.K X.mg X.base X.A X.stack s H :=
  ⟨I.ok.frames, I.ok.mod, I.bs, Nat.le_trans I.ok.bsz I.sz, I.stack, I.stkFree, I.hok, I.bare⟩
/-- behind a call -/
theorem Inv.after {Q : VK} {u : Value} (I : Inv X pins σ H s) (h : CE X.stack X.prog X.w H s Q u s') : EP X pins σ Q u s' := by
  obtain ⟨v, H', os, bare, un, hok, r, q⟩ := h
  obtain ⟨hh, g, d, t, os'⟩ := s'
  obtain rfl : os' = s.os := os
  exact ⟨v, H', I.call (h' := hh) (g' := g) (d' := d) (t' := t) (ch := []) un hok bare (fun b z => absurd z (by simp)), r, q⟩
end

/-- f(..): the written arguments, then the defaults dvs; E: what is wanted of an exception -/
def tCall (sp : Sp) (dvs : List V) (E : XK) (t : TA) : TE := fun σ H Q => t σ H fun vs H1 => sp (vs ++ dvs) H1 Q E
/-- o.m(..) of an instance of the class at C -/
inductive ItMeth (C : Addr) (m : Str) (sp : Sp) (dvs : List V) (E : XK) (t : TA) (σ : St) (Q : VK) (x : V) (H1 : Hp) : Prop
  | mk a dx fs : x = .ref a → H1 a = some (.ins C dx fs) → fs.lookup m = none → (t σ H1 fun vs H2 => sp (x :: (vs ++ dvs)) H2 Q E) → ItMeth C m sp dvs E t σ Q x H1
def tMeth (C : Addr) (m : Str) (sp : Sp) (dvs : List V) (E : XK) (ta : TE) (t : TA) : TE := fun σ H Q => ta σ H fun x H1 => ItMeth C m sp dvs E t σ Q x H1
/-- C(..): a new instance and its dict, then __init__ -/
def tMake (C : Addr) (sp : Sp) (dvs : List V) (E : XK) (t : TA) : TE := fun σ H Q => t σ H fun vs H1 => ∀ x dx, H1 x = none → H1 dx = none → dx ≠ x →
  sp (.ref x :: (vs ++ dvs)) (upd (upd H1 dx (.own x)) x (.ins C dx [])) (fun v H2 => v = .non ∧ Q (.ref x) H2) E

/-- how the parameters are bound: us the positional arguments, kw the keywords' values by name, ds the defaults that fill up -/
def Binds (K : PySem.W.Frag) (fd : FuncData) (ps : List Str) (ds : List Value) : Prop :=
  ∀ (s : Shared) (us : List Value), K.In s.heap → (us ++ ds).length = ps.length → BindsTo s fd ⟨us, []⟩ (ps.zip (us ++ ds))
/-- every parameter is given -/
theorem Binds.all {K : PySem.W.Frag} {fd : FuncData} {ps : List Str} (h : ∀ us : List Value, us.length = ps.length → bindArgs fd ⟨us, []⟩ = pure (ps.zip us)) : Binds K fd ps [] := fun s us _ hl => by
  rw [List.append_nil] at hl ⊢
  exact .of_eq (h us hl)

/-- an exception of a callee reaches what this body wants of exceptions -/
def Passes (CX : CXT) (X : Cx) (E : XK) : Prop := ∀ (pins : List (Addr × Obj)) (σ : St) (H : Hp) (s : Shared) (e : Value) (s' : Shared), Inv X pins σ H s → CX X.stack H s E e s' → X.xe e s'

section
variable {X : Cx} {CX : CXT} {k : Nat} {f C : Addr} {fd : FuncData} {ps : List Str} {sp : Sp} {dvs : List V} {ds : List Value} {E : XK} {x m : Str} {p pos apos : Pos} {e o : Expr} {es : List Expr} {ta : TE} {t : TA}

/-- the callee runs -/
theorem run_fn {pins : List (Addr × Obj)} {σ : St} {H : Hp} {s : Shared} {Q : VK} {us : List Value} {vs : List V} (F : FnOk X.prog X.w X.K X.mg X.base CX k f fd ps sp) (hr : Room k X.A) (hb : Binds X.K fd ps ds) (hd : Vals dvs ds) (hx : Passes CX X E)
    (I : Inv X pins σ H s) (r : Vals vs us) (h : sp (vs ++ dvs) H Q E) : wpAny (model X.prog X.w) X.A (call (.ref f) us) (EP X pins σ Q) X.xe s := by
  have r2 : Vals (vs ++ dvs) (us ++ ds) := r.append hd
  have hl : (us ++ ds).length = ps.length := by rw [← r2.length]; exact F.len _ _ _ _ h
  refine wpAny_call (codeAny_mono (F.run X.A X.stack s H ⟨us, []⟩ (us ++ ds) (vs ++ dvs) Q E hr I.env0 (hb s us I.kIn hl) r2 h) fun r s' hq => ?_)
  cases r with
  | error e => exact hx pins σ H s e s' I hq
  | ok fl =>
    cases fl with
    | ret u => exact I.after hq
    | next => exact False.elim hq
    | brk => exact False.elim hq
    | cont => exact False.elim hq

theorem pe_call (F : FnOk X.prog X.w X.K X.mg X.base CX k f fd ps sp) (hr : Room k X.A) (hg : Gl X x) (hm : X.mg x = some (.ref f)) (hk : PySem.W.keepIn X.K (.ref f) = true) (hb : Binds X.K fd ps ds) (hd : Vals dvs ds) (hx : Passes CX X E)
    (ha : PA X (e :: es) t) (hdb : (x == ("__debug__" : Str)) = false := by decide) (he : starEach (e :: es) X.env = (false, eval e X.env) :: starEach es X.env := by rfl) (hpl : (backTo pos (starEach es X.env)).any (·.1) = false := by rfl) :
    PE X (.Call (.Name x p) (e :: es) [] pos) (tCall sp dvs E t) := by
  intro pins s σ H Q I h
  refine wpAny_Call_Name_kw (ld_glob I hg hm ?_ hdb)
  refine PySem.W.callWith_K (h₀ := X.base) I.ok.mod.kin hk (thn (ha pos pins s σ H _ I h) fun us s1 ⟨vs, H1, I1, r, q⟩ => ⟨I1.kIn, ?_⟩) he hpl
  exact run_fn F hr hb hd hx I1 r q
/-- o.m(e, ..) -/
theorem pe_meth {pl : Sem Bool} (he : PE X o ta) (c : Cls X.K C) (hm : Meth X.K C m f) (F : FnOk X.prog X.w X.K X.mg X.base CX k f fd ps sp) (hr : Room k X.A) (hb : Binds X.K fd ps ds) (hd : Vals dvs ds) (hx : Passes CX X E) (ha : PA X (e :: es) t)
    (hst : starEach (e :: es) X.env = (false, eval e X.env) :: starEach es X.env := by rfl) (hpl : (backTo pos (starEach es X.env)).any (·.1) = false := by rfl)
    (ht : eval (.Call (.Attribute o m apos) (e :: es) [] pos) X.env = (do
      let ov ← eval o X.env
      standAt apos.atName
      let (f, first) ← holding [ov] (getMethod ov m pl)
      callWith pos f first (backTo pos (starEach (e :: es) X.env)) (backToKw pos (keywordEach [] X.env))) := by rfl) :
    PE X (.Call (.Attribute o m apos) (e :: es) [] pos) (tMeth C m sp dvs E ta t) := by
  intro pins s σ H Q I h
  refine PySem.W.methodCall_KW (pl := pl) (thn (he pins s σ H _ I h) fun u s1 ⟨x, H1, I1, rx, a, dx, fs, ex, ea, l, q⟩ => ?_) ht
  subst ex
  obtain rfl : u = Value.ref a := rx
  refine getmeth_ok I1 ea c hm l ?_
  refine PySem.W.callWith_K (first := [.ref a]) (h₀ := X.base) I.ok.mod.kin hm.kp (thn (ha pos pins s1 σ H1 _ I1 q) fun us s2 ⟨vs, H2, I2, r, q2⟩ => ⟨I2.kIn, ?_⟩) hst hpl
  exact run_fn (us := .ref a :: us) (vs := .ref a :: vs) F hr hb hd hx I2 (.cons rfl r) q2
/-- o.m() -/
theorem pe_meth0 {pl : Sem Bool} (he : PE X o ta) (c : Cls X.K C) (hm : Meth X.K C m f) (F : FnOk X.prog X.w X.K X.mg X.base CX k f fd ps sp) (hr : Room k X.A) (hb : Binds X.K fd ps ds) (hd : Vals dvs ds) (hx : Passes CX X E)
    (ht : eval (.Call (.Attribute o m apos) [] [] pos) X.env = (do
      let ov ← eval o X.env
      standAt apos.atName
      let (f, first) ← holding [ov] (getMethod ov m pl)
      callWith pos f first (backTo pos (starEach [] X.env)) (backToKw pos (keywordEach [] X.env))) := by rfl) :
    PE X (.Call (.Attribute o m apos) [] [] pos) (tMeth C m sp dvs E ta tNil) := by
  intro pins s σ H Q I h
  refine PySem.W.methodCall_KW (pl := pl) (thn (he pins s σ H _ I h) fun u s1 ⟨x, H1, I1, rx, a, dx, fs, ex, ea, l, q⟩ => ?_) ht
  subst ex
  obtain rfl : u = Value.ref a := rx
  refine getmeth_ok I1 ea c hm l ?_
  exact PySem.W.callWith_K0 (first := [.ref a]) I1.kIn hm.kp (run_fn (us := [.ref a]) (vs := [.ref a]) F hr hb hd hx I1 (.cons rfl .nil) q)

/-- what a class must have to be made -/
structure Mk (K : PySem.W.Frag) (C f : Addr) : Prop where
  makes : PySem.W.makesIn K C = true
  init : PySem.W.findIn K (.ref C) "__init__" = some (some (.ref f))
  fn : PySem.W.isFn K (.ref f) = true
  kp : PySem.W.keepIn K (.ref C) = true

theorem run_make {pins : List (Addr × Obj)} {σ : St} {H : Hp} {s : Shared} {Q : VK} {us : List Value} {vs : List V} (M : Mk X.K C f) (F : FnOk X.prog X.w X.K X.mg X.base CX k f fd ps sp) (hr : Room (k + 1) X.A) (hb : Binds X.K fd ps ds) (hd : Vals dvs ds)
    (hx : Passes CX X E) (I : Inv X pins σ H s) (r : Vals vs us)
    (h : ∀ x dx, H x = none → H dx = none → dx ≠ x → sp (.ref x :: (vs ++ dvs)) (upd (upd H dx (.own x)) x (.ins C dx [])) (fun v H2 => v = .non ∧ Q (.ref x) H2) E) :
    wpAny (model X.prog X.w) X.A (call (.ref C) us) (EP X pins σ Q) X.xe s := by
  have hq := h (s.heap.objs.size + 1) s.heap.objs.size (I.hok.fresh (Nat.le_succ _)) (I.hok.fresh (Nat.le_refl _)) (Nat.ne_of_lt (Nat.lt_succ_self _))
  have I2 := Inv.made (C := C) I
  have r2 : Vals (V.ref (s.heap.objs.size + 1) :: (vs ++ dvs)) (Value.ref (s.heap.objs.size + 1) :: (us ++ ds)) := .cons rfl (r.append hd)
  have hl : (Value.ref (s.heap.objs.size + 1) :: us ++ ds).length = ps.length := by
    have e := r2.length
    rw [F.len _ _ _ _ hq] at e
    exact e.symm
  refine wpAny_call (make_map (f := f) I.kIn M.makes M.init (beq_iff_eq.mp M.fn) (codeAny_mono (F.run _ X.stack _ _ ⟨Value.ref (s.heap.objs.size + 1) :: us, []⟩ (Value.ref (s.heap.objs.size + 1) :: (us ++ ds)) _ _ E (hr.make C us [])
    (I2.env0.make C us []) (hb _ (Value.ref (s.heap.objs.size + 1) :: us) I2.kIn hl) r2 hq) fun r s' hq' => ?_))
  cases r with
  | error e => exact hx pins σ _ _ e s' I2 hq'
  | ok fl =>
    cases fl with
    | ret u =>
      obtain ⟨v, H', I3, rv, ev, q3⟩ := I2.after hq'
      subst ev
      exact ⟨rv, ⟨V.ref (s.heap.objs.size + 1), H', I3, rfl, q3⟩⟩
    | next => exact False.elim hq'
    | brk => exact False.elim hq'
    | cont => exact False.elim hq'
theorem pe_make (M : Mk X.K C f) (F : FnOk X.prog X.w X.K X.mg X.base CX k f fd ps sp) (hr : Room (k + 1) X.A) (hg : Gl X x) (hm : X.mg x = some (.ref C)) (hb : Binds X.K fd ps ds) (hd : Vals dvs ds) (hx : Passes CX X E)
    (ha : PA X (e :: es) t) (hdb : (x == ("__debug__" : Str)) = false := by decide) (he : starEach (e :: es) X.env = (false, eval e X.env) :: starEach es X.env := by rfl) (hpl : (backTo pos (starEach es X.env)).any (·.1) = false := by rfl) :
    PE X (.Call (.Name x p) (e :: es) [] pos) (tMake C sp dvs E t) := by
  intro pins s σ H Q I h
  refine wpAny_Call_Name_kw (ld_glob I hg hm ?_ hdb)
  refine PySem.W.callWith_K (h₀ := X.base) I.ok.mod.kin M.kp (thn (ha pos pins s σ H _ I h) fun us s1 ⟨vs, H1, I1, r, q⟩ => ⟨I1.kIn, ?_⟩) he hpl
  exact run_make M F hr hb hd hx I1 r q
theorem pe_make0 (M : Mk X.K C f) (F : FnOk X.prog X.w X.K X.mg X.base CX k f fd ps sp) (hr : Room (k + 1) X.A) (hg : Gl X x) (hm : X.mg x = some (.ref C)) (hb : Binds X.K fd ps ds) (hd : Vals dvs ds) (hx : Passes CX X E)
    (hdb : (x == ("__debug__" : Str)) = false := by decide) : PE X (.Call (.Name x p) [] [] pos) (tMake C sp dvs E tNil) := by
  intro pins s σ H Q I h
  refine wpAny_Call_Name_kw (ld_glob I hg hm ?_ hdb)
  exact PySem.W.callWith_K0 I.kIn M.kp (run_make (us := []) M F hr hb hd hx I .nil h)
end

/-- the values of the keywords, from the left -/
def PK (X : Cx) (kws : List Keyword) (t : TA) : Prop :=
  ∀ (pos : Pos) (pins : List (Addr × Obj)) (s : Shared) (σ : St) (H : Hp) (Q : List V → Hp → Prop), Inv X pins σ H s → t σ H Q → wpAny (model X.prog X.w) X.A (evalAll ((backToKw pos (keywordEach kws X.env)).map (·.2))) (AP X pins σ Q) X.xe s
section
variable {X : Cx} {CX : CXT} {k : Nat} {f C : Addr} {fd : FuncData} {ps ks : List Str} {sp : Sp} {E : XK} {x m : Str} {p pos apos kpos : Pos} {e o : Expr} {es : List Expr} {kws : List Keyword} {te ta : TE} {t tk : TA} {nm : Option Str}
theorem pk_nil : PK X [] tNil := fun _ _ _ _ H Q I h => wpAny_evalAll_nil ⟨[], H, I, .nil, h⟩
theorem pk_cons (ha : PE X e te) (hr : PK X kws t) : PK X (⟨nm, e, kpos⟩ :: kws) (tCons te t) := by
  intro pos pins s σ H Q I h
  show wpAny _ _ (evalAll ((do let v ← eval e X.env; standAt pos; pure v) :: (backToKw pos (keywordEach kws X.env)).map (·.2))) _ _ s
  refine wpAny_evalAll_cons (wpAny_bind (thn (ha pins s σ H _ I h) fun u s1 ⟨x, H1, I1, r1, q1⟩ => wpAny_bind (wpAny_standAt (wpAny_pure ?_))))
  exact thn (hr pos pins s1 σ H1 _ I1 q1) fun us s2 ⟨xs, H2, I2, r2, q2⟩ => ⟨x :: xs, H2, I2, .cons r1 r2, q2⟩

/-- how a call with keywords binds: g puts the positional values us and the keywords' values ws (names ks) in the parameters' order, defaults among them -/
structure KBinds (K : PySem.W.Frag) (fd : FuncData) (ps ks : List Str) (g : List Value → List Value → List Value) (gV : List V → List V → List V) : Prop where
  to : ∀ (s : Shared) (us ws : List Value), K.In s.heap → (g us ws).length = ps.length → BindsTo s fd ⟨us, ks.zip ws⟩ (ps.zip (g us ws))
  rel : ∀ {vs : List V} {us : List Value} {zs : List V} {ws : List Value}, Vals vs us → Vals zs ws → Vals (gV vs zs) (g us ws)
variable {g : List Value → List Value → List Value} {gV : List V → List V → List V}
end

/-- names: the parameters first -/
structure FnScope (N P : List Str) (sc : Scope) : Prop where
  kind : sc.kind = .function
  co : sc.isCoroutine = false
  gen : sc.isGenerator = false
  nd : N.Nodup
  pre : N.take P.length = P
  par : ∀ x ∈ P, sc.names.lookup x = some .local ∨ sc.names.lookup x = some .cell
  nofree : ∀ y ∈ sc.names, y.2 ≠ .free

theorem bindL_out {kindOf : Str → Option NameKind} {x : Str} : ∀ {binds : List (Str × Value)} {m : Str → Option Value}, (∀ v, (x, v) ∉ binds) → bindL kindOf binds m x = m x
  | [], _, _ => rfl
  | (n, v) :: r, m, h => by
    unfold bindL
    rw [bindL_out fun w hw => h w (List.mem_cons_of_mem _ hw)]
    split
    · have : x ≠ n := by rintro rfl; exact h v List.mem_cons_self
      simp [this]
    · rfl
theorem bindC_out {kindOf : Str → Option NameKind} {x : Str} : ∀ {binds : List (Str × Value)} {m : Str → Option Value}, (∀ v, (x, v) ∉ binds) → bindC kindOf binds m x = m x
  | [], _, _ => rfl
  | (n, v) :: r, m, h => by
    unfold bindC
    rw [bindC_out fun w hw => h w (List.mem_cons_of_mem _ hw)]
    split
    · rfl
    · have : x ≠ n := by rintro rfl; exact h v List.mem_cons_self
      simp [this]
theorem bindL_get {kindOf : Str → Option NameKind} {x : Str} {v : Value} : ∀ {P : List Str} {vs : List Value} {i : Nat} {m : Str → Option Value}, P.Nodup → P[i]? = some x → vs[i]? = some v → kindOf x = some .local →
    bindL kindOf (P.zip vs) m x = some v
  | [], _, _, _, _, h, _, _ => by simp at h
  | _ :: _, [], _, _, _, _, h, _ => by simp at h
  | p :: P, w :: vs, 0, m, nd, h1, h2, hk => by
    simp at h1 h2; subst h1; subst h2
    show bindL kindOf ((p, w) :: P.zip vs) m p = _
    unfold bindL
    rw [bindL_out fun v hv => (List.nodup_cons.mp nd).1 (List.of_mem_zip hv).1, if_pos hk]
    simp
  | p :: P, w :: vs, i + 1, m, nd, h1, h2, hk => by
    show bindL kindOf ((p, w) :: P.zip vs) m x = _
    unfold bindL
    exact bindL_get (i := i) (List.nodup_cons.mp nd).2 (by simpa using h1) (by simpa using h2) hk
theorem bindC_get {kindOf : Str → Option NameKind} {x : Str} {v : Value} : ∀ {P : List Str} {vs : List Value} {i : Nat} {m : Str → Option Value}, P.Nodup → P[i]? = some x → vs[i]? = some v → kindOf x ≠ some .local →
    bindC kindOf (P.zip vs) m x = some v
  | [], _, _, _, _, h, _, _ => by simp at h
  | _ :: _, [], _, _, _, _, h, _ => by simp at h
  | p :: P, w :: vs, 0, m, nd, h1, h2, hk => by
    simp at h1 h2; subst h1; subst h2
    show bindC kindOf ((p, w) :: P.zip vs) m p = _
    unfold bindC
    rw [bindC_out fun v hv => (List.nodup_cons.mp nd).1 (List.of_mem_zip hv).1, if_neg hk]
    simp
  | p :: P, w :: vs, i + 1, m, nd, h1, h2, hk => by
    show bindC kindOf ((p, w) :: P.zip vs) m x = _
    unfold bindC
    exact bindC_get (i := i) (List.nodup_cons.mp nd).2 (by simpa using h1) (by simpa using h2) hk

/-- the names' values at the entry -/
def start (N : List Str) (vs : List V) : St := vs.map some ++ List.replicate (N.length - vs.length) none

/-- the context of a def's body, at its entry; an exception leaves the frame, then lies as CX says -/
def cxOf (CX : CXT) (P : Program) (w : World) (K : PySem.W.Frag) (mg : Str → Option Value) (base : Heap) (N : List Str) (qual : Str) (scope : Scope) (f : Addr) (cd : Value) (A : Around) (outer : List Env) (s : Shared) (H : Hp) (E : XK) : Cx where
  prog := P
  w := w
  K := K
  mg := mg
  base := base
  A := A.deeper (envOfC qual scope s.heap.objs.size f cd)
  N := N
  s₀ := s
  H₀ := H
  env := envOfC qual scope s.heap.objs.size f cd
  outer := outer
  stack := envOfC qual scope s.heap.objs.size f cd :: outer
  ex := []
  calm := true
  fn := fun _ => true
  pn := []
  xe := fun e s' => wpAny (model P w) (A.deeper (envOfC qual scope s.heap.objs.size f cd)) (leaving (envOfC qual scope s.heap.objs.size f cd) e) (fun _ s'' => CX outer H s E e s'') (fun e' s'' => CX outer H s E e' s'') s'

theorem cell_has {sc : Scope} {n : Nat} {x : Str} (h : sc.names.lookup x = some .cell) : ∃ c, (cellsFrom n sc.names []).lookup x = some c := by
  have q := PySem.W.cellsFrom_some sc.names n [] (.inl h)
  exact Option.isSome_iff_exists.mp q

theorem inv_start {CX : CXT} {P : Program} {w : World} {K : PySem.W.Frag} {mg : Str → Option Value} {base : Heap} {N ps : List Str} {qual : Str} {scope : Scope} {f : Addr} {cd : Value} {A : Around} {outer : List Env} {s s1 : Shared} {H : Hp} {E : XK} {us : List Value} {vs : List V}
    (S : FnScope N ps scope) (hd : A.handled = none) (e0 : Env0 P w K mg base A outer s H) (hl : vs.length = ps.length) (r : Vals vs us)
    (x : InCallC s s.heap.objs.size (bindL (envOfC qual scope s.heap.objs.size f cd).kindOf (ps.zip us) fun _ => none) (cellsFrom (s.heap.objs.size + 1) scope.names []) (bindC (envOfC qual scope s.heap.objs.size f cd).kindOf (ps.zip us) fun _ => none) s1) :
    Inv (cxOf CX P w K mg base N qual scope f cd A outer s H E) [] (start N vs) H s1 := by
  have hpl : ps.length ≤ N.length := by have := congrArg List.length S.pre; rw [List.length_take] at this; omega
  obtain ⟨h1, tk, rfl, hk⟩ := x.done
  have noA : ∀ b : Addr, b ∉ (cxOf CX P w K mg base N qual scope f cd A outer s H E).ex := fun b z => absurd (show b ∈ ([] : List Addr) from z) (by simp)
  refine ⟨⟨e0.mod, S.kind, rfl, rfl, Nat.le_refl _, fun y z c h1 h2 => ?_, fun y hy => ?_, fun y c _ h => ?_, fun _ => hd, Around.frames_deeper e0.frames, .inr ⟨rfl, rfl⟩, fun b z => absurd z (noA b), e0.bs, e0.bsz, fun b _ _ => noA b, fun b z => absurd z (noA b), e0.funs, e0.frf⟩,
    rfl, e0.bare, Un.kept hk, ⟨_, x.toInCall.ns, fun i y v h1 h2 h3 => ?_⟩, fun y c h => ⟨_, x.cell y c h⟩, e0.hok.fresh (Nat.le_refl _), fun y c h => ?_, fun p hp => absurd (show p ∈ ([] : List (Addr × Obj)) from hp) (by simp), e0.hok.kept hk, ?_⟩
  · exact name_of_addr x.apart (PySem.mem_of_lookup h1) (PySem.mem_of_lookup h2)
  · have hy : scope.names.lookup y = some .cell ∨ scope.names.lookup y = some .free := hy
    rcases hy with hy | hy
    · exact cell_has hy
    · exact absurd rfl (S.nofree _ (PySem.mem_of_lookup hy))
  · exact Nat.le_of_lt (x.above y c (PySem.mem_of_lookup h))
  · have hi : i < vs.length := by
      unfold start at h2
      by_cases hi : i < vs.length
      · exact hi
      · rw [List.getElem?_append_right (by simpa using hi)] at h2
        rw [List.getElem?_replicate] at h2
        split at h2 <;> cases h2
    have ha : vs[i]? = some v := by
      unfold start at h2
      rw [List.getElem?_append_left (by simpa using hi), List.getElem?_map] at h2
      cases e : vs[i]? with
      | none => rw [e] at h2; cases h2
      | some a => rw [e] at h2; cases h2; rfl
    obtain ⟨u, hu, rv⟩ := r.get ha
    have hp : ps[i]? = some y := by
      rw [← S.pre, List.getElem?_take_of_lt (by omega)]; exact h1
    have ndP : ps.Nodup := by rw [← S.pre]; exact S.nd.sublist (List.take_sublist _ _)
    refine ⟨u, rv, ?_⟩
    rcases S.par y (List.mem_of_getElem? hp) with k | k
    · exact .inl ⟨k, bindL_get ndP hp hu k⟩
    · obtain ⟨c, e⟩ := cell_has (n := s.heap.objs.size + 1) k
      refine .inr ⟨.inl k, c, e, ?_⟩
      have q := x.cell y c e
      rw [bindC_get ndP hp hu (by show scope.names.lookup y ≠ _; rw [k]; decide)] at q
      exact q
  · exact e0.hok.fresh (Nat.le_of_lt (x.above y c (PySem.mem_of_lookup h)))
  · unfold start
    show _ = N.length
    rw [List.length_append, List.length_map, List.length_replicate]
    omega

/-- THE RULE: a def (or a method) of the text, by its body. The body's reading t is chosen for each entry; it is run at the parameters' values -/
theorem fn_of {CX : CXT} {P : Program} {w : World} {K : PySem.W.Frag} {mg : Str → Option Value} {base : Heap} {k : Nat} {f : Addr} {name qual : Str} {params : Arguments} {body : List Stmt} {scope : Scope} {dV kV doc pm cdv ct oc : Value} {an od : Option Addr}
    {osl : Array (Option Value)} {N ps : List Str} {sp : Sp} (lk : K.lookup f = some ⟨oc, od, .func (PySem.W.fnOf name qual params body scope dV kV doc pm an cdv ct), osl⟩) (hcd : PySem.W.codeIn K cdv qual = true) (S : FnScope N ps scope)
    (len : ∀ vs H Q E, sp vs H Q E → vs.length = ps.length)
    (hbody : ∀ (A : Around) (outer : List Env) (s : Shared) (H : Hp) (vs : List V) (Q : VK) (E : XK), Room k (A.deeper (envOfC qual scope s.heap.objs.size f cdv)) → sp vs H Q E →
      ∃ t, PSs (cxOf CX P w K mg base N qual scope f cdv A outer s H E) body t ∧ t { nx := fun _ H' => Q .non H', rt := Q } (start N vs) H) :
    FnOk P w K mg base CX (k + 1) f (PySem.W.fnOf name qual params body scope dV kV doc pm an cdv ct) ps sp := by
  refine ⟨len, fun A outer s H args us vs Q E hr e0 hb r hsp => ?_⟩
  have hl := len _ _ _ _ hsp
  have KX : K.In s.heap := e0.mod.kin.keeps fun b o e => (e0.bs b o e).1
  have lim : s.heap.NoLimit := e0.mod.nolimit.keeps fun b o e => (e0.bs b o e).1
  have hkind : ∀ y ∈ ps.zip us, scope.names.lookup y.1 = some .local ∨ (scope.names.lookup y.1 = some .cell ∧ ((cellsFrom (s.heap.objs.size + 1) scope.names []).lookup y.1).isSome = true) := fun ⟨n, v⟩ hy => by
    rcases S.par n (List.of_mem_zip hy).1 with q | q
    · exact .inl q
    · exact .inr ⟨q, PySem.W.cellsFrom_some _ _ _ (.inl q)⟩
  refine codeAny_call_function hr.depth (KX _ _ lk) rfl S.co S.gen rfl (PySem.W.codeRec_of KX hcd) (hb _ _ _ _ ?_)
  refine wpAny_newFunctionEnv_cells S.kind hkind fun env he s1 x => ?_
  subst he
  refine ⟨lim.keeps x.toInCall.keep, codeAny_func ?_⟩
  obtain ⟨t, ht, hq⟩ := hbody A outer s H vs Q E (hr.deeper _) hsp
  have I : Inv (cxOf CX P w K mg base N qual scope f cdv A outer s H E) [] (start N vs) H s1 := inv_start S hr.hd e0 hl r x
  refine wpAny_mono (ht [] s1 (start N vs) H _ I hq) (fun fl s' hs => ?_) fun e s' hs => hs
  have fin : ∀ {σ' : St} {H' : Hp} {v : V} {u : Value}, Inv (cxOf CX P w K mg base N qual scope f cdv A outer s H E) [] σ' H' s' → RelV v u → Q v H' → CE outer P w H s Q u s' :=
    fun {σ' H' v u} J rv q => ⟨v, H', J.os, J.bare, J.base, J.hok, rv, q⟩
  cases fl with
  | ret u =>
    obtain ⟨v, σ', H', J, rv, q⟩ := hs
    exact fin J rv q
  | next =>
    obtain ⟨σ', H', J, q⟩ := hs
    exact fin (v := V.non) (u := Value.none) J rfl q
  | brk =>
    obtain ⟨_, _, _, q⟩ := hs
    exact False.elim q
  | cont =>
    obtain ⟨_, _, _, q⟩ := hs
    exact False.elim q
end L2

namespace L2
open PySem PySem.Spec PyProof.Rows
section
variable {X : Cx} {x : Str} {p pos : Pos} {e : Expr} {es : List Expr} {t : TA} {id T : String} {r : List V → Hp → VK → Prop}

def tCB (r : List V → Hp → VK → Prop) (t : TA) : TE := fun σ H Q => t σ H fun vs H1 => r vs H1 Q
/-- f(e, ..), f a built-in function -/
theorem pe_callB (hc : CallR X (.builtin id) r) (hg : Gl X x) (hm : X.mg x = none) (hv : bootBuiltins x = some (.builtin id)) (ha : PA X (e :: es) t) (hn : x ≠ "__name__" := by decide) (hdb : (x == ("__debug__" : Str)) = false := by decide)
    (he : starEach (e :: es) X.env = (false, eval e X.env) :: starEach es X.env := by rfl) (hpl : (backTo pos (starEach es X.env)).any (·.1) = false := by rfl) : PE X (.Call (.Name x p) (e :: es) [] pos) (tCB r t) := by
  intro pins s σ H Q I h
  refine wpAny_Call_Name_kw (ld_blt I hg hm hv ?_ hn hdb)
  exact PyProof.Rows.callWith_builtin1 (thn (ha pos pins s σ H _ I h) fun us s1 ⟨vs, H1, I1, r1, q1⟩ => hc pins s1 σ H1 vs us Q I1 r1 q1) he hpl
/-- T(e, ..), T a built-in type -/
theorem pe_callTy (hc : CallR X (.type T) r) (hg : Gl X x) (hm : X.mg x = none) (hv : bootBuiltins x = some (.type T)) (ha : PA X (e :: es) t) (hn : x ≠ "__name__" := by decide) (hdb : (x == ("__debug__" : Str)) = false := by decide)
    (he : starEach (e :: es) X.env = (false, eval e X.env) :: starEach es X.env := by rfl) (hpl : (backTo pos (starEach es X.env)).any (·.1) = false := by rfl) : PE X (.Call (.Name x p) (e :: es) [] pos) (tCB r t) := by
  intro pins s σ H Q I h
  refine wpAny_Call_Name_kw (ld_blt I hg hm hv ?_ hn hdb)
  exact PyProof.Rows.callWith_type1 (thn (ha pos pins s σ H _ I h) fun us s1 ⟨vs, H1, I1, r1, q1⟩ => hc pins s1 σ H1 vs us Q I1 r1 q1) he hpl
end
end L2

namespace HT
open PySem PyProof.Rows

section
open PySem.SeqAt
open PySem.AutoSeq1 (wpAny_loadPart')
open PySem.MeetsSeq PySem.MeetsSeq2 PySem.MeetsSeq3

end

section
variable {prog : Program} {w : World} {A : Around} {E : Value → Shared → Prop} {s : Shared}

/-- a slice's bound as a place among n (d where it is left out) -/
def sIx (n d : Nat) : Option Int → Nat
  | none => d
  | some v => if v < 0 then (v + (n : Int)).toNat else min v.toNat n
theorem sIx_le (n d : Nat) (hd : d ≤ n) (o : Option Int) : sIx n d o ≤ n := by
  cases o with
  | none => exact hd
  | some v =>
    show (if v < 0 then (v + (n : Int)).toNat else min v.toNat n) ≤ n
    by_cases hv : v < 0
    · rw [if_pos hv]; omega
    · rw [if_neg hv]; exact Nat.min_le_right _ _
theorem clip_eq (v : Int) (n d : Nat) : (if v < 0 then max (v + (n : Int)) 0 else min v (n : Int)) = ((sIx n d (some v) : Nat) : Int) := by
  show (if v < 0 then max (v + (n : Int)) 0 else min v (n : Int)) = (((if v < 0 then (v + (n : Int)).toNat else min v.toNat n) : Nat) : Int)
  by_cases hv : v < 0
  · simp only [if_pos hv]; omega
  · simp only [if_neg hv]; omega
theorem adjust_gen (lo hi : Option Int) (n : Nat) : Builtin.Slice.sliceAdjust lo hi 1 (n : Int) = (((sIx n 0 lo : Nat) : Int), ((sIx n n hi : Nat) : Int)) := by
  have h1 : ¬ ((1 : Int) < 0) := by omega
  unfold Builtin.Slice.sliceAdjust
  simp only [h1, if_false]
  refine Prod.ext ?_ ?_
  · cases lo with
    | none => rfl
    | some v => exact clip_eq v n 0
  · cases hi with
    | none => rfl
    | some v => exact clip_eq v n n
theorem places_gen (i j : Nat) : Builtin.Slice.slicePlaces (i : Int) (j : Int) 1 = j - i := by
  unfold Builtin.Slice.slicePlaces
  have h1 : (1 : Int) > 0 := by omega
  simp only [h1, if_true, Int.ediv_one]
  split <;> omega
theorem slicePart_ {v : Value} {o : Option Int} {Q : Option Int → Shared → Prop} (p : IsPart v o) (h : Q o s) : wpAny (model prog w) A (Builtin.Slice.slicePartIndex v) Q E s := by
  cases p with
  | none => exact slicePart_none h
  | int i t => exact slicePart_int h
theorem sliceApplied_gen {sl : Addr} {vl vu : Value} {lo hi : Option Int} {n : Nat} {Q : Int × Int × Nat → Shared → Prop} (hs : s.heap.IsSliceOf sl vl vu .none) (pl : IsPart vl lo) (pu : IsPart vu hi)
    (h : Q (((sIx n 0 lo : Nat) : Int), 1, sIx n n hi - sIx n 0 lo) s) : wpAny (model prog w) A (Builtin.Slice.sliceApplied (.ref sl) (pure (n : Int))) Q E s := by
  obtain ⟨os, hos, hcs, hds⟩ := id hs
  unfold Builtin.Slice.sliceApplied Builtin.Slice.sliceFields
  refine wpAny_bind (wpAny_bind (wpAny_field hos hds (x := vl) rfl (wpAny_bind (wpAny_field hos hds (x := vu) rfl (wpAny_bind (wpAny_field hos hds (x := .none) rfl (wpAny_pure ?_)))))))
  refine wpAny_bind (slicePart_none ?_)
  show wpAny _ _ (if ((1 : Int) == 0) = true then _ else _) _ _ s
  rw [if_neg (by decide)]
  refine wpAny_bind (slicePart_ pl (wpAny_bind (slicePart_ pu (wpAny_bind (wpAny_pure ?_)))))
  show wpAny _ _ (match Builtin.Slice.sliceAdjust lo hi 1 (n : Int) with | (lo, hi) => pure (lo, (1 : Int), Builtin.Slice.slicePlaces lo hi 1)) _ _ s
  rw [adjust_gen lo hi n]
  show wpAny _ _ (pure (((sIx n 0 lo : Nat) : Int), (1 : Int), Builtin.Slice.slicePlaces ((sIx n 0 lo : Nat) : Int) ((sIx n n hi : Nat) : Int) 1)) _ _ s
  rw [places_gen]
  exact wpAny_pure h
theorem pick_gen (xs : Array Value) (i k : Nat) : ((List.range k).filterMap fun (m : Nat) => xs[((i : Int) + (m : Int) * 1).toNat]?).toArray = ((xs.toList.drop i).take k).toArray := by
  have e : (fun (m : Nat) => xs[((i : Int) + (m : Int) * 1).toNat]?) = fun m => xs[i + m]? := by
    funext m
    have : ((i : Int) + (m : Int) * 1).toNat = i + m := by omega
    rw [this]
  rw [e]
  have := pick_run xs i k
  rw [List.filterMap_map] at this
  have e2 : ((fun x => xs[x]?) ∘ fun x => i + x) = fun m => xs[i + m]? := rfl
  rw [e2] at this
  rw [this]

theorem getItem_tuple_cut {t sl : Addr} {items : Array Value} {vl vu : Value} {lo hi : Option Int} {Q : Value → Shared → Prop} (ht : IsTup s.heap t items) (hs : s.heap.IsSliceOf sl vl vu .none) (pl : IsPart vl lo) (pu : IsPart vu hi)
    (hw : ¬ (sIx items.size 0 lo = 0 ∧ sIx items.size items.size hi = items.size))
    (h : Q (.ref s.heap.objs.size) { s with heap := s.heap.push { cls := .type "tuple", data := .seq ((items.toList.drop (sIx items.size 0 lo)).take (sIx items.size items.size hi - sIx items.size 0 lo)).toArray } })
    (hsz : items.size ≤ sizeLine) : wpAny (model prog w) A (getItem (.ref t) (.ref sl)) Q E s := by
  have htake : sizeOk (.seq ((items.toList.drop (sIx items.size 0 lo)).take (sIx items.size items.size hi - sIx items.size 0 lo)).toArray) := by
    show ((items.toList.drop (sIx items.size 0 lo)).take (sIx items.size items.size hi - sIx items.size 0 lo)).toArray.size ≤ sizeLine
    rw [List.size_toArray, List.length_take, List.length_drop, Array.length_toList]
    omega
  have hj : sIx items.size items.size hi ≤ items.size := sIx_le _ _ (Nat.le_refl _) hi
  obtain ⟨os, hos, hcs, hds⟩ := id hs
  have hTs : s.TypeIs (.ref sl) "slice" := ⟨os, hos, hcs⟩
  unfold getItem
  try with_reducible refine wpAny_holding ?_
  first | refine wpAny_bind (wpAny_pure ?_) | skip
  refine wpAny_bind (wpAny_sequenceKey ht.typeIs (by decide) ?_)
  refine wpAny_bind (wpAny_callSpecial?_slot (name := Str.ofString "__getitem__") ht.typeIs PyProof.Rows.slot_tuple_getitem
    (wpAny_call_entry PyProof.Rows.slot_tuple_getitem ht.typeIs entry_tuple_getitem ?_ (args_tuple_getitem _ _)))
  show wpAny _ _ (Builtin.Tuple.tupleItemsOf (.ref t) >>= _) _ _ s
  refine wpAny_bind (tupleItemsOf_ ht ?_)
  refine wpAny_bind (wpAny_typeOf hTs ?_)
  rw [if_pos (by decide)]
  refine wpAny_bind (sliceApplied_gen hs pl pu ?_)
  have hno : ¬ ((((sIx items.size 0 lo : Nat) : Int) == 0 && (1 : Int) == 1 && (sIx items.size items.size hi - sIx items.size 0 lo) == items.size) = true) := by
    intro q
    rw [Bool.and_eq_true, Bool.and_eq_true] at q
    have q1 : ((sIx items.size 0 lo : Nat) : Int) = 0 := eq_of_beq q.1.1
    have q2 : sIx items.size items.size hi - sIx items.size 0 lo = items.size := eq_of_beq q.2
    exact hw ⟨by omega, by omega⟩
  show wpAny _ _ (if (((sIx items.size 0 lo : Nat) : Int) == 0 && (1 : Int) == 1 && (sIx items.size items.size hi - sIx items.size 0 lo) == items.size) = true then _ else _) _ _ s
  rw [if_neg hno, pick_gen]
  first
    | exact wpAny_bind (m := Builtin.Tuple.tupleExact _) (wpAny_newObj_type (wpAny_pure ⟨_, rfl, wpAny_pure h⟩) htake)
    | exact wpAny_bind (m := Builtin.Tuple.tupleExact _) (wpAny_newObj_type (wpAny_bind (wpAny_pure (wpAny_pure ⟨_, rfl, wpAny_pure h⟩))) htake)
    | exact wpAny_bind (wpAny_bind (m := Builtin.Tuple.tupleExact _) (wpAny_newObj_type (wpAny_pure (wpAny_pure ⟨_, rfl, wpAny_pure h⟩)) htake))
    | exact wpAny_bind (wpAny_bind (m := Builtin.Tuple.tupleExact _) (wpAny_newObj_type (wpAny_pure ⟨_, rfl, wpAny_pure h⟩) htake))
end
end HT

namespace L2
open PySem PySem.Spec PyProof.Rows

abbrev TO := St → Hp → (Option Int → Hp → Prop) → Prop
/-- a slice's part (left out, or an int) -/
def PO (X : Cx) (e : Option Expr) (t : TO) : Prop :=
  ∀ (pins : List (Addr × Obj)) (s : Shared) (σ : St) (H : Hp) (Q : Option Int → Hp → Prop), Inv X pins σ H s → t σ H Q →
    wpAny (model X.prog X.w) X.A (evalPart e X.env) (fun u s' => ∃ o H', Inv X pins σ H' s' ∧ IsPart u o ∧ Q o H') X.xe s
def tNoPart : TO := fun _ H Q => Q none H
inductive ItPart (Q : (Option Int → Hp → Prop)) (x : V) (H1 : Hp) : Prop
  | mk i : x = .int i → Q (some i) H1 → ItPart Q x H1
def tPart (t : TE) : TO := fun σ H Q => t σ H fun x H1 => ItPart Q x H1

section
variable {X : Cx} {e : Expr} {te : TE} {lo hi : Option Expr} {tl th : TO} {pos p2 : Pos}

theorem po_none : PO X none tNoPart := by
  intro pins s σ H Q I h
  rw [evalPart_none]
  exact wpAny_pure ⟨none, H, I, .none, h⟩
theorem po_some (h : PE X e te) : PO X (some e) (tPart te) := by
  intro pins s σ H Q I hw
  rw [evalPart_some]
  refine thn (h pins s σ H _ I hw) fun u s1 ⟨x, H1, I1, r1, q1⟩ => ?_
  obtain ⟨i, rfl, q⟩ := q1
  obtain ⟨t, rfl⟩ := r1
  exact ⟨some i, H1, I1, .int i t, q⟩

/-- what a slice of a value is, by values: the slice object stands at sl -/
def SlR (X : Cx) (r : V → Option Int → Option Int → Hp → VK → Prop) : Prop :=
  ∀ (pins : List (Addr × Obj)) (s : Shared) (σ : St) (H : Hp) (x : V) (v vl vu : Value) (lo hi : Option Int) (sl : Addr) (Q : VK), Inv X pins σ H s → RelV x v → s.heap.IsSliceOf sl vl vu .none → IsPart vl lo → IsPart vu hi → r x lo hi H Q →
    ∃ T id, typeLookup (.type T) "__getitem__" = pure (some (.builtin id)) ∧ s.TypeIs v T ∧ wpAny (model X.prog X.w) X.A (getItem v (.ref sl)) (EP X pins σ Q) X.xe s
def tSl (r : V → Option Int → Option Int → Hp → VK → Prop) (te : TE) (tl th : TO) : TE := fun σ H Q => te σ H fun x H1 => tl σ H1 fun l H2 => th σ H2 fun u H3 => r x l u H3 Q
/-- a[lo:hi], any a -/
theorem pe_slice {r : V → Option Int → Option Int → Hp → VK → Prop} (hr : SlR X r) (he : PE X e te) (hl : PO X lo tl) (hu : PO X hi th) : PE X (.Subscript e (.Slice lo hi none p2) pos) (tSl r te tl th) := by
  intro pins s σ H Q I h
  refine Subscript_ (thn (he pins s σ H _ I h) fun v s1 ⟨x, H1, I1, r1, q1⟩ => ?_)
  refine wpAny_Slice (thn (hl pins s1 σ H1 _ I1 q1) fun vl s2 ⟨l, H2, I2, pl, q2⟩ => thn (hu pins s2 σ H2 _ I2 q2) fun vu s3 ⟨u, H3, I3, pu, q3⟩ => ?_)
  rw [evalPart_none]
  refine wpAny_pure ?_
  have I4 : Inv X pins σ H3 { s3 with heap := s3.heap.push { cls := .type "slice", data := .fields #[vl, vu, .none] } } := I3.kept (t' := s3.toks) fun b ob q => Heap.get?_push_of_some _ q
  obtain ⟨T, id, hT, ht, hg⟩ := hr pins { s3 with heap := s3.heap.push { cls := .type "slice", data := .fields #[vl, vu, .none] } } σ H3 x v vl vu l u s3.heap.objs.size Q I4 r1 (Heap.IsSliceOf.new ..) pl pu q3
  show wpAny (model X.prog X.w) X.A (subscriptTail e (.Slice lo hi none p2) v (.ref s3.heap.objs.size)) (EP X pins σ Q) X.xe { s3 with heap := s3.heap.push { cls := .type "slice", data := .fields #[vl, vu, .none] } }
  exact tail_any (ops := [.ref s3.heap.objs.size, v]) ht hT hg (by with_unfolding_all rfl)

/-- the items of xs[lo:hi] -/
def cutV (xs : List V) (lo hi : Option Int) : List V := (xs.drop (HT.sIx xs.length 0 lo)).take (HT.sIx xs.length xs.length hi - HT.sIx xs.length 0 lo)
theorem cutV_length (xs : List V) (lo hi : Option Int) : (cutV xs lo hi).length ≤ xs.length := by
  unfold cutV
  rw [List.length_take, List.length_drop]
  omega
/-- t[lo:hi], not the whole of it (the whole would be t itself) -/
inductive rSlT (K : PySem.W.Frag) (x : V) (lo : Option Int) (hi : Option Int) (H : Hp) (Q : VK) : Prop
  | mk a xs : x = .ref a → SqT K H a xs → ¬ (HT.sIx xs.length 0 lo = 0 ∧ HT.sIx xs.length xs.length hi = xs.length) → (∀ p, H p = none → Q (.ref p) (upd H p (.tup (cutV xs lo hi)))) → rSlT K x lo hi H Q
theorem sl_tup : SlR X (rSlT X.K) := by
  intro pins s σ H x v vl vu lo hi sl Q I rx hs pl pu h
  obtain ⟨a, xs, rfl, hx, hw, q⟩ := h
  cases rx
  obtain ⟨its, r, ht, hz⟩ := I.tuple hx
  have hlen : its.toArray.size = xs.length := by rw [List.size_toArray]; exact r.length.symm
  refine ⟨"tuple", _, PyProof.Rows.slot_tuple_getitem.lookup, ht.typeIs, ?_⟩
  refine HT.getItem_tuple_cut ht hs pl pu (by rw [hlen]; exact hw) ?_ (by rw [hlen]; exact hz)
  rw [hlen]
  refine ⟨.ref s.heap.objs.size, _, I.laid (t' := s.toks) (o := .tup (cutV xs lo hi)) (fun b ob q => Heap.get?_push_of_some _ q) (Nat.le_refl _) ?_, rfl, q _ (I.hok.fresh (Nat.le_refl _))⟩
  exact ⟨Nat.le_trans (cutV_length xs lo hi) hz, _, (r.drop (HT.sIx xs.length 0 lo)).take (HT.sIx xs.length xs.length hi - HT.sIx xs.length 0 lo), IsTup.new _ _⟩

end
end L2

namespace L2
open PySem PySem.Spec PyProof.Rows

/-- the place that an index of any sign means -/
def ixN (n : Nat) (i : Int) : Option Nat := if 0 ≤ i then (if i < n then some i.toNat else none) else if -(n : Int) ≤ i then some (i + n).toNat else none
def atI {α : Type} (xs : List α) (i : Int) : Option α := (ixN xs.length i).bind fun j => xs[j]?
theorem ixN_seq {n : Nat} {i : Int} {j : Nat} (h : ixN n i = some j) : seqIndex? i n = some j ∧ j < n ∧ -(n : Int) ≤ i ∧ i < n := by
  unfold ixN at h
  by_cases h0 : 0 ≤ i
  · rw [if_pos h0] at h
    by_cases h1 : i < n
    · rw [if_pos h1] at h
      have e : i.toNat = j := Option.some.inj h
      exact ⟨by rw [seqIndex_of h0 h1, e], by omega, by omega, h1⟩
    · rw [if_neg h1] at h; cases h
  · rw [if_neg h0] at h
    by_cases h1 : -(n : Int) ≤ i
    · rw [if_pos h1] at h
      have e : (i + n).toNat = j := Option.some.inj h
      exact ⟨by rw [seqIndex_neg (by omega) h1, e], by omega, h1, by omega⟩
    · rw [if_neg h1] at h; cases h
theorem atI_get {α : Type} {xs : List α} {i : Int} {v : α} (h : atI xs i = some v) : ∃ j, seqIndex? i xs.length = some j ∧ xs[j]? = some v ∧ j < xs.length ∧ -(xs.length : Int) ≤ i ∧ i < xs.length := by
  unfold atI at h
  cases e : ixN xs.length i with
  | none => rw [e] at h; cases h
  | some j =>
    rw [e] at h
    obtain ⟨h1, h2, h3, h4⟩ := ixN_seq e
    exact ⟨j, h1, h, h2, h3, h4⟩
theorem atI_nat {α : Type} {xs : List α} {j : Nat} {v : α} (h : xs[j]? = some v) : atI xs (j : Int) = some v := by
  have hj : j < xs.length := (List.getElem?_eq_some_iff.mp h).1
  have e : ixN xs.length (j : Int) = some j := by
    unfold ixN
    rw [if_pos (by omega), if_pos (by omega)]; simp
  unfold atI; rw [e]; exact h
/-- what stands as an index of a plain subscript -/
def PlainIx (b : Expr) : Prop := ∀ o i, subscripted b false o i = operate [o, i] (getItem o i)
/-- a subscript by values -/
def IxR (X : Cx) (r : R2) : Prop :=
  ∀ (value slice : Expr) (pins : List (Addr × Obj)) (s : Shared) (σ : St) (H : Hp) (x y : V) (v u : Value) (Q : VK), Inv X pins σ H s → RelV x v → RelV y u → r x y H Q →
    subscripted slice false v u = operate [v, u] (getItem v u) → wpAny (model X.prog X.w) X.A (subscriptTail value slice v u) (EP X pins σ Q) X.xe s
/-- a call of a builtin's method by values: the receiver, the arguments -/
def MtR (X : Cx) (id : String) (r : V → List V → Hp → VK → Prop) : Prop :=
  ∀ (pins : List (Addr × Obj)) (s : Shared) (σ : St) (H : Hp) (x : V) (xs : List V) (v : Value) (us : List Value) (Q : VK), Inv X pins σ H s → RelV x v → Vals xs us → r x xs H Q →
    wpAny (model X.prog X.w) X.A (call (.builtin id) (v :: us)) (EP X pins σ Q) X.xe s
section
variable {X : Cx} {a b : Expr} {ta tb : TE} {pos : Pos}
/-- a[b] -/
theorem pe_ix {r : R2} (hr : IxR X r) (ha : PE X a ta) (hb : PE X b tb) (hs : PlainIx b) : PE X (.Subscript a b pos) (tOp r ta tb) := by
  intro pins s σ H Q I h
  exact Subscript_ (binT ha hb I h fun v u s2 x y H2 I2 rx ry q => hr a b pins s2 σ H2 x y v u Q I2 rx ry q (hs _ _))

inductive rIxL (K : PySem.W.Frag) (x : V) (y : V) (H : Hp) (Q : VK) : Prop
  | mk p xs i v : x = .ref p → y = .int i → SqL K H p xs → atI xs i = some v → Q v H → rIxL K x y H Q
inductive rIxT (K : PySem.W.Frag) (x : V) (y : V) (H : Hp) (Q : VK) : Prop
  | mk p xs i v : x = .ref p → y = .int i → SqT K H p xs → atI xs i = some v → Q v H → rIxT K x y H Q
theorem ix_list : IxR X (rIxL X.K) := by
  intro value slice pins s σ H x y v u Q I rx ry h hs
  obtain ⟨p, xs, i, z, rfl, rfl, hq, he, q⟩ := h
  cases rx
  obtain ⟨t, rfl⟩ := ry
  obtain ⟨its, r, pl, hz⟩ := I.list hq
  obtain ⟨j, h1, h2, h3, h4, h5⟩ := atI_get he
  obtain ⟨w, ew, rw'⟩ := r.get h2
  have hl := r.length
  have hn := line63
  have fin : EP X pins σ Q w s := ⟨z, H, I, rw', q⟩
  by_cases h0 : 0 ≤ i
  · have hj : i.toNat = j := by
      rw [seqIndex_of h0 h5] at h1
      exact Option.some.inj h1
    exact item_listR pl.isList h0 (by omega) (by rw [hj]; simpa using ew) fin hs
  · have hj : (i + (its.toArray.size : Int)).toNat = j := by
      rw [seqIndex_neg (by omega) h4] at h1
      rw [List.size_toArray, ← hl]
      exact Option.some.inj h1
    exact subscriptTail_builtinR (x := w) pl.isList.typeIs slot_list_getitem.lookup
      (wpAny_getItem_list_neg (Q := fun r s' => r = w ∧ EP X pins σ Q r s') pl.isList (by omega) (by rw [List.size_toArray] <;> omega) (by omega) (by rw [hj]; simpa using ew) ⟨rfl, fin⟩) hs
theorem ix_tup : IxR X (rIxT X.K) := by
  intro value slice pins s σ H x y v u Q I rx ry h hs
  obtain ⟨p, xs, i, z, rfl, rfl, hq, he, q⟩ := h
  cases rx
  obtain ⟨t, rfl⟩ := ry
  obtain ⟨its, r, pl, hz⟩ := I.tuple hq
  obtain ⟨j, h1, h2, h3, h4, h5⟩ := atI_get he
  obtain ⟨w, ew, rw'⟩ := r.get h2
  have hl := r.length
  have hn := line63
  have fin : EP X pins σ Q w s := ⟨z, H, I, rw', q⟩
  exact subscriptTail_builtinR (x := w) pl.typeIs slot_tuple_getitem.lookup
    (getItem_tuple (j := j) (Q := fun r s' => r = w ∧ EP X pins σ Q r s') pl (by omega) (by omega) (by rw [List.size_toArray, ← hl]; exact h1) (by simpa using ew) ⟨rfl, fin⟩) hs
/-- the list's object behind a store -/
theorem mapSeq_set (its : List Value) (n j : Nat) (u : Value) : Obj.mapSeq (·.setIfInBounds j u) { cls := .type "list", data := .seq its.toArray n } = { cls := .type "list", data := .seq (its.set j u).toArray n } := by
  simp [Obj.mapSeq]
theorem Inv.lst {pins : List (Addr × Obj)} {σ : St} {H : Hp} {s : Shared} {p : Addr} {xs : List V} (I : Inv X pins σ H s) (h : H p = some (.lst xs)) :
    ∃ (its : List Value) (n : Nat), Vals xs its ∧ s.heap.get? p = some { cls := .type "list", data := .seq its.toArray n } ∧ xs.length ≤ sizeLine := by
  obtain ⟨z, its, n, r, e⟩ := I.hok p _ h
  exact ⟨its, n, r, e, z⟩
/-- the list at p is written by an update of its object -/
theorem Inv.lstUpd {pins : List (Addr × Obj)} {σ : St} {H : Hp} {s : Shared} {p : Addr} {xs ys : List V} {its its' : List Value} {n n' : Nat} {f : Obj → Obj} (I : Inv X pins σ H s) (h : H p = some (.lst xs))
    (ho : s.heap.get? p = some { cls := .type "list", data := .seq its.toArray n }) (hf : f { cls := .type "list", data := .seq its.toArray n } = { cls := .type "list", data := .seq its'.toArray n' }) (r : Vals ys its') (hz : ys.length ≤ sizeLine) (t : Nat) :
    Inv X pins σ (upd H p (.lst ys)) { s with heap := s.heap.update p f, toks := t } := by
  have e : (s.heap.update p f).get? p = some { cls := .type "list", data := .seq its'.toArray n' } := by
    rw [Heap.get?_update_self f ho (by rw [hf] <;> rfl), hf]
  refine I.write (x := p) (e := p) (by rw [h]; trivial) (.inl rfl) (fun b u hb q => (Heap.get?_update_other _ _ (Ne.symm hb)).trans q) ⟨_, e⟩ ?_
  exact ⟨hz, its', n', r, e⟩
inductive rSetL (o : V) (i : V) (v : V) (H : Hp) (Q : (Hp → Prop)) : Prop
  | mk p xs k j : o = .ref p → i = .int k → H p = some (.lst xs) → ixN xs.length k = some j → Q (upd H p (.lst (xs.set j v))) → rSetL o i v H Q
theorem set_list : PSet X rSetL := by
  intro pins s σ H o i v ov iv u Q I ro ri rv h
  obtain ⟨p, xs, k, j, rfl, rfl, hp, hj, q⟩ := h
  cases ro
  obtain ⟨t, rfl⟩ := ri
  obtain ⟨its, n, r, ho, hz⟩ := I.lst hp
  obtain ⟨h1, h2, h3, h4⟩ := ixN_seq hj
  have hl := r.length
  have hn := line63
  have I' : Inv X pins σ (upd H p (.lst (xs.set j v))) { s with heap := s.heap.update p (Obj.mapSeq (·.setIfInBounds j u)) } :=
    I.lstUpd hp ho (mapSeq_set its n j u) (r.set rv j) (by rw [List.length_set]; exact hz) s.toks
  by_cases h0 : 0 ≤ k
  · have hk : k.toNat = j := by
      rw [seqIndex_of h0 h4] at h1
      exact Option.some.inj h1
    exact PySem.W.ki_setAt ho h0 (by omega) (by rw [List.size_toArray, ← hl]; exact h4) (by rw [hk]; exact ⟨_, I', q⟩)
  · have hk : (k + (its.toArray.size : Int)).toNat = j := by
      rw [seqIndex_neg (by omega) h3] at h1
      rw [List.size_toArray, ← hl]
      exact Option.some.inj h1
    exact PySem.W.ki_setBack ho (by omega) (by rw [List.size_toArray, ← hl]; exact h3) (by omega) (by rw [hk]; exact ⟨_, I', q⟩)

def flatV : V → Bool
  | .non => true
  | .bl _ => true
  | .int _ => true
  | .str _ => true
  | _ => false
/-- == of flat values -/
def eqV : V → V → Bool
  | .non, .non => true
  | .bl a, .bl b => a == b
  | .bl a, .int b => (if a then 1 else 0) == b
  | .int a, .bl b => a == (if b then 1 else 0)
  | .int a, .int b => a == b
  | .str a, .str b => a == b
  | _, _ => false
theorem eqAt_V {A : Around} {s : Shared} {y x : V} {u v : Value} (ry : RelV y u) (rx : RelV x v) (fy : flatV y = true) (fx : flatV x = true) : SeqAt.EqAt A s u v (eqV y x) := by
  cases y with
  | non =>
    cases ry
    cases x with
    | non => cases rx; exact SeqAt.EqAt.same _
    | bl b => cases rx; exact SeqAt.EqAt.none_bool b
    | int b => obtain ⟨t, rfl⟩ := rx; exact SeqAt.EqAt.none_int b t
    | str b => obtain ⟨t, rfl⟩ := rx; exact SeqAt.EqAt.none_str b t
    | _ => exact absurd (show false = true from fx) Bool.false_ne_true
  | bl a =>
    cases ry
    cases x with
    | non => cases rx; exact SeqAt.EqAt.bool_none a
    | bl b => cases rx; exact SeqAt.EqAt.bool_bool a b
    | int b => obtain ⟨t, rfl⟩ := rx; exact SeqAt.EqAt.bool_int a b t
    | str b => obtain ⟨t, rfl⟩ := rx; exact SeqAt.EqAt.bool_str a b t
    | _ => exact absurd (show false = true from fx) Bool.false_ne_true
  | int a =>
    obtain ⟨t', rfl⟩ := ry
    cases x with
    | non => cases rx; exact SeqAt.EqAt.int_none a t'
    | bl b => cases rx; exact SeqAt.EqAt.int_bool a t' b
    | int b => obtain ⟨t, rfl⟩ := rx; exact SeqAt.EqAt.int_int a t' b t
    | str b => obtain ⟨t, rfl⟩ := rx; exact SeqAt.EqAt.int_str a t' b t
    | _ => exact absurd (show false = true from fx) Bool.false_ne_true
  | str a =>
    obtain ⟨t', rfl⟩ := ry
    cases x with
    | non => cases rx; exact SeqAt.EqAt.str_none a t'
    | bl b => cases rx; exact SeqAt.EqAt.str_bool a t' b
    | int b => obtain ⟨t, rfl⟩ := rx; exact SeqAt.EqAt.str_int a t' b t
    | str b => obtain ⟨t, rfl⟩ := rx; exact SeqAt.EqAt.str_str a t' b t
    | _ => exact absurd (show false = true from fx) Bool.false_ne_true
  | _ => exact absurd (show false = true from fy) Bool.false_ne_true
/-- the items' answers, read off the values (a value's own answer does not lean on its token) -/
def eqU (x : V) (u : Value) : Bool := match u with
  | .none => eqV .non x
  | .bool b => eqV (.bl b) x
  | .int i _ => eqV (.int i) x
  | .str z _ => eqV (.str z) x
  | _ => false
theorem eqU_of {x y : V} {u : Value} (r : RelV y u) (f : flatV y = true) : eqU x u = eqV y x := by
  cases y with
  | non => cases r; rfl
  | bl b => cases r; rfl
  | int i => obtain ⟨t, rfl⟩ := r; rfl
  | str z => obtain ⟨t, rfl⟩ := r; rfl
  | _ => exact absurd (show false = true from f) Bool.false_ne_true
theorem any_eqU {x : V} : ∀ {xs : List V} {us : List Value}, Vals xs us → xs.all flatV = true → us.any (eqU x) = xs.any fun y => eqV y x
  | _, _, .nil, _ => rfl
  | y :: xs, u :: us, .cons r t, f => by
    rw [List.all_cons, Bool.and_eq_true] at f
    rw [List.any_cons, List.any_cons, eqU_of r f.1, any_eqU t f.2]
theorem mem_eqAt {A : Around} {s : Shared} {x : V} {v : Value} (rx : RelV x v) (fx : flatV x = true) : ∀ {xs : List V} {us : List Value}, Vals xs us → xs.all flatV = true → ∀ u ∈ us, SeqAt.EqAt A s u v (eqU x u)
  | _, _, .nil, _ => fun u hu => by cases hu
  | y :: xs, u :: us, .cons r t, f => fun u' hu => by
    rw [List.all_cons, Bool.and_eq_true] at f
    rcases List.mem_cons.mp hu with rfl | hu
    · rw [eqU_of r f.1]; exact eqAt_V r rx f.1 fx
    · exact mem_eqAt rx fx t f.2 u' hu
def inV (x : V) (xs : List V) : Bool := xs.any fun y => eqV y x
/-- x in a list or tuple of flat items -/
inductive rIn (K : PySem.W.Frag) (neg : Bool) (x : V) (y : V) (H : Hp) (Q : VK) : Prop
  | mk p xs : y = .ref p → ((SqL K H p xs ∨ SqT K H p xs)) → flatV x = true → xs.all flatV = true → (Q (.bl (if neg then !inV x xs else inV x xs)) H) → rIn K neg x y H Q
theorem op_in_seq : OpR X (compareOp .In) (rIn X.K false) := by
  intro pins s σ H x y v u Q I rx ry h
  obtain ⟨p, xs, rfl, hq, fx, fs, q⟩ := h
  cases ry
  rcases hq with hq | hq
  · obtain ⟨its, r, pl, hz⟩ := I.list hq
    refine SeqAt.in_listAt (eqU x) pl.isList (fun w hw => mem_eqAt rx fx r fs w (by simpa using hw)) ⟨.bl _, H, I, rfl, ?_⟩
    rw [show its.toArray.any (eqU x) = its.any (eqU x) by simp, any_eqU r fs]
    exact q
  · obtain ⟨its, r, pl, hz⟩ := I.tuple hq
    refine SeqAt.in_tupleAt (eqU x) pl (fun w hw => mem_eqAt rx fx r fs w (by simpa using hw)) ⟨.bl _, H, I, rfl, ?_⟩
    rw [show its.toArray.any (eqU x) = its.any (eqU x) by simp, any_eqU r fs]
    exact q
theorem op_notIn_seq : OpR X (compareOp .NotIn) (rIn X.K true) := by
  intro pins s σ H x y v u Q I rx ry h
  obtain ⟨p, xs, rfl, hq, fx, fs, q⟩ := h
  cases ry
  rcases hq with hq | hq
  · obtain ⟨its, r, pl, hz⟩ := I.list hq
    refine SeqAt.notIn_listAt (eqU x) pl.isList (fun w hw => mem_eqAt rx fx r fs w (by simpa using hw)) ⟨.bl _, H, I, rfl, ?_⟩
    rw [show its.toArray.any (eqU x) = its.any (eqU x) by simp, any_eqU r fs]
    exact q
  · obtain ⟨its, r, pl, hz⟩ := I.tuple hq
    refine SeqAt.notIn_tupleAt (eqU x) pl (fun w hw => mem_eqAt rx fx r fs w (by simpa using hw)) ⟨.bl _, H, I, rfl, ?_⟩
    rw [show its.toArray.any (eqU x) = its.any (eqU x) by simp, any_eqU r fs]
    exact q
theorem call_len_seq : CallR X (.builtin "len") (fun xs H Q => ∃ p ys, xs = [.ref p] ∧ (SqL X.K H p ys ∨ SqT X.K H p ys) ∧ Q (.int ys.length) H) := by
  intro pins s σ H xs us Q I r h
  obtain ⟨p, ys, rfl, hq, q⟩ := h
  obtain ⟨u, rfl, rx⟩ := vals1 r
  cases rx
  have hn := line63
  rcases hq with hq | hq
  · obtain ⟨its, r', pl, hz⟩ := I.list hq
    have hlen := r'.length
    exact Calls.call_len_list pl.isList (by simp only [List.size_toArray] <;> omega) ⟨.int ys.length, H, I.tok _, ⟨s.toks + 1, by rw [List.size_toArray, hlen]⟩, q⟩
  · obtain ⟨its, r', pl, hz⟩ := I.tuple hq
    have hlen := r'.length
    exact len_tuple pl (by simp only [List.size_toArray] <;> omega) ⟨.int ys.length, H, I.tok _, ⟨s.toks + 1, by rw [List.size_toArray, hlen]⟩, q⟩
theorem call_list_of : CallR X (.type "list") (fun xs H Q => ∃ p ys, xs = [.ref p] ∧ (SqL X.K H p ys ∨ SqT X.K H p ys) ∧ ∀ l, H l = none → Q (.ref l) (upd H l (.lst ys))) := by
  intro pins s σ H xs us Q I r h
  obtain ⟨p, ys, rfl, hq, q⟩ := h
  obtain ⟨u, rfl, rx⟩ := vals1 r
  cases rx
  have fin : ∀ (its : List Value), Vals ys its → ys.length ≤ sizeLine → ∀ (h' : Heap) (c' : Nat), (∀ b o', s.heap.get? b = some o' → h'.get? b = some o') →
      h'.get? s.heap.objs.size = some { cls := .type "list", dict := none, data := .seq its.toArray c', slots := #[] } → EP X pins σ Q (.ref s.heap.objs.size) { s with heap := h' } := fun its r' hz h' c' kp e =>
    ⟨.ref s.heap.objs.size, _, I.laid (t' := s.toks) kp (Nat.le_refl _) (show ObjOk X.prog X.w _ h' _ (.lst ys) from ⟨hz, its, c', r', e⟩), rfl, q _ (I.hok.fresh (Nat.le_refl _))⟩
  rcases hq with hq | hq
  · obtain ⟨its, r', pl, hz⟩ := I.list hq
    have hlen := r'.length
    obtain ⟨o, ho, hc, n, hd⟩ := pl.isList
    exact call_list_seq p (.inl rfl) ho hc hd (fun h' c' kp e => fin its r' hz h' c' kp e) (by simp only [List.size_toArray] <;> omega)
  · obtain ⟨its, r', pl, hz⟩ := I.tuple hq
    have hlen := r'.length
    obtain ⟨o, ho, hc, n, hd⟩ := pl
    exact call_list_seq p (.inr rfl) ho hc hd (fun h' c' kp e => fin its r' hz h' c' kp e) (by simp only [List.size_toArray] <;> omega)
theorem call_tuple_of : CallR X (.type "tuple") (fun xs H Q => ∃ p ys, xs = [.ref p] ∧ ((SqL X.K H p ys ∧ ∀ l, H l = none → Q (.ref l) (upd H l (.tup ys))) ∨ (SqT X.K H p ys ∧ Q (.ref p) H))) := by
  intro pins s σ H xs us Q I r h
  obtain ⟨p, ys, rfl, h⟩ := h
  obtain ⟨u, rfl, rx⟩ := vals1 r
  cases rx
  rcases h with ⟨hq, q⟩ | ⟨hq, q⟩
  · obtain ⟨its, r', pl, hz⟩ := I.list hq
    have hlen := r'.length
    refine call_tuple_list pl.isList (fun h' kp => ?_) (by simp only [List.size_toArray] <;> omega)
    have I1 : Inv X pins σ H { s with heap := h' } := I.kept (t' := s.toks) kp
    have I2 : Inv X pins σ (upd H h'.objs.size (.tup ys)) { s with heap := h'.push { cls := .type "tuple", data := .seq its.toArray } } :=
      I1.laid (t' := s.toks) (fun b o e => Heap.get?_push_of_some _ e) (Nat.le_refl _) (show ObjOk X.prog X.w _ _ _ (.tup ys) from ⟨hz, its, r', IsTup.new _ _⟩)
    exact ⟨.ref h'.objs.size, _, I2, rfl, q _ (I1.hok.fresh (Nat.le_refl _))⟩
  · obtain ⟨its, r', pl, hz⟩ := I.tuple hq
    exact call_tuple_same pl ⟨.ref p, H, I, rfl, q⟩

/-- the value is of that builtin type -/
def tyV (K : PySem.W.Frag) (T : String) (x : V) (H : Hp) : Prop := match x with
  | .str _ => T = "str"
  | .int _ => T = "int"
  | .ref p => (T = "list" ∧ ∃ xs, SqL K H p xs) ∨ (T = "tuple" ∧ ∃ o, K.lookup p = some o ∧ o.cls = .type "tuple" ∧ o.dict = none) ∨
      (T = "dict" ∧ ((∃ kvs, H p = some (.dK kvs)) ∨ ∃ kvs, H p = some (.dT kvs))) ∨ (T = "set" ∧ ∃ S n, H p = some (.set S n))
  | _ => False
theorem tyV_is {pins : List (Addr × Obj)} {σ : St} {H : Hp} {s : Shared} {T : String} {x : V} {v : Value} (I : Inv X pins σ H s) (r : RelV x v) (ty : tyV X.K T x H) :
    s.TypeIs v T ∧ ∀ a, v = .ref a → ∃ ob, s.heap.get? a = some ob ∧ ob.dict = none := by
  cases x with
  | str z =>
    obtain ⟨t, rfl⟩ := r
    cases (show T = "str" from ty)
    exact ⟨typeIs_str s z t, fun _ e => nomatch e⟩
  | int i =>
    obtain ⟨t, rfl⟩ := r
    cases (show T = "int" from ty)
    exact ⟨typeIs_int s i t, fun _ e => nomatch e⟩
  | ref p =>
    cases r
    rcases ty with ⟨rfl, xs, hq⟩ | ⟨rfl, o, hk, hc, hd⟩ | ⟨rfl, hk⟩ | ⟨rfl, S, n, hk⟩
    · obtain ⟨its, _, pl, _⟩ := I.list hq
      refine ⟨pl.isList.typeIs, fun a e => ?_⟩
      cases e
      obtain ⟨o, n, e, c, hd, _⟩ := pl
      exact ⟨o, e, hd⟩
    · refine ⟨⟨o, I.kIn p o hk, hc⟩, fun a e => ?_⟩
      cases e
      exact ⟨o, I.kIn _ o hk, hd⟩
    · have z : ∃ o, s.heap.get? p = some o ∧ o.ExactDict := by
        rcases hk with ⟨kvs, hk⟩ | ⟨kvs, hk⟩
        · obtain ⟨_, _, _, _, o, _, _, e, ex, _⟩ := I.hok p _ hk
          exact ⟨o, e, ex⟩
        · obtain ⟨_, _, _, _, o, _, _, e, ex, _⟩ := I.hok p _ hk
          exact ⟨o, e, ex⟩
      obtain ⟨o, e, ex⟩ := z
      refine ⟨⟨o, e, ex.1⟩, fun a e2 => ?_⟩
      cases e2
      exact ⟨o, e, ex.2.1⟩
    · obtain ⟨o, _, _, _, e, ex, _⟩ := I.hok p _ hk
      refine ⟨⟨o, e, ex.1⟩, fun a e2 => ?_⟩
      cases e2
      exact ⟨o, e, ex.2.1⟩
  | _ => exact False.elim ty
def tBM0 (K : PySem.W.Frag) (T : String) (r : V → List V → Hp → VK → Prop) (to : TE) : TE := fun σ H Q => to σ H fun x H1 => tyV K T x H1 ∧ r x [] H1 Q
def tBM (K : PySem.W.Frag) (T : String) (r : V → List V → Hp → VK → Prop) (to : TE) (t : TA) : TE := fun σ H Q => to σ H fun x H1 => tyV K T x H1 ∧ t σ H1 fun xs H2 => r x xs H2 Q
variable {o e : Expr} {es : List Expr} {to : TE} {t : TA} {name : Str} {apos cpos : Pos} {T id : String} {r : V → List V → Hp → VK → Prop}
theorem pe_bm0 (pa : PlainAttrs T) (slot : Slot T name id) (hty : typeOf (.builtin id) = pure (.type "method_descriptor")) (hm : MtR X id r) (ho : PE X o to)
    (hbase : attributeBase o name X.env (eval o X.env) = eval o X.env := by rfl) (hline : (apos.endLine == cpos.line) = true := by rfl) : PE X (.Call (.Attribute o name apos) [] [] cpos) (tBM0 X.K T r to) := by
  intro pins s σ H Q I h
  refine wpAny_Call_method0_late hbase hline (thn (ho pins s σ H _ I h) fun v s1 ⟨x, H1, I1, r1, ty, q1⟩ => ?_)
  obtain ⟨h1, h2⟩ := tyV_is I1 r1 ty
  exact ⟨T, id, pa, slot, hty, h1, h2, Calls.callWith_builtin rfl (PySem.evalArgs_none (hm pins s1 σ H1 x [] v [] Q I1 r1 .nil q1))⟩
theorem pe_bm (pa : PlainAttrs T) (slot : Slot T name id) (hty : typeOf (.builtin id) = pure (.type "method_descriptor")) (hm : MtR X id r) (ho : PE X o to) (ha : PA X (e :: es) t)
    (hbase : attributeBase o name X.env (eval o X.env) = eval o X.env := by rfl)
    (hfew : ((backTo cpos (starEach (e :: es) X.env)).all (fun x => !x.1) && (backToKw cpos (keywordEach [] X.env)).all (fun x => x.1.isSome)
      && decide ((e :: es).length + ([] : List Keyword).length + (if ([] : List Keyword).isEmpty then 0 else 1) < 30)) = true := by rfl)
    (hline : (apos.endLine == cpos.line) = true := by rfl) (hs : starEach (e :: es) X.env = (false, eval e X.env) :: starEach es X.env := by rfl) (hplain : (backTo cpos (starEach es X.env)).any (·.1) = false := by rfl) :
    PE X (.Call (.Attribute o name apos) (e :: es) [] cpos) (tBM X.K T r to t) := by
  intro pins s σ H Q I h
  refine wpAny_Call_method_late hbase hfew hline rfl (thn (ho pins s σ H _ I h) fun v s1 ⟨x, H1, I1, r1, ty, q1⟩ => ?_)
  obtain ⟨h1, h2⟩ := tyV_is I1 r1 ty
  refine ⟨T, id, pa, slot, hty, h1, h2, ?_⟩
  have hA := ha cpos pins s1 σ H1 _ I1 q1
  rw [hs] at hA ⊢
  refine Calls.callWith_builtin (by show (false || (backTo cpos (starEach es X.env)).any (·.1)) = false; rw [hplain] <;> rfl) (Calls.evalArgs_plain ?_)
  exact thn hA fun us s2 ⟨vs, H2, I2, r2, q2⟩ => hm pins s2 σ H2 x vs v us Q I2 r1 r2 q2
end
end L2

namespace L2
open PySem PySem.Spec PyProof.Rows

def MtM (X : Cx) (id : String) (r : V → List V → Hp → VK → Prop) : Prop :=
  ∀ (pins : List (Addr × Obj)) (s : Shared) (σ : St) (H : Hp) (x : V) (xs : List V) (v : Value) (us : List Value) (Q : VK), Inv X pins σ H s → RelV x v → Vals xs us → r x xs H Q →
    wpAny (model X.prog X.w) X.A (call (.builtin id) (v :: us)) (EP X pins σ Q) X.xe s

theorem Vals.one : ∀ {x : V} {us : List Value}, Vals [x] us → ∃ u, us = [u] ∧ RelV x u
  | _, _, .cons r .nil => ⟨_, rfl, r⟩
theorem Vals.zero : ∀ {us : List Value}, Vals [] us → us = []
  | _, .nil => rfl
theorem Vals.dropLast {xs : List V} {us : List Value} (h : Vals xs us) : Vals xs.dropLast us.dropLast := by
  induction h with
  | nil => exact .nil
  | cons r t ih =>
    cases t with
    | nil => exact .nil
    | cons q t' => exact .cons r ih
theorem erase_last {α : Type} (l : List α) : l.eraseIdx (l.length - 1) = l.dropLast := by
  induction l with
  | nil => rfl
  | cons a r ih =>
    cases r with
    | nil => rfl
    | cons b r =>
      have e : (a :: b :: r).length - 1 = ((b :: r).length - 1) + 1 := by
        have h1 : (a :: b :: r).length = r.length + 2 := rfl
        have h2 : (b :: r).length = r.length + 1 := rfl
        omega
      rw [e, List.eraseIdx_cons_succ, ih]
      all_goals rfl
section
variable {X : Cx} {pins : List (Addr × Obj)} {σ : St} {H : Hp} {s : Shared} {l b : Addr} {xs ys zs : List V}

theorem Inv.lset {its its' : List Value} {n : Nat} {f : Array Value → Array Value} {t' : Nat} (I : Inv X pins σ H s) (hH : H l = some (.lst xs))
    (e : s.heap.get? l = some { cls := .type "list", data := .seq its.toArray n }) (hf : f its.toArray = its'.toArray) (hv : Vals ys its') (hz : ys.length ≤ sizeLine) :
    Inv X pins σ (upd H l (.lst ys)) { s with heap := s.heap.update l (Obj.mapSeq f), toks := t' } := by
  have q := PySem.IsL.update e f
  rw [hf] at q
  refine I.write (x := l) (e := l) (by rw [hH]; exact trivial) (.inl rfl) (fun b' u hb hu => (Heap.get?_update_other s.heap (Obj.mapSeq f) (Ne.symm hb)).trans hu) ⟨_, q⟩ ?_
  exact ⟨hz, its', _, hv, q⟩
theorem Inv.lnew {its : List Value} {t' : Nat} (I : Inv X pins σ H s) (hv : Vals ys its) (hz : ys.length ≤ sizeLine) :
    Inv X pins σ (upd H s.heap.objs.size (.lst ys)) { s with heap := s.heap.push { cls := .type "list", data := .seq its.toArray }, toks := t' } :=
  I.laid (fun _ _ q => Heap.get?_push_of_some _ q) (Nat.le_refl _) ⟨hz, its, 0, hv, Heap.get?_push_size _ rfl⟩
theorem Inv.fresh (I : Inv X pins σ H s) : H s.heap.objs.size = none := I.hok.fresh (Nat.le_refl _)
theorem Inv.lstM (I : Inv X pins σ H s) (hH : H l = some (.lst xs)) : xs.length ≤ sizeLine ∧ ∃ (its : List Value) (n : Nat), Vals xs its ∧ xs.length = its.length ∧ s.heap.get? l = some { cls := .type "list", data := .seq its.toArray n } := by
  obtain ⟨z, its, n, r, e⟩ := I.hok l _ hH
  exact ⟨z, its, n, r, r.length, e⟩

theorem notLongL {n : Nat} (h : n ≤ sizeLine) : Builtin.List.listTooLong n = false := by
  unfold Builtin.List.listTooLong
  exact decide_eq_false (by omega)
end

section
variable {X : Cx}

inductive rAppend (x : V) (vs : List V) (H : Hp) (Q : VK) : Prop
  | mk l xs y : x = .ref l → vs = [y] → H l = some (.lst xs) → xs.length < sizeLine → Q .non (upd H l (.lst (xs ++ [y]))) → rAppend x vs H Q
theorem mt_append : MtM X "list.append" rAppend := by
  intro pins s σ H x vs v us Q I rx rv h
  obtain ⟨l, xs, y, rfl, rfl, hH, hz, q⟩ := h
  cases rx
  obtain ⟨u, rfl, ru⟩ := rv.one
  obtain ⟨z, its, n, r, hl, e⟩ := I.lstM hH
  refine call_meets F.slot_list_append ⟨_, e, rfl⟩ F.entry_list_append (F.args_list_append_2 _ _) (PySem.list_append l its.toArray n u (by rw [List.size_toArray]; omega)) ⟨e, ?_⟩
  refine ⟨.non, _, I.lset (its' := its ++ [u]) hH e (by simp) (r.append (.cons ru .nil)) ?_, rfl, q⟩
  rw [List.length_append, List.length_singleton]
  omega

inductive rExtend (x : V) (vs : List V) (H : Hp) (Q : VK) : Prop
  | mk l b xs zs : x = .ref l → vs = [.ref b] → H l = some (.lst xs) → H b = some (.lst zs) → xs.length + zs.length ≤ sizeLine → Q .non (upd H l (.lst (xs ++ zs))) → rExtend x vs H Q
theorem mt_extend : MtM X "list.extend" rExtend := by
  intro pins s σ H x vs v us Q I rx rv h
  obtain ⟨l, b, xs, zs, rfl, rfl, hH, hB, hz, q⟩ := h
  cases rx
  obtain ⟨u, rfl, ru⟩ := rv.one
  cases ru
  obtain ⟨z, its, n, r, hl, e⟩ := I.lstM hH
  obtain ⟨z2, its2, n2, r2, hl2, e2⟩ := I.lstM hB
  have hsz : its.toArray.size + its2.toArray.size ≤ sizeLine := by rw [List.size_toArray, List.size_toArray]; omega
  have hlong : ¬ (!its.toArray.isEmpty && Builtin.List.listTooLong (its.toArray.size + its2.toArray.size)) = true := by
    rw [notLongL hsz, Bool.and_false]
    exact Bool.false_ne_true
  refine call_meets F.slot_list_extend ⟨_, e, rfl⟩ F.entry_list_extend (F.args_list_extend_2 _ _)
    (AutoSeq1.list_extend_list_list_0 l its.toArray n b its2.toArray n2 hlong (by rw [List.size_toArray]; omega) (by omega)) ⟨e, e2, ?_⟩
  refine ⟨.non, _, I.lset (its' := its ++ its2) hH e (by simp) (r.append r2) ?_, rfl, q⟩
  rw [List.length_append]
  omega

inductive rPop (x : V) (vs : List V) (H : Hp) (Q : VK) : Prop
  | mk l xs y : x = .ref l → vs = [] → H l = some (.lst xs) → xs[xs.length - 1]? = some y → Q y (upd H l (.lst xs.dropLast)) → rPop x vs H Q
theorem mt_pop : MtM X "list.pop" rPop := by
  intro pins s σ H x vs v us Q I rx rv h
  obtain ⟨l, xs, y, rfl, rfl, hH, hy, q⟩ := h
  cases rx
  have hus := rv.zero
  subst hus
  obtain ⟨z, its, n, r, hl, e⟩ := I.lstM hH
  obtain ⟨u, hu, ru⟩ := r.get hy
  have hy' : its.toArray[its.toArray.size - 1]? = some u := by
    show its.toArray[its.length - 1]? = some u
    rw [← Array.getElem?_toList, ← hl]
    exact hu
  refine call_meets F.slot_list_pop ⟨_, e, rfl⟩ F.entry_list_pop (F.args_list_pop_1 _) (MeetsSeq.list_pop_last l its.toArray n u hy' (by rw [List.size_toArray]; omega)) ⟨e, ?_⟩
  refine ⟨y, _, I.lset (its' := its.dropLast) hH e ?_ r.dropLast ?_, ru, q⟩
  · show its.toArray.eraseIdxIfInBounds (its.toArray.size - 1) = its.dropLast.toArray
    rw [List.size_toArray, List.eraseIdxIfInBounds_toArray, erase_last]
  · rw [List.length_dropLast]
    omega

inductive rCat (x : V) (y : V) (H : Hp) (Q : VK) : Prop
  | mk l b xs zs : x = .ref l → y = .ref b → H l = some (.lst xs) → H b = some (.lst zs) → xs.length + zs.length ≤ sizeLine → (∀ p, H p = none → Q (.ref p) (upd H p (.lst (xs ++ zs)))) → rCat x y H Q
theorem op_cat : OpR X (binaryOp .Add) rCat := by
  intro pins s σ H x y v u Q I rx ry h
  obtain ⟨l, b, xs, zs, rfl, rfl, hH, hB, hz, q⟩ := h
  cases rx
  cases ry
  obtain ⟨z, its, n, r, hl, e⟩ := I.lstM hH
  obtain ⟨z2, its2, n2, r2, hl2, e2⟩ := I.lstM hB
  refine PySem.P.add_list e e2 ?_ (by rw [List.size_toArray, List.size_toArray]; omega)
  have ea : its.toArray ++ its2.toArray = (its ++ its2).toArray := by simp
  rw [ea]
  exact ⟨.ref _, _, I.lnew (t' := s.toks) (r.append r2) (by rw [List.length_append]; omega), rfl, q _ I.fresh⟩
end

section
variable {prog : Program} {w : World} {A : Around} {E : Value → Shared → Prop} {s : Shared}
set_option maxRecDepth 100000 in
end

section
variable {X : Cx}
end
end L2

namespace L2
open PySem PySem.Spec PyProof.Rows

theorem Vals.bls : ∀ {bs : List Bool} {us : List Value}, Vals (bs.map V.bl) us → us = bs.map Value.bool
  | [], us, h => by
    rw [List.map_nil] at h
    cases h
    rfl
  | b :: bs, us, h => by
    rw [List.map_cons] at h
    cases h with
    | cons r t =>
      cases r
      rw [Vals.bls t, List.map_cons]
theorem Vals.ref1 {a : Addr} {us : List Value} (r : Vals [V.ref a] us) : us = [Value.ref a] := by
  cases r with
  | cons r t =>
    cases t
    cases r
    rfl
section
variable {prog : Program} {w : World} {A : Around} {E : Value → Shared → Prop} {s : Shared} {l : Addr} {its : List Value} {ns : List Int} {Q : Value → Shared → Prop}
end

section
variable {X : Cx}
end

section
variable {X : Cx}
end

section
variable {X : Cx}
end

theorem iter_any {prog : Program} {w : World} {A : Around} {E : Value → Shared → Prop} {s : Shared} {l : Addr} {items : Array Value} {Q : Value → Shared → Prop} (hl : s.heap.IsList l items)
    (h : ∀ s₂ : Shared, s₂ = { s with heap := s.heap.push { cls := .type "list_iterator", data := .fields #[.ref l, .int 0 0] } } →
      (s₂.heap.IsListIter s.heap.objs.size l 0 ∧ s₂.heap.IsList l items) → l ≠ s.heap.objs.size → Q (.ref s.heap.objs.size) s₂) : wpAny (model prog w) A (pyIter (.ref l)) Q E s := by
  have hlt : l < s.heap.objs.size := by obtain ⟨_, e, _⟩ := hl; exact Heap.lt_size e
  exact wpAny_pyIter_list hl (h _ rfl ⟨⟨_, Heap.get?_push_size _ rfl, rfl, rfl⟩, hl.push _⟩ (Nat.ne_of_lt hlt))
theorem truth_bools {prog : Program} {w : World} {A : Around} {bs : List Bool} {its : List Value} (e : its = bs.map Value.bool) :
    TruthOf prog w A (fun i v => its.toArray[i]? = some v) (fun i => bs.getD i false) := fun i v s Q E hv hq => by
  have hv' : its[i]? = some v := by simpa using hv
  rw [e, List.getElem?_map] at hv'
  obtain ⟨b, hb, rfl⟩ := Option.map_eq_some_iff.mp hv'
  have hg : bs.getD i false = b := by rw [List.getD_eq_getElem?_getD, hb] <;> rfl
  have hq' : Q (bs.getD i false) s := hq
  rw [hg] at hq'
  exact wpAny_truthy_bool hq'
theorem all_range : ∀ bs : List Bool, (List.range bs.length).all (fun i => bs.getD i false) = bs.all id
  | [] => rfl
  | b :: bs => by
    rw [List.length_cons, List.range_succ_eq_map, List.all_cons, List.all_map, List.all_cons, ← all_range bs]
    all_goals rfl
section
variable {X : Cx}
inductive rAll (K : PySem.W.Frag) (vs : List V) (H : Hp) (Q : VK) : Prop
  | mk (a : Addr) (bs : List Bool) : vs = [V.ref a] → SqL K H a (bs.map V.bl) → Q (.bl (bs.all id)) H → rAll K vs H Q
theorem cr_all (hc : X.calm = true) : CallR X (.builtin "all") (rAll X.K) := by
  intro pins s σ H vs us Q I r h
  obtain ⟨a, bs, rfl, hs, q⟩ := h
  obtain ⟨its, rv, hl, _⟩ := I.list hs
  rw [Vals.ref1 r]
  have hb := rv.bls
  refine call_all_walk (iter_any hl.isList fun s₂ e2 st hne => ?_)
  subst e2
  refine ⟨_, _, _, _, _, _, _, rfl, Walks.list (A := X.A.in1) (I.ok.hd hc) _ a hne its.toArray, st, truth_bools hb, fun h' tk hk => ?_⟩
  refine ⟨.bl _, H, I.kept fun b o eo => hk b o (fun hmem => ?_) (Heap.get?_push_of_some _ eo), ?_, q⟩
  · rcases List.mem_cons.mp hmem with e1 | hmem
    · exact absurd (e1 ▸ Heap.lt_size eo) (Nat.lt_irrefl _)
    · cases hmem
  · show Value.bool _ = Value.bool _
    rw [← all_range, hb, List.size_toArray, List.length_map]
end

mutual
inductive Dp (K : PySem.W.Frag) (H : Hp) : V → PyData → Prop
  | non : Dp K H .non .none
  | bl (b : Bool) : Dp K H (.bl b) (.bool b)
  | int (i : Int) : Dp K H (.int i) (.int i)
  | str (x : Str) : Dp K H (.str x) (.str x)
  | lst {a : Addr} {xs : List V} {ds : List PyData} : SqL K H a xs → DpAll K H xs ds → Dp K H (.ref a) (.list ds)
  | tup {a : Addr} {xs : List V} {ds : List PyData} : SqT K H a xs → DpAll K H xs ds → Dp K H (.ref a) (.tuple ds)
inductive DpAll (K : PySem.W.Frag) (H : Hp) : List V → List PyData → Prop
  | nil : DpAll K H [] []
  | cons {v : V} {vs : List V} {d : PyData} {ds : List PyData} : Dp K H v d → DpAll K H vs ds → DpAll K H (v :: vs) (d :: ds)
end
section
variable {X : Cx} {pins : List (Addr × Obj)} {σ : St} {H : Hp} {s : Shared}
mutual
theorem Dp.reads (I : Inv X pins σ H s) : ∀ (d : PyData) (v : V) (u : Value), Dp X.K H v d → RelV v u → ∃ as, Reads s.heap u d as
  | .none, _, _, h, r => by
    cases h
    cases r
    exact ⟨_, Reads.none⟩
  | .bool b, _, _, h, r => by
    cases h
    cases r
    exact ⟨_, Reads.bool b⟩
  | .int i, _, _, h, r => by
    cases h
    obtain ⟨t, rfl⟩ := r
    exact ⟨_, Reads.int i t⟩
  | .str x, _, _, h, r => by
    cases h
    obtain ⟨t, rfl⟩ := r
    exact ⟨_, Reads.str x t⟩
  | .list ds, _, _, h, r => by
    cases h with
    | lst hs ha =>
      cases r
      obtain ⟨its, rv, ⟨o, n, ho, hc, _, hd⟩, _⟩ := I.list hs
      obtain ⟨as, hr⟩ := Dp.readsAll I ds _ its ha rv
      exact ⟨_, Reads.list ho hc hd hr⟩
  | .tuple ds, _, _, h, r => by
    cases h with
    | tup hs ha =>
      cases r
      obtain ⟨its, rv, ⟨o, ho, hc, n, hd⟩, _⟩ := I.tuple hs
      obtain ⟨as, hr⟩ := Dp.readsAll I ds _ its ha rv
      exact ⟨_, Reads.tuple ho hc hd hr⟩
  | .dict _, _, _, h, _ => by cases h
theorem Dp.readsAll (I : Inv X pins σ H s) : ∀ (ds : List PyData) (vs : List V) (us : List Value), DpAll X.K H vs ds → Vals vs us → ∃ as, ReadsAll s.heap us ds as
  | [], _, _, h, r => by
    cases h
    cases r
    exact ⟨_, ReadsAll.nil⟩
  | d :: ds, _, _, h, r => by
    cases h with
    | cons h1 h2 =>
      cases r with
      | cons r1 r2 =>
        obtain ⟨as, q1⟩ := Dp.reads I d _ _ h1 r1
        obtain ⟨bs, q2⟩ := Dp.readsAll I ds _ _ h2 r2
        exact ⟨_, ReadsAll.cons q1 q2⟩
end
end
section
variable {X : Cx}
inductive rEqD (K : PySem.W.Frag) (x : V) (y : V) (H : Hp) (Q : VK) : Prop
  | mk d e : Dp K H x d → Dp K H y e → SeqAt.shaped d = true → SeqAt.shaped e = true → Q (.bl (PyData.eqv d e)) H → rEqD K x y H Q
inductive rNeD (K : PySem.W.Frag) (x : V) (y : V) (H : Hp) (Q : VK) : Prop
  | mk d e : Dp K H x d → Dp K H y e → SeqAt.shaped d = true → SeqAt.shaped e = true → Q (.bl (!PyData.eqv d e)) H → rNeD K x y H Q
theorem op_eqD (hu : X.A.units + 64 < cLine) : OpR X (compareOp .Eq) (rEqD X.K) := by
  intro pins s σ H x y v u Q I rx ry h
  obtain ⟨d, e, hd, he, sd, se, q⟩ := h
  obtain ⟨as, r1⟩ := Dp.reads I d x v hd rx
  obtain ⟨bs, r2⟩ := Dp.reads I e y u he ry
  exact SeqAt.compareEq_shaped r1 r2 sd se hu ⟨.bl _, H, I, rfl, q⟩
theorem op_neD (hu : X.A.units + 64 < cLine) : OpR X (compareOp .NotEq) (rNeD X.K) := by
  intro pins s σ H x y v u Q I rx ry h
  obtain ⟨d, e, hd, he, sd, se, q⟩ := h
  obtain ⟨as, r1⟩ := Dp.reads I d x v hd rx
  obtain ⟨bs, r2⟩ := Dp.reads I e y u he ry
  exact SeqAt.compareNe_shaped r1 r2 sd se hu ⟨.bl _, H, I, rfl, q⟩
end
end L2

namespace L2
open PySem PySem.Spec PyProof.Rows
abbrev CellAt (h : Heap) (c : Addr) (v : Option Value) : Prop := h.IsCell c v
def relS (scope sc : Scope) : Scope :=
  { scope with names := scope.names.map fun (n, k) => if (k == .free && sc.kind == .function && sc.names.lookup n == some .cell) then (n, .cell) else (n, k) }

def cloFrom (cells : List (Str × Addr)) : List (Str × NameKind) → List (Str × Addr) → List (Str × Addr)
  | [], acc => acc
  | (n, k) :: r, acc => if k == .free then cloFrom cells r ((n, (cells.lookup n).getD 0) :: acc) else cloFrom cells r acc

theorem closure_loop (env : Env) (f : Str × NameKind → List (Str × Addr) → Sem (ForInStep (List (Str × Addr))))
    (hf : ∀ n k c, f (n, k) c = if k == .free then (do let a ← cellOf env n; pure (.yield ((n, a) :: c))) else pure (.yield c)) :
    ∀ (names : List (Str × NameKind)) (acc : List (Str × Addr)), (∀ y ∈ names, y.2 = .free → ∃ c, env.cells.lookup y.1 = some c) → forIn names acc f = pure (cloFrom env.cells names acc)
  | [], acc, _ => by rw [List.forIn_nil]; rfl
  | (n, k) :: r, acc, h => by
    rw [List.forIn_cons, hf]
    have ih := fun acc => closure_loop env f hf r acc fun y hy => h y (List.mem_cons_of_mem _ hy)
    unfold cloFrom
    by_cases hk : (k == NameKind.free) = true
    · rw [if_pos hk, if_pos hk]
      obtain ⟨c, hc⟩ := h (n, k) List.mem_cons_self (by simpa using hk)
      have e : cellOf env n = pure c := by unfold cellOf; rw [hc]
      rw [e]
      have e2 : (env.cells.lookup n).getD 0 = c := by rw [hc]; rfl
      rw [e2]
      exact ih _
    · rw [if_neg hk, if_neg hk]
      exact ih _
theorem closure_ok {scope : Scope} {env : Env} (h : ∀ y ∈ scope.names, y.2 = .free → ∃ c, env.cells.lookup y.1 = some c) : closureFor scope env = pure (cloFrom env.cells scope.names []) := by
  simp only [closureFor]
  rw [closure_loop env _ (fun n k c => rfl) scope.names [] h]
  rfl

theorem mem_lookup {α : Type} : ∀ {l : List (Str × α)} {n : Str} {c : α}, (n, c) ∈ l → ∃ c', l.lookup n = some c'
  | (k, v) :: r, n, c, h => by
    rw [List.lookup_cons]
    cases hb : n == k with
    | true => exact ⟨_, rfl⟩
    | false =>
      rcases List.mem_cons.mp h with e | h
      · cases e; simp at hb
      · exact mem_lookup h

theorem cloFrom_mem {cells : List (Str × Addr)} : ∀ {names : List (Str × NameKind)} {acc : List (Str × Addr)} {n : Str} {c : Addr}, (n, c) ∈ cloFrom cells names acc → (n, c) ∈ acc ∨ ((n, .free) ∈ names ∧ c = (cells.lookup n).getD 0)
  | [], _, _, _, h => .inl h
  | (m, k) :: r, acc, n, c, h => by
    unfold cloFrom at h
    split at h
    · rename_i hk
      have hk : k = .free := by simpa using hk
      rcases cloFrom_mem h with h | ⟨h1, h2⟩
      · rcases List.mem_cons.mp h with e | h
        · cases e; exact .inr ⟨hk ▸ List.mem_cons_self, rfl⟩
        · exact .inl h
      · exact .inr ⟨List.mem_cons_of_mem _ h1, h2⟩
    · rcases cloFrom_mem h with h | ⟨h1, h2⟩
      · exact .inl h
      · exact .inr ⟨List.mem_cons_of_mem _ h1, h2⟩
theorem cloFrom_acc {cells : List (Str × Addr)} : ∀ {names : List (Str × NameKind)} {acc : List (Str × Addr)} {p : Str × Addr}, p ∈ acc → p ∈ cloFrom cells names acc
  | [], _, _, h => h
  | (m, k) :: r, acc, p, h => by
    unfold cloFrom
    split
    · exact cloFrom_acc (List.mem_cons_of_mem _ h)
    · exact cloFrom_acc h
theorem cloFrom_has {cells : List (Str × Addr)} : ∀ {names : List (Str × NameKind)} {acc : List (Str × Addr)} {n : Str}, (n, .free) ∈ names → (n, (cells.lookup n).getD 0) ∈ cloFrom cells names acc
  | (m, k) :: r, acc, n, h => by
    unfold cloFrom
    rcases List.mem_cons.mp h with e | h
    · cases e
      exact cloFrom_acc List.mem_cons_self
    · split
      · exact cloFrom_has h
      · exact cloFrom_has h

theorem cells_mem : ∀ {names : List (Str × NameKind)} {h : Heap} {acc : List (Str × Addr)} {x : Str} {c : Addr}, (x, c) ∈ cellsFrom h.objs.size names acc →
    (x, c) ∈ acc ∨ ((x, .cell) ∈ names ∧ h.objs.size ≤ c ∧ CellAt (pushCells h names) c none)
  | [], _, _, _, _, h => .inl h
  | (n, k) :: r, h, acc, x, c, hm => by
    unfold cellsFrom at hm
    unfold pushCells
    split at hm
    · rename_i hk
      rw [if_pos hk]
      have hk : k = .cell := by simpa using hk
      rw [← Heap.size_push h { cls := .type "cell", data := .cell none }] at hm
      rcases cells_mem hm with hm | ⟨h1, h2, h3⟩
      · rcases List.mem_cons.mp hm with e | hm
        · cases e
          exact .inr ⟨hk ▸ List.mem_cons_self, Nat.le_refl _, _, pushCells_keeps r _ _ _ (Heap.get?_push_size _ rfl), rfl⟩
        · exact .inl hm
      · rw [Heap.size_push] at h2
        exact .inr ⟨List.mem_cons_of_mem _ h1, Nat.le_of_succ_le h2, h3⟩
    · rename_i hk
      rw [if_neg hk]
      rcases cells_mem hm with hm | ⟨h1, h2, h3⟩
      · exact .inl hm
      · exact .inr ⟨List.mem_cons_of_mem _ h1, h2, h3⟩
theorem cells_acc : ∀ {names : List (Str × NameKind)} {n : Nat} {acc : List (Str × Addr)} {p : Str × Addr}, p ∈ acc → p ∈ cellsFrom n names acc
  | [], _, _, _, h => h
  | (m, k) :: r, n, acc, p, h => by
    unfold cellsFrom
    split
    · exact cells_acc (List.mem_cons_of_mem _ h)
    · exact cells_acc h
theorem cells_has : ∀ {names : List (Str × NameKind)} {n : Nat} {acc : List (Str × Addr)} {x : Str}, (x, .cell) ∈ names → ∃ c, (x, c) ∈ cellsFrom n names acc
  | (m, k) :: r, n, acc, x, h => by
    unfold cellsFrom
    rcases List.mem_cons.mp h with e | h
    · cases e
      exact ⟨n, cells_acc List.mem_cons_self⟩
    · split
      · exact cells_has h
      · exact cells_has h
theorem cells_inj : ∀ {names : List (Str × NameKind)} {h : Heap} {acc : List (Str × Addr)} {x y : Str} {c : Addr}, (∀ p ∈ acc, p.2 < h.objs.size) → (∀ x y c, (x, c) ∈ acc → (y, c) ∈ acc → x = y) →
    (x, c) ∈ cellsFrom h.objs.size names acc → (y, c) ∈ cellsFrom h.objs.size names acc → x = y
  | [], _, _, _, _, _, _, hi, h1, h2 => hi _ _ _ h1 h2
  | (n, k) :: r, h, acc, x, y, c, hl, hi, h1, h2 => by
    unfold cellsFrom at h1 h2
    split at h1
    · rename_i hk
      rw [if_pos hk] at h2
      rw [← Heap.size_push h { cls := .type "cell", data := .cell none }] at h1 h2
      refine cells_inj (h := h.push _) (fun p hp => ?_) (fun x y c a b => ?_) h1 h2
      · rw [Heap.size_push]
        rcases List.mem_cons.mp hp with rfl | hp
        · exact Nat.lt_succ_self _
        · exact Nat.lt_succ_of_lt (hl p hp)
      · rcases List.mem_cons.mp a with e | a <;> rcases List.mem_cons.mp b with e' | b
        · cases e; cases e'; rfl
        · cases e; exact absurd (hl _ b) (Nat.lt_irrefl _)
        · cases e'; exact absurd (hl _ a) (Nat.lt_irrefl _)
        · exact hi _ _ _ a b
    · rename_i hk
      rw [if_neg hk] at h2
      exact cells_inj hl hi h1 h2

theorem newEnv_comp {M : Model} {A : Around} {E : Value → Shared → Prop} {s : Shared} {scope : Scope} {globals : Addr} {closure : List (Str × Addr)} {qual : Str} {func : Option Addr} {code : Value} {around : Env} {builtins : Addr} {Q : Env → Shared → Prop}
    (h : Q (newEnv scope s.heap.objs.size globals (cellsFrom (s.heap.objs.size + 1) scope.names closure) qual func code (some around) builtins)
      { s with heap := pushCells (s.heap.push { cls := .type "dict", data := .dict #[] }) scope.names }) :
    wpAny M A (newFunctionEnv scope globals closure [] qual func code (some around) builtins) Q E s := by
  simp only [newFunctionEnv, Option.isSome_some, if_true]
  refine wpAny_bind (wpAny_alloc ?_)
  refine wpAny_bind (wpAny_layCells _ (fun n k c => rfl) scope.names closure _ _ ?_)
  rw [show ({ s with heap := s.heap.push { cls := .type "dict", data := .dict #[] } } : Shared).heap.objs.size = s.heap.objs.size + 1 from Heap.size_push ..]
  rw [List.forIn_nil]
  exact wpAny_bind (wpAny_pure (wpAny_pure h))

/-- every name of the written scope, in the scope that runs -/
theorem lookup_relS {sc : Scope} : ∀ {names : List (Str × NameKind)} {x : Str} {k : NameKind},
    (names.map fun (n, k) => if (k == NameKind.free && sc.kind == .function && sc.names.lookup n == some .cell) then (n, NameKind.cell) else (n, k)).lookup x = some k →
    ∃ k', names.lookup x = some k' ∧ (k = k' ∨ (k' = .free ∧ k = .cell))
  | [], _, _, h => by simp at h
  | (n, k₀) :: r, x, k, h => by
    have ih := @lookup_relS sc r x k
    have h' : List.lookup x ((if (k₀ == NameKind.free && sc.kind == .function && sc.names.lookup n == some .cell) = true then (n, NameKind.cell) else (n, k₀)) :: (r.map _)) = some k := h
    cases hx : x == n with
    | true =>
      simp only [List.lookup_cons, hx]
      by_cases hc : (k₀ == NameKind.free && sc.kind == .function && sc.names.lookup n == some .cell) = true
      · rw [if_pos hc] at h'
        simp only [List.lookup_cons, hx] at h'
        cases h'
        simp only [Bool.and_eq_true, beq_iff_eq] at hc
        exact ⟨k₀, rfl, .inr ⟨hc.1.1, rfl⟩⟩
      · rw [if_neg hc] at h'
        simp only [List.lookup_cons, hx] at h'
        cases h'
        exact ⟨_, rfl, .inl rfl⟩
    | false =>
      simp only [List.lookup_cons, hx]
      by_cases hc : (k₀ == NameKind.free && sc.kind == .function && sc.names.lookup n == some .cell) = true
      · rw [if_pos hc] at h'
        simp only [List.lookup_cons, hx] at h'
        exact ih h'
      · rw [if_neg hc] at h'
        simp only [List.lookup_cons, hx] at h'
        exact ih h'
/-- the names of a comprehension's block: its own (with their places in N), or captured -/
structure BlkOk (N : List Str) (sc scope : Scope) (own : List (Str × Nat)) : Prop where
  kind : scope.kind = .function
  uniq : ∀ y ∈ scope.names, scope.names.lookup y.1 = some y.2
  ix : ∀ p ∈ own, N[p.2]? = some p.1
  free : ∀ y ∈ scope.names, y.2 = .free → sc.names.lookup y.1 = some .cell ∨ sc.names.lookup y.1 = some .free
  own : ∀ y ∈ scope.names, y.2 = .local ∨ y.2 = .cell → y.1 ∈ own.map (·.1) ∨ y.1 ∉ N
/-- the slots of the block's own names forgotten -/
def wipe (σ : St) : List Nat → St
  | [] => σ
  | v :: vs => (wipe σ vs).set v none
theorem wipe_length (σ : St) : ∀ vs : List Nat, (wipe σ vs).length = σ.length
  | [] => rfl
  | v :: vs => by unfold wipe; rw [List.length_set, wipe_length σ vs]
theorem wipe_some {σ : St} {i : Nat} {x : V} : ∀ {vs : List Nat}, (wipe σ vs)[i]? = some (some x) → σ[i]? = some (some x) ∧ i ∉ vs
  | [], h => ⟨h, by simp⟩
  | v :: vs, h => by
    unfold wipe at h
    by_cases hi : v = i
    · subst hi
      by_cases hv : v < (wipe σ vs).length
      · rw [List.getElem?_set_self hv] at h; cases h
      · rw [List.getElem?_eq_none (by simpa using hv)] at h; cases h
    · rw [List.getElem?_set_ne hi] at h
      obtain ⟨h1, h2⟩ := wipe_some h
      exact ⟨h1, by simp only [List.mem_cons, not_or]; exact ⟨fun e => hi e.symm, h2⟩⟩

/-- the context of a block that starts at s, its iterator's objects at fp -/
abbrev Cx.blk (X : Cx) (s : Shared) (H : Hp) (scope : Scope) (cenv : Env) (fp : List Addr) : Cx := { X with s₀ := s, H₀ := H, env := cenv, outer := X.stack, ex := fp, fn := fun x => scope.names.lookup x == some .cell, pn := [], xe := fun _ _ => False }
section
variable {X : Cx} {pins : List (Addr × Obj)} {σ : St} {H : Hp} {s : Shared}
theorem block_start {scope : Scope} {own : List (Str × Nat)} {fp : List Addr} (I : Inv X pins σ H s) (ok : BlkOk X.N X.env.scope scope own) (hN : X.N.Nodup) (hfp : ∀ b ∈ fp, FpOk X pins H b ∧ b < s.heap.objs.size) :
    Inv (X.blk s H scope (compEnvC scope (cellsFrom (s.heap.objs.size + 1) scope.names (cloFrom X.env.cells scope.names [])) s.heap.objs.size X.env) fp) [] (wipe σ (own.map (·.2))) H { s with heap := pushCells (s.heap.push { cls := .type "dict", data := .dict #[] }) scope.names } := by
  have hfree : ∀ y ∈ scope.names, y.2 = .free → ∃ c, X.env.cells.lookup y.1 = some c := fun y hy e => by
    rcases ok.free y hy e with k | k
    · exact I.ok.has _ (.inl k)
    · exact I.ok.has _ (.inr k)
  generalize hcenv : compEnvC scope (cellsFrom (s.heap.objs.size + 1) scope.names (cloFrom X.env.cells scope.names [])) s.heap.objs.size X.env = cenv
  have kp : ∀ b o, s.heap.get? b = some o → (pushCells (s.heap.push { cls := .type "dict", data := .dict #[] }) scope.names).get? b = some o := fun b o e => pushCells_keeps _ _ _ _ (Heap.get?_push_of_some _ e)
  have hL : cenv.locals = s.heap.objs.size := by rw [← hcenv]; rfl
  have hcl : cenv.cells = cellsFrom (s.heap.objs.size + 1) scope.names (cloFrom X.env.cells scope.names []) := by rw [← hcenv]; rfl
  have hsc : cenv.scope = relS scope X.env.scope := by rw [← hcenv]; rfl
  rw [← Heap.size_push s.heap { cls := .type "dict", data := .dict #[] }] at hcl
  have cm : ∀ {y c}, (y, c) ∈ cloFrom X.env.cells scope.names [] → X.env.cells.lookup y = some c ∧ c < s.heap.objs.size := fun {y c} hm => by
    rcases cloFrom_mem hm with hm | ⟨h1, rfl⟩
    · cases hm
    · obtain ⟨c, hc⟩ := hfree _ h1 rfl
      rw [hc]
      obtain ⟨w, z⟩ := I.cell _ _ hc
      exact ⟨rfl, z.lt⟩
  have mem : ∀ {y c}, cenv.cells.lookup y = some c → (X.env.cells.lookup y = some c ∧ c < s.heap.objs.size) ∨ (s.heap.objs.size + 1 ≤ c ∧ CellAt (pushCells (s.heap.push { cls := .type "dict", data := .dict #[] }) scope.names) c none) := fun {y c} e => by
    rw [hcl] at e
    rcases cells_mem (PySem.mem_of_lookup e) with hm | ⟨_, h2, h3⟩
    · exact .inl (cm hm)
    · rw [Heap.size_push] at h2; exact .inr ⟨h2, h3⟩
  have look : ∀ {y}, scope.names.lookup y = some .free → ∃ c, cenv.cells.lookup y = some c ∧ X.env.cells.lookup y = some c := fun {y} hl => by
    have hy : (y, NameKind.free) ∈ scope.names := PySem.mem_of_lookup hl
    obtain ⟨c', e'⟩ := mem_lookup (cells_acc (names := scope.names) (n := (s.heap.push { cls := .type "dict", data := .dict #[] }).objs.size) (cloFrom_has (cells := X.env.cells) (acc := []) hy))
    rw [← hcl] at e'
    refine ⟨c', e', ?_⟩
    rw [hcl] at e'
    rcases cells_mem (PySem.mem_of_lookup e') with hm | ⟨h1, _, _⟩
    · exact (cm hm).1
    · have := ok.uniq _ h1
      rw [hl] at this; cases this
  have okB : (X.blk s H scope cenv fp).Ok := by
    refine ⟨I.ok.mod, by show cenv.scope.kind = _; rw [hsc]; exact ok.kind, by show cenv.globals = _; rw [← hcenv]; exact I.ok.glob, by show cenv.builtins = _; rw [← hcenv]; exact I.ok.blt, by show s.heap.objs.size ≤ cenv.locals; rw [hL]; exact Nat.le_refl _,
      fun y z c e1 e2 => ?_, fun y hy => ?_, fun y c z e => ?_, I.ok.hd, I.ok.frames, .inl rfl, fun b hb => ⟨?_, fun y c e z => ?_⟩, I.bs, Nat.le_trans I.ok.bsz I.sz, fun b o e hb => ?_, fun b hb z => ?_, I.stack, I.stkFree⟩
    · have e1 : cenv.cells.lookup y = some c := e1
      have e2 : cenv.cells.lookup z = some c := e2
      rw [hcl] at e1 e2
      refine cells_inj (fun p hp => ?_) (fun y z c a b => I.ok.inj y z c (cm a).1 (cm b).1) (PySem.mem_of_lookup e1) (PySem.mem_of_lookup e2)
      rw [Heap.size_push]
      exact Nat.lt_succ_of_lt (cm (y := p.1) (c := p.2) hp).2
    · show ∃ c, cenv.cells.lookup y = some c
      have key : ∀ k, cenv.kindOf y = some k → (k = .cell ∨ k = .free) → ∃ c, cenv.cells.lookup y = some c := fun k hk hk' => by
        unfold Env.kindOf at hk
        rw [hsc] at hk
        obtain ⟨k', e, r⟩ := lookup_relS hk
        have : k' = .cell ∨ k' = .free := by
          rcases r with rfl | ⟨rfl, _⟩
          · exact hk'
          · exact .inr rfl
        rcases this with rfl | rfl
        · obtain ⟨c, hm⟩ := cells_has (n := (s.heap.push { cls := .type "dict", data := .dict #[] }).objs.size) (acc := cloFrom X.env.cells scope.names []) (PySem.mem_of_lookup e)
          obtain ⟨c', e'⟩ := mem_lookup hm
          exact ⟨c', by rw [hcl]; exact e'⟩
        · obtain ⟨c, h1, _⟩ := look e
          exact ⟨c, h1⟩
      rcases hy with hy | hy
      · exact key _ hy (.inl rfl)
      · exact key _ hy (.inr rfl)
    · have z : (scope.names.lookup y == some NameKind.cell) = true := z
      have z : scope.names.lookup y = some .cell := by simpa using z
      have e : cenv.cells.lookup y = some c := e
      rw [hcl] at e
      rcases cells_mem (PySem.mem_of_lookup e) with hm | ⟨_, h2, _⟩
      · rcases cloFrom_mem hm with hm | ⟨h1, _⟩
        · cases hm
        · have q := ok.uniq _ h1
          rw [z] at q; cases q
      · rw [Heap.size_push] at h2
        exact Nat.le_of_succ_le h2
    · show b ≠ cenv.locals
      rw [hL]; exact Nat.ne_of_lt (hfp b hb).2
    · have e : cenv.cells.lookup y = some c := e
      rcases mem e with ⟨h1, _⟩ | ⟨h1, _⟩
      · exact (hfp b hb).1.2.2.2.2.1 y c h1 z
      · have h2 : s.heap.objs.size + 1 ≤ b := by rw [← z]; exact h1
        exact absurd (Nat.lt_of_lt_of_le (hfp b hb).2 (Nat.le_of_succ_le h2)) (Nat.lt_irrefl _)
    · rcases (hfp b hb).1.2.2.2.1 with z | z
      · exact I.ok.noex b o e z
      · exact absurd (Nat.lt_of_lt_of_le (Heap.lt_size e) (Nat.le_trans I.ok.bsz z)) (Nat.lt_irrefl _)
    · rcases List.mem_cons.mp (I.stkSub b z) with z | z
      · exact (hfp b hb).1.2.1 z
      · exact (hfp b hb).1.2.2.1 z
  refine ⟨okB, rfl, I.bare, Un.kept kp, ⟨fun _ => none, ?_, fun i y av e1 e2 e3 => ?_⟩, fun y c e => ?_, ?_, fun y c e => ?_, fun p hp => ?_, I.hok.kept kp, by rw [wipe_length]; exact I.len⟩
  · show Heap.Ns _ cenv.locals _
    rw [hL]
    exact Heap.Ns.keeps (Heap.Ns.new ..) fun b o e => pushCells_keeps _ _ _ _ e
  · obtain ⟨e2, hne⟩ := wipe_some e2
    have hfr : scope.names.lookup y = some .free ∧ (cenv.kindOf y = some .cell ∨ cenv.kindOf y = some .free) := by
      have key : ∀ k, cenv.scope.names.lookup y = some k → k = .local ∨ k = .cell ∨ k = .free → scope.names.lookup y = some .free ∧ (cenv.kindOf y = some .cell ∨ cenv.kindOf y = some .free) := fun k hk hk' => by
        have hk0 := hk
        rw [hsc] at hk
        obtain ⟨k', e, r⟩ := lookup_relS hk
        have no : ¬ (k' = .local ∨ k' = .cell) := fun hh => by
          rcases ok.own _ (PySem.mem_of_lookup e) hh with e' | e'
          · obtain ⟨p, hp, hpy⟩ := List.mem_map.mp e'
            have e3 := ok.ix p hp
            have : p.1 = y := hpy
            rw [this] at e3
            exact hne (List.mem_map.mpr ⟨p, hp, nodup_ix hN e3 e1⟩)
          · exact e' (List.mem_of_getElem? e1)
        rcases r with rfl | ⟨rfl, rfl⟩
        · rcases hk' with rfl | rfl | rfl
          · exact absurd (.inl rfl) no
          · exact absurd (.inr rfl) no
          · exact ⟨e, .inr hk0⟩
        · exact ⟨e, .inl hk0⟩
      have e3 : Vis cenv.scope y := e3
      rcases e3 with e3 | e3 | e3
      · exact key _ e3 (.inl rfl)
      · exact key _ e3 (.inr (.inl rfl))
      · exact key _ e3 (.inr (.inr rfl))
    obtain ⟨m, hn, hl⟩ := I.loc
    have hvis : Vis X.env.scope y := (ok.free _ (PySem.mem_of_lookup hfr.1) rfl).elim (fun k => .inr (.inl k)) (fun k => .inr (.inr k))
    obtain ⟨w, r, q⟩ := hl i y av e1 e2 hvis
    refine ⟨w, r, .inr ⟨hfr.2, ?_⟩⟩
    obtain ⟨c, h1, h2⟩ := look hfr.1
    rcases q with ⟨k, _⟩ | ⟨_, c', e', z⟩
    · have k : X.env.scope.names.lookup y = some .local := k
      rcases ok.free _ (PySem.mem_of_lookup hfr.1) rfl with k' | k' <;> rw [show X.env.scope.names.lookup y = _ from k'] at k <;> cases k
    · rw [h2] at e'; cases e'
      exact ⟨c, h1, z.keeps kp⟩
  · have e : cenv.cells.lookup y = some c := e
    rcases mem e with ⟨h1, _⟩ | ⟨_, z⟩
    · obtain ⟨w, z⟩ := I.cell y c h1
      exact ⟨w, z.keeps kp⟩
    · exact ⟨_, z⟩
  · show H cenv.locals = none
    rw [hL]; exact I.hok.fresh (Nat.le_refl _)
  · have e : cenv.cells.lookup y = some c := e
    rcases mem e with ⟨h1, _⟩ | ⟨h1, _⟩
    · exact I.freeC y c h1
    · exact I.hok.fresh (Nat.le_of_succ_le h1)
  · exact absurd (show p ∈ ([] : List (Addr × Obj)) ++ [] from hp) (by simp)

/-- an item appended to a tracked list -/
theorem app_ok {E : Value → Shared → Prop} {D : Addr} {xs : List V} {y : V} {v : Value} {Q : Value → Shared → Prop} (I : Inv X pins σ H s) (hD : H D = some (.lst xs)) (hz : xs.length < sizeLine) (r : RelV y v)
    (h : ∀ s', Inv X pins σ (upd H D (.lst (xs ++ [y]))) s' → Q .none s') : wpAny (model X.prog X.w) X.A (call (.builtin "list.append") [.ref D, v]) Q E s := by
  obtain ⟨hz', its, n, ri, e⟩ := I.hok D _ hD
  have hl := ri.length
  refine append_at (hsz := by rw [List.size_toArray]; omega) e fun h' sb ho' => ?_
  refine h { s with heap := h' } (I.write (t' := s.toks) (by rw [hD]; trivial) (.inl rfl) (fun b u hb q => (sb.2 b hb).trans q) ⟨_, ho'⟩ ⟨by rw [List.length_append]; exact hz, its ++ [v], n + 1, ri.append (.cons r .nil), ?_⟩)
  rw [ho']
  simp

/-- a clause's tests -/
def PTs (X : Cx) (ifs : List Expr) (t : TT) : Prop :=
  ∀ (pins : List (Addr × Obj)) (s : Shared) (σ : St) (H : Hp) (Q : Bool → Hp → Prop), Inv X pins σ H s → t σ H Q →
    wpAny (model X.prog X.w) X.A (forIn ifs true fun c r => if r = true then do let ok ← isTrue c X.env (eval c X.env); pure (ForInStep.yield ok) else pure (ForInStep.yield r)) (TP X pins σ Q) X.xe s
def tYes : TT := fun _ H Q => Q true H
theorem pts_nil : PTs X [] tYes := fun _ _ _ H _ I h => wpAny_tests_nil ⟨H, I, h⟩
end

theorem thnF {α : Type} {t : Sem α} {Q Q' : α → Shared → Prop} {M : Model} {A : Around} {E : Value → Shared → Prop} {s : Shared} (h : wpAny M A t Q (fun _ _ => False) s) (hQ : ∀ a s, Q a s → Q' a s) : wpAny M A t Q' E s := wpAny_mono h hQ fun _ _ z => False.elim z

/-- the loop of a list comprehension's block, the target of any form (codeAny_compLoop_tests asks a target that no tuple goes to; statement and proof follow it, PyProof/CompMap.lean:41-61, with the step letOwnedTupleGo kept) -/
theorem compLoop_any {prog : Program} {w : World} {A : Around} {R : Result → Shared → Prop} {s : Shared} {elt target iter : Expr} {ifs : List Expr} {scope : Scope} {pos : Pos} {it acc : Value} {env : Env} (I : Nat → Shared → Prop)
    (turn : ∀ n s, I n s → wpAny (model prog w) A (pyNext it) (fun r s₁ => match r with
      | none => R (.ok .next) s₁
      | some v => wpAny (model prog w) A (letOwnedTupleGo target it v) (fun _ s₁' => wpAny (model prog w) A (assign target env v) (fun _ s₂ =>
          wpAny (model prog w) A (forIn ifs true fun c r => if r = true then do let ok ← isTrue c env (eval c env); pure (ForInStep.yield ok) else pure (ForInStep.yield r)) (fun ok s₃ =>
            if ok = true then wpAny (model prog w) A (eval elt env) (fun x s₄ =>
              wpAny (model prog w) A (call (.builtin "list.append") [acc, x]) (fun _ s₅ => ∃ m, m < n ∧ I m s₅) (notedBy (model prog w) A env fun e s' => R (.error e) s') s₄) (notedBy (model prog w) A env fun e s' => R (.error e) s') s₃
            else ∃ m, m < n ∧ I m s₃) (notedBy (model prog w) A env fun e s' => R (.error e) s') s₂) (notedBy (model prog w) A env fun e s' => R (.error e) s') s₁') (notedBy (model prog w) A env fun e s' => R (.error e) s') s₁) (notedBy (model prog w) A env fun e s' => R (.error e) s') s)
    (n : Nat) (h : I n s) :
    codeAny (model prog w) A (.compLoop (.ListComp elt [⟨target, iter, ifs, 0⟩] scope pos) 0 it acc env) R s := by
  refine codeAny_loop rfl I (fun n s hI => ?_) n h
  show wpAny _ A ((compTurn (.ListComp elt [⟨target, iter, ifs, 0⟩] scope pos) 0 it acc env).onRaise (fun x => do noteFrame x env; theTreesLotGoes x)) _ _ s
  refine wpAny_noted ?_
  rw [compTurn_list]
  refine wpAny_bind (wpAny_standAt (wpAny_bind (wpAny_mono (turn n s hI) (fun r s₁ h₁ => ?_) fun _ _ h' => h')))
  cases r with
  | none => exact wpAny_pure h₁
  | some v =>
    refine wpAny_bind (wpAny_mono h₁ (fun _ s₁' h₁' => ?_) fun _ _ h' => h')
    refine wpAny_bind (wpAny_mono h₁' (fun _ s₂ h₂ => wpAny_bind (wpAny_mono h₂ (fun ok s₃ h₃ => ?_) fun _ _ h' => h')) fun _ _ h' => h')
    cases ok with
    | false => exact wpAny_pure ⟨rfl, h₃⟩
    | true =>
      exact wpAny_bind (wpAny_bind (wpAny_mono h₃ (fun x s₄ h₄ => wpAny_bind (wpAny_mono h₄ (fun _ s₅ h₅ => wpAny_pure (wpAny_pure ⟨rfl, h₅⟩)) fun _ _ h' => h')) fun _ _ h' => h'))

section
variable {X : Cx}
/-- [elt for target in iter if ..]: D the new list; W by the turn and a measure, Nx what a turn is to reach -/
def tLc (wi : TI) (g : TG) (tt : TT) (te : TE) (vs : List Nat) : TE := fun σ H Q => wi σ H fun J H1 => ∀ D, H1 D = none → ∃ W : Nat → Nat → Hp → Prop, (∃ m, W 0 m (upd H1 D (.lst []))) ∧ ∀ i m H, W i m H →
  (J.stop i H ∧ Q (.ref D) H) ∨ (J.go i H ∧ ∃ Nx : Hp → Prop, (∀ H', Nx H' → ∃ m', m' < m ∧ W (i + 1) m' H') ∧ ∀ x H', J.yld i H x H' → g x (wipe σ vs) H' fun σ2 H2 => wipe σ2 vs = wipe σ vs ∧ tt σ2 H2 fun b H3 =>
    if b = true then te σ2 H3 fun y H4 => ∃ acc, H4 D = some (.lst acc) ∧ acc.length < sizeLine ∧ Nx (upd H4 D (.lst (acc ++ [y]))) else Nx H3)
theorem lc_core {pins : List (Addr × Obj)} {s : Shared} {σ : St} {H : Hp} {Q : VK} {elt tg iter : Expr} {ifs : List Expr} {scope : Scope} {own : List (Str × Nat)} {pos pos' : Pos} {wi : TI} {g : TG} {tt : TT} {te : TE} {use : Option (Value → Sem Unit)} {Qf : Value → Shared → Prop}
    (hc : X.calm = true) (hN : X.N.Nodup) (I : Inv X pins σ H s) (hi : PI X tg iter wi) (ok : BlkOk X.N X.env.scope scope own)
    (hg : ∀ (s : Shared) (H : Hp) (C : Addr) (cl : List (Str × Addr)) (fp : List Addr), PG (X.blk s H scope (compEnvC scope cl C X.env) fp) tg g) (ht : ∀ (s : Shared) (H : Hp) (C : Addr) (cl : List (Str × Addr)) (fp : List Addr), PTs (X.blk s H scope (compEnvC scope cl C X.env) fp) ifs tt)
    (he : ∀ (s : Shared) (H : Hp) (C : Addr) (cl : List (Str × Addr)) (fp : List Addr), PE (X.blk s H scope (compEnvC scope cl C X.env) fp) elt te) (hs : ∀ x, foldedSetIterable iter X.env x = pure x)
    (h : tLc wi g tt te (own.map (·.2)) σ H Q)
    (hRR : ∀ D C s' m H', Inv X pins σ H' s' → Q (.ref D) H' → s'.heap.Ns C m → FpOk X pins H' C → compPost (model X.prog X.w) X.A X.xe use Qf (.ref D) C (.ok .next) s') :
    wpAny (model X.prog X.w) X.A (comprehension (.ListComp elt [⟨tg, iter, ifs, 0⟩] scope pos) scope X.env pos' (newList []) false (eval iter X.env) use) Qf X.xe s := by
  have hfree : ∀ y ∈ scope.names, y.2 = .free → ∃ c, X.env.cells.lookup y.1 = some c := fun y hy e => by
    rcases ok.free y hy e with k | k
    · exact I.ok.has _ (.inl k)
    · exact I.ok.has _ (.inr k)
  refine wpAny_comprehension_free (use := use) rfl hs (closure_ok hfree) ok.kind (fun y hy e => by rw [ok.uniq y hy, e])
    (thn (hi pins s σ H _ I h) fun xv s1 hx => thn hx fun itv s2 h2 => ?_)
  obtain ⟨it, fp, tn, J, H2, e, I2, T, st2, f2, q⟩ := h2
  subst e
  refine wpAny_newObj_type (newEnv_comp ?_) (by show 0 ≤ sizeLine; decide)
  generalize hD : s2.heap.objs.size = D
  have hDn : H2 D = none := I2.hok.fresh (Nat.le_of_eq hD)
  obtain ⟨W, ⟨m0, w0⟩, turn⟩ := q D hDn
  -- the new list
  generalize hs3 : ({ s2 with heap := s2.heap.push { cls := .type "list", data := .seq ([] : List Value).toArray } } : Shared) = s3
  have I3 : Inv X pins σ (upd H2 D (.lst [])) s3 := by
    rw [← hs3]
    refine I2.laid (t' := s2.toks) (fun b o e => Heap.get?_push_of_some _ e) (Nat.le_of_eq hD) ⟨Nat.zero_le _, [], 0, .nil, ?_⟩
    rw [← hD]
    exact Heap.get?_push_size _ rfl
  have h3 : s3.heap = s2.heap.push { cls := .type "list", data := .seq ([] : List Value).toArray } := by rw [← hs3]
  have sz : ∀ b ∈ fp, b < s2.heap.objs.size := fun b hb => by
    obtain ⟨o, e, _⟩ := T.obj _ _ st2 b hb
    exact Heap.lt_size e
  have f3 : ∀ b ∈ fp, FpOk X pins (upd H2 D (.lst [])) b ∧ b < s3.heap.objs.size := fun b hb => by
    have hlt := sz b hb
    refine ⟨⟨?_, (f2 b hb).2⟩, by rw [h3, Heap.size_push]; exact Nat.lt_succ_of_lt hlt⟩
    rw [upd_ne (by rw [← hD]; exact Nat.ne_of_lt hlt)]
    exact (f2 b hb).1
  have st3 : tn 0 s3.heap := T.keep _ _ _ st2 fun b _ o e => by rw [h3]; exact Heap.get?_push_of_some _ e
  have I4 := block_start I3 ok hN f3
  have pg := hg s3 (upd H2 D (.lst [])) s3.heap.objs.size (cellsFrom (s3.heap.objs.size + 1) scope.names (cloFrom X.env.cells scope.names [])) fp
  have pt := ht s3 (upd H2 D (.lst [])) s3.heap.objs.size (cellsFrom (s3.heap.objs.size + 1) scope.names (cloFrom X.env.cells scope.names [])) fp
  have pe := he s3 (upd H2 D (.lst [])) s3.heap.objs.size (cellsFrom (s3.heap.objs.size + 1) scope.names (cloFrom X.env.cells scope.names [])) fp
  show codeAny _ _ (.compStart (.ListComp elt [⟨tg, iter, ifs, 0⟩] scope pos) 0 (.ref it) (.ref D) (compEnvC scope (cellsFrom (s3.heap.objs.size + 1) scope.names (cloFrom X.env.cells scope.names [])) s3.heap.objs.size X.env)) (compPost (model X.prog X.w) X.A X.xe use Qf (.ref D) s3.heap.objs.size) { s3 with heap := pushCells (s3.heap.push { cls := .type "dict", data := .dict #[] }) scope.names }
  have nfp : ∀ b ∈ fp, (upd H2 D (.lst [])) b = none := fun b hb => (f3 b hb).1.1
  generalize hce : compEnvC scope (cellsFrom (s3.heap.objs.size + 1) scope.names (cloFrom X.env.cells scope.names [])) s3.heap.objs.size X.env = ce at I4 pg pt pe ⊢
  have cL : ce.locals = s3.heap.objs.size := by subst hce; rfl
  generalize hH3 : upd H2 D (.lst []) = H3 at I3 I4 pg pt pe w0 nfp f3
  generalize hs4 : ({ s3 with heap := pushCells (s3.heap.push { cls := .type "dict", data := .dict #[] }) scope.names } : Shared) = s4 at I4 ⊢
  have st4 : tn 0 s4.heap := T.keep _ _ _ st3 fun b _ o e => by rw [← hs4]; exact pushCells_keeps _ _ _ _ (Heap.get?_push_of_some _ e)
  have stat : ∀ {σ' : St} {H' : Hp} {s' : Shared}, Inv (X.blk s3 H3 scope ce fp) [] σ' H' s' → (∀ b ∈ fp, H' b = none) → ∀ b ∈ fp, FpOk (X.blk s3 H3 scope ce fp) [] H' b := fun {σ' H' s'} I' hn b hb =>
    ⟨hn b hb, (I'.ok.exf b hb).1, I'.ok.exfs b hb, .inl hb, fun x c e => (I'.ok.exf b hb).2 x c e, fun p hp => absurd (show p ∈ ([] : List (Addr × Obj)) ++ [] from hp) (by simp)⟩
  have loop : codeAny (model X.prog X.w) X.A (.compLoop (.ListComp elt [⟨tg, iter, ifs, 0⟩] scope pos) 0 (.ref it) (.ref D) ce) (compPost (model X.prog X.w) X.A X.xe use Qf (.ref D) s3.heap.objs.size) s4 := by
    refine compLoop_any (fun n s' => ∃ i H', Inv (X.blk s3 H3 scope ce fp) [] (wipe σ (own.map (·.2))) H' s' ∧ tn i s'.heap ∧ (∀ b ∈ fp, H' b = none) ∧ W i n H') ?_ m0 ⟨0, H3, I4, st4, nfp, w0⟩
    rintro n s5 ⟨i, H5, I5, st5, n5, w5⟩
    rcases turn i n H5 w5 with ⟨stop, qq⟩ | ⟨go, Nx, hNx, step⟩
    · have td := T.done (X.blk s3 H3 scope ce fp) rfl rfl rfl hc i [] s5 _ H5 (fun _ _ => False) I5 (stat I5 n5) st5 stop
      refine thnF td fun r s6 ⟨hr, I6⟩ => ?_
      subst hr
      -- back in the def's context
      have I7 : Inv X pins σ H5 s6 := I3.call' (ch := fp) I6.os I6.base I6.hok I6.bare fun b hb => ⟨(f3 b hb).1.2.2.2.1, (f3 b hb).1.2.1, (f3 b hb).1.2.2.2.2.1, (f3 b hb).1.2.2.2.2.2⟩
      have nC : H5 s3.heap.objs.size = none := by
        have z : H5 ce.locals = none := I6.free
        rw [cL] at z
        exact z
      obtain ⟨m, hn, _⟩ := I6.loc
      have hn : s6.heap.Ns ce.locals m := hn
      rw [cL] at hn
      exact hRR D s3.heap.objs.size s6 m H5 I7 qq hn (I3.fpOk (Nat.le_refl _) nC)
    · have ti := T.item (X.blk s3 H3 scope ce fp) rfl rfl rfl hc i [] s5 _ H5 (fun _ _ => False) I5 (stat I5 n5) st5 go
      refine thnF ti fun r s6 ⟨u, hr, h6⟩ => ?_
      subst hr
      refine thnF h6 fun _ s7 ⟨x, H7, I7, r7, y7, st7, n7⟩ => ?_
      have I7' := I7.pinned (stat I7 n7) (T.obj _ _ st7)
      refine thnF (pg _ s7 _ H7 x u _ I7' r7 (step x H7 y7)) fun _ s8 ⟨σ8, H8, I8, hw8, q8⟩ => ?_
      refine thnF (pt _ s8 σ8 H8 _ I8 q8) fun b s9 ⟨H9, I9, q9⟩ => ?_
      -- the turn's end
      have fin : ∀ {s' : Shared} {H' : Hp}, Inv (X.blk s3 H3 scope ce fp) ([] ++ pinsAt fp s7.heap) σ8 H' s' → Nx H' → ∃ m, m < n ∧ ∃ i H', Inv (X.blk s3 H3 scope ce fp) [] (wipe σ (own.map (·.2))) H' s' ∧ tn i s'.heap ∧ (∀ b ∈ fp, H' b = none) ∧ W i m H' := fun {s' H'} I' nx => by
        obtain ⟨m', hm, w'⟩ := hNx H' nx
        have pin' : ∀ b ∈ fp, ∀ o, s7.heap.get? b = some o → s'.heap.get? b = some o ∧ H' b = none := fun b hb o e =>
          let z := I'.pin (b, o) (List.mem_append_right _ (List.mem_append_right _ (mem_pinsAt hb e)))
          ⟨z.1, z.2.1⟩
        have hl : (wipe σ (own.map (·.2))).length = σ8.length := by rw [← hw8, wipe_length]
        refine ⟨m', hm, i + 1, H', (I'.unpinned (pins := [])).weak hl (fun j v e => ?_), T.keep _ _ _ st7 fun b hb o e => (pin' b hb o e).1, fun b hb => ?_, w'⟩
        · rw [← hw8] at e
          exact (wipe_some e).1
        · obtain ⟨o, e, _⟩ := T.obj _ _ st7 b hb
          exact (pin' b hb o e).2
      cases b with
      | false =>
        simp only [Bool.false_eq_true, if_false] at q9 ⊢
        exact fin I9 q9
      | true =>
        simp only [if_true] at q9 ⊢
        refine thnF (pe _ s9 σ8 H9 _ I9 q9) fun z s10 ⟨yv, H10, I10, r10, acc, hD10, hz10, nx⟩ => ?_
        exact app_ok (X := X.blk s3 H3 scope ce fp) I10 hD10 hz10 r10 fun s11 I11 => fin I11 nx
  exact codeAny_compStart_list loop (T.self X.A 0 _ _ _ st4 loop)
/-- as a value -/
theorem pe_lc {elt tg iter : Expr} {ifs : List Expr} {scope : Scope} {own : List (Str × Nat)} {pos : Pos} {wi : TI} {g : TG} {tt : TT} {te : TE} (hc : X.calm = true) (hN : X.N.Nodup) (hi : PI X tg iter wi) (ok : BlkOk X.N X.env.scope scope own)
    (hg : ∀ (s : Shared) (H : Hp) (C : Addr) (cl : List (Str × Addr)) (fp : List Addr), PG (X.blk s H scope (compEnvC scope cl C X.env) fp) tg g) (ht : ∀ (s : Shared) (H : Hp) (C : Addr) (cl : List (Str × Addr)) (fp : List Addr), PTs (X.blk s H scope (compEnvC scope cl C X.env) fp) ifs tt)
    (he : ∀ (s : Shared) (H : Hp) (C : Addr) (cl : List (Str × Addr)) (fp : List Addr), PE (X.blk s H scope (compEnvC scope cl C X.env) fp) elt te) (hs : ∀ x, foldedSetIterable iter X.env x = pure x := by intro _; rfl) :
    PE X (.ListComp elt [⟨tg, iter, ifs, 0⟩] scope pos) (tLc wi g tt te (own.map (·.2))) := by
  intro pins s σ H Q I h
  rw [eval_ListComp]
  refine lc_core hc hN I hi ok hg ht he hs h fun D C s' m H' I' q hn f => ⟨m, hn, fun h'' sb => ?_⟩
  obtain ⟨f0, f1, f2, f3, f4, f5⟩ := f
  exact ⟨.ref D, H', I'.turned (t' := s'.toks) (fun b o hb e => (sb.2 b hb).trans e) f0 f1 f3 f4 f5, rfl, q⟩
/-- name = [..] on one line, the name a local -/
theorem ps_setLc {i : Nat} {y : Str} {py : Pos} {elt tg iter : Expr} {ifs : List Expr} {scope : Scope} {own : List (Str × Nat)} {pos spos : Pos} {wi : TI} {g : TG} {tt : TT} {te : TE} (hc : X.calm = true) (hN : X.N.Nodup) (hy : X.N[i]? = some y) (hyl : X.env.scope.names.lookup y = some .local)
    (hsw : swapsWith (.ListComp elt [⟨tg, iter, ifs, 0⟩] scope pos) (some (.Name y py)) spos.line X.env = pure true) (hi : PI X tg iter wi) (ok : BlkOk X.N X.env.scope scope own)
    (hg : ∀ (s : Shared) (H : Hp) (C : Addr) (cl : List (Str × Addr)) (fp : List Addr), PG (X.blk s H scope (compEnvC scope cl C X.env) fp) tg g) (ht : ∀ (s : Shared) (H : Hp) (C : Addr) (cl : List (Str × Addr)) (fp : List Addr), PTs (X.blk s H scope (compEnvC scope cl C X.env) fp) ifs tt)
    (he : ∀ (s : Shared) (H : Hp) (C : Addr) (cl : List (Str × Addr)) (fp : List Addr), PE (X.blk s H scope (compEnvC scope cl C X.env) fp) elt te) (hs : ∀ x, foldedSetIterable iter X.env x = pure x := by intro _; rfl) :
    PS X (.Assign [.Name y py] (.ListComp elt [⟨tg, iter, ifs, 0⟩] scope pos) spos) (tAsg (tLc wi g tt te (own.map (·.2))) (gName i)) := by
  intro pins s σ H D I h
  rw [exec_Assign_Name_used _ _ _ _ hsw]
  refine wpAny_bind (wpAny_standAt (wpAny_bind ?_))
  show wpAny _ X.A (do let _ ← comprehension (.ListComp elt [⟨tg, iter, ifs, 0⟩] scope pos) scope X.env (firstIterPos [⟨tg, iter, ifs, 0⟩] pos) (newList []) false (eval iter X.env) (some (assign (.Name y py) X.env))) _ _ s
  have h : tLc wi g tt te (own.map (·.2)) σ H (fun x H1 => gName i x σ H1 D.nx) := h
  refine wpAny_bind (thn (lc_core (Qf := fun _ s' => SP X pins D .next s') hc hN I hi ok hg ht he hs h fun L C s' m H' I' q hn f => ?_) fun _ s' hq => wpAny_pure (wpAny_pure hq))
  show wpAny _ _ (assign (.Name y py) X.env (.ref L)) _ _ _
  refine wpAny_assign_Name (store_ok2 (v := V.ref L) I' hN hy (.inl hyl) rfl (fun s2 I2 ⟨a, sb, ha⟩ => ?_) (.inr hyl))
  obtain ⟨f0, f1, f2, f3, f4, f5⟩ := f
  have haC : C ≠ a := by
    rcases ha with z | z
    · rw [z]; exact f1
    · exact fun e => f4 y a z e.symm
  refine ⟨m, hn.sameBut sb haC, fun h3 sb3 => ?_⟩
  exact ⟨_, H', I2.turned (t' := s2.toks) (fun b o hb e => (sb3.2 b hb).trans e) f0 f1 f3 f4 f5, q⟩
end

end L2

namespace L2
open PySem PySem.Spec PyProof.Rows

section
variable {prog : Program} {w : World} {A : Around} {R : Result → Shared → Prop} {s : Shared} {elt t0 i0 t1 i1 : Expr} {ifs0 ifs1 : List Expr} {scope : Scope} {pos : Pos} {it acc : Value} {env : Env}
end

section
variable {X : Cx}
end
end L2

namespace L2
open PySem PySem.Spec PyProof.Rows

section
variable {κ : Type} [DecidableEq κ]
def valV (kvs : List (κ × V)) (k : κ) : Option V := (kvs.find? fun kv => decide (kv.1 = k)).map (·.2)
/-- in its place, or at the end -/
def putK (kvs : List (κ × V)) (k : κ) (v : V) : List (κ × V) :=
  if (kvs.any fun kv => decide (kv.1 = k)) = true then kvs.map (fun kv => if kv.1 = k then (kv.1, v) else kv) else kvs ++ [(k, v)]
theorem valV_pos {p : κ × V} {r : List (κ × V)} {k : κ} (e : p.1 = k) : valV (p :: r) k = some p.2 := by simp [valV, List.find?_cons, e]
theorem valV_neg {p : κ × V} {r : List (κ × V)} {k : κ} (e : ¬ p.1 = k) : valV (p :: r) k = valV r k := by simp [valV, List.find?_cons, e]
theorem valV_any (k : κ) : ∀ kvs : List (κ × V), (kvs.any fun kv => decide (kv.1 = k)) = (valV kvs k).isSome
  | [] => rfl
  | p :: r => by
    rw [List.any_cons]
    by_cases e : p.1 = k
    · simp only [valV_pos e, decide_eq_true e, Bool.true_or, Option.isSome_some]
    · rw [valV_neg e, decide_eq_false e, Bool.false_or]; exact valV_any k r
theorem length_putK (kvs : List (κ × V)) (k : κ) (v : V) : (putK kvs k v).length ≤ kvs.length + 1 := by
  unfold putK
  split
  · rw [List.length_map]; omega
  · rw [List.length_append, List.length_cons, List.length_nil]; omega
theorem RelO.isSome_eq {o : Option V} {u : Option Value} (r : RelO o u) : o.isSome = u.isSome := by
  cases o with
  | none => cases u with
    | none => rfl
    | some _ => exact (show False from r).elim
  | some _ => cases u with
    | none => exact (show False from r).elim
    | some _ => rfl
/-- raw tables of the same keys -/
theorem KV.val {kvs : List (κ × V)} {vs : List (κ × Value)} (r : KV kvs vs) (k : κ) : RelO (valV kvs k) (valueAt vs k) := by
  unfold KV at r
  induction r with
  | nil => exact True.intro
  | @cons p q ps qs h t ih =>
    obtain ⟨h1, h2⟩ := h
    by_cases e : p.1 = k
    · have e' : q.1 = k := h1.symm.trans e
      have b : valueAt (q :: qs) k = some q.2 := by simp [valueAt, List.find?_cons, e']
      rw [valV_pos e, b]; exact h2
    · have e' : ¬ q.1 = k := fun z => e (h1.trans z)
      have b : valueAt (q :: qs) k = valueAt qs k := by simp [valueAt, List.find?_cons, e']
      rw [valV_neg e, b]; exact ih
theorem KV.any {kvs : List (κ × V)} {vs : List (κ × Value)} (r : KV kvs vs) (k : κ) : (kvs.any fun kv => decide (kv.1 = k)) = vs.any fun kv => decide (kv.1 = k) := by
  unfold KV at r
  induction r with
  | nil => rfl
  | cons h t ih => rw [List.any_cons, List.any_cons, ih, h.1]
theorem KV.repl {kvs : List (κ × V)} {vs : List (κ × Value)} (r : KV kvs vs) (k : κ) {y : V} {u : Value} (ry : RelV y u) :
    KV (kvs.map fun kv => if kv.1 = k then (kv.1, y) else kv) (vs.map fun kv => if kv.1 = k then (kv.1, u) else kv) := by
  unfold KV at r ⊢
  induction r with
  | nil => exact .nil
  | @cons p q ps qs h t ih =>
    rw [List.map_cons, List.map_cons]
    refine .cons ?_ ih
    obtain ⟨h1, h2⟩ := h
    by_cases e : p.1 = k
    · rw [if_pos e, if_pos (h1.symm.trans e)]; exact ⟨h1, ry⟩
    · rw [if_neg e, if_neg (fun z => e (h1.trans z))]; exact ⟨h1, h2⟩
theorem KV.put {kvs : List (κ × V)} {vs : List (κ × Value)} (r : KV kvs vs) (k : κ) {y : V} {u : Value} (ry : RelV y u) : KV (putK kvs k y) (stored vs k u) := by
  unfold putK stored
  rw [r.any k]
  by_cases e : (vs.any fun kv => decide (kv.1 = k)) = true
  · rw [if_pos e, if_pos e]; exact r.repl k ry
  · rw [if_neg e, if_neg e]; exact Paired.snoc r ⟨rfl, ry⟩
theorem KV.length {kvs : List (κ × V)} {vs : List (κ × Value)} (r : KV kvs vs) : kvs.length = vs.length := Paired.length r
end


theorem kV_is {P : Program} {w : World} {k : Key} {u : Value} (r : RelV (kV k) u) : (mixKind P w).is k u = true := by
  cases k with
  | inl i => obtain ⟨t, e⟩ := (show ∃ t, u = Value.int i t from r); subst e; exact mixKind_int P w i t
  | inr x => obtain ⟨t, e⟩ := (show ∃ t, u = Value.str x t from r); subst e; exact mixKind_str P w x t
theorem items_are {P : Program} {w : World} : ∀ {ks : List Key} {us : List Value}, Vals (ks.map kV) us → ItemsAre (mixKind P w) ks us
  | [], _, r => by rw [List.map_nil] at r; cases r; exact .nil
  | k :: ks, _, r => by
    rw [List.map_cons] at r
    cases r with
    | cons h t => exact .cons (kV_is h) (items_are t)

/-- raw entries of a dict with tuple keys -/
abbrev KT (H : Hp) : List (List Key × V) → List (List Key × Addr × Value) → Prop := Paired fun p q => p.1 = q.1 ∧ H q.2.1 = some (.tup (p.1.map kV)) ∧ RelV p.2 q.2.2
theorem KT.val {H : Hp} {kvs : List (List Key × V)} {xs : List (List Key × Addr × Value)} (r : KT H kvs xs) (k : List Key) : RelO (valV kvs k) ((atKey xs k).map (·.2)) := by
  induction r with
  | nil => exact True.intro
  | @cons p q ps qs h t ih =>
    obtain ⟨h1, _, h2⟩ := h
    by_cases e : p.1 = k
    · have e' : q.1 = k := h1.symm.trans e
      have b : atKey (q :: qs) k = some q.2 := by simp [atKey, List.find?_cons, e']
      rw [valV_pos e, b]; exact h2
    · have e' : ¬ q.1 = k := fun z => e (h1.trans z)
      have b : atKey (q :: qs) k = atKey qs k := by simp [atKey, List.find?_cons, e']
      rw [valV_neg e, b]; exact ih
theorem KT.repl {H : Hp} {kvs : List (List Key × V)} {xs : List (List Key × Addr × Value)} (r : KT H kvs xs) (k : List Key) {y : V} {u : Value} (ry : RelV y u) :
    KT H (kvs.map fun kv => if kv.1 = k then (kv.1, y) else kv) (xs.map (putAt k u)) := by
  induction r with
  | nil => exact .nil
  | @cons p q ps qs h t ih =>
    rw [List.map_cons, List.map_cons]
    refine .cons ?_ ih
    obtain ⟨h1, h2, h3⟩ := h
    unfold putAt
    by_cases e : p.1 = k
    · rw [if_pos e, if_pos (h1.symm.trans e)]; exact ⟨h1, h2, ry⟩
    · rw [if_neg e, if_neg (fun z => e (h1.trans z))]; exact ⟨h1, h2, h3⟩
theorem KT.put {H : Hp} {kvs : List (List Key × V)} {xs : List (List Key × Addr × Value)} (r : KT H kvs xs) (k : List Key) {b : Addr} {y : V} {u : Value} (hb : H b = some (.tup (k.map kV))) (ry : RelV y u) :
    KT H (putK kvs k y) (storedH xs k b u) := by
  have e : (kvs.any fun kv => decide (kv.1 = k)) = (atKey xs k).isSome := by
    rw [valV_any, (r.val k).isSome_eq, Option.isSome_map]
  unfold putK storedH
  rw [e]
  by_cases q : (atKey xs k).isSome = true
  · rw [if_pos q, if_pos q]; exact r.repl k ry
  · rw [if_neg q, if_neg q]; exact Paired.snoc r ⟨rfl, hb, ry⟩
theorem KT.keeps {H H' : Hp} {kvs : List (List Key × V)} {xs : List (List Key × Addr × Value)} (r : KT H kvs xs) (ht : ∀ b ys, H b = some (.tup ys) → H' b = some (.tup ys)) : KT H' kvs xs :=
  Paired.mapP r fun _ _ z => ⟨z.1, ht _ _ z.2.1, z.2.2⟩

section
variable {P : Program} {w : World} {H : Hp} {h : Heap} {a : Addr}
theorem rd_of {u : HO} (ok : HOk P w H h) (e : Rd H a u) : ObjOk P w H h a u := e.ok ok
theorem dk_rd {kvs : List (Key × V)} (ok : HOk P w H h) (e : Rd H a (.dK kvs)) : kvs.length ≤ sizeLine ∧ (a == sysModules) = false ∧ ∃ vs, KV kvs vs ∧ h.DictOf (mixKind P w) a vs :=
  show ObjOk P w H h a (.dK kvs) from rd_of ok e
theorem dk_of {kvs : List (Key × V)} (ok : HOk P w H h) (e : H a = some (.dK kvs)) : kvs.length ≤ sizeLine ∧ (a == sysModules) = false ∧ ∃ vs, KV kvs vs ∧ h.DictOf (mixKind P w) a vs := dk_rd ok (.inl e)
/-- a tracked tuple of ints and texts is a key -/
theorem key_of {ks : List Key} (ok : HOk P w H h) (e : H a = some (.tup (ks.map kV))) : (tupleKind (mixKind P w)).is h ks a := by
  obtain ⟨_, its, r, o, h1, h2, n, h3⟩ := (show ObjOk P w H h a (.tup (ks.map kV)) from ok a _ e)
  exact ⟨o, its.toArray, n, h1, h2, h3, by simpa using items_are r⟩
theorem dt_rd {kvs : List (List Key × V)} (ok : HOk P w H h) (e : Rd H a (.dT kvs)) : kvs.length ≤ sizeLine ∧ (a == sysModules) = false ∧
    ∃ xs, KT H kvs xs ∧ h.DictOfH (tupleKind (mixKind P w)) a xs := by
  obtain ⟨z, y, xs, r, o, es, ep, h1, h2, h3, h4, h5⟩ := (show ObjOk P w H h a (.dT kvs) from rd_of ok e)
  refine ⟨z, y, xs, r, o, es, ep, h1, h2, h3, h4, fun x hx => ?_, h5⟩
  have all : ∀ {l : List (List Key × V)} {m : List (List Key × Addr × Value)}, KT H l m → ∀ x ∈ m, (tupleKind (mixKind P w)).is h x.1 x.2.1 := by
    intro l m q
    induction q with
    | nil => intro x hx; exact nomatch hx
    | @cons p q ps qs hq t ih =>
      intro x hx
      rcases List.mem_cons.mp hx with e | hx
      · subst e
        exact key_of ok (by rw [← hq.1]; exact hq.2.1)
      · exact ih x hx
  exact all r x hx
theorem dt_of {kvs : List (List Key × V)} (ok : HOk P w H h) (e : H a = some (.dT kvs)) : kvs.length ≤ sizeLine ∧ (a == sysModules) = false ∧
    ∃ xs, KT H kvs xs ∧ h.DictOfH (tupleKind (mixKind P w)) a xs := dt_rd ok (.inl e)
end

/-- what the dict at a holds at the key y -/
def DGet (H : Hp) (a : Addr) (y : V) (r : Option V) : Prop :=
  (∃ kvs k, Rd H a (.dK kvs) ∧ y = kV k ∧ r = valV kvs k) ∨ ∃ kvs k b, Rd H a (.dT kvs) ∧ y = .ref b ∧ H b = some (.tup (k.map kV)) ∧ r = valV kvs k
/-- the heap behind a[y] = v -/
def DPut (H : Hp) (a : Addr) (y v : V) (H' : Hp) : Prop :=
  (∃ kvs k, H a = some (.dK kvs) ∧ y = kV k ∧ kvs.length < sizeLine ∧ H' = upd H a (.dK (putK kvs k v))) ∨
  ∃ kvs k b, H a = some (.dT kvs) ∧ y = .ref b ∧ H b = some (.tup (k.map kV)) ∧ kvs.length < sizeLine ∧ H' = upd H a (.dT (putK kvs k v))
theorem DGet.t {H : Hp} {a b : Addr} {kvs : List (List Key × V)} {k : List Key} (e : H a = some (.dT kvs)) (eb : H b = some (.tup (k.map kV))) : DGet H a (.ref b) (valV kvs k) := .inr ⟨kvs, k, b, .inl e, rfl, eb, rfl⟩
theorem DPut.t {H : Hp} {a b : Addr} {kvs : List (List Key × V)} {k : List Key} {v : V} (e : H a = some (.dT kvs)) (eb : H b = some (.tup (k.map kV))) (hl : kvs.length < sizeLine) :
    DPut H a (.ref b) v (upd H a (.dT (putK kvs k v))) := .inr ⟨kvs, k, b, e, rfl, eb, hl, rfl⟩


section
variable {X : Cx} {pins : List (Addr × Obj)} {σ : St} {H : Hp} {s : Shared} {a : Addr} {y v : V} {u r : Value} {o : Option V} {A : Around} {E : Value → Shared → Prop}

theorem Inv.big (I : Inv X pins σ H s) : sysModules < s.heap.objs.size := by
  have h : mainGlobals < s.heap.objs.size := (I.mod.glob.keeps I.bk).lt
  exact Nat.lt_trans (by decide) h

/-- d[y], there -/
theorem d_getItem {Q : Value → Shared → Prop} (hu : A.units + 1 < cLine) (I : Inv X pins σ H s) (g : DGet H a y (some v)) (ry : RelV y u) (h : ∀ w' s', Inv X pins σ H s' → RelV v w' → Q w' s') :
    wpAny (model X.prog X.w) A (getItem (.ref a) u) Q E s := by
  rcases g with ⟨kvs, k, e, ey, l⟩ | ⟨kvs, k, b, e, ey, eb, l⟩
  · subst ey
    obtain ⟨z, hd, vs, rel, dd⟩ := dk_rd I.hok e
    obtain ⟨w', hw, rw'⟩ := RelO.some_of (v := v) (o := valueAt vs k) (by rw [l]; exact rel.val k)
    exact wpAny_getItem_of (kV_is ry) dd.mapOf hw (h w' _ (I.tok _) rw')
  · subst ey
    cases (show u = Value.ref b from ry)
    obtain ⟨z, hd, xs, rel, dd⟩ := dt_rd I.hok e
    obtain ⟨w', hw, rw'⟩ := RelO.some_of (v := v) (o := (atKey xs k).map (·.2)) (by rw [l]; exact rel.val k)
    obtain ⟨p, hp, hp2⟩ := Option.map_eq_some_iff.mp hw
    refine wpAny_getItem_heap (tupleKind_room_in1 hu) (key_of I.hok eb) dd hp ?_
    rw [hp2]
    exact h w' _ (I.tok _) rw'
/-- y in d -/
theorem d_in {Q : Value → Shared → Prop} (hu : A.units + 1 < cLine) (I : Inv X pins σ H s) (g : DGet H a y o) (ry : RelV y u) (h : ∀ s', Inv X pins σ H s' → Q (.bool o.isSome) s') :
    wpAny (model X.prog X.w) A (compareOp .In u (.ref a)) Q E s := by
  rcases g with ⟨kvs, k, e, ey, l⟩ | ⟨kvs, k, b, e, ey, eb, l⟩
  · subst ey
    obtain ⟨z, hd, vs, rel, dd⟩ := dk_rd I.hok e
    refine wpAny_in_of (kV_is ry) hd dd.mapOf ?_
    rw [← (rel.val k).isSome_eq, ← l]
    exact h _ (I.tok _)
  · subst ey
    cases (show u = Value.ref b from ry)
    obtain ⟨z, hd, xs, rel, dd⟩ := dt_rd I.hok e
    refine wpAny_in_heap (tupleKind_room_in1 hu) (key_of I.hok eb) hd dd ?_
    have q := (rel.val k).isSome_eq
    rw [Option.isSome_map] at q
    rw [← q, ← l]
    exact h _ (I.tok _)
theorem d_notIn {Q : Value → Shared → Prop} (hu : A.units + 1 < cLine) (I : Inv X pins σ H s) (g : DGet H a y o) (ry : RelV y u) (h : ∀ s', Inv X pins σ H s' → Q (.bool (!o.isSome)) s') :
    wpAny (model X.prog X.w) A (compareOp .NotIn u (.ref a)) Q E s := by
  rcases g with ⟨kvs, k, e, ey, l⟩ | ⟨kvs, k, b, e, ey, eb, l⟩
  · subst ey
    obtain ⟨z, hd, vs, rel, dd⟩ := dk_rd I.hok e
    refine wpAny_notIn_of (kV_is ry) hd dd.mapOf ?_
    rw [← (rel.val k).isSome_eq, ← l]
    exact h _ (I.tok _)
  · subst ey
    cases (show u = Value.ref b from ry)
    obtain ⟨z, hd, xs, rel, dd⟩ := dt_rd I.hok e
    refine wpAny_notIn_heap (tupleKind_room_in1 hu) (key_of I.hok eb) hd dd ?_
    have q := (rel.val k).isSome_eq
    rw [Option.isSome_map] at q
    rw [← q, ← l]
    exact h _ (I.tok _)
/-- a dict's object is replaced -/
theorem d_write {h' : Heap} {t' : Nat} {ob : HO} (I : Inv X pins σ H s) (mu : Mut (H a)) (hs : Heap.SameBut a s.heap h') (he : ∃ q, h'.get? a = some q) (new : ObjOk X.prog X.w (upd H a ob) h' a ob) :
    Inv X pins σ (upd H a ob) { s with heap := h', toks := t' } :=
  I.write (x := a) (e := a) mu (.inl rfl) (fun b q hb z => (hs.2 b hb).trans z) he new
theorem dk_new {P : Program} {w : World} {H' : Hp} {h' : Heap} {kvs : List (Key × V)} {vs : List (Key × Value)} (z : kvs.length ≤ sizeLine) (hd : (a == sysModules) = false) (rel : KV kvs vs) (dd : h'.DictOf (mixKind P w) a vs) :
    ObjOk P w H' h' a (.dK kvs) := ⟨z, hd, vs, rel, dd⟩
/-- d[y] = v -/
theorem d_setItem {H' : Hp} {Q : Unit → Shared → Prop} (hu : A.units + 1 < cLine) (I : Inv X pins σ H s) (g : DPut H a y v H') (ry : RelV y u) (rv : RelV v r) (h : ∀ s', Inv X pins σ H' s' → Q () s') :
    wpAny (model X.prog X.w) A (setItem (.ref a) u r) Q E s := by
  rcases g with ⟨kvs, k, e, ey, l, eH⟩ | ⟨kvs, k, b, e, ey, eb, l, eH⟩
  · subst ey eH
    obtain ⟨z, hd, vs, rel, dd⟩ := dk_of I.hok e
    have hz : vs.length ≤ sizeLine := by rw [← rel.length]; exact z
    have hl : (putK kvs k v).length ≤ sizeLine := by have := length_putK kvs k v; omega
    refine wpAny_setItem_pairs (hsz := hz) (kV_is ry) dd fun h' dd' hs => h _ ?_
    have he : ∃ q, h'.get? a = some q := let ⟨q, _, _, hq, _⟩ := dd'; ⟨q, hq⟩
    exact d_write I (by rw [e]; exact True.intro) hs he (dk_new hl hd (rel.put k rv) dd')
  · subst ey eH
    cases (show u = Value.ref b from ry)
    obtain ⟨z, hd, xs, rel, dd⟩ := dt_of I.hok e
    have hz : xs.length ≤ sizeLine := by rw [← Paired.length rel]; exact z
    have hl : (putK kvs k v).length ≤ sizeLine := by have := length_putK kvs k v; omega
    refine wpAny_setItem_heap (hsz := hz) (tupleKind_room_in1 hu) (key_of I.hok eb) dd fun h' dd' hs => h _ ?_
    obtain ⟨q, es, ep, hq, h2, h3, h4, _, h5⟩ := dd'
    refine d_write I (by rw [e]; exact True.intro) hs ⟨q, hq⟩ ⟨hl, hd, _, (rel.put k eb rv).keeps fun c ys ec => ?_, q, es, ep, hq, h2, h3, h4, h5⟩
    rw [upd_ne (ne_of ec e (fun z => nomatch z))]
    exact ec
end

section
variable {X : Cx} {pins : List (Addr × Obj)} {σ : St} {H : Hp} {s : Shared} {a : Addr} {kvs : List (Key × V)} {k : Key} {u : Value} {A : Around} {E : Value → Shared → Prop}
end


/-- the element of a subscription, not a slice -/
def NoSl (i : Expr) : Prop := ∀ ov iv, subscripted i false ov iv = operate [ov, iv] (getItem ov iv)
theorem subD_of {prog : Program} {w : World} {A : Around} {E : Value → Shared → Prop} {s : Shared} {env : Env} {value slice : Expr} {pos : Pos} {T id : String} {Q : Value → Shared → Prop}
    (hl : typeLookup (.type T) "__getitem__" = pure (some (.builtin id))) (hs : NoSl slice)
    (h : wpAny (model prog w) A (eval value env) (fun o s₁ => wpAny (model prog w) A (eval slice env) (fun i s₂ => s₂.TypeIs o T ∧ wpAny (model prog w) A (getItem o i) Q E s₂) E s₁) E s) :
    wpAny (model prog w) A (eval (.Subscript value slice pos) env) Q E s := by
  refine Subscript_ (wpAny_mono h (fun o s₁ h₁ => wpAny_mono h₁ (fun i s₂ h₂ => ?_) fun _ _ x => x) fun _ _ x => x)
  obtain ⟨hT, h₂⟩ := h₂
  unfold subscriptTail
  refine wpAny_bind ?_
  rw [getitemInPython_of_ne hT.not_modules]
  refine wpAny_bind (wpAny_specialOf hT hl ?_)
  have fin : wpAny (model prog w) A (subscripted slice false o i) (fun r s₃ => wpAny (model prog w) A (letTemporaryGo value o r >>= fun _ => pure r) Q E s₃) E s₂ := by
    rw [hs o i]
    exact wpAny_operating (wpAny_mono h₂ (fun r s₃ h₃ => wpAny_bind (wpAny_letTemporaryGo (wpAny_pure h₃))) fun _ _ x => x)
  first
    | exact wpAny_pure (wpAny_bind fin)
    | exact wpAny_bind (wpAny_pure (wpAny_bind fin))
    | exact wpAny_bind fin

theorem dict_typeIs {X : Cx} {pins : List (Addr × Obj)} {σ : St} {H : Hp} {s : Shared} {a : Addr} {y : V} {o : Option V} (I : Inv X pins σ H s) (g : DGet H a y o) : s.TypeIs (.ref a) "dict" := by
  rcases g with ⟨kvs, k, e, _, _⟩ | ⟨kvs, k, b, e, _, _, _⟩
  · obtain ⟨_, _, vs, _, dd⟩ := dk_rd I.hok e
    exact dd.typeIs
  · obtain ⟨_, _, xs, _, dd⟩ := dt_rd I.hok e
    exact dd.typeIs
/-- d[y] -/
inductive ItDGet (Q : VK) (x : V) (y : V) (H2 : Hp) : Prop
  | mk a v : x = .ref a → DGet H2 a y (some v) → Q v H2 → ItDGet Q x y H2
def tDGet (td ty : TE) : TE := fun σ H Q => td σ H fun x H1 => ty σ H1 fun y H2 => ItDGet Q x y H2
/-- y in d, y not in d -/
inductive ItDIn (Q : VK) (y : V) (x : V) (H2 : Hp) : Prop
  | mk a o : x = .ref a → DGet H2 a y o → Q (.bl o.isSome) H2 → ItDIn Q y x H2
def tDIn (ty td : TE) : TE := fun σ H Q => ty σ H fun y H1 => td σ H1 fun x H2 => ItDIn Q y x H2
inductive ItDNotIn (Q : VK) (y : V) (x : V) (H2 : Hp) : Prop
  | mk a o : x = .ref a → DGet H2 a y o → Q (.bl (!o.isSome)) H2 → ItDNotIn Q y x H2
def tDNotIn (ty td : TE) : TE := fun σ H Q => ty σ H fun y H1 => td σ H1 fun x H2 => ItDNotIn Q y x H2
/-- d[y] = v -/
inductive IsDPut (D : Ends) (σ : St) (v : V) (x : V) (y : V) (H3 : Hp) : Prop
  | mk a H4 : x = .ref a → DPut H3 a y v H4 → D.nx σ H4 → IsDPut D σ v x y H3
def sDPut (td ty tv : TE) : TS := fun D σ H => tv σ H fun v H1 => td σ H1 fun x H2 => ty σ H2 fun y H3 => IsDPut D σ v x y H3
section
variable {X : Cx} {o i e value : Expr} {pos pos' tpos : Pos} {td ty tv : TE}
theorem pe_dget (hu : X.A.units + 1 < cLine) (ho : PE X o td) (hi : PE X i ty) (hs : NoSl i) : PE X (.Subscript o i pos) (tDGet td ty) := by
  intro pins s σ H Q I h
  refine subD_of PySem.F.slot_dict_getitem.lookup hs (thn (ho pins s σ H _ I h) fun u s1 ⟨x, H1, I1, rx, q1⟩ => thn (hi pins s1 σ H1 _ I1 q1) fun iv s2 ⟨y, H2, I2, ry, a, v, ex, g, q2⟩ => ?_)
  subst ex
  obtain rfl : u = Value.ref a := rx
  exact ⟨dict_typeIs I2 g, d_getItem hu I2 g ry fun w' s3 I3 rw' => ⟨v, H2, I3, rw', q2⟩⟩
theorem pc_din (hu : X.A.units + 1 < cLine) (hi : PE X i ty) (ho : PE X o td) : PC X .In i o (tDIn ty td) := by
  intro pins s σ H Q I h
  refine thn (hi pins s σ H _ I h) fun iv s1 ⟨y, H1, I1, ry, q1⟩ => thn (ho pins s1 σ H1 _ I1 q1) fun u s2 ⟨x, H2, I2, rx, a, ov, ex, g, q2⟩ => ?_
  subst ex
  obtain rfl : u = Value.ref a := rx
  exact d_in hu I2 g ry fun s3 I3 => ⟨.bl ov.isSome, H2, I3, rfl, q2⟩
theorem pc_dnotin (hu : X.A.units + 1 < cLine) (hi : PE X i ty) (ho : PE X o td) : PC X .NotIn i o (tDNotIn ty td) := by
  intro pins s σ H Q I h
  refine thn (hi pins s σ H _ I h) fun iv s1 ⟨y, H1, I1, ry, q1⟩ => thn (ho pins s1 σ H1 _ I1 q1) fun u s2 ⟨x, H2, I2, rx, a, ov, ex, g, q2⟩ => ?_
  subst ex
  obtain rfl : u = Value.ref a := rx
  exact d_notIn hu I2 g ry fun s3 I3 => ⟨.bl (!ov.isSome), H2, I3, rfl, q2⟩
theorem ps_dput (hu : X.A.units + 1 < cLine) (ho : PE X o td) (hi : PE X i ty) (hv : PE X value tv) (hs : swapsWith value (some (.Subscript o i pos')) pos.line X.env = pure false) :
    PS X (.Assign [.Subscript o i pos'] value pos) (sDPut td ty tv) := by
  intro pins s σ H D I h
  refine wpAny_Assign_Subscript (thn (hv pins s σ H _ I h) fun r s1 ⟨v, H1, I1, rv, q1⟩ => thn (ho pins s1 σ H1 _ I1 q1) fun u s2 ⟨x, H2, I2, rx, q2⟩ => thn (hi pins s2 σ H2 _ I2 q2) fun iv s3 ⟨y, H3, I3, ry, a, H4, ex, g, q3⟩ => ?_) hs
  subst ex
  obtain rfl : u = Value.ref a := rx
  exact d_setItem hu I3 g ry rv fun s4 I4 => ⟨σ, H4, I4, q3⟩
end


theorem dt_empty {P : Program} {w : World} {H : Hp} (h : Heap) (hb : sysModules < h.objs.size) : ObjOk P w H (h.push { cls := .type "dict", data := .dict #[] }) h.objs.size (.dT []) :=
  ⟨Nat.zero_le _, beq_eq_false_iff_ne.mpr (Ne.symm (Nat.ne_of_lt hb)), [], .nil, _, #[], 0, Heap.get?_push_size _ rfl, ⟨rfl, rfl, rfl⟩, rfl, rfl, List.nodup_nil⟩
def tDNewT : TE := fun _ H Q => ∀ p, H p = none → Q (.ref p) (upd H p (.dT []))
section
variable {X : Cx} {pos : Pos}
theorem pe_dnewT : PE X (.Dict [] [] pos) tDNewT := fun pins s σ H Q I h =>
  wpAny_Dict_empty ⟨.ref s.heap.objs.size, _, I.laid (a := s.heap.objs.size) (o := .dT []) (t' := s.toks) (fun _ _ q => Heap.get?_push_of_some _ q) (Nat.le_refl _) (dt_empty s.heap I.big), rfl, h _ (I.hok.fresh (Nat.le_refl _))⟩
end

section
variable {X : Cx} {pins : List (Addr × Obj)} {σ : St} {H : Hp} {s : Shared} {a : Addr} {y d : V} {u r : Value} {o : Option V} {A : Around} {E : Value → Shared → Prop}
end

section
variable {X : Cx} {o e f : Expr} {apos cpos : Pos} {td ty tx : TE}
end

section
variable {X : Cx} {pins : List (Addr × Obj)} {σ : St} {H : Hp} {s : Shared} {a : Addr} {kvs : List (Key × V)} {A : Around} {E : Value → Shared → Prop}
end


section
variable {X : Cx} {pins : List (Addr × Obj)} {σ : St} {H : Hp} {s : Shared} {a : Addr} {y : V} {u : Value} {A : Around} {E : Value → Shared → Prop}
end
end L2

namespace L2
open PySem PySem.Spec PyProof.Rows

section
variable {prog : Program} {w : World} {A : Around} {E : Value → Shared → Prop}
end

section
variable {X : Cx}
theorem refs_at : ∀ {ps : List Addr} {us : List Value}, Vals (ps.map V.ref) us → us = ps.map Value.ref
  | [], us, r => by
    rw [List.map_nil] at r
    cases r
    rfl
  | p :: ps, us, r => by
    rw [List.map_cons] at r
    cases r with
    | cons h t =>
      cases h
      rw [List.map_cons, ← refs_at t]
end
end L2

namespace L2
open PySem PySem.Spec PyProof.Rows

section
variable {X : Cx} {pins : List (Addr × Obj)} {σ : St} {H : Hp} {s : Shared} {h' : Heap}
/-- several records of ours have turned -/
theorem Inv.turnedL {t' : Nat} {ch : List Addr} (I : Inv X pins σ H s) (k : ∀ b o, b ∉ ch → s.heap.get? b = some o → h'.get? b = some o) (hf : ∀ b ∈ ch, FpOk X pins H b) : Inv X pins σ H { s with heap := h', toks := t' } := by
  have nit : ∀ b u, H b = some u → b ∉ ch := fun b u e z => by
    have q := (hf b z).1
    rw [q] at e; cases e
  refine I.step (g' := s.gens) (d' := s.drawn) (ch := ch) (fun b hb => ⟨(hf b hb).2.2.2.1, (hf b hb).2.1, (hf b hb).2.2.2.2.1, (hf b hb).2.2.2.2.2⟩) (fun b o _ _ hc e _ => k b o hc e) (fun b o _ _ hc e _ => ⟨o.slots, k b o hc e⟩)
    (fun _ _ _ _ n => n) (fun b o hc e => ⟨o, k b o hc e⟩) (fun _ _ e => e) (fun _ _ _ e => e) (fun b ps e => ⟨#[], by rw [e]; simp⟩) (fun m hm => ?_) (fun b u e => ?_) I.bare
  · obtain ⟨o, es, ep, ho, r⟩ := hm
    exact ⟨o, es, ep, k _ o (fun z => (hf _ z).2.1 rfl) ho, r⟩
  · refine (I.hok b u e).stay (fun c v hc q => k c v ?_ q) (fun _ q => q) fun _ _ q => q
    rcases hc with z | z
    · rw [z]; exact nit b u e
    · exact nit c _ z
/-- .. and one new object is laid -/
theorem Inv.turnedNew {t' : Nat} {ch : List Addr} {T : Addr} {ob : HO} (I : Inv X pins σ H s) (k : ∀ b o, b ∉ ch → s.heap.get? b = some o → h'.get? b = some o) (hf : ∀ b ∈ ch, FpOk X pins H b) (hT : s.heap.objs.size ≤ T)
    (new : ObjOk X.prog X.w (upd H T ob) h' T ob) : Inv X pins σ (upd H T ob) { s with heap := h', toks := t' } := by
  have hn : H T = none := I.hok.fresh hT
  have nit : ∀ b u, H b = some u → b ∉ ch := fun b u e z => by
    have q := (hf b z).1
    rw [q] at e; cases e
  refine I.step (g' := s.gens) (d' := s.drawn) (ch := ch) (fun b hb => ⟨(hf b hb).2.2.2.1, (hf b hb).2.1, (hf b hb).2.2.2.2.1, (hf b hb).2.2.2.2.2⟩) (fun b o _ _ hc e _ => k b o hc e) (fun b o _ _ hc e _ => ⟨o.slots, k b o hc e⟩)
    (fun b o _ e n => ?_) (fun b o hc e => ⟨o, k b o hc e⟩) (fun b xs e => ?_) (fun b o u e => ?_) (fun b ps e => ⟨#[], ?_⟩) (fun m hm => ?_) (fun b u e => ?_) I.bare
  · rw [upd_ne (Nat.ne_of_lt (Nat.lt_of_lt_of_le (Heap.lt_size e) hT))]; exact n
  · rw [upd_ne (ne_of_none e hn)]; exact e
  · rw [upd_ne (ne_of_none e hn)]; exact e
  · rw [upd_ne (ne_of_none e hn), e]; simp
  · obtain ⟨o, es, ep, ho, r⟩ := hm
    exact ⟨o, es, ep, k _ o (fun z => (hf _ z).2.1 rfl) ho, r⟩
  · by_cases hb : b = T
    · subst hb
      rw [upd_same] at e
      cases e
      exact new
    · rw [upd_ne hb] at e
      refine (I.hok b u e).stay (fun c v hc q => k c v ?_ q) (fun c q => by rw [upd_ne (ne_of_none q hn)]; exact q) fun c xs q => by rw [upd_ne (ne_of_none q hn)]; exact q
      rcases hc with z | z
      · rw [z]; exact nit b u e
      · exact nit c _ z

end
section
variable {X : Cx}
theorem pi_one {tg : Expr} {pins : List (Addr × Obj)} {σ : St} {H : Hp} {s : Shared} {R : It → Hp → Prop} {J : It} {tn : Nat → Heap → Prop} {tk : Nat} (I : Inv X pins σ H s) (o : Obj)
    (T : Turn X.prog X.w X.K tg J [s.heap.objs.size] s.heap.objs.size tn) (st : tn 0 (s.heap.push o)) (q : R J H) : PIE X pins σ tg R (.ref s.heap.objs.size) { s with heap := s.heap.push o, toks := tk } := by
  refine ⟨s.heap.objs.size, [s.heap.objs.size], tn, J, H, rfl, I.kept fun b ob e => Heap.get?_push_of_some _ e, T, st, fun b hb => ?_, q⟩
  have e : b = s.heap.objs.size := by simpa using hb
  subst e
  exact I.fpOk (Nat.le_refl _) (I.hok.fresh (Nat.le_refl _))
end

section
variable {X : Cx} {tg : Expr}
end
section
variable {X : Cx} {tg : Expr}
end

def Its (x : Str) : It := ⟨fun i _ => i < x.cps.size, fun i H v H' => H' = H ∧ ∃ c, x.cps[i]? = some c ∧ v = .str ⟨#[c]⟩, fun i _ => x.cps.size ≤ i⟩
theorem turn_str {P : Program} {w : World} {K : PySem.W.Frag} {tg : Expr} (it : Addr) (x : Str) (t : Tok) (ty : String) (hty : ty = "str_ascii_iterator" ∨ ty = "str_iterator") :
    Turn P w K tg (Its x) [it] it (fun i h => h.IsStrIter it ty x t i) where
  mem := by simp
  obj := fun i h st b hb => by
    have e : b = it := by simpa using hb
    subst e
    obtain ⟨o, e, c, d⟩ := st
    exact ⟨o, e, fun v z => by rw [d] at z; cases z⟩
  keep := fun i h h' st k => let ⟨o, ho, r⟩ := st; ⟨o, k it (by simp) o ho, r⟩
  item := by
    intro X hP hw hK hc i pins s σ H E I hf st hg
    subst hP hw hK
    obtain ⟨f0, f1, f2, f3, f4, f5⟩ := hf it (by simp)
    have W : Walks X.prog X.w X.A it [it] [it] x.cps.size (SignAt x) (fun i h => h.IsStrIter it ty x t i) := by
      rcases hty with e | e
      · rw [e]; exact Walks.strAscii (I.ok.hd hc) it x t
      · rw [e]; exact Walks.strWide (I.ok.hd hc) it x t
    have hno : ["enumerate", "zip", "dict_itemiterator", "dict_reverseitemiterator", "odict_iterator", "itertools.zip_longest", "itertools.pairwise"].contains ty = false := by
      rcases hty with e | e
      · rw [e]; decide
      · rw [e]; decide
    refine W.item i s _ _ hg st fun v h' tk hv st' kk => ?_
    obtain ⟨c, u, hcx, rfl⟩ := hv
    have I1 : Inv X pins σ H { s with heap := h', toks := tk } := I.turned (fun b o hb e => kk b o (by simpa using hb) e) f0 f1 f3 f4 f5
    obtain ⟨oi, e, cc, dd⟩ := id st'
    exact ⟨_, rfl, go_of (s := { s with heap := h', toks := tk }) e cc dd hno ⟨.str ⟨#[c]⟩, H, I1, ⟨u, rfl⟩, ⟨rfl, c, hcx, rfl⟩, st', fun b hb => (hf b hb).1⟩⟩
  done := by
    intro X hP hw hK hc i pins s σ H E I hf st hg
    subst hP hw hK
    obtain ⟨f0, f1, f2, f3, f4, f5⟩ := hf it (by simp)
    have hx : x.cps[i]? = none := Array.getElem?_eq_none hg
    rcases hty with e | e
    · rw [e] at st
      exact wpAny_pyNext_ascii_end (I.ok.hd hc) st hx fun h' eb => ⟨rfl, I.turned (t' := s.toks) (fun b o hb e => eb b o hb e) f0 f1 f3 f4 f5⟩
    · rw [e] at st
      exact wpAny_pyNext_wide_end (I.ok.hd hc) st hx fun h' eb => ⟨rfl, I.turned (t' := s.toks) (fun b o hb e => eb b o hb e) f0 f1 f3 f4 f5⟩
  self := fun A i s Q E st h => by
    rcases hty with e | e
    · rw [e] at st; exact wpAny_pyIter_striter_ascii st h
    · rw [e] at st; exact wpAny_pyIter_striter_wide st h
inductive IiStr (R : (It → Hp → Prop)) (v : V) (H1 : Hp) : Prop
  | mk x : v = .str x → R (Its x) H1 → IiStr R v H1
def iStr (te : TE) : TI := fun σ H R => te σ H fun v H1 => IiStr R v H1
theorem pi_str {X : Cx} {tg e : Expr} {te : TE} (he : PE X e te) : PI X tg e (iStr te) := by
  intro pins s σ H R I h
  refine thn (he pins s σ H _ I h) fun v s1 ⟨y, H1, I1, r1, x, ex, q⟩ => ?_
  subst ex
  obtain ⟨t, rfl⟩ := r1
  cases ha : x.cps.all (· < 128)
  · exact wpAny_pyIter_wide ha (pi_one (tk := s1.toks) I1 _ (turn_str _ x t "str_iterator" (.inr rfl)) ⟨_, Heap.get?_push_size _ rfl, rfl, rfl⟩ q)
  · exact wpAny_pyIter_ascii ha (pi_one (tk := s1.toks) I1 _ (turn_str _ x t "str_ascii_iterator" (.inl rfl)) ⟨_, Heap.get?_push_size _ rfl, rfl, rfl⟩ q)

section
variable {prog : Program} {w : World} {A : Around} {E : Value → Shared → Prop} {s : Shared}
theorem iter_keys {d : Addr} {o : Obj} {es : Array DictEntry} {ep : Nat} {Q : Value → Shared → Prop} (hd : (d == sysModules) = false) (ho : s.heap.get? d = some o) (hc : o.ExactDict) (hdat : o.data = .dict es ep)
    (hQ : Q (.ref s.heap.objs.size) { s with heap := s.heap.push { cls := .type "dict_keyiterator", data := .fields #[.ref d, .int 0 0, .int es.size 0, .int ep 0] } }) :
    wpAny (model prog w) A (pyIter (.ref d)) Q E s := by
  have hT : s.TypeIs (.ref d) "dict" := ⟨o, ho, hc.1⟩
  refine wpAny_pyIter_slot hT F.slot_dict_iter (wpAny_call_entry F.slot_dict_iter hT F.entry_dict_iter ?_ (F.args_dict_iter_1 _))
  unfold Builtin.«dict.__iter__»
  refine wpAny_bind ?_
  unfold Builtin.Dict.dictSlotNone
  refine wpAny_bind (wpAny_notOrdered_dict hT ?_)
  show wpAny _ _ (pure (Value.ref d)) _ _ s
  refine wpAny_pure ?_
  show wpAny _ _ (Builtin.Dict.showsAll d >>= _) _ _ s
  unfold Builtin.Dict.showsAll
  rw [if_neg (by rw [hd]; exact Bool.false_ne_true)]
  refine wpAny_bind (wpAny_pure ?_)
  refine wpAny_bind (wpAny_dictEntries ho hdat ?_)
  refine wpAny_bind (wpAny_dictEpoch ho hdat ?_)
  refine wpAny_bind (wpAny_newObj_type (wpAny_pure ⟨_, rfl, "dict_keyiterator", _, ⟨_, Heap.get?_push_size _ rfl, rfl⟩, F.slot_dict_keyiterator_next.lookup, ?_⟩))
  simpa [rawInt] using hQ
theorem next_key_item {it d : Addr} {i n ep : Nat} {od : Obj} {es : Array DictEntry} {en : DictEntry} {Q : Option Value → Shared → Prop} (hit : s.heap.IsKeyIter it d i n ep) (hod : s.heap.get? d = some od) (hdd : od.data = .dict es ep)
    (hsz : es.size = n) (hx : es[i]? = some en) (hQ : ∀ h', h'.IsKeyIter it d (i + 1) n ep → Heap.SameBut it s.heap h' → Q (some en.key) { s with heap := h' }) : wpAny (model prog w) A (pyNext (.ref it)) Q E s := by
  obtain ⟨o, ho, hc, hd⟩ := id hit
  unfold pyNext
  refine wpAny_bind (wpAny_attempt (wpAny_callSpecial?_slot (name := Str.ofString "__next__") hit.typeIs F.slot_dict_keyiterator_next
    (wpAny_call_entry F.slot_dict_keyiterator_next hit.typeIs F.entry_dict_keyiterator_next ?_ (F.args_dict_keyiterator_next_1 _))))
  refine wpAny_bind (wpAny_pure ?_)
  refine wpAny_bind ?_
  refine wpAny_bind ?_
  first | refine wpAny_bind (wpAny_typeNameOfWhole_keyiter hit.typeIs (wpAny_pure ?_)) | refine wpAny_bind (wpAny_typeNameOf_keyiter hit.typeIs (wpAny_pure ?_))
  refine wpAny_bind (wpAny_fieldsOf ho hd ?_)
  have hown : Builtin.Dict_items.ownsTuple "dict_keyiterator" = false := by decide
  simp only [hown, Bool.false_eq_true, if_false]
  show wpAny _ _ (if (Value.ref d == Value.none) = true then _ else _) _ _ s
  rw [if_neg (show ¬ ((Value.ref d == Value.none) = true) from Bool.false_ne_true)]
  refine wpAny_bind (wpAny_pure ?_)
  refine wpAny_bind (wpAny_dictEntries hod hdd ?_)
  rw [if_neg (by rw [hsz]; simp)]
  refine wpAny_bind (wpAny_pure ?_)
  refine wpAny_bind (wpAny_dictEpoch hod hdd ?_)
  rw [if_neg (by simp)]
  refine wpAny_pure ?_
  obtain ⟨hlt', hen⟩ := Array.getElem?_eq_some_iff.mp hx
  simp only [show ¬ ((i : Int) < 0) from by omega, if_false, Int.toNat_natCast, Array.getElem?_eq_getElem hlt']
  refine wpAny_bind ?_
  first | refine wpAny_bind (wpAny_typeNameOfWhole_keyiter hit.typeIs (wpAny_pure ?_)) | refine wpAny_bind (wpAny_typeNameOf_keyiter hit.typeIs (wpAny_pure ?_))
  refine wpAny_bind (wpAny_isOneOf_keyiter hit.typeIs ?_)
  show wpAny _ _ (setField (.ref it) 1 (rawInt ((i : Int) + 1)) >>= _) _ _ s
  refine wpAny_bind (wpAny_setField ho hd (by simp) ?_)
  have hit' : (s.heap.update it (Obj.mapFields (·.setIfInBounds 1 (rawInt ((i : Int) + 1))))).IsKeyIter it d (i + 1) n ep :=
    ⟨_, Heap.get?_update_self _ ho (Obj.isFreed_of_fields (Obj.data_mapFields hd _)), (Obj.cls_mapFields ..).trans hc, by rw [Obj.data_mapFields hd]; simp [rawInt]⟩
  refine wpAny_bind (wpAny_holding ?_)
  refine wpAny_bind (wpAny_isOneOf_keyiter (s := { s with heap := s.heap.update it (Obj.mapFields (·.setIfInBounds 1 (rawInt ((i : Int) + 1)))) }) hit'.typeIs ?_)
  show wpAny _ _ (pure es[i].key) _ _ _
  rw [hen]
  exact wpAny_pure (wpAny_pure ⟨_, rfl, wpAny_pure (hQ _ hit' (Heap.SameBut.update ..))⟩)
theorem next_key_end {it d : Addr} {i n ep : Nat} {od : Obj} {es : Array DictEntry} {Q : Option Value → Shared → Prop} (hh : A.handled = none) (hit : s.heap.IsKeyIter it d i n ep) (hod : s.heap.get? d = some od) (hdd : od.data = .dict es ep)
    (hsz : es.size = n) (hge : n ≤ i) (hQ : ∀ h', Heap.ExtBut it s.heap h' → Q none { s with heap := h' }) : wpAny (model prog w) A (pyNext (.ref it)) Q E s := by
  obtain ⟨o, ho, hc, hd⟩ := id hit
  unfold pyNext
  refine wpAny_bind (wpAny_attempt (wpAny_callSpecial?_slot (name := Str.ofString "__next__") hit.typeIs F.slot_dict_keyiterator_next
    (wpAny_call_entry F.slot_dict_keyiterator_next hit.typeIs F.entry_dict_keyiterator_next ?_ (F.args_dict_keyiterator_next_1 _))))
  refine wpAny_bind (wpAny_pure ?_)
  refine wpAny_bind ?_
  refine wpAny_bind ?_
  first | refine wpAny_bind (wpAny_typeNameOfWhole_keyiter hit.typeIs (wpAny_pure ?_)) | refine wpAny_bind (wpAny_typeNameOf_keyiter hit.typeIs (wpAny_pure ?_))
  refine wpAny_bind (wpAny_fieldsOf ho hd ?_)
  have hown : Builtin.Dict_items.ownsTuple "dict_keyiterator" = false := by decide
  simp only [hown, Bool.false_eq_true, if_false]
  show wpAny _ _ (if (Value.ref d == Value.none) = true then _ else _) _ _ s
  rw [if_neg (show ¬ ((Value.ref d == Value.none) = true) from Bool.false_ne_true)]
  refine wpAny_bind (wpAny_pure ?_)
  refine wpAny_bind (wpAny_dictEntries hod hdd ?_)
  rw [if_neg (by rw [hsz]; simp)]
  refine wpAny_bind (wpAny_pure ?_)
  refine wpAny_bind (wpAny_dictEpoch hod hdd ?_)
  rw [if_neg (by simp)]
  refine wpAny_pure ?_
  have hge' : es.size ≤ i := by rw [hsz]; exact hge
  simp only [show ¬ ((i : Int) < 0) from by omega, if_false, Int.toNat_natCast, Array.getElem?_eq_none hge']
  refine wpAny_bind ?_
  first | refine wpAny_bind (wpAny_typeNameOfWhole_keyiter hit.typeIs (wpAny_pure ?_)) | refine wpAny_bind (wpAny_typeNameOf_keyiter hit.typeIs (wpAny_pure ?_))
  show wpAny _ _ (setField (.ref it) 0 .none >>= _) _ _ s
  refine wpAny_bind (wpAny_setField ho hd (by simp) ?_)
  show wpAny _ _ (newExc (.type "StopIteration") [] >>= _) _ _ _
  refine wpAny_bind ?_
  simp only [newExc, newTuple]
  refine wpAny_bind (wpAny_newObj_type ?_ (by size_fits))
  refine wpAny_bind (m := firstArgMember _ _) (wpAny_of_eq (a := Value.none) (by first | rfl | (simp only [firstArgMember]; rfl)) ?_)
  refine wpAny_newObj_type ?_ (by size_fits)
  simp only [raiseNew]
  refine wpAny_bind (wpAny_handled ?_)
  rw [show A.in1.handled = none from hh]
  refine wpAny_bind (wpAny_pure (wpAny_throw ?_))
  refine wpAny_bind (wpAny_isInstance (T := "StopIteration") (b := true) ⟨_, Heap.get?_push_size _ rfl, rfl⟩ isSubtype_stop ?_)
  exact wpAny_pure (hQ _ (((Heap.SameBut.update ..).extBut.push _).push _))
end

section
variable {X : Cx} {pins : List (Addr × Obj)} {σ : St} {H : Hp} {s : Shared} {d : Addr} {o : Obj}
end

section
variable {P : Program} {w : World} {K : PySem.W.Frag} {tg : Expr} {d : Addr} {o : Obj} {es : Array DictEntry} {ep : Nat}
end

section
variable {X : Cx} {tg e : Expr} {td : TE} {apos cpos : Pos}
end

theorem boot_zip5 : bootBuiltins "zip" = some (.type "zip") := by decide +kernel
/-- the lists at a and b as they stand at each turn, the items in new pairs -/
def Itz (K : PySem.W.Frag) (a b : Addr) : It :=
  ⟨fun i H => ∃ (xs ys : List V) (x y : V), SqL K H a xs ∧ SqL K H b ys ∧ xs[i]? = some x ∧ ys[i]? = some y,
    fun i H v H' => ∃ T x y, v = .ref T ∧ H T = none ∧ H' = upd H T (.tup [x, y]) ∧ (∀ xs, SqL K H a xs → xs[i]? = some x) ∧ ∀ ys, SqL K H b ys → ys[i]? = some y,
    fun i H => ∃ xs ys : List V, SqL K H a xs ∧ SqL K H b ys ∧ (xs.length ≤ i ∨ ys.length ≤ i)⟩
theorem turn_zip {P : Program} {w : World} {K : PySem.W.Frag} {elts : List Expr} {kk : Nat} {tpos : Pos} {a b z TI TO i1 i2 : Addr} (D : ZipApart z TI TO i1 i2 a b) :
    Turn P w K (.Tuple elts kk tpos) (Itz K a b) [z, TI, TO, i1, i2] z (fun i h => IsZip h z TI TO .none ∧ IsPair h TI (.ref i1) (.ref i2) ∧ (∃ x y, IsPair h TO x y) ∧ h.IsListIter i1 a i ∧ h.IsListIter i2 b i) where
  mem := by simp
  obj := fun i h st c hc => by
    obtain ⟨hz, hTI, ⟨x, y, hTO⟩, ⟨o1, e1, _, d1⟩, ⟨o2, e2, _, d2⟩⟩ := st
    have e' : c = z ∨ c = TI ∨ c = TO ∨ c = i1 ∨ c = i2 := by simpa using hc
    rcases e' with q | q | q | q | q
    · rw [q]; exact ⟨_, hz, fun v q => nomatch q⟩
    · rw [q]; exact ⟨_, hTI, fun v q => nomatch q⟩
    · rw [q]; exact ⟨_, hTO, fun v q => nomatch q⟩
    · rw [q]; exact ⟨o1, e1, fun v q => by rw [d1] at q; cases q⟩
    · rw [q]; exact ⟨o2, e2, fun v q => by rw [d2] at q; cases q⟩
  keep := fun i h h' st k => by
    obtain ⟨hz, hTI, ⟨x, y, hTO⟩, h1, h2⟩ := st
    exact ⟨k z (by simp) _ hz, k TI (by simp) _ hTI, ⟨x, y, k TO (by simp) _ hTO⟩, h1.at fun o q => k i1 (by simp) o q, h2.at fun o q => k i2 (by simp) o q⟩
  item := by
    intro X hP hw hK hc i pins s σ H E I hf st hg
    subst hP hw hK
    obtain ⟨hz, hTI, ⟨x0, y0, hTO⟩, h1, h2⟩ := st
    obtain ⟨xs, ys, x, y, hqx, hqy, hx, hy⟩ := hg
    obtain ⟨its, rv, p, _⟩ := I.list hqx
    obtain ⟨its2, rv2, p2, _⟩ := I.list hqy
    obtain ⟨u, hu, ru⟩ := rv.get hx
    obtain ⟨u2, hu2, ru2⟩ := rv2.get hy
    have hzl : z < s.heap.objs.size := Heap.lt_size hz
    refine wpAny_pyNext_zip_item D hz hTI hTO h1 h2 p.isList p2.isList (x := u) (y := u2) (by simpa using hu) (by simpa using hu2) fun h' z' TO' h1' h2' hT hsz hk => ?_
    refine ⟨_, rfl, wpAny_letOwnedTupleGo_zip (s := { s with heap := h' }) z' fun h'' z'' sb => ?_⟩
    have hT2 : h''.get? s.heap.objs.size = some { cls := .type "tuple", data := .seq #[u, u2] } := (sb.2 _ (Nat.ne_of_gt hzl)).trans hT
    have new : ObjOk X.prog X.w (upd H s.heap.objs.size (.tup [x, y])) h'' s.heap.objs.size (.tup [x, y]) :=
      ⟨by show 2 ≤ sizeLine; decide, [u, u2], .cons ru (.cons ru2 .nil), ⟨_, hT2, rfl, _, rfl⟩⟩
    have I1 : Inv X pins σ (upd H s.heap.objs.size (.tup [x, y])) { s with heap := h'' } :=
      I.turnedNew (t' := s.toks) (ch := [z, TI, TO, i1, i2]) (fun c o hb q => (sb.2 c (fun q' => hb (by simp [q']))).trans (hk c o (fun q' => hb (by simp [q'])) (fun q' => hb (by simp [q'])) (fun q' => hb (by simp [q'])) (fun q' => hb (by simp [q'])) q)) hf (Nat.le_refl _) new
    refine ⟨.ref s.heap.objs.size, _, I1, rfl, ⟨_, x, y, rfl, I.hok.fresh (Nat.le_refl _), rfl, fun l hl => by rw [I.list_inj hl hqx]; exact hx, fun l hl => by rw [I.list_inj hl hqy]; exact hy⟩, ⟨z'', ?_, ⟨u, u2, ?_⟩, ?_, ?_⟩, fun c hcm => ?_⟩
    · exact (sb.2 _ D.TIz).trans (hk _ _ D.TIz D.TITO D.TIi1 D.TIi2 hTI)
    · exact (sb.2 _ D.TOz).trans TO'
    · exact h1'.at fun o q => (sb.2 _ D.i1z).trans q
    · exact h2'.at fun o q => (sb.2 _ D.i2z).trans q
    · have hlt : c < s.heap.objs.size := by
        have e' : c = z ∨ c = TI ∨ c = TO ∨ c = i1 ∨ c = i2 := by simpa using hcm
        rcases e' with q | q | q | q | q
        · rw [q]; exact hzl
        · rw [q]; exact Heap.lt_size hTI
        · rw [q]; exact Heap.lt_size hTO
        · rw [q]; obtain ⟨_, e1, _⟩ := h1; exact Heap.lt_size e1
        · rw [q]; obtain ⟨_, e2, _⟩ := h2; exact Heap.lt_size e2
      rw [upd_ne (Nat.ne_of_lt hlt)]
      exact (hf c hcm).1
  done := by
    intro X hP hw hK hc i pins s σ H E I hf st hg
    subst hP hw hK
    obtain ⟨hz, hTI, ⟨x0, y0, hTO⟩, h1, h2⟩ := st
    obtain ⟨xs, ys, hqx, hqy, hend⟩ := hg
    obtain ⟨its, rv, p, _⟩ := I.list hqx
    obtain ⟨its2, rv2, p2, _⟩ := I.list hqy
    have l1 := rv.length
    have l2 := rv2.length
    have he : its.toArray[i]? = none ∨ its2.toArray[i]? = none := by
      rcases hend with q | q
      · exact .inl (by simp; omega)
      · exact .inr (by simp; omega)
    exact wpAny_pyNext_zip_end (I.ok.hd hc) D hz hTI hTO h1 h2 p.isList p2.isList he fun h' hk => ⟨rfl, I.turnedL (t' := s.toks) (ch := [z, TI, TO, i1, i2]) (fun c o hb q =>
      hk c o (fun q' => hb (by simp [q'])) (fun q' => hb (by simp [q'])) (fun q' => hb (by simp [q'])) (fun q' => hb (by simp [q'])) q) hf⟩
  self := fun A i s Q E st h => wpAny_pyIter_zip st.1 h
inductive IiZip (K : PySem.W.Frag) (R : (It → Hp → Prop)) (vs : List V) (H1 : Hp) : Prop
  | mk a b xs ys : vs = [.ref a, .ref b] → SqL K H1 a xs → SqL K H1 b ys → R (Itz K a b) H1 → IiZip K R vs H1
def iZip (K : PySem.W.Frag) (ta : TA) : TI := fun σ H R => ta σ H fun vs H1 => IiZip K R vs H1
theorem pi_zip {X : Cx} {e e2 : Expr} {ta : TA} {p pos tpos : Pos} {elts : List Expr} {kk : Nat} (hg : Gl X "zip") (hm : X.mg "zip" = none) (ha : PA X [e, e2] ta)
    (hs : starEach [e, e2] X.env = (false, eval e X.env) :: starEach [e2] X.env := by rfl) (hpl : (backTo pos (starEach [e2] X.env)).any (·.1) = false := by rfl) :
    PI X (.Tuple elts kk tpos) (.Call (.Name "zip" p) [e, e2] [] pos) (iZip X.K ta) := by
  intro pins s σ H R I h
  refine Call_ (ld_blt I hg hm boot_zip5 (PyProof.Rows.callWith_type1 (thn (ha pos pins s σ H _ I h) fun us s1 ⟨vs, H1, I1, r1, q1⟩ => ?_) hs hpl))
  obtain ⟨a, b, xs, ys, ex, hqx, hqy, q⟩ := q1
  subst ex
  cases r1 with
  | cons r rr =>
    cases rr with
    | cons r' rr =>
      cases rr
      cases r
      cases r'
      obtain ⟨its, rv, p1, _⟩ := I1.list hqx
      obtain ⟨its2, rv2, p2, _⟩ := I1.list hqy
      have la : a < s1.heap.objs.size := p1.lt
      have lb : b < s1.heap.objs.size := p2.lt
      refine call_zip_2 p1.isList p2.isList fun h' hz hTI hTO h1 h2 hsz hk => wpAny_pyIter_zip hz ?_
      have I2 : Inv X pins σ H1 { s1 with heap := h' } := I1.kept (t' := s1.toks) hk
      refine ⟨s1.heap.objs.size + 4, [s1.heap.objs.size + 4, s1.heap.objs.size + 2, s1.heap.objs.size + 3, s1.heap.objs.size, s1.heap.objs.size + 1], _, _, H1, rfl, I2, turn_zip (PySem.W.ktu_apart s1.heap.objs.size a b la lb), ⟨hz, hTI, ⟨_, _, hTO⟩, h1, h2⟩, fun c hcm => ?_, q⟩
      have e' : c = s1.heap.objs.size + 4 ∨ c = s1.heap.objs.size + 2 ∨ c = s1.heap.objs.size + 3 ∨ c = s1.heap.objs.size ∨ c = s1.heap.objs.size + 1 := by simpa using hcm
      have hle : s1.heap.objs.size ≤ c := by
        rcases e' with z | z | z | z | z
        · rw [z]; exact Nat.le_add_right _ _
        · rw [z]; exact Nat.le_add_right _ _
        · rw [z]; exact Nat.le_add_right _ _
        · rw [z]; exact Nat.le_refl _
        · rw [z]; exact Nat.le_add_right _ _
      exact I1.fpOk hle (I1.hok.fresh hle)
end L2

section 
namespace Bits
open PySem PyProof.Rows

theorem nat_xor_add_and (m : Nat) : ∀ n : Nat, (m ^^^ n) + 2 * (m &&& n) = m + n := by
  induction m using Nat.strongRecOn with
  | _ m ih =>
    intro n
    by_cases h0 : m = 0
    · subst h0
      simp
    · have e := ih (m / 2) (Nat.div_lt_self (Nat.pos_of_ne_zero h0) (by decide)) (n / 2)
      rw [← Nat.xor_div_two, ← Nat.and_div_two] at e
      have o1 := @Nat.xor_mod_two_eq_one m n
      have a1 := @Nat.and_mod_two_eq_one m n
      have p : (m ^^^ n) % 2 + 2 * ((m &&& n) % 2) = m % 2 + n % 2 := by
        have x := Nat.mod_two_eq_zero_or_one (m ^^^ n)
        have y := Nat.mod_two_eq_zero_or_one (m &&& n)
        have z := Nat.mod_two_eq_zero_or_one m
        have w := Nat.mod_two_eq_zero_or_one n
        revert o1 a1 x y z w
        generalize (m ^^^ n) % 2 = a
        generalize (m &&& n) % 2 = b
        generalize m % 2 = c
        generalize n % 2 = d
        rintro o1 a1 (rfl | rfl) (rfl | rfl) (rfl | rfl) (rfl | rfl) <;> first | rfl | (revert o1 a1; decide)
      clear o1 a1 ih
      omega

end Bits
end 

section 
namespace TL
open PySem PySem.Builtin PySem.Builtin.Str PySem.StrLaws

end TL
end 

namespace L2
open PySem PySem.Spec PyProof.Rows

section
variable {X : Cx} {pins : List (Addr × Obj)} {σ : St} {H : Hp} {s : Shared} {Q : VK}
end

section
variable {X : Cx}

end

section
variable {X : Cx} {o e : Expr} {to te : TE}
end
end L2

namespace L2
open PySem PySem.Spec PyProof.Rows

section
variable {X : Cx}
end

end L2

namespace Att
open PySem PySem.W PySem.Calls PyProof.Rows

theorem ints_of_wellAll {P : Params} {h : Heap} : ∀ (ns : List Int) (vs : List Value), WellAll P h vs (ns.map WData.int) → IntsAre vs ns := by
  intro ns
  induction ns with
  | nil =>
    intro vs w
    rw [List.map_nil] at w
    cases w
    exact .nil
  | cons n ns ih =>
    intro vs w
    rw [List.map_cons] at w
    cases w with
    | cons a b =>
      cases a
      exact .cons _ _ (ih _ b)

section
variable {prog : Program} {w : World} {A : Around} {E : Value → Shared → Prop} {s : Shared} {K : Frag}

end
end Att

namespace L2
open PySem PySem.Spec PyProof.Rows

theorem vals_ints : ∀ {vs : List Value} {ns : List Int}, IntsAre vs ns → Vals (ns.map V.int) vs
  | _, _, .nil => .nil
  | _, _, .cons n t h => .cons ⟨t, rfl⟩ (vals_ints h)

/-- nothing is tracked but the script, known to the object (or it is an object of the module) -/
def Only (H : Hp) : Prop := ∀ b, H b = none ∨ ∃ o xs, H b = some (.frz o (.lst xs))

end L2

namespace L2
open PySem PySem.Spec PyProof.Rows

abbrev KOf {K : PySem.W.Frag} {h : Heap} (_ : K.In h) : PySem.W.Frag := K

end L2

namespace L2
open PySem PySem.Spec PyProof.Rows

/-- the j-th statement of a class's body -/
def inClass (s : Stmt) (j : Nat) : Stmt := match s with
  | .ClassDef _ _ _ body _ _ _ _ _ _ _ => body.getD j (.Pass ⟨0, 0, 0, 0⟩)
  | _ => .Pass ⟨0, 0, 0, 0⟩
def defArgs (s : Stmt) : Arguments := match s with
  | .FunctionDef _ a _ _ _ _ _ _ _ _ => a
  | _ => { posonlyargs := [], args := [], vararg := none, kwonlyargs := [], kw_defaults := [], kwarg := none, defaults := [] }
def defBody (s : Stmt) : List Stmt := match s with
  | .FunctionDef _ _ b _ _ _ _ _ _ _ => b
  | _ => []
def defScope (s : Stmt) : Scope := match s with
  | .FunctionDef _ _ _ _ _ _ sc _ _ _ => sc
  | _ => { kind := .function, names := [], isGenerator := false, isCoroutine := false }

abbrev CX0 : CXT := fun _ _ _ _ _ _ => False
abbrev E0 : XK := fun _ _ _ => False
theorem pass0 {X : Cx} : Passes CX0 X E0 := fun _ _ _ _ _ _ _ h => h.elim

structure Fun (K : PySem.W.Frag) (x qual : Str) (st : Stmt) (f : Addr) (fd : FuncData) : Prop where
  ex : ∃ (oc : Value) (od : Option Addr) (kV doc pm : Value) (an : Option Addr) (cdv ct : Value) (osl : Array (Option Value)),
    fd = PySem.W.fnOf x qual (defArgs st) (defBody st) (defScope st) .none kV doc pm an cdv ct ∧ K.lookup f = some ⟨oc, od, .func fd, osl⟩ ∧ PySem.W.codeIn K cdv qual = true
  kp : PySem.W.keepIn K (.ref f) = true
section
variable {P : Program} {w : World} {K : PySem.W.Frag} {mg : Str → Option Value} {base : Heap}
/-- THE RULE for a def: its body as a term of rules, and the reading of that term -/
theorem Fun.ok {x qual : Str} {st : Stmt} {f : Addr} {fd : FuncData} {N ps : List Str} {k : Nat} {sp : Sp} (F : Fun K x qual st f fd) (S : FnScope N ps (defScope st)) (len : ∀ vs H Q E, sp vs H Q E → vs.length = ps.length)
    (hbody : ∀ (cdv : Value) (A : Around) (outer : List Env) (s : Shared) (H : Hp) (vs : List V) (Q : VK) (E : XK), Room k (A.deeper (envOfC qual (defScope st) s.heap.objs.size f cdv)) → sp vs H Q E →
      ∃ t, PSs (cxOf CX0 P w K mg base N qual (defScope st) f cdv A outer s H E).nox (defBody st) t ∧ t { nx := fun _ H' => Q .non H', rt := Q } (start N vs) H) : FnOk P w K mg base CX0 (k + 1) f fd ps sp := by
  obtain ⟨oc, od, kV, doc, pm, an, cdv, ct, osl, rfl, lk, hcd⟩ := F.ex
  refine fn_of lk hcd S len fun A outer s H vs Q E hr hsp => ?_
  obtain ⟨t, h, q⟩ := hbody cdv A outer s H vs Q E hr hsp
  exact ⟨t, h.nox, q⟩
/-- how its arguments bind (no defaults): h is «fun _ _ _ _ _ _ us hl => match us, hl with | [_, _], _ => rfl», one _ a parameter -/
theorem Fun.binds {x qual : Str} {st : Stmt} {f : Addr} {fd : FuncData} {ps : List Str} (F : Fun K x qual st f fd)
    (h : ∀ (kV doc pm : Value) (an : Option Addr) (cdv ct : Value) (us : List Value), us.length = ps.length → bindArgs (PySem.W.fnOf x qual (defArgs st) (defBody st) (defScope st) .none kV doc pm an cdv ct) ⟨us, []⟩ = pure (ps.zip us)) : Binds K fd ps [] := by
  obtain ⟨oc, od, kV, doc, pm, an, cdv, ct, osl, rfl, lk, hcd⟩ := F.ex
  exact .all (h kV doc pm an cdv ct)
theorem fun_mk {x qual : Str} {st : Stmt} {f : Addr} {oc : Value} {od an : Option Addr} {osl : Array (Option Value)} {kV doc pm cdv ct : Value} (l : K.lookup f = some ⟨oc, od, .func (PySem.W.fnOf x qual (defArgs st) (defBody st) (defScope st) .none kV doc pm an cdv ct), osl⟩)
    (c : PySem.W.codeIn K cdv qual = true) (k : PySem.W.keepIn K (.ref f) = true) : Fun K x qual st f (PySem.W.fnOf x qual (defArgs st) (defBody st) (defScope st) .none kV doc pm an cdv ct) := ⟨⟨oc, od, kV, doc, pm, an, cdv, ct, osl, rfl, l, c⟩, k⟩
end
theorem hu_of {A : Around} {k : Nat} (hr : Room k A) : A.units + 1 < cLine := Nat.lt_of_le_of_lt (Nat.add_le_add_left (by decide : 1 ≤ 64) _) hr.units
section
variable {X : Cx}
theorem pv (i : Nat) {x : Str} {pos : Pos} (hN : X.N[i]? = some x := by rfl) (hv : Vis X.env.scope x := by first | exact Or.inl rfl | exact Or.inr (Or.inl rfl) | exact Or.inr (Or.inr rfl)) (hd : (x == ("__debug__" : Str)) = false := by decide)
    (hcd : (x == ("__classdict__" : Str)) = false := by decide) : PE X (.Name x pos) (tVar i) := pe_var hN hv hd hcd
end

theorem iteF {A B : Prop} (h : B) : if false = true then A else B := by
  rw [if_neg Bool.false_ne_true]
  exact h
theorem iteT {A B : Prop} (h : A) : if true = true then A else B := by
  rw [if_pos rfl]
  exact h
theorem ite2 {c A B : Prop} [Decidable c] (h1 : c → A) (h2 : ¬ c → B) : if c then A else B := by
  by_cases h : c
  · rw [if_pos h]
    exact h1 h
  · rw [if_neg h]
    exact h2 h
/-- all that was tracked is as it was -/
def Same (H H' : Hp) : Prop := ∀ b o, H b = some o → H' b = some o
theorem Same.refl (H : Hp) : Same H H := fun _ _ h => h
theorem Same.trans {H H1 H2 : Hp} (a : Same H H1) (b : Same H1 H2) : Same H H2 := fun c o h => b c o (a c o h)
theorem Same.free {H H' : Hp} (e : Same H H') {l : Addr} (h : H' l = Option.none) : H l = Option.none := by
  cases q : H l with
  | none => rfl
  | some o =>
    rw [e l o q] at h
    cases h
theorem Same.seq {K : PySem.W.Frag} {H H' : Hp} {a : Addr} {xs : List V} (e : Same H H') (h : SqL K H a xs) : SqL K H' a xs := by
  rcases h with (h | ⟨o, h⟩) | h
  · exact .inl (.inl (e _ _ h))
  · exact .inl (.inr ⟨o, e _ _ h⟩)
  · exact .inr h

section
variable {κ : Type} [DecidableEq κ]
end
/-- a new instance and its __init__ leave all that was tracked as it was -/
theorem Same.made {H H1 : Hp} {x dx C : Addr} (nx : H x = Option.none) (nd : H dx = Option.none) (k : ∀ b o, (upd (upd H dx (.own x)) x (.ins C dx [])) b = some o → b ≠ x → H1 b = some o) : Same H H1 := fun b o e =>
  k b o (by rw [upd_ne (ne_of_none e nx), upd_ne (ne_of_none e nd)]; exact e) (ne_of_none e nx)
end L2

set_option Elab.async false
set_option linter.all false
set_option maxRecDepth 100000
namespace L2
open PySem PySem.Spec PyProof.Rows

/-- an exception of the class C at a, its attributes' dict at dx with line n; its newest traceback entry, if there's one, at T -/
structure XAt (h : Heap) (C a dx T : Addr) (n : Int) : Prop where
  ob : ∃ vs sl, h.get? a = some ⟨.ref C, some dx, .fields vs, sl⟩ ∧
    (vs[1]? = some .none ∨ (vs[1]? = some (.ref T) ∧ ∃ oT ts x3, h.get? T = some oT ∧ oT.data = .fields ts ∧ ts[3]? = some x3))
  dc : ∃ mA tk, h.Ns1 dx mA ∧ mA "line" = some (.int n tk)
  na : dx ≠ a
  nT : T ≠ a
  nd : T ≠ dx
/-- .. there is one -/
def XTb (h : Heap) (C a dx T : Addr) : Prop := ∃ vs sl, h.get? a = some ⟨.ref C, some dx, .fields vs, sl⟩ ∧ vs[1]? = some (.ref T)

/-- what is left of the exception under a change elsewhere -/
theorem XAt.keep {h h' : Heap} {C a dx T : Addr} {n : Int} (x : XAt h C a dx T n) (k : ∀ b o, (b = a ∨ b = dx ∨ b = T) → h.get? b = some o → h'.get? b = some o) : XAt h' C a dx T n := by
  obtain ⟨⟨vs, sl, ha, r⟩, ⟨mA, tk, ⟨o, es, ep, e1, e2⟩, l⟩, na, nT, nd⟩ := x
  refine ⟨⟨vs, sl, k _ _ (.inl rfl) ha, ?_⟩, ⟨mA, tk, ⟨o, es, ep, k _ _ (.inr (.inl rfl)) e1, e2⟩, l⟩, na, nT, nd⟩
  rcases r with r | ⟨r, oT, ts, x3, hT, hd, h3⟩
  · exact .inl r
  · exact .inr ⟨r, oT, ts, x3, k _ _ (.inr (.inr rfl)) hT, hd, h3⟩
theorem XTb.keep {h h' : Heap} {C a dx T : Addr} (x : XTb h C a dx T) (k : ∀ o, h.get? a = some o → h'.get? a = some o) : XTb h' C a dx T :=
  let ⟨vs, sl, ha, r⟩ := x; ⟨vs, sl, k _ ha, r⟩

/-- the exception e in this body: the body's own invariant holds, e's objects are nobody else's; E of its line -/
structure XIn (X : Cx) (C : Addr) (E : XK) (pins : List (Addr × Obj)) (σ : St) (H : Hp) (a dx T : Addr) (n : Int) (s : Shared) : Prop where
  inv : Inv X pins σ H s
  at_ : XAt s.heap C a dx T n
  fa : FpOk X pins H a
  fd : X.s₀.heap.get? dx = none ∧ dx ≠ X.env.locals
  hd : H dx = none
  pd : ∀ p ∈ X.pn ++ pins, p.1 ≠ dx
  fT : FpOk X pins H T
  ew : E (.int n 0) none H
def XJ (X : Cx) (C : Addr) (E : XK) (e : Value) (s : Shared) : Prop := ∃ pins σ H a dx T n, e = .ref a ∧ XIn X C E pins σ H a dx T n s
/-- .. with a traceback -/
def XI1 (X : Cx) (C : Addr) (E : XK) (e : Value) (s : Shared) : Prop := ∃ pins σ H a dx T n, e = .ref a ∧ XIn X C E pins σ H a dx T n s ∧ XTb s.heap C a dx T
theorem XI1.xi {X : Cx} {C : Addr} {E : XK} {e : Value} {s : Shared} (h : XI1 X C E e s) : XJ X C E e s :=
  let ⟨pins, σ, H, a, dx, T, n, h1, h2, _⟩ := h; ⟨pins, σ, H, a, dx, T, n, h1, h2⟩

section
variable {X : Cx} {C : Addr} {E : XK} {pins : List (Addr × Obj)} {σ : St} {H : Hp} {a dx T : Addr} {n : Int} {s : Shared}

theorem FpOk.noStk (I : Inv X pins σ H s) {b : Addr} (f : FpOk X pins H b) : b ∉ frs X.stack := fun z => by
  rcases List.mem_cons.mp (I.stkSub b z) with q | q
  · exact f.2.1 q
  · exact f.2.2.1 q

/-- the slots of the running frames change -/
theorem Inv.slots {h1 : Heap} (I : Inv X pins σ H s) (x : Heap.SlotsOnly (frs X.stack) s.heap h1) : Inv X pins σ H { s with heap := h1 } := by
  have keepT : ∀ b o u, H b = some o → s.heap.get? b = some u → h1.get? b = some u := fun b o u hb hu => by
    rw [x.2.1 b fun z => by rw [I.stkFree b z] at hb; cases hb]
    exact hu
  have hok : HOk X.prog X.w H h1 := fun b o hb => (I.hok b o hb).stay (fun c u hc hu => by
    rcases hc with rfl | hc
    · exact keepT _ _ _ hb hu
    · exact keepT _ _ _ hc hu) (fun _ z => z) fun _ _ z => z
  refine I.call (h' := h1) (ch := []) (g' := s.gens) (t' := s.toks) (d' := s.drawn) ?_ hok I.bare (fun b z => absurd z (by simp))
  exact ⟨fun b o hb _ nf _ => by rw [x.2.1 b nf]; exact hb, fun b o hb _ _ _ => x.2.2 b o hb, fun _ _ _ z _ => z, fun b o hb _ => let ⟨sl, e⟩ := x.2.2 b o hb; ⟨_, e⟩, fun _ _ z => z, fun _ _ _ z => z, fun _ ps z => ⟨#[], by simpa using z⟩⟩

theorem XIn.noStk (Z : XIn X C E pins σ H a dx T n s) : dx ∉ frs X.stack := fun z => by
  rcases List.mem_cons.mp (Z.inv.stkSub dx z) with q | q
  · exact Z.fd.2 q
  · obtain ⟨o, ho, _⟩ := (Z.inv.ok.funs.mem q).2
    rw [Z.fd.1] at ho
    cases ho
theorem XIn.slots {h1 : Heap} (Z : XIn X C E pins σ H a dx T n s) (x : Heap.SlotsOnly (frs X.stack) s.heap h1) : XIn X C E pins σ H a dx T n { s with heap := h1 } :=
  ⟨Z.inv.slots x, Z.at_.keep fun b o hb e => by
    have nb : b ∉ frs X.stack := by
      rcases hb with rfl | rfl | rfl
      · exact Z.fa.noStk Z.inv
      · exact Z.noStk
      · exact Z.fT.noStk Z.inv
    show h1.get? b = some o
    rw [x.2.1 b nb]
    exact e, Z.fa, Z.fd, Z.hd, Z.pd, Z.fT, Z.ew⟩

/-- a traceback entry is changed at a place -/
theorem upd_fields {h : Heap} {b : Addr} {o : Obj} {vs : Array Value} {i : Nat} {x : Value} (e : h.get? b = some o) (d : o.data = .fields vs) :
    (h.update b (Obj.mapFields (·.setIfInBounds i x))).get? b = some (o.mapFields (·.setIfInBounds i x)) ∧ (o.mapFields (·.setIfInBounds i x)).data = .fields (vs.setIfInBounds i x) :=
  ⟨Heap.get?_update_self _ e (Obj.isFreed_of_fields (Obj.data_mapFields d _)), Obj.data_mapFields d _⟩

theorem XIn.entry {oT : Obj} {ts : Array Value} {i : Nat} {x x3 : Value} (Z : XIn X C E pins σ H a dx T n s) (hT : s.heap.get? T = some oT) (hd : oT.data = .fields ts) (h3 : ts[3]? = some x3) :
    XIn X C E pins σ H a dx T n { s with heap := s.heap.update T (Obj.mapFields (·.setIfInBounds i x)) } := by
  have oth : ∀ b o, b ≠ T → s.heap.get? b = some o → (s.heap.update T (Obj.mapFields (·.setIfInBounds i x))).get? b = some o := fun b o hb e => (Heap.get?_update_other _ _ (Ne.symm hb)).trans e
  obtain ⟨u1, u2⟩ := upd_fields (i := i) (x := x) hT hd
  refine ⟨Z.inv.turnedL (t' := s.toks) (ch := [T]) (fun b o hb e => oth b o (fun q => hb (by simp [q])) e) (fun b hb => by rw [List.mem_singleton.mp hb]; exact Z.fT), ?_, Z.fa, Z.fd, Z.hd, Z.pd, Z.fT, Z.ew⟩
  obtain ⟨⟨vs, sl, ha, r⟩, ⟨mA, tk, ⟨o, es, ep, e1, e2⟩, l⟩, na, nT, nd⟩ := Z.at_
  refine ⟨⟨vs, sl, oth _ _ (Ne.symm nT) ha, ?_⟩, ⟨mA, tk, ⟨o, es, ep, oth _ _ (Ne.symm nd) e1, e2⟩, l⟩, na, nT, nd⟩
  rcases r with r | ⟨r, _⟩
  · exact .inl r
  · refine .inr ⟨r, _, _, ?_, u1, u2, ?_⟩
    · exact if i = 3 then x else x3
    · have hs : 3 < ts.size := (Array.getElem?_eq_some_iff.mp h3).1
      by_cases q : i = 3
      · subst q
        rw [if_pos rfl]
        simp [hs]
      · rw [if_neg q, Array.getElem?_setIfInBounds_ne q]
        exact h3

/-- the new entry of noteFrame -/
theorem entry_ok {A' : Value → Shared → Prop} {head : Value} {hadNext : Bool} {L : Addr} (hst : X.stack = X.env :: X.outer) (hf : X.env.frame = some L) (Z : XIn X C E pins σ H a dx T n s) :
    wpAny (model X.prog X.w) X.A (do let fo ← frameOf X.env; let pl ← entryPlaceOf L hadNext; let en ← EntryCells.newEntry head fo .none (rawInt L) .none pl; setField (.ref a) 1 en)
      (fun _ s' => XI1 X C E (.ref a) s') A' s := by
  have fr : X.A.frames = some (X.env :: X.outer) := by rw [← hst]; exact Z.inv.ok.frames
  have fl := Z.inv.stack
  rw [hst] at fl
  refine wpAny_bind (wpAny_frameOf_fun fr fl hf fun h1 so => ?_)
  have so' : Heap.SlotsOnly (frs X.stack) s.heap h1 := by rw [hst]; exact so
  have Z1 := Z.slots so'
  refine wpAny_bind (wpAny_entryPlaceOf fun pl hpl => ?_)
  unfold EntryCells.newEntry newFields
  refine wpAny_bind (wpAny_newObj_type ?_ (hpl.sizeOk5 _ _ _ _ _))
  obtain ⟨⟨vs, sl, ha, r⟩, ⟨mA, tk, ⟨o, es, ep, e1, e2⟩, l⟩, na, nT, nd⟩ := Z1.at_
  have hv1 : 1 < vs.size := by
    rcases r with r | ⟨r, _⟩ <;> exact (Array.getElem?_eq_some_iff.mp r).1
  have new : ∀ b ob, h1.get? b = some ob → b ≠ h1.objs.size := fun b ob e => Nat.ne_of_lt (Heap.lt_size e)
  refine wpAny_setField (Heap.get?_push_of_some _ ha) rfl hv1 ?_
  obtain ⟨u1, u2⟩ := upd_fields (i := 1) (x := .ref h1.objs.size) (Heap.get?_push_of_some { cls := .type "traceback", dict := none, data := .fields ([head, .ref L, .none, rawInt L, .none] ++ (if pl.isEmpty then List.replicate 6 Value.none else pl)).toArray } ha) rfl
  have I2 := Z1.inv.kept (t' := s.toks) (h' := h1.push { cls := .type "traceback", dict := none, data := .fields ([head, .ref L, .none, rawInt L, .none] ++ (if pl.isEmpty then List.replicate 6 Value.none else pl)).toArray }) fun b u e => Heap.get?_push_of_some _ e
  have fN : FpOk X pins H h1.objs.size := Z1.inv.fpOk (Nat.le_refl _) (Z1.inv.hok.fresh (Nat.le_refl _))
  have oth : ∀ b ob, b ≠ a → (h1.push { cls := .type "traceback", dict := none, data := .fields ([head, .ref L, .none, rawInt L, .none] ++ (if pl.isEmpty then List.replicate 6 Value.none else pl)).toArray }).get? b = some ob →
      ((h1.push { cls := .type "traceback", dict := none, data := .fields ([head, .ref L, .none, rawInt L, .none] ++ (if pl.isEmpty then List.replicate 6 Value.none else pl)).toArray }).update a (Obj.mapFields (·.setIfInBounds 1 (.ref h1.objs.size)))).get? b = some ob := fun b ob hb e =>
    (Heap.get?_update_other _ _ (Ne.symm hb)).trans e
  refine ⟨pins, σ, H, a, dx, h1.objs.size, n, rfl, ⟨I2.turnedL (t' := s.toks) (ch := [a]) (fun b ob hb e => oth b ob (fun q => hb (by simp [q])) e) (fun b hb => by rw [List.mem_singleton.mp hb]; exact Z.fa), ?_, Z.fa, Z.fd, Z.hd, Z.pd, fN, Z.ew⟩, ?_⟩
  · refine ⟨⟨_, _, u1, .inr ⟨by simp [hv1], _, _, rawInt L, oth _ _ (Ne.symm (new _ _ ha)) (Heap.get?_push_size h1 rfl), rfl, ?_⟩⟩, ⟨mA, tk, ⟨o, es, ep, oth _ _ na (Heap.get?_push_of_some _ e1), e2⟩, l⟩, na, Ne.symm (new _ _ ha), Ne.symm (new _ _ e1)⟩
    simp
  · exact ⟨_, _, u1, by simp [hv1]⟩

theorem note_ok {A' : Value → Shared → Prop} {e : Value} {L : Addr} (hst : X.stack = X.env :: X.outer) (hf : X.env.frame = some L) (h : XJ X C E e s) :
    wpAny (model X.prog X.w) X.A (noteFrame e X.env) (fun _ s' => XI1 X C E e s') A' s := by
  obtain ⟨pins, σ, H, a, dx, T, n, rfl, Z⟩ := h
  obtain ⟨vs, sl, ha, r⟩ := Z.at_.ob
  unfold noteFrame
  simp only [hf]
  rcases r with r | ⟨r, oT, ts, x3, hT, hd, h3⟩
  · refine wpAny_bind (wpAny_field ha rfl r ?_)
    rw [if_neg (by decide)]
    exact entry_ok hst hf Z
  · refine wpAny_bind (wpAny_field ha rfl r ?_)
    rw [if_pos (by simp)]
    refine wpAny_bind (wpAny_field hT hd h3 ?_)
    by_cases q : (x3 == rawInt L) = true
    · rw [if_pos q]
      exact wpAny_pure ⟨pins, σ, H, a, dx, T, n, rfl, Z, vs, sl, ha, r⟩
    · rw [if_neg q]
      refine wpAny_bind (wpAny_setField hT hd (Array.getElem?_eq_some_iff.mp h3).1 ?_)
      exact entry_ok hst hf (Z.entry hT hd h3)

theorem flight_ok {A' : Value → Shared → Prop} {e : Value} {fo : Option Addr} (h : XI1 X C E e s) : wpAny (model X.prog X.w) X.A (setFlight e fo) (fun _ s' => XI1 X C E e s') A' s := by
  obtain ⟨pins, σ, H, a, dx, T, n, rfl, Z, tb⟩ := h
  obtain ⟨vs, sl, ha, r⟩ := Z.at_.ob
  obtain ⟨vs', sl', ha', r'⟩ := id tb
  rw [ha] at ha'
  cases ha'
  rcases r with r | ⟨r, oT, ts, x3, hT, hd, h3⟩
  · rw [r] at r'
    cases r'
  · unfold setFlight
    refine wpAny_bind (wpAny_field ha rfl r ?_)
    rw [if_pos (by simp)]
    refine wpAny_setField hT hd (Array.getElem?_eq_some_iff.mp h3).1 ?_
    refine ⟨pins, σ, H, a, dx, T, n, rfl, Z.entry hT hd h3, tb.keep fun o e => (Heap.get?_update_other _ _ Z.at_.nT).trans e⟩

/-- the wish itself, whatever the body's own is -/
abbrev XI (X : Cx) (C : Addr) (E : XK) : Value → Shared → Prop := XJ X.nox C E
/-- an exception passes a loop of the body -/
theorem own_ok {L : Addr} (hst : X.stack = X.env :: X.outer) (hf : X.env.frame = some L) (hx : X.xe = XI X C E) : PassesOwn (model X.prog X.w) X.A X.env X.xe := by
  intro e s h
  rw [hx] at h ⊢
  refine wpAny_mono (note_ok (X := X.nox) (A' := fun _ _ => False) hst hf h) (fun _ s' h' => ?_) fun _ _ z => z.elim
  obtain ⟨pins, σ, H, a, dx, T, n, rfl, Z, vs, sl, ha, r⟩ := id h'
  refine wpAny_bind (wpAny_field ha rfl r ?_)
  rw [if_neg (by simp)]
  exact wpAny_mono (flight_ok (X := X.nox) (A' := fun _ _ => False) h') (fun _ _ z => z.xi) fun _ _ z => z.elim
end
end L2

set_option Elab.async false
set_option linter.all false
set_option maxRecDepth 100000
namespace L2
open PySem PySem.Spec PyProof.Rows

/-- how an exception lies behind a call: its line is what E is asked of -/
def CXE (P : Program) (w : World) (C : Addr) : CXT := fun outer H s E e s' => ∃ (H' : Hp) (a dx T : Addr) (n : Int), e = .ref a ∧ s'.os = s.os ∧ AllBare s'.gens ∧ Un (frs outer) [] H H' s.heap s'.heap ∧ HOk P w H' s'.heap ∧
  XAt s'.heap C a dx T n ∧ s.heap.objs.size ≤ a ∧ s.heap.objs.size ≤ T ∧ s.heap.get? dx = none ∧ H' dx = none ∧ H' a = none ∧ H' T = none ∧ E (.int n 0) none H'

section
variable {X : Cx} {C : Addr} {E : XK}
theorem Inv.xfree {pins : List (Addr × Obj)} {σ : St} {H : Hp} {s : Shared} {b : Addr} (I : Inv X pins σ H s) (hx : X.ex = []) (h : s.heap.get? b = none) : X.s₀.heap.get? b = none ∧ b ≠ X.env.locals := by
  constructor
  · cases q : X.s₀.heap.get? b with
    | none => rfl
    | some o =>
      obtain ⟨o', e⟩ := I.base.there b o q (by rw [hx]; simp)
      rw [h] at e
      cases e
  · rintro rfl
    obtain ⟨m, ⟨o, _, _, e, _⟩, _⟩ := I.loc
    rw [h] at e
    cases e
theorem passE (hx : X.xe = XI X C E) (he : X.ex = []) : Passes (CXE X.prog X.w C) X E := by
  intro pins σ H s e s' I h
  rw [hx]
  obtain ⟨H', a, dx, T, n, rfl, h1, h2, h3, h4, h5, h6, h7, h8, hd, h9, h10, h11⟩ := h
  have I' := I.call' h1 h3 h4 h2 (fun b hb => absurd hb (by simp))
  exact ⟨pins, σ, H', a, dx, T, n, rfl, I'.wish _, h5, I.fpOk h6 h9, I.xfree he h8, hd, (fun p z q => by have w := (I.pin p z).1; rw [q, h8] at w; cases w), I.fpOk h7 h10, h11⟩
theorem PSs.wide {F : Value → Shared → Prop} {st : List Stmt} {t : TS} (h : PSs (X.wish F) st t) (hF : ∀ e s, F e s → X.xe e s) : PSs X st t := fun pins s σ H D I q =>
  wpAny_mono (h pins s σ H D (I.wish F) q) (fun f s' z => z.unwish) fun e s' z => hF e s' z
end

section
variable {P : Program} {w : World} {K : PySem.W.Frag} {mg : Str → Option Value} {base : Heap} {C : Addr}
/-- an exception leaves a def's body -/
theorem leave_ok {N : List Str} {qual : Str} {scope : Scope} {f : Addr} {cdv : Value} {A : Around} {outer : List Env} {s s' : Shared} {H : Hp} {E : XK} {e : Value}
    (h : XI (cxOf (CXE P w C) P w K mg base N qual scope f cdv A outer s H E) C E e s') : (cxOf (CXE P w C) P w K mg base N qual scope f cdv A outer s H E).xe e s' := by
  show wpAny (model P w) _ (leaving _ e) _ _ s'
  unfold leaving
  refine wpAny_bind (wpAny_mono (note_ok (X := (cxOf (CXE P w C) P w K mg base N qual scope f cdv A outer s H E).nox) (A' := fun _ _ => False) rfl rfl h) (fun _ s1 h1 => ?_) fun _ _ z => z.elim)
  refine wpAny_mono (flight_ok (X := (cxOf (CXE P w C) P w K mg base N qual scope f cdv A outer s H E).nox) (A' := fun _ _ => False) h1) (fun _ s2 h2 => ?_) fun _ _ z => z.elim
  obtain ⟨pins, σ, H', a, dx, T, n, rfl, Z⟩ := h2.xi
  have sz : ∀ {b}, FpOk (cxOf (CXE P w C) P w K mg base N qual scope f cdv A outer s H E).nox pins H' b → s.heap.objs.size ≤ b := fun z => z.2.2.2.1.resolve_left (by intro q; cases q)
  exact ⟨H', a, dx, T, n, rfl, Z.inv.os, Z.inv.bare, Z.inv.base, Z.inv.hok, Z.at_, sz Z.fa, sz Z.fT, Z.fd.1, Z.hd, Z.fa.1, Z.fT.1, Z.ew⟩
/-- a def of the text from which an exception of the class at C may come -/
theorem Fun.okX {x qual : Str} {st : Stmt} {f : Addr} {fd : FuncData} {N ps : List Str} {k : Nat} {sp : Sp} (F : Fun K x qual st f fd) (S : FnScope N ps (defScope st)) (len : ∀ vs H Q E, sp vs H Q E → vs.length = ps.length)
    (hbody : ∀ (cdv : Value) (A : Around) (outer : List Env) (s : Shared) (H : Hp) (vs : List V) (Q : VK) (E : XK), Room k (A.deeper (envOfC qual (defScope st) s.heap.objs.size f cdv)) → sp vs H Q E →
      ∃ t, PSs ((cxOf (CXE P w C) P w K mg base N qual (defScope st) f cdv A outer s H E).wish (XI (cxOf (CXE P w C) P w K mg base N qual (defScope st) f cdv A outer s H E) C E)) (defBody st) t ∧
        t { nx := fun _ H' => Q .non H', rt := Q } (start N vs) H) : FnOk P w K mg base (CXE P w C) (k + 1) f fd ps sp := by
  obtain ⟨oc, od, kV, doc, pm, an, cdv, ct, osl, rfl, lk, hcd⟩ := F.ex
  refine fn_of lk hcd S len fun A outer s H vs Q E hr hsp => ?_
  obtain ⟨t, h, q⟩ := hbody cdv A outer s H vs Q E hr hsp
  exact ⟨t, h.wide fun e s' z => leave_ok z, q⟩
end

section
variable {X : Cx} {pins : List (Addr × Obj)} {σ : St} {H : Hp} {s : Shared}
def drp (H : Hp) (a : Addr) : Hp := fun b => if b = a then none else H b
theorem drp_ne {H : Hp} {a b : Addr} (h : b ≠ a) : drp H a b = H b := if_neg h
theorem drp_at {H : Hp} {a : Addr} : drp H a a = none := if_pos rfl
/-- what nothing leans on -/
def Lone : HO → Bool
  | .ext _ => true
  | .xd _ => true
  | _ => false
theorem Inv.drop {a : Addr} {o : HO} (I : Inv X pins σ H s) (ha : H a = some o) (l : Lone o = true) : Inv X pins σ (drp H a) s := by
  have ne : ∀ b u, H b = some u → Lone u = false → b ≠ a := fun b u e q z => by
    subst z
    rw [ha] at e
    cases e
    rw [l] at q
    cases q
  have non : ∀ b, H b = none → drp H a b = none := fun b e => by
    by_cases q : b = a
    · rw [q]; exact drp_at
    · rw [drp_ne q]; exact e
  have u := I.base
  refine ⟨I.ok, I.os, I.bare, ⟨u.keep, u.slot, fun b o e n hx => non b (u.free b o e n hx), u.there, fun b xs e => ?_, fun b o' u' e => ?_, fun b ps e => ?_⟩, I.loc, I.cell, non _ I.free, fun x c e => non _ (I.freeC x c e), fun p hp => ?_, fun b u' e => ?_, I.len⟩
  · have z := u.tups b xs e
    rw [drp_ne (ne b _ z rfl)]
    exact z
  · have z := u.frzs b o' u' e
    rw [drp_ne (ne b _ z rfl)]
    exact z
  · obtain ⟨m, z⟩ := u.tbls b ps e
    exact ⟨m, by rw [drp_ne (ne b _ z rfl)]; exact z⟩
  · obtain ⟨h1, h2, h3⟩ := I.pin p hp
    exact ⟨h1, non _ h2, h3⟩
  · have nb : b ≠ a := fun q => by rw [q, drp_at] at e; cases e
    rw [drp_ne nb] at e
    refine (I.hok b u' e).stay (fun _ _ _ z => z) (fun c z => ?_) fun c xs z => ?_
    · rw [drp_ne (ne c _ z rfl)]; exact z
    · rw [drp_ne (ne c _ z rfl)]; exact z
end

def ExN (C t a : Addr) : Heap → Prop := fun h => h.get? a = some ⟨.ref C, none, .fields #[.ref t, .none, .none, .none, .bool false, .none], #[]⟩
def ExD (C t dx a : Addr) : Heap → Prop := fun h => h.get? a = some ⟨.ref C, some dx, .fields #[.ref t, .none, .none, .none, .bool false, .none], #[]⟩
/-- the class as the top has left it -/
structure XC (K : PySem.W.Frag) (C N fI : Addr) : Prop where
  cls : ∃ nm q bs sn sub ab col dd k0 k1 k2 k3 k5, K.lookup C = some (excClassObj nm q C N bs [.type "Exception", .type "BaseException", .type "object"] true sn sub ab col dd k0 k1 k2 k3 k5 "Exception.__new__")
  ok : PySem.W.nsOkIn K N = true
  init : PySem.W.nsIn K N "__init__" = some (some (.ref fI))
  sa : PySem.W.nsIn K N "__setattr__" = some none
  ln : PySem.W.nsIn K N "line" = some none
  ga : PySem.W.nsIn K N "__getattribute__" = some none
  gt : PySem.W.nsIn K N "__getattr__" = some none
  fn : PySem.W.isFn K (.ref fI) = true
  kp : PySem.W.keepIn K (.ref C) = true

theorem XC.ns {K : PySem.W.Frag} {C N fI : Addr} {h : Heap} (c : XC K C N fI) (X : K.In h) : h.Ns N (h.nsMap N) := .of_isNs (PySem.W.isNs_of_in X c.ok)
theorem XC.non {K : PySem.W.Frag} {C N fI : Addr} {h : Heap} (c : XC K C N fI) (X : K.In h) {x : Str} (e : PySem.W.nsIn K N x = some none) : h.nsMap N x = none := PySem.W.ns_none_of X (c.ns X) e

section
variable {prog : Program} {w : World} {A : Around} {E : Value → Shared → Prop} {h : Heap} {g : Array GenState} {d : Drawn} {t : Nat} {os : OsState}
variable {nm q : Str} {C N : Addr} {bs : List Value} {sn : List Str} {sub : List Value} {ab : Bool} {col : Option Bool} {dd : Option Addr} {k0 k1 k2 k3 k5 : Option Value}

/-- the two objects that C(..) lays ahead of __init__ -/
noncomputable def laidX (h : Heap) (C : Addr) (vs : List Value) : Heap := (h.push { cls := .type "tuple", data := .seq vs.toArray }).push { cls := .ref C, data := .fields #[.ref h.objs.size, .none, .none, .none, .bool false, .none] }
theorem laidX_keep {C : Addr} {vs : List Value} {b : Addr} {o : Obj} (e : h.get? b = some o) : (laidX h C vs).get? b = some o := Heap.get?_push_of_some _ (Heap.get?_push_of_some _ e)
theorem laidX_at {C : Addr} {vs : List Value} : (laidX h C vs).get? (h.objs.size + 1) = some ⟨.ref C, none, .fields #[.ref h.objs.size, .none, .none, .none, .bool false, .none], #[]⟩ := by
  have := Heap.get?_push_size (h.push { cls := .type "tuple", data := .seq vs.toArray }) (o := { cls := .ref C, data := .fields #[.ref h.objs.size, .none, .none, .none, .bool false, .none] }) rfl
  rwa [Heap.size_push] at this

theorem exc_type_call {mN : Str → Option Value} {vs : List Value} {fI : Addr} {oI : Obj} {Q : Fin → Shared → Prop}
    (cC : h.get? C = some (excClassObj nm q C N bs [.type "Exception", .type "BaseException", .type "object"] true sn sub ab col dd k0 k1 k2 k3 k5 "Exception.__new__")) (cn : h.Ns N mN) (ci : mN "__init__" = some (.ref fI))
    (cf : h.get? fI = some oI) (cfc : oI.cls = .type "function") (cz : vs.length ≤ sizeLine)
    (k : wpAny (model prog w) A (call (.ref fI) (.ref (h.objs.size + 1) :: vs)) (fun r s' => r = .none ∧ Q (.done (.ret (.ref (h.objs.size + 1)))) s') E ⟨laidX h C vs, g, d, t, os⟩) :
    wpAny (model prog w) A (Builtin.«type.__call__» ⟨.ref C :: vs, []⟩) Q E ⟨h, g, d, t, os⟩ := by
  have FE := F.excBase_Exception
  repeat (first | (with_reducible refine wpAny_loadPart_at cC ?_) | (with_reducible refine wpAny_madeBy_exc cC ?_) | wp_step)
  refine codeAny_call_builtin_code (Code.quiet_builtin _ FE.quiet) (wpAny_check_new_sub FE cC ?_)
  refine codeAny_exc_new_sub FE cC ?_ cz
  show wpAny _ _ _ _ _ ⟨laidX h C vs, g, d, t, os⟩
  have cC1 : (laidX h C vs).get? C = _ := laidX_keep cC
  have cf1 : (laidX h C vs).get? fI = _ := laidX_keep cf
  have cn1 : (laidX h C vs).Ns N mN := let ⟨o, es, ep, e, r⟩ := cn; ⟨o, es, ep, laidX_keep e, r⟩
  have ce := laidX_at (h := h) (C := C) (vs := vs)
  have cc : (Value.ref C :: [Value.type "Exception", .type "BaseException", .type "object"]).contains (.ref C) = true := by simp
  unfold isInstance
  repeat (first | (with_reducible refine wpAny_loadPart_at ce ?_) | (with_reducible refine wpAny_isSubtype_exc cC1 ?_; rw [cc]) | wp_step)
  show wpAny _ _ (typeLookup (.ref C) _) _ _ _
  refine wpAny_typeLookup_exc cC1 cn1 FE.mroIs FE.init.lookup ?_
  rw [ci]
  refine wpAny_holding (wpAny_bind ?_)
  unfold bindSpecial
  refine wpAny_bind (wpAny_typeOf (T := "function") ⟨_, cf1, cfc⟩ ?_)
  rw [if_pos (by decide)]
  refine wpAny_pure (wpAny_bind (wpAny_mono k (fun r s' hr => ?_) fun _ _ x => x))
  obtain ⟨rfl, hQ⟩ := hr
  wp_walk
  exact hQ

theorem exc_call {mN : Str → Option Value} {vs : List Value} {fI : Addr} {oI : Obj} {Q : Value → Shared → Prop}
    (cC : h.get? C = some (excClassObj nm q C N bs [.type "Exception", .type "BaseException", .type "object"] true sn sub ab col dd k0 k1 k2 k3 k5 "Exception.__new__")) (cn : h.Ns N mN) (ci : mN "__init__" = some (.ref fI))
    (cf : h.get? fI = some oI) (cfc : oI.cls = .type "function") (cz : vs.length ≤ sizeLine)
    (k : wpAny (model prog w) (A.under (.builtin "type.__call__" ⟨.ref C :: vs, []⟩)) (call (.ref fI) (.ref (h.objs.size + 1) :: vs)) (fun r s' => r = .none ∧ Q (.ref (h.objs.size + 1)) s') E ⟨laidX h C vs, g, d, t, os⟩) :
    wpAny (model prog w) A (call (.ref C) vs) Q E ⟨h, g, d, t, os⟩ := by
  have f1 := tc_lookup
  have f2 := tc_bind (.ref C)
  have cT : (⟨h, g, d, t, os⟩ : Shared).TypeIs (.ref C) "type" := ⟨_, cC, rfl⟩
  refine wpAny_call (codeAny_of_tree ?_)
  show wpAny _ _ (callAny (.ref C) _) _ _ _
  repeat (any_goals (first | assumption | (with_reducible refine wpAny_loadPart_at cC ?_) | wp_step))
  refine ⟨rfl, ?_⟩
  exact codeAny_call_builtin_at (Code.quiet_builtin _ (by decide +kernel)) entry_typeCall (wpAny_check_type_call_sub cC (exc_type_call cC cn ci cf cfc cz k))
end

end L2

set_option Elab.async false
set_option linter.all false
set_option maxRecDepth 100000
namespace L2
open PySem PySem.Spec PyProof.Rows
open Builtin Builtin.ObjectAttr
theorem exc_no_line : typeLookup (.type "Exception") "line" = pure none := by rw [typeLookup_type, builtinLookup_eq_fast]; kernel_rfl

section
variable {prog : Program} {w : World} {A : Around} {E : Value → Shared → Prop} {h : Heap} {g : Array GenState} {d : Drawn} {t : Nat} {os : OsState}
variable {nm q : Str} {C N x : Addr} {bs : List Value} {sn : List Str} {sub : List Value} {ab : Bool} {col : Option Bool} {dd : Option Addr} {k0 k1 k2 k3 k5 : Option Value}
  {mN : Str → Option Value} {name : Str} {v : Value} {vs : Array Value} {sl : Array (Option Value)}

theorem exc_put {tk : Tok} {Q : Fin → Shared → Prop}
    (cC : h.get? C = some (excClassObj nm q C N bs [.type "Exception", .type "BaseException", .type "object"] true sn sub ab col dd k0 k1 k2 k3 k5 "Exception.__new__")) (cn : h.Ns N mN) (ca : mN name = none)
    (cB : typeLookup (.type "Exception") name = pure none) (cx : h.get? x = some ⟨.ref C, none, .fields vs, sl⟩)
    (k : ∀ h' tk', h'.get? x = some ⟨.ref C, some h.objs.size, .fields vs, sl⟩ → h'.Ns1 h.objs.size (fun y => if y = name then some v else none) → (∀ b o, b ≠ x → h.get? b = some o → h'.get? b = some o) → Q (.done (.ret .none)) ⟨h', g, d, tk', os⟩) :
    wpAny (model prog w) A (Builtin.«object.__setattr__» ⟨[.ref x, .str name tk, v], []⟩) Q E ⟨h, g, d, t, os⟩ := by
  have SE := F.store_Exception
  have sp := SE.passes (.ref x)
  obtain ⟨o, eo⟩ : ∃ o : Obj, o = ⟨.ref C, none, .fields vs, sl⟩ := ⟨_, rfl⟩
  rw [← eo] at cx
  have oc : o.cls = .ref C := by rw [eo]
  have od : o.dict = none := by rw [eo]
  have ot : o.data = .fields vs := by rw [eo]
  unfold Builtin.«object.__setattr__»
  repeat (first | rw [refuse_eq] | (rw [refuseLoop_ref, sp]) | (with_reducible refine wpAny_loadPart_at cx ?_; rw [oc]) | (with_reducible refine wpAny_mroOf_exc cC ?_) | (with_reducible refine wpAny_typeLookup_exc cC cn SE.mro cB ?_; rw [ca]) | wp_step)
  rw [od, if_neg (by simp [typeHasDict])]
  split
  · rename_i z
    cases z
  split
  · rename_i c z
    rw [ot] at z
    cases z
  have x1 : (h.push { cls := .type "dict", data := .dict #[] }).get? x = some o := Heap.get?_push_of_some _ cx
  have xs : x ≠ h.objs.size := Nat.ne_of_lt (Heap.lt_size cx)
  refine wpAny_bind (wpAny_alloc' (wpAny_bind (wpAny_update' x1 (wpAny_pure ?_))))
  have gd : ((h.push { cls := .type "dict", data := .dict #[] }).update x fun o => { cls := o.cls, dict := some h.objs.size, data := o.data, slots := o.slots }).get? h.objs.size = some { cls := .type "dict", data := .dict #[] } :=
    (Heap.get?_update_ne _ _ _ _ xs.symm).trans (Heap.get?_push_at rfl rfl)
  have nd : ((h.push { cls := .type "dict", data := .dict #[] }).update x fun o => { cls := o.cls, dict := some h.objs.size, data := o.data, slots := o.slots }).Ns h.objs.size (fun _ => none) :=
    ⟨_, #[], _, gd, rfl, fun e he => absurd he (by simp), fun _ => rfl⟩
  show wpAny _ _ (storeInDict h.objs.size (.str name tk) name v) _ _ _
  unfold storeInDict newKeyGuard
  refine wpAny_bind (wpAny_pure (wpAny_bind (wpAny_nsSet1 (Heap.Ns1.of_empty nd) fun h' hn' hs => ?_)))
  obtain ⟨oD, esD, epD, hoD, hdD, hcD⟩ := hn'.count (Within.cons name v Within.nil)
  refine wpAny_bind (wpAny_lookBehind hoD (by rw [hdD]; exact pastItsLine_dict (Nat.le_trans hcD (by rw [List.length_cons, List.length_nil, sizeLine_eq]; omega))) ?_)
  wp_walk
  refine k h' _ ((hs.2 x xs).trans (by rw [eo] at x1; exact Heap.get?_update_self _ x1 rfl)) hn' fun b ob hb e => ?_
  exact (hs.2 b (Nat.ne_of_lt (Heap.lt_size e))).trans ((Heap.get?_update_ne _ _ _ _ hb).trans (Heap.get?_push_of_some _ e))

theorem exc_put_call {tk : Tok} {R : Result → Shared → Prop} {sa owner : String} (SE : StoreFacts "Exception" [.type "Exception", .type "BaseException", .type "object"] sa owner)
    (cC : h.get? C = some (excClassObj nm q C N bs [.type "Exception", .type "BaseException", .type "object"] true sn sub ab col dd k0 k1 k2 k3 k5 "Exception.__new__")) (cn : h.Ns N mN) (ca : mN name = none)
    (cB : typeLookup (.type "Exception") name = pure none) (cx : h.get? x = some ⟨.ref C, none, .fields vs, sl⟩)
    (k : ∀ h' tk', h'.get? x = some ⟨.ref C, some h.objs.size, .fields vs, sl⟩ → h'.Ns1 h.objs.size (fun y => if y = name then some v else none) → (∀ b o, b ≠ x → h.get? b = some o → h'.get? b = some o) → R (.ok (.ret .none)) ⟨h', g, d, tk', os⟩) :
    codeAny (model prog w) A (.call (.builtin sa) ⟨[.ref x, .str name tk, v], []⟩) R ⟨h, g, d, t, os⟩ :=
  codeAny_call_builtin SE.slot.plain SE.entry (wpAny_check_sa SE cC cx rfl (exc_put cC cn ca cB cx k))
theorem exc_set {Q : Unit → Shared → Prop} {sa owner : String} (SE : StoreFacts "Exception" [.type "Exception", .type "BaseException", .type "object"] sa owner)
    (cC : h.get? C = some (excClassObj nm q C N bs [.type "Exception", .type "BaseException", .type "object"] true sn sub ab col dd k0 k1 k2 k3 k5 "Exception.__new__")) (cn : h.Ns N mN) (cs : mN "__setattr__" = none) (ca : mN name = none)
    (cB : typeLookup (.type "Exception") name = pure none) (cx : h.get? x = some ⟨.ref C, none, .fields vs, sl⟩)
    (k : ∀ h' tk', h'.get? x = some ⟨.ref C, some h.objs.size, .fields vs, sl⟩ → h'.Ns1 h.objs.size (fun y => if y = name then some v else none) → (∀ b o, b ≠ x → h.get? b = some o → h'.get? b = some o) → Q () ⟨h', g, d, tk', os⟩) :
    wpAny (model prog w) A (setAttr (.ref x) name v) Q E ⟨h, g, d, t, os⟩ := by
  have f3 := SE.slot.bind (.ref x)
  obtain ⟨o, eo⟩ : ∃ o : Obj, o = ⟨.ref C, none, .fields vs, sl⟩ := ⟨_, rfl⟩
  have cy := cx
  rw [← eo] at cx
  have oc : o.cls = .ref C := by rw [eo]
  unfold setAttr callSpecial? specialOf
  repeat (any_goals (first | assumption | (with_reducible refine wpAny_loadPart_at cx ?_; rw [oc]) | (with_reducible refine wpAny_typeLookup_exc cC cn SE.mro SE.slot.lookup ?_; rw [cs]) | wp_step))
  refine exc_put_call SE cC cn ca cB cy fun h' tk' a1 a2 a3 => ?_
  repeat (any_goals (first | assumption | wp_step))
  exact k h' tk' a1 a2 a3

/-- reading it -/
theorem exc_find {tk : Tok} {mA : Str → Option Value} {dx : Addr} {Q : Fin → Shared → Prop}
    (cC : h.get? C = some (excClassObj nm q C N bs [.type "Exception", .type "BaseException", .type "object"] true sn sub ab col dd k0 k1 k2 k3 k5 "Exception.__new__")) (cn : h.Ns N mN) (ca : mN name = none)
    (cB : typeLookup (.type "Exception") name = pure none) (cx : h.get? x = some ⟨.ref C, some dx, .fields vs, sl⟩) (cd : h.Ns1 dx mA) (cv : mA name = some v)
    (k : Q (.done (.ret v)) ⟨h, g, d, t, os⟩) :
    wpAny (model prog w) A (Builtin.«object.__getattribute__» ⟨[.ref x, .str name tk], []⟩) Q E ⟨h, g, d, t, os⟩ := by
  have SE := F.store_Exception
  obtain ⟨o, eo⟩ : ∃ o : Obj, o = ⟨.ref C, some dx, .fields vs, sl⟩ := ⟨_, rfl⟩
  rw [← eo] at cx
  have oc : o.cls = .ref C := by rw [eo]
  have od : o.dict = some dx := by rw [eo]
  have ot : o.data = .fields vs := by rw [eo]
  unfold Builtin.«object.__getattribute__»
  repeat (first | (with_reducible refine wpAny_loadPart_at cx ?_; rw [oc]) | (with_reducible refine wpAny_typeLookup_exc cC cn SE.mro cB ?_; rw [ca]) | wp_step)
  split
  · rename_i c z
    rw [ot] at z
    cases z
  unfold instanceDict
  repeat (first | (with_reducible refine wpAny_loadPart_at cx ?_; rw [oc]) | (with_reducible refine wpAny_loadPart_at cC ?_) | wp_step)
  rw [od]
  repeat (first | (with_reducible refine wpAny_nsGet cd.ns ?_; rw [cv]) | wp_step)
  exact k
theorem exc_check_get {M : Model} {nameV : Value} {o : Obj} {Q : Unit → Shared → Prop}
    (cC : h.get? C = some (excClassObj nm q C N bs [.type "Exception", .type "BaseException", .type "object"] true sn sub ab col dd k0 k1 k2 k3 k5 "Exception.__new__")) (cx : h.get? x = some o) (cc : o.cls = .ref C) (k : Q () ⟨h, g, d, t, os⟩) :
    wpAny M A (checkBuiltinCall "BaseException.__getattribute__" ⟨[.ref x, nameV], []⟩) Q E ⟨h, g, d, t, os⟩ := by
  have g1 : builtinKind "BaseException.__getattribute__" = some .slot := by decide +kernel
  have g2 : splitId "BaseException.__getattribute__" = some ("BaseException", "__getattribute__") := by decide +kernel
  have g3 : (Value.ref C :: [Value.type "Exception", .type "BaseException", .type "object"]).contains (.type "BaseException") = true := by simp
  have g4 := F.args_bexc_ga (.ref x) nameV
  simp only [checkBuiltinCall, g1, g2]
  refine wpAny_bind ?_
  · unfold isInstance
    repeat (first | (with_reducible refine wpAny_loadPart_at cx ?_; rw [cc]) | (with_reducible refine wpAny_isSubtype_exc cC ?_; rw [g3]) | wp_step)
    exact k
theorem exc_find_call {tk : Tok} {mA : Str → Option Value} {dx : Addr} {R : Result → Shared → Prop}
    (cC : h.get? C = some (excClassObj nm q C N bs [.type "Exception", .type "BaseException", .type "object"] true sn sub ab col dd k0 k1 k2 k3 k5 "Exception.__new__")) (cn : h.Ns N mN) (ca : mN name = none)
    (cB : typeLookup (.type "Exception") name = pure none) (cx : h.get? x = some ⟨.ref C, some dx, .fields vs, sl⟩) (cd : h.Ns1 dx mA) (cv : mA name = some v)
    (k : R (.ok (.ret v)) ⟨h, g, d, t, os⟩) :
    codeAny (model prog w) A (.call (.builtin "BaseException.__getattribute__") ⟨[.ref x, .str name tk], []⟩) R ⟨h, g, d, t, os⟩ :=
  codeAny_call_builtin F.attrBase_Exception.ga.plain F.entry_bexc_ga (exc_check_get cC cx rfl (exc_find cC cn ca cB cx cd cv k))
theorem exc_get {mA : Str → Option Value} {dx : Addr} {expr : Bool} {Q : Value → Shared → Prop}
    (cC : h.get? C = some (excClassObj nm q C N bs [.type "Exception", .type "BaseException", .type "object"] true sn sub ab col dd k0 k1 k2 k3 k5 "Exception.__new__")) (cn : h.Ns N mN) (cg : mN "__getattribute__" = none) (ct : mN "__getattr__" = none) (ca : mN name = none)
    (cB : typeLookup (.type "Exception") name = pure none) (cx : h.get? x = some ⟨.ref C, some dx, .fields vs, sl⟩) (cd : h.Ns1 dx mA) (cv : mA name = some v) (ch : handedOut v = pure v)
    (k : Q v ⟨h, g, d, t + 1, os⟩) : wpAny (model prog w) A (getAttr (.ref x) name expr) Q E ⟨h, g, d, t, os⟩ := by
  have AB := F.attrBase_Exception
  have f3 := AB.ga.bind (.ref x)
  have e0 : (expr && onTheHeap (Value.builtin "BaseException.__getattribute__")) = false := by cases expr <;> rfl
  have e2 : (Value.builtin "BaseException.__getattribute__" == Value.builtin "object.__getattribute__") = false := by decide +kernel
  have e1 : (onTheHeap (Value.ref C) && Value.builtin "BaseException.__getattribute__" == Value.builtin "object.__getattribute__") = false := by rw [e2]; rfl
  obtain ⟨o, eo⟩ : ∃ o : Obj, o = ⟨.ref C, some dx, .fields vs, sl⟩ := ⟨_, rfl⟩
  have cy := cx
  rw [← eo] at cx
  have oc : o.cls = .ref C := by rw [eo]
  unfold getAttr getAttrBy
  repeat (any_goals (first | assumption | (with_reducible refine wpAny_loadPart_at cx ?_; rw [oc]) | (with_reducible refine wpAny_typeLookup_exc cC cn AB.mro AB.ga.lookup ?_; rw [cg]) | (with_reducible refine wpAny_typeLookup_exc cC cn AB.mro AB.noGetattr ?_; rw [ct]) | wp_step))
  refine exc_find_call cC cn ca cB cy cd cv ?_
  repeat (any_goals (first | assumption | wp_step))
end
end L2

set_option Elab.async false
set_option linter.all false
set_option maxRecDepth 100000
namespace L2
open PySem PySem.Spec PyProof.Rows

inductive IsXLine (C : Addr) (D : Ends) (σ : St) (y : V) (x : V) (H2 : Hp) : Prop
  | mk a t n : x = .ref a → y = .int n → H2 a = some (.ext (ExN C t a)) → (∀ dx, H2 dx = none → dx ≠ a → D.nx σ (upd (upd H2 dx (.xd [("line", .int n)])) a (.ext (ExD C t dx a)))) → IsXLine C D σ y x H2
def sXLine (C : Addr) (ta tv : TE) : TS := fun D σ H => tv σ H fun y H1 => ta σ H1 fun x H2 => IsXLine C D σ y x H2
theorem exd_ok {C t dx a : Addr} {P : Program} {w : World} {H : Hp} {h : Heap} (e : ExD C t dx a h) : ObjOk P w H h a (.ext (ExD C t dx a)) := ⟨e, ⟨_, e⟩, fun h1 h2 z k => k _ z⟩
theorem exn_ok {C t a : Addr} {P : Program} {w : World} {H : Hp} {h : Heap} (e : ExN C t a h) : ObjOk P w H h a (.ext (ExN C t a)) := ⟨e, ⟨_, e⟩, fun h1 h2 z k => k _ z⟩

section
variable {X : Cx} {o e value arg : Expr} {pos pos' cpos np : Pos} {ta tv : TE} {C N fI : Addr} {x : Str} {E : XK}
theorem ps_xline (c : XC X.K C N fI) (ha : PE X o ta) (hv : PE X value tv) (hs : swapsWith value (some (.Attribute o "line" pos')) pos.line X.env = pure false) : PS X (.Assign [.Attribute o "line" pos'] value pos) (sXLine C ta tv) := by
  intro pins s σ H D I h
  refine plainObj_wpAny_Assign_Attribute (thn (hv pins s σ H _ I h) fun u s1 ⟨y, H1, I1, ry, q⟩ => thn (ha pins s1 σ H1 _ I1 q) fun ov s2 ⟨z, H2, I2, rx, a, t, n, ex, ey, ea, q2⟩ => ?_) hs
  subst ex ey
  obtain rfl : ov = Value.ref a := rx
  obtain ⟨tk, rfl⟩ : ∃ tk, u = Value.int n tk := ry
  obtain ⟨nm, qn, bs, sn, sub, ab, col, dd, k0, k1, k2, k3, k5, lc⟩ := c.cls
  have hC := I2.kIn _ _ lc
  obtain ⟨xa, _, _⟩ := I2.hok a _ ea
  obtain ⟨hp, g, d, tk2, os⟩ := s2
  refine exc_set F.store_Exception hC (c.ns I2.kIn) (c.non I2.kIn c.sa) (c.non I2.kIn c.ln) exc_no_line xa fun h' tk' a1 a2 a3 => ?_
  have fr : H2 hp.objs.size = none := I2.hok.fresh (Nat.le_refl _)
  have na : hp.objs.size ≠ a := Nat.ne_of_gt (Heap.lt_size xa)
  have an : ∀ b, H2 b = none → b ≠ a := fun b z q => by rw [q, ea] at z; cases z
  have dn : ∀ b ob, hp.get? b = some ob → b ≠ hp.objs.size := fun b ob z => Nat.ne_of_lt (Heap.lt_size z)
  refine ⟨σ, _, I2.un (t' := tk') (h' := h') ⟨fun b ob eb n _ _ => a3 b ob (an b n) eb, fun b ob eb n _ _ => ⟨ob.slots, a3 b ob (an b n) eb⟩, fun b ob eb n _ => ?_, fun b ob eb _ => ?_, fun b xs z => ?_, fun b o' u' z => ?_, fun b ps z => ⟨#[], ?_⟩⟩ ?_, q2 hp.objs.size fr na⟩
  · rw [upd_ne (an b n), upd_ne (dn b ob eb)]; exact n
  · by_cases q : b = a
    · exact ⟨_, by rw [q]; exact a1⟩
    · exact ⟨ob, a3 b ob q eb⟩
  · rw [upd_ne (ne_of z ea (by intro y; cases y)), upd_ne (ne_of_none z fr)]; exact z
  · rw [upd_ne (ne_of z ea (by intro y; cases y)), upd_ne (ne_of_none z fr)]; exact z
  · rw [upd_ne (ne_of z ea (by intro y; cases y)), upd_ne (ne_of_none z fr)]; simpa using z
  · intro b u eb
    by_cases q : b = a
    · subst q
      rw [upd_same] at eb
      cases eb
      exact exd_ok a1
    · rw [upd_ne q] at eb
      by_cases q' : b = hp.objs.size
      · subst q'
        rw [upd_same] at eb
        cases eb
        refine ⟨_, a2, fun f => ?_⟩
        show RelO (List.lookup f [(("line" : Str), V.int n)]) _
        by_cases z : f = "line"
        · subst z
          rw [if_pos rfl]
          show RelO (some (V.int n)) _
          exact ⟨tk, rfl⟩
        · rw [if_neg z]
          have e0 : List.lookup f [(("line" : Str), V.int n)] = none := by
            rw [List.lookup_cons, show (f == ("line" : Str)) = false from beq_eq_false_iff_ne.mpr z]
            rfl
          rw [e0]
          exact True.intro
      · rw [upd_ne q'] at eb
        refine (I2.hok b u eb).stay (fun cc v hc z => a3 cc v ?_ z) (fun cc z => ?_) fun cc xs z => ?_
        · rcases hc with rfl | hc
          · exact q
          · exact ne_of hc ea (by intro y; cases y)
        · rw [upd_ne (ne_of z ea (by intro y; cases y)), upd_ne (ne_of_none z fr)]; exact z
        · rw [upd_ne (ne_of z ea (by intro y; cases y)), upd_ne (ne_of_none z fr)]; exact z
end

theorem ns_some {K : PySem.W.Frag} {h : Heap} {D : Addr} {m : Str → Option Value} {y : Str} {v : Value} (KX : K.In h) (G : h.Ns D m) (z : PySem.W.nsIn K D y = some (some v)) : m y = some v := by
  obtain ⟨ob, es, ep, e1, e2, _, e4⟩ := G
  unfold PySem.W.nsIn at z
  split at z
  · rename_i q
    have q2 := KX _ _ q
    rw [e1] at q2
    cases q2
    cases e2
    split at z
    · rename_i en he
      cases z
      rw [← e4]
      unfold nsFind findBy
      rw [← Array.find?_toList, he]
      rfl
    · split at z <;> cases z
  · cases z
/-- what __init__ of the exception promises -/
inductive spXInit (C : Addr) (vs : List V) (H : Hp) (Q : VK) (e0 : XK) : Prop
  | mk (a t : Addr) (n : Int) : vs = [.ref a, .int n] → H a = some (.ext (ExN C t a)) → (∀ dx, H dx = none → dx ≠ a → Q .non (upd (upd H dx (.xd [("line", .int n)])) a (.ext (ExD C t dx a)))) → spXInit C vs H Q e0

section
variable {X : Cx} {o e value arg : Expr} {pos pos' cpos np : Pos} {ta tv : TE} {C N fI : Addr} {x : Str} {E : XK} {fd : FuncData} {k : Nat}
/-- C(n) -/
theorem run_exc {pins : List (Addr × Obj)} {σ : St} {H : Hp} {s : Shared} {n : Int} {u : Value} {E' : Value → Shared → Prop} {Q : Value → Shared → Prop} (c : XC X.K C N fI) (F : FnOk X.prog X.w X.K X.mg X.base CX0 k fI fd ["self", "line"] (spXInit C)) (hb : Binds X.K fd ["self", "line"] [])
    (hr : Room (k + 1) X.A) (hx : X.ex = []) (I : Inv X pins σ H s) (ru : RelV (.int n) u)
    (h : ∀ a dx T t s', XIn X C (fun _ _ _ => True) pins σ H a dx T n s' → s'.heap.get? a = some ⟨.ref C, some dx, .fields #[.ref t, .none, .none, .none, .bool false, .none], #[]⟩ → Q (.ref a) s') : wpAny (model X.prog X.w) X.A (call (.ref C) [u]) Q E' s := by
  obtain ⟨nm, qn, bs, sn, sub, ab, col, dd, k0, k1, k2, k3, k5, lc⟩ := c.cls
  have hC := I.kIn _ _ lc
  obtain ⟨hp, g, d, tk, os⟩ := s
  have hfn : ∃ oI, hp.get? fI = some oI ∧ oI.cls = .type "function" := by
    have z : PySem.W.typeIn X.K (.ref fI) = some (.type "function") := beq_iff_eq.mp c.fn
    have z' : Option.map (fun o : Obj => o.cls) (X.K.lookup fI) = some (.type "function") := z
    obtain ⟨oI, q1, q2⟩ := Option.map_eq_some_iff.mp z'
    exact ⟨oI, I.kIn _ _ q1, q2⟩
  obtain ⟨oI, hI, hIc⟩ := hfn
  have hi : hp.nsMap N "__init__" = some (.ref fI) := ns_some I.kIn (c.ns I.kIn) c.init
  refine exc_call hC (c.ns I.kIn) hi hI hIc (by rw [sizeLine_eq]; show 1 ≤ 16777216; decide) ?_
  have I2 : Inv X pins σ (upd H (hp.objs.size + 1) (.ext (ExN C hp.objs.size (hp.objs.size + 1)))) ⟨laidX hp C [u], g, d, tk, os⟩ :=
    I.laid (t' := tk) (h' := laidX hp C [u]) (fun b o e => laidX_keep e) (Nat.le_succ _) (exn_ok laidX_at)
  have hsp : spXInit C [.ref (hp.objs.size + 1), .int n] (upd H (hp.objs.size + 1) (.ext (ExN C hp.objs.size (hp.objs.size + 1)))) (fun v H' => v = .non ∧ ∃ dx, upd H (hp.objs.size + 1) (.ext (ExN C hp.objs.size (hp.objs.size + 1))) dx = none ∧ dx ≠ hp.objs.size + 1 ∧
      H' = upd (upd (upd H (hp.objs.size + 1) (.ext (ExN C hp.objs.size (hp.objs.size + 1)))) dx (.xd [("line", .int n)])) (hp.objs.size + 1) (.ext (ExD C hp.objs.size dx (hp.objs.size + 1)))) E0 :=
    ⟨_, _, _, rfl, upd_same, fun dx h1 h2 => ⟨rfl, dx, h1, h2, rfl⟩⟩
  refine wpAny_call (codeAny_mono (F.run _ X.stack _ _ ⟨[.ref (hp.objs.size + 1), u], []⟩ [.ref (hp.objs.size + 1), u] [.ref (hp.objs.size + 1), .int n] _ _ (hr.make C [u] []) (I2.env0.make C [u] []) (hb _ [.ref (hp.objs.size + 1), u] I2.kIn rfl) (.cons rfl (.cons ru .nil)) hsp) fun r s' hq => ?_)
  cases r with
  | error e => exact False.elim hq
  | ok fl =>
    cases fl with
    | next => exact False.elim hq
    | brk => exact False.elim hq
    | cont => exact False.elim hq
    | ret v' =>
      obtain ⟨v, H', o1, o2, o3, o4, rv, ev, dx, nd, nda, rfl⟩ := hq
      subst ev
      have I3 := I2.call' o1 o3 o4 o2 (fun b hb => absurd hb (by simp))
      have x1 : ExD C hp.objs.size dx (hp.objs.size + 1) s'.heap := (I3.hok _ _ upd_same).1
      have hdx : upd (upd (upd H (hp.objs.size + 1) (.ext (ExN C hp.objs.size (hp.objs.size + 1)))) dx (.xd [("line", .int n)])) (hp.objs.size + 1) (.ext (ExD C hp.objs.size dx (hp.objs.size + 1))) dx = some (.xd [("line", .int n)]) := by rw [upd_ne nda, upd_same]
      obtain ⟨mA, n1, n2⟩ := I3.hok _ _ hdx
      have n3 : ∃ tk, mA "line" = some (.int n tk) := by
        have z := n2 "line"
        have e0 : List.lookup ("line" : Str) [(("line" : Str), V.int n)] = some (V.int n) := by rw [List.lookup_cons, beq_self_eq_true]
        rw [e0] at z
        obtain ⟨u', eu, ru'⟩ := z.some_of
        obtain ⟨tk', rfl⟩ : ∃ tk', u' = Value.int n tk' := ru'
        exact ⟨tk', eu⟩
      obtain ⟨tk', n3⟩ := n3
      have I4 := (I3.drop upd_same rfl).drop (a := dx) (o := .xd [("line", .int n)]) (by rw [drp_ne nda]; exact hdx) rfl
      have eH : drp (drp (upd (upd (upd H (hp.objs.size + 1) (.ext (ExN C hp.objs.size (hp.objs.size + 1)))) dx (.xd [("line", .int n)])) (hp.objs.size + 1) (.ext (ExD C hp.objs.size dx (hp.objs.size + 1)))) (hp.objs.size + 1)) dx = H := by
        funext b
        by_cases q : b = dx
        · subst q
          rw [drp_at]
          rw [upd_ne nda] at nd
          exact nd.symm
        · rw [drp_ne q]
          by_cases q' : b = hp.objs.size + 1
          · subst q'
            rw [drp_at]
            exact (I.hok.fresh (Nat.le_succ _)).symm
          · rw [drp_ne q', upd_ne q', upd_ne q, upd_ne q']
      rw [eH] at I4
      have nod : (laidX hp C [u]).get? dx = none := by
        cases q : (laidX hp C [u]).get? dx with
        | none => rfl
        | some ob =>
          have z := o3.free dx ob q nd (by simp)
          rw [hdx] at z
          cases z
      obtain rfl : v' = Value.none := rv
      refine ⟨rfl, h (hp.objs.size + 1) dx s'.heap.objs.size hp.objs.size s' ⟨I4, ⟨⟨_, _, x1, .inl rfl⟩, ⟨mA, tk', n1, n3⟩, nda, Nat.ne_of_gt (Heap.lt_size x1), Nat.ne_of_gt (let ⟨ob, _, _, z, _⟩ := n1; Heap.lt_size z)⟩, I.fpOk (Nat.le_succ _) (I.hok.fresh (Nat.le_succ _)), I2.xfree hx nod, (by rw [upd_ne nda] at nd; exact nd), (fun p z q => by have w := (I2.pin p z).1; rw [q] at w; exact absurd (w.symm.trans nod) (by simp)), I4.fpOk (Nat.le_refl _) (I4.hok.fresh (Nat.le_refl _)), True.intro⟩ x1⟩

def tRaise (E : XK) (ta : TE) : TS := fun _ σ H => tCons ta tNil σ H fun vs H1 => ∃ n, vs = [.int n] ∧ E (.int n 0) none H1
theorem ps_raise (c : XC X.K C N fI) (F : FnOk X.prog X.w X.K X.mg X.base CX0 k fI fd ["self", "line"] (spXInit C)) (hb : Binds X.K fd ["self", "line"] []) (hr : Room (k + 1) X.A) (hex : X.ex = []) (hc : X.calm = true) (hx : X.xe = XI X C E)
    (hg : Gl X x) (hm : X.mg x = some (.ref C)) (ha : PE X arg ta) (hs : starEach [arg] X.env = [(false, eval arg X.env)] := by rfl) (hdb : (x == ("__debug__" : Str)) = false := by decide) :
    PS X (.Raise (some (.Call (.Name x np) [arg] [] cpos)) none pos) (tRaise E ta) := by
  intro pins s σ H D I h
  rw [arm_exec_Raise]
  show wpAny _ _ (do standAt pos; raiseStmt X.env (some (do let v ← eval (.Call (.Name x np) [arg] [] cpos) X.env; standAt pos; pure v)) none) _ _ s
  refine wpAny_bind (wpAny_standAt ?_)
  unfold raiseStmt
  show wpAny _ _ ((do let v ← eval (.Call (.Name x np) [arg] [] cpos) X.env; standAt pos; pure v) >>= _) _ _ s
  refine wpAny_bind (wpAny_bind (wpAny_mono (Q := fun (v : Value) (s' : Shared) => ∃ (a t dx : Addr), v = .ref a ∧ X.K.In s'.heap ∧ s'.heap.get? a = some ⟨.ref C, some dx, .fields #[.ref t, .none, .none, .none, .bool false, .none], #[]⟩ ∧ XI X C E (.ref a) s') (E := X.xe) ?_ (fun v s' hv => wpAny_bind (wpAny_standAt (wpAny_pure ?_))) fun _ _ z => z))
  · refine wpAny_Call_Name_kw (ld_glob I hg hm ?_ hdb)
    refine PySem.W.callWith_K (h₀ := X.base) I.ok.mod.kin c.kp (thn (Q := AP X pins σ fun vs H1 => ∃ n, vs = [.int n] ∧ E (.int n 0) none H1) (pa_cons ha pa_nil hs cpos pins s σ H _ I ?_) fun us s1 ⟨vs, H1, I1, r, n, ev, q⟩ => ⟨I1.kIn, ?_⟩) hs rfl
    · exact h
    · subst ev
      obtain ⟨u, rfl, ru⟩ := vals1 r
      refine run_exc c F hb hr hex I1 ru fun a dx T t s2 Z ga => ?_
      exact ⟨a, t, dx, rfl, Z.inv.kIn, ga, pins, σ, H1, a, dx, T, n, rfl, Z.inv.wish _, Z.at_, Z.fa, Z.fd, Z.hd, Z.pd, Z.fT, q⟩
  · obtain ⟨a, t, dx, rfl, kin, ga, q⟩ := hv
    obtain ⟨nm, qn, bs, sn, sub, ab, col, dd, k0, k1, k2, k3, k5, lc⟩ := c.cls
    have hC := kin _ _ lc
    have g3 : (Value.ref C :: [Value.type "Exception", .type "BaseException", .type "object"]).contains (.type "BaseException") = true := by simp
    obtain ⟨hp, g, d, tk, os⟩ := s'
    repeat (first | (with_reducible refine wpAny_loadPart_at ga ?_) | (with_reducible refine wpAny_loadPart_at hC ?_) | (with_reducible refine wpAny_isSubtype_exc hC ?_; rw [g3]) | wp_step)
    refine wpAny_raiseNew_none (I.ok.hd hc) ?_
    rw [hx]
    exact q
end
end L2

set_option Elab.async false
set_option linter.all false
set_option maxRecDepth 100000
namespace L2
open PySem PySem.Spec PyProof.Rows

/-- an exception of the class C at a whose attributes stand at dx -/
def ExV (C dx a : Addr) : Heap → Prop := fun h => ∃ vs sl, h.get? a = some ⟨.ref C, some dx, .fields vs, sl⟩
/-- .. these hold line n -/
inductive ExL (dx : Addr) (n : Int) (h : Heap) : Prop
  | mk mA tk : h.Ns1 dx mA → mA "line" = some (.int n tk) → ExL dx n h
theorem exv_ok {C dx a : Addr} {P : Program} {w : World} {H : Hp} {h : Heap} (e : ExV C dx a h) : ObjOk P w H h a (.ext (ExV C dx a)) := ⟨e, (let ⟨_, _, z⟩ := e; ⟨_, z⟩), fun h1 h2 ⟨vs, sl, z⟩ k => ⟨vs, sl, k _ z⟩⟩
theorem exl_ok {dx : Addr} {n : Int} {P : Program} {w : World} {H : Hp} {h : Heap} (e : ExL dx n h) : ObjOk P w H h dx (.ext (ExL dx n)) :=
  ⟨e, (let ⟨_, _, ⟨o, _, _, z, _⟩, _⟩ := e; ⟨o, z⟩), fun h1 h2 ⟨mA, tk, ⟨o, es, ep, z, r⟩, l⟩ k => ⟨mA, tk, ⟨o, es, ep, k _ z, r⟩, l⟩⟩
/-- wrong.line -/
inductive ItXGet (C : Addr) (Q : VK) (x : V) (H1 : Hp) : Prop
  | mk a dx n : x = .ref a → H1 a = some (.ext (ExV C dx a)) → H1 dx = some (.ext (ExL dx n)) → Q (.int n) H1 → ItXGet C Q x H1
def tXGet (C : Addr) (ta : TE) : TE := fun σ H Q => ta σ H fun x H1 => ItXGet C Q x H1
section
variable {X : Cx} {e : Expr} {pos : Pos} {ta : TE} {C N fI : Addr}
theorem pe_xget (c : XC X.K C N fI) (he : PE X e ta) (hb : attributeBase e "line" X.env (eval e X.env) = eval e X.env) : PE X (.Attribute e "line" pos) (tXGet C ta) := by
  intro pins s σ H Q I h
  refine attr_of hb (thn (he pins s σ H _ I h) fun u s1 ⟨x, H1, I1, rx, a, dx, n, ex, ea, ed, q⟩ => ?_)
  subst ex
  obtain rfl : u = Value.ref a := rx
  obtain ⟨nm, qn, bs, sn, sub, ab, col, dd, k0, k1, k2, k3, k5, lc⟩ := c.cls
  have hC := I1.kIn _ _ lc
  obtain ⟨⟨vs, sl, xa⟩, _, _⟩ := I1.hok a _ ea
  obtain ⟨⟨mA, tk', n1, n3⟩, _, _⟩ := I1.hok dx _ ed
  obtain ⟨hp, g, d, tk, os⟩ := s1
  refine exc_get hC (c.ns I1.kIn) (c.non I1.kIn c.ga) (c.non I1.kIn c.gt) (c.non I1.kIn c.ln) exc_no_line xa n1 n3 (PySem.W.handedOut_of rfl) ?_
  exact ⟨.int n, H1, I1.tok _, ⟨tk', rfl⟩, q⟩
end

/-- a thing of our own is tracked from now on -/
theorem Inv.track {X : Cx} {pins : List (Addr × Obj)} {σ : St} {H : Hp} {s : Shared} {a : Addr} {o : HO} (I : Inv X pins σ H s) (h0 : X.s₀.heap.get? a = none) (hn : H a = none) (hL : a ≠ X.env.locals) (hx : X.ex = [])
    (hc : ∀ x c, X.env.cells.lookup x = some c → c ≠ a) (hp : ∀ p ∈ X.pn ++ pins, p.1 ≠ a) (ob : ObjOk X.prog X.w (upd H a o) s.heap a o) : Inv X pins σ (upd H a o) s := by
  have u := I.base
  have ne : ∀ b u, H b = some u → b ≠ a := fun b u e => ne_of_none e hn
  refine ⟨I.ok, I.os, I.bare, ⟨u.keep, u.slot, fun b ob e n hb => ?_, u.there, fun b xs e => ?_, fun b o' u' e => ?_, fun b ps e => ?_⟩, I.loc, I.cell, ?_, fun x c e => ?_, fun p z => ?_, fun b u' e => ?_, I.len⟩
  · rw [upd_ne fun q => by rw [q, h0] at e; cases e]
    exact u.free b ob e n hb
  · have z := u.tups b xs e
    rw [upd_ne (ne b _ z)]
    exact z
  · have z := u.frzs b o' u' e
    rw [upd_ne (ne b _ z)]
    exact z
  · obtain ⟨m, z⟩ := u.tbls b ps e
    exact ⟨m, by rw [upd_ne (ne b _ z)]; exact z⟩
  · rw [upd_ne (Ne.symm hL)]
    exact I.free
  · rw [upd_ne (hc x c e)]
    exact I.freeC x c e
  · obtain ⟨h1, h2, h3⟩ := I.pin p z
    exact ⟨h1, by rw [upd_ne (hp p z)]; exact h2, h3⟩
  · by_cases q : b = a
    · subst q
      rw [upd_same] at e
      cases e
      exact ob
    · rw [upd_ne q] at e
      exact (I.hok b u' e).stay (fun _ _ _ z => z) (fun c z => by rw [upd_ne (ne c _ z)]; exact z) fun c xs z => by rw [upd_ne (ne c _ z)]; exact z

/-- the body with its pins as its own, under a mark -/
abbrev Cx.pin (X : Cx) (P : List (Addr × Obj)) : Cx := { X with pn := P }
abbrev Cx.in (X : Cx) (P : List (Addr × Obj)) (e : Value) : Cx := { X with pn := P, A := X.A.mark (some e), calm := false, xe := fun _ _ => False }
theorem Inv.topin {X : Cx} {pins : List (Addr × Obj)} {σ : St} {H : Hp} {s : Shared} (I : Inv X pins σ H s) : Inv (X.pin (X.pn ++ pins)) [] σ H s :=
  ⟨⟨I.ok.mod, I.ok.kind, I.ok.glob, I.ok.blt, I.ok.above, I.ok.inj, I.ok.has, I.ok.cab, I.ok.hd, I.ok.frames, I.ok.stk, I.ok.exf, I.ok.bs, I.ok.bsz, I.ok.noex, I.ok.exfs, I.ok.funs, I.ok.frf⟩, I.os, I.bare, I.base, I.loc, I.cell, I.free, I.freeC, fun p hp => I.pin p (by simpa using hp), I.hok, I.len⟩
theorem Inv.unpin {X : Cx} {pins pins' : List (Addr × Obj)} {σ : St} {H : Hp} {s : Shared} (I : Inv (X.pin (X.pn ++ pins)) pins' σ H s) : Inv X pins σ H s :=
  ⟨⟨I.ok.mod, I.ok.kind, I.ok.glob, I.ok.blt, I.ok.above, I.ok.inj, I.ok.has, I.ok.cab, I.ok.hd, I.ok.frames, I.ok.stk, I.ok.exf, I.ok.bs, I.ok.bsz, I.ok.noex, I.ok.exfs, I.ok.funs, I.ok.frf⟩, I.os, I.bare, I.base, I.loc, I.cell, I.free, I.freeC, fun p hp => I.pin p (List.mem_append_left _ hp), I.hok, I.len⟩
theorem Inv.inn {X : Cx} {P pins' : List (Addr × Obj)} {σ : St} {H : Hp} {s : Shared} (e : Value) (I : Inv (X.pin P).nox pins' σ H s) : Inv (X.in P e) [] σ H s :=
  ⟨⟨I.ok.mod, I.ok.kind, I.ok.glob, I.ok.blt, I.ok.above, I.ok.inj, I.ok.has, I.ok.cab, (fun z => nomatch z), I.ok.frames, I.ok.stk, I.ok.exf, I.ok.bs, I.ok.bsz, I.ok.noex, I.ok.exfs, I.ok.funs, I.ok.frf⟩, I.os, I.bare, I.base, I.loc, I.cell, I.free, I.freeC, fun p hp => I.pin p (List.mem_append_left _ (by simpa using hp)), I.hok, I.len⟩
/-- out of it again, the names forgotten -/
theorem Inv.out {X : Cx} {pins : List (Addr × Obj)} {e : Value} {σ : St} {H : Hp} {s : Shared} {h' : Heap} {m' : Str → Option Value} {t' : Nat} (c : X.calm = true → X.A.handled = none) (I : Inv (X.in (X.pn ++ pins) e) [] σ H s) (hn : h'.Ns X.env.locals m') (hs : Heap.SameBut X.env.locals s.heap h') :
    Inv X pins (List.replicate X.N.length none) H { s with heap := h', toks := t' } := by
  have oth : ∀ b ob, b ≠ X.env.locals → s.heap.get? b = some ob → h'.get? b = some ob := fun b ob hb z => (hs.2 b hb).trans z
  have neL : ∀ b ob, X.s₀.heap.get? b = some ob → b ≠ X.env.locals := fun b ob z => Nat.ne_of_lt (Nat.lt_of_lt_of_le (Heap.lt_size z) I.ok.above)
  have u := I.base
  refine ⟨⟨I.ok.mod, I.ok.kind, I.ok.glob, I.ok.blt, I.ok.above, I.ok.inj, I.ok.has, I.ok.cab, c, I.ok.frames, I.ok.stk, I.ok.exf, I.ok.bs, I.ok.bsz, I.ok.noex, I.ok.exfs, I.ok.funs, I.ok.frf⟩, I.os, I.bare, ⟨fun b ob z n hb hx => oth b ob (neL b ob z) (u.keep b ob z n hb hx), fun b ob z n hb hx => ?_, u.free, fun b ob z hx => ?_, u.tups, u.frzs, u.tbls⟩,
    ⟨m', hn, fun i x v e1 e2 => ?_⟩, fun x c' z => ?_, I.free, I.freeC, fun p hp => ?_, fun b w' z => ?_, by simp⟩
  · obtain ⟨sl, q⟩ := u.slot b ob z n hb hx
    exact ⟨sl, oth b _ (neL b ob z) q⟩
  · obtain ⟨o', q⟩ := u.there b ob z hx
    exact ⟨o', oth b _ (neL b ob z) q⟩
  · rw [List.getElem?_replicate] at e2
    split at e2 <;> cases e2
  · obtain ⟨v, q⟩ := I.cell x c' z
    exact ⟨v, q.sameBut hs (I.cne x c' z)⟩
  · obtain ⟨h1, h2, h3, h4⟩ := I.pin p (by simpa using hp)
    exact ⟨oth _ _ h3 h1, h2, h3, h4⟩
  · have nl : ∀ c' u', H c' = some u' → c' ≠ X.env.locals := fun c' u' q => ne_of_none q I.free
    refine (I.hok b w' z).stay (fun c' v hc q => oth c' v ?_ q) (fun _ q => q) fun _ _ q => q
    rcases hc with rfl | hc
    · exact nl _ _ z
    · exact nl _ _ hc

def tTry (C : Addr) (E : XK) (len i : Nat) (tb th : TS) : TS := fun D σ H => tb D σ H ∧ ∀ n H' a dx, E (.int n 0) none H' → H' a = none → H' dx = none → dx ≠ a →
  th { nx := fun _ _ => False, rt := D.rt } ((List.replicate len none).set i (some (.ref a))) (upd (upd H' dx (.ext (ExL dx n))) a (.ext (ExV C dx a)))
theorem ps_try {X : Cx} {C N fI L : Addr} {E : XK} {i : Nat} {x nm : Str} {np hpos pos : Pos} {body suite : List Stmt} {b0 : Stmt} {tb th : TS} (c : XC X.K C N fI) (hst : X.stack = X.env :: X.outer) (hf : X.env.frame = some L) (hN : X.N.Nodup) (hi : X.N[i]? = some nm)
    (hl : X.env.scope.names.lookup nm = some .local) (hex : X.ex = []) (hg : Gl X x) (hm : X.mg x = some (.ref C)) (hb : ∀ P, PSs ((X.pin P).wish (XI (X.pin P) C E)) body tb) (hh : ∀ P e, PSs (X.in P e) (b0 :: suite) th) (hdb : (x == ("__debug__" : Str)) = false := by decide) :
    PS X (.Try body [.ExceptHandler (some (.Name x np)) (some nm) (b0 :: suite) hpos] [] [] pos) (tTry C E X.N.length i tb th) := by
  intro pins s σ H D I ⟨h1, h2⟩
  have back : ∀ {f s1}, SP ((X.pin (X.pn ++ pins)).wish (XI (X.pin (X.pn ++ pins)) C E)) [] D f s1 → SP X pins D f s1 := fun {f s1} z => by
    cases f with
    | next => obtain ⟨σ', H', J, q⟩ := z; exact ⟨σ', H', J.unwish.unpin, q⟩
    | brk => obtain ⟨σ', H', J, q⟩ := z; exact ⟨σ', H', J.unwish.unpin, q⟩
    | cont => obtain ⟨σ', H', J, q⟩ := z; exact ⟨σ', H', J.unwish.unpin, q⟩
    | ret u => obtain ⟨v, σ', H', J, q⟩ := z; exact ⟨v, σ', H', J.unwish.unpin, q⟩
  refine wpAny_Try_except (wpAny_mono (hb _ [] s σ H D (I.topin.wish _) h1) (fun f s1 z => ?_) fun e s1 z => ?_)
  · cases f with
    | next => exact wpAny_pure (back z)
    | brk => exact back z
    | cont => exact back z
    | ret u => exact back z
  · refine wpAny_mono (note_ok (X := (X.pin (X.pn ++ pins)).nox) (A' := fun _ _ => False) hst hf z) (fun _ s2 z2 => ?_) fun _ _ q => q.elim
    refine wpAny_mono (flight_ok (X := (X.pin (X.pn ++ pins)).nox) (A' := fun _ _ => False) z2) (fun _ s3 z3 => ?_) fun _ _ q => q.elim
    obtain ⟨p', σ', H', a, dx, T, n, rfl, Z, tb⟩ := z3
    have J := Z.inv.inn (.ref a)
    obtain ⟨nm', qn, bs, sn, sub, ab, col, dd, k0, k1, k2, k3, k5, lc⟩ := c.cls
    have hC := J.kIn _ _ lc
    obtain ⟨vs, sl, xa, _⟩ := Z.at_.ob
    refine wpAny_handleBy_cons (codeAny_handlers_test (ld_glob (X := X.in (X.pn ++ pins) (.ref a)) J hg hm ?_ hdb)) (by intro q; cases q)
    obtain ⟨hp, g, d, tk, os⟩ := s3
    refine wpAny_excMatches_sub_self hC xa rfl (by decide) (codeAny_handlers_suite_as ?_)
    have Zm : XI1 (X.in (X.pn ++ pins) (.ref a)) C E (.ref a) ⟨hp, g, d, tk, os⟩ := ⟨[], σ', H', a, dx, T, n, rfl, ⟨J, Z.at_, ⟨Z.fa.1, Z.fa.2.1, Z.fa.2.2.1, Z.fa.2.2.2.1, Z.fa.2.2.2.2.1, fun p hp => Z.fa.2.2.2.2.2 p (List.mem_append_left _ (by simpa using hp))⟩, Z.fd, Z.hd, (fun p hp => Z.pd p (List.mem_append_left _ (by simpa using hp))),
      ⟨Z.fT.1, Z.fT.2.1, Z.fT.2.2.1, Z.fT.2.2.2.1, Z.fT.2.2.2.2.1, fun p hp => Z.fT.2.2.2.2.2 p (List.mem_append_left _ (by simpa using hp))⟩, Z.ew⟩, tb⟩
    refine wpAny_mono (flight_ok (X := X.in (X.pn ++ pins) (.ref a)) (A' := fun _ _ => False) Zm) (fun _ s4 z4 => ?_) fun _ _ q => q.elim
    obtain ⟨p5, σ5, H5, a5, dx5, T5, n5, e5, Z5, _⟩ := z4
    cases e5
    obtain ⟨vs5, sl5, xa5, _⟩ := Z5.at_.ob
    obtain ⟨mA, tk5, n1, n3⟩ := Z5.at_.dc
    have nd5 : ∀ b ob v, s4.heap.get? b = some ob → ob.data = .cell v → b ≠ dx5 := fun b ob v z q z' => by
      obtain ⟨o, es, ep, z2, z3, _⟩ := n1
      rw [z', z2] at z
      cases z
      rw [z3] at q
      cases q
    have sz : X.s₀.heap.get? a = none := Heap.get?_none_of_le (Z5.fa.2.2.2.1.resolve_left (by show a ∉ X.ex; rw [hex]; simp))
    have sL : a ≠ X.env.locals := Z5.fa.2.1
    have J1 := Z5.inv.track (a := dx5) (o := .ext (ExL dx5 n5)) Z5.fd.1 Z5.hd Z5.fd.2 hex (fun y c' z => let ⟨v, ob, z1, z2⟩ := Z5.inv.cell y c' z; nd5 c' ob v z1 z2) Z5.pd (exl_ok ⟨mA, tk5, n1, n3⟩)
    have J2 := J1.track (a := a) (o := .ext (ExV C dx5 a)) sz (by rw [upd_ne (Ne.symm Z5.at_.na)]; exact Z5.fa.1) sL hex (fun y c' z => Z5.fa.2.2.2.2.1 y c' z) Z5.fa.2.2.2.2.2 (exv_ok ⟨vs5, sl5, xa5⟩)
    have J3 : Inv (X.in (X.pn ++ pins) (.ref a)) [] (List.replicate X.N.length none) (upd (upd H5 dx5 (.ext (ExL dx5 n5))) a (.ext (ExV C dx5 a))) s4 := (J2.pins_of (pins' := []) (fun p hp => by cases hp)).weak (by rw [List.length_replicate]; exact J2.len.symm) fun j v q => by
      rw [List.getElem?_replicate] at q
      split at q <;> cases q
    refine store_ok (X := X.in (X.pn ++ pins) (.ref a)) (v := .ref a) J3 hN hi (.inl hl) rfl (fun s5 J4 => ?_) (.inr hl)
    refine wpAny_mono (hh _ _ [] s5 _ _ _ J4 (h2 n5 H5 a dx5 Z5.ew Z5.fa.1 Z5.hd Z5.at_.na)) (fun f s6 z6 => ?_) fun _ _ q => q.elim
    cases f with
    | next => obtain ⟨_, _, _, q⟩ := z6; exact q.elim
    | brk => obtain ⟨_, _, _, q⟩ := z6; exact False.elim q
    | cont => obtain ⟨_, _, _, q⟩ := z6; exact False.elim q
    | ret u =>
      obtain ⟨v, σ6, H6, J6, rv, q⟩ := z6
      obtain ⟨m6, hn6, _⟩ := id J6.loc
      have kd : X.env.kindOf nm = some .local := hl
      refine wpAny_nameGoes kd hn6 (by rw [J6.ok.kind]; rfl) fun h' m' hn' hs' => ?_
      exact ⟨v, _, H6, J6.out I.ok.hd hn' hs', rv, q⟩
end L2

set_option Elab.async false
set_option linter.all false
set_option maxRecDepth 100000
namespace L2
open PySem PySem.Spec PyProof.Rows

section
variable {X : Cx} {a b : Expr} {ta tb : TE} {pos p : Pos}
theorem op_fdivW : OpR X (binaryOp .FloorDiv) (rI (fun _ j => 0 < j ∧ j ≤ 9223372036854775808) fun i j => .int (i / j)) := opI fun i j _ _ _ _ _ hc q => by
  have h1 : (0 : Int) < j := hc.1
  have h2 : j ≤ 9223372036854775808 := hc.2
  refine floordiv_int (by omega) (by rw [Int.fdiv_eq_ediv_of_nonneg i (by omega)]; exact q) (.inl (PyProof.noPylong_of_log2 ?_))
  have h3 : j.natAbs < 2 ^ 9000 := Nat.lt_of_le_of_lt (show j.natAbs ≤ 9223372036854775808 by omega) (by decide +kernel)
  exact (Nat.log2_lt (by omega)).mpr h3

inductive tCallV (i : Nat) (K : PySem.W.Frag) (spT : Addr → List V → Hp → VK → Prop) (t : TA) (σ : St) (H : Hp) (Q : VK) : Prop
  | mk f : σ[i]? = some (some (.ref f)) → PySem.W.keepIn K (.ref f) = true → (t σ H fun vs H1 => spT f vs H1 Q) → tCallV i K spT t σ H Q
theorem pe_callV {i : Nat} {x : Str} {e : Expr} {es : List Expr} {t : TA} {spT : Addr → List V → Hp → VK → Prop}
    (hF : ∀ f vs H Q, spT f vs H Q → ∃ k fd ps sp, FnOk X.prog X.w X.K X.mg X.base CX0 k f fd ps sp ∧ Room k X.A ∧ Binds X.K fd ps [] ∧ sp vs H Q E0)
    (hN : X.N[i]? = some x) (hv : Vis X.env.scope x) (ha : PA X (e :: es) t) (he : starEach (e :: es) X.env = (false, eval e X.env) :: starEach es X.env := by rfl) (hpl : (backTo pos (starEach es X.env)).any (·.1) = false := by rfl)
    (hd : (x == ("__debug__" : Str)) = false := by decide) (hcd : (x == ("__classdict__" : Str)) = false := by decide) : PE X (.Call (.Name x p) (e :: es) [] pos) (tCallV i X.K spT t) := by
  intro pins s σ H Q I ⟨f, hi, hk, h⟩
  refine wpAny_Call_Name_kw (thn (pe_var (pos := p) hN hv hd hcd pins s σ H (fun v H1 => v = .ref f ∧ H1 = H) I ⟨_, hi, rfl, rfl⟩) fun u s1 ⟨v, H1, I1, r, ev, eH⟩ => ?_)
  subst ev eH
  obtain rfl : u = Value.ref f := r
  refine PySem.W.callWith_K (h₀ := X.base) I1.ok.mod.kin hk (thn (ha pos pins s1 σ _ _ I1 h) fun us s2 ⟨vs, H2, I2, r, q⟩ => ⟨I2.kIn, ?_⟩) he hpl
  obtain ⟨k, fd, ps, sp, F, hr, hb, hs⟩ := hF f vs H2 Q q
  exact run_fn F hr hb .nil pass0 I2 r (by rw [List.append_nil]; exact hs)
end

def kw (w : List Nat) : List Key := w.map fun (c : Nat) => Sum.inl (c : Int)
def iw (w : List Nat) : List V := w.map fun (c : Nat) => V.int (c : Int)
theorem kw_iw (w : List Nat) : (kw w).map kV = iw w := by
  unfold kw iw
  rw [List.map_map]
  rfl
theorem kw_inj {a b : List Nat} (h : kw a = kw b) : a = b := by
  unfold kw at h
  exact List.map_inj_right (fun (x y : Nat) e => by simpa [Int.ofNat_inj] using e) |>.mp h
theorem iw_inj {a b : List Nat} (h : iw a = iw b) : a = b := by
  unfold iw at h
  exact List.map_inj_right (fun (x y : Nat) e => by simpa [Int.ofNat_inj] using e) |>.mp h
theorem iw_len (w : List Nat) : (iw w).length = w.length := List.length_map _

/-- the dict at D of the module holds at the keys of xs what stands there -/
structure KTab (P : Program) (w : World) (K : PySem.W.Frag) (D : Addr) (xs : List (List Key × Addr × Value)) : Prop where
  at_ : ∀ h : Heap, K.In h → h.DictOfH (tupleKind (mixKind P w)) D xs
  ns : (D == sysModules) = false
section
variable {X : Cx} {a b : Expr} {ta tb : TE} {pos p : Pos} {D : Addr} {xs : List (List Key × Addr × Value)}
inductive ItKIn (D : Addr) (xs : List (List Key × Addr × Value)) (Q : VK) (y : V) (x : V) (H2 : Hp) : Prop
  | mk b k : x = .ref D → y = .ref b → H2 b = some (.tup (k.map kV)) → Q (.bl (atKey xs k).isSome) H2 → ItKIn D xs Q y x H2
def tKIn (D : Addr) (xs : List (List Key × Addr × Value)) (ty td : TE) : TE := fun σ H Q => ty σ H fun y H1 => td σ H1 fun x H2 => ItKIn D xs Q y x H2
theorem pc_kin (T : KTab X.prog X.w X.K D xs) (hu : X.A.units + 1 < cLine) (hi : PE X a ta) (ho : PE X b tb) : PC X .In a b (tKIn D xs ta tb) := by
  intro pins s σ H Q I h
  refine thn (hi pins s σ H _ I h) fun u s1 ⟨y, H1, I1, ry, q⟩ => thn (ho pins s1 σ H1 _ I1 q) fun v s2 ⟨x, H2, I2, rx, c, k, ex, ey, eb, q2⟩ => ?_
  subst ex ey
  obtain rfl : v = Value.ref D := rx
  obtain rfl : u = Value.ref c := ry
  refine wpAny_in_heap (tupleKind_room_in1 hu) (key_of I2.hok eb) T.ns (T.at_ _ I2.kIn) ?_
  exact ⟨.bl _, H2, I2.tok _, rfl, q2⟩
inductive ItKGet (D : Addr) (xs : List (List Key × Addr × Value)) (Q : VK) (x : V) (y : V) (H2 : Hp) : Prop
  | mk b k q f : x = .ref D → y = .ref b → H2 b = some (.tup (k.map kV)) → atKey xs k = some (q, .ref f) → Q (.ref f) H2 → ItKGet D xs Q x y H2
def tKGet (D : Addr) (xs : List (List Key × Addr × Value)) (td ty : TE) : TE := fun σ H Q => td σ H fun x H1 => ty σ H1 fun y H2 => ItKGet D xs Q x y H2
theorem pe_kget (T : KTab X.prog X.w X.K D xs) (hu : X.A.units + 1 < cLine) (ho : PE X a ta) (hi : PE X b tb) (hs : NoSl b) : PE X (.Subscript a b pos) (tKGet D xs ta tb) := by
  intro pins s σ H Q I h
  refine subD_of (T := "dict") F.slot_dict_getitem.lookup hs (thn (ho pins s σ H _ I h) fun u s1 ⟨x, H1, I1, rx, q⟩ => thn (hi pins s1 σ H1 _ I1 q) fun v s2 ⟨y, H2, I2, ry, c, k, qa, f, ex, ey, eb, ek, q2⟩ => ?_)
  subst ex ey
  obtain rfl : u = Value.ref D := rx
  obtain rfl : v = Value.ref c := ry
  have dd := T.at_ _ I2.kIn
  refine ⟨Heap.DictOfH.typeIs dd, wpAny_getItem_heap (tupleKind_room_in1 hu) (key_of I2.hok eb) dd ek ?_⟩
  exact ⟨.ref f, H2, I2.tok _, rfl, q2⟩
end

/-- the words of a list, each a tuple of its own -/
def WordsAt (H : Hp) (ps : List Addr) (ws : List (List Nat)) : Prop := Paired (fun p w => H p = some (.tup (iw w))) ps ws
def iD (w : List Nat) : List PyData := w.map fun (c : Nat) => PyData.int (c : Int)
theorem dp_ints {K : PySem.W.Frag} {H : Hp} : ∀ w : List Nat, DpAll K H (iw w) (iD w)
  | [] => .nil
  | c :: r => .cons (.int _) (dp_ints r)
theorem dp_word {K : PySem.W.Frag} {H : Hp} {p : Addr} {w : List Nat} (h : H p = some (.tup (iw w))) : Dp K H (.ref p) (.tuple (iD w)) := .tup (SqT.of h) (dp_ints w)
theorem eqv_ints : ∀ a b : List Nat, PyData.eqvAll (iD a) (iD b) = decide (a = b)
  | [], [] => rfl
  | [], _ :: _ => rfl
  | _ :: _, [] => rfl
  | x :: a, y :: b => by
    show (((x : Int) == (y : Int)) && PyData.eqvAll (iD a) (iD b)) = _
    rw [eqv_ints a b]
    by_cases h1 : x = y
    · subst h1
      simp
    · have h2 : ¬ (x : Int) = (y : Int) := fun e => h1 (Int.ofNat_inj.mp e)
      simp [h1, h2]
theorem eqv_word (a b : List Nat) : PyData.eqv (.tuple (iD a)) (.tuple (iD b)) = decide (a = b) := eqv_ints a b
theorem lay_ints : ∀ w : List Nat, PyData.canLayAll0 (iD w) = true
  | [] => rfl
  | _ :: r => lay_ints r
theorem depth_ints : ∀ w : List Nat, PyData.depthAll (iD w) ≤ 1
  | [] => by decide
  | c :: r => by
    have := depth_ints r
    show max (PyData.depth (.int (c : Int))) (PyData.depthAll (iD r)) ≤ 1
    have e : PyData.depth (.int (c : Int)) ≤ 1 := Nat.le_of_lt_succ (show PyData.depth (.int (c : Int)) < 2 by unfold PyData.depth; omega)
    omega
theorem shaped_word (w : List Nat) : SeqAt.shaped (.tuple (iD w)) = true := by
  unfold SeqAt.shaped
  rw [Bool.and_eq_true]
  refine ⟨lay_ints w, decide_eq_true ?_⟩
  have := depth_ints w
  show PyData.depthAll _ + 1 ≤ 64
  omega

section
variable {X : Cx}
/-- which words stand where, read off the heap -/
def isW (H : Hp) (w : List Nat) : Value → Bool
  | .ref p => match H p with
    | some (.tup xs) => decide (xs = iw w)
    | _ => false
  | _ => false
theorem isW_any {H : Hp} {w : List Nat} : ∀ {ps : List Addr} {ws : List (List Nat)}, WordsAt H ps ws → (ps.map Value.ref).any (isW H w) = ws.contains w
  | _, _, .nil => rfl
  | p :: ps, v :: ws, .cons h r => by
    rw [List.map_cons, List.any_cons, isW_any r, List.contains_cons]
    congr 1
    show (match H p with | some (.tup xs) => decide (xs = iw w) | _ => false) = (w == v)
    rw [show H p = some (.tup (iw v)) from h]
    by_cases e : v = w
    · subst e
      simp
    · have n1 : ¬ iw v = iw w := fun z => e (iw_inj z)
      have n2 : (w == v) = false := by
        rw [beq_eq_false_iff_ne]
        exact fun z => e z.symm
      rw [n2]
      exact decide_eq_false n1
inductive rInW (K : PySem.W.Frag) (x : V) (y : V) (H : Hp) (Q : VK) : Prop
  | mk p l ps w ws : x = .ref p → y = .ref l → H p = some (.tup (iw w)) → SqL K H l (ps.map V.ref) → WordsAt H ps ws → Q (.bl (ws.contains w)) H → rInW K x y H Q
theorem op_inW (hu : X.A.units + 64 < cLine) : OpR X (compareOp .In) (rInW X.K) := by
  intro pins s σ H x y v u Q I rx ry h
  obtain ⟨p, l, ps, w, ws, rfl, rfl, hp, hl, hw, q⟩ := h
  obtain rfl : v = Value.ref p := rx
  obtain rfl : u = Value.ref l := ry
  obtain ⟨its, r, pl, hz⟩ := I.list hl
  obtain rfl := refs_at r
  refine SeqAt.in_listAt (isW H w) pl.isList (fun y hy => ?_) ⟨.bl _, H, I, rfl, ?_⟩
  · obtain ⟨b, hb, rfl⟩ := List.mem_map.mp (by simpa using hy)
    have all : ∀ {qs : List Addr} {vs : List (List Nat)}, WordsAt H qs vs → b ∈ qs → ∃ z, H b = some (.tup (iw z)) := by
      intro qs vs t
      induction t with
      | nil => intro z; cases z
      | cons h0 _ ih =>
        intro z
        rcases List.mem_cons.mp z with e | e
        · exact ⟨_, by rw [e]; exact h0⟩
        · exact ih e
    obtain ⟨z, ez⟩ := all hw hb
    obtain ⟨as, r1⟩ := Dp.reads I _ (.ref b) (.ref b) (dp_word ez) rfl
    obtain ⟨bs, r2⟩ := Dp.reads I _ (.ref p) (.ref p) (dp_word hp) rfl
    have e1 : isW H w (.ref b) = decide (z = w) := by
      show (match H b with | some (.tup xs) => decide (xs = iw w) | _ => false) = _
      rw [ez]
      by_cases e : z = w
      · subst e
        simp
      · rw [decide_eq_false e]
        exact decide_eq_false fun y => e (iw_inj y)
    rw [e1, ← eqv_word]
    have hd := depth_ints z
    refine SeqAt.eqAt_reads _ _ _ s _ _ _ _ r1 r2 (lay_ints z) (lay_ints w) ?_
    show X.A.units + 1 + min (PyData.depthAll _ + 1) _ < cLine
    omega
  · rw [show (ps.map Value.ref).toArray.any (isW H w) = (ps.map Value.ref).any (isW H w) by simp, isW_any hw]
    exact q
end

def TxA (K : PySem.W.Frag) (H : Hp) (a : Addr) (ns : List Int) : Prop := ns.length ≤ 100000 ∧ (Rd H a (.lst (ns.map V.int)) ∨ ∃ vs : List Value, K.lookup a = some { cls := .type "list", data := .seq vs.toArray } ∧ Vals (ns.map V.int) vs)
section
variable {X : Cx}
inductive rCatX (K : PySem.W.Frag) (x : V) (y : V) (H : Hp) (Q : VK) : Prop
  | mk l b ns zs : x = .ref l → y = .ref b → TxA K H l ns → H b = some (.lst zs) → zs.length ≤ 10 → (∀ p, H p = none → Q (.ref p) (upd H p (.lst (ns.map V.int ++ zs)))) → rCatX K x y H Q
theorem op_catT' : OpR X (binaryOp .Add) (rCatX X.K) := by
  intro pins s σ H x y v u Q I rx ry h
  obtain ⟨l, b, ns, zs, rfl, rfl, ⟨hn, hT⟩, hB, hz, q⟩ := h
  cases rx
  cases ry
  have raw : ∃ (its : List Value) (n : Nat), Vals (ns.map V.int) its ∧ s.heap.get? l = some { cls := .type "list", data := .seq its.toArray n } := by
    rcases hT with hT | ⟨vs, e, r⟩
    · obtain ⟨_, its, n, r, e⟩ := hT.ok I.hok
      exact ⟨its, n, r, e⟩
    · exact ⟨vs, _, r, I.kIn _ _ e⟩
  obtain ⟨its, n, r, e⟩ := raw
  obtain ⟨z2, its2, n2, r2, hl2, e2⟩ := I.lstM hB
  have l1 := r.length
  rw [List.length_map] at l1
  have l2 := r2.length
  refine PySem.P.add_list e e2 ?_ (by rw [List.size_toArray, List.size_toArray, sizeLine_eq]; omega)
  have ea : its.toArray ++ its2.toArray = (its ++ its2).toArray := by simp
  rw [ea]
  exact ⟨.ref _, _, I.lnew (t' := s.toks) (r.append r2) (by rw [List.length_append, List.length_map, sizeLine_eq]; omega), rfl, q _ I.fresh⟩
end

section
variable {X : Cx} {CX : CXT} {k : Nat} {f C : Addr} {fd : FuncData} {ps ks : List Str} {sp : Sp} {E : XK} {x : Str} {p pos : Pos} {e : Expr} {es : List Expr} {kws : List Keyword} {t tk : TA} {g : List Value → List Value → List Value} {gV : List V → List V → List V}
def tMakeK (C : Addr) (sp : Sp) (gV : List V → List V → List V) (E : XK) (t tk : TA) : TE := fun σ H Q => t σ H fun vs H1 => tk σ H1 fun zs H2 => ∀ x dx, H2 x = none → H2 dx = none → dx ≠ x →
  sp (gV (.ref x :: vs) zs) (upd (upd H2 dx (.own x)) x (.ins C dx [])) (fun v H3 => v = .non ∧ Q (.ref x) H3) E
theorem run_makek {pins : List (Addr × Obj)} {σ : St} {H : Hp} {s : Shared} {Q : VK} {us ws : List Value} {vs zs : List V} (M : Mk X.K C f) (F : FnOk X.prog X.w X.K X.mg X.base CX k f fd ps sp) (hr : Room (k + 1) X.A) (hb : KBinds X.K fd ps ks g gV)
    (hx : Passes CX X E) (I : Inv X pins σ H s) (r : Vals vs us) (rz : Vals zs ws)
    (h : ∀ x dx, H x = none → H dx = none → dx ≠ x → sp (gV (.ref x :: vs) zs) (upd (upd H dx (.own x)) x (.ins C dx [])) (fun v H2 => v = .non ∧ Q (.ref x) H2) E) :
    wpAny (model X.prog X.w) X.A (call (.ref C) us (ks.zip ws)) (EP X pins σ Q) X.xe s := by
  have hq := h (s.heap.objs.size + 1) s.heap.objs.size (I.hok.fresh (Nat.le_succ _)) (I.hok.fresh (Nat.le_refl _)) (Nat.ne_of_lt (Nat.lt_succ_self _))
  have I2 := Inv.made (C := C) I
  have r2 : Vals (gV (V.ref (s.heap.objs.size + 1) :: vs) zs) (g (Value.ref (s.heap.objs.size + 1) :: us) ws) := hb.rel (.cons rfl r) rz
  have hl : (g (Value.ref (s.heap.objs.size + 1) :: us) ws).length = ps.length := by rw [← r2.length]; exact F.len _ _ _ _ hq
  refine wpAny_call (make_map (f := f) I.kIn M.makes M.init (beq_iff_eq.mp M.fn) (codeAny_mono (F.run _ X.stack _ _ ⟨Value.ref (s.heap.objs.size + 1) :: us, ks.zip ws⟩ _ _ _ E (hr.make C us (ks.zip ws))
    (I2.env0.make C us (ks.zip ws)) (hb.to _ (Value.ref (s.heap.objs.size + 1) :: us) ws I2.kIn hl) r2 hq) fun r s' hq' => ?_))
  cases r with
  | error e => exact hx pins σ _ _ e s' I2 hq'
  | ok fl =>
    cases fl with
    | ret u =>
      obtain ⟨v, H', I3, rv, ev, q3⟩ := I2.after hq'
      subst ev
      exact ⟨rv, ⟨V.ref (s.heap.objs.size + 1), H', I3, rfl, q3⟩⟩
    | next => exact False.elim hq'
    | brk => exact False.elim hq'
    | cont => exact False.elim hq'
theorem pe_makeK (M : Mk X.K C f) (F : FnOk X.prog X.w X.K X.mg X.base CX k f fd ps sp) (hr : Room (k + 1) X.A) (hg : Gl X x) (hm : X.mg x = some (.ref C)) (hb : KBinds X.K fd ps ks g gV) (hx : Passes CX X E)
    (ha : PA X (e :: es) t) (hkw : PK X kws tk) (hall : (backToKw pos (keywordEach kws X.env)).all (·.1.isSome) = true := by rfl) (hks : (backToKw pos (keywordEach kws X.env)).filterMap (·.1) = ks := by rfl)
    (hdb : (x == ("__debug__" : Str)) = false := by decide) (he : starEach (e :: es) X.env = (false, eval e X.env) :: starEach es X.env := by rfl)
    (hpl : ((backTo pos (starEach (e :: es) X.env)).any (·.1) || (backToKw pos (keywordEach kws X.env)).any (·.1.isNone)) = false := by rfl) :
    PE X (.Call (.Name x p) (e :: es) kws pos) (tMakeK C sp gV E t tk) := by
  intro pins s σ H Q I h
  refine wpAny_Call_Name_kw (ld_glob I hg hm ?_ hdb)
  refine PySem.W.callWith_KW (h₀ := X.base) I.ok.mod.kin M.kp hall (thn (ha pos pins s σ H _ I h) fun us s1 ⟨vs, H1, I1, r, q⟩ => ?_) hpl he
  refine thn (hkw pos pins s1 σ H1 _ I1 q) fun ws s2 ⟨zs, H2, I2, rz, q2⟩ => ⟨I2.kIn, ?_⟩
  rw [hks]
  exact run_makek M F hr hb hx I2 r rz q2
end
end L2

set_option Elab.async false
set_option linter.all false
set_option maxRecDepth 100000
namespace L2
open PySem PySem.Spec PyProof.Rows

/-- an iterator that yields just these, the heap as it is -/
def Yields (J : It) (H : Hp) (xs : List V) : Prop := (∀ i (h : i < xs.length), J.go i H ∧ ∀ x H', J.yld i H x H' → H' = H ∧ x = xs[i]) ∧ J.stop xs.length H
theorem yields_tup {K : PySem.W.Frag} {H : Hp} {a : Addr} {xs : List V} (h : SqT K H a xs) : Yields (Itt K a) H xs :=
  ⟨fun i hi => ⟨⟨xs, xs[i], h, by simp [hi]⟩, fun x H' ⟨e, y⟩ => ⟨e, by have := y xs h; rw [List.getElem?_eq_getElem hi] at this; exact (Option.some.inj this).symm⟩⟩, ⟨xs, h, Nat.le_refl _⟩⟩
theorem yields_list {K : PySem.W.Frag} {H : Hp} {a : Addr} {xs : List V} (h : SqL K H a xs) : Yields (Itl K a) H xs :=
  ⟨fun i hi => ⟨⟨xs, xs[i], h, by simp [hi]⟩, fun x H' ⟨e, y⟩ => ⟨e, by have := y xs h; rw [List.getElem?_eq_getElem hi] at this; exact (Option.some.inj this).symm⟩⟩, ⟨xs, h, Nat.le_refl _⟩⟩
theorem yields_range {lo : Int} {n : Nat} {H : Hp} : Yields (Itr lo n) H ((List.range n).map fun (i : Nat) => V.int (lo + i)) := by
  refine ⟨fun i hi => ?_, ?_⟩
  · have hn : i < n := by simpa using hi
    exact ⟨hn, fun x H' ⟨e, y⟩ => ⟨e, by rw [y]; simp⟩⟩
  · show n ≤ _
    simp
theorem Same.sqT {K : PySem.W.Frag} {H H' : Hp} {a : Addr} {xs : List V} (e : Same H H') (h : SqT K H a xs) : SqT K H' a xs := by
  rcases h with (h | ⟨o, h⟩) | h
  · exact .inl (.inl (e _ _ h))
  · exact .inl (.inr ⟨o, e _ _ h⟩)
  · exact .inr h
theorem Same.new {H : Hp} {D : Addr} {o : HO} (h : H D = none) : Same H (upd H D o) := fun b u e => by rw [upd_ne (ne_of_none e h)]; exact e
theorem Same.upd {H H' : Hp} {D : Addr} {o : HO} (s : Same H H') (h : H D = none) : Same H (upd H' D o) := fun b u e => by rw [upd_ne (ne_of_none e h)]; exact s b u e

theorem Paired.app {α β : Type} {F : α → β → Prop} : ∀ {a c : List α} {b d : List β}, Paired F a b → Paired F c d → Paired F (a ++ c) (b ++ d)
  | _, _, _, _, .nil, s => s
  | _, _, _, _, .cons r t, s => .cons r (Paired.app t s)
/-- [elt for name in ..]: each element a value out of the item, by R -/
theorem lc_by {J : It} {xs : List V} {j : Nat} {te : TE} {vs : List Nat} {σ : St} {H1 : Hp} {Q : Hp → Prop} {D : Addr} (R : V → V → Hp → Prop) (hD : H1 D = none) (hn : xs.length ≤ sizeLine)
    (hR : ∀ x y H H', R x y H → (∀ b o, b ≠ D → H b = some o → H' b = some o) → R x y H')
    (hJ : ∀ H, Same H1 H → Yields J H xs) (hw : ∀ x, wipe ((wipe σ vs).set j (some x)) vs = wipe σ vs)
    (hs : ∀ (i : Nat) x H, xs[i]? = some x → Same H1 H → (∃ acc, H D = some (.lst acc)) → ∀ Q' : VK, (∀ y H4, Same H H4 → R x y H4 → Q' y H4) → te ((wipe σ vs).set j (some x)) H Q')
    (hd : ∀ ys H, Same H1 H → H D = some (.lst ys) → Paired (fun x y => R x y H) xs ys → Q H) :
    ∃ W : Nat → Nat → Hp → Prop, (∃ m, W 0 m (upd H1 D (.lst []))) ∧ ∀ i m H, W i m H →
      (J.stop i H ∧ Q H) ∨ (J.go i H ∧ ∃ Nx : Hp → Prop, (∀ H', Nx H' → ∃ m', m' < m ∧ W (i + 1) m' H') ∧ ∀ x H', J.yld i H x H' → gName j x (wipe σ vs) H' fun σ2 H2 => wipe σ2 vs = wipe σ vs ∧ tYes σ2 H2 fun b H3 =>
        if b = true then te σ2 H3 fun y H4 => ∃ acc, H4 D = some (.lst acc) ∧ acc.length < sizeLine ∧ Nx (upd H4 D (.lst (acc ++ [y]))) else Nx H3) := by
  let Pv : Nat → Hp → Prop := fun i H => ∃ ys, H D = some (.lst ys) ∧ Same H1 H ∧ Paired (fun x y => R x y H) (xs.take i) ys
  refine ⟨fun i m H => m = xs.length - i ∧ i ≤ xs.length ∧ Pv i H, ⟨_, rfl, Nat.zero_le _, [], upd_same, Same.new hD, by rw [List.take_zero]; exact .nil⟩, ?_⟩
  rintro i m H ⟨rfl, hi, ys, hy, sm, pr⟩
  by_cases hlt : i < xs.length
  · obtain ⟨go, yl⟩ := (hJ H sm).1 i hlt
    refine .inr ⟨go, Pv (i + 1), fun H' p => ⟨xs.length - (i + 1), by omega, rfl, hlt, p⟩, fun x H' y => ?_⟩
    obtain ⟨rfl, rfl⟩ := yl x H' y
    refine ⟨hw _, ?_⟩
    refine iteT (B := Pv (i + 1) H') ?_
    refine hs i _ _ (List.getElem?_eq_getElem hlt) sm ⟨ys, hy⟩ _ fun z H4 s4 r4 => ?_
    have hl : ys.length = i := by rw [← Paired.length pr, List.length_take]; omega
    have k4 : ∀ b o, b ≠ D → H4 b = some o → (upd H4 D (.lst (ys ++ [z]))) b = some o := fun b o hb e => by rw [upd_ne hb]; exact e
    refine ⟨ys, s4 _ _ hy, by omega, ys ++ [z], upd_same, (sm.trans s4).upd hD, ?_⟩
    rw [List.take_add_one, List.getElem?_eq_getElem hlt]
    refine Paired.app (Paired.mapP pr fun a b r => hR _ _ _ _ (hR _ _ _ _ r fun c o _ e => s4 c o e) k4) (.cons (hR _ _ _ _ r4 k4) .nil)
  · have e : i = xs.length := by omega
    subst e
    rw [List.take_length] at pr
    exact .inl ⟨(hJ H sm).2, hd ys H sm hy pr⟩
/-- .. a flat value -/
theorem lc_flat {J : It} {xs : List V} {j : Nat} {te : TE} {vs : List Nat} {σ : St} {H1 : Hp} {Q : Hp → Prop} {D : Addr} (f : V → V) (hD : H1 D = none) (hn : xs.length ≤ sizeLine)
    (hJ : ∀ H, Same H1 H → Yields J H xs) (hw : ∀ x, wipe ((wipe σ vs).set j (some x)) vs = wipe σ vs)
    (hs : ∀ (i : Nat) x H, xs[i]? = some x → Same H1 H → ∀ Q' : VK, (∀ H4, Same H H4 → Q' (f x) H4) → te ((wipe σ vs).set j (some x)) H Q')
    (hd : ∀ H, Same H1 H → H D = some (.lst (xs.map f)) → Q H) :
    ∃ W : Nat → Nat → Hp → Prop, (∃ m, W 0 m (upd H1 D (.lst []))) ∧ ∀ i m H, W i m H →
      (J.stop i H ∧ Q H) ∨ (J.go i H ∧ ∃ Nx : Hp → Prop, (∀ H', Nx H' → ∃ m', m' < m ∧ W (i + 1) m' H') ∧ ∀ x H', J.yld i H x H' → gName j x (wipe σ vs) H' fun σ2 H2 => wipe σ2 vs = wipe σ vs ∧ tYes σ2 H2 fun b H3 =>
        if b = true then te σ2 H3 fun y H4 => ∃ acc, H4 D = some (.lst acc) ∧ acc.length < sizeLine ∧ Nx (upd H4 D (.lst (acc ++ [y]))) else Nx H3) := by
  refine lc_by (fun x y _ => y = f x) hD hn (fun _ _ _ _ r _ => r) hJ hw (fun i x H e s _ Q' k => hs i x H e s Q' fun H4 s4 => k _ _ s4 rfl) fun ys H s e pr => hd H s ?_
  have : ys = xs.map f := by
    clear hd e hn hJ hs
    induction pr with
    | nil => rfl
    | cons r _ ih => rw [List.map_cons, ← ih, r]
  rw [← this]
  exact e
theorem pl_seq {t u : TS} {D : Ends} {σ : St} {H : Hp} (h : t { D with nx := u D } σ H) : tSeq t u D σ H := h
theorem pl_if {tc : TT} {t u : TS} {D : Ends} {σ : St} {H : Hp} (h : tc σ H fun b H1 => if b = true then t D σ H1 else u D σ H1) : tIfS tc t u D σ H := h
theorem joinS {c : Bool} {t u : TS} {D : Ends} {σ : St} {H : Hp} (R : St → Hp → Prop) (hA : c = true → (∀ σ' H', R σ' H' → D.nx σ' H') → t D σ H) (hB : c = false → (∀ σ' H', R σ' H' → D.nx σ' H') → u D σ H)
    (k : ∀ σ' H', R σ' H' → D.nx σ' H') : if c = true then t D σ H else u D σ H := by
  cases c with
  | true => exact iteT (hA rfl k)
  | false => exact iteF (hB rfl k)
theorem TxA.same {K : PySem.W.Frag} {H H' : Hp} {a : Addr} {ns : List Int} (s : Same H H') (h : TxA K H a ns) : TxA K H' a ns := by
  obtain ⟨h1, h2⟩ := h
  refine ⟨h1, ?_⟩
  rcases h2 with (h | ⟨o, h⟩) | h
  · exact .inl (.inl (s _ _ h))
  · exact .inl (.inr ⟨o, s _ _ h⟩)
  · exact .inr h
end L2

set_option Elab.async false
set_option linter.all false
namespace My
open PySem
def I64 (z : Int) : Prop := -9223372036854775808 ≤ z ∧ z < 9223372036854775808
theorem wrap_def (z : Int) : Sz43.wrap z = (z + 9223372036854775808) % 18446744073709551616 - 9223372036854775808 := rfl
theorem bits_def (z : Int) : Sz43.bits z = (z % 18446744073709551616).toNat := rfl
theorem wrap_in (z : Int) : I64 (Sz43.wrap z) := by
  unfold I64
  rw [wrap_def]
  omega
theorem wrap_id {z : Int} (h : I64 z) : Sz43.wrap z = z := by
  unfold I64 at h
  rw [wrap_def]
  omega
theorem tb_compl {b : Nat} (h : b < 2 ^ 64) (i : Nat) : ((18446744073709551615 : Nat) - b).testBit i = (decide (i < 64) && !b.testBit i) := by
  have e : (18446744073709551615 : Nat) - b = 2 ^ 64 - (b + 1) := by
    have : (2 : Nat) ^ 64 = 18446744073709551616 := by decide
    omega
  rw [e]
  exact Nat.testBit_two_pow_sub_succ h i
theorem tb_big {b i : Nat} (h : b < 2 ^ 64) (hi : ¬ i < 64) : b.testBit i = false := Nat.testBit_lt_two_pow (Nat.lt_of_lt_of_le h (Nat.pow_le_pow_right (by decide) (by omega)))
/-- u and not b -/
theorem land_compl {u b : Nat} (hu : u < 2 ^ 64) (hb : b < 2 ^ 64) : (u &&& ((18446744073709551615 : Nat) - b)) + (u &&& b) = u := by
  have h := Bits.nat_xor_add_and (u &&& ((18446744073709551615 : Nat) - b)) (u &&& b)
  have e1 : (u &&& ((18446744073709551615 : Nat) - b)) ^^^ (u &&& b) = u := by
    apply Nat.eq_of_testBit_eq
    intro i
    rw [Nat.testBit_xor, Nat.testBit_and, Nat.testBit_and, tb_compl hb]
    by_cases hi : i < 64
    · cases u.testBit i <;> cases b.testBit i <;> simp [hi]
    · rw [tb_big hu hi]
      simp
  have e2 : (u &&& ((18446744073709551615 : Nat) - b)) &&& (u &&& b) = 0 := by
    apply Nat.eq_of_testBit_eq
    intro i
    rw [Nat.testBit_and, Nat.testBit_and, Nat.testBit_and, tb_compl hb]
    cases u.testBit i <;> cases b.testBit i <;> simp
  rw [e1, e2] at h
  omega
theorem land_two {a b : Nat} (ha : a < 2 ^ 64) (hb : b < 2 ^ 64) : ((18446744073709551615 : Nat) - a) &&& ((18446744073709551615 : Nat) - b) = (18446744073709551615 : Nat) - (a ||| b) := by
  apply Nat.eq_of_testBit_eq
  intro i
  rw [Nat.testBit_and, tb_compl ha, tb_compl hb, tb_compl (Nat.or_lt_two_pow ha hb), Nat.testBit_or]
  by_cases hi : i < 64
  · cases a.testBit i <;> cases b.testBit i <;> simp [hi]
  · simp [hi]
theorem lor_sum (u v : Nat) : (u ^^^ v) + (u &&& v) = u ||| v := by
  have h := Bits.nat_xor_add_and (u ^^^ v) (u &&& v)
  have e1 : (u ^^^ v) ^^^ (u &&& v) = u ||| v := by
    apply Nat.eq_of_testBit_eq
    intro i
    rw [Nat.testBit_xor, Nat.testBit_xor, Nat.testBit_and, Nat.testBit_or]
    cases u.testBit i <;> cases v.testBit i <;> rfl
  have e2 : (u ^^^ v) &&& (u &&& v) = 0 := by
    apply Nat.eq_of_testBit_eq
    intro i
    rw [Nat.testBit_and, Nat.testBit_xor, Nat.testBit_and]
    cases u.testBit i <;> cases v.testBit i <;> simp
  rw [e1, e2] at h
  omega
theorem xor_or (u v : Nat) : (u ^^^ v) ||| (u &&& v) = u ||| v := by
  apply Nat.eq_of_testBit_eq
  intro i
  rw [Nat.testBit_or, Nat.testBit_xor, Nat.testBit_and, Nat.testBit_or]
  cases u.testBit i <;> cases v.testBit i <;> rfl

theorem p64 : (2 : Nat) ^ 64 = 18446744073709551616 := by decide
theorem p63 : (2 : Nat) ^ 63 = 9223372036854775808 := by decide
theorem bits_lt (x : Int) : Sz43.bits x < 2 ^ 64 := by
  rw [bits_def, p64]
  omega
theorem bits_pos {x : Int} (h : I64 x) (p : 0 ≤ x) : Sz43.bits x = x.toNat := by
  unfold I64 at h
  rw [bits_def]
  omega
theorem bits_neg {x : Int} (h : I64 x) (p : ¬ 0 ≤ x) : Sz43.bits x = (18446744073709551615 : Nat) - (Builtin.bitNot x).toNat ∧ (Builtin.bitNot x).toNat < 2 ^ 63 := by
  unfold I64 at h
  rw [bits_def, p63]
  unfold Builtin.bitNot
  constructor <;> omega
theorem and_eq {x y : Int} (hx : I64 x) (hy : I64 y) : Sz43.wrap ((Sz43.bits x &&& Sz43.bits y : Nat) : Int) = Builtin.bitAnd x y := by
  have l63 : ∀ {n : Nat}, n < 2 ^ 63 → n < 2 ^ 64 := fun h => by rw [p63] at h; rw [p64]; omega
  have i64 : ∀ {n : Nat}, n < 2 ^ 63 → I64 (n : Int) := fun h => by rw [p63] at h; unfold I64; omega
  unfold Builtin.bitAnd
  by_cases px : 0 ≤ x <;> by_cases py : 0 ≤ y
  · rw [decide_eq_true px, decide_eq_true py]
    show Sz43.wrap _ = ((x.toNat &&& y.toNat : Nat) : Int)
    rw [bits_pos hx px, bits_pos hy py]
    refine wrap_id (i64 (Nat.and_lt_two_pow _ ?_))
    unfold I64 at hy
    rw [p63]
    omega
  · rw [decide_eq_true px, decide_eq_false py]
    show Sz43.wrap _ = x - ((x.toNat &&& (Builtin.bitNot y).toNat : Nat) : Int)
    obtain ⟨b1, b2⟩ := bits_neg hy py
    have ux : x.toNat < 2 ^ 63 := by unfold I64 at hx; rw [p63]; omega
    have e := land_compl (u := x.toNat) (l63 ux) (l63 b2)
    rw [bits_pos hx px, b1]
    rw [wrap_id (i64 (Nat.lt_of_le_of_lt Nat.and_le_left ux))]
    omega
  · rw [decide_eq_false px, decide_eq_true py]
    show Sz43.wrap _ = y - ((y.toNat &&& (Builtin.bitNot x).toNat : Nat) : Int)
    obtain ⟨b1, b2⟩ := bits_neg hx px
    have uy : y.toNat < 2 ^ 63 := by unfold I64 at hy; rw [p63]; omega
    have e := land_compl (u := y.toNat) (l63 uy) (l63 b2)
    rw [bits_pos hy py, b1, Nat.and_comm]
    rw [wrap_id (i64 (Nat.lt_of_le_of_lt Nat.and_le_left uy))]
    omega
  · rw [decide_eq_false px, decide_eq_false py]
    show Sz43.wrap _ = Builtin.bitNot ((((Builtin.bitNot x).toNat ||| (Builtin.bitNot y).toNat : Nat)) : Int)
    obtain ⟨a1, a2⟩ := bits_neg hx px
    obtain ⟨b1, b2⟩ := bits_neg hy py
    rw [a1, b1, land_two (l63 a2) (l63 b2)]
    have o := Nat.or_lt_two_pow a2 b2
    rw [p63] at o
    rw [wrap_def]
    unfold Builtin.bitNot at o ⊢
    omega
theorem not_in {x : Int} (h : I64 x) : I64 (Builtin.bitNot x) := by
  unfold I64 at h ⊢
  unfold Builtin.bitNot
  omega
theorem bits_not {x : Int} (h : I64 x) : Sz43.bits (Builtin.bitNot x) = (18446744073709551615 : Nat) - Sz43.bits x := by
  unfold I64 at h
  rw [bits_def, bits_def]
  unfold Builtin.bitNot
  omega
theorem or_eq {x y : Int} (hx : I64 x) (hy : I64 y) : Sz43.wrap ((Sz43.bits x ||| Sz43.bits y : Nat) : Int) = Builtin.bitOr x y := by
  unfold Builtin.bitOr
  rw [← and_eq (not_in hx) (not_in hy), bits_not hx, bits_not hy, land_two (bits_lt x) (bits_lt y)]
  have o := Nat.or_lt_two_pow (bits_lt x) (bits_lt y)
  rw [p64] at o
  rw [wrap_def, wrap_def]
  unfold Builtin.bitNot
  omega
theorem xor_eq {x y : Int} (hx : I64 x) (hy : I64 y) : Sz43.wrap ((Sz43.bits x ^^^ Sz43.bits y : Nat) : Int) = Builtin.bitXor x y := by
  unfold Builtin.bitXor
  rw [← or_eq hx hy, ← and_eq hx hy]
  have s := lor_sum (Sz43.bits x) (Sz43.bits y)
  have o := Nat.or_lt_two_pow (bits_lt x) (bits_lt y)
  have k : (Sz43.bits x ^^^ Sz43.bits y) < 2 ^ 63 → (Sz43.bits x &&& Sz43.bits y) < 2 ^ 63 → (Sz43.bits x ||| Sz43.bits y) < 2 ^ 63 := fun h1 h2 => by
    have := Nat.or_lt_two_pow h1 h2
    rwa [xor_or] at this
  rw [p63] at k
  rw [p64] at o
  rw [wrap_def, wrap_def, wrap_def]
  generalize (Sz43.bits x ^^^ Sz43.bits y) = a at *
  generalize (Sz43.bits x &&& Sz43.bits y) = b at *
  generalize (Sz43.bits x ||| Sz43.bits y) = c at *
  omega
theorem sh_eq (z : Int) : (Sz43.bits z % 64 : Nat) = (z % 64).toNat := by
  rw [bits_def]
  omega
/-- absolute values -/
def ab (y : Int) : Int := if y < 0 then -y else y
theorem tdiv_eq (y z : Int) (hz : z ≠ 0) : Int.tdiv y z = if (decide (y < 0) = decide (z < 0)) then ab y / ab z else -(ab y / ab z) := by
  unfold ab
  by_cases hy : y < 0 <;> by_cases hw : z < 0
  · rw [if_pos (by simp [hy, hw]), if_pos hy, if_pos hw, ← Int.tdiv_eq_ediv_of_nonneg (by omega), Int.neg_tdiv, Int.tdiv_neg, Int.neg_neg]
  · rw [if_neg (by simp [hy, hw]), if_pos hy, if_neg hw, ← Int.tdiv_eq_ediv_of_nonneg (by omega), Int.neg_tdiv, Int.neg_neg]
  · rw [if_neg (by simp [hy, hw]), if_neg hy, if_pos hw, ← Int.tdiv_eq_ediv_of_nonneg (by omega), Int.tdiv_neg, Int.neg_neg]
  · rw [if_pos (by simp [hy, hw]), if_neg hy, if_neg hw, ← Int.tdiv_eq_ediv_of_nonneg (by omega)]
theorem tmod_eq (y z : Int) : Int.tmod y z = if y < 0 then -(ab y % ab z) else ab y % ab z := by
  unfold ab
  by_cases hy : y < 0 <;> by_cases hw : z < 0
  · rw [if_pos hy, if_pos hy, if_pos hw, ← Int.tmod_eq_emod_of_nonneg (by omega), Int.neg_tmod, Int.tmod_neg, Int.neg_neg]
  · rw [if_pos hy, if_pos hy, if_neg hw, ← Int.tmod_eq_emod_of_nonneg (by omega), Int.neg_tmod, Int.neg_neg]
  · rw [if_neg hy, if_neg hy, if_pos hw, ← Int.tmod_eq_emod_of_nonneg (by omega), Int.tmod_neg]
  · rw [if_neg hy, if_neg hy, if_neg hw, ← Int.tmod_eq_emod_of_nonneg (by omega)]
theorem rk5a (f : Int → Int) (y z : Int) (h : Sz43.wrap = f) : Sz43.reckon 5 y z = f ((Sz43.bits y &&& Sz43.bits z : Nat) : Int) := by
  unfold Sz43.reckon
  rw [h]
  generalize ((Sz43.bits y &&& Sz43.bits z : Nat) : Int) = q
  rfl
theorem rk5 (y z : Int) : Sz43.reckon 5 y z = Sz43.wrap ((Sz43.bits y &&& Sz43.bits z : Nat) : Int) := rk5a _ y z rfl
theorem rk6a (f : Int → Int) (y z : Int) (h : Sz43.wrap = f) : Sz43.reckon 6 y z = f ((Sz43.bits y ||| Sz43.bits z : Nat) : Int) := by
  unfold Sz43.reckon
  rw [h]
  generalize ((Sz43.bits y ||| Sz43.bits z : Nat) : Int) = q
  rfl
theorem rk6 (y z : Int) : Sz43.reckon 6 y z = Sz43.wrap ((Sz43.bits y ||| Sz43.bits z : Nat) : Int) := rk6a _ y z rfl
theorem rk7a (f : Int → Int) (y z : Int) (h : Sz43.wrap = f) : Sz43.reckon 7 y z = f ((Sz43.bits y ^^^ Sz43.bits z : Nat) : Int) := by
  unfold Sz43.reckon
  rw [h]
  generalize ((Sz43.bits y ^^^ Sz43.bits z : Nat) : Int) = q
  rfl
theorem rk7 (y z : Int) : Sz43.reckon 7 y z = Sz43.wrap ((Sz43.bits y ^^^ Sz43.bits z : Nat) : Int) := rk7a _ y z rfl
end My

set_option Elab.async false
set_option linter.all false
set_option maxRecDepth 100000
namespace My
open PySem L2
noncomputable def top (i : Nat) : Stmt := PySem.Challenge.pw_sameruns_s01_bt_known.main.body.getD i (.Pass ⟨0, 0, 0, 0⟩)
abbrev s_ways_from : Stmt := top 1
abbrev s_agreed : Stmt := top 2
abbrev s_brought_along : Stmt := top 3
abbrev s_wrapped : Stmt := top 11
abbrev s_plus : Stmt := top 12
abbrev s_minus : Stmt := top 13
abbrev s_times : Stmt := top 14
abbrev s_divided : Stmt := top 15
abbrev s_rest : Stmt := top 16
abbrev s_both_bits : Stmt := top 17
abbrev s_either_bits : Stmt := top 18
abbrev s_differing_bits : Stmt := top 19
abbrev s_shifted_up : Stmt := top 20
abbrev s_shifted_down : Stmt := top 21
abbrev s_is_less : Stmt := top 22
abbrev s_is_same : Stmt := top 23
abbrev s_is_operator : Stmt := top 25
abbrev s_reckoned : Stmt := top 26
abbrev s_given_number : Stmt := top 28
abbrev s_known_behind : Stmt := top 29
abbrev s_known_ways : Stmt := top 30
abbrev s_known_before : Stmt := top 31
abbrev s_spelled : Stmt := top 44
abbrev s_lines_of : Stmt := top 45
abbrev s_is_letter : Stmt := top 46
abbrev s_is_digit : Stmt := top 47
abbrev s_is_name_sign : Stmt := top 48
abbrev s_is_name : Stmt := top 49
abbrev s_number_of : Stmt := top 50
abbrev s_read_program : Stmt := top 56
abbrev s_bt_known : Stmt := top 61
abbrev s_known_told : Stmt := top 62
abbrev s_Instruction___init__ : Stmt := inClass (top 5) 0
abbrev s_Program___init__ : Stmt := inClass (top 6) 0
abbrev s_WrongLine___init__ : Stmt := inClass (top 54) 0
abbrev s_Reading___init__ : Stmt := inClass (top 55) 0
abbrev s_Reading_take_line : Stmt := inClass (top 55) 1
abbrev s_Reading_take_label : Stmt := inClass (top 55) 2
abbrev s_Reading_take_instruction : Stmt := inClass (top 55) 3
abbrev s_Reading_instruction_of : Stmt := inClass (top 55) 4
abbrev s_Reading_giving_of : Stmt := inClass (top 55) 5
abbrev s_Reading_variable_of : Stmt := inClass (top 55) 6
abbrev s_Reading_jump_to : Stmt := inClass (top 55) 7
abbrev s_Reading_find_places : Stmt := inClass (top 55) 8
set_option genInjectivity false in
set_option genSizeOf false in
structure Ad where
  (f_ways_from f_agreed f_brought_along f_wrapped f_plus f_minus f_times f_divided f_rest f_both_bits f_either_bits f_differing_bits f_shifted_up f_shifted_down f_is_less f_is_same f_is_operator f_reckoned f_given_number f_known_behind f_known_ways f_known_before f_spelled f_lines_of f_is_letter f_is_digit f_is_name_sign f_is_name f_number_of f_read_program f_bt_known f_known_told f_Instruction___init__ f_Program___init__ f_WrongLine___init__ f_Reading___init__ f_Reading_take_line f_Reading_take_label f_Reading_take_instruction f_Reading_instruction_of f_Reading_giving_of f_Reading_variable_of f_Reading_jump_to f_Reading_find_places C_Instruction C_Program C_WrongLine C_Reading N_WrongLine a_OPERATORS a_BLANKS a_NOT_NAMES a_dfl k_plus k_minus k_times k_divided k_rest k_both_bits k_either_bits k_differing_bits k_shifted_up k_shifted_down k_is_less k_is_same : Addr)
  (d_ways_from d_agreed d_brought_along d_wrapped d_plus d_minus d_times d_divided d_rest d_both_bits d_either_bits d_differing_bits d_shifted_up d_shifted_down d_is_less d_is_same d_is_operator d_reckoned d_given_number d_known_behind d_known_ways d_known_before d_spelled d_lines_of d_is_letter d_is_digit d_is_name_sign d_is_name d_number_of d_read_program d_bt_known d_known_told d_Instruction___init__ d_Program___init__ d_WrongLine___init__ d_Reading___init__ d_Reading_take_line d_Reading_take_label d_Reading_take_instruction d_Reading_instruction_of d_Reading_giving_of d_Reading_variable_of d_Reading_jump_to d_Reading_find_places : FuncData)
noncomputable def opsXs (t : Ad) : List (List Key × Addr × Value) := [([Sum.inl 43], t.k_plus, .ref t.f_plus), ([Sum.inl 45], t.k_minus, .ref t.f_minus), ([Sum.inl 42], t.k_times, .ref t.f_times), ([Sum.inl 47], t.k_divided, .ref t.f_divided), ([Sum.inl 37], t.k_rest, .ref t.f_rest), ([Sum.inl 38], t.k_both_bits, .ref t.f_both_bits), ([Sum.inl 124], t.k_either_bits, .ref t.f_either_bits), ([Sum.inl 94], t.k_differing_bits, .ref t.f_differing_bits), ([Sum.inl 60, Sum.inl 60], t.k_shifted_up, .ref t.f_shifted_up), ([Sum.inl 62, Sum.inl 62], t.k_shifted_down, .ref t.f_shifted_down), ([Sum.inl 60], t.k_is_less, .ref t.f_is_less), ([Sum.inl 61, Sum.inl 61], t.k_is_same, .ref t.f_is_same)]
/-- what the top has left -/
structure Txt (K : PySem.W.Frag) (mg : Str → Option Value) (t : Ad) : Prop where
  F_ways_from : Fun K "ways_from" "ways_from" s_ways_from t.f_ways_from t.d_ways_from
  g_ways_from : mg "ways_from" = some (.ref t.f_ways_from)
  F_agreed : Fun K "agreed" "agreed" s_agreed t.f_agreed t.d_agreed
  g_agreed : mg "agreed" = some (.ref t.f_agreed)
  F_brought_along : Fun K "brought_along" "brought_along" s_brought_along t.f_brought_along t.d_brought_along
  g_brought_along : mg "brought_along" = some (.ref t.f_brought_along)
  F_wrapped : Fun K "wrapped" "wrapped" s_wrapped t.f_wrapped t.d_wrapped
  g_wrapped : mg "wrapped" = some (.ref t.f_wrapped)
  F_plus : Fun K "plus" "plus" s_plus t.f_plus t.d_plus
  g_plus : mg "plus" = some (.ref t.f_plus)
  F_minus : Fun K "minus" "minus" s_minus t.f_minus t.d_minus
  g_minus : mg "minus" = some (.ref t.f_minus)
  F_times : Fun K "times" "times" s_times t.f_times t.d_times
  g_times : mg "times" = some (.ref t.f_times)
  F_divided : Fun K "divided" "divided" s_divided t.f_divided t.d_divided
  g_divided : mg "divided" = some (.ref t.f_divided)
  F_rest : Fun K "rest" "rest" s_rest t.f_rest t.d_rest
  g_rest : mg "rest" = some (.ref t.f_rest)
  F_both_bits : Fun K "both_bits" "both_bits" s_both_bits t.f_both_bits t.d_both_bits
  g_both_bits : mg "both_bits" = some (.ref t.f_both_bits)
  F_either_bits : Fun K "either_bits" "either_bits" s_either_bits t.f_either_bits t.d_either_bits
  g_either_bits : mg "either_bits" = some (.ref t.f_either_bits)
  F_differing_bits : Fun K "differing_bits" "differing_bits" s_differing_bits t.f_differing_bits t.d_differing_bits
  g_differing_bits : mg "differing_bits" = some (.ref t.f_differing_bits)
  F_shifted_up : Fun K "shifted_up" "shifted_up" s_shifted_up t.f_shifted_up t.d_shifted_up
  g_shifted_up : mg "shifted_up" = some (.ref t.f_shifted_up)
  F_shifted_down : Fun K "shifted_down" "shifted_down" s_shifted_down t.f_shifted_down t.d_shifted_down
  g_shifted_down : mg "shifted_down" = some (.ref t.f_shifted_down)
  F_is_less : Fun K "is_less" "is_less" s_is_less t.f_is_less t.d_is_less
  g_is_less : mg "is_less" = some (.ref t.f_is_less)
  F_is_same : Fun K "is_same" "is_same" s_is_same t.f_is_same t.d_is_same
  g_is_same : mg "is_same" = some (.ref t.f_is_same)
  F_is_operator : Fun K "is_operator" "is_operator" s_is_operator t.f_is_operator t.d_is_operator
  g_is_operator : mg "is_operator" = some (.ref t.f_is_operator)
  F_reckoned : Fun K "reckoned" "reckoned" s_reckoned t.f_reckoned t.d_reckoned
  g_reckoned : mg "reckoned" = some (.ref t.f_reckoned)
  F_given_number : Fun K "given_number" "given_number" s_given_number t.f_given_number t.d_given_number
  g_given_number : mg "given_number" = some (.ref t.f_given_number)
  F_known_behind : Fun K "known_behind" "known_behind" s_known_behind t.f_known_behind t.d_known_behind
  g_known_behind : mg "known_behind" = some (.ref t.f_known_behind)
  F_known_ways : Fun K "known_ways" "known_ways" s_known_ways t.f_known_ways t.d_known_ways
  g_known_ways : mg "known_ways" = some (.ref t.f_known_ways)
  F_known_before : Fun K "known_before" "known_before" s_known_before t.f_known_before t.d_known_before
  g_known_before : mg "known_before" = some (.ref t.f_known_before)
  F_spelled : Fun K "spelled" "spelled" s_spelled t.f_spelled t.d_spelled
  g_spelled : mg "spelled" = some (.ref t.f_spelled)
  F_lines_of : Fun K "lines_of" "lines_of" s_lines_of t.f_lines_of t.d_lines_of
  g_lines_of : mg "lines_of" = some (.ref t.f_lines_of)
  F_is_letter : Fun K "is_letter" "is_letter" s_is_letter t.f_is_letter t.d_is_letter
  g_is_letter : mg "is_letter" = some (.ref t.f_is_letter)
  F_is_digit : Fun K "is_digit" "is_digit" s_is_digit t.f_is_digit t.d_is_digit
  g_is_digit : mg "is_digit" = some (.ref t.f_is_digit)
  F_is_name_sign : Fun K "is_name_sign" "is_name_sign" s_is_name_sign t.f_is_name_sign t.d_is_name_sign
  g_is_name_sign : mg "is_name_sign" = some (.ref t.f_is_name_sign)
  F_is_name : Fun K "is_name" "is_name" s_is_name t.f_is_name t.d_is_name
  g_is_name : mg "is_name" = some (.ref t.f_is_name)
  F_number_of : Fun K "number_of" "number_of" s_number_of t.f_number_of t.d_number_of
  g_number_of : mg "number_of" = some (.ref t.f_number_of)
  F_read_program : Fun K "read_program" "read_program" s_read_program t.f_read_program t.d_read_program
  g_read_program : mg "read_program" = some (.ref t.f_read_program)
  F_bt_known : Fun K "bt_known" "bt_known" s_bt_known t.f_bt_known t.d_bt_known
  g_bt_known : mg "bt_known" = some (.ref t.f_bt_known)
  F_known_told : Fun K "known_told" "known_told" s_known_told t.f_known_told t.d_known_told
  g_known_told : mg "known_told" = some (.ref t.f_known_told)
  F_Program___init__ : Fun K "__init__" "Program.__init__" s_Program___init__ t.f_Program___init__ t.d_Program___init__
  F_WrongLine___init__ : Fun K "__init__" "WrongLine.__init__" s_WrongLine___init__ t.f_WrongLine___init__ t.d_WrongLine___init__
  F_Reading___init__ : Fun K "__init__" "Reading.__init__" s_Reading___init__ t.f_Reading___init__ t.d_Reading___init__
  F_Reading_take_line : Fun K "take_line" "Reading.take_line" s_Reading_take_line t.f_Reading_take_line t.d_Reading_take_line
  m_Reading_take_line : Meth K t.C_Reading "take_line" t.f_Reading_take_line
  F_Reading_take_label : Fun K "take_label" "Reading.take_label" s_Reading_take_label t.f_Reading_take_label t.d_Reading_take_label
  m_Reading_take_label : Meth K t.C_Reading "take_label" t.f_Reading_take_label
  F_Reading_take_instruction : Fun K "take_instruction" "Reading.take_instruction" s_Reading_take_instruction t.f_Reading_take_instruction t.d_Reading_take_instruction
  m_Reading_take_instruction : Meth K t.C_Reading "take_instruction" t.f_Reading_take_instruction
  F_Reading_instruction_of : Fun K "instruction_of" "Reading.instruction_of" s_Reading_instruction_of t.f_Reading_instruction_of t.d_Reading_instruction_of
  m_Reading_instruction_of : Meth K t.C_Reading "instruction_of" t.f_Reading_instruction_of
  F_Reading_giving_of : Fun K "giving_of" "Reading.giving_of" s_Reading_giving_of t.f_Reading_giving_of t.d_Reading_giving_of
  m_Reading_giving_of : Meth K t.C_Reading "giving_of" t.f_Reading_giving_of
  F_Reading_variable_of : Fun K "variable_of" "Reading.variable_of" s_Reading_variable_of t.f_Reading_variable_of t.d_Reading_variable_of
  m_Reading_variable_of : Meth K t.C_Reading "variable_of" t.f_Reading_variable_of
  F_Reading_jump_to : Fun K "jump_to" "Reading.jump_to" s_Reading_jump_to t.f_Reading_jump_to t.d_Reading_jump_to
  m_Reading_jump_to : Meth K t.C_Reading "jump_to" t.f_Reading_jump_to
  F_Reading_find_places : Fun K "find_places" "Reading.find_places" s_Reading_find_places t.f_Reading_find_places t.d_Reading_find_places
  m_Reading_find_places : Meth K t.C_Reading "find_places" t.f_Reading_find_places
  F_Instruction___init__ : ∃ (oc : Value) (od : Option Addr) (kV doc pm : Value) (an : Option Addr) (cdv ct : Value) (osl : Array (Option Value)), t.d_Instruction___init__ = PySem.W.fnOf "__init__" "Instruction.__init__" (defArgs s_Instruction___init__) (defBody s_Instruction___init__) (defScope s_Instruction___init__) (.ref t.a_dfl) kV doc pm an cdv ct ∧ K.lookup t.f_Instruction___init__ = some ⟨oc, od, .func t.d_Instruction___init__, osl⟩ ∧ PySem.W.codeIn K cdv "Instruction.__init__" = true
  dfl : ∃ (o : Obj) (n : Nat), K.lookup t.a_dfl = some o ∧ o.data = .seq #[.none, .none, .none, .none] n
  gc_Instruction : mg "Instruction" = some (.ref t.C_Instruction)
  cl_Instruction : Cls K t.C_Instruction
  mk_Instruction : Mk K t.C_Instruction t.f_Instruction___init__
  na_Instruction_kind : NoAttr K t.C_Instruction "kind"
  na_Instruction_used : NoAttr K t.C_Instruction "used"
  na_Instruction_given : NoAttr K t.C_Instruction "given"
  na_Instruction_number : NoAttr K t.C_Instruction "number"
  na_Instruction_operator : NoAttr K t.C_Instruction "operator"
  na_Instruction_place : NoAttr K t.C_Instruction "place"
  gc_Program : mg "Program" = some (.ref t.C_Program)
  cl_Program : Cls K t.C_Program
  mk_Program : Mk K t.C_Program t.f_Program___init__
  na_Program_instructions : NoAttr K t.C_Program "instructions"
  na_Program_names : NoAttr K t.C_Program "names"
  gc_WrongLine : mg "WrongLine" = some (.ref t.C_WrongLine)
  gc_Reading : mg "Reading" = some (.ref t.C_Reading)
  cl_Reading : Cls K t.C_Reading
  mk_Reading : Mk K t.C_Reading t.f_Reading___init__
  na_Reading_line : NoAttr K t.C_Reading "line"
  na_Reading_instructions : NoAttr K t.C_Reading "instructions"
  na_Reading_variables : NoAttr K t.C_Reading "variables"
  na_Reading_labels : NoAttr K t.C_Reading "labels"
  na_Reading_jumps : NoAttr K t.C_Reading "jumps"
  xc : XC K t.C_WrongLine t.N_WrongLine t.f_WrongLine___init__
  c_ALL_NUMBERS : ∃ tk, mg "ALL_NUMBERS" = some (.int (18446744073709551616) tk)
  c_NUMBERS_BELOW_ZERO : ∃ tk, mg "NUMBERS_BELOW_ZERO" = some (.int (9223372036854775808) tk)
  c_SHIFT_BITS : ∃ tk, mg "SHIFT_BITS" = some (.int (63) tk)
  g_OPERATORS : mg "OPERATORS" = some (.ref t.a_OPERATORS)
  c_NEWLINE : ∃ tk, mg "NEWLINE" = some (.int (10) tk)
  g_BLANKS : mg "BLANKS" = some (.ref t.a_BLANKS)
  c_DIGIT_ZERO : ∃ tk, mg "DIGIT_ZERO" = some (.int (48) tk)
  c_DIGIT_NINE : ∃ tk, mg "DIGIT_NINE" = some (.int (57) tk)
  c_LETTER_A : ∃ tk, mg "LETTER_A" = some (.int (97) tk)
  c_LETTER_Z : ∃ tk, mg "LETTER_Z" = some (.int (122) tk)
  c_UNDERSCORE : ∃ tk, mg "UNDERSCORE" = some (.int (95) tk)
  c_MINUS : ∃ tk, mg "MINUS" = some (.int (45) tk)
  g_NOT_NAMES : mg "NOT_NAMES" = some (.ref t.a_NOT_NAMES)
  c_LONGEST_NAME : ∃ tk, mg "LONGEST_NAME" = some (.int (16) tk)
  c_MOST_DIGITS : ∃ tk, mg "MOST_DIGITS" = some (.int (19) tk)
  c_MOST_INSTRUCTIONS : ∃ tk, mg "MOST_INSTRUCTIONS" = some (.int (256) tk)
  c_MOST_VARIABLES : ∃ tk, mg "MOST_VARIABLES" = some (.int (64) tk)
  c_WRONG_LINE : ∃ tk, mg "WRONG_LINE" = some (.int (-100) tk)
  c_NO_SUCH_PLACE : ∃ tk, mg "NO_SUCH_PLACE" = some (.int (-4) tk)
  c_NOT_COME_TO : ∃ tk, mg "NOT_COME_TO" = some (.int (-3) tk)
  q_BLANKS : ∀ H : Hp, SqT K H t.a_BLANKS [.int 32, .int 9, .int 13]
  q_NOT_NAMES : ∀ H : Hp, SqT K H t.a_NOT_NAMES [.str "label", .str "goto", .str "if", .str "print", .str "read", .str "end"]
  tab : ∀ (P : Program) (w : World), KTab P w K t.a_OPERATORS (opsXs t)
  kops : PySem.W.keepIn K (.ref t.f_plus) = true ∧ PySem.W.keepIn K (.ref t.f_minus) = true ∧ PySem.W.keepIn K (.ref t.f_times) = true ∧ PySem.W.keepIn K (.ref t.f_divided) = true ∧ PySem.W.keepIn K (.ref t.f_rest) = true ∧ PySem.W.keepIn K (.ref t.f_both_bits) = true ∧ PySem.W.keepIn K (.ref t.f_either_bits) = true ∧ PySem.W.keepIn K (.ref t.f_differing_bits) = true ∧ PySem.W.keepIn K (.ref t.f_shifted_up) = true ∧ PySem.W.keepIn K (.ref t.f_shifted_down) = true ∧ PySem.W.keepIn K (.ref t.f_is_less) = true ∧ PySem.W.keepIn K (.ref t.f_is_same) = true
  n_list : mg "list" = none
  n_tuple : mg "tuple" = none
  n_all : mg "all" = none
  n_range : mg "range" = none
  n_len : mg "len" = none
  n_abs : mg "abs" = none
  n_zip : mg "zip" = none
  n_ord : mg "ord" = none
section
variable {K : PySem.W.Frag} {mg : Str → Option Value} {t : Ad}
theorem len_s {α : Type} {l : List α} {n : Nat} (h : l.length = n + 1) : ∃ a r, l = a :: r ∧ r.length = n := by
  cases l with
  | nil => cases h
  | cons a r => exact ⟨a, r, rfl, Nat.succ.inj h⟩
theorem len1 {α : Type} {l : List α} (h : l.length = 1) : ∃ a, l = [a] := by
  obtain ⟨a, r, rfl, h'⟩ := len_s h
  cases List.eq_nil_of_length_eq_zero h'
  exact ⟨a, rfl⟩
theorem len2 {α : Type} {l : List α} (h : l.length = 2) : ∃ a b, l = [a, b] := by
  obtain ⟨a, r, rfl, h'⟩ := len_s h
  obtain ⟨b, rfl⟩ := len1 h'
  exact ⟨a, b, rfl⟩
theorem len3 {α : Type} {l : List α} (h : l.length = 3) : ∃ a b c, l = [a, b, c] := by
  obtain ⟨a, r, rfl, h'⟩ := len_s h
  obtain ⟨b, c, rfl⟩ := len2 h'
  exact ⟨a, b, c, rfl⟩
theorem len4 {α : Type} {l : List α} (h : l.length = 4) : ∃ a b c d, l = [a, b, c, d] := by
  obtain ⟨a, r, rfl, h'⟩ := len_s h
  obtain ⟨b, c, d, rfl⟩ := len3 h'
  exact ⟨a, b, c, d, rfl⟩
theorem bd1 {x q : Str} {st : Stmt} {f : Addr} {d : FuncData} {p0 : Str} (F : Fun K x q st f d) (h : ∀ (k c m : Value) (n : Option Addr) (v e u0 : Value), bindArgs (PySem.W.fnOf x q (defArgs st) (defBody st) (defScope st) .none k c m n v e) ⟨[u0], []⟩ = pure [(p0, u0)] := by intros; rfl) : Binds K d [p0] [] :=
  F.binds fun k c m n v e us hl => by
    obtain ⟨u0, rfl⟩ := len1 hl
    exact h k c m n v e u0
theorem bd2 {x q : Str} {st : Stmt} {f : Addr} {d : FuncData} {p0 p1 : Str} (F : Fun K x q st f d) (h : ∀ (k c m : Value) (n : Option Addr) (v e u0 u1 : Value), bindArgs (PySem.W.fnOf x q (defArgs st) (defBody st) (defScope st) .none k c m n v e) ⟨[u0, u1], []⟩ = pure [(p0, u0), (p1, u1)] := by intros; rfl) : Binds K d [p0, p1] [] :=
  F.binds fun k c m n v e us hl => by
    obtain ⟨u0, u1, rfl⟩ := len2 hl
    exact h k c m n v e u0 u1
theorem bd3 {x q : Str} {st : Stmt} {f : Addr} {d : FuncData} {p0 p1 p2 : Str} (F : Fun K x q st f d) (h : ∀ (k c m : Value) (n : Option Addr) (v e u0 u1 u2 : Value), bindArgs (PySem.W.fnOf x q (defArgs st) (defBody st) (defScope st) .none k c m n v e) ⟨[u0, u1, u2], []⟩ = pure [(p0, u0), (p1, u1), (p2, u2)] := by intros; rfl) : Binds K d [p0, p1, p2] [] :=
  F.binds fun k c m n v e us hl => by
    obtain ⟨u0, u1, u2, rfl⟩ := len3 hl
    exact h k c m n v e u0 u1 u2
theorem bd4 {x q : Str} {st : Stmt} {f : Addr} {d : FuncData} {p0 p1 p2 p3 : Str} (F : Fun K x q st f d) (h : ∀ (k c m : Value) (n : Option Addr) (v e u0 u1 u2 u3 : Value), bindArgs (PySem.W.fnOf x q (defArgs st) (defBody st) (defScope st) .none k c m n v e) ⟨[u0, u1, u2, u3], []⟩ = pure [(p0, u0), (p1, u1), (p2, u2), (p3, u3)] := by intros; rfl) : Binds K d [p0, p1, p2, p3] [] :=
  F.binds fun k c m n v e us hl => by
    obtain ⟨u0, u1, u2, u3, rfl⟩ := len4 hl
    exact h k c m n v e u0 u1 u2 u3
theorem b_ways_from (T : Txt K mg t) : Binds K t.d_ways_from ["place", "instruction"] [] := bd2 T.F_ways_from
theorem b_agreed (T : Txt K mg t) : Binds K t.d_agreed ["before", "brought"] [] := bd2 T.F_agreed
theorem b_brought_along (T : Txt K mg t) : Binds K t.d_brought_along ["instructions", "first", "behind", "ways"] [] := bd4 T.F_brought_along
theorem b_wrapped (T : Txt K mg t) : Binds K t.d_wrapped ["number"] [] := bd1 T.F_wrapped
theorem b_plus (T : Txt K mg t) : Binds K t.d_plus ["y", "z"] [] := bd2 T.F_plus
theorem b_minus (T : Txt K mg t) : Binds K t.d_minus ["y", "z"] [] := bd2 T.F_minus
theorem b_times (T : Txt K mg t) : Binds K t.d_times ["y", "z"] [] := bd2 T.F_times
theorem b_divided (T : Txt K mg t) : Binds K t.d_divided ["y", "z"] [] := bd2 T.F_divided
theorem b_rest (T : Txt K mg t) : Binds K t.d_rest ["y", "z"] [] := bd2 T.F_rest
theorem b_both_bits (T : Txt K mg t) : Binds K t.d_both_bits ["y", "z"] [] := bd2 T.F_both_bits
theorem b_either_bits (T : Txt K mg t) : Binds K t.d_either_bits ["y", "z"] [] := bd2 T.F_either_bits
theorem b_differing_bits (T : Txt K mg t) : Binds K t.d_differing_bits ["y", "z"] [] := bd2 T.F_differing_bits
theorem b_shifted_up (T : Txt K mg t) : Binds K t.d_shifted_up ["y", "z"] [] := bd2 T.F_shifted_up
theorem b_shifted_down (T : Txt K mg t) : Binds K t.d_shifted_down ["y", "z"] [] := bd2 T.F_shifted_down
theorem b_is_less (T : Txt K mg t) : Binds K t.d_is_less ["y", "z"] [] := bd2 T.F_is_less
theorem b_is_same (T : Txt K mg t) : Binds K t.d_is_same ["y", "z"] [] := bd2 T.F_is_same
theorem b_is_operator (T : Txt K mg t) : Binds K t.d_is_operator ["word"] [] := bd1 T.F_is_operator
theorem b_reckoned (T : Txt K mg t) : Binds K t.d_reckoned ["operator", "y", "z"] [] := bd3 T.F_reckoned
theorem b_given_number (T : Txt K mg t) : Binds K t.d_given_number ["instruction", "known"] [] := bd2 T.F_given_number
theorem b_known_behind (T : Txt K mg t) : Binds K t.d_known_behind ["instruction", "known"] [] := bd2 T.F_known_behind
theorem b_known_ways (T : Txt K mg t) : Binds K t.d_known_ways ["place", "instruction", "known"] [] := bd3 T.F_known_ways
theorem b_known_before (T : Txt K mg t) : Binds K t.d_known_before ["program"] [] := bd1 T.F_known_before
theorem b_spelled (T : Txt K mg t) : Binds K t.d_spelled ["text"] [] := bd1 T.F_spelled
theorem b_lines_of (T : Txt K mg t) : Binds K t.d_lines_of ["text"] [] := bd1 T.F_lines_of
theorem b_is_letter (T : Txt K mg t) : Binds K t.d_is_letter ["sign"] [] := bd1 T.F_is_letter
theorem b_is_digit (T : Txt K mg t) : Binds K t.d_is_digit ["sign"] [] := bd1 T.F_is_digit
theorem b_is_name_sign (T : Txt K mg t) : Binds K t.d_is_name_sign ["sign"] [] := bd1 T.F_is_name_sign
theorem b_is_name (T : Txt K mg t) : Binds K t.d_is_name ["word"] [] := bd1 T.F_is_name
theorem b_number_of (T : Txt K mg t) : Binds K t.d_number_of ["word"] [] := bd1 T.F_number_of
theorem b_read_program (T : Txt K mg t) : Binds K t.d_read_program ["text"] [] := bd1 T.F_read_program
theorem b_bt_known (T : Txt K mg t) : Binds K t.d_bt_known ["at", "text"] [] := bd2 T.F_bt_known
theorem b_known_told (T : Txt K mg t) : Binds K t.d_known_told ["known"] [] := bd1 T.F_known_told
theorem b_Program___init__ (T : Txt K mg t) : Binds K t.d_Program___init__ ["self", "instructions", "names"] [] := bd3 T.F_Program___init__
theorem b_WrongLine___init__ (T : Txt K mg t) : Binds K t.d_WrongLine___init__ ["self", "line"] [] := bd2 T.F_WrongLine___init__
theorem b_Reading___init__ (T : Txt K mg t) : Binds K t.d_Reading___init__ ["self"] [] := bd1 T.F_Reading___init__
theorem b_Reading_take_line (T : Txt K mg t) : Binds K t.d_Reading_take_line ["self", "words"] [] := bd2 T.F_Reading_take_line
theorem b_Reading_take_label (T : Txt K mg t) : Binds K t.d_Reading_take_label ["self", "word"] [] := bd2 T.F_Reading_take_label
theorem b_Reading_take_instruction (T : Txt K mg t) : Binds K t.d_Reading_take_instruction ["self", "words"] [] := bd2 T.F_Reading_take_instruction
theorem b_Reading_instruction_of (T : Txt K mg t) : Binds K t.d_Reading_instruction_of ["self", "words"] [] := bd2 T.F_Reading_instruction_of
theorem b_Reading_giving_of (T : Txt K mg t) : Binds K t.d_Reading_giving_of ["self", "words"] [] := bd2 T.F_Reading_giving_of
theorem b_Reading_variable_of (T : Txt K mg t) : Binds K t.d_Reading_variable_of ["self", "word"] [] := bd2 T.F_Reading_variable_of
theorem b_Reading_jump_to (T : Txt K mg t) : Binds K t.d_Reading_jump_to ["self", "label", "instruction"] [] := bd3 T.F_Reading_jump_to
theorem b_Reading_find_places (T : Txt K mg t) : Binds K t.d_Reading_find_places ["self"] [] := bd1 T.F_Reading_find_places
end
theorem sc_mk {N P : List Str} {sc : Scope} (a : sc.kind = .function := by rfl) (b : sc.isCoroutine = false := by rfl) (c : sc.isGenerator = false := by rfl) (d : N.Nodup := by decide +kernel) (e : N.take P.length = P := by rfl) (f : ∀ x ∈ P, sc.names.lookup x = some .local ∨ sc.names.lookup x = some .cell := by decide +kernel) (g : ∀ y ∈ sc.names, y.2 ≠ .free := by decide +kernel) : FnScope N P sc := ⟨a, b, c, d, e, f, g⟩
/-- a written whole number of the module -/
theorem pe_cint {X : Cx} {x : Str} {n : Int} {pos : Pos} (h : ∃ tk, X.mg x = some (.int n tk)) (hg : Gl X x) (hd : (x == ("__debug__" : Str)) = false := by decide) : PE X (.Name x pos) (tC (.int n)) :=
  let ⟨tk, e⟩ := h
  pe_glob hg e ⟨tk, rfl⟩ hd
end My

set_option Elab.async false
set_option linter.all false
set_option maxRecDepth 100000
set_option maxHeartbeats 1000000
namespace My
open PySem L2

/-- two numbers of 64 bits in, the k-th operator's result out -/
inductive spOp (k : Nat) (vs : List V) (H : Hp) (Q : VK) (e0 : XK) : Prop
  | mk y z : vs = [.int y, .int z] → I64 y → I64 z → Q (.int (Sz43.reckon k y z)) H → spOp k vs H Q e0
inductive spWrap (vs : List V) (H : Hp) (Q : VK) (e0 : XK) : Prop
  | mk n : vs = [.int n] → Q (.int (Sz43.wrap n)) H → spWrap vs H Q e0

section
variable {P : Program} {w : World} {K : PySem.W.Frag} {mg : Str → Option Value} {base : Heap} {t : Ad}
theorem sc_wrapped : FnScope ["number"] ["number"] (defScope s_wrapped) := sc_mk
theorem ok_wrapped (T : Txt K mg t) : FnOk P w K mg base CX0 1 t.f_wrapped t.d_wrapped ["number"] spWrap := by
  refine T.F_wrapped.ok sc_wrapped (fun vs H Q E h => ?_) (fun _ A _ s H vs Q E hr h => ?_)
  · obtain ⟨n, rfl, _⟩ := h
    rfl
  · obtain ⟨n, rfl, k⟩ := h
    refine ⟨_, pss_one (ps_ret (pe_op op_sub (pe_op op_mod (pe_op op_add (pv 0) (pe_cint T.c_NUMBERS_BELOW_ZERO rfl)) (pe_cint T.c_ALL_NUMBERS rfl)) (pe_cint T.c_NUMBERS_BELOW_ZERO rfl))), ?_⟩
    refine ⟨_, rfl, _, _, rfl, rfl, _, _, rfl, rfl, ?_, _, _, rfl, rfl, ?_⟩
    · show (0 : Int) < 18446744073709551616
      decide
    · exact k

theorem sc_plus : FnScope ["y", "z"] ["y", "z"] (defScope s_plus) := sc_mk
theorem ok_plus (T : Txt K mg t) : FnOk P w K mg base CX0 2 t.f_plus t.d_plus ["y", "z"] (spOp 0) := by
  refine T.F_plus.ok sc_plus (fun vs H Q E h => ?_) (fun _ A _ s H vs Q E hr h => ?_)
  · obtain ⟨y, z, rfl, _⟩ := h
    rfl
  · obtain ⟨y, z, rfl, hy, hz, k⟩ := h
    refine ⟨_, pss_one (ps_ret (pe_call (ok_wrapped T) hr rfl T.g_wrapped T.F_wrapped.kp (b_wrapped T) .nil pass0 (pa_cons (pe_op op_add (pv 0) (pv 1)) pa_nil))), ?_⟩
    exact ⟨_, rfl, _, rfl, _, _, rfl, rfl, _, rfl, k⟩
theorem sc_minus : FnScope ["y", "z"] ["y", "z"] (defScope s_minus) := sc_mk
theorem ok_minus (T : Txt K mg t) : FnOk P w K mg base CX0 2 t.f_minus t.d_minus ["y", "z"] (spOp 1) := by
  refine T.F_minus.ok sc_minus (fun vs H Q E h => ?_) (fun _ A _ s H vs Q E hr h => ?_)
  · obtain ⟨y, z, rfl, _⟩ := h
    rfl
  · obtain ⟨y, z, rfl, hy, hz, k⟩ := h
    refine ⟨_, pss_one (ps_ret (pe_call (ok_wrapped T) hr rfl T.g_wrapped T.F_wrapped.kp (b_wrapped T) .nil pass0 (pa_cons (pe_op op_sub (pv 0) (pv 1)) pa_nil))), ?_⟩
    exact ⟨_, rfl, _, rfl, _, _, rfl, rfl, _, rfl, k⟩
theorem sc_times : FnScope ["y", "z"] ["y", "z"] (defScope s_times) := sc_mk
theorem ok_times (T : Txt K mg t) : FnOk P w K mg base CX0 2 t.f_times t.d_times ["y", "z"] (spOp 2) := by
  refine T.F_times.ok sc_times (fun vs H Q E h => ?_) (fun _ A _ s H vs Q E hr h => ?_)
  · obtain ⟨y, z, rfl, _⟩ := h
    rfl
  · obtain ⟨y, z, rfl, hy, hz, k⟩ := h
    refine ⟨_, pss_one (ps_ret (pe_call (ok_wrapped T) hr rfl T.g_wrapped T.F_wrapped.kp (b_wrapped T) .nil pass0 (pa_cons (pe_op op_mul (pv 0) (pv 1)) pa_nil))), ?_⟩
    have := hy.1
    have := hy.2
    exact ⟨_, rfl, _, rfl, _, _, rfl, rfl, .inl ⟨by omega, by omega⟩, _, rfl, k⟩
theorem sc_divided : FnScope ["y", "z", "size"] ["y", "z"] (defScope s_divided) := sc_mk
theorem ok_divided (T : Txt K mg t) : FnOk P w K mg base CX0 2 t.f_divided t.d_divided ["y", "z"] (spOp 3) := by
  refine T.F_divided.ok sc_divided (fun vs H Q E h => ?_) (fun _ A _ s H vs Q E hr h => ?_)
  · obtain ⟨y, z, rfl, _⟩ := h
    rfl
  · obtain ⟨y, z, rfl, hy, hz, k⟩ := h
    refine ⟨_, pss_cons (ps_if (pt_cmpR op_eq (pv 1) pe_int (nomark _)) (pss_one (ps_ret pe_int)) pss_nil)
      (pss_cons (ps_set (i := 2) sc_divided.nd rfl (Or.inl rfl) (pe_op op_fdivW (pe_callB call_abs rfl T.n_abs rfl (pa_cons (pv 0) pa_nil)) (pe_callB call_abs rfl T.n_abs rfl (pa_cons (pv 1) pa_nil))))
      (pss_one (ps_ret (pe_call (ok_wrapped T) hr rfl T.g_wrapped T.F_wrapped.kp (b_wrapped T) .nil pass0 (pa_cons (pe_ifExp (pt_cmpR op_eq (pe_cmpR op_lt (pv 0) pe_int (nomark _)) (pe_cmpR op_lt (pv 1) pe_int (nomark _)) (nomark _)) (pv 2) (pe_un un_neg (pv 2))) pa_nil))))), ?_⟩
    refine ⟨_, rfl, rfl, _, rfl, ?_⟩
    refine ite2 (fun c => ?_) (fun c => ?_)
    · have e : z = 0 := by simpa using c
      have e2 : Sz43.reckon 3 y z = 0 := if_pos e
      rw [e2] at k
      exact k
    · have e : z ≠ 0 := by simpa using c
      have b1 := hz.1
      have b2 := hz.2
      refine ⟨_, rfl, _, rfl, _, rfl, _, rfl, _, _, rfl, rfl, ?_, ?_⟩
      · show 0 < (if z < 0 then -z else z) ∧ (if z < 0 then -z else z) ≤ 9223372036854775808
        split <;> omega
      · have e2 : Sz43.reckon 3 y z = Sz43.wrap (Int.tdiv y z) := if_neg e
        rw [e2, tdiv_eq y z e] at k
        refine ⟨_, rfl, _, _, rfl, rfl, _, rfl, _, _, rfl, rfl, rfl, _, rfl, ?_⟩
        refine ite2 (fun c => ?_) (fun c => ?_)
        · rw [if_pos (by simpa using c)] at k
          exact ⟨_, rfl, _, rfl, k⟩
        · rw [if_neg (by simpa using c)] at k
          exact ⟨_, rfl, _, rfl, _, rfl, k⟩
theorem sc_rest : FnScope ["y", "z", "size"] ["y", "z"] (defScope s_rest) := sc_mk
theorem ok_rest (T : Txt K mg t) : FnOk P w K mg base CX0 1 t.f_rest t.d_rest ["y", "z"] (spOp 4) := by
  refine T.F_rest.ok sc_rest (fun vs H Q E h => ?_) (fun _ A _ s H vs Q E hr h => ?_)
  · obtain ⟨y, z, rfl, _⟩ := h
    rfl
  · obtain ⟨y, z, rfl, hy, hz, k⟩ := h
    refine ⟨_, pss_cons (ps_if (pt_cmpR op_eq (pv 1) pe_int (nomark _)) (pss_one (ps_ret (pv 0))) pss_nil)
      (pss_cons (ps_set (i := 2) sc_rest.nd rfl (Or.inl rfl) (pe_op op_mod (pe_callB call_abs rfl T.n_abs rfl (pa_cons (pv 0) pa_nil)) (pe_callB call_abs rfl T.n_abs rfl (pa_cons (pv 1) pa_nil))))
      (pss_one (ps_ret (pe_ifExp (pt_cmpR op_lt (pv 0) pe_int (nomark _)) (pe_un un_neg (pv 2)) (pv 2))))), ?_⟩
    refine ⟨_, rfl, rfl, _, rfl, ?_⟩
    refine ite2 (fun c => ?_) (fun c => ?_)
    · have e : z = 0 := by simpa using c
      have e2 : Sz43.reckon 4 y z = y := if_pos e
      rw [e2] at k
      exact ⟨_, rfl, k⟩
    · have e : z ≠ 0 := by simpa using c
      refine ⟨_, rfl, _, rfl, _, rfl, _, rfl, _, _, rfl, rfl, ?_, ?_⟩
      · show 0 < (if z < 0 then -z else z)
        split <;> omega
      · have e2 : Sz43.reckon 4 y z = Int.tmod y z := if_neg e
        rw [e2, tmod_eq y z] at k
        refine ⟨_, rfl, _, _, rfl, rfl, _, rfl, ?_⟩
        refine ite2 (fun c => ?_) (fun c => ?_)
        · rw [if_pos (by simpa using c)] at k
          exact ⟨_, rfl, _, rfl, k⟩
        · rw [if_neg (by simpa using c)] at k
          exact ⟨_, rfl, k⟩
theorem sc_both_bits : FnScope ["y", "z"] ["y", "z"] (defScope s_both_bits) := sc_mk
theorem ok_both_bits (T : Txt K mg t) : FnOk P w K mg base CX0 1 t.f_both_bits t.d_both_bits ["y", "z"] (spOp 5) := by
  refine T.F_both_bits.ok sc_both_bits (fun vs H Q E h => ?_) (fun _ A _ s H vs Q E hr h => ?_)
  · obtain ⟨y, z, rfl, _⟩ := h
    rfl
  · obtain ⟨y, z, rfl, hy, hz, k⟩ := h
    refine ⟨_, pss_one (ps_ret (pe_op op_and (pv 0) (pv 1))), ?_⟩
    refine ⟨_, rfl, _, rfl, _, _, rfl, rfl, ?_⟩
    show Q (.int (Builtin.bitAnd y z)) H
    rw [← and_eq hy hz, ← rk5]
    exact k
theorem sc_either_bits : FnScope ["y", "z"] ["y", "z"] (defScope s_either_bits) := sc_mk
theorem ok_either_bits (T : Txt K mg t) : FnOk P w K mg base CX0 1 t.f_either_bits t.d_either_bits ["y", "z"] (spOp 6) := by
  refine T.F_either_bits.ok sc_either_bits (fun vs H Q E h => ?_) (fun _ A _ s H vs Q E hr h => ?_)
  · obtain ⟨y, z, rfl, _⟩ := h
    rfl
  · obtain ⟨y, z, rfl, hy, hz, k⟩ := h
    refine ⟨_, pss_one (ps_ret (pe_op op_or (pv 0) (pv 1))), ?_⟩
    refine ⟨_, rfl, _, rfl, _, _, rfl, rfl, ?_⟩
    show Q (.int (Builtin.bitOr y z)) H
    rw [← or_eq hy hz, ← rk6]
    exact k
theorem sc_differing_bits : FnScope ["y", "z"] ["y", "z"] (defScope s_differing_bits) := sc_mk
theorem ok_differing_bits (T : Txt K mg t) : FnOk P w K mg base CX0 1 t.f_differing_bits t.d_differing_bits ["y", "z"] (spOp 7) := by
  refine T.F_differing_bits.ok sc_differing_bits (fun vs H Q E h => ?_) (fun _ A _ s H vs Q E hr h => ?_)
  · obtain ⟨y, z, rfl, _⟩ := h
    rfl
  · obtain ⟨y, z, rfl, hy, hz, k⟩ := h
    refine ⟨_, pss_one (ps_ret (pe_op op_xor (pv 0) (pv 1))), ?_⟩
    refine ⟨_, rfl, _, rfl, _, _, rfl, rfl, ?_⟩
    show Q (.int (Builtin.bitXor y z)) H
    rw [← xor_eq hy hz, ← rk7]
    exact k
theorem sc_shifted_up : FnScope ["y", "z"] ["y", "z"] (defScope s_shifted_up) := sc_mk
theorem ok_shifted_up (T : Txt K mg t) : FnOk P w K mg base CX0 2 t.f_shifted_up t.d_shifted_up ["y", "z"] (spOp 8) := by
  refine T.F_shifted_up.ok sc_shifted_up (fun vs H Q E h => ?_) (fun _ A _ s H vs Q E hr h => ?_)
  · obtain ⟨y, z, rfl, _⟩ := h
    rfl
  · obtain ⟨y, z, rfl, hy, hz, k⟩ := h
    refine ⟨_, pss_one (ps_ret (pe_call (ok_wrapped T) hr rfl T.g_wrapped T.F_wrapped.kp (b_wrapped T) .nil pass0 (pa_cons (pe_op op_shl (pv 0) (pe_op op_and (pv 1) (pe_cint T.c_SHIFT_BITS rfl))) pa_nil))), ?_⟩
    have e : Builtin.bitAnd z 63 = z % 64 := PyProof.Rows.bitAnd_m6 z
    have b1 := hy.1
    have b2 := hy.2
    refine ⟨_, rfl, _, rfl, _, _, rfl, rfl, _, _, rfl, rfl, ?_, _, rfl, ?_⟩
    · show 0 ≤ Builtin.bitAnd z 63 ∧ Builtin.bitAnd z 63 ≤ 1000000 ∧ y.natAbs < 2 ^ 64
      rw [e, p64]
      omega
    · show Q (.int (Sz43.wrap (y * 2 ^ (Builtin.bitAnd z 63).toNat))) H
      rw [e, ← sh_eq]
      exact k
theorem sc_shifted_down : FnScope ["y", "z"] ["y", "z"] (defScope s_shifted_down) := sc_mk
theorem ok_shifted_down (T : Txt K mg t) : FnOk P w K mg base CX0 1 t.f_shifted_down t.d_shifted_down ["y", "z"] (spOp 9) := by
  refine T.F_shifted_down.ok sc_shifted_down (fun vs H Q E h => ?_) (fun _ A _ s H vs Q E hr h => ?_)
  · obtain ⟨y, z, rfl, _⟩ := h
    rfl
  · obtain ⟨y, z, rfl, hy, hz, k⟩ := h
    refine ⟨_, pss_one (ps_ret (pe_op op_shr (pv 0) (pe_op op_and (pv 1) (pe_cint T.c_SHIFT_BITS rfl)))), ?_⟩
    have e : Builtin.bitAnd z 63 = z % 64 := PyProof.Rows.bitAnd_m6 z
    refine ⟨_, rfl, _, rfl, _, _, rfl, rfl, _, _, rfl, rfl, ?_, ?_⟩
    · show 0 ≤ Builtin.bitAnd z 63
      rw [e]
      omega
    · show Q (.int (y / 2 ^ (Builtin.bitAnd z 63).toNat)) H
      rw [e, ← sh_eq]
      have e2 : Sz43.reckon 9 y z = Int.fdiv y (2 ^ (Sz43.bits z % 64)) := rfl
      rw [e2, Int.fdiv_eq_ediv_of_nonneg y (two_pow_nn _)] at k
      exact k
theorem sc_is_less : FnScope ["y", "z"] ["y", "z"] (defScope s_is_less) := sc_mk
theorem ok_is_less (T : Txt K mg t) : FnOk P w K mg base CX0 1 t.f_is_less t.d_is_less ["y", "z"] (spOp 10) := by
  refine T.F_is_less.ok sc_is_less (fun vs H Q E h => ?_) (fun _ A _ s H vs Q E hr h => ?_)
  · obtain ⟨y, z, rfl, _⟩ := h
    rfl
  · obtain ⟨y, z, rfl, hy, hz, k⟩ := h
    refine ⟨_, pss_one (ps_ret (pe_ifExp (pt_cmpR op_lt (pv 0) (pv 1) (nomark _)) pe_int pe_int)), ?_⟩
    refine ⟨_, rfl, _, rfl, _, _, rfl, rfl, _, rfl, ?_⟩
    have e2 : Sz43.reckon 10 y z = if decide (y < z) = true then 1 else 0 := rfl
    rw [e2] at k
    refine ite2 (fun c => ?_) (fun c => ?_)
    · rw [if_pos c] at k
      exact k
    · rw [if_neg c] at k
      exact k
theorem sc_is_same : FnScope ["y", "z"] ["y", "z"] (defScope s_is_same) := sc_mk
theorem ok_is_same (T : Txt K mg t) : FnOk P w K mg base CX0 1 t.f_is_same t.d_is_same ["y", "z"] (spOp 11) := by
  refine T.F_is_same.ok sc_is_same (fun vs H Q E h => ?_) (fun _ A _ s H vs Q E hr h => ?_)
  · obtain ⟨y, z, rfl, _⟩ := h
    rfl
  · obtain ⟨y, z, rfl, hy, hz, k⟩ := h
    refine ⟨_, pss_one (ps_ret (pe_ifExp (pt_cmpR op_eq (pv 0) (pv 1) (nomark _)) pe_int pe_int)), ?_⟩
    refine ⟨_, rfl, _, rfl, rfl, _, rfl, ?_⟩
    have e2 : Sz43.reckon 11 y z = if (y == z) = true then 1 else 0 := rfl
    rw [e2] at k
    refine ite2 (fun c => ?_) (fun c => ?_)
    · rw [if_pos (by simpa using c)] at k
      exact k
    · rw [if_neg (by simpa using c)] at k
      exact k
end
end My

set_option Elab.async false
set_option linter.all false
set_option maxRecDepth 100000
set_option maxHeartbeats 1000000
namespace My
open PySem L2

inductive spSign (f : Nat → Bool) (vs : List V) (H : Hp) (Q : VK) (e0 : XK) : Prop
  | mk (c : Nat) : vs = [.int (c : Int)] → Q (.bl (f c)) H → spSign f vs H Q e0
def nameSign (c : Nat) : Bool := Sz43.letter c || (Sz43.digit c || c == 95)

section
variable {P : Program} {w : World} {K : PySem.W.Frag} {mg : Str → Option Value} {base : Heap} {t : Ad}
theorem sc_is_letter : FnScope ["sign"] ["sign"] (defScope s_is_letter) := sc_mk
theorem ok_is_letter (T : Txt K mg t) : FnOk P w K mg base CX0 1 t.f_is_letter t.d_is_letter ["sign"] (spSign Sz43.letter) := by
  refine T.F_is_letter.ok sc_is_letter (fun vs H Q E h => ?_) (fun _ A _ s H vs Q E hr h => ?_)
  · obtain ⟨c, rfl, _⟩ := h
    rfl
  · obtain ⟨c, rfl, k⟩ := h
    refine ⟨_, pss_one (ps_ret (pe_chain op_le op_le (pe_cint T.c_LETTER_A rfl) (pv 0) (pe_cint T.c_LETTER_Z rfl))), ?_⟩
    refine ⟨_, rfl, _, _, rfl, rfl, _, rfl, ?_⟩
    refine ite2 (fun c1 => ?_) (fun c1 => ?_)
    · refine ⟨_, _, rfl, rfl, ?_⟩
      have c2 : (97 : Int) ≤ c := by simpa using c1
      have e : Sz43.letter c = decide ((c : Int) ≤ 122) := by
        unfold Sz43.letter
        rw [decide_eq_true (show 97 ≤ c by omega), Bool.true_and]
        exact decide_eq_decide.mpr (by omega)
      rw [e] at k
      exact k
    · have c2 : ¬ (97 : Int) ≤ c := by simpa using c1
      have e : Sz43.letter c = false := by
        unfold Sz43.letter
        rw [decide_eq_false (show ¬ 97 ≤ c by omega), Bool.false_and]
      rw [e] at k
      exact k
theorem sc_is_digit : FnScope ["sign"] ["sign"] (defScope s_is_digit) := sc_mk
theorem ok_is_digit (T : Txt K mg t) : FnOk P w K mg base CX0 1 t.f_is_digit t.d_is_digit ["sign"] (spSign Sz43.digit) := by
  refine T.F_is_digit.ok sc_is_digit (fun vs H Q E h => ?_) (fun _ A _ s H vs Q E hr h => ?_)
  · obtain ⟨c, rfl, _⟩ := h
    rfl
  · obtain ⟨c, rfl, k⟩ := h
    refine ⟨_, pss_one (ps_ret (pe_chain op_le op_le (pe_cint T.c_DIGIT_ZERO rfl) (pv 0) (pe_cint T.c_DIGIT_NINE rfl))), ?_⟩
    refine ⟨_, rfl, _, _, rfl, rfl, _, rfl, ?_⟩
    refine ite2 (fun c1 => ?_) (fun c1 => ?_)
    · refine ⟨_, _, rfl, rfl, ?_⟩
      have c2 : (48 : Int) ≤ c := by simpa using c1
      have e : Sz43.digit c = decide ((c : Int) ≤ 57) := by
        unfold Sz43.digit
        rw [decide_eq_true (show 48 ≤ c by omega), Bool.true_and]
        exact decide_eq_decide.mpr (by omega)
      rw [e] at k
      exact k
    · have c2 : ¬ (48 : Int) ≤ c := by simpa using c1
      have e : Sz43.digit c = false := by
        unfold Sz43.digit
        rw [decide_eq_false (show ¬ 48 ≤ c by omega), Bool.false_and]
      rw [e] at k
      exact k
theorem sc_is_name_sign : FnScope ["sign"] ["sign"] (defScope s_is_name_sign) := sc_mk
theorem ok_is_name_sign (T : Txt K mg t) : FnOk P w K mg base CX0 2 t.f_is_name_sign t.d_is_name_sign ["sign"] (spSign nameSign) := by
  refine T.F_is_name_sign.ok sc_is_name_sign (fun vs H Q E h => ?_) (fun _ A _ s H vs Q E hr h => ?_)
  · obtain ⟨c, rfl, _⟩ := h
    rfl
  · obtain ⟨c, rfl, k⟩ := h
    refine ⟨_, pss_one (ps_ret (pe_or (pe_call (ok_is_letter T) hr rfl T.g_is_letter T.F_is_letter.kp (b_is_letter T) .nil pass0 (pa_cons (pv 0) pa_nil))
      (pe_or (pe_call (ok_is_digit T) hr rfl T.g_is_digit T.F_is_digit.kp (b_is_digit T) .nil pass0 (pa_cons (pv 0) pa_nil)) (pe_one (pe_cmpR op_eq (pv 0) (pe_cint T.c_UNDERSCORE rfl) (nomark _)))))), ?_⟩
    refine ⟨_, rfl, c, rfl, _, rfl, ?_⟩
    unfold nameSign at k
    refine ite2 (fun c1 => ?_) (fun c1 => ?_)
    · rw [c1, Bool.true_or] at k
      exact k
    · rw [Bool.not_eq_true] at c1
      rw [c1, Bool.false_or] at k
      refine ⟨_, rfl, c, rfl, _, rfl, ?_⟩
      refine ite2 (fun c1 => ?_) (fun c1 => ?_)
      · rw [c1, Bool.true_or] at k
        exact k
      · rw [Bool.not_eq_true] at c1
        rw [c1, Bool.false_or] at k
        refine ⟨_, rfl, rfl, ?_⟩
        have e : (c == 95) = decide (V.int (c : Int) = V.int 95) := by
          rw [Bool.eq_iff_iff]
          simp
          omega
        rw [e] at k
        exact k

/-- the text a str stands for, its signs as numbers -/
inductive spSpelled (vs : List V) (H : Hp) (Q : VK) (e0 : XK) : Prop
  | mk (x : Str) : vs = [.str x] → x.cps.size ≤ 100 → (∀ p H', Same H H' → H p = none → H' p = some (.tup (iw x.cps.toList)) → Q (.ref p) H') → spSpelled vs H Q e0
theorem yields_str {x : Str} {H : Hp} : Yields (Its x) H (x.cps.toList.map fun (c : Nat) => V.str ⟨#[c]⟩) := by
  refine ⟨fun i hi => ?_, ?_⟩
  · have hn : i < x.cps.size := by simpa using hi
    refine ⟨hn, fun y H' ⟨e, c, ec, ev⟩ => ⟨e, ?_⟩⟩
    rw [ev, List.getElem_map, Array.getElem_toList]
    rw [Array.getElem?_eq_getElem hn] at ec
    rw [Option.some.inj ec]
  · show x.cps.size ≤ _
    simp
theorem sc_spelled : FnScope ["text", "sign"] ["text"] (defScope s_spelled) := sc_mk
theorem ok_spelled (T : Txt K mg t) : FnOk P w K mg base CX0 1 t.f_spelled t.d_spelled ["text"] spSpelled := by
  refine T.F_spelled.ok sc_spelled (fun vs H Q E h => ?_) (fun _ A _ s H vs Q E hr h => ?_)
  · obtain ⟨c, rfl, _⟩ := h
    rfl
  · obtain ⟨x, rfl, hx, k⟩ := h
    refine ⟨_, pss_one (ps_ret (pe_callTy call_tuple_of rfl T.n_tuple rfl (pa_cons (pe_lc (own := [("sign", 1)]) rfl sc_spelled.nd (pi_str (pv 0)) ?b (fun s H C cl fp => pg_name (i := 1) sc_spelled.nd rfl (Or.inl rfl)) (fun s H C cl fp => pts_nil) (fun s H C cl fp => pe_callB call_ord rfl T.n_ord rfl (pa_cons (pv 1) pa_nil))) pa_nil))), ?_⟩
    · show BlkOk ["text", "sign"] (defScope s_spelled) _ _
      exact ⟨rfl, by decide +kernel, by decide +kernel, by decide +kernel, by decide +kernel⟩
    · refine ⟨_, rfl, x, rfl, fun D hD => ?_⟩
      refine lc_flat (xs := x.cps.toList.map fun (c : Nat) => V.str ⟨#[c]⟩) (fun v => match v with | .str z => .int ((z.cps.getD 0 0 : Nat) : Int) | v => v) hD (by rw [List.length_map, Array.length_toList, sizeLine_eq]; omega) (fun H _ => yields_str) (fun y => rfl) ?_ ?_
      · intro i y H1 hy sm Q' k'
        rw [List.getElem?_map] at hy
        obtain ⟨c, hc, rfl⟩ := Option.map_eq_some_iff.mp hy
        refine ⟨_, rfl, _, rfl, rfl, ?_⟩
        exact k' H1 (Same.refl _)
      · intro H1 sm hL
        refine ⟨D, _, rfl, .inl ⟨SqL.of hL, fun p hp => ?_⟩⟩
        refine k p _ (fun b o e => ?_) (sm.free hp) ?_
        · rw [upd_ne (ne_of_none (sm b o e) hp)]
          exact sm b o e
        · rw [upd_same, List.map_map]
          rfl
end
end My

set_option Elab.async false
set_option linter.all false
set_option maxRecDepth 100000
set_option maxHeartbeats 1000000
namespace My
open PySem L2
/-- words, each spelled of a text -/
theorem words_paired {H : Hp} {D : Addr} : ∀ {zs : List Str} {ys : List V}, Paired (fun x y => ∃ z p, x = V.str z ∧ y = V.ref p ∧ p ≠ D ∧ H p = some (.tup (iw z.cps.toList))) (zs.map V.str) ys →
    ∃ ps, ys = ps.map V.ref ∧ WordsAt H ps (zs.map fun z => z.cps.toList)
  | [], _, .nil => ⟨[], rfl, .nil⟩
  | z :: zs, _, .cons ⟨z', p, e1, e2, _, hp⟩ r => by
    cases e1
    obtain ⟨ps, e, h⟩ := words_paired r
    exact ⟨p :: ps, by rw [e2, e]; rfl, .cons hp h⟩
def notNames : List Str := ["label", "goto", "if", "print", "read", "end"]
theorem kept_eq : notNames.map (fun z => z.cps.toList) = Sz43.kept := by decide +kernel
inductive spIsName (vs : List V) (H : Hp) (Q : VK) (e0 : XK) : Prop
  | mk (p : Addr) (w : List Nat) : vs = [.ref p] → H p = some (.tup (iw w)) → w ≠ [] → (∀ H', Same H H' → Q (.bl (Sz43.isName w)) H') → spIsName vs H Q e0
section
variable {P : Program} {w : World} {K : PySem.W.Frag} {mg : Str → Option Value} {base : Heap} {t : Ad}
theorem iw_get {w : List Nat} {i : Nat} {x : V} (h : (iw w)[i]? = some x) : ∃ c : Nat, w[i]? = some c ∧ x = .int (c : Int) := by
  unfold iw at h
  rw [List.getElem?_map] at h
  obtain ⟨c, hc, rfl⟩ := Option.map_eq_some_iff.mp h
  exact ⟨c, hc, rfl⟩
theorem iw_at0 {w : List Nat} {c : Nat} {r : List Nat} (h : w = c :: r) : atI (iw w) 0 = some (.int (c : Int)) := by
  subst h
  exact atI_nat (j := 0) (xs := iw (c :: r)) rfl
theorem sc_is_name : FnScope ["word", "text", "sign"] ["word"] (defScope s_is_name) := sc_mk
theorem ok_is_name (T : Txt K mg t) : FnOk P w K mg base CX0 3 t.f_is_name t.d_is_name ["word"] spIsName := by
  refine T.F_is_name.ok sc_is_name (fun vs H Q E h => ?_) (fun _ A _ s H vs Q E hr h => ?_)
  · obtain ⟨p, w, rfl, _⟩ := h
    rfl
  · obtain ⟨p, u, rfl, hp, hn, k⟩ := h
    have hr1 := hr.mono (show 1 ≤ 2 by decide)
    refine ⟨_, pss_cons (ps_if (PW.pt (pw_or (pt_cmpR op_gt (pe_callB call_len_seq rfl T.n_len PySem.boot_len (pa_cons (pv 0) pa_nil)) (pe_cint T.c_LONGEST_NAME rfl) (nomark _)) (pw_or1 (pt_not (pt_val (pe_call (ok_is_letter T) hr1 rfl T.g_is_letter T.F_is_letter.kp (b_is_letter T) .nil pass0 (pa_cons (pe_ix ix_tup (pv 0) pe_int (fun _ _ => rfl)) pa_nil))))))) (pss_one (ps_ret pe_bl)) pss_nil)
      (pss_cons (ps_if (pt_cmpR (op_inW hr.units) (pv 0) (pe_lc (own := [("text", 1)]) rfl sc_is_name.nd (pi_tup (pe_glob (v := .ref t.a_NOT_NAMES) rfl T.g_NOT_NAMES rfl)) ?b1 (fun s H C cl fp => pg_name (i := 1) sc_is_name.nd rfl (Or.inl rfl)) (fun s H C cl fp => pts_nil) (fun s H C cl fp => pe_call (ok_spelled T) hr1 rfl T.g_spelled T.F_spelled.kp (b_spelled T) .nil pass0 (pa_cons (pv 1) pa_nil))) (by with_unfolding_all rfl)) (pss_one (ps_ret pe_bl)) pss_nil)
      (pss_one (ps_ret (pe_callB (cr_all rfl) rfl T.n_all rfl (pa_cons (pe_lc (own := [("sign", 2)]) rfl sc_is_name.nd (pi_tup (pv 0)) ?b2 (fun s H C cl fp => pg_name (i := 2) sc_is_name.nd rfl (Or.inl rfl)) (fun s H C cl fp => pts_nil) (fun s H C cl fp => pe_call (ok_is_name_sign T) hr rfl T.g_is_name_sign T.F_is_name_sign.kp (b_is_name_sign T) .nil pass0 (pa_cons (pv 2) pa_nil))) pa_nil))))), ?_⟩
    · show BlkOk ["word", "text", "sign"] (defScope s_is_name) _ _
      exact ⟨rfl, by decide +kernel, by decide +kernel, by decide +kernel, by decide +kernel⟩
    · show BlkOk ["word", "text", "sign"] (defScope s_is_name) _ _
      exact ⟨rfl, by decide +kernel, by decide +kernel, by decide +kernel, by decide +kernel⟩
    · obtain ⟨c, r, rfl⟩ : ∃ c r, u = c :: r := by
        cases u with
        | nil => exact absurd rfl hn
        | cons c r => exact ⟨c, r, rfl⟩
      have hT : SqT K H p (iw (c :: r)) := SqT.of hp
      unfold Sz43.isName at k
      refine ⟨_, rfl, p, _, rfl, .inr hT, _, _, rfl, rfl, _, rfl, ?_⟩
      refine ite2 (fun c1 => ?_) (fun c1 => ?_)
      · have e : ¬ (c :: r).length ≤ 16 := by
          have c1 := of_decide_eq_true c1
          rw [iw_len] at c1
          omega
        rw [decide_eq_false e, Bool.false_and] at k
        exact iteT (k H (Same.refl H))
      have l16 : (c :: r).length ≤ 16 := by
        have c1 := of_decide_eq_false ((Bool.not_eq_true _).mp c1)
        rw [iw_len] at c1
        omega
      refine ⟨_, rfl, p, _, _, _, rfl, rfl, hT, iw_at0 rfl, c, rfl, _, rfl, ?_⟩
      refine ite2 (fun c1 => ?_) (fun c1 => ?_)
      · have e : Sz43.letter c = false := by simpa using c1
        have e2 : (c :: r).head?.any Sz43.letter = false := e
        rw [e2, Bool.false_and, Bool.and_false] at k
        exact k H (Same.refl H)
      have e : Sz43.letter c = true := by simpa using c1
      have e2 : (c :: r).head?.any Sz43.letter = true := e
      rw [e2, Bool.true_and, decide_eq_true l16, Bool.true_and] at k
      refine ⟨_, rfl, t.a_NOT_NAMES, rfl, ⟨_, T.q_NOT_NAMES H⟩, fun D hD => ?_⟩
      refine lc_by (xs := notNames.map V.str) (fun x y H => ∃ z p, x = V.str z ∧ y = V.ref p ∧ p ≠ D ∧ H p = some (.tup (iw z.cps.toList))) hD (by decide) ?_ (fun H1 _ => yields_tup (T.q_NOT_NAMES H1)) (fun y => rfl) ?_ ?_
      · rintro x y H1 H2 ⟨z, q, e1, e2, e3, e4⟩ hh
        exact ⟨z, q, e1, e2, e3, hh _ _ e3 e4⟩
      · intro i y H1 hy sm ⟨acc, hacc⟩ Q' k'
        rw [List.getElem?_map] at hy
        obtain ⟨z, hz, rfl⟩ := Option.map_eq_some_iff.mp hy
        have hm : ∀ z ∈ notNames, z.cps.size ≤ 100 := by decide +kernel
        refine ⟨_, rfl, z, rfl, hm z (List.mem_of_getElem? hz), fun q H2 s2 f2 e2 => ?_⟩
        exact k' _ _ s2 ⟨z, q, rfl, rfl, (ne_of_none hacc f2).symm, e2⟩
      · intro ys H1 sm hL pr
        obtain ⟨ps, rfl, hw⟩ := words_paired pr
        rw [kept_eq] at hw
        refine ⟨p, D, ps, _, _, rfl, rfl, sm _ _ hp, SqL.of hL, hw, _, rfl, ?_⟩
        refine ite2 (fun c1 => ?_) (fun c1 => ?_)
        · rw [c1, Bool.not_true, Bool.and_false] at k
          exact k H1 sm
        rw [(Bool.not_eq_true _).mp c1, Bool.not_false, Bool.and_true] at k
        refine ⟨_, rfl, p, rfl, ⟨_, sm.sqT hT⟩, fun D2 hD2 => ?_⟩
        refine lc_flat (xs := iw (c :: r)) (fun v => match v with | .int z => .bl (nameSign z.toNat) | v => v) hD2 (by rw [iw_len, sizeLine_eq]; omega) (fun H2 s2 => yields_tup ((sm.trans s2).sqT hT)) (fun y => rfl) ?_ ?_
        · intro i y H2 hy s2 Q' k'
          obtain ⟨d, hd, rfl⟩ := iw_get hy
          exact ⟨_, rfl, d, rfl, k' H2 (Same.refl _)⟩
        · intro H2 s2 hL2
          refine ⟨D2, (c :: r).map nameSign, rfl, ?_, ?_⟩
          · refine SqL.of (hL2.trans ?_)
            unfold iw
            rw [List.map_map, List.map_map]
            rfl
          · have e3 : ((c :: r).map nameSign).all id = (c :: r).all (fun (c : Nat) => Sz43.letter c || (Sz43.digit c || c == 95)) := by
              rw [List.all_map]
              rfl
            rw [e3]
            exact k H2 (sm.trans s2)
end
end My

set_option Elab.async false
set_option linter.all false
set_option maxRecDepth 100000
set_option maxHeartbeats 1000000
namespace My
open PySem L2
def ofOpt : Option Int → V
  | some z => .int z
  | none => .non
def numFold (ds : List Nat) : Nat := ds.foldl (fun (n c : Nat) => 10 * n + (c - 48)) 0
def numM (neg : Bool) (ds : List Nat) : Option Int := (Sz43.natOf ds).bind fun n => let z : Int := if neg = true then -(n : Int) else n
  if -9223372036854775808 ≤ z ∧ z < 9223372036854775808 then some z else none
theorem numM_neg (r : List Nat) : Sz43.numberOf (45 :: r) = numM true r := by
  unfold numM
  show (Sz43.natOf r).bind _ = _
  cases Sz43.natOf r with
  | none => rfl
  | some n =>
    show (if n ≤ 2 ^ 63 then some (-(n : Int)) else none) = (if -9223372036854775808 ≤ -(n : Int) ∧ -(n : Int) < 9223372036854775808 then some (-(n : Int)) else none)
    have e : (2 : Nat) ^ 63 = 9223372036854775808 := by decide
    rw [e]
    by_cases h : n ≤ 9223372036854775808
    · rw [if_pos h, if_pos (by omega)]
    · rw [if_neg h, if_neg (by omega)]
theorem numM_pos (w : List Nat) (h : ∀ r, w ≠ 45 :: r) : Sz43.numberOf w = numM false w := by
  have e0 : Sz43.numberOf w = (Sz43.natOf w).bind fun n => if n < 2 ^ 63 then some (n : Int) else none := by
    unfold Sz43.numberOf
    split
    · exact absurd rfl (h _)
    · rfl
  rw [e0]
  unfold numM
  cases Sz43.natOf w with
  | none => rw [Option.bind_none, Option.bind_none]
  | some n =>
    rw [Option.bind_some, Option.bind_some]
    show (if n < 2 ^ 63 then some (n : Int) else none) = (if -9223372036854775808 ≤ (n : Int) ∧ (n : Int) < 9223372036854775808 then some (n : Int) else none)
    have e : (2 : Nat) ^ 63 = 9223372036854775808 := by decide
    rw [e]
    by_cases h : n < 9223372036854775808
    · rw [if_pos h, if_pos (by omega)]
    · rw [if_neg h, if_neg (by omega)]
theorem numFold_step (ds : List Nat) (c : Nat) : numFold (ds ++ [c]) = 10 * numFold ds + (c - 48) := by
  unfold numFold
  rw [List.foldl_append]
  rfl
inductive spNumber (vs : List V) (H : Hp) (Q : VK) (e0 : XK) : Prop
  | mk (p : Addr) (w : List Nat) : vs = [.ref p] → H p = some (.tup (iw w)) → w ≠ [] → (∀ H', Same H H' → Q (ofOpt (Sz43.numberOf w)) H') → spNumber vs H Q e0
theorem cut_drop (w : List Nat) (h : w ≠ []) : cutV (iw w) (some 1) none = iw (w.drop 1) := by
  unfold cutV HT.sIx
  cases w with
  | nil => exact absurd rfl h
  | cons c r =>
    have e : min (Int.toNat 1) (iw (c :: r)).length = 1 := by rw [iw_len, List.length_cons]; show min 1 _ = 1; omega
    simp only [show ¬ ((1 : Int) < 0) by decide, if_false]
    rw [e, List.drop_one]
    show List.take _ (iw r) = iw r
    rw [List.take_of_length_le]
    rw [iw_len, iw_len, List.length_cons]
    omega
theorem iteK {c : Bool} {A B : VK → Prop} {Qk : VK} (R : Addr → Hp → Prop) (hA : c = true → (∀ dp H1, R dp H1 → Qk (.ref dp) H1) → A Qk) (hB : c = false → (∀ dp H1, R dp H1 → Qk (.ref dp) H1) → B Qk) (k : ∀ dp H1, R dp H1 → Qk (.ref dp) H1) :
    if c = true then A Qk else B Qk := by
  cases c with
  | true => exact iteT (hA rfl k)
  | false => exact iteF (hB rfl k)
theorem iteN {c : Bool} {A B : VK → Prop} {Qk : VK} {H : Hp} {z : Int} (hA : c = true → Qk (.int z) H → A Qk) (hB : c = false → Qk (.int z) H → B Qk) (k : Qk (.int z) H) : if c = true then A Qk else B Qk := by
  cases c with
  | true => exact iteT (hA rfl k)
  | false => exact iteF (hB rfl k)
section
variable {P : Program} {w : World} {K : PySem.W.Frag} {mg : Str → Option Value} {base : Heap} {t : Ad}
theorem sc_number_of : FnScope ["word", "below_zero", "digits", "size", "sign", "number"] ["word"] (defScope s_number_of) := sc_mk
theorem ok_number_of (T : Txt K mg t) : FnOk P w K mg base CX0 2 t.f_number_of t.d_number_of ["word"] spNumber := by
  refine T.F_number_of.ok sc_number_of (fun vs H Q E h => ?_) (fun _ A _ s H vs Q E hr h => ?_)
  · obtain ⟨p, w, rfl, _⟩ := h
    rfl
  · obtain ⟨p, u, rfl, hp, hn, k⟩ := h
    have nd := sc_number_of.nd
    refine ⟨_, pss_cons (ps_set (i := 1) nd rfl (Or.inl rfl) (pe_cmpR op_eq (pe_ix ix_tup (pv 0) pe_int (fun _ _ => rfl)) (pe_cint T.c_MINUS rfl) (nomark _)))
      (pss_cons (ps_set (i := 2) nd rfl (Or.inl rfl) (pe_ifExp (pt_val (pv 1)) (pe_slice sl_tup (pv 0) (po_some pe_int) po_none) (pv 0)))
      (pss_cons (ps_if (pt_not (pt_chain op_le op_le pe_int (pe_callB call_len_seq rfl T.n_len PySem.boot_len (pa_cons (pv 2) pa_nil)) (pe_cint T.c_MOST_DIGITS rfl))) (pss_one (ps_ret pe_non)) pss_nil)
      (pss_cons (ps_if (pt_not (pt_val (pe_callB (cr_all rfl) rfl T.n_all rfl (pa_cons (pe_lc (own := [("sign", 4)]) rfl nd (pi_tup (pv 2)) ?b1 (fun s H C cl fp => pg_name (i := 4) nd rfl (Or.inl rfl)) (fun s H C cl fp => pts_nil) (fun s H C cl fp => pe_call (ok_is_digit T) hr rfl T.g_is_digit T.F_is_digit.kp (b_is_digit T) .nil pass0 (pa_cons (pv 4) pa_nil))) pa_nil)))) (pss_one (ps_ret pe_non)) pss_nil)
      (pss_cons (ps_set (i := 3) nd rfl (Or.inl rfl) pe_int)
      (pss_cons (ps_for PassesOwn.never rfl (pi_tup (pv 2)) (pg_name (i := 4) nd rfl (Or.inl rfl)) (pss_one (ps_set (i := 3) nd rfl (Or.inl rfl) (pe_op op_sub (pe_op op_add (pe_op op_mul (pv 3) pe_int) (pv 4)) (pe_cint T.c_DIGIT_ZERO rfl)))))
      (pss_cons (ps_set (i := 5) nd rfl (Or.inl rfl) (pe_ifExp (pt_val (pv 1)) (pe_un un_neg (pv 3)) (pv 3)))
      (pss_cons (ps_if (pt_chain op_le op_lt (pe_un un_neg (pe_cint T.c_NUMBERS_BELOW_ZERO rfl)) (pv 5) (pe_cint T.c_NUMBERS_BELOW_ZERO rfl)) (pss_one (ps_ret (pv 5))) pss_nil)
      (pss_one (ps_ret pe_non))))))))), ?_⟩
    · show BlkOk ["word", "below_zero", "digits", "size", "sign", "number"] (defScope s_number_of) _ _
      exact ⟨rfl, by decide +kernel, by decide +kernel, by decide +kernel, by decide +kernel⟩
    · obtain ⟨c, r, rfl⟩ : ∃ c r, u = c :: r := by
        cases u with
        | nil => exact absurd rfl hn
        | cons c r => exact ⟨c, r, rfl⟩
      have hT : SqT K H p (iw (c :: r)) := SqT.of hp
      obtain ⟨neg, en⟩ : ∃ neg, neg = decide (V.int (c : Int) = V.int 45) := ⟨_, rfl⟩
      obtain ⟨ds, ed⟩ : ∃ ds, ds = if neg = true then r else c :: r := ⟨_, rfl⟩
      have eN : Sz43.numberOf (c :: r) = numM neg ds := by
        cases neg with
        | true =>
          have e : c = 45 := by
            have := of_decide_eq_true en.symm
            injection this with this
            omega
          rw [ed, if_pos rfl, e]
          exact numM_neg r
        | false =>
          have e : c ≠ 45 := fun z => of_decide_eq_false en.symm (by rw [z]; rfl)
          rw [ed, if_neg Bool.false_ne_true]
          exact numM_pos _ fun q z => e (List.cons.inj z).1
      rw [eN] at k
      refine ⟨_, rfl, p, _, _, _, rfl, rfl, hT, iw_at0 rfl, rfl, ?_⟩
      rw [← en]
      refine ⟨_, rfl, _, rfl, ?_⟩
      refine iteK (fun dp H1 => Same H H1 ∧ SqT K H1 dp (iw ds)) (fun cn kk => ?_) (fun cn kk => ?_) ?_
      · refine ⟨_, rfl, _, rfl, p, _, rfl, hT, ?_, fun q hq => ?_⟩
        · intro ⟨z, _⟩
          have z' : min 1 (iw (c :: r)).length = 0 := z
          rw [iw_len, List.length_cons] at z'
          omega
        · refine kk q _ ⟨Same.new hq, ?_⟩
          rw [ed, if_pos cn]
          refine SqT.of (upd_same.trans ?_)
          rw [cut_drop _ hn]
          rfl
      · refine ⟨_, rfl, kk p H ⟨Same.refl H, ?_⟩⟩
        rw [ed, cn, if_neg Bool.false_ne_true]
        exact hT
      · rintro dp H1 ⟨s1, hd⟩
        have none_of : (ds = [] ∨ 19 < ds.length ∨ ds.all Sz43.digit = false) → numM neg ds = none := fun h => by
          unfold numM Sz43.natOf
          rw [if_pos h, Option.bind_none]
        refine ⟨_, rfl, dp, _, rfl, .inr hd, _, _, rfl, rfl, _, rfl, ?_⟩
        refine ite2 (fun c1 => ?_) (fun c1 => ?_)
        · refine ⟨_, _, rfl, rfl, _, rfl, ?_⟩
          have c1 := of_decide_eq_true c1
          rw [iw_len] at c1
          refine ite2 (fun c2 => ?_) (fun c2 => ?_)
          · have e : 19 < ds.length := by
              rw [iw_len] at c2
              have := of_decide_eq_false (Bool.not_eq_true' _ ▸ c2)
              omega
            rw [none_of (.inr (.inl e))] at k
            exact k H1 s1
          · have l19 : ds.length ≤ 19 := by
              rw [iw_len] at c2
              have : ¬ ¬ ((ds.length : Int) ≤ 19) := fun z => c2 (by rw [decide_eq_false z]; rfl)
              omega
            refine ⟨_, rfl, dp, rfl, ⟨_, hd⟩, fun D hD => ?_⟩
            refine lc_flat (xs := iw ds) (fun v => match v with | .int z => .bl (Sz43.digit z.toNat) | v => v) hD (by rw [iw_len, sizeLine_eq]; omega) (fun H2 s2 => yields_tup (s2.sqT hd)) (fun y => rfl) ?_ ?_
            · intro i y H2 hy s2 Q' k'
              obtain ⟨d, hd, rfl⟩ := iw_get hy
              exact ⟨_, rfl, d, rfl, k' H2 (Same.refl _)⟩
            · intro H2 s2 hL2
              refine ⟨D, ds.map Sz43.digit, rfl, ?_, ?_⟩
              · refine SqL.of (hL2.trans ?_)
                unfold iw
                rw [List.map_map, List.map_map]
                rfl
              have e3 : (ds.map Sz43.digit).all id = ds.all Sz43.digit := by
                rw [List.all_map]
                rfl
              rw [e3]
              refine ⟨_, rfl, ?_⟩
              refine ite2 (fun c3 => ?_) (fun c3 => ?_)
              · rw [none_of (.inr (.inr (by simpa using c3)))] at k
                exact k H2 (s1.trans s2)
              have dg : ds.all Sz43.digit = true := by simpa using c3
              have eS : Sz43.natOf ds = some (numFold ds) := by
                unfold Sz43.natOf
                rw [if_neg]
                · rfl
                · rintro (h | h | h)
                  · rw [h] at c1
                    simp at c1
                  · omega
                  · rw [dg] at h
                    cases h
              have hd2 := s2.sqT hd
              refine ⟨_, rfl, dp, rfl, ⟨_, hd2⟩, for_tup (K := K) (a := dp) (xs := iw ds) (fun i σ H3 => ∃ v, σ = [some (.ref p), some (.bl neg), some (.ref dp), some (.int (numFold (ds.take i) : Nat)), v, none] ∧ H3 = H2) ⟨_, rfl, rfl⟩ (fun i σ H3 _ ⟨_, _, e⟩ => by rw [e]; exact hd2) ?_ ?_⟩
              · rintro i y σ H3 hy ⟨v, rfl, rfl⟩
                obtain ⟨d, hdd, rfl⟩ := iw_get hy
                refine ⟨_, rfl, _, _, rfl, rfl, .inr ⟨by decide, by decide⟩, _, rfl, _, _, rfl, rfl, _, _, rfl, rfl, ?_⟩
                have g48 : 48 ≤ d := by
                  have := List.all_eq_true.mp dg d (List.mem_of_getElem? hdd)
                  unfold Sz43.digit at this
                  simp at this
                  omega
                have e4 : numFold (ds.take (i + 1)) = 10 * numFold (ds.take i) + (d - 48) := by
                  rw [List.take_add_one, hdd]
                  exact numFold_step _ _
                have e5 : ((numFold (ds.take i) : Nat) : Int) * 10 + d - 48 = ((numFold (ds.take (i + 1)) : Nat) : Int) := by
                  rw [e4]
                  omega
                exact ⟨some (.int d), congrArg (fun q => [some (V.ref p), some (V.bl neg), some (V.ref dp), some (V.int q), some (V.int d), none]) e5, rfl⟩
              · rintro σ H3 ⟨v, rfl, rfl⟩
                rw [iw_len, List.take_length]
                unfold numM at k
                rw [eS, Option.bind_some] at k
                refine ⟨_, rfl, _, rfl, ?_⟩
                refine iteN (z := if neg = true then -((numFold ds : Nat) : Int) else ((numFold ds : Nat) : Int)) (fun cn kk => ⟨_, rfl, _, rfl, by rw [if_pos cn] at kk; exact kk⟩) (fun cn kk => ⟨_, rfl, by rw [if_neg (by rw [cn]; exact Bool.false_ne_true)] at kk; exact kk⟩) ?_
                generalize (if neg = true then -((numFold ds : Nat) : Int) else ((numFold ds : Nat) : Int)) = z at k
                refine ⟨_, rfl, _, rfl, _, _, rfl, rfl, _, rfl, ?_⟩
                refine ite2 (fun c4 => ?_) (fun c4 => ?_)
                · have c4 := of_decide_eq_true c4
                  refine ⟨_, _, rfl, rfl, _, rfl, ?_⟩
                  refine ite2 (fun c5 => ?_) (fun c5 => ?_)
                  · have c5 := of_decide_eq_true c5
                    simp only [if_pos (show -9223372036854775808 ≤ z ∧ z < 9223372036854775808 from ⟨c4, c5⟩)] at k
                    exact ⟨_, rfl, k H3 (s1.trans s2)⟩
                  · have c5 : ¬ z < 9223372036854775808 := by simpa using c5
                    simp only [if_neg (show ¬ (-9223372036854775808 ≤ z ∧ z < 9223372036854775808) from fun q => c5 q.2)] at k
                    exact k H3 (s1.trans s2)
                · have c4 : ¬ -9223372036854775808 ≤ z := by simpa using c4
                  simp only [if_neg (show ¬ (-9223372036854775808 ≤ z ∧ z < 9223372036854775808) from fun q => c4 q.1)] at k
                  refine ⟨_, rfl, ?_⟩
                  exact iteF (k H3 (s1.trans s2))
        · have c1 : ¬ (1 : Int) ≤ (iw ds).length := by simpa using c1
          rw [iw_len] at c1
          have e : ds = [] := by
            cases ds with
            | nil => rfl
            | cons a b =>
              rw [List.length_cons] at c1
              omega
          rw [none_of (.inl e)] at k
          refine ⟨_, rfl, ?_⟩
          exact iteT (k H1 s1)
end
end My

set_option Elab.async false
set_option linter.all false
set_option maxRecDepth 100000
set_option maxHeartbeats 1000000
namespace My
open PySem L2
theorem emod_le {a d : Int} (h : 0 ≤ a) (hd : 0 < d) : a % d ≤ a := by
  have h1 := Int.emod_add_mul_ediv a d
  have h2 := Int.mul_nonneg (show 0 ≤ d by omega) (Int.ediv_nonneg h (show 0 ≤ d by omega))
  omega
theorem reckon_in {k : Nat} {y z : Int} (hy : I64 y) (hz : I64 z) : I64 (Sz43.reckon k y z) := by
  have tr : ∀ b, I64 (Sz43.truth b) := fun b => by
    unfold Sz43.truth I64
    split <;> omega
  match k with
  | 0 => exact wrap_in _
  | 1 => exact wrap_in _
  | 2 => exact wrap_in _
  | 3 =>
    show I64 (if z = 0 then 0 else Sz43.wrap (Int.tdiv y z))
    split
    · unfold I64
      omega
    · exact wrap_in _
  | 4 =>
    show I64 (if z = 0 then y else Int.tmod y z)
    split
    · exact hy
    · rename_i h
      have e := tmod_eq y z
      unfold I64 at *
      unfold ab at e
      rw [e]
      have h2 : (if z < 0 then -z else z) > 0 := by split <;> omega
      generalize (if z < 0 then -z else z) = d at *
      split
      · rename_i hn
        have := Int.emod_nonneg (-y) (show d ≠ 0 by omega)
        have h3 := emod_le (show 0 ≤ -y by omega) (show 0 < d by omega)
        omega
      · have := Int.emod_nonneg y (show d ≠ 0 by omega)
        have h3 := emod_le (show 0 ≤ y by omega) (show 0 < d by omega)
        omega
  | 5 => rw [rk5]; exact wrap_in _
  | 6 => rw [rk6]; exact wrap_in _
  | 7 => rw [rk7]; exact wrap_in _
  | 8 => exact wrap_in _
  | 9 =>
    show I64 (Int.fdiv y (2 ^ (Sz43.bits z % 64)))
    rw [Int.fdiv_eq_ediv_of_nonneg y (two_pow_nn _)]
    have hp : (0 : Int) < 2 ^ (Sz43.bits z % 64) := Int.pow_pos (by decide)
    unfold I64 at *
    generalize (2 : Int) ^ (Sz43.bits z % 64) = d at *
    by_cases h : 0 ≤ y
    · have h1 := Int.ediv_nonneg h (show 0 ≤ d by omega)
      have h2 := Int.ediv_le_self d h
      omega
    · have h1 := Int.ediv_neg_of_neg_of_pos (show y < 0 by omega) hp
      have h2 : y ≤ y / d := (Int.le_ediv_iff_mul_le hp).mpr (by
        have := Int.mul_le_mul_of_nonpos_left (show y ≤ 0 by omega) (show 1 ≤ d by omega)
        omega)
      omega
  | 10 => exact tr _
  | n + 11 => exact tr _
def opAd (t : Ad) : List Addr := [t.f_plus, t.f_minus, t.f_times, t.f_divided, t.f_rest, t.f_both_bits, t.f_either_bits, t.f_differing_bits, t.f_shifted_up, t.f_shifted_down, t.f_is_less, t.f_is_same]
def opKs (t : Ad) : List Addr := [t.k_plus, t.k_minus, t.k_times, t.k_divided, t.k_rest, t.k_both_bits, t.k_either_bits, t.k_differing_bits, t.k_shifted_up, t.k_shifted_down, t.k_is_less, t.k_is_same]
theorem ops_eq (t : Ad) : opsXs t = (Sz43.ops.zip ((opKs t).zip (opAd t))).map fun x => (kw x.1, x.2.1, Value.ref x.2.2) := by
  have e : Sz43.ops = [[43], [45], [42], [47], [37], [38], [124], [94], [60, 60], [62, 62], [60], [61, 61]] := by decide +kernel
  rw [e]
  rfl
theorem atKey_zip (w : List Nat) : ∀ (os : List (List Nat)) (ps fs : List Addr), ps.length = os.length → fs.length = os.length →
    atKey ((os.zip (ps.zip fs)).map fun x => (kw x.1, x.2.1, Value.ref x.2.2)) (kw w) = (os.findIdx? fun x => x == w).bind fun i => (ps[i]?).bind fun p => (fs[i]?).map fun f => (p, Value.ref f)
  | [], _, _, _, _ => rfl
  | o :: os, p :: ps, f :: fs, h1, h2 => by
    have ih := atKey_zip w os ps fs (by simpa using h1) (by simpa using h2)
    unfold atKey at ih ⊢
    rw [List.zip_cons_cons, List.zip_cons_cons, List.map_cons, List.find?_cons, List.findIdx?_cons]
    by_cases e : o = w
    · subst e
      simp
    · have e1 : ¬ kw o = kw w := fun z => e (kw_inj z)
      have e2 : (o == w) = false := by simpa using e
      rw [decide_eq_false e1, e2, ih]
      simp only [Bool.false_eq_true, if_false, Option.bind_map]
      congr 1
theorem at_op (t : Ad) (w : List Nat) : atKey (opsXs t) (kw w) = (Sz43.ops.findIdx? fun x => x == w).bind fun i => ((opKs t)[i]?).bind fun p => ((opAd t)[i]?).map fun f => (p, Value.ref f) := by
  rw [ops_eq]
  have e : Sz43.ops.length = 12 := by decide +kernel
  exact atKey_zip w _ _ _ (by rw [e]; rfl) (by rw [e]; rfl)
theorem op_found {w : List Nat} {i : Nat} (h : (Sz43.ops.findIdx? fun x => x == w) = some i) : i < 12 ∧ Sz43.ops.getD i [] = w := by
  have e : Sz43.ops.length = 12 := by decide +kernel
  obtain ⟨h1, h2, _⟩ := List.findIdx?_eq_some_iff_getElem.mp h
  refine ⟨by omega, ?_⟩
  rw [List.getD_eq_getElem?_getD, List.getElem?_eq_getElem h1]
  simpa using h2
theorem op_at {i : Nat} (h : i < 12) : (Sz43.ops.findIdx? fun x => x == Sz43.ops.getD i []) = some i := by
  have : ∀ i, i < 12 → (Sz43.ops.findIdx? fun x => x == Sz43.ops.getD i []) = some i := by decide +kernel
  exact this i h
inductive spIsOp (vs : List V) (H : Hp) (Q : VK) (e0 : XK) : Prop
  | mk (p : Addr) (w : List Nat) : vs = [.ref p] → H p = some (.tup (iw w)) → (Q (.bl (Sz43.ops.findIdx? fun x => x == w).isSome) H) → spIsOp vs H Q e0
inductive spReck (vs : List V) (H : Hp) (Q : VK) (e0 : XK) : Prop
  | mk (p : Addr) (k : Nat) (y z : Int) : vs = [.ref p, .int y, .int z] → k < 12 → H p = some (.tup (iw (Sz43.ops.getD k []))) → I64 y → I64 z → Q (.int (Sz43.reckon k y z)) H → spReck vs H Q e0
def spAny (t : Ad) (f : Addr) (vs : List V) (H : Hp) (Q : VK) : Prop := ∃ k, (opAd t)[k]? = some f ∧ spOp k vs H Q E0
section
variable {P : Program} {w : World} {K : PySem.W.Frag} {mg : Str → Option Value} {base : Heap} {t : Ad}
theorem sc_is_operator : FnScope ["word"] ["word"] (defScope s_is_operator) := sc_mk
theorem ok_is_operator (T : Txt K mg t) : FnOk P w K mg base CX0 1 t.f_is_operator t.d_is_operator ["word"] spIsOp := by
  refine T.F_is_operator.ok sc_is_operator (fun vs H Q E h => ?_) (fun _ A _ s H vs Q E hr h => ?_)
  · obtain ⟨p, w, rfl, _⟩ := h
    rfl
  · obtain ⟨p, u, rfl, hp, k⟩ := h
    refine ⟨_, pss_one (ps_ret (pe_cmp (pc_kin (T.tab P w) (hu_of hr) (pv 0) (pe_glob (v := .ref t.a_OPERATORS) rfl T.g_OPERATORS rfl)))), ?_⟩
    refine ⟨_, rfl, p, kw u, rfl, rfl, by rw [kw_iw]; exact hp, ?_⟩
    have e : (atKey (opsXs t) (kw u)).isSome = (Sz43.ops.findIdx? fun x => x == u).isSome := by
      rw [at_op]
      cases q : (Sz43.ops.findIdx? fun x => x == u) with
      | none => rfl
      | some i =>
        obtain ⟨h1, _⟩ := op_found q
        have e1 : ∃ p, (opKs t)[i]? = some p := ⟨_, List.getElem?_eq_getElem (show i < (opKs t).length from h1)⟩
        have e2 : ∃ p, (opAd t)[i]? = some p := ⟨_, List.getElem?_eq_getElem (show i < (opAd t).length from h1)⟩
        obtain ⟨a, e1⟩ := e1
        obtain ⟨b, e2⟩ := e2
        rw [Option.bind_some, e1, Option.bind_some, e2]
        rfl
    rw [e]
    exact k
theorem any_op (T : Txt K mg t) {f : Addr} {vs : List V} {H : Hp} {Q : VK} (h : spAny t f vs H Q) : ∃ k fd ps sp, k ≤ 2 ∧ FnOk P w K mg base CX0 k f fd ps sp ∧ Binds K fd ps [] ∧ sp vs H Q E0 := by
  obtain ⟨k, hk, h⟩ := h
  have hl : k < 12 := (List.getElem?_eq_some_iff.mp hk).1
  have hc := (by decide : ∀ k, k < 12 → k = 0 ∨ k = 1 ∨ k = 2 ∨ k = 3 ∨ k = 4 ∨ k = 5 ∨ k = 6 ∨ k = 7 ∨ k = 8 ∨ k = 9 ∨ k = 10 ∨ k = 11) k hl
  rcases hc with rfl | rfl | rfl | rfl | rfl | rfl | rfl | rfl | rfl | rfl | rfl | rfl
  · cases hk; exact ⟨2, _, _, _, by decide, ok_plus T, b_plus T, h⟩
  · cases hk; exact ⟨2, _, _, _, by decide, ok_minus T, b_minus T, h⟩
  · cases hk; exact ⟨2, _, _, _, by decide, ok_times T, b_times T, h⟩
  · cases hk; exact ⟨2, _, _, _, by decide, ok_divided T, b_divided T, h⟩
  · cases hk; exact ⟨1, _, _, _, by decide, ok_rest T, b_rest T, h⟩
  · cases hk; exact ⟨1, _, _, _, by decide, ok_both_bits T, b_both_bits T, h⟩
  · cases hk; exact ⟨1, _, _, _, by decide, ok_either_bits T, b_either_bits T, h⟩
  · cases hk; exact ⟨1, _, _, _, by decide, ok_differing_bits T, b_differing_bits T, h⟩
  · cases hk; exact ⟨2, _, _, _, by decide, ok_shifted_up T, b_shifted_up T, h⟩
  · cases hk; exact ⟨1, _, _, _, by decide, ok_shifted_down T, b_shifted_down T, h⟩
  · cases hk; exact ⟨1, _, _, _, by decide, ok_is_less T, b_is_less T, h⟩
  · cases hk; exact ⟨1, _, _, _, by decide, ok_is_same T, b_is_same T, h⟩
theorem kp_op (T : Txt K mg t) {k : Nat} {f : Addr} (h : (opAd t)[k]? = some f) : PySem.W.keepIn K (.ref f) = true := by
  obtain ⟨h0, h1, h2, h3, h4, h5, h6, h7, h8, h9, h10, h11⟩ := T.kops
  have hl : k < 12 := (List.getElem?_eq_some_iff.mp h).1
  have hc := (by decide : ∀ k, k < 12 → k = 0 ∨ k = 1 ∨ k = 2 ∨ k = 3 ∨ k = 4 ∨ k = 5 ∨ k = 6 ∨ k = 7 ∨ k = 8 ∨ k = 9 ∨ k = 10 ∨ k = 11) k hl
  rcases hc with rfl | rfl | rfl | rfl | rfl | rfl | rfl | rfl | rfl | rfl | rfl | rfl
  · cases h; exact h0
  · cases h; exact h1
  · cases h; exact h2
  · cases h; exact h3
  · cases h; exact h4
  · cases h; exact h5
  · cases h; exact h6
  · cases h; exact h7
  · cases h; exact h8
  · cases h; exact h9
  · cases h; exact h10
  · cases h; exact h11
theorem sc_reckoned : FnScope ["operator", "y", "z", "reckon"] ["operator", "y", "z"] (defScope s_reckoned) := sc_mk
theorem ok_reckoned (T : Txt K mg t) : FnOk P w K mg base CX0 3 t.f_reckoned t.d_reckoned ["operator", "y", "z"] spReck := by
  refine T.F_reckoned.ok sc_reckoned (fun vs H Q E h => ?_) (fun _ A _ s H vs Q E hr h => ?_)
  · obtain ⟨p, k, y, z, rfl, _⟩ := h
    rfl
  · obtain ⟨p, n, y, z, rfl, hn, hp, hy, hz, k⟩ := h
    have nd := sc_reckoned.nd
    refine ⟨_, pss_cons (ps_set (i := 3) nd rfl (Or.inl rfl) (pe_kget (T.tab P w) (hu_of hr) (pe_glob (v := .ref t.a_OPERATORS) rfl T.g_OPERATORS rfl) (pv 0) (fun _ _ => rfl)))
      (pss_one (ps_ret (pe_callV (i := 3) (spT := spAny t) (fun f vs H Q h => ?f) rfl (Or.inl rfl) (pa_cons (pv 1) (pa_cons (pv 2) pa_nil))))), ?_⟩
    · obtain ⟨k, fd, ps, sp, h1, h2, h3, h4⟩ := any_op (P := P) (w := w) (base := base) T h
      exact ⟨k, fd, ps, sp, h2, hr.mono h1, h3, h4⟩
    · obtain ⟨f, hf⟩ : ∃ f, (opAd t)[n]? = some f := ⟨_, List.getElem?_eq_getElem (show n < (opAd t).length from hn)⟩
      obtain ⟨q, hq⟩ : ∃ f, (opKs t)[n]? = some f := ⟨_, List.getElem?_eq_getElem (show n < (opKs t).length from hn)⟩
      refine ⟨_, rfl, p, kw _, q, f, rfl, rfl, by rw [kw_iw]; exact hp, ?_, ?_⟩
      · rw [at_op, op_at hn, Option.bind_some, hq, Option.bind_some, hf]
        rfl
      · refine ⟨f, rfl, kp_op T hf, _, rfl, _, rfl, ?_⟩
        exact ⟨n, hf, y, z, rfl, hy, hz, k⟩
end
end My

set_option linter.all false
namespace My
open Sz43
def blank (c : Nat) : Bool := c == 32 || c == 9 || c == 13
structure Lst where
  ls : List (List Bytes)
  ws : List Bytes
  wd : Bytes
def endWord (ws : List Bytes) (wd : Bytes) : List Bytes := if wd = [] then ws else ws ++ [wd]
noncomputable def lnStep (s : Lst) (c : Nat) : Lst :=
  if c ≠ 10 ∧ blank c = false then ⟨s.ls, s.ws, s.wd ++ [c]⟩
  else if c = 10 then ⟨s.ls ++ [endWord s.ws s.wd], [], []⟩ else ⟨s.ls, endWord s.ws s.wd, []⟩
theorem parted_cons (f : Nat → Bool) : ∀ t, ∃ l m, parted f t = l :: m
  | [] => ⟨[], [], rfl⟩
  | c :: r => by
    obtain ⟨l, m, e⟩ := parted_cons f r
    show ∃ l' m', (match parted f r with | l :: m => if f c = true then [] :: l :: m else (c :: l) :: m | [] => [[c]]) = l' :: m'
    rw [e]
    by_cases h : f c = true
    · exact ⟨_, _, if_pos h⟩
    · exact ⟨_, _, if_neg h⟩
theorem parted_pos {f : Nat → Bool} {c : Nat} {r : Bytes} (h : f c = true) : parted f (c :: r) = [] :: parted f r := by
  obtain ⟨l, m, e⟩ := parted_cons f r
  show (match parted f r with | l :: m => if f c = true then [] :: l :: m else (c :: l) :: m | [] => [[c]]) = _
  rw [e]
  exact if_pos h
theorem parted_neg {f : Nat → Bool} {c : Nat} {r l : Bytes} {m : List Bytes} (h : f c = false) (e : parted f r = l :: m) : parted f (c :: r) = (c :: l) :: m := by
  show (match parted f r with | l :: m => if f c = true then [] :: l :: m else (c :: l) :: m | [] => [[c]]) = _
  rw [e]
  exact if_neg (by rw [h]; decide)
def glue (wd : Bytes) : List Bytes → List Bytes
  | p :: m => (wd ++ p) :: m
  | [] => [wd]
def ne (w : Bytes) : Bool := w != []
def remd (ws : List Bytes) (wd : Bytes) (t : Bytes) : List (List Bytes) :=
  match parted (fun (c : Nat) => c == 10) t with
  | l :: m => (ws ++ (glue wd (parted blank l)).filter ne) :: m.map words
  | [] => []
theorem words_eq (l : Bytes) : words l = (parted blank l).filter ne := rfl
theorem glue_nil (l : Bytes) : glue [] (parted blank l) = parted blank l := by
  obtain ⟨p, m, e⟩ := parted_cons blank l
  rw [e]
  rfl
theorem end_eq (ws : List Bytes) (wd : Bytes) (r : List Bytes) : ws ++ (wd :: r).filter ne = endWord ws wd ++ r.filter ne := by
  unfold endWord ne
  by_cases h : wd = []
  · subst h
    simp
  · have e : (wd != []) = true := by simpa using h
    rw [if_neg h, List.filter_cons, e]
    simp
theorem remd_nil (t : Bytes) : remd [] [] t = (parted (fun (c : Nat) => c == 10) t).map words := by
  obtain ⟨l, m, e⟩ := parted_cons (fun (c : Nat) => c == 10) t
  unfold remd
  rw [e]
  show ([] ++ (glue [] (parted blank l)).filter ne) :: m.map words = words l :: m.map words
  rw [glue_nil, List.nil_append, words_eq]
theorem lines_fold : ∀ (t : Bytes) (s : Lst), ((t ++ [10]).foldl lnStep s).ls = s.ls ++ remd s.ws s.wd t
  | [], s => by
    show s.ls ++ [endWord s.ws s.wd] = s.ls ++ [s.ws ++ [s.wd ++ []].filter ne]
    rw [List.append_nil, end_eq]
    simp
  | c :: r, s => by
    rw [List.cons_append, List.foldl_cons, lines_fold r]
    by_cases h10 : c = 10
    · have e1 : lnStep s c = ⟨s.ls ++ [endWord s.ws s.wd], [], []⟩ := by
        unfold lnStep
        rw [if_neg (fun z => z.1 h10), if_pos h10]
      have e2 : remd s.ws s.wd (c :: r) = endWord s.ws s.wd :: (parted (fun (c : Nat) => c == 10) r).map words := by
        unfold remd
        rw [parted_pos (by simpa using h10)]
        show (s.ws ++ [s.wd ++ []].filter ne) :: _ = _
        rw [List.append_nil, end_eq]
        simp
      rw [e1, e2, remd_nil]
      simp
    · obtain ⟨l, m, e⟩ := parted_cons (fun (c : Nat) => c == 10) r
      have e0 := parted_neg (c := c) (by simpa using h10) e
      have er : ∀ ws wd, remd ws wd r = (ws ++ (glue wd (parted blank l)).filter ne) :: m.map words := fun ws wd => by
        unfold remd
        rw [e]
      have ec : remd s.ws s.wd (c :: r) = (s.ws ++ (glue s.wd (parted blank (c :: l))).filter ne) :: m.map words := by
        unfold remd
        rw [e0]
      rw [ec, er]
      by_cases hb : blank c = true
      · have e1 : lnStep s c = ⟨s.ls, endWord s.ws s.wd, []⟩ := by
          unfold lnStep
          rw [if_neg (fun z => by rw [hb] at z; exact absurd z.2 (by decide)), if_neg h10]
        rw [e1, parted_pos hb, glue_nil]
        show s.ls ++ (endWord s.ws s.wd ++ _) :: _ = s.ls ++ (s.ws ++ ((s.wd ++ []) :: parted blank l).filter ne) :: _
        rw [List.append_nil, end_eq]
      · have hb : blank c = false := by simpa using hb
        have e1 : lnStep s c = ⟨s.ls, s.ws, s.wd ++ [c]⟩ := by
          unfold lnStep
          rw [if_pos ⟨h10, hb⟩]
        obtain ⟨p, q, e2⟩ := parted_cons blank l
        rw [e1, parted_neg hb e2, e2]
        show _ ++ (_ ++ ((s.wd ++ [c] ++ p) :: q).filter ne) :: _ = _ ++ (_ ++ ((s.wd ++ c :: p) :: q).filter ne) :: _
        rw [List.append_assoc]
        rfl
theorem lines_eq (t : Bytes) : ((t ++ [10]).foldl lnStep ⟨[], [], []⟩).ls = (parted (fun (c : Nat) => c == 10) t).map words := by
  rw [lines_fold, remd_nil]
  rfl
theorem lines_words {t : Bytes} {l : List Bytes} {w : Bytes} (h : l ∈ (parted (fun (c : Nat) => c == 10) t).map words) (hw : w ∈ l) : w ≠ [] := by
  obtain ⟨x, _, rfl⟩ := List.mem_map.mp h
  have := (List.mem_filter.mp hw).2
  simpa using this
end My

set_option Elab.async false
set_option linter.all false
set_option maxRecDepth 100000
set_option maxHeartbeats 1000000
namespace My
open PySem L2
/-- a line's words: a list of tuples -/
def LineAt (H : Hp) (q : Addr) (ws : List (List Nat)) : Prop := ∃ rs : List Addr, H q = some (.lst (rs.map V.ref)) ∧ WordsAt H rs ws
theorem words_mono {H H' : Hp} {rs : List Addr} {ws : List (List Nat)} (h : WordsAt H rs ws) (k : ∀ b xs, H b = some (.tup xs) → H' b = some (.tup xs)) : WordsAt H' rs ws := Paired.mapP h fun a b e => k _ _ e
theorem LineAt.mono {H H' : Hp} {q : Addr} {ws : List (List Nat)} (h : LineAt H q ws) (k : ∀ b xs, H b = some (.tup xs) → H' b = some (.tup xs)) (kq : ∀ xs, H q = some (.lst xs) → H' q = some (.lst xs)) : LineAt H' q ws :=
  let ⟨rs, h1, h2⟩ := h; ⟨rs, kq _ h1, words_mono h2 k⟩
/-- a list is written, or something new is laid -/
def Own (H : Hp) (x : Addr) : Prop := H x = none ∨ ∃ xs, H x = some (.lst xs)
theorem Own.tup {H : Hp} {x b : Addr} {xs : List V} {o : HO} (h : Own H x) (e : H b = some (.tup xs)) : upd H x o b = some (.tup xs) := by
  rw [upd_ne]
  · exact e
  · rintro rfl
    rcases h with h | ⟨_, h⟩
    · rw [h] at e
      cases e
    · rw [h] at e
      cases e
theorem LineAt.upd {H : Hp} {q x : Addr} {ws : List (List Nat)} {o : HO} (h : LineAt H q ws) (hx : Own H x) (n : q ≠ x) : LineAt (upd H x o) q ws :=
  h.mono (fun b xs e => hx.tup e) fun xs e => by rw [upd_ne n]; exact e
theorem iw_get' {w : List Nat} {i : Nat} {x : V} (h : (iw w)[i]? = some x) : ∃ c : Nat, w[i]? = some c ∧ x = .int (c : Int) := by
  unfold iw at h
  rw [List.getElem?_map] at h
  obtain ⟨c, hc, rfl⟩ := Option.map_eq_some_iff.mp h
  exact ⟨c, hc, rfl⟩
/-- how it stands between two signs -/
structure LnAt (H0 H : Hp) (p l wa wo : Addr) (ps : List Addr) (st : Lst) : Prop where
  same : Same H0 H
  fp : H0 p = none
  fl : H0 l = none
  fa : H0 wa = none
  fo : H0 wo = none
  lst : H l = some (.lst (ps.map V.ref))
  lns : Paired (fun q ws => LineAt H q ws) ps st.ls
  wrds : LineAt H wa st.ws
  wrd : H wo = some (.lst (iw st.wd))
  pl : p ≠ l
  pa : p ≠ wa
  po : p ≠ wo
  la : l ≠ wa
  lo : l ≠ wo
  ao : wa ≠ wo
  nl : ∀ q ∈ ps, q ≠ l ∧ q ≠ wa ∧ q ≠ wo
  fq : ∀ q ∈ ps, H0 q = none
theorem Paired.mapM {α β : Type} {F G : α → β → Prop} : ∀ {l₁ : List α} {l₂ : List β}, Paired F l₁ l₂ → (∀ a b, a ∈ l₁ → F a b → G a b) → Paired G l₁ l₂
  | _, _, .nil, _ => .nil
  | _, _, .cons r t, f => .cons (f _ _ (by simp) r) (Paired.mapM t fun a b m => f a b (by simp [m]))
theorem mem_left {α β : Type} {F : α → β → Prop} {a : α} : ∀ {l₁ : List α} {l₂ : List β}, Paired F l₁ l₂ → a ∈ l₁ → ∃ b, F a b
  | _, _, .cons (a := x) (b := y) r t, h => by
    rcases List.mem_cons.mp h with e | e
    · subst e
      exact ⟨_, r⟩
    · exact mem_left t e
theorem iw_snoc (w : List Nat) (c : Nat) : iw (w ++ [c]) = iw w ++ [.int (c : Int)] := by
  unfold iw
  rw [List.map_append]
  rfl
theorem LnAt.app {H0 H : Hp} {p l wa wo : Addr} {ps : List Addr} {st : Lst} {c : Nat} (L : LnAt H0 H p l wa wo ps st) : LnAt H0 (upd H wo (.lst (iw st.wd ++ [.int (c : Int)]))) p l wa wo ps ⟨st.ls, st.ws, st.wd ++ [c]⟩ := by
  have own : Own H wo := .inr ⟨_, L.wrd⟩
  exact ⟨L.same.upd L.fo, L.fp, L.fl, L.fa, L.fo, by rw [upd_ne L.lo]; exact L.lst, Paired.mapM L.lns fun q ws hq h => h.upd own (L.nl q hq).2.2, L.wrds.upd own L.ao, by rw [upd_same, iw_snoc], L.pl, L.pa, L.po, L.la, L.lo, L.ao, L.nl, L.fq⟩
theorem LnAt.word {H0 H : Hp} {p l wa wo wo' q : Addr} {ps rs : List Addr} {st : Lst} {xs : List V} (L : LnAt H0 H p l wa wo ps st) (hP : H p = some (.lst xs)) (hwa : H wa = some (.lst (rs.map V.ref))) (hw : WordsAt H rs st.ws) (hq : H q = none)
    (ho : (upd (upd H q (.tup (iw st.wd))) wa (.lst (rs.map V.ref ++ [.ref q]))) wo' = none) :
    LnAt H0 (upd (upd (upd H q (.tup (iw st.wd))) wa (.lst (rs.map V.ref ++ [.ref q]))) wo' (.lst [])) p l wa wo' ps ⟨st.ls, st.ws ++ [st.wd], []⟩ ∧
      (upd (upd (upd H q (.tup (iw st.wd))) wa (.lst (rs.map V.ref ++ [.ref q]))) wo' (.lst [])) p = some (.lst xs) := by
  have k2 : ∀ b o, H b = some o → b ≠ wa → (upd (upd H q (.tup (iw st.wd))) wa (.lst (rs.map V.ref ++ [.ref q]))) b = some o := fun b o e n => by
    rw [upd_ne n, upd_ne (ne_of_none e hq)]
    exact e
  have k3 : ∀ b o, H b = some o → b ≠ wa → (upd (upd (upd H q (.tup (iw st.wd))) wa (.lst (rs.map V.ref ++ [.ref q]))) wo' (.lst [])) b = some o := fun b o e n => by
    rw [upd_ne (ne_of_none (k2 b o e n) ho)]
    exact k2 b o e n
  have nt : ∀ b ys, H b = some (.tup ys) → b ≠ wa := fun b ys e => ne_of e hwa (by intro z; cases z)
  have qa : q ≠ wa := (ne_of_none hwa hq).symm
  have ao : wa ≠ wo' := ne_of_none upd_same ho
  have s2 : Same H0 (upd (upd H q (.tup (iw st.wd))) wa (.lst (rs.map V.ref ++ [.ref q]))) := fun b o e => k2 b o (L.same b o e) (ne_of_none e L.fa)
  have qo : q ≠ wo' := ne_of_none (o := .tup (iw st.wd)) (by rw [upd_ne qa]; exact upd_same) ho
  refine ⟨⟨fun b o e => k3 b o (L.same b o e) (ne_of_none e L.fa), L.fp, L.fl, L.fa, s2.free ho, k3 _ _ L.lst L.la, Paired.mapM L.lns fun r ws hr h => h.mono (fun b ys e => k3 b _ e (nt b ys e)) fun ys e => k3 r _ e (L.nl r hr).2.1, ?_, upd_same, L.pl, L.pa, ne_of_none (k2 _ _ hP L.pa) ho, L.la, ne_of_none (k2 _ _ L.lst L.la) ho, ao, fun r hr => ?_, L.fq⟩, k3 _ _ hP L.pa⟩
  · refine ⟨rs ++ [q], ?_, Paired.app (words_mono hw fun b ys e => k3 b _ e (nt b ys e)) (.cons ?_ .nil)⟩
    · rw [upd_ne ao, upd_same, List.map_append]
      rfl
    · rw [upd_ne qo, upd_ne qa]
      exact upd_same
  · obtain ⟨ws, zs, h1, _⟩ := mem_left L.lns hr
    exact ⟨(L.nl r hr).1, (L.nl r hr).2.1, ne_of_none (k2 _ _ h1 (L.nl r hr).2.1) ho⟩
theorem LnAt.line {H0 H : Hp} {p l wa wo wa' : Addr} {ps : List Addr} {ls : List (List (List Nat))} {ws : List (List Nat)} {xs : List V} (L : LnAt H0 H p l wa wo ps ⟨ls, ws, []⟩) (hP : H p = some (.lst xs))
    (ho : (upd H l (.lst (ps.map V.ref ++ [.ref wa]))) wa' = none) :
    LnAt H0 (upd (upd H l (.lst (ps.map V.ref ++ [.ref wa]))) wa' (.lst [])) p l wa' wo (ps ++ [wa]) ⟨ls ++ [ws], [], []⟩ ∧ (upd (upd H l (.lst (ps.map V.ref ++ [.ref wa]))) wa' (.lst [])) p = some (.lst xs) := by
  have k2 : ∀ b o, H b = some o → b ≠ l → (upd H l (.lst (ps.map V.ref ++ [.ref wa]))) b = some o := fun b o e n => by rw [upd_ne n]; exact e
  have k3 : ∀ b o, H b = some o → b ≠ l → (upd (upd H l (.lst (ps.map V.ref ++ [.ref wa]))) wa' (.lst [])) b = some o := fun b o e n => by
    rw [upd_ne (ne_of_none (k2 b o e n) ho)]
    exact k2 b o e n
  have nt : ∀ b ys, H b = some (.tup ys) → b ≠ l := fun b ys e => ne_of e L.lst (by intro z; cases z)
  have la : l ≠ wa' := ne_of_none upd_same ho
  have s2 : Same H0 (upd H l (.lst (ps.map V.ref ++ [.ref wa]))) := L.same.upd L.fl
  obtain ⟨rs, hwa, hw⟩ := id L.wrds
  refine ⟨⟨fun b o e => k3 b o (L.same b o e) (ne_of_none e L.fl), L.fp, L.fl, s2.free ho, L.fo, ?_, Paired.app (Paired.mapM L.lns fun r ws hr h => h.mono (fun b ys e => k3 b _ e (nt b ys e)) fun ys e => k3 r _ e (L.nl r hr).1) (.cons (L.wrds.mono (fun b ys e => k3 b _ e (nt b ys e)) fun ys e => k3 _ _ e L.la.symm) .nil), ⟨[], upd_same, .nil⟩, k3 _ _ L.wrd L.lo.symm,
    L.pl, ne_of_none (k2 _ _ hP L.pl) ho, L.po, la, L.lo, (ne_of_none (k2 _ _ L.wrd L.lo.symm) ho).symm, fun r hr => ?_, fun r hr => ?_⟩, k3 _ _ hP L.pl⟩
  · rw [upd_ne la, upd_same, List.map_append]
    rfl
  · rcases List.mem_append.mp hr with hr | hr
    · obtain ⟨ws, zs, h1, _⟩ := mem_left L.lns hr
      exact ⟨(L.nl r hr).1, ne_of_none (k2 _ _ h1 (L.nl r hr).1) ho, (L.nl r hr).2.2⟩
    · have e : r = wa := by simpa using hr
      subst e
      exact ⟨L.la.symm, ne_of_none (k2 _ _ hwa L.la.symm) ho, L.ao⟩
  · rcases List.mem_append.mp hr with hr | hr
    · exact L.fq r hr
    · have e : r = wa := by simpa using hr
      rw [e]
      exact L.fa
theorem inV_blank (c : Nat) : inV (V.int (c : Int)) [.int 32, .int 9, .int 13] = blank c := by
  unfold inV blank
  simp only [List.any_cons, List.any_nil, eqV, Bool.or_false]
  rw [Bool.eq_iff_iff]
  simp
  omega
theorem step_len {st : Lst} {i c : Nat} (h : st.ls.length ≤ i ∧ st.ws.length ≤ i ∧ st.wd.length ≤ i) : (lnStep st c).ls.length ≤ i + 1 ∧ (lnStep st c).ws.length ≤ i + 1 ∧ (lnStep st c).wd.length ≤ i + 1 := by
  have e : (endWord st.ws st.wd).length ≤ i + 1 := by
    unfold endWord
    split
    · omega
    · rw [List.length_append, List.length_singleton]
      omega
  unfold lnStep
  split
  · simp only [List.length_append, List.length_singleton]
    omega
  · split
    · simp only [List.length_append, List.length_singleton, List.length_nil]
      omega
    · simp only [List.length_nil]
      omega
inductive spLines (K : PySem.W.Frag) (vs : List V) (H : Hp) (Q : VK) (e0 : XK) : Prop
  | mk (a : Addr) (t : List Nat) : vs = [.ref a] → (TxA K H a (t.map fun (c : Nat) => (c : Int))) → (∀ l ps H', Same H H' → H l = none → (∀ q ∈ ps, H q = none) → H' l = some (.lst (ps.map V.ref)) → Paired (fun q ws => LineAt H' q ws) ps ((Sz43.parted (fun (c : Nat) => c == 10) t).map Sz43.words) → Q (.ref l) H') → spLines K vs H Q e0
section
variable {P : Program} {w : World} {K : PySem.W.Frag} {mg : Str → Option Value} {base : Heap} {t : Ad}
theorem sc_lines_of : FnScope ["text", "lines", "words", "word", "sign"] ["text"] (defScope s_lines_of) := sc_mk
theorem ok_lines_of (T : Txt K mg t) : FnOk P w K mg base CX0 1 t.f_lines_of t.d_lines_of ["text"] (spLines K) := by
  refine T.F_lines_of.ok sc_lines_of (fun vs H Q E h => ?_) (fun _ A _ s H vs Q E hr h => ?_)
  · obtain ⟨p, w, rfl, _⟩ := h
    rfl
  · obtain ⟨a, tx, rfl, hT, k⟩ := h
    have nd := sc_lines_of.nd
    refine ⟨_, pss_cons (ps_set (i := 1) nd rfl (Or.inl rfl) (pe_lst pa_nil)) (pss_cons (ps_set (i := 2) nd rfl (Or.inl rfl) (pe_lst pa_nil)) (pss_cons (ps_set (i := 3) nd rfl (Or.inl rfl) (pe_lst pa_nil))
      (pss_cons (ps_for PassesOwn.never rfl (pi_list (pe_op op_catT' (pv 0) (pe_lst (pa_cons (pe_cint T.c_NEWLINE rfl) pa_nil)))) (pg_name (i := 4) nd rfl (Or.inl rfl))
        (pss_cons (ps_if (PW.pt (pw_and (pt_cmpR op_ne (pv 4) (pe_cint T.c_NEWLINE rfl) (nomark _)) (pw_and1 (pt_cmpR op_notIn_seq (pv 4) (pe_glob (v := .ref t.a_BLANKS) rfl T.g_BLANKS rfl) (by with_unfolding_all rfl)))))
          (pss_cons (ps_expr (pe_bm PySem.F.plainAttrs_list PySem.F.slot_list_append PySem.F.type_list_append mt_append (pv 3) (pa_cons (pv 4) pa_nil))) (pss_one ps_continue)) pss_nil)
        (pss_cons (ps_if (pt_cmpR op_gt (pe_callB call_len_seq rfl T.n_len PySem.boot_len (pa_cons (pv 3) pa_nil)) pe_int (nomark _))
          (pss_cons (ps_expr (pe_bm PySem.F.plainAttrs_list PySem.F.slot_list_append PySem.F.type_list_append mt_append (pv 2) (pa_cons (pe_callTy call_tuple_of rfl T.n_tuple rfl (pa_cons (pv 3) pa_nil)) pa_nil))) (pss_one (ps_set (i := 3) nd rfl (Or.inl rfl) (pe_lst pa_nil)))) pss_nil)
        (pss_one (ps_if (pt_cmpR op_eq (pv 4) (pe_cint T.c_NEWLINE rfl) (nomark _))
          (pss_cons (ps_expr (pe_bm PySem.F.plainAttrs_list PySem.F.slot_list_append PySem.F.type_list_append mt_append (pv 1) (pa_cons (pv 2) pa_nil))) (pss_one (ps_set (i := 2) nd rfl (Or.inl rfl) (pe_lst pa_nil)))) pss_nil)))))
      (pss_one (ps_ret (pv 1)))))), ?_⟩
    refine ⟨Nat.zero_le _, fun l hl => ⟨Nat.zero_le _, fun wa ha => ⟨Nat.zero_le _, fun wo ho => ?_⟩⟩⟩
    have s1 := Same.new (o := .lst []) hl
    have s2 := Same.new (o := .lst []) ha
    have s3 := Same.new (o := .lst []) ho
    refine ⟨_, rfl, (by show 1 ≤ sizeLine; decide), fun b hb => ?_⟩
    have s4 := Same.new (o := .lst [.int 10]) hb
    have s14 := ((s1.trans s2).trans s3).trans s4
    refine ⟨a, b, _, _, rfl, rfl, TxA.same s14 hT, upd_same, (by show 1 ≤ 10; decide), fun p hp => ?_⟩
    have eT : (tx.map fun (c : Nat) => (c : Int)).map V.int ++ [V.int 10] = iw (tx ++ [10]) := by
      unfold iw
      rw [List.map_append, List.map_map]
      rfl
    rw [eT]
    have tl : (tx ++ [10]).length ≤ 100001 := by
      have := hT.1
      rw [List.length_map] at this
      rw [List.length_append, List.length_singleton]
      omega
    have s5 := Same.new (o := .lst (iw (tx ++ [10]))) hp
    have n1 : l ≠ wa := ne_of_none upd_same ha
    have n2 : wa ≠ wo := ne_of_none upd_same ho
    have n3 : l ≠ wo := ne_of_none (s2 _ _ upd_same) ho
    have f1 : H wa = none := s1.free ha
    have f2 : H wo = none := (s1.trans s2).free ho
    have f3 : H p = none := s14.free hp
    have n4 : l ≠ p := ne_of_none (s4 _ _ (s3 _ _ (s2 _ _ upd_same))) hp
    have n5 : wa ≠ p := ne_of_none (s4 _ _ (s3 _ _ upd_same)) hp
    have n6 : wo ≠ p := ne_of_none (s4 _ _ upd_same) hp
    refine ⟨p, rfl, ⟨_, SqL.of upd_same⟩, for_list (K := K) (a := p) (xs := iw (tx ++ [10])) (fun i σ Hh => ∃ (wa wo : Addr) (v : Option V) (ps : List Addr) (st : Lst), st = ((tx ++ [10]).take i).foldl lnStep ⟨[], [], []⟩ ∧ σ = [some (.ref a), some (.ref l), some (.ref wa), some (.ref wo), v] ∧
      LnAt H Hh p l wa wo ps st ∧ (st.ls.length ≤ i ∧ st.ws.length ≤ i ∧ st.wd.length ≤ i) ∧ Hh p = some (.lst (iw (tx ++ [10])))) ?_ (fun i σ Hh _ ⟨_, _, _, _, _, _, _, _, _, e⟩ => SqL.of e) ?_ ?_⟩
    · refine ⟨wa, wo, none, [], ⟨[], [], []⟩, rfl, rfl, ⟨s14.trans s5, f3, hl, f1, f2, s5 _ _ (s4 _ _ (s3 _ _ (s2 _ _ upd_same))), .nil, ⟨[], s5 _ _ (s4 _ _ (s3 _ _ upd_same)), .nil⟩, s5 _ _ (s4 _ _ upd_same), n4.symm, n5.symm, n6.symm, n1, n3, n2, fun q hq => absurd hq (by simp), fun q hq => absurd hq (by simp)⟩, ⟨Nat.le_refl _, Nat.le_refl _, Nat.le_refl _⟩, upd_same⟩
    · rintro i x σ Hh hx ⟨wa, wo, v, ps, st, est, rfl, L, ln, hP⟩
      obtain ⟨c, hc, rfl⟩ := iw_get' hx
      have il : i < 100001 := by
        have := (List.getElem?_eq_some_iff.mp hc).1
        omega
      have est' : lnStep st c = ((tx ++ [10]).take (i + 1)).foldl lnStep ⟨[], [], []⟩ := by
        rw [List.take_add_one, hc, List.foldl_append, ← est]
        rfl
      have ln' := step_len (c := c) ln
      unfold gName
      refine pl_seq (pl_if ?_)
      have tst : ∀ Qb : Bool → Hp → Prop, Qb (decide (c ≠ 10 ∧ blank c = false)) Hh → tAnd (tTest (tOp rNe (tVar 4) (tC (.int 10)))) (tTest (tOp (rIn K true) (tVar 4) (tC (.ref t.a_BLANKS)))) [some (.ref a), some (.ref l), some (.ref wa), some (.ref wo), some (.int (c : Int))] Hh Qb := by
        intro Qb hq
        refine ⟨_, rfl, rfl, _, rfl, ?_⟩
        by_cases h10 : c = 10
        · have e : (!decide (V.int (c : Int) = V.int 10)) = false := by simp [h10]
          have e2 : decide (c ≠ 10 ∧ blank c = false) = false := by simp [h10]
          rw [e2] at hq
          rw [e]
          exact iteF hq
        · have e : (!decide (V.int (c : Int) = V.int 10)) = true := by
            simp
            omega
          rw [e]
          refine iteT ?_
          refine ⟨_, rfl, t.a_BLANKS, _, rfl, .inr (T.q_BLANKS Hh), rfl, rfl, _, rfl, ?_⟩
          have e2 : decide (c ≠ 10 ∧ blank c = false) = !blank c := by
            cases blank c <;> simp [h10]
          rw [e2] at hq
          rw [inV_blank]
          exact hq
      refine tst _ ?_
      by_cases hcb : c ≠ 10 ∧ blank c = false
      · rw [decide_eq_true hcb]
        refine iteT ?_
        refine ⟨_, rfl, .inl ⟨rfl, _, SqL.of L.wrd⟩, _, rfl, wo, _, _, rfl, rfl, L.wrd, (by rw [iw_len, sizeLine_eq]; omega), ?_⟩
        have e : lnStep st c = ⟨st.ls, st.ws, st.wd ++ [c]⟩ := by
          unfold lnStep
          rw [if_pos hcb]
        rw [e] at est' ln'
        exact ⟨wa, wo, _, ps, _, est', rfl, L.app, ln', by rw [upd_ne L.po]; exact hP⟩
      · rw [decide_eq_false hcb]
        refine iteF ?_
        dsimp only [tNext]
        refine pl_seq (pl_if ?_)
        refine ⟨_, rfl, wo, _, rfl, .inl (SqL.of L.wrd), _, _, rfl, rfl, _, rfl, ?_⟩
        refine joinS (fun σ' Hx => ∃ wo', σ' = [some (.ref a), some (.ref l), some (.ref wa), some (.ref wo'), some (.int (c : Int))] ∧ LnAt H Hx p l wa wo' ps ⟨st.ls, endWord st.ws st.wd, []⟩ ∧ Hx p = some (.lst (iw (tx ++ [10])))) (fun c1 kk => ?_) (fun c1 kk => ?_) ?_
        · obtain ⟨rs, hwa, hw⟩ := id L.wrds
          have lw : rs.length = st.ws.length := Paired.length hw
          have ne : st.wd ≠ [] := by
            rintro e
            rw [e] at c1
            cases c1
          refine ⟨_, rfl, .inl ⟨rfl, _, SqL.of hwa⟩, _, rfl, wo, _, rfl, .inl ⟨SqL.of L.wrd, fun q hq => ?_⟩⟩
          refine ⟨wa, _, _, rfl, rfl, (by rw [upd_ne (ne_of_none hwa hq)]; exact hwa), (by rw [List.length_map, sizeLine_eq]; omega), ⟨Nat.zero_le _, fun wo' ho' => ?_⟩⟩
          have z := L.word hP hwa hw hq ho'
          refine kk _ _ ⟨wo', rfl, ?_, z.2⟩
          unfold endWord
          rw [if_neg ne]
          exact z.1
        · have e : st.wd = [] := by
            cases q : st.wd with
            | nil => rfl
            | cons x y =>
              rw [q] at c1
              have := of_decide_eq_false c1
              rw [iw_len, List.length_cons] at this
              omega
          refine kk _ _ ⟨wo, rfl, ?_, hP⟩
          unfold endWord
          rw [if_pos e, ← e]
          exact L
        · rintro σ' Hx ⟨wo', rfl, L', hP'⟩
          dsimp only
          refine pl_if ?_
          refine ⟨_, rfl, rfl, _, rfl, ?_⟩
          by_cases h10 : c = 10
          · have e : decide (V.int (c : Int) = V.int 10) = true := by simp [h10]
            rw [e]
            refine iteT ?_
            have lp : ps.length = st.ls.length := Paired.length L.lns
            refine ⟨_, rfl, .inl ⟨rfl, _, SqL.of L'.lst⟩, _, rfl, l, _, _, rfl, rfl, L'.lst, (by rw [List.length_map, sizeLine_eq]; omega), ⟨Nat.zero_le _, fun wa' ha' => ?_⟩⟩
            have e : lnStep st c = ⟨st.ls ++ [endWord st.ws st.wd], [], []⟩ := by
              unfold lnStep
              rw [if_neg hcb, if_pos h10]
            rw [e] at est' ln'
            have z := L'.line hP' ha'
            exact ⟨wa', wo', _, _, _, est', rfl, z.1, ln', z.2⟩
          · have e : decide (V.int (c : Int) = V.int 10) = false := by
              simp
              omega
            rw [e]
            refine iteF ?_
            have e : lnStep st c = ⟨st.ls, endWord st.ws st.wd, []⟩ := by
              unfold lnStep
              rw [if_neg hcb, if_neg h10]
            rw [e] at est' ln'
            exact ⟨wa, wo', _, _, _, est', rfl, L', ln', hP'⟩
    · rintro σ Hh ⟨wa, wo, v, ps, st, est, rfl, L, ln, hP⟩
      rw [iw_len, List.take_length, ] at est
      have e := lines_eq tx
      rw [← est] at e
      refine ⟨_, rfl, k l ps Hh L.same L.fl L.fq L.lst ?_⟩
      rw [← e]
      exact L.lns
end
end My

set_option linter.all false
namespace My
open Sz43
def addVar (l : List Bytes) (n : Bytes) : List Bytes := if l.contains n = true then l else l ++ [n]
def varM (vars : List Bytes) (w : Bytes) : Option (Nat × List Bytes) :=
  if isName w = false then none else match vars.findIdx? (fun x => x == w) with
    | some i => some (i, vars)
    | none => if vars.length = 64 then none else some (vars.length, vars ++ [w])
noncomputable def givM (vars : List Bytes) (ws : List Bytes) : Option (Ins × List Bytes) :=
  (varM vars (ws.getD 0 [])).bind fun d =>
    if ws.length = 5 ∧ (ops.findIdx? fun x => x == ws.getD 3 []).isSome = true then
      (varM d.2 (ws.getD 2 [])).bind fun a => (varM a.2 (ws.getD 4 [])).bind fun b => some (.op ((ops.findIdx? fun x => x == ws.getD 3 []).getD 0) d.1 a.1 b.1, b.2)
    else if ws.length ≠ 3 then none
    else if ws.getD 2 [] = ascii "read" then some (.read d.1, d.2)
    else match numberOf (ws.getD 2 []) with
      | some z => some (.num d.1 z, d.2)
      | none => (varM d.2 (ws.getD 2 [])).bind fun a => some (.copy d.1 a.1, a.2)
noncomputable def insM (vars : List Bytes) (ws : List Bytes) : Option (Ins × List Bytes × Option Bytes) :=
  if 3 ≤ ws.length ∧ ws.getD 1 [] = ascii "=" then (givM vars ws).bind fun x => some (x.1, x.2, none)
  else if ws.length = 2 ∧ ws.getD 0 [] = ascii "print" then (varM vars (ws.getD 1 [])).bind fun a => some (.print a.1, a.2, none)
  else if ws.length = 2 ∧ ws.getD 0 [] = ascii "goto" then (if isName (ws.getD 1 []) = false then none else some (.goto 0, vars, some (ws.getD 1 [])))
  else if ws.length = 4 ∧ ws.getD 0 [] = ascii "if" ∧ ws.getD 2 [] = ascii "goto" then (varM vars (ws.getD 1 [])).bind fun a => (if isName (ws.getD 3 []) = false then none else some (.cond a.1 0, a.2, some (ws.getD 3 [])))
  else if ws.length = 1 ∧ ws.getD 0 [] = ascii "end" then some (.stop, vars, none)
  else none
theorem mem_addVar (l : List Bytes) (w : Bytes) : w ∈ addVar l w := by
  unfold addVar
  split
  · rename_i h
    exact List.contains_iff_mem.mp h
  · simp
theorem addVar_ext (l : List Bytes) (w : Bytes) : ∃ m, addVar l w = l ++ m := by
  unfold addVar
  split
  · exact ⟨[], by simp⟩
  · exact ⟨[w], rfl⟩
theorem addVars_ext (ns : List Bytes) : ∀ l : List Bytes, ∃ m, ns.foldl addVar l = l ++ m := by
  induction ns with
  | nil => exact fun l => ⟨[], by simp⟩
  | cons n r ih =>
    intro l
    obtain ⟨m, e⟩ := addVar_ext l n
    obtain ⟨m2, e2⟩ := ih (addVar l n)
    exact ⟨m ++ m2, by rw [List.foldl_cons, e2, e, List.append_assoc]⟩
theorem seek_app {v m : List Bytes} {w : Bytes} (h : w ∈ v) : seek (v ++ m) w = seek v w := by
  unfold seek
  rw [List.findIdx?_append]
  have : (v.findIdx? fun x => x == w).isSome = true := by
    rw [List.findIdx?_isSome, List.any_eq_true]
    exact ⟨w, h, by simp⟩
  obtain ⟨i, e⟩ := Option.isSome_iff_exists.mp this
  rw [e]
  rfl
theorem mem_ext {l : List Bytes} {ns : List Bytes} {w : Bytes} (h : w ∈ l) : w ∈ ns.foldl addVar l := by
  obtain ⟨m, e⟩ := addVars_ext ns l
  rw [e]
  exact List.mem_append_left _ h
theorem seek_ext {l : List Bytes} {ns : List Bytes} {w : Bytes} (h : w ∈ l) : seek (ns.foldl addVar l) w = seek l w := by
  obtain ⟨m, e⟩ := addVars_ext ns l
  rw [e]
  exact seek_app h
theorem len_ext (l : List Bytes) (ns : List Bytes) : l.length ≤ (ns.foldl addVar l).length := by
  obtain ⟨m, e⟩ := addVars_ext ns l
  rw [e, List.length_append]
  omega
theorem varM_eq {vars : List Bytes} (hv : vars.length ≤ 64) (w : Bytes) : varM vars w = if isName w = true ∧ (addVar vars w).length ≤ 64 then some (seek (addVar vars w) w, addVar vars w) else none := by
  unfold varM
  cases hn : isName w with
  | false =>
    rw [if_pos rfl, if_neg (fun z => by cases z.1)]
  | true =>
    rw [if_neg (by decide)]
    cases hf : vars.findIdx? (fun x => x == w) with
    | some i =>
      have hc : vars.contains w = true := by
        have : (vars.findIdx? fun x => x == w).isSome = true := by rw [hf]; rfl
        rw [List.findIdx?_isSome, List.any_eq_true] at this
        obtain ⟨x, hx, e⟩ := this
        have e : x = w := by simpa using e
        rw [← e]
        exact List.contains_iff_mem.mpr hx
      have ea : addVar vars w = vars := if_pos hc
      rw [ea]
      show some (i, vars) = _
      rw [if_pos ⟨rfl, hv⟩]
      unfold seek
      rw [hf]
      rfl
    | none =>
      have hc : ¬ vars.contains w = true := fun z => by
        have : (vars.findIdx? fun x => x == w).isSome = true := by
          rw [List.findIdx?_isSome, List.any_eq_true]
          exact ⟨w, List.contains_iff_mem.mp z, by simp⟩
        rw [hf] at this
        cases this
      have ea : addVar vars w = vars ++ [w] := if_neg hc
      rw [ea, List.length_append, List.length_singleton]
      by_cases h : vars.length = 64
      · show (if vars.length = 64 then none else _) = _
        rw [if_pos h, if_neg (by omega)]
      · show (if vars.length = 64 then none else _) = _
        rw [if_neg h, if_pos ⟨rfl, by omega⟩]
        unfold seek
        rw [List.findIdx?_append, hf]
        simp
theorem seek_add {l : List Bytes} {w x : Bytes} (h : w ∈ l) : seek (addVar l x) w = seek l w := seek_ext (ns := [x]) h
theorem mem_add {l : List Bytes} {w x : Bytes} (h : w ∈ l) : w ∈ addVar l x := mem_ext (ns := [x]) h
theorem len_add (l : List Bytes) (x : Bytes) : l.length ≤ (addVar l x).length := len_ext l [x]
def lblOf : Line → Option Bytes
  | .goto n => some n
  | .cond _ n => some n
  | _ => none
def lineM (vars : List Bytes) (ws : List Bytes) : Option (Ins × List Bytes × Option Bytes) := match lineOf ws with
  | none => none
  | some x => if 64 < ((varsOf x).foldl addVar vars).length then none else some (insOf ⟨[], [], (varsOf x).foldl addVar vars⟩ x, (varsOf x).foldl addVar vars, lblOf x)
theorem kw_ne : ascii "print" ≠ ascii "goto" ∧ ascii "label" ≠ ascii "goto" ∧ ascii "label" ≠ ascii "print" := by decide +kernel
theorem insM_eq {vars : List Bytes} (hv : vars.length ≤ 64) (ws : List Bytes) (h : ¬ (ws.length = 2 ∧ ws.getD 0 [] = ascii "label")) : insM vars ws = lineM vars ws := by
  match ws, h with
  | [], _ => rfl
  | [a], _ =>
    have hv' : ¬ 64 < vars.length := by omega
    by_cases h : a = ascii "end"
    · simp [insM, lineM, lineOf, h, varsOf, insOf, lblOf, hv']
    · simp [insM, lineM, lineOf, h]
  | [a, b], h =>
    have hv' : ¬ 64 < vars.length := by omega
    have hl : ¬ a = ascii "label" := fun z => h ⟨rfl, z⟩
    obtain ⟨k1, k2, k3⟩ := kw_ne
    cases hn : isName b with
    | false => simp [insM, lineM, lineOf, varM, hn]
    | true =>
      by_cases hp : a = ascii "print"
      · subst hp
        by_cases l1 : (addVar vars b).length ≤ 64
        · have l2 : ¬ 64 < (addVar vars b).length := by omega
          simp [insM, lineM, lineOf, varM_eq hv, varsOf, lblOf, insOf, k1, hl, hn, l1, l2]
        · have l2 : 64 < (addVar vars b).length := by omega
          simp [insM, lineM, lineOf, varM_eq hv, varsOf, lblOf, insOf, k1, hl, hn, l1, l2]
      · by_cases hg : a = ascii "goto"
        · subst hg
          simp [insM, lineM, lineOf, varsOf, lblOf, insOf, hp, hl, hn, hv', place]
        · simp [insM, lineM, lineOf, hp, hl, hn, hg]
  | [d, e, a], _ =>
    by_cases he : e = ascii "="
    · subst he
      cases hd : isName d with
      | false => simp [insM, lineM, lineOf, givM, varM, hd]
      | true =>
        by_cases l1 : (addVar vars d).length ≤ 64
        · have l2 : ¬ 64 < (addVar vars d).length := by omega
          by_cases hr : a = ascii "read"
          · simp [insM, lineM, lineOf, givM, varM_eq hv, varsOf, lblOf, insOf, hd, l1, l2, hr]
          · cases hz : numberOf a with
            | some z => simp [insM, lineM, lineOf, givM, varM_eq hv, varsOf, lblOf, insOf, hd, l1, l2, hr, hz]
            | none =>
              cases ha : isName a with
              | false => simp [insM, lineM, lineOf, givM, varM_eq hv, varM_eq l1, hd, l1, l2, hr, hz, ha]
              | true =>
                have es : seek (addVar (addVar vars d) a) d = seek (addVar vars d) d := seek_add (mem_addVar _ _)
                by_cases l3 : (addVar (addVar vars d) a).length ≤ 64
                · have l4 : ¬ 64 < (addVar (addVar vars d) a).length := by omega
                  simp [insM, lineM, lineOf, givM, varM_eq hv, varM_eq l1, varsOf, lblOf, insOf, hd, l1, l2, l3, l4, hr, hz, ha, es]
                · have l4 : 64 < (addVar (addVar vars d) a).length := by omega
                  simp [insM, lineM, lineOf, givM, varM_eq hv, varM_eq l1, varsOf, lblOf, insOf, hd, l1, l2, l3, l4, hr, hz, ha]
        · have l2 : 64 < (addVar vars d).length := by omega
          have l4 : 64 < (addVar (addVar vars d) a).length := Nat.lt_of_lt_of_le l2 (len_add _ _)
          by_cases hr : a = ascii "read"
          · simp [insM, lineM, lineOf, givM, varM_eq hv, varsOf, hd, l1, l2, hr]
          · cases hz : numberOf a with
            | some z => simp [insM, lineM, lineOf, givM, varM_eq hv, varsOf, hd, l1, l2, hr, hz]
            | none =>
              cases ha : isName a with
              | false => simp [insM, lineM, lineOf, givM, varM_eq hv, varsOf, hd, l1, l2, hr, hz, ha]
              | true => simp [insM, lineM, lineOf, givM, varM_eq hv, varsOf, hd, l1, l2, l4, hr, hz, ha]
    · simp [insM, lineM, lineOf, he]
  | [i, a, g, n], _ =>
    by_cases he : a = ascii "="
    · subst he
      have hn : isName (ascii "=") = false := by decide +kernel
      simp [insM, lineM, lineOf, givM, hn]
    · by_cases hi : i = ascii "if"
      · by_cases hg : g = ascii "goto"
        · cases ha : isName a with
          | false => simp [insM, lineM, lineOf, varM, he, hi, hg, ha]
          | true =>
            cases hn : isName n with
            | false => simp [insM, lineM, lineOf, he, hi, hg, ha, hn]
            | true =>
              by_cases l1 : (addVar vars a).length ≤ 64
              · have l2 : ¬ 64 < (addVar vars a).length := by omega
                simp [insM, lineM, lineOf, varM_eq hv, varsOf, lblOf, insOf, he, hi, hg, ha, hn, l1, l2, place]
              · have l2 : 64 < (addVar vars a).length := by omega
                simp [insM, lineM, lineOf, varM_eq hv, varsOf, lblOf, insOf, he, hi, hg, ha, hn, l1, l2]
        · simp [insM, lineM, lineOf, he, hg]
      · simp [insM, lineM, lineOf, he, hi]
  | [d, e, a, o, b], _ =>
    by_cases he : e = ascii "="
    · subst he
      cases hk : ops.findIdx? (fun x => x == o) with
      | none => simp [insM, lineM, lineOf, givM, hk]
      | some k =>
        cases hd : isName d with
        | false => simp [insM, lineM, lineOf, givM, varM, hd]
        | true =>
          by_cases l1 : (addVar vars d).length ≤ 64
          · cases ha : isName a with
            | false => simp [insM, lineM, lineOf, givM, varM_eq hv, varM_eq l1, hd, l1, ha, hk]
            | true =>
              by_cases l3 : (addVar (addVar vars d) a).length ≤ 64
              · cases hb : isName b with
                | false => simp [insM, lineM, lineOf, givM, varM_eq hv, varM_eq l1, varM_eq l3, hd, l1, l3, ha, hb, hk]
                | true =>
                  have es : seek (addVar (addVar (addVar vars d) a) b) d = seek (addVar vars d) d := (seek_add (mem_add (mem_addVar _ _))).trans (seek_add (mem_addVar _ _))
                  have es2 : seek (addVar (addVar (addVar vars d) a) b) a = seek (addVar (addVar vars d) a) a := seek_add (mem_addVar _ _)
                  by_cases l5 : (addVar (addVar (addVar vars d) a) b).length ≤ 64
                  · have l6 : ¬ 64 < (addVar (addVar (addVar vars d) a) b).length := by omega
                    simp [insM, lineM, lineOf, givM, varM_eq hv, varM_eq l1, varM_eq l3, varsOf, lblOf, insOf, hd, l1, l3, l5, l6, ha, hb, hk, es, es2]
                  · have l6 : 64 < (addVar (addVar (addVar vars d) a) b).length := by omega
                    simp [insM, lineM, lineOf, givM, varM_eq hv, varM_eq l1, varM_eq l3, varsOf, lblOf, insOf, hd, l1, l3, l5, l6, ha, hb, hk]
              · have l6 : 64 < (addVar (addVar (addVar vars d) a) b).length := Nat.lt_of_lt_of_le (by omega) (len_add _ _)
                cases hb : isName b with
                | false => simp [insM, lineM, lineOf, givM, varM_eq hv, varM_eq l1, hd, l1, l3, ha, hb, hk]
                | true => simp [insM, lineM, lineOf, givM, varM_eq hv, varM_eq l1, varsOf, hd, l1, l3, l6, ha, hb, hk]
          · have l4 : 64 < (addVar (addVar vars d) a).length := Nat.lt_of_lt_of_le (by omega) (len_add _ _)
            have l6 : 64 < (addVar (addVar (addVar vars d) a) b).length := Nat.lt_of_lt_of_le l4 (len_add _ _)
            cases ha : isName a with
            | false => simp [insM, lineM, lineOf, givM, varM_eq hv, hd, l1, ha, hk]
            | true =>
              cases hb : isName b with
              | false => simp [insM, lineM, lineOf, givM, varM_eq hv, hd, l1, ha, hb, hk]
              | true => simp [insM, lineM, lineOf, givM, varM_eq hv, varsOf, hd, l1, l6, ha, hb, hk]
    · simp [insM, lineM, lineOf, he]
  | a :: b :: c :: d :: e :: f :: r, _ =>
    simp [insM, lineM, lineOf, givM]
end My

set_option Elab.async false
set_option linter.all false
set_option maxRecDepth 100000
set_option maxHeartbeats 1000000
namespace My
open PySem L2
def insFs (kd : Str) (us gv nu op pl : V) : List (Str × V) := putF "place" pl (putF "operator" op (putF "number" nu (putF "given" gv (putF "used" us (putF "kind" (.str kd) [])))))
section
variable {kd : Str} {us gv nu op pl : V}
theorem if_place : (insFs kd us gv nu op pl).lookup ("place" : Str) = some pl := by
  unfold insFs
  rw [lookup_putF, if_pos rfl]
theorem if_operator : (insFs kd us gv nu op pl).lookup ("operator" : Str) = some op := by
  unfold insFs
  rw [lookup_putF, if_neg (by decide +kernel), lookup_putF, if_pos rfl]
theorem if_number : (insFs kd us gv nu op pl).lookup ("number" : Str) = some nu := by
  unfold insFs
  rw [lookup_putF, if_neg (by decide +kernel), lookup_putF, if_neg (by decide +kernel), lookup_putF, if_pos rfl]
theorem if_given : (insFs kd us gv nu op pl).lookup ("given" : Str) = some gv := by
  unfold insFs
  rw [lookup_putF, if_neg (by decide +kernel), lookup_putF, if_neg (by decide +kernel), lookup_putF, if_neg (by decide +kernel), lookup_putF, if_pos rfl]
theorem if_used : (insFs kd us gv nu op pl).lookup ("used" : Str) = some us := by
  unfold insFs
  rw [lookup_putF, if_neg (by decide +kernel), lookup_putF, if_neg (by decide +kernel), lookup_putF, if_neg (by decide +kernel), lookup_putF, if_neg (by decide +kernel), lookup_putF, if_pos rfl]
theorem if_kind : (insFs kd us gv nu op pl).lookup ("kind" : Str) = some (.str kd) := by
  unfold insFs
  rw [lookup_putF, if_neg (by decide +kernel), lookup_putF, if_neg (by decide +kernel), lookup_putF, if_neg (by decide +kernel), lookup_putF, if_neg (by decide +kernel), lookup_putF, if_neg (by decide +kernel), lookup_putF, if_pos rfl]
end
theorem putF_putF (f : Str) (u v : V) : ∀ fs : List (Str × V), putF f v (putF f u fs) = putF f v fs
  | [] => by
    show (if f = f then [(f, v)] else _) = [(f, v)]
    rw [if_pos rfl]
  | (g, x) :: r => by
    show putF f v (if g = f then (g, u) :: r else (g, x) :: putF f u r) = (if g = f then (g, v) :: r else (g, x) :: putF f v r)
    by_cases h : g = f
    · rw [if_pos h, if_pos h]
      show (if g = f then (g, v) :: r else _) = _
      rw [if_pos h]
    · rw [if_neg h, if_neg h]
      show (if g = f then _ else (g, x) :: putF f v (putF f u r)) = _
      rw [if_neg h, putF_putF f u v r]
theorem putF_len (f : Str) (v : V) : ∀ fs : List (Str × V), (putF f v fs).length ≤ fs.length + 1
  | [] => Nat.le_refl _
  | (g, x) :: r => by
    show (if g = f then (g, v) :: r else (g, x) :: putF f v r).length ≤ _
    have := putF_len f v r
    split <;> simp only [List.length_cons] <;> omega
theorem insFs_len (kd : Str) (us gv nu op pl : V) : (insFs kd us gv nu op pl).length ≤ 6 := by
  unfold insFs
  have h := fun f v fs => putF_len f v fs
  refine Nat.le_trans (h _ _ _) (Nat.succ_le_succ (Nat.le_trans (h _ _ _) (Nat.succ_le_succ (Nat.le_trans (h _ _ _) (Nat.succ_le_succ (Nat.le_trans (h _ _ _) (Nat.succ_le_succ (Nat.le_trans (h _ _ _) (Nat.succ_le_succ (Nat.le_trans (h _ _ _) ?_))))))))))
  decide
theorem insFs_put (kd : Str) (us gv nu op pl pl' : V) : putF "place" pl' (insFs kd us gv nu op pl) = insFs kd us gv nu op pl' := putF_putF _ _ _ _
def rdFs (ln li va la ju : V) : List (Str × V) := [("line", ln), ("instructions", li), ("variables", va), ("labels", la), ("jumps", ju)]
section
variable {ln li va la ju ln' : V}
theorem rf_line : (rdFs ln li va la ju).lookup ("line" : Str) = some ln := rfl
theorem rf_ins : (rdFs ln li va la ju).lookup ("instructions" : Str) = some li := rfl
theorem rf_var : (rdFs ln li va la ju).lookup ("variables" : Str) = some va := rfl
theorem rf_lab : (rdFs ln li va la ju).lookup ("labels" : Str) = some la := rfl
theorem rf_jum : (rdFs ln li va la ju).lookup ("jumps" : Str) = some ju := rfl
theorem rf_put : putF "line" ln' (rdFs ln li va la ju) = rdFs ln' li va la ju := rfl
theorem rf_m1 : (rdFs ln li va la ju).lookup ("take_line" : Str) = none := rfl
theorem rf_m2 : (rdFs ln li va la ju).lookup ("take_label" : Str) = none := rfl
theorem rf_m3 : (rdFs ln li va la ju).lookup ("take_instruction" : Str) = none := rfl
theorem rf_m4 : (rdFs ln li va la ju).lookup ("instruction_of" : Str) = none := rfl
theorem rf_m5 : (rdFs ln li va la ju).lookup ("giving_of" : Str) = none := rfl
theorem rf_m6 : (rdFs ln li va la ju).lookup ("variable_of" : Str) = none := rfl
theorem rf_m7 : (rdFs ln li va la ju).lookup ("jump_to" : Str) = none := rfl
theorem rf_m8 : (rdFs ln li va la ju).lookup ("find_places" : Str) = none := rfl
end
section
variable {P : Program} {w : World} {K : PySem.W.Frag} {mg : Str → Option Value} {base : Heap} {t : Ad}
theorem sc_xinit : FnScope ["self", "line"] ["self", "line"] (defScope s_WrongLine___init__) := sc_mk
theorem ok_xinit (T : Txt K mg t) : FnOk P w K mg base CX0 1 t.f_WrongLine___init__ t.d_WrongLine___init__ ["self", "line"] (spXInit t.C_WrongLine) := by
  refine T.F_WrongLine___init__.ok sc_xinit (fun vs H Q E h => ?_) (fun _ A _ s H vs Q E hr h => ?_)
  · obtain ⟨a, x, n, rfl, _⟩ := h
    rfl
  · obtain ⟨a, x, n, rfl, ha, k⟩ := h
    refine ⟨_, pss_one (ps_xline T.xc (pv 0) (pv 1) rfl), ?_⟩
    exact ⟨_, rfl, _, rfl, a, x, n, rfl, rfl, ha, k⟩
end
end My

set_option Elab.async false
set_option linter.all false
set_option maxRecDepth 100000
set_option maxHeartbeats 1000000
namespace My
open PySem L2
def kindS : Sz43.Ins → Str
  | .num _ _ => "number"
  | .copy _ _ => "copy"
  | .op _ _ _ _ => "operator"
  | .read _ => "read"
  | .print _ => "print"
  | .goto _ => "goto"
  | .cond _ _ => "if"
  | .stop => "end"
def givV (i : Sz43.Ins) : V := match Sz43.givesOf i with
  | some d => .int (d : Int)
  | none => .non
def numV : Sz43.Ins → V
  | .num _ z => .int z
  | _ => .non
def usedV (i : Sz43.Ins) : List V := iw (Sz43.usesOf i)
def OpAt (H : Hp) (op : V) : Sz43.Ins → Prop
  | .op k _ _ _ => k < 12 ∧ ∃ q, op = .ref q ∧ H q = some (.tup (iw (Sz43.ops.getD k [])))
  | _ => op = .non
/-- an instruction at a -/
def InsAt (t : Ad) (H : Hp) (a : Addr) (i : Sz43.Ins) (pl : V) : Prop := ∃ (dx u : Addr) (op : V), H a = some (.ins t.C_Instruction dx (insFs (kindS i) (.ref u) (givV i) (numV i) op pl)) ∧ H u = some (.tup (usedV i)) ∧ OpAt H op i
theorem OpAt.mono {H H' : Hp} {op : V} {i : Sz43.Ins} (h : OpAt H op i) (k : ∀ b xs, H b = some (.tup xs) → H' b = some (.tup xs)) : OpAt H' op i := by
  cases i with
  | op n d a b => obtain ⟨h1, q, h2, h3⟩ := h; exact ⟨h1, q, h2, k _ _ h3⟩
  | _ => exact h
theorem InsAt.mono {t : Ad} {H H' : Hp} {a : Addr} {i : Sz43.Ins} {pl : V} (h : InsAt t H a i pl) (k : ∀ b xs, H b = some (.tup xs) → H' b = some (.tup xs)) (ka : ∀ C dx fs, H a = some (.ins C dx fs) → H' a = some (.ins C dx fs)) : InsAt t H' a i pl := by
  obtain ⟨dx, u, op, h1, h2, h3⟩ := h
  exact ⟨dx, u, op, ka _ _ _ h1, k _ _ h2, h3.mono k⟩
structure RA where
  dx : Addr
  li : Addr
  va : Addr
  la : Addr
  ju : Addr
def varKs (vars : List (List Nat)) : List (List Key × V) := vars.zipIdx.map fun x => (kw x.1, .int (x.2 : Int))
def labKs (labs : List (List Nat × Nat)) : List (List Key × V) := labs.map fun x => (kw x.1, .int (x.2 : Int))
/-- a Reading at r -/
structure Raw (t : Ad) (H : Hp) (r : Addr) (A : RA) (ln : Nat) (is : List Addr) (vars : List (List Nat)) (labs : List (List Nat × Nat)) (js : List Addr) : Prop where
  ob : H r = some (.ins t.C_Reading A.dx (rdFs (.int (ln : Int)) (.ref A.li) (.ref A.va) (.ref A.la) (.ref A.ju)))
  lst : H A.li = some (.lst (is.map V.ref))
  var : H A.va = some (.dT (varKs vars))
  lab : H A.la = some (.dT (labKs labs))
  jum : H A.ju = some (.lst (js.map V.ref))
  nij : A.li ≠ A.ju
  nvl : A.va ≠ A.la
/-- all else is as it was -/
def Keep (r : Addr) (A : RA) (H H' : Hp) : Prop := ∀ b o, H b = some o → b ≠ r → b ≠ A.li → b ≠ A.va → b ≠ A.la → b ≠ A.ju → H' b = some o
theorem Keep.trans {r : Addr} {A : RA} {H H1 H2 : Hp} (a : Keep r A H H1) (b : Keep r A H1 H2) : Keep r A H H2 := fun c o e h1 h2 h3 h4 h5 => b c o (a c o e h1 h2 h3 h4 h5) h1 h2 h3 h4 h5
theorem Keep.same {r : Addr} {A : RA} {H H1 : Hp} (a : Same H H1) : Keep r A H H1 := fun c o e _ _ _ _ _ => a c o e
section
variable {t : Ad} {H H' : Hp} {r : Addr} {A : RA} {ln : Nat} {is js : List Addr} {vars : List (List Nat)} {labs : List (List Nat × Nat)}
theorem Raw.same (R : Raw t H r A ln is vars labs js) (s : Same H H') : Raw t H' r A ln is vars labs js := ⟨s _ _ R.ob, s _ _ R.lst, s _ _ R.var, s _ _ R.lab, s _ _ R.jum, R.nij, R.nvl⟩
theorem Raw.keep_tup (R : Raw t H r A ln is vars labs js) (k : Keep r A H H') {b : Addr} {xs : List V} (e : H b = some (.tup xs)) : H' b = some (.tup xs) :=
  k b _ e (ne_of e R.ob (by intro z; cases z)) (ne_of e R.lst (by intro z; cases z)) (ne_of e R.var (by intro z; cases z)) (ne_of e R.lab (by intro z; cases z)) (ne_of e R.jum (by intro z; cases z))
theorem Raw.keep_lst (R : Raw t H r A ln is vars labs js) (k : Keep r A H H') {b : Addr} {xs : List V} (e : H b = some (.lst xs)) (n1 : b ≠ A.li) (n2 : b ≠ A.ju) : H' b = some (.lst xs) :=
  k b _ e (ne_of e R.ob (by intro z; cases z)) n1 (ne_of e R.var (by intro z; cases z)) (ne_of e R.lab (by intro z; cases z)) n2
theorem Raw.keep_line (R : Raw t H r A ln is vars labs js) (k : Keep r A H H') {q : Addr} {ws : List (List Nat)} (h : LineAt H q ws) (n1 : q ≠ A.li) (n2 : q ≠ A.ju) : LineAt H' q ws :=
  h.mono (fun _ _ e => R.keep_tup k e) fun _ e => R.keep_lst k e n1 n2
theorem Raw.keep_ins (R : Raw t H r A ln is vars labs js) (k : Keep r A H H') {b C dx : Addr} {fs : List (Str × V)} (e : H b = some (.ins C dx fs)) (n : b ≠ r) : H' b = some (.ins C dx fs) :=
  k b _ e n (ne_of e R.lst (by intro z; cases z)) (ne_of e R.var (by intro z; cases z)) (ne_of e R.lab (by intro z; cases z)) (ne_of e R.jum (by intro z; cases z))
end
theorem find_zip (w : List Nat) : ∀ (vars : List (List Nat)) (n : Nat), valV ((vars.zipIdx n).map fun x => (kw x.1, V.int (x.2 : Int))) (kw w) = (vars.findIdx? fun x => x == w).map fun i => V.int ((n + i : Nat) : Int)
  | [], _ => rfl
  | v :: r, n => by
    rw [List.zipIdx_cons, List.map_cons, List.findIdx?_cons]
    by_cases e : v = w
    · subst e
      rw [valV_pos rfl]
      simp
    · have e1 : ¬ kw v = kw w := fun z => e (kw_inj z)
      have e2 : (v == w) = false := by simpa using e
      rw [valV_neg e1, find_zip w r (n + 1), e2]
      simp only [Bool.false_eq_true, if_false, Option.map_map]
      congr 1
      funext i
      show V.int ((n + 1 + i : Nat) : Int) = V.int ((n + (i + 1) : Nat) : Int)
      rw [Nat.add_assoc, Nat.add_comm 1 i]
theorem var_val (vars : List (List Nat)) (w : List Nat) : valV (varKs vars) (kw w) = (vars.findIdx? fun x => x == w).map fun (i : Nat) => V.int (i : Int) := by
  have := find_zip w vars 0
  simp only [Nat.zero_add] at this
  exact this
theorem lab_val (w : List Nat) : ∀ labs : List (List Nat × Nat), valV (labKs labs) (kw w) = (Sz43.place labs w).map fun (n : Nat) => V.int (n : Int)
  | [] => rfl
  | (v, n) :: r => by
    have ih := lab_val w r
    unfold labKs Sz43.place at ih ⊢
    rw [List.map_cons, List.find?_cons]
    by_cases e : v = w
    · subst e
      rw [valV_pos rfl]
      simp
    · have e1 : ¬ kw v = kw w := fun z => e (kw_inj z)
      have e2 : (v == w) = false := by simpa using e
      rw [valV_neg e1, ih, e2]
theorem put_new {kvs : List (List Key × V)} {k : List Key} {v : V} (h : valV kvs k = none) : putK kvs k v = kvs ++ [(k, v)] := by
  unfold putK
  rw [if_neg]
  rw [valV_any, h]
  simp
theorem varKs_snoc (vars : List (List Nat)) (w : List Nat) : varKs (vars ++ [w]) = varKs vars ++ [(kw w, .int (vars.length : Int))] := by
  unfold varKs
  rw [List.zipIdx_append, List.map_append]
  simp
theorem labKs_snoc (labs : List (List Nat × Nat)) (w : List Nat) (n : Nat) : labKs (labs ++ [(w, n)]) = labKs labs ++ [(kw w, .int (n : Int))] := by
  unfold labKs
  rw [List.map_append]
  rfl
theorem varKs_len (vars : List (List Nat)) : (varKs vars).length = vars.length := by
  unfold varKs
  rw [List.length_map, List.length_zipIdx]
theorem labKs_len (labs : List (List Nat × Nat)) : (labKs labs).length = labs.length := List.length_map _
section
variable {prog : Program} {w : World} {A : Around} {E : Value → Shared → Prop} {s : Shared}
theorem meets_len_raw {d : Addr} {n : Nat} (hd : (d == sysModules) = false) :
    MeetsIn prog w (Builtin.«dict.__len__» ⟨[.ref d], []⟩) (fun _ R s => (∃ o es ep, s.heap.get? d = some o ∧ o.data = .dict es ep ∧ es.size = n) ∧ R (.ok (.ret (.int (n : Int) s.toks))) { s with toks := s.toks + 1 }) :=
  .of_wp fun A R s ⟨⟨o, es, ep, ho, hdat, hn⟩, h⟩ => by
    show wpAny _ _ (dictSize d >>= _) _ _ s
    unfold dictSize
    refine wpAny_bind (wpAny_bind (wpAny_dictEntries ho hdat (wpAny_pure ?_)))
    show wpAny _ _ (Builtin.Dict.pendingCount d >>= _) _ _ s
    refine wpAny_bind (wpAny_pendingCount_other hd ?_)
    refine wpAny_ret_mkInt ?_
    rw [Nat.add_zero, hn]
    exact h
theorem len_raw {d : Addr} {n : Nat} {Q : Value → Shared → Prop} (hd : (d == sysModules) = false) (hm : ∃ o es ep, s.heap.get? d = some o ∧ o.ExactDict ∧ o.data = .dict es ep ∧ es.size = n) (hfit : (n : Int) < 2 ^ 63)
    (h : Q (.int n (s.toks + 1)) { s with toks := s.toks + 1 + 1 }) : wpAny (model prog w) A (call (.builtin "len") [.ref d]) Q E s := by
  obtain ⟨o, es, ep, ho, hx, hdat, hn⟩ := hm
  have ty : s.TypeIs (.ref d) "dict" := ⟨o, ho, hx.1⟩
  refine Calls.call_function_entry kind_len plain_len entry_len (args_len1 _) ?_
  unfold Builtin.«len»
  refine wpAny_bind (m := oneArg "len" _) (wpAny_pure ?_)
  refine wpAny_bind (m := callSpecial? (.ref d) (Str.ofString "__len__")) (wpAny_callSpecial?_slot (name := Str.ofString "__len__") ty F.slot_dict_len
    (call_meetsIn F.slot_dict_len ty F.entry_dict_len (F.args_dict_len_1 _) (meets_len_raw (n := n) hd) ⟨⟨o, es, ep, ho, hdat, hn⟩, ?_⟩))
  show wpAny _ _ _ _ _ { s with toks := s.toks + 1 }
  refine wpAny_bind (wpAny_holding (wpAny_pure ?_))
  refine wpAny_bind (wpAny_letGo ?_)
  show wpAny _ _ (if ((n : Nat) : Int) < 0 then _ else _) _ _ _
  rw [if_neg (by omega)]
  show wpAny _ _ (if ((n : Nat) : Int) ≥ 2 ^ 63 then _ else _) _ _ _
  rw [if_neg (by omega)]
  exact wpAny_bind (wpAny_mkInt (wpAny_pure ⟨_, rfl, h⟩))
end
section
variable {X : Cx}
/-- len of a dict with tuples for keys -/
theorem call_lenT : CallR X (.builtin "len") (fun xs H Q => ∃ a kvs, xs = [V.ref a] ∧ H a = some (.dT kvs) ∧ Q (.int kvs.length) H) := by
  intro pins s σ H xs us Q I r h
  obtain ⟨a, kvs, rfl, ha, q⟩ := h
  obtain ⟨u, rfl, ru⟩ := vals1 r
  cases ru
  obtain ⟨z, hd, xs, rel, o, es, ep, ho, hx, hdat, he, _⟩ := I.hok a _ ha
  have e1 : es.size = kvs.length := by
    have h1 : kvs.length = xs.length := Paired.length rel
    rw [h1, ← Array.length_toList, he, List.length_map]
  exact len_raw hd ⟨o, es, ep, ho, hx, hdat, e1⟩ (by rw [sizeLine_eq] at z; omega) ⟨.int kvs.length, H, I.tok _, ⟨_, rfl⟩, q⟩
end
end My

set_option Elab.async false
set_option linter.all false
set_option maxRecDepth 100000
set_option maxHeartbeats 1000000
namespace My
open PySem L2
inductive spVar (t : Ad) (vs : List V) (H : Hp) (Q : VK) (E : XK) : Prop
  | mk (r : Addr) (A : RA) (ln : Nat) (is : List Addr) (vars : List (List Nat)) (labs : List (List Nat × Nat)) (js : List Addr) (p : Addr) (w : List Nat) : vs = [.ref r, .ref p] → Raw t H r A ln is vars labs js → H p = some (.tup (iw w)) → w ≠ [] → vars.length ≤ 64 → ((varM vars w = none → ∀ H', E (.int (ln : Int) 0) none H')) → ((∀ x, varM vars w = some x → ∀ H', Raw t H' r A ln is x.2 labs js → Keep r A H H' → Q (.int (x.1 : Int)) H')) → spVar t vs H Q E
section
variable {P : Program} {w : World} {K : PySem.W.Frag} {mg : Str → Option Value} {base : Heap} {t : Ad}
theorem sc_variable_of : FnScope ["self", "word"] ["self", "word"] (defScope s_Reading_variable_of) := sc_mk
theorem ok_variable_of (T : Txt K mg t) : FnOk P w K mg base (CXE P w t.C_WrongLine) 4 t.f_Reading_variable_of t.d_Reading_variable_of ["self", "word"] (spVar t) := by
  refine T.F_Reading_variable_of.okX sc_variable_of (fun vs H Q E h => ?_) (fun _ A _ s H vs Q E hr h => ?_)
  · obtain ⟨_, _, _, _, _, _, _, _, _, rfl, _⟩ := h
    rfl
  · obtain ⟨r, Ad, ln, is, vars, labs, js, p, u, rfl, R, hp, hn, hv, kE, k⟩ := h
    have hr2 := hr.mono (show 2 ≤ 3 by decide)
    have hu := hu_of hr
    refine ⟨_, pss_cons (ps_if (pt_not (pt_val (pe_call (ok_is_name T) hr rfl T.g_is_name T.F_is_name.kp (b_is_name T) .nil pass0 (pa_cons (pv 1) pa_nil)))) (pss_one (ps_raise T.xc (ok_xinit T) (b_WrongLine___init__ T) hr2 rfl rfl rfl rfl T.gc_WrongLine (pe_fld (pv 0) rfl))) pss_nil)
      (pss_cons (ps_if (pt_cmp (pc_dnotin hu (pv 1) (pe_fld (pv 0) rfl)))
        (pss_cons (ps_if (pt_cmpR op_eq (pe_callB call_lenT rfl T.n_len PySem.boot_len (pa_cons (pe_fld (pv 0) rfl) pa_nil)) (pe_cint T.c_MOST_VARIABLES rfl) (nomark _)) (pss_one (ps_raise T.xc (ok_xinit T) (b_WrongLine___init__ T) hr2 rfl rfl rfl rfl T.gc_WrongLine (pe_fld (pv 0) rfl))) pss_nil)
          (pss_one (ps_dput hu (pe_fld (pv 0) rfl) (pv 1) (pe_callB call_lenT rfl T.n_len PySem.boot_len (pa_cons (pe_fld (pv 0) rfl) pa_nil)) rfl))) pss_nil)
      (pss_one (ps_ret (pe_dget hu (pe_fld (pv 0) rfl) (pv 1) (fun _ _ => rfl))))), ?_⟩
    refine ⟨_, rfl, p, u, rfl, hp, hn, fun H1 s1 => ⟨_, rfl, ?_⟩⟩
    have R1 := R.same s1
    have hp1 := s1 _ _ hp
    have hk1 : H1 p = some (.tup ((kw u).map kV)) := by rw [kw_iw]; exact hp1
    refine ite2 (fun c1 => ?_) (fun c1 => ?_)
    · have e : varM vars u = none := by
        unfold varM
        rw [if_pos (by simpa using c1)]
      exact ⟨_, rfl, r, _, _, _, _, rfl, R1.ob, T.cl_Reading, T.na_Reading_line, rf_line, _, rfl, kE e H1⟩
    have nm : ¬ Sz43.isName u = false := by
      intro z
      rw [z] at c1
      exact c1 rfl
    refine ⟨_, rfl, _, rfl, r, _, _, _, _, rfl, R1.ob, T.cl_Reading, T.na_Reading_variables, rf_var, _, _, rfl, DGet.t R1.var hk1, _, rfl, ?_⟩
    rw [var_val]
    cases hf : vars.findIdx? (fun x => x == u) with
    | some i =>
      refine iteF ?_
      have e : varM vars u = some (i, vars) := by
        unfold varM
        rw [if_neg nm, hf]
      refine ⟨_, rfl, r, _, _, _, _, rfl, R1.ob, T.cl_Reading, T.na_Reading_variables, rf_var, _, rfl, _, _, rfl, ?_, k _ e H1 R1 (Keep.same s1)⟩
      have := DGet.t R1.var hk1
      rw [var_val, hf] at this
      exact this
    | none =>
      refine iteT ?_
      refine ⟨_, rfl, r, _, _, _, _, rfl, R1.ob, T.cl_Reading, T.na_Reading_variables, rf_var, _, _, rfl, R1.var, rfl, _, rfl, ?_⟩
      rw [varKs_len]
      refine ite2 (fun c2 => ?_) (fun c2 => ?_)
      · have l : vars.length = 64 := by
          have := of_decide_eq_true c2
          injection this with this
          omega
        have e : varM vars u = none := by
          unfold varM
          rw [if_neg nm, hf]
          show (if vars.length = 64 then none else _) = none
          rw [if_pos l]
        exact ⟨_, rfl, r, _, _, _, _, rfl, R1.ob, T.cl_Reading, T.na_Reading_line, rf_line, _, rfl, kE e H1⟩
      · have l : ¬ vars.length = 64 := fun z => by
          rw [z] at c2
          exact c2 rfl
        have e : varM vars u = some (vars.length, vars ++ [u]) := by
          unfold varM
          rw [if_neg nm, hf]
          show (if vars.length = 64 then none else _) = _
          rw [if_neg l]
        have hnv : valV (varKs vars) (kw u) = none := by rw [var_val, hf]; rfl
        refine ⟨_, rfl, r, _, _, _, _, rfl, R1.ob, T.cl_Reading, T.na_Reading_variables, rf_var, _, _, rfl, R1.var, _, rfl, r, _, _, _, _, rfl, R1.ob, T.cl_Reading, T.na_Reading_variables, rf_var, _, rfl, _, _, rfl, DPut.t R1.var hk1 (by rw [varKs_len, sizeLine_eq]; omega), ?_⟩
        rw [put_new hnv, varKs_len, ← varKs_snoc]
        have n1 : r ≠ Ad.va := ne_of R1.ob R1.var (by intro z; cases z)
        have n2 : p ≠ Ad.va := ne_of hp1 R1.var (by intro z; cases z)
        have R2 : Raw t (upd H1 Ad.va (.dT (varKs (vars ++ [u])))) r Ad ln is (vars ++ [u]) labs js := ⟨by rw [upd_ne n1]; exact R1.ob, by rw [upd_ne (ne_of R1.lst R1.var (by intro z; cases z))]; exact R1.lst, upd_same, by rw [upd_ne R1.nvl.symm]; exact R1.lab, by rw [upd_ne (ne_of R1.jum R1.var (by intro z; cases z))]; exact R1.jum, R1.nij, R1.nvl⟩
        have hk2 : (upd H1 Ad.va (.dT (varKs (vars ++ [u])))) p = some (.tup ((kw u).map kV)) := by rw [upd_ne n2]; exact hk1
        refine ⟨_, rfl, r, _, _, _, _, rfl, R2.ob, T.cl_Reading, T.na_Reading_variables, rf_var, _, rfl, _, _, rfl, ?_, k _ e _ R2 ((Keep.same s1).trans fun b o e _ _ n _ _ => by rw [upd_ne n]; exact e)⟩
        have := DGet.t R2.var hk2
        rw [var_val] at this
        have ef : ((vars ++ [u]).findIdx? fun x => x == u) = some vars.length := by
          rw [List.findIdx?_append, hf]
          simp
        rw [ef] at this
        exact this
end
end My

set_option Elab.async false
set_option linter.all false
set_option maxRecDepth 100000
set_option maxHeartbeats 1000000
namespace My
open PySem L2
def insPs : List Str := ["self", "kind", "used", "given", "number", "operator", "place"]
inductive spIns (t : Ad) (vs : List V) (H : Hp) (Q : VK) (e0 : XK) : Prop
  | mk (a dx : Addr) (kd : Str) (us gv nu op pl : V) : vs = [.ref a, .str kd, us, gv, nu, op, pl] → H a = some (.ins t.C_Instruction dx []) → (∀ H', H' a = some (.ins t.C_Instruction dx (insFs kd us gv nu op pl)) → (∀ b, b ≠ a → H' b = H b) → Q .non H') → spIns t vs H Q e0
noncomputable def g1 {α : Type} (n : α) : List α → List α → List α
  | [a, b, c], [d] => [a, b, c, d, n, n, n]
  | _, _ => []
noncomputable def g2 {α : Type} (n : α) : List α → List α → List α
  | [a, b, c], [d, e] => [a, b, c, d, e, n, n]
  | _, _ => []
noncomputable def g3 {α : Type} (n : α) : List α → List α → List α
  | [a, b, c], [d, e] => [a, b, c, d, n, e, n]
  | _, _ => []
section
variable {P : Program} {w : World} {K : PySem.W.Frag} {mg : Str → Option Value} {base : Heap} {t : Ad}
theorem sc_ins : FnScope insPs insPs (defScope s_Instruction___init__) := sc_mk
theorem ok_ins (T : Txt K mg t) : FnOk P w K mg base CX0 1 t.f_Instruction___init__ t.d_Instruction___init__ insPs (spIns t) := by
  obtain ⟨oc, od, kV, doc, pm, an, cdv, ct, osl, e, lk, hcd⟩ := T.F_Instruction___init__
  rw [e] at lk ⊢
  refine fn_of lk hcd sc_ins (fun vs H Q E h => ?_) fun A outer s H vs Q E hr h => ?_
  · obtain ⟨_, _, _, _, _, _, _, _, rfl, _⟩ := h
    rfl
  · obtain ⟨a, dx, kd, us, gv, nu, op, pl, rfl, ha, k⟩ := h
    refine ⟨_, PSs.nox (pss_cons (ps_fld (pv 0) (pv 1) rfl) (pss_cons (ps_fld (pv 0) (pv 2) rfl) (pss_cons (ps_fld (pv 0) (pv 3) rfl) (pss_cons (ps_fld (pv 0) (pv 4) rfl) (pss_cons (ps_fld (pv 0) (pv 5) rfl) (pss_one (ps_fld (pv 0) (pv 6) rfl))))))), ?_⟩
    have c := T.cl_Instruction
    have small : ∀ (n : Nat) (fs : List (Str × V)), fs.length ≤ n → n < 1000 → fs.length < 1000 := fun n fs h1 h2 => Nat.lt_of_le_of_lt h1 h2
    refine ⟨_, rfl, _, rfl, a, _, dx, _, rfl, ha, c, T.na_Instruction_kind, (by show 0 < 1000; decide), ?_⟩
    refine ⟨_, rfl, _, rfl, a, _, dx, _, rfl, upd_same, c, T.na_Instruction_used, small 1 _ (putF_len _ _ _) (by decide), ?_⟩
    refine ⟨_, rfl, _, rfl, a, _, dx, _, rfl, upd_same, c, T.na_Instruction_given, small 2 _ (Nat.le_trans (putF_len _ _ _) (Nat.succ_le_succ (putF_len _ _ _))) (by decide), ?_⟩
    refine ⟨_, rfl, _, rfl, a, _, dx, _, rfl, upd_same, c, T.na_Instruction_number, small 3 _ (Nat.le_trans (putF_len _ _ _) (Nat.succ_le_succ (Nat.le_trans (putF_len _ _ _) (Nat.succ_le_succ (putF_len _ _ _))))) (by decide), ?_⟩
    refine ⟨_, rfl, _, rfl, a, _, dx, _, rfl, upd_same, c, T.na_Instruction_operator, small 4 _ (Nat.le_trans (putF_len _ _ _) (Nat.succ_le_succ (Nat.le_trans (putF_len _ _ _) (Nat.succ_le_succ (Nat.le_trans (putF_len _ _ _) (Nat.succ_le_succ (putF_len _ _ _))))))) (by decide), ?_⟩
    refine ⟨_, rfl, _, rfl, a, _, dx, _, rfl, upd_same, c, T.na_Instruction_place, small 5 _ (Nat.le_trans (putF_len _ _ _) (Nat.succ_le_succ (Nat.le_trans (putF_len _ _ _) (Nat.succ_le_succ (Nat.le_trans (putF_len _ _ _) (Nat.succ_le_succ (Nat.le_trans (putF_len _ _ _) (Nat.succ_le_succ (putF_len _ _ _))))))))) (by decide), ?_⟩
    exact k _ upd_same fun b hb => by rw [upd_ne hb, upd_ne hb, upd_ne hb, upd_ne hb, upd_ne hb, upd_ne hb]
theorem b_ins2 (T : Txt K mg t) : Binds K t.d_Instruction___init__ insPs [.none, .none, .none, .none] := by
  obtain ⟨oc, od, kV, doc, pm, an, cdv, ct, osl, e, lk, hcd⟩ := T.F_Instruction___init__
  obtain ⟨o, n, ho, hs⟩ := T.dfl
  rw [e]
  intro s us X hl
  have h3 : us.length = 3 := by
    rw [List.length_append] at hl
    simp [insPs] at hl
    omega
  obtain ⟨x, y, z, rfl⟩ := len3 h3
  exact PySem.W.binds_K X rfl ho hs rfl rfl
theorem kb1 (T : Txt K mg t) : KBinds K t.d_Instruction___init__ insPs ["given"] (g1 .none) (g1 .non) := by
  obtain ⟨oc, od, kV, doc, pm, an, cdv, ct, osl, e, lk, hcd⟩ := T.F_Instruction___init__
  obtain ⟨o, n, ho, hs⟩ := T.dfl
  rw [e]
  refine ⟨fun s us ws X hl => ?_, fun {vs us zs ws} r q => ?_⟩
  · match us, ws, hl with
    | [x, y, z], [u], _ => exact PySem.W.binds_K X rfl ho hs rfl rfl
  · cases r with
    | nil => exact .nil
    | cons r1 r => cases r with
      | nil => exact .nil
      | cons r2 r => cases r with
        | nil => exact .nil
        | cons r3 r => cases r with
          | cons r4 r => exact .nil
          | nil => cases q with
            | nil => exact .nil
            | cons q1 q => cases q with
              | cons q2 q => exact .nil
              | nil => exact .cons r1 (.cons r2 (.cons r3 (.cons q1 (.cons rfl (.cons rfl (.cons rfl .nil))))))
theorem kb2 (T : Txt K mg t) : KBinds K t.d_Instruction___init__ insPs ["given", "number"] (g2 .none) (g2 .non) := by
  obtain ⟨oc, od, kV, doc, pm, an, cdv, ct, osl, e, lk, hcd⟩ := T.F_Instruction___init__
  obtain ⟨o, n, ho, hs⟩ := T.dfl
  rw [e]
  refine ⟨fun s us ws X hl => ?_, fun {vs us zs ws} r q => ?_⟩
  · match us, ws, hl with
    | [x, y, z], [u, v], _ => exact PySem.W.binds_K X rfl ho hs rfl rfl
  · cases r with
    | nil => exact .nil
    | cons r1 r => cases r with
      | nil => exact .nil
      | cons r2 r => cases r with
        | nil => exact .nil
        | cons r3 r => cases r with
          | cons r4 r => exact .nil
          | nil => cases q with
            | nil => exact .nil
            | cons q1 q => cases q with
              | nil => exact .nil
              | cons q2 q => cases q with
                | cons q3 q => exact .nil
                | nil => exact .cons r1 (.cons r2 (.cons r3 (.cons q1 (.cons q2 (.cons rfl (.cons rfl .nil))))))
theorem kb3 (T : Txt K mg t) : KBinds K t.d_Instruction___init__ insPs ["given", "operator"] (g3 .none) (g3 .non) := by
  obtain ⟨oc, od, kV, doc, pm, an, cdv, ct, osl, e, lk, hcd⟩ := T.F_Instruction___init__
  obtain ⟨o, n, ho, hs⟩ := T.dfl
  rw [e]
  refine ⟨fun s us ws X hl => ?_, fun {vs us zs ws} r q => ?_⟩
  · match us, ws, hl with
    | [x, y, z], [u, v], _ => exact PySem.W.binds_K X rfl ho hs rfl rfl
  · cases r with
    | nil => exact .nil
    | cons r1 r => cases r with
      | nil => exact .nil
      | cons r2 r => cases r with
        | nil => exact .nil
        | cons r3 r => cases r with
          | cons r4 r => exact .nil
          | nil => cases q with
            | nil => exact .nil
            | cons q1 q => cases q with
              | nil => exact .nil
              | cons q2 q => cases q with
                | cons q3 q => exact .nil
                | nil => exact .cons r1 (.cons r2 (.cons r3 (.cons q1 (.cons rfl (.cons q2 (.cons rfl .nil))))))
end
end My

set_option Elab.async false
set_option linter.all false
set_option maxRecDepth 100000
set_option maxHeartbeats 1000000
namespace My
open PySem L2
theorem made_same {H2 H' : Hp} {x dx C : Addr} (nx : H2 x = none) (nd : H2 dx = none) (h2 : ∀ b, b ≠ x → H' b = (upd (upd H2 dx (.own x)) x (.ins C dx [])) b) : Same H2 H' := fun b o e => by
  have n1 := ne_of_none e nx
  rw [h2 b n1, upd_ne n1, upd_ne (ne_of_none e nd)]
  exact e
theorem Raw.free2 {t : Ad} {H H' : Hp} {r : Addr} {A : RA} {ln : Nat} {is js : List Addr} {vars : List (List Nat)} {labs : List (List Nat × Nat)} (R' : Raw t H' r A ln is vars labs js) (k : Keep r A H H') {b : Addr} (e : H' b = none) : H b = none := by
  cases q : H b with
  | none => rfl
  | some o =>
    rw [k b o q (ne_of_none R'.ob e).symm (ne_of_none R'.lst e).symm (ne_of_none R'.var e).symm (ne_of_none R'.lab e).symm (ne_of_none R'.jum e).symm] at e
    cases e
theorem andJ {c : Bool} {U : (Bool → Hp → Prop) → Prop} {Q : Bool → Hp → Prop} {H : Hp} (b : Bool) (hU : c = true → Q b H → U Q) (hb : c = false → b = false) (k : Q b H) : if c = true then U Q else Q false H := by
  cases c with
  | true => exact iteT (hU rfl k)
  | false =>
    rw [hb rfl] at k
    exact iteF k
theorem dec_len (n m : Nat) : decide (V.int (n : Int) = V.int (m : Int)) = decide (n = m) := by
  rw [decide_eq_decide]
  constructor
  · intro h
    injection h with h
    omega
  · rintro rfl
    rfl
theorem line_get {H : Hp} {q : Addr} {ws : List (List Nat)} (h : LineAt H q ws) : ∃ rs : List Addr, H q = some (.lst (rs.map V.ref)) ∧ rs.length = ws.length ∧ ∀ i, i < ws.length → ∃ p, (rs.map V.ref)[i]? = some (V.ref p) ∧ H p = some (.tup (iw (ws.getD i []))) := by
  obtain ⟨rs, h1, h2⟩ := h
  refine ⟨rs, h1, Paired.length h2, ?_⟩
  clear h1
  induction h2 with
  | nil => exact fun i hi => absurd hi (by simp)
  | cons r _ ih =>
    intro i hi
    cases i with
    | zero => exact ⟨_, rfl, r⟩
    | succ i =>
      obtain ⟨p, h1, h2⟩ := ih i (by simpa using hi)
      exact ⟨p, by simpa using h1, h2⟩
theorem getD_ne {ws : List (List Nat)} (h : ∀ w ∈ ws, w ≠ []) {i : Nat} (hi : i < ws.length) : ws.getD i [] ≠ [] := by
  rw [List.getD_eq_getElem?_getD, List.getElem?_eq_getElem hi]
  exact h _ (List.getElem_mem hi)
theorem varM_len {vars : List (List Nat)} {w : List Nat} {x : Nat × List (List Nat)} (hv : vars.length ≤ 64) (h : varM vars w = some x) : x.2.length ≤ 64 := by
  rw [varM_eq hv] at h
  split at h
  · rename_i c
    cases h
    exact c.2
  · cases h
inductive spJump (t : Ad) (vs : List V) (H : Hp) (Q : VK) (E : XK) : Prop
  | mk (r : Addr) (A : RA) (ln : Nat) (is : List Addr) (vars : List (List Nat)) (labs : List (List Nat × Nat)) (js : List Addr) (p : Addr) (w : List Nat) (a : Addr) : vs = [.ref r, .ref p, .ref a] → Raw t H r A ln is vars labs js → H p = some (.tup (iw w)) → w ≠ [] → js.length ≤ 1000 → ((Sz43.isName w = false → ∀ H', E (.int (ln : Int) 0) none H')) → ((Sz43.isName w = true → ∀ j H', Raw t H' r A ln is vars labs (js ++ [j]) → Keep r A H H' → H j = none → H' j = some (.tup [.ref a, .ref p, .int (ln : Int)]) → Q (.ref a) H')) → spJump t vs H Q E
inductive spGiv (t : Ad) (vs : List V) (H : Hp) (Q : VK) (E : XK) : Prop
  | mk (r : Addr) (A : RA) (ln : Nat) (is : List Addr) (vars : List (List Nat)) (labs : List (List Nat × Nat)) (js : List Addr) (q : Addr) (ws : List (List Nat)) : vs = [.ref r, .ref q] → Raw t H r A ln is vars labs js → LineAt H q ws → q ≠ A.li → q ≠ A.ju → ((∀ w ∈ ws, w ≠ [])) → 3 ≤ ws.length → vars.length ≤ 64 → ((givM vars ws = none → ∀ H', E (.int (ln : Int) 0) none H')) → ((∀ x, givM vars ws = some x → ∀ a H', Raw t H' r A ln is x.2 labs js → Keep r A H H' → H a = none → InsAt t H' a x.1 .non → Q (.ref a) H')) → spGiv t vs H Q E
section
variable {P : Program} {w : World} {K : PySem.W.Frag} {mg : Str → Option Value} {base : Heap} {t : Ad}
theorem sc_jump_to : FnScope ["self", "label", "instruction"] ["self", "label", "instruction"] (defScope s_Reading_jump_to) := sc_mk
theorem ok_jump_to (T : Txt K mg t) : FnOk P w K mg base (CXE P w t.C_WrongLine) 4 t.f_Reading_jump_to t.d_Reading_jump_to ["self", "label", "instruction"] (spJump t) := by
  refine T.F_Reading_jump_to.okX sc_jump_to (fun vs H Q E h => ?_) (fun _ A _ s H vs Q E hr h => ?_)
  · obtain ⟨_, _, _, _, _, _, _, _, _, _, rfl, _⟩ := h
    rfl
  · obtain ⟨r, Ad, ln, is, vars, labs, js, p, u, a, rfl, R, hp, hn, hj, kE, k⟩ := h
    have hr2 := hr.mono (show 2 ≤ 3 by decide)
    refine ⟨_, pss_cons (ps_if (pt_not (pt_val (pe_call (ok_is_name T) hr rfl T.g_is_name T.F_is_name.kp (b_is_name T) .nil pass0 (pa_cons (pv 1) pa_nil)))) (pss_one (ps_raise T.xc (ok_xinit T) (b_WrongLine___init__ T) hr2 rfl rfl rfl rfl T.gc_WrongLine (pe_fld (pv 0) rfl))) pss_nil)
      (pss_cons (ps_expr (pe_bm PySem.F.plainAttrs_list PySem.F.slot_list_append PySem.F.type_list_append mt_append (pe_fld (pv 0) rfl) (pa_cons (pe_tup (pa_cons (pv 2) (pa_cons (pv 1) (pa_cons (pe_fld (pv 0) rfl) pa_nil)))) pa_nil)))
      (pss_one (ps_ret (pv 2)))), ?_⟩
    refine ⟨_, rfl, p, u, rfl, hp, hn, fun H1 s1 => ⟨_, rfl, ?_⟩⟩
    have R1 := R.same s1
    refine ite2 (fun c1 => ?_) (fun c1 => ?_)
    · exact ⟨_, rfl, r, _, _, _, _, rfl, R1.ob, T.cl_Reading, T.na_Reading_line, rf_line, _, rfl, kE (by simpa using c1) H1⟩
    have nm : Sz43.isName u = true := by simpa using c1
    refine ⟨_, rfl, r, _, _, _, _, rfl, R1.ob, T.cl_Reading, T.na_Reading_jumps, rf_jum, .inl ⟨rfl, _, SqL.of R1.jum⟩, _, rfl, _, rfl, _, rfl, r, _, _, _, _, rfl, R1.ob, T.cl_Reading, T.na_Reading_line, rf_line, (by show 3 ≤ sizeLine; decide), fun j hj1 => ?_⟩
    have R2 := R1.same (Same.new (o := .tup [.ref a, .ref p, .int (ln : Int)]) hj1)
    refine ⟨_, _, _, rfl, rfl, R2.jum, (by rw [List.length_map, sizeLine_eq]; omega), ?_⟩
    have nj : j ≠ Ad.ju := (ne_of_none R1.jum hj1).symm
    refine ⟨_, rfl, k nm j _ ⟨?_, ?_, ?_, ?_, ?_, R2.nij, R2.nvl⟩ ?_ (s1.free hj1) ?_⟩
    · rw [upd_ne (ne_of R2.ob R2.jum (by intro z; cases z))]
      exact R2.ob
    · rw [upd_ne R2.nij]
      exact R2.lst
    · rw [upd_ne (ne_of R2.var R2.jum (by intro z; cases z))]
      exact R2.var
    · rw [upd_ne (ne_of R2.lab R2.jum (by intro z; cases z))]
      exact R2.lab
    · rw [upd_same, List.map_append]
      rfl
    · intro b o e _ _ _ _ n
      rw [upd_ne n]
      exact Same.new hj1 _ _ (s1 _ _ e)
    · rw [upd_ne nj]
      exact upd_same
theorem sc_giving_of : FnScope ["self", "words", "given", "used", "number"] ["self", "words"] (defScope s_Reading_giving_of) := sc_mk
theorem ok_giving_of (T : Txt K mg t) : FnOk P w K mg base (CXE P w t.C_WrongLine) 5 t.f_Reading_giving_of t.d_Reading_giving_of ["self", "words"] (spGiv t) := by
  refine T.F_Reading_giving_of.okX sc_giving_of (fun vs H Q E h => ?_) (fun _ A _ s H vs Q E hr h => ?_)
  · obtain ⟨_, _, _, _, _, _, _, _, _, rfl, _⟩ := h
    rfl
  · obtain ⟨r, Ad, ln, is, vars, labs, js, q, ws, rfl, R, hL, nq1, nq2, hne, h3, hv, kE, k⟩ := h
    have hr1 := hr.mono (show 1 ≤ 4 by decide)
    have hr2 := hr.mono (show 2 ≤ 4 by decide)
    have nd := sc_giving_of.nd
    refine ⟨_, pss_cons (ps_set (i := 2) nd rfl (Or.inl rfl) (pe_meth (pv 0) T.cl_Reading T.m_Reading_variable_of (ok_variable_of T) hr (b_Reading_variable_of T) .nil (passE rfl rfl) (pa_cons (pe_ix ix_list (pv 1) pe_int (fun _ _ => rfl)) pa_nil)))
      (pss_cons (ps_if (PW.pt (pw_and (pt_cmpR op_eq (pe_callB call_len_seq rfl T.n_len PySem.boot_len (pa_cons (pv 1) pa_nil)) pe_int (nomark _)) (pw_and1 (pt_val (pe_call (ok_is_operator T) hr1 rfl T.g_is_operator T.F_is_operator.kp (b_is_operator T) .nil pass0 (pa_cons (pe_ix ix_list (pv 1) pe_int (fun _ _ => rfl)) pa_nil))))))
        (pss_cons (ps_set (i := 3) nd rfl (Or.inl rfl) (pe_tup (pa_cons (pe_meth (pv 0) T.cl_Reading T.m_Reading_variable_of (ok_variable_of T) hr (b_Reading_variable_of T) .nil (passE rfl rfl) (pa_cons (pe_ix ix_list (pv 1) pe_int (fun _ _ => rfl)) pa_nil)) (pa_cons (pe_meth (pv 0) T.cl_Reading T.m_Reading_variable_of (ok_variable_of T) hr (b_Reading_variable_of T) .nil (passE rfl rfl) (pa_cons (pe_ix ix_list (pv 1) pe_int (fun _ _ => rfl)) pa_nil)) pa_nil))))
          (pss_one (ps_ret (pe_makeK T.mk_Instruction (ok_ins T) hr2 rfl T.gc_Instruction (kb3 T) pass0 (pa_cons pe_str (pa_cons (pv 3) pa_nil)) (pk_cons (pv 2) (pk_cons (pe_ix ix_list (pv 1) pe_int (fun _ _ => rfl)) pk_nil)))))) pss_nil)
      (pss_cons (ps_if (pt_cmpR op_ne (pe_callB call_len_seq rfl T.n_len PySem.boot_len (pa_cons (pv 1) pa_nil)) pe_int (nomark _)) (pss_one (ps_raise T.xc (ok_xinit T) (b_WrongLine___init__ T) hr2 rfl rfl rfl rfl T.gc_WrongLine (pe_fld (pv 0) rfl))) pss_nil)
      (pss_cons (ps_if (pt_cmpR (op_eqD hr.units) (pe_ix ix_list (pv 1) pe_int (fun _ _ => rfl)) (pe_call (ok_spelled T) hr1 rfl T.g_spelled T.F_spelled.kp (b_spelled T) .nil pass0 (pa_cons pe_str pa_nil)) (nomark _)) (pss_one (ps_ret (pe_makeK T.mk_Instruction (ok_ins T) hr2 rfl T.gc_Instruction (kb1 T) pass0 (pa_cons pe_str (pa_cons (pe_tup pa_nil) pa_nil)) (pk_cons (pv 2) pk_nil)))) pss_nil)
      (pss_cons (ps_set (i := 4) nd rfl (Or.inl rfl) (pe_call (ok_number_of T) hr2 rfl T.g_number_of T.F_number_of.kp (b_number_of T) .nil pass0 (pa_cons (pe_ix ix_list (pv 1) pe_int (fun _ _ => rfl)) pa_nil)))
      (pss_cons (ps_if (pt_cmp (pc_notN (pv 4))) (pss_one (ps_ret (pe_makeK T.mk_Instruction (ok_ins T) hr2 rfl T.gc_Instruction (kb2 T) pass0 (pa_cons pe_str (pa_cons (pe_tup pa_nil) pa_nil)) (pk_cons (pv 2) (pk_cons (pv 4) pk_nil))))) pss_nil)
      (pss_one (ps_ret (pe_makeK T.mk_Instruction (ok_ins T) hr2 rfl T.gc_Instruction (kb1 T) pass0 (pa_cons pe_str (pa_cons (pe_tup (pa_cons (pe_meth (pv 0) T.cl_Reading T.m_Reading_variable_of (ok_variable_of T) hr (b_Reading_variable_of T) .nil (passE rfl rfl) (pa_cons (pe_ix ix_list (pv 1) pe_int (fun _ _ => rfl)) pa_nil)) pa_nil)) pa_nil)) (pk_cons (pv 2) pk_nil))))))))), ?_⟩
    obtain ⟨rs0, hq0, lrs0, get0⟩ := line_get hL
    obtain ⟨p0, i0, hp0⟩ := get0 0 (by omega)
    refine ⟨_, rfl, r, _, _, rfl, R.ob, rf_m6, _, rfl, q, _, _, _, rfl, rfl, SqL.of hq0, atI_nat i0, r, Ad, ln, is, vars, labs, js, p0, _, rfl, R, hp0, getD_ne hne (by omega), hv, fun e => ?_, fun d ed H1 R1 k1 => ?_⟩
    · refine kE ?_
      unfold givM
      rw [e, Option.bind_none]
    have L1 := R.keep_line k1 hL nq1 nq2
    have hv1 := varM_len hv ed
    obtain ⟨rs1, hq1, lrs1, get1⟩ := line_get L1
    unfold givM at kE k
    rw [ed, Option.bind_some] at kE k
    have ln1 : (rs1.map V.ref).length = ws.length := by rw [List.length_map, lrs1]
    refine ⟨_, rfl, q, _, rfl, .inl (SqL.of hq1), rfl, _, rfl, ?_⟩
    rw [ln1]
    refine andJ (decide (ws.length = 5 ∧ (Sz43.ops.findIdx? fun x => x == ws.getD 3 []).isSome = true)) (fun c kk => ?_) (fun c => ?_) ?_
    · have l5 : ws.length = 5 := of_decide_eq_true ((dec_len ws.length 5).symm.trans c)
      obtain ⟨p3, i3, hp3⟩ := get1 3 (by omega)
      refine ⟨_, rfl, q, _, _, _, rfl, rfl, SqL.of hq1, atI_nat i3, p3, _, rfl, hp3, _, rfl, ?_⟩
      have e : decide (ws.length = 5 ∧ (Sz43.ops.findIdx? fun x => x == ws.getD 3 []).isSome = true) = (Sz43.ops.findIdx? fun x => x == ws.getD 3 []).isSome := by
        cases (Sz43.ops.findIdx? fun x => x == ws.getD 3 []).isSome <;> simp [l5]
      rw [e] at kk
      exact kk
    · have l5 : ¬ ws.length = 5 := of_decide_eq_false ((dec_len ws.length 5).symm.trans c)
      exact decide_eq_false fun z => l5 z.1
    by_cases h5 : ws.length = 5 ∧ (Sz43.ops.findIdx? fun x => x == ws.getD 3 []).isSome = true
    · rw [decide_eq_true h5]
      refine iteT ?_
      rw [if_pos h5] at kE k
      have l5 := h5.1
      obtain ⟨n, hn⟩ := Option.isSome_iff_exists.mp h5.2
      obtain ⟨n12, en⟩ := op_found hn
      obtain ⟨p2, i2, hp2⟩ := get1 2 (by omega)
      refine ⟨_, rfl, r, _, _, rfl, R1.ob, rf_m6, _, rfl, q, _, _, _, rfl, rfl, SqL.of hq1, atI_nat i2, r, Ad, ln, is, d.2, labs, js, p2, _, rfl, R1, hp2, getD_ne hne (by omega), hv1, fun e => ?_, fun a ea H2 R2 k2 => ?_⟩
      · refine kE ?_
        rw [e, Option.bind_none]
      have L2 := R1.keep_line k2 L1 nq1 nq2
      have hv2 := varM_len hv1 ea
      obtain ⟨rs2, hq2, lrs2, get2⟩ := line_get L2
      obtain ⟨p4, i4, hp4⟩ := get2 4 (by omega)
      rw [ea, Option.bind_some] at kE k
      refine ⟨_, rfl, r, _, _, rfl, R2.ob, rf_m6, _, rfl, q, _, _, _, rfl, rfl, SqL.of hq2, atI_nat i4, r, Ad, ln, is, a.2, labs, js, p4, _, rfl, R2, hp4, getD_ne hne (by omega), hv2, fun e => ?_, fun b eb H3 R3 k3 => ?_⟩
      · refine kE ?_
        rw [e, Option.bind_none]
      have L3 := R2.keep_line k3 L2 nq1 nq2
      rw [eb, Option.bind_some, hn] at k
      refine ⟨(by show 2 ≤ sizeLine; decide), fun u hu => ?_⟩
      have s4 := Same.new (o := .tup [.int (a.1 : Int), .int (b.1 : Int)]) hu
      have R4 := R3.same s4
      have L4 := R3.keep_line (Keep.same s4) L3 nq1 nq2
      obtain ⟨rs4, hq4, lrs4, get4⟩ := line_get L4
      obtain ⟨p3, i3, hp3⟩ := get4 3 (by omega)
      refine ⟨_, rfl, _, rfl, _, rfl, q, _, _, _, rfl, rfl, SqL.of hq4, atI_nat i3, fun x dx nx ndx nex => ⟨x, dx, "operator", _, _, _, _, _, rfl, upd_same, fun H5 h1 h2 => ⟨rfl, ?_⟩⟩⟩
      have s5 := made_same nx ndx h2
      have k5 : Keep r Ad H H5 := k1.trans (k2.trans (k3.trans (Keep.same (s4.trans s5))))
      refine k _ rfl x H5 (R4.same s5) k5 (R3.free2 (k1.trans (k2.trans k3)) (s4.free nx)) ⟨dx, u, .ref p3, h1, s5 _ _ upd_same, n12, p3, rfl, ?_⟩
      show H5 p3 = some (.tup (iw (Sz43.ops.getD n [])))
      rw [en]
      exact s5 _ _ hp3
    rw [decide_eq_false h5]
    refine iteF ?_
    rw [if_neg h5] at kE k
    refine ⟨_, rfl, q, _, rfl, .inl (SqL.of hq1), rfl, _, rfl, ?_⟩
    rw [ln1, show (V.int 3) = V.int ((3 : Nat) : Int) from rfl, dec_len]
    by_cases h3' : ws.length = 3
    case neg =>
      rw [decide_eq_false h3']
      refine iteT ?_
      rw [if_pos h3'] at kE
      exact ⟨_, rfl, r, _, _, _, _, rfl, R1.ob, T.cl_Reading, T.na_Reading_line, rf_line, _, rfl, kE rfl H1⟩
    rw [decide_eq_true h3']
    refine iteF ?_
    rw [if_neg (by simpa using h3')] at kE k
    obtain ⟨p2, i2, hp2⟩ := get1 2 (by omega)
    refine ⟨_, rfl, q, _, _, _, rfl, rfl, SqL.of hq1, atI_nat i2, _, rfl, (by decide +kernel), fun pr H2 s2 f2 e2 => ?_⟩
    have R2 := R1.same s2
    have L2 := R1.keep_line (Keep.same s2) L1 nq1 nq2
    have hp2' := s2 _ _ hp2
    refine ⟨_, _, dp_word hp2', dp_word e2, shaped_word _, shaped_word _, _, rfl, ?_⟩
    rw [eqv_word]
    have er : (Str.ofString "read").cps.toList = Sz43.ascii "read" := by decide +kernel
    rw [er]
    by_cases hrd : ws.getD 2 [] = Sz43.ascii "read"
    · rw [decide_eq_true hrd]
      refine iteT ?_
      rw [if_pos hrd] at k
      refine ⟨(by show 0 ≤ sizeLine; decide), fun u hu => ⟨_, rfl, fun x dx nx ndx nex => ⟨x, dx, "read", _, _, _, _, _, rfl, upd_same, fun H5 h1 h2 => ⟨rfl, ?_⟩⟩⟩⟩
      have s4 := Same.new (o := .tup []) hu
      have s5 := made_same nx ndx h2
      exact k _ rfl x H5 ((R2.same s4).same s5) (k1.trans (Keep.same (s2.trans (s4.trans s5)))) (R2.free2 (k1.trans (Keep.same s2)) (s4.free nx)) ⟨dx, u, .non, h1, s5 _ _ upd_same, rfl⟩
    rw [decide_eq_false hrd]
    refine iteF ?_
    rw [if_neg hrd] at kE k
    obtain ⟨rs2, hq2, lrs2, get2⟩ := line_get L2
    obtain ⟨p2, i2, hp2⟩ := get2 2 (by omega)
    refine ⟨_, rfl, q, _, _, _, rfl, rfl, SqL.of hq2, atI_nat i2, p2, _, rfl, hp2, getD_ne hne (by omega), fun H3 s3 => ?_⟩
    have R3 := R2.same s3
    have L3 := R2.keep_line (Keep.same s3) L2 nq1 nq2
    refine ⟨_, rfl, _, rfl, ?_⟩
    cases hz : Sz43.numberOf (ws.getD 2 []) with
    | some z =>
      rw [hz] at k
      refine iteT ?_
      refine ⟨(by show 0 ≤ sizeLine; decide), fun u hu => ⟨_, rfl, _, rfl, fun x dx nx ndx nex => ⟨x, dx, "number", _, _, _, _, _, rfl, upd_same, fun H5 h1 h2 => ⟨rfl, ?_⟩⟩⟩⟩
      have s4 := Same.new (o := .tup []) hu
      have s5 := made_same nx ndx h2
      exact k _ rfl x H5 ((R3.same s4).same s5) (k1.trans (Keep.same ((s2.trans s3).trans (s4.trans s5)))) (R3.free2 (k1.trans (Keep.same (s2.trans s3))) (s4.free nx)) ⟨dx, u, .non, h1, s5 _ _ upd_same, rfl⟩
    | none =>
      rw [hz] at kE k
      refine iteF ?_
      obtain ⟨rs3, hq3, lrs3, get3⟩ := line_get L3
      obtain ⟨p2, i2, hp2⟩ := get3 2 (by omega)
      refine ⟨_, rfl, r, _, _, rfl, R3.ob, rf_m6, _, rfl, q, _, _, _, rfl, rfl, SqL.of hq3, atI_nat i2, r, Ad, ln, is, d.2, labs, js, p2, _, rfl, R3, hp2, getD_ne hne (by omega), hv1, fun e => ?_, fun a ea H4 R4 k4 => ?_⟩
      · exact kE (by show (varM d.2 (ws.getD 2 [])).bind _ = none; rw [e, Option.bind_none])
      refine ⟨(by show 1 ≤ sizeLine; decide), fun u hu => ⟨_, rfl, fun x dx nx ndx nex => ⟨x, dx, "copy", _, _, _, _, _, rfl, upd_same, fun H5 h1 h2 => ⟨rfl, ?_⟩⟩⟩⟩
      have s4 := Same.new (o := .tup [.int (a.1 : Int)]) hu
      have s5 := made_same nx ndx h2
      refine k (.copy d.1 a.1, a.2) (by show (varM d.2 (ws.getD 2 [])).bind _ = _; rw [ea, Option.bind_some]) x H5 ((R4.same s4).same s5) ((k1.trans (Keep.same (s2.trans s3))).trans (k4.trans (Keep.same (s4.trans s5)))) (R4.free2 ((k1.trans (Keep.same (s2.trans s3))).trans k4) (s4.free nx)) ⟨dx, u, .non, h1, s5 _ _ upd_same, rfl⟩
end
end My

set_option Elab.async false
set_option linter.all false
set_option maxRecDepth 100000
set_option maxHeartbeats 1000000
namespace My
open PySem L2
theorem andJ2 {c : Bool} {U : (Bool → Hp → Prop) → Prop} {Q : Bool → Hp → Prop} {H : Hp} (R : Hp → Prop) (b : Bool) (hU : c = true → (∀ H', R H' → Q b H') → U Q) (hb : c = false → b = false ∧ R H) (k : ∀ H', R H' → Q b H') : if c = true then U Q else Q false H := by
  cases c with
  | true => exact iteT (hU rfl k)
  | false =>
    obtain ⟨h1, h2⟩ := hb rfl
    have := k H h2
    rw [h1] at this
    exact iteF this
def JsOk (H H' : Hp) (ln : Nat) (a : Addr) (js js' : List Addr) : Option (List Nat) → Prop
  | none => js' = js
  | some n => ∃ j p, js' = js ++ [j] ∧ H' j = some (.tup [.ref a, .ref p, .int (ln : Int)]) ∧ H' p = some (.tup (iw n))
inductive spInsOf (t : Ad) (vs : List V) (H : Hp) (Q : VK) (E : XK) : Prop
  | mk (r : Addr) (A : RA) (ln : Nat) (is : List Addr) (vars : List (List Nat)) (labs : List (List Nat × Nat)) (js : List Addr) (q : Addr) (ws : List (List Nat)) : vs = [.ref r, .ref q] → Raw t H r A ln is vars labs js → LineAt H q ws → q ≠ A.li → q ≠ A.ju → ((∀ w ∈ ws, w ≠ [])) → vars.length ≤ 64 → js.length ≤ 1000 → ((insM vars ws = none → ∀ H', E (.int (ln : Int) 0) none H')) → ((∀ x, insM vars ws = some x → ∀ a js' H', Raw t H' r A ln is x.2.1 labs js' → Keep r A H H' → H a = none → InsAt t H' a x.1 .non → JsOk H H' ln a js js' x.2.2 → Q (.ref a) H')) → spInsOf t vs H Q E
section
variable {P : Program} {w : World} {K : PySem.W.Frag} {mg : Str → Option Value} {base : Heap} {t : Ad}
theorem pl_and {a b : TT} {σ : St} {H : Hp} {Q : Bool → Hp → Prop} (h : a σ H fun c H1 => if c = true then b σ H1 Q else Q false H1) : tAnd a b σ H Q := h
theorem rd_word {σ : St} {H0 : Hp} {q : Addr} {ws : List (List Nat)} {i : Nat} {x : Str} {Qb : Bool → Hp → Prop} (hσ : σ[1]? = some (some (.ref q))) (L0 : LineAt H0 q ws) (hi : i < ws.length) (hx : x.cps.size ≤ 100) (wd : List Nat) (hw : x.cps.toList = wd)
    (k : ∀ H', Same H0 H' → Qb (decide (ws.getD i [] = wd)) H') : tTest (tOp (rEqD K) (tOp (rIxL K) (tVar 1) (tC (.int (i : Int)))) (tCall spSpelled [] E0 (tCons (tC (.str x)) tNil))) σ H0 Qb := by
  obtain ⟨rs, hq, lrs, get⟩ := line_get L0
  obtain ⟨p, ip, hp⟩ := get i hi
  refine ⟨_, hσ, q, _, _, _, rfl, rfl, SqL.of hq, atI_nat ip, x, rfl, hx, fun pr H2 s2 f2 e2 => ?_⟩
  refine ⟨_, _, dp_word (s2 _ _ hp), dp_word e2, shaped_word _, shaped_word _, _, rfl, ?_⟩
  rw [eqv_word, hw]
  exact k H2 s2
theorem sc_instruction_of : FnScope ["self", "words", "size"] ["self", "words"] (defScope s_Reading_instruction_of) := sc_mk
theorem ok_instruction_of (T : Txt K mg t) : FnOk P w K mg base (CXE P w t.C_WrongLine) 6 t.f_Reading_instruction_of t.d_Reading_instruction_of ["self", "words"] (spInsOf t) := by
  refine T.F_Reading_instruction_of.okX sc_instruction_of (fun vs H Q E h => ?_) (fun _ A _ s H vs Q E hr h => ?_)
  · obtain ⟨_, _, _, _, _, _, _, _, _, rfl, _⟩ := h
    rfl
  · obtain ⟨r, Ad, ln, is, vars, labs, js, q, ws, rfl, R, hL, nq1, nq2, hne, hv, hj, kE, k⟩ := h
    have hr1 := hr.mono (show 1 ≤ 5 by decide)
    have hr2 := hr.mono (show 2 ≤ 5 by decide)
    have hr4 := hr.mono (show 4 ≤ 5 by decide)
    have nd := sc_instruction_of.nd
    have vd : Vals [.non, .non, .non, .non] [Value.none, .none, .none, .none] := .cons rfl (.cons rfl (.cons rfl (.cons rfl .nil)))
    refine ⟨_, pss_cons (ps_set (i := 2) nd rfl (Or.inl rfl) (pe_callB call_len_seq rfl T.n_len PySem.boot_len (pa_cons (pv 1) pa_nil)))
      (pss_cons (ps_if (PW.pt (pw_and (pt_cmpR op_ge (pv 2) pe_int (nomark _)) (pw_and1 (pt_cmpR (op_eqD hr.units) (pe_ix ix_list (pv 1) pe_int (fun _ _ => rfl)) (pe_call (ok_spelled T) hr1 rfl T.g_spelled T.F_spelled.kp (b_spelled T) .nil pass0 (pa_cons pe_str pa_nil)) (nomark _)))))
        (pss_one (ps_ret (pe_meth (pv 0) T.cl_Reading T.m_Reading_giving_of (ok_giving_of T) hr (b_Reading_giving_of T) .nil (passE rfl rfl) (pa_cons (pv 1) pa_nil)))) pss_nil)
      (pss_cons (ps_if (PW.pt (pw_and (pt_cmpR op_eq (pv 2) pe_int (nomark _)) (pw_and1 (pt_cmpR (op_eqD hr.units) (pe_ix ix_list (pv 1) pe_int (fun _ _ => rfl)) (pe_call (ok_spelled T) hr1 rfl T.g_spelled T.F_spelled.kp (b_spelled T) .nil pass0 (pa_cons pe_str pa_nil)) (nomark _)))))
        (pss_one (ps_ret (pe_make T.mk_Instruction (ok_ins T) hr2 rfl T.gc_Instruction (b_ins2 T) vd pass0 (pa_cons pe_str (pa_cons (pe_tup (pa_cons (pe_meth (pv 0) T.cl_Reading T.m_Reading_variable_of (ok_variable_of T) hr4 (b_Reading_variable_of T) .nil (passE rfl rfl) (pa_cons (pe_ix ix_list (pv 1) pe_int (fun _ _ => rfl)) pa_nil)) pa_nil)) pa_nil))))) pss_nil)
      (pss_cons (ps_if (PW.pt (pw_and (pt_cmpR op_eq (pv 2) pe_int (nomark _)) (pw_and1 (pt_cmpR (op_eqD hr.units) (pe_ix ix_list (pv 1) pe_int (fun _ _ => rfl)) (pe_call (ok_spelled T) hr1 rfl T.g_spelled T.F_spelled.kp (b_spelled T) .nil pass0 (pa_cons pe_str pa_nil)) (nomark _)))))
        (pss_one (ps_ret (pe_meth (pv 0) T.cl_Reading T.m_Reading_jump_to (ok_jump_to T) hr4 (b_Reading_jump_to T) .nil (passE rfl rfl) (pa_cons (pe_ix ix_list (pv 1) pe_int (fun _ _ => rfl)) (pa_cons (pe_make T.mk_Instruction (ok_ins T) hr2 rfl T.gc_Instruction (b_ins2 T) vd pass0 (pa_cons pe_str (pa_cons (pe_tup pa_nil) pa_nil))) pa_nil))))) pss_nil)
      (pss_cons (ps_if (PW.pt (pw_and (pt_cmpR op_eq (pv 2) pe_int (nomark _)) (pw_and (pt_cmpR (op_eqD hr.units) (pe_ix ix_list (pv 1) pe_int (fun _ _ => rfl)) (pe_call (ok_spelled T) hr1 rfl T.g_spelled T.F_spelled.kp (b_spelled T) .nil pass0 (pa_cons pe_str pa_nil)) (nomark _)) (pw_and1 (pt_cmpR (op_eqD hr.units) (pe_ix ix_list (pv 1) pe_int (fun _ _ => rfl)) (pe_call (ok_spelled T) hr1 rfl T.g_spelled T.F_spelled.kp (b_spelled T) .nil pass0 (pa_cons pe_str pa_nil)) (nomark _))))))
        (pss_one (ps_ret (pe_meth (pv 0) T.cl_Reading T.m_Reading_jump_to (ok_jump_to T) hr4 (b_Reading_jump_to T) .nil (passE rfl rfl) (pa_cons (pe_ix ix_list (pv 1) pe_int (fun _ _ => rfl)) (pa_cons (pe_make T.mk_Instruction (ok_ins T) hr2 rfl T.gc_Instruction (b_ins2 T) vd pass0 (pa_cons pe_str (pa_cons (pe_tup (pa_cons (pe_meth (pv 0) T.cl_Reading T.m_Reading_variable_of (ok_variable_of T) hr4 (b_Reading_variable_of T) .nil (passE rfl rfl) (pa_cons (pe_ix ix_list (pv 1) pe_int (fun _ _ => rfl)) pa_nil)) pa_nil)) pa_nil))) pa_nil))))) pss_nil)
      (pss_cons (ps_if (PW.pt (pw_and (pt_cmpR op_eq (pv 2) pe_int (nomark _)) (pw_and1 (pt_cmpR (op_eqD hr.units) (pe_ix ix_list (pv 1) pe_int (fun _ _ => rfl)) (pe_call (ok_spelled T) hr1 rfl T.g_spelled T.F_spelled.kp (b_spelled T) .nil pass0 (pa_cons pe_str pa_nil)) (nomark _)))))
        (pss_one (ps_ret (pe_make T.mk_Instruction (ok_ins T) hr2 rfl T.gc_Instruction (b_ins2 T) vd pass0 (pa_cons pe_str (pa_cons (pe_tup pa_nil) pa_nil))))) pss_nil)
      (pss_one (ps_raise T.xc (ok_xinit T) (b_WrongLine___init__ T) hr2 rfl rfl rfl rfl T.gc_WrongLine (pe_fld (pv 0) rfl)))))))), ?_⟩
    obtain ⟨rs0, hq0, lrs0, get0⟩ := line_get hL
    have ln0 : (rs0.map V.ref).length = ws.length := by rw [List.length_map, lrs0]
    refine ⟨_, rfl, q, _, rfl, .inl (SqL.of hq0), ?_⟩
    rw [ln0]
    refine ⟨_, rfl, _, _, rfl, rfl, _, rfl, ?_⟩
    refine andJ2 (Same H) (decide (3 ≤ ws.length ∧ ws.getD 1 [] = Sz43.ascii "=")) (fun c kk => ?_) (fun c => ⟨?_, Same.refl H⟩) fun H1 s1 => ?_
    · have c := of_decide_eq_true c
      refine rd_word (i := 1) (x := "=") rfl hL (by omega) (by decide +kernel) (Sz43.ascii "=") (by decide +kernel) fun H' s' => ?_
      have e : decide (3 ≤ ws.length ∧ ws.getD 1 [] = Sz43.ascii "=") = decide (ws.getD 1 [] = Sz43.ascii "=") := decide_eq_decide.mpr ⟨fun z => z.2, fun z => ⟨by omega, z⟩⟩
      rw [← e]
      exact kk H' s'
    · have c := of_decide_eq_false c
      exact decide_eq_false fun z => c (by omega)
    by_cases t1 : 3 ≤ ws.length ∧ ws.getD 1 [] = Sz43.ascii "="
    · rw [decide_eq_true t1]
      refine iteT ?_
      have R1 := R.same s1
      have L1 := R.keep_line (Keep.same s1) hL nq1 nq2
      unfold insM at kE k
      rw [if_pos t1] at kE k
      refine ⟨_, rfl, r, _, _, rfl, R1.ob, rf_m5, _, rfl, r, Ad, ln, is, vars, labs, js, q, ws, rfl, R1, L1, nq1, nq2, hne, t1.1, hv, fun e => kE (by rw [e, Option.bind_none]), fun x ex a H2 R2 k2 f2 i2 => ?_⟩
      exact k (x.1, x.2, none) (by rw [ex, Option.bind_some]) a js H2 R2 ((Keep.same s1).trans k2) (s1.free f2) i2 rfl
    rw [decide_eq_false t1]
    refine iteF ?_
    have g1 : insM vars ws = insM vars ws := rfl
    conv at g1 =>
      rhs
      unfold insM
    rw [if_neg t1] at g1
    -- print
    have R1 := R.same s1
    have L1 := R.keep_line (Keep.same s1) hL nq1 nq2
    refine ⟨_, rfl, rfl, _, rfl, ?_⟩
    refine andJ2 (Same H1) (decide (ws.length = 2 ∧ ws.getD 0 [] = Sz43.ascii "print")) (fun c kk => ?_) (fun c => ⟨?_, Same.refl H1⟩) fun H2 s2 => ?_
    · have c := of_decide_eq_true ((dec_len ws.length 2).symm.trans c)
      refine rd_word (i := 0) (x := "print") rfl L1 (by omega) (by decide +kernel) (Sz43.ascii "print") (by decide +kernel) fun H' s' => ?_
      have e : decide (ws.length = 2 ∧ ws.getD 0 [] = Sz43.ascii "print") = decide (ws.getD 0 [] = Sz43.ascii "print") := decide_eq_decide.mpr ⟨fun z => z.2, fun z => ⟨by omega, z⟩⟩
      rw [← e]
      exact kk H' s'
    · have c := of_decide_eq_false ((dec_len ws.length 2).symm.trans c)
      exact decide_eq_false fun z => c z.1
    have R2 := R1.same s2
    have L2 := R1.keep_line (Keep.same s2) L1 nq1 nq2
    obtain ⟨rs2, hq2, lrs2, get2⟩ := line_get L2
    by_cases t2 : ws.length = 2 ∧ ws.getD 0 [] = Sz43.ascii "print"
    · rw [decide_eq_true t2]
      refine iteT ?_
      rw [g1, if_pos t2] at kE k
      obtain ⟨p1, i1, hp1⟩ := get2 1 (by omega)
      refine ⟨_, rfl, r, _, _, rfl, R2.ob, rf_m6, _, rfl, q, _, _, _, rfl, rfl, SqL.of hq2, atI_nat i1, r, Ad, ln, is, vars, labs, js, p1, _, rfl, R2, hp1, getD_ne hne (by omega), hv, fun e => kE (by rw [e, Option.bind_none]), fun a ea H3 R3 k3 => ?_⟩
      refine ⟨(by show 1 ≤ sizeLine; decide), fun u hu => fun x dx nx ndx nex => ⟨x, dx, "print", _, _, _, _, _, rfl, upd_same, fun H5 h1 h2 => ⟨rfl, ?_⟩⟩⟩
      have s4 := Same.new (o := .tup [.int (a.1 : Int)]) hu
      have s5 := made_same nx ndx h2
      have k13 : Keep r Ad H H3 := (Keep.same (s1.trans s2)).trans k3
      exact k (.print a.1, a.2, none) (by rw [ea, Option.bind_some]) x js H5 ((R3.same s4).same s5) (k13.trans (Keep.same (s4.trans s5))) (R3.free2 k13 (s4.free nx)) ⟨dx, u, .non, h1, s5 _ _ upd_same, rfl⟩ rfl
    rw [decide_eq_false t2]
    refine iteF ?_
    rw [if_neg t2] at g1
    -- goto
    refine ⟨_, rfl, rfl, _, rfl, ?_⟩
    refine andJ2 (Same H2) (decide (ws.length = 2 ∧ ws.getD 0 [] = Sz43.ascii "goto")) (fun c kk => ?_) (fun c => ⟨?_, Same.refl H2⟩) fun H3 s3 => ?_
    · have c := of_decide_eq_true ((dec_len ws.length 2).symm.trans c)
      refine rd_word (i := 0) (x := "goto") rfl L2 (by omega) (by decide +kernel) (Sz43.ascii "goto") (by decide +kernel) fun H' s' => ?_
      have e : decide (ws.length = 2 ∧ ws.getD 0 [] = Sz43.ascii "goto") = decide (ws.getD 0 [] = Sz43.ascii "goto") := decide_eq_decide.mpr ⟨fun z => z.2, fun z => ⟨by omega, z⟩⟩
      rw [← e]
      exact kk H' s'
    · have c := of_decide_eq_false ((dec_len ws.length 2).symm.trans c)
      exact decide_eq_false fun z => c z.1
    have R3 := R2.same s3
    have L3 := R2.keep_line (Keep.same s3) L2 nq1 nq2
    obtain ⟨rs3, hq3, lrs3, get3⟩ := line_get L3
    by_cases t3 : ws.length = 2 ∧ ws.getD 0 [] = Sz43.ascii "goto"
    · rw [decide_eq_true t3]
      refine iteT ?_
      rw [g1, if_pos t3] at kE k
      obtain ⟨p1, i1, hp1⟩ := get3 1 (by omega)
      refine ⟨_, rfl, r, _, _, rfl, R3.ob, rf_m7, _, rfl, q, _, _, _, rfl, rfl, SqL.of hq3, atI_nat i1, (by show 0 ≤ sizeLine; decide), fun u hu => fun x dx nx ndx nex => ⟨x, dx, "goto", _, _, _, _, _, rfl, upd_same, fun H5 h1 h2 => ⟨rfl, ?_⟩⟩⟩
      have s4 := Same.new (o := .tup []) hu
      have s5 := made_same nx ndx h2
      have R5 := (R3.same s4).same s5
      have k15 : Keep r Ad H H5 := Keep.same (((s1.trans s2).trans s3).trans (s4.trans s5))
      refine ⟨r, Ad, ln, is, vars, labs, js, p1, _, x, rfl, R5, s5 _ _ (s4 _ _ hp1), getD_ne hne (by omega), hj, fun e => kE (by rw [if_pos e]), fun e j H6 R6 k6 fj ej => ?_⟩
      have rx : x ≠ r := (ne_of_none R3.ob (s4.free nx)).symm
      have hi5 : InsAt t H5 x (.goto 0) .non := ⟨dx, u, .non, h1, s5 _ _ upd_same, rfl⟩
      have hi6 : InsAt t H6 x (.goto 0) .non := hi5.mono (fun _ _ e => R5.keep_tup k6 e) fun _ _ _ e => R5.keep_ins k6 e rx
      exact k (.goto 0, vars, some (ws.getD 1 [])) (by rw [if_neg (by rw [e]; decide)]) x _ H6 R6 (k15.trans k6) (R3.free2 (Keep.same ((s1.trans s2).trans s3)) (s4.free nx)) hi6 ⟨j, p1, rfl, ej, R5.keep_tup k6 (s5 _ _ (s4 _ _ hp1))⟩
    rw [decide_eq_false t3]
    refine iteF ?_
    rw [if_neg t3] at g1
    -- if
    refine ⟨_, rfl, rfl, _, rfl, ?_⟩
    refine andJ2 (Same H3) (decide (ws.length = 4 ∧ ws.getD 0 [] = Sz43.ascii "if" ∧ ws.getD 2 [] = Sz43.ascii "goto")) (fun c kk => ?_) (fun c => ⟨?_, Same.refl H3⟩) fun H4 s4 => ?_
    · have c := of_decide_eq_true ((dec_len ws.length 4).symm.trans c)
      refine pl_and ?_
      refine rd_word (i := 0) (x := "if") rfl L3 (by omega) (by decide +kernel) (Sz43.ascii "if") (by decide +kernel) fun H' s' => ?_
      refine andJ2 (Same H') (decide (ws.length = 4 ∧ ws.getD 0 [] = Sz43.ascii "if" ∧ ws.getD 2 [] = Sz43.ascii "goto")) (fun c' kk' => ?_) (fun c' => ⟨?_, Same.refl H'⟩) fun H'' s'' => kk H'' (s'.trans s'')
      · have c' := of_decide_eq_true c'
        refine rd_word (i := 2) (x := "goto") rfl (R3.keep_line (Keep.same s') L3 nq1 nq2) (by omega) (by decide +kernel) (Sz43.ascii "goto") (by decide +kernel) fun H'' s'' => ?_
        have e : decide (ws.length = 4 ∧ ws.getD 0 [] = Sz43.ascii "if" ∧ ws.getD 2 [] = Sz43.ascii "goto") = decide (ws.getD 2 [] = Sz43.ascii "goto") := decide_eq_decide.mpr ⟨fun z => z.2.2, fun z => ⟨c, c', z⟩⟩
        rw [← e]
        exact kk' H'' s''
      · have c' := of_decide_eq_false c'
        exact decide_eq_false fun z => c' z.2.1
    · have c := of_decide_eq_false ((dec_len ws.length 4).symm.trans c)
      exact decide_eq_false fun z => c z.1
    have R4 := R3.same s4
    have L4 := R3.keep_line (Keep.same s4) L3 nq1 nq2
    obtain ⟨rs4, hq4, lrs4, get4⟩ := line_get L4
    have s14 := ((s1.trans s2).trans s3).trans s4
    by_cases t4 : ws.length = 4 ∧ ws.getD 0 [] = Sz43.ascii "if" ∧ ws.getD 2 [] = Sz43.ascii "goto"
    · rw [decide_eq_true t4]
      refine iteT ?_
      rw [g1, if_pos t4] at kE k
      obtain ⟨p3, i3, hp3⟩ := get4 3 (by omega)
      obtain ⟨p1, i1, hp1⟩ := get4 1 (by omega)
      refine ⟨_, rfl, r, _, _, rfl, R4.ob, rf_m7, _, rfl, q, _, _, _, rfl, rfl, SqL.of hq4, atI_nat i3, _, rfl, r, _, _, rfl, R4.ob, rf_m6, _, rfl, q, _, _, _, rfl, rfl, SqL.of hq4, atI_nat i1, r, Ad, ln, is, vars, labs, js, p1, _, rfl, R4, hp1, getD_ne hne (by omega), hv, fun e => kE (by rw [e, Option.bind_none]), fun a ea H5 R5 k5 => ?_⟩
      refine ⟨(by show 1 ≤ sizeLine; decide), fun u hu => fun x dx nx ndx nex => ⟨x, dx, "if", _, _, _, _, _, rfl, upd_same, fun H7 h1 h2 => ⟨rfl, ?_⟩⟩⟩
      have s6 := Same.new (o := .tup [.int (a.1 : Int)]) hu
      have s7 := made_same nx ndx h2
      have R7 := (R5.same s6).same s7
      have k15 : Keep r Ad H H5 := (Keep.same s14).trans k5
      have k17 : Keep r Ad H H7 := k15.trans (Keep.same (s6.trans s7))
      have hp7 : H7 p3 = _ := s7 _ _ (s6 _ _ (R4.keep_tup k5 hp3))
      rw [ea, Option.bind_some] at kE k
      refine ⟨r, Ad, ln, is, a.2, labs, js, p3, _, x, rfl, R7, hp7, getD_ne hne (by omega), hj, fun e => kE (by rw [if_pos e]), fun e j H8 R8 k8 fj ej => ?_⟩
      have rx : x ≠ r := (ne_of_none R5.ob (s6.free nx)).symm
      have hi7 : InsAt t H7 x (.cond a.1 0) .non := ⟨dx, u, .non, h1, s7 _ _ upd_same, rfl⟩
      have hi8 : InsAt t H8 x (.cond a.1 0) .non := hi7.mono (fun _ _ e => R7.keep_tup k8 e) fun _ _ _ e => R7.keep_ins k8 e rx
      exact k (.cond a.1 0, a.2, some (ws.getD 3 [])) (by rw [if_neg (by rw [e]; decide)]) x _ H8 R8 (k17.trans k8) (R5.free2 k15 (s6.free nx)) hi8 ⟨j, p3, rfl, ej, R7.keep_tup k8 hp7⟩
    rw [decide_eq_false t4]
    refine iteF ?_
    rw [if_neg t4] at g1
    -- end
    refine ⟨_, rfl, rfl, _, rfl, ?_⟩
    refine andJ2 (Same H4) (decide (ws.length = 1 ∧ ws.getD 0 [] = Sz43.ascii "end")) (fun c kk => ?_) (fun c => ⟨?_, Same.refl H4⟩) fun H5 s5 => ?_
    · have c := of_decide_eq_true ((dec_len ws.length 1).symm.trans c)
      refine rd_word (i := 0) (x := "end") rfl L4 (by omega) (by decide +kernel) (Sz43.ascii "end") (by decide +kernel) fun H' s' => ?_
      have e : decide (ws.length = 1 ∧ ws.getD 0 [] = Sz43.ascii "end") = decide (ws.getD 0 [] = Sz43.ascii "end") := decide_eq_decide.mpr ⟨fun z => z.2, fun z => ⟨by omega, z⟩⟩
      rw [← e]
      exact kk H' s'
    · have c := of_decide_eq_false ((dec_len ws.length 1).symm.trans c)
      exact decide_eq_false fun z => c z.1
    have R5 := R4.same s5
    by_cases t5 : ws.length = 1 ∧ ws.getD 0 [] = Sz43.ascii "end"
    · rw [decide_eq_true t5]
      refine iteT ?_
      rw [g1, if_pos t5] at k
      refine ⟨(by show 0 ≤ sizeLine; decide), fun u hu => fun x dx nx ndx nex => ⟨x, dx, "end", _, _, _, _, _, rfl, upd_same, fun H7 h1 h2 => ⟨rfl, ?_⟩⟩⟩
      have s6 := Same.new (o := .tup []) hu
      have s7 := made_same nx ndx h2
      exact k (.stop, vars, none) rfl x js H7 ((R5.same s6).same s7) (Keep.same ((s14.trans s5).trans (s6.trans s7))) ((s14.trans s5).free (s6.free nx)) ⟨dx, u, .non, h1, s7 _ _ upd_same, rfl⟩ rfl
    rw [decide_eq_false t5]
    refine iteF ?_
    rw [if_neg t5] at g1
    exact ⟨_, rfl, r, _, _, _, _, rfl, R5.ob, T.cl_Reading, T.na_Reading_line, rf_line, _, rfl, kE g1 H5⟩
end
end My

set_option linter.all false
namespace My
open Sz43
def ins0 (vars : List Bytes) (x : Line) : Ins := insOf ⟨[], [], vars⟩ x
def jumpsFrom : Nat → List (Nat × Line) → List (Nat × Bytes × Nat)
  | _, [] => []
  | i, x :: r => (match lblOf x.2 with | some n => [(i, n, x.1)] | none => []) ++ jumpsFrom (i + 1) r
def jumpsOf (items : List (Nat × Line)) : List (Nat × Bytes × Nat) := jumpsFrom 0 items
theorem jumpsFrom_snoc (x : Nat × Line) : ∀ (items : List (Nat × Line)) (i : Nat), jumpsFrom i (items ++ [x]) = jumpsFrom i items ++ (match lblOf x.2 with | some n => [(i + items.length, n, x.1)] | none => [])
  | [], i => by
    show (match lblOf x.2 with | some n => [(i, n, x.1)] | none => []) ++ [] = [] ++ _
    rw [List.append_nil, List.nil_append]
    rfl
  | y :: r, i => by
    rw [List.cons_append]
    show _ ++ jumpsFrom (i + 1) (r ++ [x]) = (_ ++ jumpsFrom (i + 1) r) ++ _
    rw [jumpsFrom_snoc x r (i + 1), List.append_assoc]
    have e : i + 1 + r.length = i + (y :: r).length := by rw [List.length_cons]; omega
    rw [e]
theorem jumpsOf_snoc (items : List (Nat × Line)) (x : Nat × Line) : jumpsOf (items ++ [x]) = jumpsOf items ++ (match lblOf x.2 with | some n => [(items.length, n, x.1)] | none => []) := by
  unfold jumpsOf
  rw [jumpsFrom_snoc]
  simp
theorem ins0_ext {v m : List Bytes} {x : Line} (h : ∀ n ∈ varsOf x, n ∈ v) : ins0 (v ++ m) x = ins0 v x := by
  unfold ins0
  cases x with
  | label n => rfl
  | num d z => simp only [insOf, seek_app (h d (by simp [varsOf]))]
  | copy d a => simp only [insOf, seek_app (h d (by simp [varsOf])), seek_app (h a (by simp [varsOf]))]
  | op k d a b => simp only [insOf, seek_app (h d (by simp [varsOf])), seek_app (h a (by simp [varsOf])), seek_app (h b (by simp [varsOf]))]
  | read d => simp only [insOf, seek_app (h d (by simp [varsOf]))]
  | print a => simp only [insOf, seek_app (h a (by simp [varsOf]))]
  | goto n => rfl
  | cond a n => simp only [insOf, seek_app (h a (by simp [varsOf]))]
  | stop => rfl
theorem mem_vars {ns : List Bytes} : ∀ {l : List Bytes} {n : Bytes}, n ∈ ns → n ∈ ns.foldl addVar l := by
  induction ns with
  | nil => intro l n h; cases h
  | cons a r ih =>
    intro l n h
    rw [List.foldl_cons]
    rcases List.mem_cons.mp h with e | e
    · rw [e]
      exact mem_ext (mem_addVar l a)
    · exact ih e
/-- an instruction's line put -/
theorem put_ins {g : Got} {k : Nat} {ws : List Bytes} (hn : ws ≠ []) (h : ¬ (ws.length = 2 ∧ ws.getD 0 [] = ascii "label")) : put g k ws = match lineOf ws with
    | none => none
    | some x => if 256 ≤ g.items.length ∨ 64 < ((varsOf x).foldl addVar g.vars).length then none else some { g with items := g.items ++ [(k, x)], vars := (varsOf x).foldl addVar g.vars } := by
  unfold put
  rw [if_neg hn]
  have nl : ∀ n, lineOf ws ≠ some (.label n) := by
    intro n e
    match ws, h, e with
    | [a], _, e => simp [lineOf] at e
    | [a, b], h, e =>
      have hl : ¬ a = ascii "label" := fun z => h ⟨rfl, z⟩
      simp [lineOf, hl] at e
      split at e
      · cases e.2
      · split at e
        · cases e.2
        · cases e.2
    | [d, e', a], _, e =>
      simp only [lineOf] at e
      split at e
      · cases e
      · split at e
        · cases e
        · split at e
          · cases e
          · split at e <;> cases e
    | [i, a, g, n], _, e =>
      simp only [lineOf] at e
      split at e <;> cases e
    | [d, e', a, o, b], _, e =>
      simp only [lineOf] at e
      split at e
      · cases e
      · cases q : ops.findIdx? (fun x => x == o) with
        | none => rw [q] at e; cases e
        | some k => rw [q] at e; cases e
    | a :: b :: c :: d :: e' :: f :: r, _, e => simp [lineOf] at e
  cases q : lineOf ws with
  | none => rfl
  | some x =>
    cases x with
    | label n => exact absurd q (nl n)
    | num d z => rfl
    | copy d a => rfl
    | op k d a b => rfl
    | read d => rfl
    | print a => rfl
    | goto n => rfl
    | cond a n => rfl
    | stop => rfl
theorem put_label {g : Got} {k : Nat} {b : Bytes} : put g k [ascii "label", b] = if isName b = false ∨ (place g.labels b).isSome = true then none else some { g with labels := g.labels ++ [(b, g.items.length)] } := by
  unfold put
  rw [if_neg (by simp)]
  cases hn : isName b with
  | false => simp [lineOf, hn]
  | true =>
    have e : lineOf [ascii "label", b] = some (.label b) := by simp [lineOf, hn]
    rw [e]
    simp
end My

set_option Elab.async false
set_option linter.all false
set_option maxRecDepth 100000
set_option maxHeartbeats 1000000
namespace My
open PySem L2
theorem Paired.mapM2 {α β : Type} {F G : α → β → Prop} : ∀ {l₁ : List α} {l₂ : List β}, Paired F l₁ l₂ → (∀ a b, b ∈ l₂ → F a b → G a b) → Paired G l₁ l₂
  | _, _, .nil, _ => .nil
  | _, _, .cons r t, f => .cons (f _ _ (by simp) r) (Paired.mapM2 t fun a b m => f a b (by simp [m]))
def JumpAt (H : Hp) (is : List Addr) (j : Addr) (x : Nat × List Nat × Nat) : Prop := ∃ a p, is[x.1]? = some a ∧ H j = some (.tup [.ref a, .ref p, .int (x.2.2 : Int)]) ∧ H p = some (.tup (iw x.2.1))
/-- a Reading at r that has read g -/
structure RdAt (t : Ad) (H : Hp) (r : Addr) (A : RA) (ln : Nat) (is js : List Addr) (g : Sz43.Got) : Prop where
  raw : Raw t H r A ln is g.vars g.labels js
  ins : Paired (fun a x => InsAt t H a (ins0 g.vars x.2) .non) is g.items
  jms : Paired (fun j x => JumpAt H is j x) js (jumpsOf g.items)
  nd : is.Nodup
  nr : ∀ a ∈ is, a ≠ r
  mem : ∀ x ∈ g.items, ∀ n ∈ Sz43.varsOf x.2, n ∈ g.vars
  l256 : g.items.length ≤ 256
  l64 : g.vars.length ≤ 64
theorem jumps_len : ∀ (items : List (Nat × Sz43.Line)) (i : Nat), (jumpsFrom i items).length ≤ items.length
  | [], _ => Nat.le_refl _
  | x :: r, i => by
    have ih := jumps_len r (i + 1)
    show ((match lblOf x.2 with | some n => [(i, n, x.1)] | none => []) ++ jumpsFrom (i + 1) r).length ≤ _
    rw [List.length_append, List.length_cons]
    cases lblOf x.2 <;> simp <;> omega
theorem RdAt.jl {t : Ad} {H : Hp} {r : Addr} {A : RA} {ln : Nat} {is js : List Addr} {g : Sz43.Got} (D : RdAt t H r A ln is js g) : js.length ≤ 1000 := by
  have h1 : js.length = (jumpsOf g.items).length := Paired.length D.jms
  have h2 := jumps_len g.items 0
  have h3 := D.l256
  unfold jumpsOf at h1
  omega
inductive spTakeLabel (t : Ad) (vs : List V) (H : Hp) (Q : VK) (E : XK) : Prop
  | mk (r : Addr) (A : RA) (ln : Nat) (is js : List Addr) (g : Sz43.Got) (p : Addr) (w : List Nat) : vs = [.ref r, .ref p] → RdAt t H r A ln is js g → H p = some (.tup (iw w)) → w ≠ [] → g.labels.length ≤ 1000000 → (((Sz43.isName w = false ∨ (Sz43.place g.labels w).isSome = true) → ∀ H', E (.int (ln : Int) 0) none H')) → ((¬ (Sz43.isName w = false ∨ (Sz43.place g.labels w).isSome = true) → ∀ H', RdAt t H' r A ln is js { g with labels := g.labels ++ [(w, g.items.length)] } → Keep r A H H' → Q .non H')) → spTakeLabel t vs H Q E
inductive spTakeIns (t : Ad) (vs : List V) (H : Hp) (Q : VK) (E : XK) : Prop
  | mk (r : Addr) (A : RA) (ln : Nat) (is js : List Addr) (g : Sz43.Got) (q : Addr) (ws : List (List Nat)) : vs = [.ref r, .ref q] → RdAt t H r A ln is js g → LineAt H q ws → q ≠ A.li → q ≠ A.ju → ((∀ w ∈ ws, w ≠ [])) → ws ≠ [] → ¬ (ws.length = 2 ∧ ws.getD 0 [] = Sz43.ascii "label") → ((Sz43.put g ln ws = none → ∀ H', E (.int (ln : Int) 0) none H')) → ((∀ g', Sz43.put g ln ws = some g' → ∀ is' js' H', RdAt t H' r A ln is' js' g' → Keep r A H H' → Q .non H')) → spTakeIns t vs H Q E
inductive spTakeLine (t : Ad) (vs : List V) (H : Hp) (Q : VK) (E : XK) : Prop
  | mk (r : Addr) (A : RA) (ln : Nat) (is js : List Addr) (g : Sz43.Got) (q : Addr) (ws : List (List Nat)) : vs = [.ref r, .ref q] → RdAt t H r A ln is js g → LineAt H q ws → q ≠ A.li → q ≠ A.ju → ((∀ w ∈ ws, w ≠ [])) → g.labels.length ≤ 1000000 → ((Sz43.put g (ln + 1) ws = none → ∀ H', E (.int ((ln + 1 : Nat) : Int) 0) none H')) → ((∀ g', Sz43.put g (ln + 1) ws = some g' → ∀ is' js' H', RdAt t H' r A (ln + 1) is' js' g' → Keep r A H H' → Q .non H')) → spTakeLine t vs H Q E
section
variable {t : Ad} {H H' : Hp} {r : Addr} {A : RA} {ln ln' : Nat} {is js : List Addr} {g : Sz43.Got} {vars : List (List Nat)} {labs : List (List Nat × Nat)} {is' js' : List Addr}
/-- what lies beside the Reading's own things stays -/
theorem RdAt.insK (D : RdAt t H r A ln is js g) (k : Keep r A H H') : Paired (fun a x => InsAt t H' a (ins0 g.vars x.2) .non) is g.items :=
  Paired.mapM D.ins fun a x ha h => h.mono (fun _ _ e => D.raw.keep_tup k e) fun _ _ _ e => D.raw.keep_ins k e (D.nr a ha)
theorem RdAt.jmsK (D : RdAt t H r A ln is js g) (k : Keep r A H H') : Paired (fun j x => JumpAt H' is j x) js (jumpsOf g.items) :=
  Paired.mapP D.jms fun j x ⟨a, p, h1, h2, h3⟩ => ⟨a, p, h1, D.raw.keep_tup k h2, D.raw.keep_tup k h3⟩
theorem RdAt.same (D : RdAt t H r A ln is js g) (s : Same H H') : RdAt t H' r A ln is js g := ⟨D.raw.same s, D.insK (Keep.same s), D.jmsK (Keep.same s), D.nd, D.nr, D.mem, D.l256, D.l64⟩
end
section
variable {P : Program} {w : World} {K : PySem.W.Frag} {mg : Str → Option Value} {base : Heap} {t : Ad}
theorem sc_take_label : FnScope ["self", "word"] ["self", "word"] (defScope s_Reading_take_label) := sc_mk
theorem ok_take_label (T : Txt K mg t) : FnOk P w K mg base (CXE P w t.C_WrongLine) 4 t.f_Reading_take_label t.d_Reading_take_label ["self", "word"] (spTakeLabel t) := by
  refine T.F_Reading_take_label.okX sc_take_label (fun vs H Q E h => ?_) (fun _ A _ s H vs Q E hr h => ?_)
  · obtain ⟨_, _, _, _, _, _, _, _, rfl, _⟩ := h
    rfl
  · obtain ⟨r, Ad, ln, is, js, g, p, u, rfl, D, hp, hn, hl, kE, k⟩ := h
    have hr2 := hr.mono (show 2 ≤ 3 by decide)
    have hu := hu_of hr
    refine ⟨_, pss_cons (ps_if (PW.pt (pw_or (pt_not (pt_val (pe_call (ok_is_name T) hr rfl T.g_is_name T.F_is_name.kp (b_is_name T) .nil pass0 (pa_cons (pv 1) pa_nil)))) (pw_or1 (pt_cmp (pc_din hu (pv 1) (pe_fld (pv 0) rfl)))))) (pss_one (ps_raise T.xc (ok_xinit T) (b_WrongLine___init__ T) hr2 rfl rfl rfl rfl T.gc_WrongLine (pe_fld (pv 0) rfl))) pss_nil)
      (pss_one (ps_dput hu (pe_fld (pv 0) rfl) (pv 1) (pe_callB call_len_seq rfl T.n_len PySem.boot_len (pa_cons (pe_fld (pv 0) rfl) pa_nil)) rfl)), ?_⟩
    refine ⟨_, rfl, p, u, rfl, hp, hn, fun H1 s1 => ⟨_, rfl, ?_⟩⟩
    have D1 := D.same s1
    have R1 := D1.raw
    have hp1 := s1 _ _ hp
    have hk1 : H1 p = some (.tup ((kw u).map kV)) := by rw [kw_iw]; exact hp1
    refine ite2 (fun c1 => ?_) (fun c1 => ?_)
    · refine iteT ?_
      exact ⟨_, rfl, r, _, _, _, _, rfl, R1.ob, T.cl_Reading, T.na_Reading_line, rf_line, _, rfl, kE (.inl (by simpa using c1)) H1⟩
    have nm : ¬ Sz43.isName u = false := by
      intro z
      rw [z] at c1
      exact c1 rfl
    refine ⟨_, rfl, _, rfl, r, _, _, _, _, rfl, R1.ob, T.cl_Reading, T.na_Reading_labels, rf_lab, _, _, rfl, DGet.t R1.lab hk1, _, rfl, ?_⟩
    rw [lab_val]
    cases hf : Sz43.place g.labels u with
    | some i =>
      refine iteT ?_
      exact ⟨_, rfl, r, _, _, _, _, rfl, R1.ob, T.cl_Reading, T.na_Reading_line, rf_line, _, rfl, kE (.inr (by rw [hf]; rfl)) H1⟩
    | none =>
      refine iteF ?_
      have hnv : valV (labKs g.labels) (kw u) = none := by rw [lab_val, hf]; rfl
      refine ⟨_, rfl, r, _, _, _, _, rfl, R1.ob, T.cl_Reading, T.na_Reading_instructions, rf_ins, _, _, rfl, .inl (SqL.of R1.lst), _, rfl, r, _, _, _, _, rfl, R1.ob, T.cl_Reading, T.na_Reading_labels, rf_lab, _, rfl, _, _, rfl, DPut.t R1.lab hk1 (by rw [labKs_len, sizeLine_eq]; omega), ?_⟩
      have le : ((is.map V.ref).length : Int) = ((g.items.length : Nat) : Int) := by
        rw [List.length_map, Paired.length D.ins]
      rw [put_new hnv, le, ← labKs_snoc]
      have n1 : r ≠ Ad.la := ne_of R1.ob R1.lab (by intro z; cases z)
      have kp : Keep r Ad H1 (upd H1 Ad.la (.dT (labKs (g.labels ++ [(u, g.items.length)])))) := fun b o e _ _ _ n _ => by rw [upd_ne n]; exact e
      have R2 : Raw t (upd H1 Ad.la (.dT (labKs (g.labels ++ [(u, g.items.length)])))) r Ad ln is g.vars (g.labels ++ [(u, g.items.length)]) js := ⟨by rw [upd_ne n1]; exact R1.ob, by rw [upd_ne (ne_of R1.lst R1.lab (by intro z; cases z))]; exact R1.lst, by rw [upd_ne R1.nvl]; exact R1.var, upd_same, by rw [upd_ne (ne_of R1.jum R1.lab (by intro z; cases z))]; exact R1.jum, R1.nij, R1.nvl⟩
      refine k ?_ _ ⟨R2, D1.insK kp, D1.jmsK kp, D1.nd, D1.nr, D1.mem, D1.l256, D1.l64⟩ ((Keep.same s1).trans kp)
      rintro (z | z)
      · exact nm z
      · rw [hf] at z
        cases z
theorem sc_take_instruction : FnScope ["self", "words"] ["self", "words"] (defScope s_Reading_take_instruction) := sc_mk
theorem ok_take_instruction (T : Txt K mg t) : FnOk P w K mg base (CXE P w t.C_WrongLine) 7 t.f_Reading_take_instruction t.d_Reading_take_instruction ["self", "words"] (spTakeIns t) := by
  refine T.F_Reading_take_instruction.okX sc_take_instruction (fun vs H Q E h => ?_) (fun _ A _ s H vs Q E hr h => ?_)
  · obtain ⟨_, _, _, _, _, _, _, _, rfl, _⟩ := h
    rfl
  · obtain ⟨r, Ad, ln, is, js, g, q, ws, rfl, D, hL, nq1, nq2, hne, hn, hnl, kE, k⟩ := h
    have hr2 := hr.mono (show 2 ≤ 6 by decide)
    have R := D.raw
    rw [put_ins hn hnl] at kE k
    refine ⟨_, pss_cons (ps_if (pt_cmpR op_eq (pe_callB call_len_seq rfl T.n_len PySem.boot_len (pa_cons (pe_fld (pv 0) rfl) pa_nil)) (pe_cint T.c_MOST_INSTRUCTIONS rfl) (nomark _)) (pss_one (ps_raise T.xc (ok_xinit T) (b_WrongLine___init__ T) hr2 rfl rfl rfl rfl T.gc_WrongLine (pe_fld (pv 0) rfl))) pss_nil)
      (pss_one (ps_expr (pe_bm PySem.F.plainAttrs_list PySem.F.slot_list_append PySem.F.type_list_append mt_append (pe_fld (pv 0) rfl) (pa_cons (pe_meth (pv 0) T.cl_Reading T.m_Reading_instruction_of (ok_instruction_of T) hr (b_Reading_instruction_of T) .nil (passE rfl rfl) (pa_cons (pv 1) pa_nil)) pa_nil)))), ?_⟩
    have li : is.length = g.items.length := Paired.length D.ins
    refine ⟨_, rfl, r, _, _, _, _, rfl, R.ob, T.cl_Reading, T.na_Reading_instructions, rf_ins, _, _, rfl, .inl (SqL.of R.lst), rfl, _, rfl, ?_⟩
    rw [List.length_map, li, show (V.int 256) = V.int ((256 : Nat) : Int) from rfl, dec_len]
    by_cases h256 : g.items.length = 256
    · rw [decide_eq_true h256]
      refine iteT ?_
      refine ⟨_, rfl, r, _, _, _, _, rfl, R.ob, T.cl_Reading, T.na_Reading_line, rf_line, _, rfl, kE ?_ H⟩
      cases Sz43.lineOf ws with
      | none => rfl
      | some x => exact if_pos (.inl (by omega))
    rw [decide_eq_false h256]
    refine iteF ?_
    have lt : ¬ 256 ≤ g.items.length := by have := D.l256; omega
    have eM := insM_eq D.l64 ws hnl
    refine ⟨_, rfl, r, _, _, _, _, rfl, R.ob, T.cl_Reading, T.na_Reading_instructions, rf_ins, .inl ⟨rfl, _, SqL.of R.lst⟩, _, rfl, r, _, _, rfl, R.ob, rf_m4, _, rfl, r, Ad, ln, is, g.vars, g.labels, js, q, ws, rfl, R, hL, nq1, nq2, hne, D.l64, D.jl, fun e => ?_, fun x ex a js' H1 R1 k1 f1 i1 j1 => ?_⟩
    · refine kE ?_
      rw [eM] at e
      unfold lineM at e
      cases hx : Sz43.lineOf ws with
      | none => rfl
      | some x =>
        rw [hx] at e
        have e : (if 64 < ((Sz43.varsOf x).foldl addVar g.vars).length then none else some (Sz43.insOf ⟨[], [], (Sz43.varsOf x).foldl addVar g.vars⟩ x, (Sz43.varsOf x).foldl addVar g.vars, lblOf x)) = none := e
        split at e
        · rename_i z
          exact if_pos (.inr z)
        · cases e
    · refine ⟨_, _, _, rfl, rfl, R1.lst, (by rw [List.length_map, sizeLine_eq]; have := D.l256; omega), ?_⟩
      rw [eM] at ex
      unfold lineM at ex
      cases hx : Sz43.lineOf ws with
      | none =>
        rw [hx] at ex
        cases ex
      | some y =>
        rw [hx] at ex k
        have ex : (if 64 < ((Sz43.varsOf y).foldl addVar g.vars).length then none else some (Sz43.insOf ⟨[], [], (Sz43.varsOf y).foldl addVar g.vars⟩ y, (Sz43.varsOf y).foldl addVar g.vars, lblOf y)) = some x := ex
        split at ex
        · cases ex
        rename_i l64
        cases ex
        have k := k _ (if_neg (by rintro (z | z) <;> omega))
        have na : a ∉ is := fun z => by
          obtain ⟨b, dx, u, op, h1, _⟩ := mem_left D.ins z
          rw [f1] at h1
          cases h1
        have nr : a ≠ r := (ne_of_none R.ob f1).symm
        have nal : a ≠ Ad.li := (ne_of_none R.lst f1).symm
        have kp : Keep r Ad H1 (upd H1 Ad.li (.lst (is.map V.ref ++ [.ref a]))) := fun b o e _ n _ _ _ => by rw [upd_ne n]; exact e
        have R2 : Raw t (upd H1 Ad.li (.lst (is.map V.ref ++ [.ref a]))) r Ad ln (is ++ [a]) ((Sz43.varsOf y).foldl addVar g.vars) g.labels js' := ⟨by rw [upd_ne (ne_of R1.ob R1.lst (by intro z; cases z))]; exact R1.ob, by rw [upd_same, List.map_append]; rfl, by rw [upd_ne (ne_of R1.var R1.lst (by intro z; cases z))]; exact R1.var, by rw [upd_ne (ne_of R1.lab R1.lst (by intro z; cases z))]; exact R1.lab, by rw [upd_ne R1.nij.symm]; exact R1.jum, R1.nij, R1.nvl⟩
        have k2 := k1.trans kp
        obtain ⟨m, em⟩ := addVars_ext (Sz43.varsOf y) g.vars
        refine k (is ++ [a]) js' _ ⟨R2, ?_, ?_, ?_, ?_, ?_, ?_, ?_⟩ k2
        · refine Paired.app ?_ (.cons ?_ .nil)
          · refine Paired.mapM2 (D.insK k2) fun b x hx h => ?_
            show InsAt t _ b (ins0 ((Sz43.varsOf y).foldl addVar g.vars) x.2) .non
            rw [em, ins0_ext (D.mem x hx)]
            exact h
          · exact i1.mono (fun _ _ e => R1.keep_tup kp e) fun _ _ _ e => by rw [upd_ne nal]; exact e
        · show Paired _ js' (jumpsOf (g.items ++ [(ln, y)]))
          rw [jumpsOf_snoc]
          have old : Paired (fun j x => JumpAt (upd H1 Ad.li (.lst (is.map V.ref ++ [.ref a]))) (is ++ [a]) j x) js (jumpsOf g.items) := Paired.mapP (D.jmsK k2) fun j x ⟨b, p, h1, h2, h3⟩ => ⟨b, p, by rw [List.getElem?_append_left (List.getElem?_eq_some_iff.mp h1).1]; exact h1, h2, h3⟩
          have j1 : JsOk H H1 ln a js js' (lblOf y) := j1
          show Paired _ js' (jumpsOf g.items ++ (match lblOf y with | some n => [(g.items.length, n, ln)] | none => []))
          cases hl : lblOf y with
          | none =>
            rw [hl] at j1
            have e : js' = js := j1
            rw [e, List.append_nil]
            exact old
          | some n =>
            rw [hl] at j1
            obtain ⟨j, p, e, h1, h2⟩ := j1
            rw [e]
            refine Paired.app old (.cons ⟨a, p, ?_, R1.keep_tup kp h1, R1.keep_tup kp h2⟩ .nil)
            show (is ++ [a])[g.items.length]? = some a
            rw [← li]
            simp
        · rw [List.nodup_append]
          exact ⟨D.nd, by simp, fun x hx y hy => by
            have : y = a := by simpa using hy
            rw [this]
            exact fun z => na (z ▸ hx)⟩
        · intro b hb
          rcases List.mem_append.mp hb with hb | hb
          · exact D.nr b hb
          · have : b = a := by simpa using hb
            rw [this]
            exact nr
        · intro x hx n hnn
          show n ∈ (Sz43.varsOf y).foldl addVar g.vars
          rcases List.mem_append.mp hx with hx | hx
          · exact mem_ext (D.mem x hx n hnn)
          · have : x = (ln, y) := by simpa using hx
            rw [this] at hnn
            exact mem_vars hnn
        · show (g.items ++ [(ln, y)]).length ≤ 256
          rw [List.length_append, List.length_singleton]
          omega
        · show ((Sz43.varsOf y).foldl addVar g.vars).length ≤ 64
          omega
end
end My

set_option linter.all false
namespace My
open Sz43
theorem jf_get : ∀ (items : List (Nat × Line)) (i m idx k : Nat) (n : Bytes), (jumpsFrom i items)[m]? = some (idx, n, k) → i ≤ idx ∧ ∃ line, items[idx - i]? = some (k, line) ∧ lblOf line = some n
  | [], _, _, _, _, _, h => by simp [jumpsFrom] at h
  | x :: r, i, m, idx, k, n, h => by
    have later : ∀ m', (jumpsFrom (i + 1) r)[m']? = some (idx, n, k) → i ≤ idx ∧ ∃ line, (x :: r)[idx - i]? = some (k, line) ∧ lblOf line = some n := fun m' h => by
      obtain ⟨h1, line, h2, h3⟩ := jf_get r (i + 1) m' idx k n h
      refine ⟨by omega, line, ?_, h3⟩
      have e : idx - i = (idx - (i + 1)) + 1 := by omega
      rw [e, List.getElem?_cons_succ]
      exact h2
    unfold jumpsFrom at h
    cases hl : lblOf x.2 with
    | none =>
      rw [hl] at h
      exact later m h
    | some n' =>
      rw [hl] at h
      cases m with
      | zero =>
        have h : (i, n', x.1) = (idx, n, k) := Option.some.inj h
        injection h with h1 h2
        injection h2 with h2 h3
        subst h1 h2 h3
        exact ⟨Nat.le_refl _, x.2, by simp, hl⟩
      | succ m => exact later m h
theorem jf_mem : ∀ (items : List (Nat × Line)) (i idx : Nat) (x : Nat × Line) (n : Bytes), items[idx]? = some x → lblOf x.2 = some n → i + idx ∈ (jumpsFrom i items).map (·.1)
  | [], _, _, _, _, h, _ => by simp at h
  | y :: r, i, idx, x, n, h, hl => by
    unfold jumpsFrom
    rw [List.map_append, List.mem_append]
    cases idx with
    | zero =>
      have h : y = x := by simpa using h
      subst h
      rw [hl]
      exact .inl (by simp)
    | succ idx =>
      have := jf_mem r (i + 1) idx x n (by simpa using h) hl
      refine .inr ?_
      have e : i + (idx + 1) = i + 1 + idx := by omega
      rw [e]
      exact this
theorem jf_find (g : Got) : ∀ (items : List (Nat × Line)) (i : Nat), ((jumpsFrom i items).find? fun x => (place g.labels x.2.1).isNone).map (fun x => x.2.2) = (items.find? fun x => gone g x.2).map (fun x => x.1)
  | [], _ => rfl
  | y :: r, i => by
    have ih := jf_find g r (i + 1)
    unfold jumpsFrom
    rw [List.find?_append, List.find?_cons]
    have go : gone g y.2 = match lblOf y.2 with | some n => (place g.labels n).isNone | none => false := by
      cases y.2 <;> rfl
    rw [go]
    cases hl : lblOf y.2 with
    | none => simpa using ih
    | some n =>
      cases hp : (place g.labels n).isNone with
      | true => simp [hp]
      | false => simpa [hp] using ih
end My

set_option Elab.async false
set_option linter.all false
set_option maxRecDepth 100000
set_option maxHeartbeats 1000000
namespace My
open PySem L2
def plF : Sz43.Ins → V
  | .goto u => .int (u : Int)
  | .cond _ u => .int (u : Int)
  | _ => .non
theorem insAt_any {t : Ad} {H : Hp} {a : Addr} {g : Sz43.Got} {x : Sz43.Line} {pl : V} (h : InsAt t H a (ins0 g.vars x) pl) : InsAt t H a (Sz43.insOf g x) pl := by
  cases x <;> exact h
def plAt (g : Sz43.Got) (m idx : Nat) (x : Sz43.Line) : V := match lblOf x with
  | none => .non
  | some n => if idx ∈ ((jumpsOf g.items).take m).map (·.1) then .int (((Sz43.place g.labels n).getD 0 : Nat) : Int) else .non
inductive spFind (t : Ad) (vs : List V) (H : Hp) (Q : VK) (E : XK) : Prop
  | mk (r : Addr) (A : RA) (ln : Nat) (is js : List Addr) (g : Sz43.Got) : vs = [.ref r] → RdAt t H r A ln is js g → ((∀ x, ((jumpsOf g.items).find? fun x => (Sz43.place g.labels x.2.1).isNone) = some x → ∀ H', E (.int (x.2.2 : Int) 0) none H')) → ((((jumpsOf g.items).find? fun x => (Sz43.place g.labels x.2.1).isNone) = none → ∀ H', Raw t H' r A ln is g.vars g.labels js → Paired (fun a x => InsAt t H' a (Sz43.insOf g x.2) (plF (Sz43.insOf g x.2))) is g.items → Q .non H')) → spFind t vs H Q E
theorem pair_of {α β : Type} {F : α → β → Prop} : ∀ {l₁ : List α} {l₂ : List β}, l₁.length = l₂.length → (∀ (i : Nat) a b, l₁[i]? = some a → l₂[i]? = some b → F a b) → Paired F l₁ l₂
  | [], [], _, _ => .nil
  | a :: l₁, b :: l₂, h, f => .cons (f 0 a b rfl rfl) (pair_of (by simpa using h) fun i x y h1 h2 => f (i + 1) x y (by simpa using h1) (by simpa using h2))
theorem pair_get {α β : Type} {F : α → β → Prop} : ∀ {l₁ : List α} {l₂ : List β} {i : Nat} {a : α} {b : β}, Paired F l₁ l₂ → l₁[i]? = some a → l₂[i]? = some b → F a b
  | _, _, _, _, _, .nil, h, _ => by simp at h
  | _, _, 0, _, _, .cons r _, h1, h2 => by
    simp at h1 h2
    subst h1 h2
    exact r
  | _, _, i + 1, _, _, .cons _ t, h1, h2 => pair_get (i := i) t (by simpa using h1) (by simpa using h2)
theorem find_split {α : Type} {p : α → Bool} : ∀ {l : List α} {m : Nat} {x : α}, l[m]? = some x → p x = true → (∀ y ∈ l.take m, p y = false) → l.find? p = some x
  | [], _, _, h, _, _ => by simp at h
  | a :: l, 0, x, h, hp, _ => by
    have : a = x := by simpa using h
    subst this
    rw [List.find?_cons, hp]
  | a :: l, m + 1, x, h, hp, k => by
    rw [List.find?_cons, k a (by simp)]
    exact find_split (m := m) (by simpa using h) hp fun y hy => k y (by simp [hy])
theorem find_none' {α : Type} {p : α → Bool} {l : List α} (k : ∀ y ∈ l, p y = false) : l.find? p = none := by
  rw [List.find?_eq_none]
  intro y hy
  rw [k y hy]
  decide
section
variable {P : Program} {w : World} {K : PySem.W.Frag} {mg : Str → Option Value} {base : Heap} {t : Ad}
theorem sc_take_line : FnScope ["self", "words"] ["self", "words"] (defScope s_Reading_take_line) := sc_mk
theorem ok_take_line (T : Txt K mg t) : FnOk P w K mg base (CXE P w t.C_WrongLine) 8 t.f_Reading_take_line t.d_Reading_take_line ["self", "words"] (spTakeLine t) := by
  refine T.F_Reading_take_line.okX sc_take_line (fun vs H Q E h => ?_) (fun _ A _ s H vs Q E hr h => ?_)
  · obtain ⟨_, _, _, _, _, _, _, _, rfl, _⟩ := h
    rfl
  · obtain ⟨r, Ad, ln, is, js, g, q, ws, rfl, D, hL, nq1, nq2, hne, hl, kE, k⟩ := h
    have hr1 := hr.mono (show 1 ≤ 7 by decide)
    have hr4 := hr.mono (show 4 ≤ 7 by decide)
    have R := D.raw
    refine ⟨_, pss_cons (ps_fld (pv 0) (pe_op op_add (pe_fld (pv 0) rfl) pe_int) rfl)
      (pss_cons (ps_if (pt_cmpR op_eq (pe_callB call_len_seq rfl T.n_len PySem.boot_len (pa_cons (pv 1) pa_nil)) pe_int (nomark _)) (pss_one ps_retN) pss_nil)
      (pss_one (ps_if (PW.pt (pw_and (pt_cmpR op_eq (pe_callB call_len_seq rfl T.n_len PySem.boot_len (pa_cons (pv 1) pa_nil)) pe_int (nomark _)) (pw_and1 (pt_cmpR (op_eqD hr.units) (pe_ix ix_list (pv 1) pe_int (fun _ _ => rfl)) (pe_call (ok_spelled T) hr1 rfl T.g_spelled T.F_spelled.kp (b_spelled T) .nil pass0 (pa_cons pe_str pa_nil)) (nomark _)))))
        (pss_one (ps_expr (pe_meth (pv 0) T.cl_Reading T.m_Reading_take_label (ok_take_label T) hr4 (b_Reading_take_label T) .nil (passE rfl rfl) (pa_cons (pe_ix ix_list (pv 1) pe_int (fun _ _ => rfl)) pa_nil))))
        (pss_one (ps_expr (pe_meth (pv 0) T.cl_Reading T.m_Reading_take_instruction (ok_take_instruction T) hr (b_Reading_take_instruction T) .nil (passE rfl rfl) (pa_cons (pv 1) pa_nil))))))), ?_⟩
    refine ⟨_, rfl, r, _, _, _, _, rfl, R.ob, T.cl_Reading, T.na_Reading_line, rf_line, _, _, rfl, rfl, _, rfl, r, _, _, _, rfl, R.ob, T.cl_Reading, T.na_Reading_line, (by show 5 < 1000; decide), ?_⟩
    have eln : V.int ((ln : Int) + 1) = V.int ((ln + 1 : Nat) : Int) := by
      rw [Int.natCast_add]
      rfl
    rw [rf_put, eln]
    obtain ⟨H1, eH1⟩ : ∃ H1, H1 = upd H r (.ins t.C_Reading Ad.dx (rdFs (.int ((ln + 1 : Nat) : Int)) (.ref Ad.li) (.ref Ad.va) (.ref Ad.la) (.ref Ad.ju))) := ⟨_, rfl⟩
    rw [← eH1]
    have k1 : Keep r Ad H H1 := fun b o e n _ _ _ _ => by rw [eH1, upd_ne n]; exact e
    have up : ∀ b o, H b = some o → b ≠ r → H1 b = some o := fun b o e n => by rw [eH1, upd_ne n]; exact e
    have R1 : Raw t H1 r Ad (ln + 1) is g.vars g.labels js := ⟨by rw [eH1]; exact upd_same, up _ _ R.lst (ne_of R.lst R.ob (by intro z; cases z)), up _ _ R.var (ne_of R.var R.ob (by intro z; cases z)), up _ _ R.lab (ne_of R.lab R.ob (by intro z; cases z)), up _ _ R.jum (ne_of R.jum R.ob (by intro z; cases z)), R.nij, R.nvl⟩
    have D1 : RdAt t H1 r Ad (ln + 1) is js g := ⟨R1, D.insK k1, D.jmsK k1, D.nd, D.nr, D.mem, D.l256, D.l64⟩
    have L1 := R.keep_line k1 hL nq1 nq2
    obtain ⟨rs1, hq1, lrs1, get1⟩ := line_get L1
    have ln1 : (rs1.map V.ref).length = ws.length := by rw [List.length_map, lrs1]
    refine ⟨_, rfl, q, _, rfl, .inl (SqL.of hq1), rfl, _, rfl, ?_⟩
    rw [ln1, show (V.int 0) = V.int ((0 : Nat) : Int) from rfl, dec_len]
    by_cases h0 : ws.length = 0
    · rw [decide_eq_true h0]
      refine iteT ?_
      have e : ws = [] := List.length_eq_zero_iff.mp h0
      refine k g ?_ is js H1 D1 k1
      unfold Sz43.put
      rw [if_pos e]
    rw [decide_eq_false h0]
    refine iteF ?_
    have hn : ws ≠ [] := fun z => h0 (by rw [z]; rfl)
    refine ⟨_, rfl, q, _, rfl, .inl (SqL.of hq1), rfl, _, rfl, ?_⟩
    rw [ln1]
    refine andJ2 (Same H1) (decide (ws.length = 2 ∧ ws.getD 0 [] = Sz43.ascii "label")) (fun c kk => ?_) (fun c => ⟨?_, Same.refl H1⟩) fun H2 s2 => ?_
    · have c := of_decide_eq_true ((dec_len ws.length 2).symm.trans c)
      refine rd_word (i := 0) (x := "label") rfl L1 (by omega) (by decide +kernel) (Sz43.ascii "label") (by decide +kernel) fun H' s' => ?_
      have e : decide (ws.length = 2 ∧ ws.getD 0 [] = Sz43.ascii "label") = decide (ws.getD 0 [] = Sz43.ascii "label") := decide_eq_decide.mpr ⟨fun z => z.2, fun z => ⟨by omega, z⟩⟩
      rw [← e]
      exact kk H' s'
    · have c := of_decide_eq_false ((dec_len ws.length 2).symm.trans c)
      exact decide_eq_false fun z => c z.1
    have D2 := D1.same s2
    have L2 := R1.keep_line (Keep.same s2) L1 nq1 nq2
    obtain ⟨rs2, hq2, lrs2, get2⟩ := line_get L2
    have k2 : Keep r Ad H H2 := k1.trans (Keep.same s2)
    by_cases t1 : ws.length = 2 ∧ ws.getD 0 [] = Sz43.ascii "label"
    · rw [decide_eq_true t1]
      refine iteT ?_
      obtain ⟨p1, i1, hp1⟩ := get2 1 (by omega)
      have ew : ws = [Sz43.ascii "label", ws.getD 1 []] := by
        obtain ⟨l2, e⟩ := t1
        match ws, l2, e with
        | [a, b], _, e =>
          have e : a = Sz43.ascii "label" := e
          rw [e]
          rfl
      rw [ew, put_label] at kE k
      refine ⟨_, rfl, r, _, _, rfl, D2.raw.ob, rf_m2, _, rfl, q, _, _, _, rfl, rfl, SqL.of hq2, atI_nat i1, r, Ad, ln + 1, is, js, g, p1, _, rfl, D2, hp1, getD_ne hne (by omega), hl, fun e => kE (if_pos e), fun e H3 D3 k3 => ?_⟩
      exact k _ (if_neg e) is js H3 D3 (k2.trans k3)
    · rw [decide_eq_false t1]
      refine iteF ?_
      refine ⟨_, rfl, r, _, _, rfl, D2.raw.ob, rf_m3, _, rfl, r, Ad, ln + 1, is, js, g, q, ws, rfl, D2, L2, nq1, nq2, hne, hn, t1, kE, fun g' e is' js' H3 D3 k3 => ?_⟩
      exact k g' e is' js' H3 D3 (k2.trans k3)
theorem sc_find_places : FnScope ["self", "instruction", "label", "line"] ["self"] (defScope s_Reading_find_places) := sc_mk
theorem ok_find_places (T : Txt K mg t) : FnOk P w K mg base (CXE P w t.C_WrongLine) 3 t.f_Reading_find_places t.d_Reading_find_places ["self"] (spFind t) := by
  refine T.F_Reading_find_places.okX sc_find_places (fun vs H Q E h => ?_) (fun _ A _ s H vs Q E hr h => ?_)
  · obtain ⟨_, _, _, _, _, _, rfl, _⟩ := h
    rfl
  · obtain ⟨r, Ad, ln, is, js, g, rfl, D, kE, k⟩ := h
    have hu := hu_of hr
    have nd := sc_find_places.nd
    refine ⟨_, pss_one (ps_for (own_ok rfl rfl rfl) rfl (pi_list (pe_fld (pv 0) rfl)) (pg_tup rfl (pgs_cons (pg_name (i := 1) nd rfl (Or.inl rfl)) (pgs_cons (pg_name (i := 2) nd rfl (Or.inl rfl)) (pgs_cons (pg_name (i := 3) nd rfl (Or.inl rfl)) pgs_nil))))
      (pss_cons (ps_if (pt_cmp (pc_dnotin hu (pv 2) (pe_fld (pv 0) rfl))) (pss_one (ps_raise T.xc (ok_xinit T) (b_WrongLine___init__ T) hr rfl rfl rfl rfl T.gc_WrongLine (pv 3))) pss_nil)
      (pss_one (ps_fld (pv 1) (pe_dget hu (pe_fld (pv 0) rfl) (pv 2) (fun _ _ => rfl)) rfl)))), ?_⟩
    have R := D.raw
    have li : is.length = g.items.length := Paired.length D.ins
    have lj : js.length = (jumpsOf g.items).length := Paired.length D.jms
    refine ⟨_, rfl, r, _, _, _, _, rfl, R.ob, T.cl_Reading, T.na_Reading_jumps, rf_jum, Ad.ju, rfl, ⟨_, SqL.of R.jum⟩, for_list (K := K) (a := Ad.ju) (xs := js.map V.ref) (fun m σ Hh => ∃ v1 v2 v3, σ = [some (.ref r), v1, v2, v3] ∧ Raw t Hh r Ad ln is g.vars g.labels js ∧ Paired (fun j x => JumpAt Hh is j x) js (jumpsOf g.items) ∧
      (∀ y ∈ (jumpsOf g.items).take m, (Sz43.place g.labels y.2.1).isNone = false) ∧ ∀ (idx : Nat) a x, is[idx]? = some a → g.items[idx]? = some x → InsAt t Hh a (ins0 g.vars x.2) (plAt g m idx x.2)) ?_ (fun i σ Hh _ ⟨_, _, _, _, R, _⟩ => SqL.of R.jum) ?_ ?_⟩
    · refine ⟨none, none, none, rfl, R, D.jms, fun y hy => absurd hy (by simp), fun idx a x h1 h2 => ?_⟩
      have := pair_get D.ins h1 h2
      unfold plAt
      cases lblOf x.2 <;> simpa using this
    · rintro m y σ Hh hy ⟨v1, v2, v3, rfl, R1, J1, pl, I1⟩
      rw [List.getElem?_map] at hy
      obtain ⟨j, hj, rfl⟩ := Option.map_eq_some_iff.mp hy
      have hm : m < (jumpsOf g.items).length := by
        have := (List.getElem?_eq_some_iff.mp hj).1
        omega
      obtain ⟨⟨idx, n, kk⟩, hx⟩ : ∃ x, (jumpsOf g.items)[m]? = some x := ⟨_, List.getElem?_eq_getElem hm⟩
      obtain ⟨a, p, h1, h2, h3⟩ := pair_get J1 hj hx
      have h1 : is[idx]? = some a := h1
      have h2 : Hh j = some (.tup [.ref a, .ref p, .int (kk : Int)]) := h2
      have h3 : Hh p = some (.tup (iw n)) := h3
      obtain ⟨_, line, hi, hlb⟩ := jf_get g.items 0 m idx kk n hx
      rw [Nat.sub_zero] at hi
      have hk : Hh p = some (.tup ((kw n).map kV)) := by rw [kw_iw]; exact h3
      refine ⟨j, _, rfl, SqT.of h2, rfl, _, _, rfl, _, _, rfl, _, _, rfl, rfl, ?_⟩
      refine ⟨_, rfl, _, rfl, r, _, _, _, _, rfl, R1.ob, T.cl_Reading, T.na_Reading_labels, rf_lab, _, _, rfl, DGet.t R1.lab hk, _, rfl, ?_⟩
      rw [lab_val]
      cases hp : Sz43.place g.labels n with
      | none =>
        refine iteT ?_
        refine ⟨_, rfl, _, rfl, kE (idx, n, kk) (find_split hx (by show (Sz43.place g.labels n).isNone = true; rw [hp]; rfl) pl) Hh⟩
      | some u =>
        refine iteF ?_
        obtain ⟨dx, us, op, ha, hus, hop⟩ := I1 idx a _ h1 hi
        have ar : a ≠ r := D.nr a (List.mem_of_getElem? h1)
        refine ⟨_, rfl, r, _, _, _, _, rfl, R1.ob, T.cl_Reading, T.na_Reading_labels, rf_lab, _, rfl, _, .int (u : Int), rfl, ?_, _, rfl, a, _, dx, _, rfl, ha, T.cl_Instruction, T.na_Instruction_place, Nat.lt_of_le_of_lt (insFs_len _ _ _ _ _ _) (by decide), ?_⟩
        · have := DGet.t R1.lab hk
          rw [lab_val, hp] at this
          exact this
        rw [insFs_put]
        have tp : ∀ b xs, Hh b = some (.tup xs) → (upd Hh a (.ins t.C_Instruction dx (insFs (kindS (ins0 g.vars line)) (.ref us) (givV (ins0 g.vars line)) (numV (ins0 g.vars line)) op (.int (u : Int))))) b = some (.tup xs) := fun b xs e => by
          rw [upd_ne (ne_of e ha (by intro z; cases z))]
          exact e
        refine ⟨_, _, _, rfl, ⟨by rw [upd_ne ar.symm]; exact R1.ob, by rw [upd_ne (ne_of R1.lst ha (by intro z; cases z))]; exact R1.lst, by rw [upd_ne (ne_of R1.var ha (by intro z; cases z))]; exact R1.var, by rw [upd_ne (ne_of R1.lab ha (by intro z; cases z))]; exact R1.lab, by rw [upd_ne (ne_of R1.jum ha (by intro z; cases z))]; exact R1.jum, R1.nij, R1.nvl⟩, Paired.mapP J1 fun j x ⟨b, q, z1, z2, z3⟩ => ⟨b, q, z1, tp _ _ z2, tp _ _ z3⟩, ?_, ?_⟩
        · intro y hy
          rw [List.take_add_one, hx] at hy
          rcases List.mem_append.mp hy with hy | hy
          · exact pl y hy
          · have : y = (idx, n, kk) := by simpa using hy
            rw [this]
            show (Sz43.place g.labels n).isNone = false
            rw [hp]
            rfl
        · intro i' a' x' e1 e2
          by_cases hii : i' = idx
          · subst hii
            rw [h1] at e1
            rw [hi] at e2
            cases e1
            cases e2
            refine ⟨dx, us, op, ?_, tp _ _ hus, hop.mono tp⟩
            rw [upd_same]
            have ep : plAt g (m + 1) i' line = .int (u : Int) := by
              unfold plAt
              rw [hlb]
              show (if i' ∈ _ then V.int (((Sz43.place g.labels n).getD 0 : Nat) : Int) else V.non) = _
              rw [if_pos, hp]
              · rfl
              · rw [List.take_add_one, hx, List.map_append]
                exact List.mem_append_right _ (by simp)
            rw [ep]
          · have na : a' ≠ a := fun z => hii (by
              rw [z] at e1
              obtain ⟨q1, w1⟩ := List.getElem?_eq_some_iff.mp e1
              obtain ⟨q2, w2⟩ := List.getElem?_eq_some_iff.mp h1
              exact (List.getElem_inj D.nd).mp (w1.trans w2.symm))
            have ep : plAt g (m + 1) i' x'.2 = plAt g m i' x'.2 := by
              unfold plAt
              cases lblOf x'.2 with
              | none => rfl
              | some n' =>
                show (if i' ∈ _ then V.int _ else V.non) = (if i' ∈ _ then V.int _ else V.non)
                rw [List.take_add_one, hx, List.map_append]
                have : (i' ∈ ((jumpsOf g.items).take m).map (·.1) ++ ((some (idx, n, kk)).toList).map (·.1)) ↔ (i' ∈ ((jumpsOf g.items).take m).map (·.1)) := by
                  rw [List.mem_append]
                  constructor
                  · rintro (z | z)
                    · exact z
                    · have : i' = idx := by simpa using z
                      exact absurd this hii
                  · exact .inl
                simp only [this]
            rw [ep]
            exact (I1 i' a' x' e1 e2).mono tp fun _ _ _ e => by rw [upd_ne na]; exact e
    · rintro σ Hh ⟨v1, v2, v3, rfl, R1, J1, pl, I1⟩
      rw [List.length_map, lj, List.take_length] at pl
      refine k (find_none' pl) Hh R1 (pair_of li fun i a x e1 e2 => ?_)
      have := I1 i a x e1 e2
      rw [List.length_map, lj] at this
      have ep : plAt g (jumpsOf g.items).length i x.2 = plF (Sz43.insOf g x.2) := by
        have hm := fun n hn => jf_mem g.items 0 i x n e2 hn
        rw [Nat.zero_add] at hm
        unfold plAt
        rw [List.take_length]
        cases hx : x.2 with
        | goto n =>
          rw [hx] at hm
          show (if i ∈ (jumpsOf g.items).map (·.1) then V.int (((Sz43.place g.labels n).getD 0 : Nat) : Int) else V.non) = V.int (((Sz43.place g.labels n).getD 0 : Nat) : Int)
          rw [if_pos]
          exact hm n rfl
        | cond b n =>
          rw [hx] at hm
          show (if i ∈ (jumpsOf g.items).map (·.1) then V.int (((Sz43.place g.labels n).getD 0 : Nat) : Int) else V.non) = V.int (((Sz43.place g.labels n).getD 0 : Nat) : Int)
          rw [if_pos]
          exact hm n rfl
        | _ => rfl
      rw [ep] at this
      exact insAt_any this
end
end My

set_option linter.all false
namespace My
open Sz43
theorem parted_len (f : Nat → Bool) : ∀ t, (parted f t).length ≤ t.length + 1
  | [] => Nat.le_refl _
  | c :: r => by
    have ih := parted_len f r
    obtain ⟨l, m, e⟩ := parted_cons f r
    rw [e] at ih
    cases h : f c with
    | true =>
      rw [parted_pos h, e]
      simp only [List.length_cons] at *
      omega
    | false =>
      rw [parted_neg h e]
      simp only [List.length_cons] at *
      omega
theorem put_labels {g g' : Got} {k : Nat} {ws : List Bytes} (h : put g k ws = some g') : g'.labels.length ≤ g.labels.length + 1 := by
  unfold put at h
  split at h
  · cases h
    omega
  · split at h
    · cases h
    · split at h
      · cases h
      · cases h
        simp
    · dsimp only at h
      split at h
      · cases h
      · cases h
        simp
theorem puts_step {g : Got} {k : Nat} {ws : List Bytes} {r : List (List Bytes)} : puts g k (ws :: r) = match put g k ws with
    | some h => puts h (k + 1) r
    | none => .error k := rfl
theorem parse_eq (t : Bytes) : parse t = match puts ⟨[], [], []⟩ 1 ((parted (fun (c : Nat) => c == 10) t).map words) with
  | .error k => .error k
  | .ok g => match (jumpsOf g.items).find? (fun x => (place g.labels x.2.1).isNone) with
    | some x => .error x.2.2
    | none => .ok ⟨g.vars, g.items.map fun (x : Nat × Line) => insOf g x.2⟩ := by
  unfold parse
  cases puts ⟨[], [], []⟩ 1 ((parted (fun (c : Nat) => c == 10) t).map words) with
  | error k => rfl
  | ok g =>
    have h := jf_find g g.items 0
    show (match g.items.find? fun x => gone g x.2 with | some x => _ | none => _) = (match (jumpsOf g.items).find? (fun x => (place g.labels x.2.1).isNone) with | some x => _ | none => _)
    unfold jumpsOf
    cases h1 : (jumpsFrom 0 g.items).find? (fun x => (place g.labels x.2.1).isNone) with
    | none =>
      rw [h1] at h
      cases h2 : g.items.find? (fun x => gone g x.2) with
      | none => rfl
      | some y => rw [h2] at h; cases h
    | some x =>
      rw [h1] at h
      cases h2 : g.items.find? (fun x => gone g x.2) with
      | none => rw [h2] at h; cases h
      | some y =>
        rw [h2] at h
        have h : x.2.2 = y.1 := Option.some.inj h
        show Except.error y.1 = Except.error x.2.2
        rw [h]
end My

set_option Elab.async false
set_option linter.all false
set_option maxRecDepth 100000
namespace L2
open PySem PySem.Spec PyProof.Rows
/-- what is no list stays -/
def NL (H H' : Hp) : Prop := ∀ b o, H b = some o → (∀ xs, o ≠ .lst xs) → H' b = some o
theorem Same.nl {H H' : Hp} (s : Same H H') : NL H H' := fun b o e _ => s b o e
theorem NL.updL {H : Hp} {D : Addr} {xs : List V} {o : HO} (h : H D = some (.lst xs)) : NL H (upd H D o) := fun b u e n => by
  rw [upd_ne (ne_of e h (n xs))]
  exact e
/-- [elt for .. in .. if ..], by places -/
theorem lc_ix {J : It} {g : TG} {tt : TT} {te : TE} {vs : List Nat} {σ : St} {H1 : Hp} {Q : Hp → Prop} {D : Addr} (N : Nat) (kp : Nat → Bool) (R : Nat → V → Hp → Prop) (hD : H1 D = none) (hn : N ≤ sizeLine)
    (hR : ∀ i y H H', R i y H → NL H H' → R i y H') (hstop : ∀ H, Same H1 H → J.stop N H)
    (hs : ∀ i H, i < N → Same H1 H → J.go i H ∧ ∀ x H', J.yld i H x H' → ∀ (A : VK) (B : Hp → Prop), (kp i = true → ∀ y H4, Same H H4 → R i y H4 → A y H4) → (kp i = false → ∀ H3, Same H H3 → B H3) →
      g x (wipe σ vs) H' fun σ2 H2 => wipe σ2 vs = wipe σ vs ∧ tt σ2 H2 fun b H3 => if b = true then te σ2 H3 A else B H3)
    (hd : ∀ ys H, Same H1 H → H D = some (.lst ys) → Paired (fun i y => R i y H) ((List.range N).filter kp) ys → Q H) :
    ∃ W : Nat → Nat → Hp → Prop, (∃ m, W 0 m (upd H1 D (.lst []))) ∧ ∀ i m H, W i m H →
      (J.stop i H ∧ Q H) ∨ (J.go i H ∧ ∃ Nx : Hp → Prop, (∀ H', Nx H' → ∃ m', m' < m ∧ W (i + 1) m' H') ∧ ∀ x H', J.yld i H x H' → g x (wipe σ vs) H' fun σ2 H2 => wipe σ2 vs = wipe σ vs ∧ tt σ2 H2 fun b H3 =>
        if b = true then te σ2 H3 fun y H4 => ∃ acc, H4 D = some (.lst acc) ∧ acc.length < sizeLine ∧ Nx (upd H4 D (.lst (acc ++ [y]))) else Nx H3) := by
  let Pv : Nat → Hp → Prop := fun i H => ∃ ys, H D = some (.lst ys) ∧ Same H1 H ∧ Paired (fun x y => R x y H) ((List.range i).filter kp) ys
  refine ⟨fun i m H => m = N - i ∧ i ≤ N ∧ Pv i H, ⟨_, rfl, Nat.zero_le _, [], upd_same, Same.new hD, .nil⟩, ?_⟩
  rintro i m H ⟨rfl, hi, ys, hy, sm, pr⟩
  by_cases hlt : i < N
  · obtain ⟨go, yl⟩ := hs i H hlt sm
    have hl : ys.length ≤ i := by
      rw [← Paired.length pr]
      refine Nat.le_trans (List.length_filter_le _ _) ?_
      rw [List.length_range]
      exact Nat.le_refl _
    refine .inr ⟨go, Pv (i + 1), fun H' p => ⟨N - (i + 1), by omega, rfl, hlt, p⟩, fun x H' y => yl x H' y _ _ (fun k z H4 s4 r4 => ?_) fun k H3 s3 => ?_⟩
    · have u4 := NL.updL (o := .lst (ys ++ [z])) (s4 _ _ hy)
      refine ⟨ys, s4 _ _ hy, by omega, ys ++ [z], upd_same, (sm.trans s4).upd hD, ?_⟩
      rw [List.range_succ, List.filter_append, List.filter_cons, if_pos k]
      exact Paired.app (Paired.mapP pr fun a b r => hR _ _ _ _ (hR _ _ _ _ r s4.nl) u4) (.cons (hR _ _ _ _ r4 u4) .nil)
    · refine ⟨ys, s3 _ _ hy, sm.trans s3, ?_⟩
      rw [List.range_succ, List.filter_append, List.filter_cons, if_neg (by rw [k]; decide), List.filter_nil, List.append_nil]
      exact Paired.mapP pr fun a b r => hR _ _ _ _ r s3.nl
  · have e : i = N := by omega
    subst e
    exact .inl ⟨hstop H sm, hd ys H sm hy pr⟩
section
variable {K : PySem.W.Frag} {a b : Addr} {xs zs : List V} {j j1 j2 : Nat} {tt : TT} {te : TE} {vs : List Nat} {σ : St} {H1 : Hp} {Q : Hp → Prop} {D : Addr}
theorem zip_ix (kp : Nat → Bool) (R : Nat → V → Hp → Prop) (hD : H1 D = none) (hn : xs.length ≤ sizeLine) (ha : SqL K H1 a xs) (hb : SqL K H1 b zs) (hl : xs.length ≤ zs.length)
    (hR : ∀ i y H H', R i y H → NL H H' → R i y H') (hw : ∀ x y, wipe (((wipe σ vs).set j1 (some x)).set j2 (some y)) vs = wipe σ vs)
    (hs : ∀ i x z H, xs[i]? = some x → zs[i]? = some z → Same H1 H → ∀ (A : VK) (B : Hp → Prop), (kp i = true → ∀ y H4, Same H H4 → R i y H4 → A y H4) → (kp i = false → ∀ H3, Same H H3 → B H3) →
      tt (((wipe σ vs).set j1 (some x)).set j2 (some z)) H fun b H3 => if b = true then te (((wipe σ vs).set j1 (some x)).set j2 (some z)) H3 A else B H3)
    (hd : ∀ ys H, Same H1 H → H D = some (.lst ys) → Paired (fun i y => R i y H) ((List.range xs.length).filter kp) ys → Q H) :
    ∃ W : Nat → Nat → Hp → Prop, (∃ m, W 0 m (upd H1 D (.lst []))) ∧ ∀ i m H, W i m H →
      ((Itz K a b).stop i H ∧ Q H) ∨ ((Itz K a b).go i H ∧ ∃ Nx : Hp → Prop, (∀ H', Nx H' → ∃ m', m' < m ∧ W (i + 1) m' H') ∧ ∀ x H', (Itz K a b).yld i H x H' → gTup K 2 (gCons (gName j1) (gCons (gName j2) gNil)) x (wipe σ vs) H' fun σ2 H2 => wipe σ2 vs = wipe σ vs ∧ tt σ2 H2 fun b H3 =>
        if b = true then te σ2 H3 fun y H4 => ∃ acc, H4 D = some (.lst acc) ∧ acc.length < sizeLine ∧ Nx (upd H4 D (.lst (acc ++ [y]))) else Nx H3) := by
  refine lc_ix xs.length kp R hD hn hR (fun H s => ⟨xs, zs, s.seq ha, s.seq hb, .inl (Nat.le_refl _)⟩) (fun i H hi s => ?_) hd
  have hx : xs[i]? = some xs[i] := List.getElem?_eq_getElem hi
  have hz : zs[i]? = some (zs[i]'(by omega)) := List.getElem?_eq_getElem _
  refine ⟨⟨xs, zs, _, _, s.seq ha, s.seq hb, hx, hz⟩, fun x H' y A B hA hB => ?_⟩
  obtain ⟨T, x', y', rfl, hT, rfl, e1, e2⟩ := y
  have s2 : Same H (upd H T (.tup [x', y'])) := Same.new hT
  refine ⟨T, _, rfl, SqT.of upd_same, rfl, _, _, rfl, _, _, rfl, rfl, hw x' y', ?_⟩
  exact hs i x' y' _ (e1 xs (s.seq ha)) (e2 zs (s.seq hb)) (s.trans s2) A B (fun k y H4 s4 r => hA k y H4 (s2.trans s4) r) fun k H3 s3 => hB k H3 (s2.trans s3)
end
theorem all_kp (n : Nat) : (List.range n).filter (fun _ => true) = List.range n := List.filter_eq_self.mpr fun _ _ => rfl
/-- paired by places: paired with any list of that length -/
theorem paired_at {α : Type} {F : α → V → Prop} {l : List α} {ys : List V} (h : Paired (fun (i : Nat) y => ∀ x, l[i]? = some x → F x y) (List.range l.length) ys) : Paired F l ys := by
  have gen : ∀ (l : List α) (k : Nat) (G : Nat → V → Prop) (ys : List V), (∀ i x y, l[i]? = some x → G (k + i) y → F x y) → Paired G ((List.range l.length).map (k + ·)) ys → Paired F l ys := by
    intro l
    induction l with
    | nil =>
      intro k G ys _ h
      cases h
      exact .nil
    | cons x l ih =>
      intro k G ys hG h
      rw [List.length_cons, List.range_succ_eq_map, List.map_cons] at h
      cases h with
      | cons r t =>
        refine .cons (hG 0 x _ rfl r) (ih (k + 1) G _ (fun i z y hz g => hG (i + 1) z y (by simpa using hz) (by rw [show k + (i + 1) = k + 1 + i by omega]; exact g)) ?_)
        rw [List.map_map] at t
        have e : (List.range l.length).map ((k + ·) ∘ Nat.succ) = (List.range l.length).map (k + 1 + ·) := List.map_congr_left fun i _ => by simp; omega
        rw [e] at t
        exact t
  refine gen l 0 (fun (i : Nat) y => ∀ x, l[i]? = some x → F x y) ys (fun i x y hx g => g x (by simpa using hx)) ?_
  simpa using h
end L2

set_option Elab.async false
set_option linter.all false
set_option maxRecDepth 100000
namespace L2
open PySem PySem.Spec PyProof.Rows
theorem keys_src {P : Program} {w : World} {d : Addr} {o : Obj} {es : Array DictEntry} {ep : Nat} (hs : (d == sysModules) = false) (hx : o.ExactDict) (hdt : o.data = .dict es ep) :
    PySem.W.KdlSrc P w "dict" d d es.size (fun i v => ∃ en, es[i]? = some en ∧ v = en.key) (fun h => h.get? d = some o) where
  type := fun _ hm => ⟨o, hm, hx.1⟩
  there := fun _ hm => ⟨Heap.lt_size hm, Heap.lt_size hm⟩
  keep := fun _ _ hm hk => hk d (.inl rfl) o hm
  notList := by decide
  notTuple := by decide
  hint := fun _ _ _ _ hm hq => PySem.W.kdl_hint_dict ⟨o, hm, hx.1⟩ hq
  iter := fun A s hh hm => ⟨_, fun i h => h.IsKeyIter s.heap.objs.size d i es.size ep ∧ h.get? d = some o, (fun _ _ hq => iter_keys hs hm hx hdt hq), {
      sub := fun b hb => by simp at hb; simp [hb]
      frame := fun _ _ _ st hk => ⟨st.1.at fun o e => hk _ (by simp) o e, hk d (by simp) o st.2⟩
      item := fun i s' Q E hi st hQ => by
        refine next_key_item st.1 st.2 hdt rfl (Array.getElem?_eq_getElem hi) fun h' hit sb => ?_
        exact hQ _ h' s'.toks ⟨_, Array.getElem?_eq_getElem hi, rfl⟩ ⟨hit, sb.extBut d o (Nat.ne_of_lt (Heap.lt_size hm)) st.2⟩ fun b o hb e => sb.extBut b o (fun h => hb (by simp [h])) e
      done := fun s' Q E st hQ => next_key_end hh st.1 st.2 hdt rfl (Nat.le_refl _) fun h' he => hQ h' s'.toks fun b o hb e => he b o (fun h => hb (by simp [h])) e
      self := fun _ _ _ _ st hQ => wpAny_pyIter_keyiter st.1 hQ }, ⟨⟨_, Heap.get?_push_size _ rfl, rfl, rfl⟩, Heap.get?_push_of_some _ hm⟩⟩
section
variable {X : Cx}
theorem call_listT (hcalm : X.calm = true) : CallR X (.type "list") (fun xs H Q => ∃ (d : Addr) (kvs : List (List Key × V)), xs = [.ref d] ∧ H d = some (.dT kvs) ∧
    ∀ (l : Addr) (qs : List Addr), H l = none → Paired (fun (q : Addr) (kv : List Key × V) => H q = some (.tup (kv.1.map kV))) qs kvs → Q (.ref l) (upd H l (.lst (qs.map V.ref)))) := by
  intro pins s σ H xs us Q I r h
  obtain ⟨d, kvs, rfl, hd, q⟩ := h
  obtain ⟨u, rfl, rx⟩ := vals1 r
  cases rx
  obtain ⟨z, hs, ys, pr, o, es, ep, ho, hx, hdt, he, _⟩ := I.hok d _ hd
  have l1 : es.size = ys.length := size_of_entries he
  have l2 : kvs.length = ys.length := Paired.length pr
  refine PySem.W.kdl_call (keys_src hs hx hdt) (I.ok.hd hcalm) ho (by omega) fun h' tk acc' c' kp hD hacc => ?_
  have flip : ∀ {ys : List (List Key × Addr × Value)} {kvs : List (List Key × V)}, Paired (fun (p : List Key × V) (q : List Key × Addr × Value) => p.1 = q.1 ∧ H q.2.1 = some (.tup (p.1.map kV)) ∧ RelV p.2 q.2.2) kvs ys →
      Paired (fun (q : Addr) (kv : List Key × V) => H q = some (.tup (kv.1.map kV))) (ys.map fun y => y.2.1) kvs := by
    intro ys kvs h
    induction h with
    | nil => exact .nil
    | cons r _ ih => exact .cons r.2.1 ih
  have ea : acc'.toList = ys.map fun y => Value.ref y.2.1 := by
    refine List.ext_getElem? fun j => ?_
    rw [Array.getElem?_toList, List.getElem?_map]
    have en := entry_at he j
    cases e : acc'[j]? with
    | none =>
      have : acc'.size ≤ j := Array.getElem?_eq_none_iff.mp e
      rw [List.getElem?_eq_none (by have := hacc.1; omega)]
      rfl
    | some v =>
      obtain ⟨x, e1, e2⟩ := hacc.2 j v e
      rw [e1] at en
      cases ey : ys[j]? with
      | none => rw [ey] at en; cases en
      | some y =>
        rw [ey] at en
        have en : some x = some (entryOfKey (tupleKind (mixKind X.prog X.w)) y) := en
        rw [e2, Option.some.inj en]
        rfl
  have vals : ∀ l : List Addr, Vals (l.map V.ref) (l.map Value.ref) := by
    intro l
    induction l with
    | nil => exact .nil
    | cons a l ih => exact .cons rfl ih
  have ea' : acc' = ((ys.map fun y => y.2.1).map Value.ref).toArray := by
    rw [List.map_map]
    rw [show (Value.ref ∘ fun (y : List Key × Addr × Value) => y.2.1) = fun y => Value.ref y.2.1 from rfl, ← ea]
  refine ⟨.ref s.heap.objs.size, _, I.laid (t' := tk) kp (Nat.le_refl _) (show ObjOk X.prog X.w _ h' _ (.lst ((ys.map fun y => y.2.1).map V.ref)) from ⟨by rw [List.length_map, List.length_map]; omega, _, c', vals _, by rw [← ea']; exact hD⟩), rfl, q _ _ (I.hok.fresh (Nat.le_refl _)) (flip pr)⟩
open Classical in
open Classical in
end
end L2

set_option Elab.async false
set_option linter.all false
set_option maxRecDepth 100000
set_option maxHeartbeats 1000000
namespace My
open PySem L2
def prFs (li n : V) : List (Str × V) := [("instructions", li), ("names", n)]
theorem pf_ins (li n : V) : (prFs li n).lookup ("instructions" : Str) = some li := rfl
theorem pf_nms (li n : V) : (prFs li n).lookup ("names" : Str) = some n := rfl
def IA (t : Ad) (H : Hp) (a : Addr) (i : Sz43.Ins) : Prop := InsAt t H a i (plF i)
theorem IA.nl {t : Ad} {H H' : Hp} {a : Addr} {i : Sz43.Ins} (h : IA t H a i) (k : NL H H') : IA t H' a i := h.mono (fun b xs e => k b _ e (by intro z q; cases q)) fun C dx fs e => k a _ e (by intro z q; cases q)
def InsL (t : Ad) (H : Hp) (li : Addr) (c : Sz43.Code) : Prop := ∃ is : List Addr, H li = some (.lst (is.map V.ref)) ∧ Paired (fun a i => IA t H a i) is c
theorem InsL.same {t : Ad} {H H' : Hp} {li : Addr} {c : Sz43.Code} (h : InsL t H li c) (s : Same H H') : InsL t H' li c := by
  obtain ⟨is, h1, h2⟩ := h
  exact ⟨is, s _ _ h1, Paired.mapP h2 fun a i q => q.nl s.nl⟩
def NamesAt (H : Hp) (ns : Addr) (vs : List (List Nat)) : Prop := ∃ qs : List Addr, H ns = some (.lst (qs.map V.ref)) ∧ WordsAt H qs vs
/-- a Program at x -/
def ProgAt (t : Ad) (H : Hp) (x : Addr) (p : Sz43.Program) : Prop := ∃ (dx li ns : Addr), H x = some (.ins t.C_Program dx (prFs (.ref li) (.ref ns))) ∧ InsL t H li p.code ∧ NamesAt H ns p.vars
inductive spProg (t : Ad) (vs : List V) (H : Hp) (Q : VK) (e0 : XK) : Prop
  | mk (a dx : Addr) (li n : V) : vs = [.ref a, li, n] → H a = some (.ins t.C_Program dx []) → (∀ H', H' a = some (.ins t.C_Program dx (prFs li n)) → (∀ b, b ≠ a → H' b = H b) → Q .non H') → spProg t vs H Q e0
inductive spRdInit (t : Ad) (vs : List V) (H : Hp) (Q : VK) (e0 : XK) : Prop
  | mk (r dx : Addr) : vs = [.ref r] → H r = some (.ins t.C_Reading dx []) → (∀ A H', RdAt t H' r A 0 [] [] ⟨[], [], []⟩ → (∀ b o, H b = some o → b ≠ r → H' b = some o) → Q .non H') → spRdInit t vs H Q e0
inductive spRead (t : Ad) (K : PySem.W.Frag) (vs : List V) (H : Hp) (Q : VK) (E : XK) : Prop
  | mk (a : Addr) (tx : List Nat) : vs = [.ref a] → (TxA K H a (tx.map fun (c : Nat) => (c : Int))) → ((∀ k, Sz43.parse tx = .error k → ∀ H', E (.int (k : Int) 0) none H')) → ((∀ p, Sz43.parse tx = .ok p → ∀ x H', ProgAt t H' x p → Q (.ref x) H')) → spRead t K vs H Q E
section
variable {P : Program} {w : World} {K : PySem.W.Frag} {mg : Str → Option Value} {base : Heap} {t : Ad}
theorem sc_prog : FnScope ["self", "instructions", "names"] ["self", "instructions", "names"] (defScope s_Program___init__) := sc_mk
theorem ok_prog (T : Txt K mg t) : FnOk P w K mg base CX0 1 t.f_Program___init__ t.d_Program___init__ ["self", "instructions", "names"] (spProg t) := by
  refine T.F_Program___init__.ok sc_prog (fun vs H Q E h => ?_) (fun _ A _ s H vs Q E hr h => ?_)
  · obtain ⟨_, _, _, _, rfl, _⟩ := h
    rfl
  · obtain ⟨a, dx, li, n, rfl, ha, k⟩ := h
    refine ⟨_, pss_cons (ps_fld (pv 0) (pv 1) rfl) (pss_one (ps_fld (pv 0) (pv 2) rfl)), ?_⟩
    refine ⟨_, rfl, _, rfl, a, _, dx, _, rfl, ha, T.cl_Program, T.na_Program_instructions, (by show 0 < 1000; decide), ?_⟩
    refine ⟨_, rfl, _, rfl, a, _, dx, _, rfl, upd_same, T.cl_Program, T.na_Program_names, (by show 1 < 1000; decide), ?_⟩
    exact k _ upd_same fun b hb => by rw [upd_ne hb, upd_ne hb]
theorem wr {H : Hp} {r x C dx : Addr} {fs fs' : List (Str × V)} {o : HO} (hr : H r = some (.ins C dx fs)) (hx : H x = none) : (upd (upd H x o) r (.ins C dx fs')) x = some o ∧ (upd (upd H x o) r (.ins C dx fs')) r = some (.ins C dx fs') ∧ (upd H x o) r = some (.ins C dx fs) ∧ ∀ b u, H b = some u → b ≠ r → (upd (upd H x o) r (.ins C dx fs')) b = some u := by
  have n : r ≠ x := ne_of_none hr hx
  refine ⟨by rw [upd_ne n.symm]; exact upd_same, upd_same, by rw [upd_ne n]; exact hr, fun b u e hb => ?_⟩
  rw [upd_ne hb, upd_ne (ne_of_none e hx)]
  exact e
theorem sc_rdinit : FnScope ["self"] ["self"] (defScope s_Reading___init__) := sc_mk
theorem ok_rdinit (T : Txt K mg t) : FnOk P w K mg base CX0 1 t.f_Reading___init__ t.d_Reading___init__ ["self"] (spRdInit t) := by
  refine T.F_Reading___init__.ok sc_rdinit (fun vs H Q E h => ?_) (fun _ A _ s H vs Q E hr h => ?_)
  · obtain ⟨_, _, rfl, _⟩ := h
    rfl
  · obtain ⟨r, dx, rfl, h0, k⟩ := h
    refine ⟨_, pss_cons (ps_fld (pv 0) pe_int rfl) (pss_cons (ps_fld (pv 0) (pe_lst pa_nil) rfl) (pss_cons (ps_fld (pv 0) pe_dnewT rfl) (pss_cons (ps_fld (pv 0) pe_dnewT rfl) (pss_one (ps_fld (pv 0) (pe_lst pa_nil) rfl))))), ?_⟩
    refine ⟨_, rfl, r, _, dx, _, rfl, h0, T.cl_Reading, T.na_Reading_line, (by show 0 < 1000; decide), ?_⟩
    refine ⟨Nat.zero_le _, fun li hli => ?_⟩
    obtain ⟨a1, a2, a3, a4⟩ := wr (o := .lst []) (fs' := putF "instructions" (.ref li) (putF "line" (.int 0) [])) upd_same hli
    refine ⟨_, rfl, r, _, dx, _, rfl, a3, T.cl_Reading, T.na_Reading_instructions, (by show 1 < 1000; decide), ?_⟩
    intro va hva
    obtain ⟨b1, b2, b3, b4⟩ := wr (o := .dT []) (fs' := putF "variables" (.ref va) (putF "instructions" (.ref li) (putF "line" (.int 0) []))) a2 hva
    refine ⟨_, rfl, r, _, dx, _, rfl, b3, T.cl_Reading, T.na_Reading_variables, (by show 2 < 1000; decide), ?_⟩
    intro la hla
    obtain ⟨c1, c2, c3, c4⟩ := wr (o := .dT []) (fs' := putF "labels" (.ref la) (putF "variables" (.ref va) (putF "instructions" (.ref li) (putF "line" (.int 0) [])))) b2 hla
    refine ⟨_, rfl, r, _, dx, _, rfl, c3, T.cl_Reading, T.na_Reading_labels, (by show 3 < 1000; decide), ?_⟩
    refine ⟨Nat.zero_le _, fun ju hju => ?_⟩
    obtain ⟨d1, d2, d3, d4⟩ := wr (o := .lst []) (fs' := putF "jumps" (.ref ju) (putF "labels" (.ref la) (putF "variables" (.ref va) (putF "instructions" (.ref li) (putF "line" (.int 0) []))))) c2 hju
    refine ⟨_, rfl, r, _, dx, _, rfl, d3, T.cl_Reading, T.na_Reading_jumps, (by show 4 < 1000; decide), ?_⟩
    have nli : li ≠ r := (ne_of_none upd_same hli).symm
    have nva : va ≠ r := (ne_of_none a2 hva).symm
    have nla : la ≠ r := (ne_of_none b2 hla).symm
    refine k ⟨dx, li, va, la, ju⟩ _ ⟨⟨d2, d4 _ _ (c4 _ _ (b4 _ _ a1 nli) nli) nli, d4 _ _ (c4 _ _ b1 nva) nva, d4 _ _ c1 nla, d1, ?_, ?_⟩, .nil, .nil, by simp, fun a h => absurd h (by simp), fun x h => absurd h (by simp), Nat.zero_le _, Nat.zero_le _⟩ fun b o e n => ?_
    · exact ne_of_none (c4 _ _ (b4 _ _ a1 nli) nli) hju
    · exact ne_of_none b1 hla
    · exact d4 _ _ (c4 _ _ (b4 _ _ (a4 _ _ (by rw [upd_ne n]; exact e) n) n) n) n
theorem words_keys {H : Hp} {qs : List Addr} {vars : List (List Nat)} (h : Paired (fun q kv => H q = some (.tup (kv.1.map kV))) qs (varKs vars)) : WordsAt H qs vars := by
  have gen : ∀ (vars : List (List Nat)) (n : Nat) (qs : List Addr), Paired (fun q (kv : List Key × V) => H q = some (.tup (kv.1.map kV))) qs ((vars.zipIdx n).map fun x => (kw x.1, V.int (x.2 : Int))) → WordsAt H qs vars := by
    intro vars
    induction vars with
    | nil =>
      intro n qs h
      cases h
      exact .nil
    | cons v r ih =>
      intro n qs h
      rw [List.zipIdx_cons, List.map_cons] at h
      cases h with
      | cons e t =>
        refine .cons ?_ (ih (n + 1) _ t)
        rw [← kw_iw]
        exact e
  exact gen vars 0 qs h
theorem sc_read : FnScope ["text", "reading", "words"] ["text"] (defScope s_read_program) := sc_mk
theorem ok_read (T : Txt K mg t) : FnOk P w K mg base (CXE P w t.C_WrongLine) 9 t.f_read_program t.d_read_program ["text"] (spRead t K) := by
  refine T.F_read_program.okX sc_read (fun vs H Q E h => ?_) (fun _ A _ s H vs Q E hr h => ?_)
  · obtain ⟨_, _, rfl, _⟩ := h
    rfl
  · obtain ⟨a, tx, rfl, hT, kE, k⟩ := h
    have nd := sc_read.nd
    have hr1 := hr.mono (show 1 ≤ 8 by decide)
    have hr2 := hr.mono (show 2 ≤ 8 by decide)
    have hr3 := hr.mono (show 3 ≤ 8 by decide)
    refine ⟨_, pss_cons (ps_set (i := 1) nd rfl (Or.inl rfl) (pe_make0 T.mk_Reading (ok_rdinit T) hr2 rfl T.gc_Reading (b_Reading___init__ T) .nil pass0))
      (pss_cons (ps_for (own_ok rfl rfl rfl) rfl (pi_list (pe_call (ok_lines_of T) hr1 rfl T.g_lines_of T.F_lines_of.kp (b_lines_of T) .nil pass0 (pa_cons (pv 0) pa_nil))) (pg_name (i := 2) nd rfl (Or.inl rfl))
        (pss_one (ps_expr (pe_meth (pv 1) T.cl_Reading T.m_Reading_take_line (ok_take_line T) hr (b_Reading_take_line T) .nil (passE rfl rfl) (pa_cons (pv 2) pa_nil)))))
      (pss_cons (ps_expr (pe_meth0 (pv 1) T.cl_Reading T.m_Reading_find_places (ok_find_places T) hr3 (b_Reading_find_places T) .nil (passE rfl rfl)))
      (pss_one (ps_ret (pe_make T.mk_Program (ok_prog T) hr2 rfl T.gc_Program (b_Program___init__ T) .nil pass0 (pa_cons (pe_fld (pv 1) rfl) (pa_cons (pe_callTy (call_listT rfl) rfl T.n_list rfl (pa_cons (pe_fld (pv 1) rfl) pa_nil)) pa_nil))))))), ?_⟩
    intro r dr nr ndr ner
    refine ⟨r, dr, rfl, upd_same, fun Ad H1 D1 kp => ⟨rfl, ?_⟩⟩
    have s1 : Same H H1 := Same.made nr ndr kp
    refine ⟨_, rfl, a, tx, rfl, TxA.same s1 hT, fun l ps H2 s2 fl fps hl2 pl2 => ?_⟩
    have D2 := D1.same s2
    have nl1 : l ≠ Ad.li := (ne_of_none D1.raw.lst fl).symm
    have nl2 : l ≠ Ad.ju := (ne_of_none D1.raw.jum fl).symm
    have np : ∀ q ∈ ps, q ≠ Ad.li ∧ q ≠ Ad.ju := fun q hq => ⟨(ne_of_none D1.raw.lst (fps q hq)).symm, (ne_of_none D1.raw.jum (fps q hq)).symm⟩
    obtain ⟨lines, eL⟩ : ∃ lines, lines = (Sz43.parted (fun (c : Nat) => c == 10) tx).map Sz43.words := ⟨_, rfl⟩
    rw [← eL] at pl2
    have eP := parse_eq tx
    rw [← eL] at eP
    have lnum : lines.length ≤ 100001 := by
      rw [eL, List.length_map]
      have h1 := parted_len (fun (c : Nat) => c == 10) tx
      have h2 := hT.1
      rw [List.length_map] at h2
      omega
    have lps : ps.length = lines.length := Paired.length pl2
    have hw : ∀ ws ∈ lines, ∀ w ∈ ws, w ≠ [] := fun ws h w h' => by
      rw [eL] at h
      exact lines_words h h'
    refine ⟨l, rfl, ⟨_, SqL.of hl2⟩, for_list (K := K) (a := l) (xs := ps.map V.ref) (fun m σ Hh => ∃ (v : Option V) (is js : List Addr) (g : Sz43.Got), σ = [some (.ref a), some (.ref r), v] ∧ RdAt t Hh r Ad m is js g ∧ Hh l = some (.lst (ps.map V.ref)) ∧ Paired (fun q ws => LineAt Hh q ws) ps lines ∧
      Sz43.puts ⟨[], [], []⟩ 1 lines = Sz43.puts g (m + 1) (lines.drop m) ∧ g.labels.length ≤ m) ⟨none, [], [], _, rfl, D2, hl2, pl2, rfl, Nat.le_refl _⟩ (fun i σ Hh _ ⟨_, _, _, _, _, _, e, _⟩ => SqL.of e) ?_ ?_⟩
    · rintro m y σ Hh hy ⟨v, is, js, g, rfl, D, hl, pl, ep, lb⟩
      rw [List.getElem?_map] at hy
      obtain ⟨q, hq, rfl⟩ := Option.map_eq_some_iff.mp hy
      have hm : m < lines.length := by
        have := (List.getElem?_eq_some_iff.mp hq).1
        omega
      obtain ⟨ws, hws⟩ : ∃ ws, lines[m]? = some ws := ⟨_, List.getElem?_eq_getElem hm⟩
      have edr : lines.drop m = ws :: lines.drop (m + 1) := by
        rw [List.drop_eq_getElem_cons hm]
        rw [List.getElem?_eq_getElem hm] at hws
        rw [Option.some.inj hws]
      rw [edr, puts_step] at ep
      have L := pair_get pl hq hws
      have nq := np q (List.mem_of_getElem? hq)
      refine ⟨_, rfl, r, _, _, rfl, D.raw.ob, rf_m1, _, rfl, r, Ad, m, is, js, g, q, ws, rfl, D, L, nq.1, nq.2, hw ws (List.mem_of_getElem? hws), by omega, fun e => ?_, fun g' e is' js' H3 D3 k3 => ?_⟩
      · rw [e] at ep
        rw [ep] at eP
        exact kE _ eP
      · rw [e] at ep
        refine ⟨_, is', js', g', rfl, D3, D.raw.keep_lst k3 hl nl1 nl2, Paired.mapM pl fun q ws hq h => D.raw.keep_line k3 h (np q hq).1 (np q hq).2, ep, ?_⟩
        have := put_labels e
        omega
    · rintro σ Hh ⟨v, is, js, g, rfl, D, hl, pl, ep, lb⟩
      rw [List.length_map, lps, List.drop_length] at ep
      have ep : Sz43.puts ⟨[], [], []⟩ 1 lines = .ok g := ep
      rw [ep] at eP
      refine ⟨_, rfl, r, _, _, rfl, D.raw.ob, rf_m8, r, Ad, _, is, js, g, rfl, D, fun x e => ?_, fun e H3 R3 I3 => ?_⟩
      · refine kE _ ?_
        rw [eP]
        show (match (jumpsOf g.items).find? (fun x => (Sz43.place g.labels x.2.1).isNone) with | some x => Except.error x.2.2 | none => _) = _
        rw [e]
      · have eP : Sz43.parse tx = .ok ⟨g.vars, g.items.map fun (x : Nat × Sz43.Line) => Sz43.insOf g x.2⟩ := by
          rw [eP]
          show (match (jumpsOf g.items).find? (fun x => (Sz43.place g.labels x.2.1).isNone) with | some x => Except.error x.2.2 | none => _) = _
          rw [e]
        refine ⟨_, rfl, r, _, _, _, _, rfl, R3.ob, T.cl_Reading, T.na_Reading_instructions, rf_ins, _, rfl, r, _, _, _, _, rfl, R3.ob, T.cl_Reading, T.na_Reading_variables, rf_var, _, _, rfl, R3.var, ?_⟩
        intro ln qs hln pq
        have s0 : Same H3 (upd H3 ln (.lst (qs.map V.ref))) := Same.new hln
        intro x dx nx ndx nex
        refine ⟨x, dx, _, _, rfl, upd_same, fun H4 h1 h2 => ⟨rfl, ?_⟩⟩
        have s5 := made_same nx ndx h2
        have s4 := s0.trans s5
        have nq : NamesAt H4 ln g.vars := ⟨qs, s5 _ _ upd_same, Paired.mapP (words_keys pq) fun a i q => s4 _ _ q⟩
        refine k _ eP x H4 ⟨dx, Ad.li, ln, h1, ⟨is, s4 _ _ R3.lst, ?_⟩, nq⟩
        have I4 : Paired (fun a x => InsAt t H4 a (Sz43.insOf g x.2) (plF (Sz43.insOf g x.2))) is g.items := Paired.mapP I3 fun a x h => h.mono (fun _ _ e => s4 _ _ e) fun _ _ _ e => s4 _ _ e
        clear eP ep
        show Paired _ is (g.items.map fun (x : Nat × Sz43.Line) => Sz43.insOf g x.2)
        have mp : ∀ {is : List Addr} {items : List (Nat × Sz43.Line)}, Paired (fun a x => InsAt t H4 a (Sz43.insOf g x.2) (plF (Sz43.insOf g x.2))) is items → Paired (fun a i => InsAt t H4 a i (plF i)) is (items.map fun (x : Nat × Sz43.Line) => Sz43.insOf g x.2) := by
          intro is items h
          induction h with
          | nil => exact .nil
          | cons r _ ih => exact .cons r ih
        exact mp I4
end
end My

set_option linter.all false
namespace My
open Sz43
abbrev LL (α : Type) := List (Option α)
abbrev EE (α : Type) := Option (LL α)
abbrev KL := LL Int
section
variable {α : Type}
def leL (a b : LL α) : Prop := a.length = b.length ∧ ∀ (i : Nat) (z : α), a[i]? = some (some z) → b[i]? = some (some z)
def le (x y : EE α) : Prop := ∀ b, y = some b → ∃ a, x = some a ∧ leL a b
theorem leL_refl (a : LL α) : leL a a := ⟨rfl, fun _ _ h => h⟩
theorem leL_trans {a b c : LL α} (h : leL a b) (k : leL b c) : leL a c := ⟨h.1.trans k.1, fun i z e => k.2 i z (h.2 i z e)⟩
theorem le_refl (x : EE α) : le x x := fun b e => ⟨b, e, leL_refl b⟩
theorem le_trans {x y z : EE α} (h : le x y) (k : le y z) : le x z := fun c e => by
  obtain ⟨b, e2, h2⟩ := k c e
  obtain ⟨a, e3, h3⟩ := h b e2
  exact ⟨a, e3, leL_trans h3 h2⟩
theorem leL_cons {x y : Option α} {a b : LL α} : leL (x :: a) (y :: b) ↔ (x = none ∨ x = y) ∧ leL a b := by
  constructor
  · rintro ⟨h1, h2⟩
    refine ⟨?_, by simpa using h1, fun i z e => ?_⟩
    · cases x with
      | none => exact .inl rfl
      | some z =>
        have := h2 0 z rfl
        have : y = some z := by simpa using this
        exact .inr this.symm
    · have := h2 (i + 1) z (by simpa using e)
      simpa using this
  · rintro ⟨h1, h2, h3⟩
    refine ⟨by simp [h2], fun i z e => ?_⟩
    cases i with
    | zero =>
      have e : x = some z := by simpa using e
      rcases h1 with h1 | h1
      · rw [h1] at e
        cases e
      · simp [← h1, e]
    | succ i =>
      have := h3 i z (by simpa using e)
      simpa using this
theorem leL_antisymm : ∀ {a b : LL α}, leL a b → leL b a → a = b
  | [], [], _, _ => rfl
  | [], _ :: _, h, _ => absurd h.1 (by simp)
  | _ :: _, [], h, _ => absurd h.1 (by simp)
  | x :: a, y :: b, h, k => by
    rw [leL_cons] at h k
    rw [leL_antisymm h.2 k.2]
    congr 1
    rcases h.1 with e | e
    · rcases k.1 with e2 | e2
      · rw [e, e2]
      · exact e2.symm
    · exact e
theorem le_antisymm {x y : EE α} (h : le x y) (k : le y x) : x = y := by
  cases x with
  | none =>
    cases y with
    | none => rfl
    | some b =>
      obtain ⟨a, e, _⟩ := h b rfl
      cases e
  | some a =>
    obtain ⟨b, e, h2⟩ := k a rfl
    rw [e]
    obtain ⟨a', e', h3⟩ := h b e
    cases e'
    rw [leL_antisymm h3 h2]
def Wf (n : Nat) (x : EE α) : Prop := ∀ l, x = some l → l.length = n
variable [DecidableEq α]
def meet (l m : LL α) : LL α := (l.zip m).map fun (x : Option α × Option α) => if x.1 = x.2 then x.1 else none
def both (e f : EE α) : EE α := match e, f with
  | none, f => f
  | e, none => e
  | some l, some m => some (meet l m)
theorem meet_cons (x y : Option α) (l m : LL α) : meet (x :: l) (y :: m) = (if x = y then x else none) :: meet l m := rfl
theorem meet_len {l m : LL α} (h : l.length = m.length) : (meet l m).length = l.length := by
  unfold meet
  rw [List.length_map, List.length_zip, h]
  omega
theorem meet_left : ∀ {l m : LL α}, l.length = m.length → leL (meet l m) l
  | [], [], _ => leL_refl _
  | x :: l, y :: m, h => by
    rw [meet_cons, leL_cons]
    refine ⟨?_, meet_left (by simpa using h)⟩
    by_cases e : x = y
    · rw [if_pos e]
      exact .inr rfl
    · rw [if_neg e]
      exact .inl rfl
theorem meet_right : ∀ {l m : LL α}, l.length = m.length → leL (meet l m) m
  | [], [], _ => leL_refl _
  | x :: l, y :: m, h => by
    rw [meet_cons, leL_cons]
    refine ⟨?_, meet_right (by simpa using h)⟩
    by_cases e : x = y
    · rw [if_pos e]
      exact .inr e
    · rw [if_neg e]
      exact .inl rfl
theorem le_meet : ∀ {a l m : LL α}, leL a l → leL a m → leL a (meet l m)
  | [], [], [], _, _ => leL_refl _
  | [], [], _ :: _, _, h => absurd h.1 (by simp)
  | [], _ :: _, _, h, _ => absurd h.1 (by simp)
  | _ :: _, [], _, h, _ => absurd h.1 (by simp)
  | _ :: _, _ :: _, [], _, h => absurd h.1 (by simp)
  | x :: a, y :: l, z :: m, h, k => by
    rw [leL_cons] at h k
    rw [meet_cons, leL_cons]
    refine ⟨?_, le_meet h.2 k.2⟩
    rcases h.1 with e | e
    · exact .inl e
    · rcases k.1 with e2 | e2
      · exact .inl e2
      · rw [← e, ← e2, if_pos rfl]
        exact .inr rfl
theorem both_left {n : Nat} {x y : EE α} (hx : Wf n x) (hy : Wf n y) : le (both x y) x := by
  cases x with
  | none => exact fun b e => by cases e
  | some l =>
    cases y with
    | none => exact le_refl _
    | some m =>
      intro b e
      cases e
      exact ⟨_, rfl, meet_left ((hx _ rfl).trans (hy _ rfl).symm)⟩
theorem both_right {n : Nat} {x y : EE α} (hx : Wf n x) (hy : Wf n y) : le (both x y) y := by
  cases x with
  | none => exact le_refl _
  | some l =>
    cases y with
    | none => exact fun b e => by cases e
    | some m =>
      intro b e
      cases e
      exact ⟨_, rfl, meet_right ((hx _ rfl).trans (hy _ rfl).symm)⟩
theorem le_both {z x y : EE α} (h : le z x) (k : le z y) : le z (both x y) := by
  cases x with
  | none => exact k
  | some l =>
    cases y with
    | none => exact h
    | some m =>
      intro b e
      cases e
      obtain ⟨a, e1, h1⟩ := h l rfl
      obtain ⟨a', e2, h2⟩ := k m rfl
      rw [e1] at e2
      cases e2
      exact ⟨a, e1, le_meet h1 h2⟩
theorem both_wf {n : Nat} {x y : EE α} (hx : Wf n x) (hy : Wf n y) : Wf n (both x y) := by
  cases x with
  | none => exact hy
  | some l =>
    cases y with
    | none => exact hx
    | some m =>
      intro b e
      cases e
      show (meet l m).length = n
      rw [meet_len ((hx _ rfl).trans (hy _ rfl).symm)]
      exact hx _ rfl
end
section
variable {α : Type}
def cnt (l : LL α) : Nat := l.countP Option.isSome
theorem cnt_le : ∀ {a b : LL α}, leL a b → cnt a ≤ cnt b
  | [], [], _ => Nat.le_refl _
  | [], _ :: _, h => absurd h.1 (by simp)
  | _ :: _, [], h => absurd h.1 (by simp)
  | x :: a, y :: b, h => by
    rw [leL_cons] at h
    have ih := cnt_le h.2
    unfold cnt at *
    rw [List.countP_cons, List.countP_cons]
    rcases h.1 with e | e
    · rw [e]
      simp
      omega
    · rw [e]
      omega
theorem cnt_lt : ∀ {a b : LL α}, leL a b → a ≠ b → cnt a < cnt b
  | [], [], _, h => absurd rfl h
  | [], _ :: _, h, _ => absurd h.1 (by simp)
  | _ :: _, [], h, _ => absurd h.1 (by simp)
  | x :: a, y :: b, h, k => by
    rw [leL_cons] at h
    have i1 := cnt_le h.2
    by_cases e : a = b
    · subst e
      have hx : x = none := h.1.resolve_right fun e => k (by rw [e])
      subst hx
      cases y with
      | none => exact absurd rfl k
      | some z =>
        unfold cnt
        rw [List.countP_cons, List.countP_cons]
        simp
    · have i2 := cnt_lt h.2 e
      unfold cnt at *
      rw [List.countP_cons, List.countP_cons]
      rcases h.1 with e | e
      · rw [e]
        simp
        omega
      · rw [e]
        omega
theorem cnt_len (l : LL α) : cnt l ≤ l.length := List.countP_le_length
def ht (n : Nat) : EE α → Nat
  | none => n + 1
  | some l => cnt l
theorem ht_lt {n : Nat} {x y : EE α} (hx : Wf n x) (h : le x y) (k : x ≠ y) : ht n x < ht n y := by
  cases y with
  | none =>
    cases x with
    | none => exact absurd rfl k
    | some l =>
      have := cnt_len l
      have := hx l rfl
      show cnt l < n + 1
      omega
  | some b =>
    obtain ⟨a, e, h2⟩ := h b rfl
    subst e
    exact cnt_lt h2 fun z => k (by rw [z])
theorem ht_le {n : Nat} {x y : EE α} (hx : Wf n x) (h : le x y) : ht n x ≤ ht n y := by
  by_cases e : x = y
  · rw [e]
    exact Nat.le_refl _
  · exact Nat.le_of_lt (ht_lt hx h e)
theorem ht_top {n : Nat} {x : EE α} (hx : Wf n x) : ht n x ≤ n + 1 := ht_le (y := none) hx (fun b e => by cases e)
def hts (n : Nat) (l : List (EE α)) : Nat := (l.map (ht n)).sum
def gt (l : List (EE α)) (j : Nat) : EE α := (l[j]?).bind id
theorem gt_some {l : List (EE α)} {j : Nat} (h : j < l.length) : l[j]? = some (gt l j) := by
  unfold gt
  rw [List.getElem?_eq_getElem h]
  rfl
theorem gt_out {l : List (EE α)} {j : Nat} (h : l.length ≤ j) : gt l j = none := by
  unfold gt
  rw [List.getElem?_eq_none h]
  rfl
theorem gt_set_eq {l : List (EE α)} {j : Nat} {x : EE α} (h : j < l.length) : gt (l.set j x) j = x := by
  unfold gt
  rw [List.getElem?_set_self h]
  rfl
theorem gt_set_ne {l : List (EE α)} {j k : Nat} {x : EE α} (h : k ≠ j) : gt (l.set j x) k = gt l k := by
  unfold gt
  rw [List.getElem?_set_ne (Ne.symm h)]
theorem hts_set (n : Nat) : ∀ {l : List (EE α)} {j : Nat} {x : EE α}, j < l.length → hts n (l.set j x) + ht n (gt l j) = hts n l + ht n x
  | [], _, _, h => absurd h (by simp)
  | y :: r, 0, x, _ => by
    unfold hts
    show ((x :: r).map (ht n)).sum + ht n y = ((y :: r).map (ht n)).sum + ht n x
    rw [List.map_cons, List.map_cons, List.sum_cons, List.sum_cons]
    omega
  | y :: r, j + 1, x, h => by
    have ih := hts_set n (l := r) (j := j) (x := x) (by simpa using h)
    unfold hts at *
    show ((y :: r.set j x).map (ht n)).sum + ht n (gt r j) = ((y :: r).map (ht n)).sum + ht n x
    rw [List.map_cons, List.map_cons, List.sum_cons, List.sum_cons]
    omega
theorem hts_lt {n : Nat} : ∀ {l m : List (EE α)}, l.length = m.length → (∀ j, Wf n (gt l j)) → (∀ j, le (gt l j) (gt m j)) → hts n l ≤ hts n m ∧ (l ≠ m → hts n l < hts n m)
  | [], [], _, _, _ => ⟨Nat.le_refl _, fun h => absurd rfl h⟩
  | x :: l, y :: m, h, hw, hl => by
    obtain ⟨i1, i2⟩ := hts_lt (n := n) (l := l) (m := m) (by simpa using h) (fun j => hw (j + 1)) fun j => hl (j + 1)
    have w0 : Wf n x := hw 0
    have l0 : le x y := hl 0
    have h0 := ht_le w0 l0
    unfold hts at *
    rw [List.map_cons, List.map_cons, List.sum_cons, List.sum_cons]
    refine ⟨by omega, fun k => ?_⟩
    by_cases e : x = y
    · subst e
      have := i2 fun z => k (by rw [z])
      omega
    · have := ht_lt w0 l0 e
      omega
end
end My

set_option linter.all false
namespace My
open Sz43
def givOf (i : Ins) (l : KL) : Option Int := match i with
  | .num _ z => some z
  | .copy _ a => knows l a
  | .op k _ a b => (match knows l a, knows l b with
    | some x, some y => some (reckon k x y)
    | _, _ => none)
  | _ => none
theorem behind_eq (i : Ins) (l : KL) : behind i l = match givesOf i with
    | some d => l.set d (givOf i l)
    | none => l := by
  cases i <;> rfl
theorem behind_len (i : Ins) (l : KL) : (behind i l).length = l.length := by
  cases i <;> simp [behind]
theorem knows_le {a b : KL} (h : leL a b) (v : Nat) : knows a v = none ∨ knows a v = knows b v := by
  unfold knows
  cases e : a[v]? with
  | none => exact .inl rfl
  | some x =>
    cases x with
    | none => exact .inl rfl
    | some z =>
      rw [h.2 v z e]
      exact .inr rfl
theorem leL_set {a b : KL} {d : Nat} {x y : Option Int} (h : leL a b) (k : x = none ∨ x = y) : leL (a.set d x) (b.set d y) := by
  refine ⟨by rw [List.length_set, List.length_set]; exact h.1, fun i z e => ?_⟩
  by_cases hi : i = d
  · subst hi
    by_cases hl : i < a.length
    · rw [List.getElem?_set_self hl] at e
      rw [List.getElem?_set_self (h.1 ▸ hl)]
      rcases k with k | k
      · rw [k] at e
        cases e
      · rw [← k]
        exact e
    · rw [List.getElem?_eq_none (by rw [List.length_set]; omega)] at e
      cases e
  · rw [List.getElem?_set_ne (Ne.symm hi)] at e ⊢
    exact h.2 i z e
theorem giv_op (k d v u : Nat) (l : KL) : givOf (.op k d v u) l = match knows l v, knows l u with
    | some x, some y => some (reckon k x y)
    | _, _ => none := rfl
theorem giv_le {a b : KL} (h : leL a b) (i : Ins) : givOf i a = none ∨ givOf i a = givOf i b := by
  cases i with
  | num d z => exact .inr rfl
  | copy d v => exact knows_le h v
  | op k d v u =>
    have h1 := knows_le h v
    have h2 := knows_le h u
    rw [giv_op, giv_op]
    rcases h1 with e1 | e1
    · rw [e1]
      exact .inl rfl
    · rcases h2 with e2 | e2
      · rw [e2]
        cases knows a v <;> exact .inl rfl
      · rw [e1, e2]
        exact .inr rfl
  | _ => exact .inl rfl
theorem behind_mono {a b : KL} (h : leL a b) (i : Ins) : leL (behind i a) (behind i b) := by
  rw [behind_eq, behind_eq]
  cases givesOf i with
  | none => exact h
  | some d => exact leL_set h (giv_le h i)
theorem lead_cond (at_ v t : Nat) (l : KL) : mayLead at_ (.cond v t) l = match knows l v with
    | some z => if z = 0 then [at_ + 1] else [t]
    | none => [t, at_ + 1] := rfl
theorem lead_mono {a b : KL} (h : leL a b) {at_ j : Nat} {i : Ins} (k : j ∈ mayLead at_ i b) : j ∈ mayLead at_ i a := by
  cases i with
  | cond v t =>
    rw [lead_cond] at k ⊢
    rcases knows_le h v with e | e
    · rw [e]
      cases hb : knows b v with
      | none =>
        rw [hb] at k
        exact k
      | some z =>
        rw [hb] at k
        dsimp only at k ⊢
        split at k
        · simp at k
          simp [k]
        · simp at k
          simp [k]
    · rw [e]
      exact k
  | _ => exact k
/-- brought to all that it leads to -/
def Sol (c : Code) (Y : List Env) : Prop := ∀ (i : Nat) (x : Ins) (l : KL), c[i]? = some x → gt Y i = some l → ∀ j ∈ mayLead i x l, le (gt Y j) (some (behind x l))
def Wfs (n : Nat) (l : List Env) : Prop := ∀ j, Wf n (gt l j)
/-- one brings its own -/
theorem both_eq (e f : Env) : Sz43.both e f = My.both e f := by cases e <;> cases f <;> rfl
def bring (v : KL) (js : List Nat) (m : List Env) : List Env := js.foldl (fun (m : List Env) (j : Nat) => m.set j (My.both ((m[j]?).bind id) (some v))) m
theorem bring_spec {n : Nat} {v : KL} (hv : v.length = n) : ∀ (js : List Nat) (m : List Env), Wfs n m → (bring v js m).length = m.length ∧ Wfs n (bring v js m) ∧ (∀ k, le (gt (bring v js m) k) (gt m k)) ∧ (∀ j ∈ js, j < m.length → le (gt (bring v js m) j) (some v)) ∧
    ∀ Y : List Env, (∀ k, le (gt Y k) (gt m k)) → (∀ j ∈ js, le (gt Y j) (some v)) → ∀ k, le (gt Y k) (gt (bring v js m) k)
  | [], m, hw => ⟨rfl, hw, fun _ => le_refl _, fun _ h => absurd h (by simp), fun _ h _ => h⟩
  | j :: js, m, hw => by
    have wv : Wf n (some v) := fun l e => by cases e; exact hv
    have hw1 : Wfs n (m.set j (My.both (gt m j) (some v))) := fun k => by
      by_cases e : k = j
      · subst e
        by_cases hl : k < m.length
        · rw [gt_set_eq hl]
          exact both_wf (hw k) wv
        · rw [gt_out (by rw [List.length_set]; omega)]
          exact fun l e => by cases e
      · rw [gt_set_ne e]
        exact hw k
    have le1 : ∀ k, le (gt (m.set j (My.both (gt m j) (some v))) k) (gt m k) := fun k => by
      by_cases e : k = j
      · subst e
        by_cases hl : k < m.length
        · rw [gt_set_eq hl]
          exact both_left (hw k) wv
        · rw [gt_out (l := m) (by omega)]
          exact fun b e => by cases e
      · rw [gt_set_ne e]
        exact le_refl _
    obtain ⟨a1, a2, a3, a4, a5⟩ := bring_spec hv js (m.set j (My.both (gt m j) (some v))) hw1
    have eb : bring v (j :: js) m = bring v js (m.set j (My.both (gt m j) (some v))) := rfl
    rw [eb]
    refine ⟨by rw [a1, List.length_set], a2, fun k => le_trans (a3 k) (le1 k), fun i hi hl => ?_, fun Y hY hj => ?_⟩
    · rcases List.mem_cons.mp hi with e | e
      · subst e
        refine le_trans (a3 i) ?_
        rw [gt_set_eq hl]
        exact both_right (hw i) wv
      · exact a4 i e (by rw [List.length_set]; exact hl)
    · refine a5 Y (fun k => ?_) fun i hi => hj i (List.mem_cons_of_mem _ hi)
      by_cases e : k = j
      · subst e
        by_cases hl : k < m.length
        · rw [gt_set_eq hl]
          exact le_both (hY k) (hj k (by simp))
        · rw [show gt (m.set k (My.both (gt m k) (some v))) k = none from gt_out (by rw [List.length_set]; omega)]
          exact fun b e => by cases e
      · rw [gt_set_ne e]
        exact hY k
def once1 (c : Code) (l : List Env) (m : List Env) (at_ : Nat) : List Env := match c[at_]?, (l[at_]?).bind id with
  | some i, some e => bring (behind i e) (mayLead at_ i e) m
  | _, _ => m
theorem spread_eq (c : Code) (l : List Env) : spread c l = (List.range c.length).foldl (once1 c l) l := by
  unfold spread once1 bring
  simp only [both_eq]
  rfl
theorem fold_spec {n : Nat} {c : Code} {l : List Env} (hl : Wfs n l) : ∀ (as : List Nat) (m : List Env), Wfs n m → (as.foldl (once1 c l) m).length = m.length ∧ Wfs n (as.foldl (once1 c l) m) ∧ (∀ k, le (gt (as.foldl (once1 c l) m) k) (gt m k)) ∧
    (∀ a ∈ as, ∀ i e, c[a]? = some i → gt l a = some e → ∀ j ∈ mayLead a i e, j < m.length → le (gt (as.foldl (once1 c l) m) j) (some (behind i e))) ∧
    ∀ Y : List Env, (∀ k, le (gt Y k) (gt m k)) → (∀ a ∈ as, ∀ i e, c[a]? = some i → gt l a = some e → ∀ j ∈ mayLead a i e, le (gt Y j) (some (behind i e))) → ∀ k, le (gt Y k) (gt (as.foldl (once1 c l) m) k)
  | [], m, hw => ⟨rfl, hw, fun _ => le_refl _, fun _ h => absurd h (by simp), fun _ h _ => h⟩
  | a :: as, m, hw => by
    have one : (once1 c l m a).length = m.length ∧ Wfs n (once1 c l m a) ∧ (∀ k, le (gt (once1 c l m a) k) (gt m k)) ∧ (∀ i e, c[a]? = some i → gt l a = some e → ∀ j ∈ mayLead a i e, j < m.length → le (gt (once1 c l m a) j) (some (behind i e))) ∧
        ∀ Y : List Env, (∀ k, le (gt Y k) (gt m k)) → (∀ i e, c[a]? = some i → gt l a = some e → ∀ j ∈ mayLead a i e, le (gt Y j) (some (behind i e))) → ∀ k, le (gt Y k) (gt (once1 c l m a) k) := by
      cases hi : c[a]? with
      | none =>
        have e : once1 c l m a = m := by unfold once1; rw [hi]
        rw [e]
        exact ⟨rfl, hw, fun _ => le_refl _, fun _ _ h => (by cases h), fun _ h _ => h⟩
      | some i =>
        cases he : gt l a with
        | none =>
          have e : once1 c l m a = m := by
            unfold once1
            unfold gt at he
            rw [hi, he]
          rw [e]
          exact ⟨rfl, hw, fun _ => le_refl _, fun _ _ _ h => (by cases h), fun _ h _ => h⟩
        | some v =>
          have e : once1 c l m a = bring (behind i v) (mayLead a i v) m := by
            unfold once1
            unfold gt at he
            rw [hi, he]
          have hv : (behind i v).length = n := by rw [behind_len]; exact hl a v he
          obtain ⟨b1, b2, b3, b4, b5⟩ := bring_spec hv (mayLead a i v) m hw
          rw [e]
          refine ⟨b1, b2, b3, fun i' e' h1 h2 => ?_, fun Y hY hj => b5 Y hY (hj i v rfl rfl)⟩
          cases h1
          cases h2
          exact b4
    obtain ⟨o1, o2, o3, o4, o5⟩ := one
    obtain ⟨f1, f2, f3, f4, f5⟩ := fold_spec hl as (once1 c l m a) o2
    rw [List.foldl_cons]
    refine ⟨f1.trans o1, f2, fun k => le_trans (f3 k) (o3 k), fun b hb i e h1 h2 j hj hl' => ?_, fun Y hY hj => ?_⟩
    · rcases List.mem_cons.mp hb with z | z
      · subst z
        exact le_trans (f3 j) (o4 i e h1 h2 j hj hl')
      · exact f4 b z i e h1 h2 j hj (by rw [o1]; exact hl')
    · exact f5 Y (o5 Y hY (hj a (by simp))) fun b hb => hj b (List.mem_cons_of_mem _ hb)
/-- where instructions lead lies within -/
def InBounds (c : Code) : Prop := ∀ (i : Nat) (x : Ins) (l : KL), c[i]? = some x → ∀ j ∈ mayLead i x l, j ≤ c.length
theorem lt_of_get {c : Code} {i : Nat} {x : Ins} (h : c[i]? = some x) : i < c.length := (List.getElem?_eq_some_iff.mp h).1
section
variable {n : Nat} {c : Code}
theorem spread_len {l : List Env} (hl : Wfs n l) : (spread c l).length = l.length := by rw [spread_eq]; exact (fold_spec hl _ l hl).1
theorem spread_wf {l : List Env} (hl : Wfs n l) : Wfs n (spread c l) := by rw [spread_eq]; exact (fold_spec hl _ l hl).2.1
theorem spread_le {l : List Env} (hl : Wfs n l) (k : Nat) : le (gt (spread c l) k) (gt l k) := by rw [spread_eq]; exact (fold_spec hl _ l hl).2.2.1 k
/-- any solution below stays below -/
theorem spread_sol {l Y : List Env} (hl : Wfs n l) (S : Sol c Y) (h : ∀ k, le (gt Y k) (gt l k)) (k : Nat) : le (gt Y k) (gt (spread c l) k) := by
  rw [spread_eq]
  refine (fold_spec hl (List.range c.length) l hl).2.2.2.2 Y h (fun a _ i e h1 h2 j hj => ?_) k
  obtain ⟨a', e1, l1⟩ := h a e h2
  refine le_trans (S a i a' h1 e1 j (lead_mono l1 hj)) fun b eb => ?_
  cases eb
  exact ⟨_, rfl, behind_mono l1 i⟩
/-- what stays is a solution -/
theorem sol_of_fix {l : List Env} (hl : Wfs n l) (hb : InBounds c) (ln : l.length = c.length + 1) (h : spread c l = l) : Sol c l := by
  intro i x v h1 h2 j hj
  have := (fold_spec hl (List.range c.length) l hl).2.2.2.1 i (List.mem_range.mpr (lt_of_get h1)) x v h1 h2 j hj (by have := hb i x v h1 j hj; omega)
  rw [← spread_eq, h] at this
  exact this
theorem rep_succ {α : Type} (f : α → α) : ∀ (k : Nat) (x : α), repeated f (k + 1) x = f (repeated f k x)
  | 0, _ => rfl
  | k + 1, x => rep_succ f k (f x)
theorem rep_fix {α : Type} (f : α → α) {x : α} (h : f x = x) : ∀ k, repeated f k x = x
  | 0 => rfl
  | k + 1 => by
    show repeated f k (f x) = x
    rw [h]
    exact rep_fix f h k
theorem rep_spread (l : List Env) (hl : Wfs n l) : ∀ k, (repeated (spread c) k l).length = l.length ∧ Wfs n (repeated (spread c) k l) ∧ ∀ j, le (gt (repeated (spread c) k l) j) (gt l j)
  | 0 => ⟨rfl, hl, fun _ => le_refl _⟩
  | k + 1 => by
    obtain ⟨h1, h2, h3⟩ := rep_spread l hl k
    rw [rep_succ]
    exact ⟨(spread_len h2).trans h1, spread_wf h2, fun j => le_trans (spread_le h2 j) (h3 j)⟩
theorem rep_stays : ∀ (k : Nat) (l : List Env), Wfs n l → hts n l < k → spread c (repeated (spread c) k l) = repeated (spread c) k l
  | 0, _, _, h => absurd h (by omega)
  | k + 1, l, hl, h => by
    by_cases e : spread c l = l
    · rw [rep_fix _ e, e]
    · show spread c (repeated (spread c) k (spread c l)) = repeated (spread c) k (spread c l)
      have := (hts_lt (spread_len (c := c) hl) (spread_wf hl) (spread_le hl)).2 e
      exact rep_stays k _ (spread_wf hl) (by omega)
def start0 (n : Nat) (c : Code) : List Env := (some (List.replicate n (some 0))) :: List.replicate c.length none
theorem start_len (n : Nat) (c : Code) : (start0 n c).length = c.length + 1 := by simp [start0]
theorem start_0 (n : Nat) (c : Code) : gt (start0 n c) 0 = some (List.replicate n (some 0)) := rfl
theorem start_s (n : Nat) (c : Code) (j : Nat) : gt (start0 n c) (j + 1) = none := by
  unfold gt start0
  rw [List.getElem?_cons_succ, List.getElem?_replicate]
  split <;> rfl
theorem start_wf (n : Nat) (c : Code) : Wfs n (start0 n c) := fun j => by
  cases j with
  | zero =>
    rw [start_0]
    intro l e
    cases e
    simp
  | succ j =>
    rw [start_s]
    exact fun l e => by cases e
theorem hts_top : ∀ {l : List Env}, Wfs n l → hts n l ≤ l.length * (n + 1)
  | [], _ => Nat.zero_le _
  | x :: l, h => by
    have ih := hts_top (l := l) fun j => h (j + 1)
    have h0 := ht_top (h 0)
    unfold hts at *
    rw [List.map_cons, List.sum_cons, List.length_cons, Nat.add_mul, Nat.one_mul]
    have : ht n (gt (x :: l) 0) = ht n x := rfl
    omega
/-- **the greatest solution** below the start -/
theorem known_sol (hb : InBounds c) : (known n c).length = c.length + 1 ∧ Wfs n (known n c) ∧ Sol c (known n c) ∧ (∀ j, le (gt (known n c) j) (gt (start0 n c) j)) ∧ ∀ Y, Sol c Y → (∀ j, le (gt Y j) (gt (start0 n c) j)) → ∀ j, le (gt Y j) (gt (known n c) j) := by
  have ek : known n c = repeated (spread c) ((c.length + 1) * (n + 1) + 1) (start0 n c) := rfl
  rw [ek]
  obtain ⟨h1, h2, h3⟩ := rep_spread (c := c) (start0 n c) (start_wf n c) ((c.length + 1) * (n + 1) + 1)
  have ht := hts_top (start_wf n c)
  rw [start_len] at ht h1
  refine ⟨h1, h2, sol_of_fix h2 hb h1 (rep_stays _ _ (start_wf n c) (by omega)), h3, fun Y S hY => ?_⟩
  have all : ∀ k j, le (gt Y j) (gt (repeated (spread c) k (start0 n c)) j) := by
    intro k
    induction k with
    | zero => exact hY
    | succ k ih =>
      rw [rep_succ]
      exact spread_sol (rep_spread (c := c) (start0 n c) (start_wf n c) k).2.1 S ih
  exact all _
end
end My

set_option linter.all false
namespace My
open Sz43
section
variable {α : Type} [DecidableEq α] {n : Nat} {c : Code}
def agree (x : EE α) (v : LL α) : LL α := match x with
  | none => v
  | some l => meet l v
theorem both_agree (x : EE α) (v : LL α) : My.both x (some v) = some (agree x v) := by cases x <;> rfl
/-- what is brought along the ways -/
structure Sys (α : Type) (n : Nat) (c : Code) where
  fst : LL α
  len : fst.length = n
  bh : Ins → LL α → LL α
  bl : ∀ i l, (bh i l).length = l.length
  ld : Nat → Ins → LL α → List Nat
  bm : ∀ i a b, leL a b → leL (bh i a) (bh i b)
  lm : ∀ p i a b j, leL a b → j ∈ ld p i b → j ∈ ld p i a
  ib : ∀ p i l, c[p]? = some i → ∀ j ∈ ld p i l, j ≤ c.length
def Sys.Sol (S : Sys α n c) (Y : List (EE α)) : Prop := ∀ (i : Nat) (x : Ins) (l : LL α), c[i]? = some x → gt Y i = some l → ∀ j ∈ S.ld i x l, le (gt Y j) (some (S.bh x l))
def Sys.start (S : Sys α n c) : List (EE α) := some S.fst :: List.replicate c.length none
theorem Sys.start_len (S : Sys α n c) : S.start.length = c.length + 1 := by simp [Sys.start]
theorem Sys.start_0 (S : Sys α n c) : gt S.start 0 = some S.fst := rfl
theorem Sys.start_s (S : Sys α n c) (j : Nat) : gt S.start (j + 1) = none := by
  unfold gt Sys.start
  rw [List.getElem?_cons_succ, List.getElem?_replicate]
  split <;> rfl
theorem Sys.start_wf (S : Sys α n c) : ∀ j, Wf n (gt S.start j) := fun j => by
  cases j with
  | zero =>
    rw [S.start_0]
    intro l e
    cases e
    exact S.len
  | succ j =>
    rw [S.start_s]
    exact fun l e => by cases e
def wayM (v : LL α) (s : List (EE α) × List Nat) (w : Nat) : List (EE α) × List Nat := if some (agree (gt s.1 w) v) = gt s.1 w then s else (s.1.set w (some (agree (gt s.1 w) v)), s.2 ++ [w])
def AllP (P : α → Prop) (l : LL α) : Prop := ∀ z, some z ∈ l → P z
theorem meet_mem {z : α} : ∀ {l m : LL α}, some z ∈ meet l m → some z ∈ l
  | [], _, h => by simp [meet] at h
  | _ :: _, [], h => by simp [meet] at h
  | x :: l, y :: m, h => by
    rw [meet_cons] at h
    rcases List.mem_cons.mp h with e | e
    · by_cases q : x = y
      · rw [if_pos q] at e
        rw [e]
        exact List.mem_cons_self
      · rw [if_neg q] at e
        cases e
    · exact List.mem_cons_of_mem _ (meet_mem e)
theorem agree_all {P : α → Prop} {x : EE α} {v : LL α} (hx : ∀ l, x = some l → AllP P l) (hv : AllP P v) : AllP P (agree x v) := by
  cases x with
  | none => exact hv
  | some l => exact fun z h => hx l rfl z (meet_mem h)
/-- between two turns -/
structure WInv (S : Sys α n c) (P : α → Prop) (B : List (EE α)) (W : List Nat) : Prop where
  len : B.length = c.length + 1
  wf : ∀ j, Wf n (gt B j)
  wb : ∀ p ∈ W, p ≤ c.length ∧ ∃ l, gt B p = some l
  up : ∀ Y, S.Sol Y → (∀ j, le (gt Y j) (gt S.start j)) → ∀ j, le (gt Y j) (gt B j)
  st : le (gt B 0) (gt S.start 0)
  ap : ∀ j l, gt B j = some l → AllP P l
  don : ∀ i x l, c[i]? = some x → i ∉ W → gt B i = some l → ∀ j ∈ S.ld i x l, le (gt B j) (some (S.bh x l))
/-- within a turn at p: the ways js have been gone -/
structure FInv (S : Sys α n c) (P : α → Prop) (B : List (EE α)) (ws : List Nat) (v : LL α) (js : List Nat) (B' : List (EE α)) (W' : List Nat) : Prop where
  len : B'.length = c.length + 1
  wf : ∀ j, Wf n (gt B' j)
  wb : ∀ p ∈ W', p ≤ c.length ∧ ∃ l, gt B' p = some l
  up : ∀ Y, S.Sol Y → (∀ j, le (gt Y j) (gt S.start j)) → ∀ j, le (gt Y j) (gt B' j)
  dn : ∀ j, le (gt B' j) (gt B j)
  ap : ∀ j l, gt B' j = some l → AllP P l
  sub : ∀ q ∈ ws, q ∈ W'
  chg : ∀ i, gt B' i ≠ gt B i → i ∈ W'
  brt : ∀ j ∈ js, le (gt B' j) (some v)
  meas : 2 * hts n B' + W'.length ≤ 2 * hts n B + ws.length
section
variable {S : Sys α n c} {P : α → Prop} {B : List (EE α)} {ws : List Nat} {p : Nat} {x : Ins} {l : LL α}
theorem WInv.init (h0 : AllP P S.fst) : WInv S P S.start [0] where
  len := S.start_len
  wf := S.start_wf
  wb := fun p hp => by
    have : p = 0 := by simpa using hp
    rw [this]
    exact ⟨Nat.zero_le _, _, S.start_0⟩
  up := fun _ _ h => h
  st := le_refl _
  ap := fun j l e => by
    cases j with
    | zero =>
      rw [S.start_0] at e
      cases e
      exact h0
    | succ j =>
      rw [S.start_s] at e
      cases e
  don := fun i x l _ hi e => by
    cases i with
    | zero => exact absurd (by simp) hi
    | succ i =>
      rw [S.start_s] at e
      cases e
theorem FInv.start (I : WInv S P B (ws ++ [p])) {v : LL α} : FInv S P B ws v [] B ws where
  len := I.len
  wf := I.wf
  wb := fun q hq => I.wb q (List.mem_append_left _ hq)
  up := I.up
  dn := fun _ => le_refl _
  ap := I.ap
  sub := fun _ h => h
  chg := fun _ h => absurd rfl h
  brt := fun _ h => absurd h (by simp)
  meas := Nat.le_refl _
theorem FInv.step (I : WInv S P B (ws ++ [p])) (hx : c[p]? = some x) (hl : gt B p = some l) (hv : AllP P (S.bh x l)) {js : List Nat} {w : Nat} (hw : w ∈ S.ld p x l) {B' : List (EE α)} {W' : List Nat} (F : FInv S P B ws (S.bh x l) js B' W') :
    FInv S P B ws (S.bh x l) (js ++ [w]) (wayM (S.bh x l) (B', W') w).1 (wayM (S.bh x l) (B', W') w).2 := by
  have wl : w < B'.length := by
    have := S.ib p x l hx w hw
    have := F.len
    omega
  have vl : (S.bh x l).length = n := by
    rw [S.bl]
    exact I.wf p l hl
  have wv : Wf n (some (S.bh x l)) := fun q e => by cases e; exact vl
  have lr := both_right (F.wf w) wv
  have ll := both_left (F.wf w) wv
  have bw := both_wf (F.wf w) wv
  rw [both_agree] at lr ll bw
  have upw : ∀ Y, S.Sol Y → (∀ j, le (gt Y j) (gt S.start j)) → le (gt Y w) (some (agree (gt B' w) (S.bh x l))) := fun Y s hY => by
    obtain ⟨a, e1, l1⟩ := I.up Y s hY p l hl
    have h1 := s p x a hx e1 w (S.lm _ _ _ _ _ l1 hw)
    have h2 : le (gt Y w) (some (S.bh x l)) := le_trans h1 fun b eb => by
      cases eb
      exact ⟨_, rfl, S.bm x _ _ l1⟩
    have := le_both (F.up Y s hY w) h2
    rw [both_agree] at this
    exact this
  unfold wayM
  by_cases e : some (agree (gt B' w) (S.bh x l)) = gt B' w
  · rw [if_pos e]
    refine ⟨F.len, F.wf, F.wb, F.up, F.dn, F.ap, F.sub, F.chg, fun j hj => ?_, F.meas⟩
    rcases List.mem_append.mp hj with h | h
    · exact F.brt j h
    · have : j = w := by simpa using h
      rw [this, ← e]
      exact lr
  · rw [if_neg e]
    have gs : ∀ j, gt (B'.set w (some (agree (gt B' w) (S.bh x l)))) j = if j = w then some (agree (gt B' w) (S.bh x l)) else gt B' j := fun j => by
      by_cases q : j = w
      · rw [if_pos q, q]
        exact gt_set_eq wl
      · rw [if_neg q]
        exact gt_set_ne q
    have dn1 : ∀ j, le (gt (B'.set w (some (agree (gt B' w) (S.bh x l)))) j) (gt B' j) := fun j => by
      rw [gs]
      by_cases q : j = w
      · rw [if_pos q, q]
        exact ll
      · rw [if_neg q]
        exact le_refl _
    refine ⟨by rw [List.length_set]; exact F.len, fun j => ?_, fun q hq => ?_, fun Y s hY j => ?_, fun j => le_trans (dn1 j) (F.dn j), fun j m em => ?_, fun q hq => List.mem_append_left _ (F.sub q hq), fun i hi => ?_, fun j hj => ?_, ?_⟩
    · rw [gs]
      by_cases q : j = w
      · rw [if_pos q]
        exact bw
      · rw [if_neg q]
        exact F.wf j
    · rw [gs]
      rcases List.mem_append.mp hq with h | h
      · obtain ⟨h1, h2⟩ := F.wb q h
        refine ⟨h1, ?_⟩
        by_cases z : q = w
        · rw [if_pos z]
          exact ⟨_, rfl⟩
        · rw [if_neg z]
          exact h2
      · have : q = w := by simpa using h
        rw [if_pos this, this]
        exact ⟨by have := F.len; omega, _, rfl⟩
    · rw [gs]
      by_cases q : j = w
      · rw [if_pos q, q]
        exact upw Y s hY
      · rw [if_neg q]
        exact F.up Y s hY j
    · rw [gs] at em
      by_cases q : j = w
      · rw [if_pos q] at em
        cases em
        exact agree_all (fun l' e' => F.ap w l' e') hv
      · rw [if_neg q] at em
        exact F.ap j m em
    · rw [gs] at hi
      by_cases q : i = w
      · rw [q]
        exact List.mem_append_right _ (by simp)
      · rw [if_neg q] at hi
        exact List.mem_append_left _ (F.chg i hi)
    · rcases List.mem_append.mp hj with h | h
      · exact le_trans (dn1 j) (F.brt j h)
      · have : j = w := by simpa using h
        rw [gs, if_pos this]
        exact lr
    · have h1 := hts_set n (x := some (agree (gt B' w) (S.bh x l))) wl
      have h2 := ht_lt bw ll e
      have h3 := F.meas
      show 2 * hts n (B'.set w (some (agree (gt B' w) (S.bh x l)))) + (W' ++ [w]).length ≤ _
      rw [List.length_append, List.length_singleton]
      omega
theorem FInv.done (I : WInv S P B (ws ++ [p])) (hx : c[p]? = some x) (hl : gt B p = some l) {B' : List (EE α)} {W' js : List Nat} (hjs : ∀ j ∈ S.ld p x l, j ∈ js) (F : FInv S P B ws (S.bh x l) js B' W') : WInv S P B' W' where
  len := F.len
  wf := F.wf
  wb := F.wb
  up := F.up
  st := le_trans (F.dn 0) I.st
  ap := F.ap
  don := fun i y m hi hn em j hj => by
    have eq : gt B' i = gt B i := by
      by_cases q : gt B' i = gt B i
      · exact q
      · exact absurd (F.chg i q) hn
    rw [eq] at em
    by_cases q : i = p
    · subst q
      rw [hx] at hi
      cases hi
      rw [hl] at em
      cases em
      exact F.brt j (hjs j hj)
    · refine le_trans (F.dn j) (I.don i y m hi (fun z => ?_) em j hj)
      rcases List.mem_append.mp z with z | z
      · exact hn (F.sub i z)
      · exact q (by simpa using z)
theorem WInv.pop (I : WInv S P B (ws ++ [p])) (hp : p = c.length) : WInv S P B ws := ⟨I.len, I.wf, fun q hq => I.wb q (List.mem_append_left _ hq), I.up, I.st, I.ap, fun i y m hi hn em j hj => I.don i y m hi (fun z => by
  rcases List.mem_append.mp z with z | z
  · exact hn z
  · have : i = p := by simpa using z
    have := lt_of_get hi
    omega) em j hj⟩
theorem WInv.sol (I : WInv S P B []) : S.Sol B ∧ (∀ j, le (gt B j) (gt S.start j)) ∧ ∀ Y, S.Sol Y → (∀ j, le (gt Y j) (gt S.start j)) → ∀ j, le (gt Y j) (gt B j) := by
  refine ⟨fun i x l h1 h2 j hj => I.don i x l h1 (by simp) h2 j hj, fun j => ?_, I.up⟩
  cases j with
  | zero => exact I.st
  | succ j =>
    rw [S.start_s]
    exact fun b e => by cases e
end
end
noncomputable def waysM (p : Nat) (x : Ins) (l : KL) : List Nat := match x with
  | .stop => []
  | .goto t => [t]
  | .cond a t => (match knows l a with
    | none => [p + 1, t]
    | some z => if z = 0 then [p + 1] else [t])
  | _ => [p + 1]
theorem ways_mem {p j : Nat} {x : Ins} {l : KL} : j ∈ waysM p x l ↔ j ∈ mayLead p x l := by
  cases x with
  | cond a t =>
    rw [lead_cond]
    show j ∈ (match knows l a with | none => [p + 1, t] | some z => if z = 0 then [p + 1] else [t]) ↔ _
    cases knows l a with
    | none =>
      simp only [List.mem_cons, List.not_mem_nil, or_false]
      exact Or.comm
    | some z => exact Iff.rfl
  | _ => exact Iff.rfl
theorem behind_all {P : Int → Prop} {x : Ins} {l : KL} (hl : AllP P l) (h : ∀ z, givOf x l = some z → P z) : AllP P (behind x l) := by
  rw [behind_eq]
  cases givesOf x with
  | none => exact hl
  | some d =>
    intro z hz
    rcases List.mem_or_eq_of_mem_set hz with e | e
    · exact hl z e
    · exact h z e.symm
def knownSys (n : Nat) {c : Code} (hb : InBounds c) : Sys Int n c where
  fst := List.replicate n (some 0)
  len := List.length_replicate
  bh := behind
  bl := behind_len
  ld := waysM
  bm := fun i a b h => behind_mono h i
  lm := fun p i a b j h k => ways_mem.mpr (lead_mono h (ways_mem.mp k))
  ib := fun p i l h j hj => hb p i l h j (ways_mem.mp hj)
/-- **nothing waits: it's what is known** -/
theorem WInv.known {n : Nat} {c : Code} {P : Int → Prop} {B : List Env} (hb : InBounds c) (I : WInv (knownSys n hb) P B []) (j : Nat) : gt B j = knownAt (Sz43.known n c) j := by
  obtain ⟨k1, k2, k3, k4, k5⟩ := known_sol (n := n) hb
  obtain ⟨s1, s2, s3⟩ := I.sol
  refine le_antisymm (k5 B (fun i x l h1 h2 j hj => s1 i x l h1 h2 j (ways_mem.mpr hj)) s2 j) (s3 _ (fun i x l h1 h2 j hj => k3 i x l h1 h2 j (ways_mem.mp hj)) k4 j)
end My

set_option linter.all false
namespace My
open Sz43
section
variable {n : Nat} {p : List Nat → Nat → Bool} (mono : ∀ l m, (∀ x ∈ l, x ∈ m) → ∀ j, p l j = true → p m j = true)
include mono
end
end My

set_option linter.all false
namespace My.F
open Sz43
end My.F

set_option linter.all false
namespace My.F
open Sz43
/-- where instructions lead lies within -/
def InB (c : Code) : Prop := ∀ (i : Nat) (x : Ins), c[i]? = some x → ∀ j ∈ nexts i x, j ≤ c.length
section
variable {c : Code}
end
end My.F

set_option linter.all false
namespace My
open Sz43
end My

set_option linter.all false
namespace My
open Sz43
def tgt : Ins → Option Nat
  | .goto t => some t
  | .cond _ t => some t
  | _ => none
structure InsOk (P : Int → Prop) (n m : Nat) (i : Ins) : Prop where
  us : ∀ v ∈ usesOf i, v < n
  gv : ∀ d, givesOf i = some d → d < n
  nm : ∀ d z, i = .num d z → P z
  op : ∀ k d a b, i = .op k d a b → k < 12
  tg : ∀ t, tgt i = some t → t ≤ m
def GoodC (P : Int → Prop) (n : Nat) (c : Code) : Prop := ∀ i ∈ c, InsOk P n c.length i
section
variable {P : Int → Prop} {n : Nat} {c : Code}
theorem nexts_le {i m : Nat} {x : Ins} (h : ∀ t, tgt x = some t → t ≤ m) (hi : i < m) : ∀ j ∈ nexts i x, j ≤ m := by
  intro j hj
  cases x with
  | goto t =>
    simp [nexts] at hj
    subst hj
    exact h _ rfl
  | cond a t =>
    simp [nexts] at hj
    rcases hj with e | e
    · subst e
      exact h _ rfl
    · omega
  | stop => simp [nexts] at hj
  | num d z =>
    simp [nexts] at hj
    omega
  | copy d a =>
    simp [nexts] at hj
    omega
  | op k d a b =>
    simp [nexts] at hj
    omega
  | read d =>
    simp [nexts] at hj
    omega
  | print a =>
    simp [nexts] at hj
    omega
theorem GoodC.inb (G : GoodC P n c) : F.InB c := fun i x hx => nexts_le (G x (List.mem_of_getElem? hx)).tg (lt_of_get hx)
theorem lead_next {i : Nat} {x : Ins} {l : KL} : ∀ j ∈ mayLead i x l, j ∈ nexts i x := by
  intro j hj
  cases x with
  | cond a t =>
    rw [lead_cond] at hj
    cases h : knows l a with
    | none =>
      rw [h] at hj
      exact hj
    | some z =>
      rw [h] at hj
      dsimp only at hj
      split at hj
      · simp at hj
        simp [nexts, hj]
      · simp at hj
        simp [nexts, hj]
  | _ => exact hj
theorem GoodC.bounds (G : GoodC P n c) : InBounds c := fun i x _ hx j hj => G.inb i x hx j (lead_next j hj)
theorem knows_all {l : KL} (hl : AllP P l) {v : Nat} {z : Int} (e : knows l v = some z) : P z := by
  unfold knows at e
  cases hv : l[v]? with
  | none => rw [hv] at e; cases e
  | some x =>
    rw [hv] at e
    have e : x = some z := e
    exact hl z (by rw [← e]; exact List.mem_of_getElem? hv)
variable (rk : ∀ k x y, P x → P y → P (reckon k x y))
include rk
theorem behind_good {i : Ins} {m : Nat} (O : InsOk P n m i) {l : KL} (hl : AllP P l) : AllP P (behind i l) := by
  refine behind_all hl fun z e => ?_
  cases i with
  | num d y =>
    have e : some y = some z := e
    cases e
    exact O.nm d _ rfl
  | copy d v => exact knows_all hl e
  | op k d v u =>
    rw [giv_op] at e
    cases h1 : knows l v with
    | none => rw [h1] at e; cases e
    | some x =>
      cases h2 : knows l u with
      | none => rw [h1, h2] at e; cases e
      | some y =>
        rw [h1, h2] at e
        have e : some (reckon k x y) = some z := e
        cases e
        exact rk _ _ _ (knows_all hl h1) (knows_all hl h2)
  | _ => cases e
omit rk
theorem num_ok {m d : Nat} {z : Int} (hd : d < n) (hz : P z) : InsOk P n m (.num d z) := ⟨fun v h => (by simp [usesOf] at h), fun e h => (by cases h; exact hd), fun _ _ e => (by cases e; exact hz), fun _ _ _ _ e => (by cases e), fun _ e => (by cases e)⟩
theorem copy_ok {m d a : Nat} (hd : d < n) (ha : a < n) : InsOk P n m (.copy d a) := ⟨fun v h => (by simp [usesOf] at h; omega), fun e h => (by cases h; exact hd), fun _ _ e => (by cases e), fun _ _ _ _ e => (by cases e), fun _ e => (by cases e)⟩
include rk in
include rk in
include rk in
end
end My

set_option linter.all false
namespace My
open Sz43
end My

set_option linter.all false
namespace My
open Sz43
def waysN (p : Nat) : Ins → List Nat
  | .stop => []
  | .goto t => [t]
  | .cond _ t => [p + 1, t]
  | _ => [p + 1]
end My

set_option linter.all false
namespace My
open Sz43
end My

set_option linter.all false
namespace My
open Sz43
section
variable {P : Int → Prop} {n : Nat} {c : Code}
end
end My

set_option linter.all false
namespace My
open Sz43
structure Names (vs : List Bytes) : Prop where
  nd : vs.Nodup
  nm : ∀ w ∈ vs, isName w = true
section
variable {P : Int → Prop} {n : Nat} {c d : Code} {vs : List Bytes}
end
end My

set_option linter.all false
namespace My
open Sz43
theorem number_in {w : Bytes} {z : Int} (h : numberOf w = some z) : -9223372036854775808 ≤ z ∧ z < 9223372036854775808 := by
  have e63 : (2 : Nat) ^ 63 = 9223372036854775808 := by decide
  unfold numberOf at h
  split at h
  · cases q : natOf _ with
    | none => rw [q] at h; cases h
    | some n =>
      rw [q, Option.bind_some, e63] at h
      split at h
      · cases h
        omega
      · cases h
  · cases q : natOf w with
    | none => rw [q] at h; cases h
    | some n =>
      rw [q, Option.bind_some, e63] at h
      split at h
      · cases h
        omega
      · cases h
abbrev R64 (z : Int) : Prop := -9223372036854775808 ≤ z ∧ z < 9223372036854775808
structure LineOk (x : Line) : Prop where
  nm : ∀ n ∈ varsOf x, isName n = true
  num : ∀ d z, x = .num d z → R64 z
  op : ∀ k d a b, x = .op k d a b → k < 12
theorem line_ok {ws : List Bytes} {x : Line} (h : lineOf ws = some x) : LineOk x := by
  match ws, h with
  | [], h => simp [lineOf] at h
  | [a], h =>
    simp only [lineOf] at h
    split at h <;> cases h
    exact ⟨fun n k => (nomatch k), fun _ _ e => (by cases e), fun _ _ _ _ e => (by cases e)⟩
  | [a, b], h =>
    simp only [lineOf] at h
    split at h
    · cases h
    · next hb =>
      have hb : isName b = true := by simpa using hb
      split at h
      · cases h
        exact ⟨fun n k => (nomatch k), fun _ _ e => (by cases e), fun _ _ _ _ e => (by cases e)⟩
      · split at h
        · cases h
          exact ⟨fun n k => (nomatch k), fun _ _ e => (by cases e), fun _ _ _ _ e => (by cases e)⟩
        · split at h <;> cases h
          exact ⟨fun n k => by simp [varsOf] at k; rw [k]; exact hb, fun _ _ e => (by cases e), fun _ _ _ _ e => (by cases e)⟩
  | [d', e', a], h =>
    simp only [lineOf] at h
    split at h
    · cases h
    · next hd =>
      have hd : isName d' = true := by
        cases q : isName d' with
        | true => rfl
        | false => exact absurd (.inl q) hd
      split at h
      · cases h
        exact ⟨fun n k => by simp [varsOf] at k; rw [k]; exact hd, fun _ _ e => (by cases e), fun _ _ _ _ e => (by cases e)⟩
      · split at h
        · rename_i z' hz
          cases h
          exact ⟨fun n k => by simp [varsOf] at k; rw [k]; exact hd, fun _ _ e => (by cases e; exact number_in hz), fun _ _ _ _ e => (by cases e)⟩
        · split at h <;> cases h
          next ha => exact ⟨fun n k => by simp [varsOf] at k; rcases k with k | k <;> rw [k] <;> assumption, fun _ _ e => (by cases e), fun _ _ _ _ e => (by cases e)⟩
  | [i, a, g, n], h =>
    simp only [lineOf] at h
    split at h <;> cases h
    next hh => exact ⟨fun n k => by simp [varsOf] at k; rw [k]; exact hh.2.1, fun _ _ e => (by cases e), fun _ _ _ _ e => (by cases e)⟩
  | [d', e', a, o, b], h =>
    simp only [lineOf] at h
    split at h
    · cases h
    · next hh =>
      have nt : ∀ w, ¬ isName w = false → isName w = true := fun w h => by simpa using h
      have h1 := nt d' fun z => hh (.inl z)
      have h2 := nt a fun z => hh (.inr (.inr (.inl z)))
      have h3 := nt b fun z => hh (.inr (.inr (.inr z)))
      cases q : ops.findIdx? (fun x => x == o) with
      | none => rw [q] at h; cases h
      | some k =>
        rw [q] at h
        cases h
        refine ⟨fun n k => ?_, fun _ _ e => (by cases e), fun _ _ _ _ e => ?_⟩
        · simp [varsOf] at k
          rcases k with k | k | k <;> rw [k] <;> assumption
        · cases e
          exact (List.findIdx?_eq_some_iff_getElem.mp q).1
  | a :: b :: c :: d' :: e' :: f :: r, h => simp [lineOf] at h
/-- what's read is sound -/
structure GOk (g : Got) : Prop where
  mem : ∀ x ∈ g.items, ∀ n ∈ varsOf x.2, n ∈ g.vars
  lin : ∀ x ∈ g.items, LineOk x.2
  lab : ∀ y ∈ g.labels, y.2 ≤ g.items.length
  l256 : g.items.length ≤ 256
  l64 : g.vars.length ≤ 64
  nms : Names g.vars
theorem add_names {x : List Bytes} (hx : ∀ n ∈ x, isName n = true) : ∀ {vs : List Bytes}, Names vs → Names (x.foldl addVar vs) := by
  induction x with
  | nil => exact fun h => h
  | cons n x ih =>
    intro vs h
    refine ih (fun m hm => hx m (List.mem_cons_of_mem _ hm)) ?_
    unfold addVar
    split
    · exact h
    · next k =>
      have k : n ∉ vs := by simpa using k
      refine ⟨?_, fun w hw => ?_⟩
      · rw [List.nodup_append]
        refine ⟨h.nd, by simp, fun a ha b hb => ?_⟩
        have : b = n := by simpa using hb
        rintro rfl
        exact k (this ▸ ha)
      · rcases List.mem_append.mp hw with e | e
        · exact h.nm w e
        · have : w = n := by simpa using e
          rw [this]
          exact hx n (by simp)
theorem put_ok {g g' : Got} {k : Nat} {ws : List Bytes} (G : GOk g) (h : put g k ws = some g') : GOk g' := by
  by_cases hn : ws = []
  · unfold put at h
    rw [if_pos hn] at h
    cases h
    exact G
  by_cases hl : ws.length = 2 ∧ ws.getD 0 [] = ascii "label"
  · have ew : ws = [ascii "label", ws.getD 1 []] := by
      obtain ⟨l2, e⟩ := hl
      match ws, l2, e with
      | [a, b], _, e =>
        have e : a = ascii "label" := e
        rw [e]
        rfl
    rw [ew, put_label] at h
    split at h
    · cases h
    · cases h
      refine ⟨G.mem, G.lin, fun y hy => ?_, G.l256, G.l64, G.nms⟩
      rcases List.mem_append.mp hy with e | e
      · exact G.lab y e
      · have : y = (ws.getD 1 [], g.items.length) := by simpa using e
        rw [this]
        exact Nat.le_refl _
  · rw [put_ins hn hl] at h
    cases q : lineOf ws with
    | none => rw [q] at h; cases h
    | some x =>
      rw [q] at h
      have h : (if 256 ≤ g.items.length ∨ 64 < ((varsOf x).foldl addVar g.vars).length then none else some { g with items := g.items ++ [(k, x)], vars := (varsOf x).foldl addVar g.vars }) = some g' := h
      split at h
      · cases h
      · rename_i hb
        cases h
        refine ⟨fun y hy n hnn => ?_, fun y hy => ?_, fun y hy => ?_, ?_, ?_, add_names (line_ok q).nm G.nms⟩
        · rcases List.mem_append.mp hy with e | e
          · exact mem_ext (G.mem y e n hnn)
          · have : y = (k, x) := by simpa using e
            rw [this] at hnn
            exact mem_vars hnn
        · rcases List.mem_append.mp hy with e' | e'
          · exact G.lin y e'
          · have : y = (k, x) := by simpa using e'
            rw [this]
            exact line_ok q
        · have := G.lab y hy
          show y.2 ≤ (g.items ++ [(k, x)]).length
          rw [List.length_append]
          omega
        · show (g.items ++ [(k, x)]).length ≤ 256
          rw [List.length_append, List.length_singleton]
          omega
        · show ((varsOf x).foldl addVar g.vars).length ≤ 64
          omega
theorem puts_ok : ∀ {lines : List (List Bytes)} {g g' : Got} {k : Nat}, GOk g → puts g k lines = .ok g' → GOk g'
  | [], _, _, _, G, h => by cases h; exact G
  | ws :: r, g, g', k, G, h => by
    rw [puts_step] at h
    cases q : put g k ws with
    | none => rw [q] at h; cases h
    | some g1 =>
      rw [q] at h
      exact puts_ok (put_ok G q) h
theorem seek_lt {v : List Bytes} {w : Bytes} (h : w ∈ v) : seek v w < v.length := by
  unfold seek
  have : (v.findIdx? fun x => x == w).isSome = true := by
    rw [List.findIdx?_isSome, List.any_eq_true]
    exact ⟨w, h, by simp⟩
  obtain ⟨i, e⟩ := Option.isSome_iff_exists.mp this
  rw [e]
  exact (List.findIdx?_eq_some_iff_getElem.mp e).1
theorem place_le {labs : List (Bytes × Nat)} {n : Bytes} {m : Nat} (h : ∀ y ∈ labs, y.2 ≤ m) : (place labs n).getD 0 ≤ m := by
  unfold place
  cases q : labs.find? (fun x => x.1 == n) with
  | none => exact Nat.zero_le _
  | some y => exact h y (List.mem_of_find?_eq_some q)
theorem ins_ok {g : Got} (G : GOk g) {x : Nat × Line} (hx : x ∈ g.items) : InsOk R64 g.vars.length g.items.length (insOf g x.2) := by
  have hm := G.mem x hx
  have O := G.lin x hx
  have sk : ∀ n, n ∈ varsOf x.2 → seek g.vars n < g.vars.length := fun n h => seek_lt (hm n h)
  have pl : ∀ n, (place g.labels n).getD 0 ≤ g.items.length := fun n => place_le G.lab
  cases q : x.2 with
  | label n => exact ⟨fun v h => (by cases h), fun d h => (by cases h), fun d z h => (by cases h), fun _ _ _ _ e => (by cases e), fun _ e => (by cases e)⟩
  | num d z =>
    rw [q] at sk
    exact num_ok (sk d (by simp [varsOf])) (O.num d z q)
  | copy d a =>
    rw [q] at sk
    exact copy_ok (sk d (by simp [varsOf])) (sk a (by simp [varsOf]))
  | op k d a b =>
    rw [q] at sk
    have h1 := sk a (by simp [varsOf])
    have h2 := sk b (by simp [varsOf])
    exact ⟨fun v h => (by simp [insOf, usesOf] at h; omega), fun d' h => (by cases h; exact sk d (by simp [varsOf])), fun d' z' h => (by cases h), fun _ _ _ _ e => (by cases e; exact O.op _ _ _ _ q), fun _ e => (by cases e)⟩
  | read d =>
    rw [q] at sk
    exact ⟨fun v h => (by cases h), fun d' h => (by cases h; exact sk d (by simp [varsOf])), fun d' z' h => (by cases h), fun _ _ _ _ e => (by cases e), fun _ e => (by cases e)⟩
  | print a =>
    rw [q] at sk
    have h1 := sk a (by simp [varsOf])
    exact ⟨fun v h => (by simp [insOf, usesOf] at h; omega), fun d' h => (by cases h), fun d' z' h => (by cases h), fun _ _ _ _ e => (by cases e), fun _ e => (by cases e)⟩
  | goto n => exact ⟨fun v h => (by cases h), fun d' h => (by cases h), fun d' z' h => (by cases h), fun _ _ _ _ e => (by cases e), fun _ e => (by cases e; exact pl n)⟩
  | cond a n =>
    rw [q] at sk
    have h1 := sk a (by simp [varsOf])
    exact ⟨fun v h => (by simp [insOf, usesOf] at h; omega), fun d' h => (by cases h), fun d' z' h => (by cases h), fun _ _ _ _ e => (by cases e), fun _ e => (by cases e; exact pl n)⟩
  | stop => exact ⟨fun v h => (by cases h), fun d h => (by cases h), fun d z h => (by cases h), fun _ _ _ _ e => (by cases e), fun _ e => (by cases e)⟩
theorem parse_ok {t : Bytes} {p : Program} (h : parse t = .ok p) : GoodC R64 p.vars.length p.code ∧ Names p.vars ∧ p.code.length ≤ 256 ∧ p.vars.length ≤ 64 := by
  rw [parse_eq] at h
  cases q : puts ⟨[], [], []⟩ 1 ((parted (fun (c : Nat) => c == 10) t).map words) with
  | error k => rw [q] at h; cases h
  | ok g =>
    rw [q] at h
    have G : GOk g := puts_ok ⟨fun _ h => absurd h (by simp), fun _ h => absurd h (by simp), fun _ h => absurd h (by simp), Nat.zero_le _, Nat.zero_le _, ⟨List.nodup_nil, fun _ h => absurd h (by simp)⟩⟩ q
    cases f : (jumpsOf g.items).find? (fun x => (place g.labels x.2.1).isNone) with
    | some x =>
      have h : (match (jumpsOf g.items).find? (fun x => (place g.labels x.2.1).isNone) with | some x => Except.error x.2.2 | none => Except.ok ⟨g.vars, g.items.map fun (x : Nat × Line) => insOf g x.2⟩) = Except.ok p := h
      rw [f] at h
      cases h
    | none =>
      have h : (match (jumpsOf g.items).find? (fun x => (place g.labels x.2.1).isNone) with | some x => Except.error x.2.2 | none => Except.ok ⟨g.vars, g.items.map fun (x : Nat × Line) => insOf g x.2⟩) = Except.ok p := h
      rw [f] at h
      cases h
      refine ⟨fun i hi => ?_, G.nms, ?_, G.l64⟩
      · obtain ⟨y, hy, rfl⟩ := List.mem_map.mp hi
        rw [List.length_map]
        exact ins_ok G hy
      · show (g.items.map _).length ≤ 256
        rw [List.length_map]
        exact G.l256
end My

set_option Elab.async false
set_option linter.all false
set_option maxRecDepth 100000
set_option maxHeartbeats 1000000
namespace My
open PySem L2
def kV' (l : KL) : List V := l.map ofOpt
theorem kV_len (l : KL) : (kV' l).length = l.length := List.length_map _
theorem kV_get {l : KL} {i : Nat} (h : i < l.length) : (kV' l)[i]? = some (ofOpt (Sz43.knows l i)) := by
  unfold kV' Sz43.knows
  rw [List.getElem?_map, List.getElem?_eq_getElem h]
  rfl
theorem flat_opt (x : Option Int) : flatV (ofOpt x) = true := by cases x <;> rfl
inductive spGiven (t : Ad) (vs : List V) (H : Hp) (Q : VK) (e0 : XK) : Prop
  | mk (a kp : Addr) (i : Sz43.Ins) (pl : V) (l : KL) : vs = [.ref a, .ref kp] → InsAt t H a i pl → H kp = some (.lst (kV' l)) → (Sz43.givesOf i).isSome = true → ((∀ v ∈ Sz43.usesOf i, v < l.length)) → AllP I64 l → (∀ H', Same H H' → Q (ofOpt (givOf i l)) H') → spGiven t vs H Q e0
theorem pl_asg {te : TE} {g : TG} {D : L2.Ends} {σ : St} {H : Hp} (h : te σ H fun x H1 => g x σ H1 D.nx) : tAsg te g D σ H := h
section
variable {P : Program} {w : World} {K : PySem.W.Frag} {mg : Str → Option Value} {base : Heap} {t : Ad}
theorem sc_given : FnScope ["instruction", "known", "numbers", "variable"] ["instruction", "known"] (defScope s_given_number) := sc_mk
theorem ok_given (T : Txt K mg t) : FnOk P w K mg base CX0 4 t.f_given_number t.d_given_number ["instruction", "known"] (spGiven t) := by
  refine T.F_given_number.ok sc_given (fun vs H Q E h => ?_) (fun _ A _ s H vs Q E hr h => ?_)
  · obtain ⟨_, _, _, _, _, rfl, _⟩ := h
    rfl
  · obtain ⟨a, kp, i, pl, l, rfl, hI, hk, hg, hus, hP, k⟩ := h
    have nd := sc_given.nd
    refine ⟨_, pss_cons (ps_if (pt_cmpR op_eq (pe_fld (pv 0) rfl) pe_str (nomark _)) (pss_one (ps_ret (pe_fld (pv 0) rfl))) pss_nil)
      (pss_cons (ps_if (pt_cmpR op_eq (pe_fld (pv 0) rfl) pe_str (nomark _)) (pss_one (ps_ret pe_non)) pss_nil)
      (pss_cons (ps_setLc (i := 2) (own := [("variable", 3)]) rfl nd rfl rfl rfl (pi_tup (pe_fld (pv 0) rfl)) ?b1 (fun s H C cl fp => pg_name (i := 3) nd rfl (Or.inl rfl)) (fun s H C cl fp => pts_nil) (fun s H C cl fp => pe_ix (r := rIxL K) ix_list (pv 1) (pv 3) (fun _ _ => rfl)))
      (pss_cons (ps_if (pt_cmpR op_in_seq pe_non (pv 2) (by with_unfolding_all rfl)) (pss_one (ps_ret pe_non)) pss_nil)
      (pss_cons (ps_if (pt_cmpR op_eq (pe_fld (pv 0) rfl) pe_str (nomark _)) (pss_one (ps_ret (pe_ix ix_list (pv 2) pe_int (fun _ _ => rfl)))) pss_nil)
      (pss_one (ps_ret (pe_call (ok_reckoned T) hr rfl T.g_reckoned T.F_reckoned.kp (b_reckoned T) .nil pass0 (pa_cons (pe_fld (pv 0) rfl) (pa_cons (pe_ix ix_list (pv 2) pe_int (fun _ _ => rfl)) (pa_cons (pe_ix ix_list (pv 2) pe_int (fun _ _ => rfl)) pa_nil)))))))))), ?_⟩
    · show BlkOk ["instruction", "known", "numbers", "variable"] (defScope s_given_number) _ _
      exact ⟨rfl, by decide +kernel, by decide +kernel, by decide +kernel, by decide +kernel⟩
    · obtain ⟨dx, u, op, ha, hu, hop⟩ := hI
      have cl := T.cl_Instruction
      have comp : ∀ (Qn : VK) (us : List Nat), H u = some (.tup (iw us)) → (∀ v ∈ us, v < l.length) → us.length ≤ 10 → (∀ D H1, Same H H1 → H1 D = some (.lst (us.map fun v => ofOpt (Sz43.knows l v))) → Qn (.ref D) H1) →
          tLc (iTup K (tFld K (tVar 0) "used")) (gName 3) tYes (tOp (rIxL K) (tVar 1) (tVar 3)) [3] [some (.ref a), some (.ref kp), none, none] H Qn := by
        intro Qn us hu hb hl kk
        refine ⟨_, rfl, a, _, dx, _, _, rfl, ha, cl, T.na_Instruction_used, if_used, u, rfl, ⟨_, SqT.of hu⟩, fun D hD => ?_⟩
        refine lc_flat (xs := iw us) (fun v => match v with | .int z => ofOpt (Sz43.knows l z.toNat) | v => v) hD (by rw [iw_len, sizeLine_eq]; omega) (fun H2 s2 => yields_tup (s2.sqT (SqT.of hu))) (fun y => rfl) ?_ ?_
        · intro i y H2 hy s2 Q' k'
          obtain ⟨c, hc, rfl⟩ := iw_get hy
          exact ⟨_, rfl, _, rfl, kp, _, _, _, rfl, rfl, SqL.of (s2 _ _ hk), atI_nat (kV_get (hb c (List.mem_of_getElem? hc))), k' H2 (Same.refl _)⟩
        · intro H2 s2 hL2
          refine kk D H2 s2 (hL2.trans ?_)
          unfold iw
          rw [List.map_map]
          rfl
      cases i with
      | num d z =>
        refine ⟨_, rfl, a, _, dx, _, _, rfl, ha, cl, T.na_Instruction_kind, if_kind, rfl, _, rfl, ?_⟩
        refine iteT ?_
        exact ⟨_, rfl, a, _, dx, _, _, rfl, ha, cl, T.na_Instruction_number, if_number, k H (Same.refl H)⟩
      | read d =>
        refine ⟨_, rfl, a, _, dx, _, _, rfl, ha, cl, T.na_Instruction_kind, if_kind, rfl, _, rfl, ?_⟩
        refine iteF ?_
        refine ⟨_, rfl, a, _, dx, _, _, rfl, ha, cl, T.na_Instruction_kind, if_kind, rfl, _, rfl, ?_⟩
        refine iteT ?_
        exact k H (Same.refl H)
      | copy d v =>
        refine ⟨_, rfl, a, _, dx, _, _, rfl, ha, cl, T.na_Instruction_kind, if_kind, rfl, _, rfl, ?_⟩
        refine iteF ?_
        refine ⟨_, rfl, a, _, dx, _, _, rfl, ha, cl, T.na_Instruction_kind, if_kind, rfl, _, rfl, ?_⟩
        refine iteF ?_
        dsimp only [tNext]
        refine pl_seq (pl_asg ?_)
        refine comp _ [v] hu hus (by show 1 ≤ 10; decide) fun D H1 s1 hL => ?_
        have hL : H1 D = some (.lst [ofOpt (Sz43.knows l v)]) := hL
        have ha1 := s1 _ _ ha
        refine ⟨_, rfl, D, _, rfl, .inl (SqL.of hL), rfl, (by show (flatV (ofOpt (Sz43.knows l v)) && true) = true; rw [flat_opt]; rfl), _, rfl, ?_⟩
        have eg : givOf (.copy d v) l = Sz43.knows l v := rfl
        rw [eg] at k
        cases hz : Sz43.knows l v with
        | none =>
          rw [hz] at k hL
          refine iteT ?_
          exact k H1 s1
        | some z =>
          rw [hz] at k hL
          refine iteF ?_
          refine ⟨_, rfl, a, _, dx, _, _, rfl, ha1, cl, T.na_Instruction_kind, if_kind, rfl, _, rfl, ?_⟩
          refine iteT ?_
          exact ⟨_, rfl, D, _, _, _, rfl, rfl, SqL.of hL, atI_nat (j := 0) rfl, k H1 s1⟩
      | op n d v v' =>
        obtain ⟨h12, q, eq, hq⟩ := hop
        subst eq
        refine ⟨_, rfl, a, _, dx, _, _, rfl, ha, cl, T.na_Instruction_kind, if_kind, rfl, _, rfl, ?_⟩
        refine iteF ?_
        refine ⟨_, rfl, a, _, dx, _, _, rfl, ha, cl, T.na_Instruction_kind, if_kind, rfl, _, rfl, ?_⟩
        refine iteF ?_
        dsimp only [tNext]
        refine pl_seq (pl_asg ?_)
        refine comp _ [v, v'] hu hus (by show 2 ≤ 10; decide) fun D H1 s1 hL => ?_
        have hL : H1 D = some (.lst [ofOpt (Sz43.knows l v), ofOpt (Sz43.knows l v')]) := hL
        have ha1 := s1 _ _ ha
        refine ⟨_, rfl, D, _, rfl, .inl (SqL.of hL), rfl, (by show (flatV (ofOpt (Sz43.knows l v)) && (flatV (ofOpt (Sz43.knows l v')) && true)) = true; rw [flat_opt, flat_opt]; rfl), _, rfl, ?_⟩
        rw [giv_op] at k
        have i64 : ∀ v z, Sz43.knows l v = some z → I64 z := fun v z e => by
          unfold Sz43.knows at e
          cases hv : l[v]? with
          | none => rw [hv] at e; cases e
          | some x =>
            rw [hv] at e
            have e : x = some z := e
            exact hP z (by rw [← e]; exact List.mem_of_getElem? hv)
        cases hz : Sz43.knows l v with
        | none =>
          rw [hz] at k
          refine iteT ?_
          exact k H1 s1
        | some z =>
          rw [hz] at k hL
          cases hz' : Sz43.knows l v' with
          | none =>
            rw [hz'] at k
            refine iteT ?_
            exact k H1 s1
          | some z' =>
            rw [hz'] at k hL
            refine iteF ?_
            refine ⟨_, rfl, a, _, dx, _, _, rfl, ha1, cl, T.na_Instruction_kind, if_kind, rfl, _, rfl, ?_⟩
            refine iteF ?_
            exact ⟨_, rfl, a, _, dx, _, _, rfl, ha1, cl, T.na_Instruction_operator, if_operator, _, rfl, D, _, _, _, rfl, rfl, SqL.of hL, atI_nat (j := 0) rfl, _, rfl, D, _, _, _, rfl, rfl, SqL.of hL, atI_nat (j := 1) rfl, q, n, z, z', rfl, h12, s1 _ _ hq, i64 v z hz, i64 v' z' hz', k H1 s1⟩
      | _ => cases hg
end
end My

set_option Elab.async false
set_option linter.all false
set_option maxRecDepth 100000
set_option maxHeartbeats 1000000
namespace My
open PySem L2
inductive spWays (t : Ad) (vs : List V) (H : Hp) (Q : VK) (e0 : XK) : Prop
  | mk (p : Nat) (a : Addr) (i : Sz43.Ins) : vs = [.int (p : Int), .ref a] → IA t H a i → (∀ D H', Same H H' → H D = none → H' D = some (.lst (iw (waysN p i))) → Q (.ref D) H') → spWays t vs H Q e0
section
variable {P : Program} {w : World} {K : PySem.W.Frag} {mg : Str → Option Value} {base : Heap} {t : Ad}
theorem sc_ways : FnScope ["place", "instruction"] ["place", "instruction"] (defScope s_ways_from) := sc_mk
theorem ok_ways (T : Txt K mg t) : FnOk P w K mg base CX0 1 t.f_ways_from t.d_ways_from ["place", "instruction"] (spWays t) := by
  refine T.F_ways_from.ok sc_ways (fun vs H Q E h => ?_) (fun _ A _ s H vs Q E hr h => ?_)
  · obtain ⟨_, _, _, rfl, _⟩ := h
    rfl
  · obtain ⟨p, a, i, rfl, hI, k⟩ := h
    refine ⟨_, pss_cons (ps_if (pt_cmpR op_eq (pe_fld (pv 1) rfl) pe_str (nomark _)) (pss_one (ps_ret (pe_lst pa_nil))) pss_nil)
      (pss_cons (ps_if (pt_cmpR op_eq (pe_fld (pv 1) rfl) pe_str (nomark _)) (pss_one (ps_ret (pe_lst (pa_cons (pe_fld (pv 1) rfl) pa_nil)))) pss_nil)
      (pss_cons (ps_if (pt_cmpR op_eq (pe_fld (pv 1) rfl) pe_str (nomark _)) (pss_one (ps_ret (pe_lst (pa_cons (pe_op op_add (pv 0) pe_int) (pa_cons (pe_fld (pv 1) rfl) pa_nil))))) pss_nil)
      (pss_one (ps_ret (pe_lst (pa_cons (pe_op op_add (pv 0) pe_int) pa_nil)))))), ?_⟩
    obtain ⟨dx, u, op, ha, hu, hop⟩ := id hI
    have cl := T.cl_Instruction
    have eadd : V.int ((p : Int) + 1) = V.int ((p + 1 : Nat) : Int) := by
      rw [Int.natCast_add]
      rfl
    refine ⟨_, rfl, a, _, dx, _, _, rfl, ha, cl, T.na_Instruction_kind, if_kind, rfl, _, rfl, ?_⟩
    cases i with
    | stop =>
      refine iteT ?_
      exact ⟨Nat.zero_le _, fun D hD => k D _ (Same.new hD) hD upd_same⟩
    | goto u =>
      refine iteF ?_
      refine ⟨_, rfl, a, _, dx, _, _, rfl, ha, cl, T.na_Instruction_kind, if_kind, rfl, _, rfl, ?_⟩
      refine iteT ?_
      exact ⟨_, rfl, a, _, dx, _, _, rfl, ha, cl, T.na_Instruction_place, if_place, (by show 1 ≤ sizeLine; decide), fun D hD => k D _ (Same.new hD) hD upd_same⟩
    | cond v u =>
      refine iteF ?_
      refine ⟨_, rfl, a, _, dx, _, _, rfl, ha, cl, T.na_Instruction_kind, if_kind, rfl, _, rfl, ?_⟩
      refine iteF ?_
      refine ⟨_, rfl, a, _, dx, _, _, rfl, ha, cl, T.na_Instruction_kind, if_kind, rfl, _, rfl, ?_⟩
      refine iteT ?_
      refine ⟨_, rfl, _, _, rfl, rfl, _, rfl, a, _, dx, _, _, rfl, ha, cl, T.na_Instruction_place, if_place, (by show 2 ≤ sizeLine; decide), fun D hD => ?_⟩
      rw [eadd]
      exact k D _ (Same.new hD) hD upd_same
    | _ =>
      refine iteF ?_
      refine ⟨_, rfl, a, _, dx, _, _, rfl, ha, cl, T.na_Instruction_kind, if_kind, rfl, _, rfl, ?_⟩
      refine iteF ?_
      refine ⟨_, rfl, a, _, dx, _, _, rfl, ha, cl, T.na_Instruction_kind, if_kind, rfl, _, rfl, ?_⟩
      refine iteF ?_
      refine ⟨_, rfl, _, _, rfl, rfl, (by show 1 ≤ sizeLine; decide), fun D hD => ?_⟩
      rw [eadd]
      exact k D _ (Same.new hD) hD upd_same
end
end My

set_option Elab.async false
set_option linter.all false
set_option maxRecDepth 100000
set_option maxHeartbeats 1000000
namespace My
open PySem L2
structure Kd (K : PySem.W.Frag) (α : Type) [DecidableEq α] where
  at_ : Hp → V → α → Prop
  nl : ∀ {H H' v a}, at_ H v a → NL H H' → at_ H' v a
  dat : α → PyData
  dp : ∀ {H v a}, at_ H v a → Dp K H v (dat a)
  ok : α → Prop
  isok : ∀ {H v a}, at_ H v a → ok a
  eqv : ∀ {a b}, ok a → ok b → PyData.eqv (dat a) (dat b) = decide (a = b)
  en1 : ∀ a, PyData.eqv (dat a) .none = false
  en2 : ∀ a, PyData.eqv .none (dat a) = false
  lay : ∀ a, (dat a).canLay0 = true
  dep : ∀ a, (dat a).depth ≤ 8
section
variable {K : PySem.W.Frag} {α : Type} [DecidableEq α] (D : Kd K α)
def OA (H : Hp) (v : V) : Option α → Prop
  | none => v = .non
  | some a => D.at_ H v a
def datO : Option α → PyData
  | none => .none
  | some a => D.dat a
def okO : Option α → Prop
  | none => True
  | some a => D.ok a
def LA (H : Hp) (p : Addr) (l : LL α) : Prop := ∃ vs, H p = some (.lst vs) ∧ Paired (fun o v => OA D H v o) l vs
def EnvG (H : Hp) (v : V) : EE α → Prop
  | none => v = .non
  | some l => ∃ p, v = .ref p ∧ LA D H p l
def datE : EE α → PyData
  | none => .none
  | some l => .list (l.map (datO D))
variable {D}
theorem OA.nl {H H' : Hp} {v : V} {o : Option α} (h : OA D H v o) (k : NL H H') : OA D H' v o := by
  cases o with
  | none => exact h
  | some a => exact D.nl h k
theorem OA.dp {H : Hp} {v : V} {o : Option α} (h : OA D H v o) : Dp K H v (datO D o) := by
  cases o with
  | none =>
    have h : v = .non := h
    rw [h]
    exact .non
  | some a => exact D.dp h
theorem OA.ok {H : Hp} {v : V} {o : Option α} (h : OA D H v o) : okO D o := by
  cases o with
  | none => trivial
  | some a => exact D.isok h
theorem eqvO {x y : Option α} (hx : okO D x) (hy : okO D y) : PyData.eqv (datO D x) (datO D y) = decide (x = y) := by
  cases x with
  | none =>
    cases y with
    | none => rfl
    | some b => exact D.en2 b
  | some a =>
    cases y with
    | none => exact D.en1 a
    | some b =>
      show PyData.eqv (D.dat a) (D.dat b) = _
      rw [D.eqv hx hy, Bool.eq_iff_iff]
      simp
theorem layO (o : Option α) : (datO D o).canLay0 = true := by
  cases o with
  | none => rfl
  | some a => exact D.lay a
theorem depO (o : Option α) : (datO D o).depth ≤ 8 := by
  cases o with
  | none => exact Nat.le_of_lt_succ (show PyData.depth .none < 9 by unfold PyData.depth; omega)
  | some a => exact D.dep a
theorem shapedO (o : Option α) : SeqAt.shaped (datO D o) = true := by
  unfold SeqAt.shaped
  rw [Bool.and_eq_true]
  have := depO (D := D) o
  exact ⟨layO o, decide_eq_true (by omega)⟩
theorem eqvL : ∀ {a b : LL α}, (∀ x ∈ a, okO D x) → (∀ x ∈ b, okO D x) → PyData.eqvAll (a.map (datO D)) (b.map (datO D)) = decide (a = b)
  | [], [], _, _ => rfl
  | [], _ :: _, _, _ => rfl
  | _ :: _, [], _, _ => rfl
  | x :: a, y :: b, ha, hb => by
    show (PyData.eqv (datO D x) (datO D y) && PyData.eqvAll (a.map (datO D)) (b.map (datO D))) = _
    rw [eqvO (ha x (by simp)) (hb y (by simp)), eqvL (fun z h => ha z (List.mem_cons_of_mem _ h)) fun z h => hb z (List.mem_cons_of_mem _ h), Bool.eq_iff_iff]
    simp
theorem layL : ∀ l : LL α, PyData.canLayAll0 (l.map (datO D)) = true
  | [] => rfl
  | x :: r => by
    show ((datO D x).canLay0 && PyData.canLayAll0 (r.map (datO D))) = true
    rw [layO, layL r]
    rfl
theorem depL : ∀ l : LL α, PyData.depthAll (l.map (datO D)) ≤ 8
  | [] => by
    show PyData.depthAll [] ≤ 8
    exact Nat.le_of_lt_succ (show PyData.depthAll [] < 9 by unfold PyData.depthAll; omega)
  | x :: r => by
    have h1 := depL r
    have h2 := depO (D := D) x
    show max (datO D x).depth (PyData.depthAll (r.map (datO D))) ≤ 8
    omega
theorem shapedE (e : EE α) : SeqAt.shaped (datE D e) = true := by
  unfold SeqAt.shaped
  rw [Bool.and_eq_true]
  cases e with
  | none => exact ⟨rfl, decide_eq_true (show PyData.depth .none ≤ 64 by decide)⟩
  | some l =>
    have := depL (D := D) l
    refine ⟨layL l, decide_eq_true ?_⟩
    show PyData.depthAll _ + 1 ≤ 64
    omega
theorem dpL {H : Hp} {l : LL α} {vs : List V} (h : Paired (fun o v => OA D H v o) l vs) : DpAll K H vs (l.map (datO D)) := by
  induction h with
  | nil => exact .nil
  | cons r _ ih => exact .cons r.dp ih
theorem okL {H : Hp} {l : LL α} {vs : List V} (h : Paired (fun o v => OA D H v o) l vs) : ∀ x ∈ l, okO D x := by
  induction h with
  | nil => intro x hx; cases hx
  | cons r _ ih =>
    intro x hx
    rcases List.mem_cons.mp hx with e | e
    · rw [e]
      exact r.ok
    · exact ih x e
theorem EnvG.dp {H : Hp} {v : V} {e : EE α} (h : EnvG D H v e) : Dp K H v (datE D e) := by
  cases e with
  | none =>
    have h : v = .non := h
    rw [h]
    exact .non
  | some l =>
    obtain ⟨p, rfl, vs, hp, hv⟩ := h
    exact .lst (SqL.of hp) (dpL hv)
theorem EnvG.eqv {H : Hp} {v v' : V} {m : LL α} {e : EE α} (h : EnvG D H v (some m)) (h' : EnvG D H v' e) : PyData.eqv (datE D (some m)) (datE D e) = decide (some m = e) := by
  obtain ⟨p, rfl, vs, hp, hv⟩ := h
  cases e with
  | none => rfl
  | some l =>
    obtain ⟨p', rfl, vs', hp', hv'⟩ := h'
    show PyData.eqvAll (m.map (datO D)) (l.map (datO D)) = _
    rw [eqvL (okL hv) (okL hv'), Bool.eq_iff_iff]
    simp
theorem LA.mono {H H' : Hp} {p : Addr} {l : LL α} (h : LA D H p l) (k : NL H H') (hp : ∀ vs, H p = some (.lst vs) → H' p = some (.lst vs)) : LA D H' p l := by
  obtain ⟨vs, h1, h2⟩ := h
  exact ⟨vs, hp vs h1, Paired.mapP h2 fun o v q => q.nl k⟩
theorem LA.same {H H' : Hp} {p : Addr} {l : LL α} (h : LA D H p l) (s : Same H H') : LA D H' p l := h.mono s.nl fun vs e => s _ _ e
theorem EnvG.mono {H H' : Hp} {v : V} {e : EE α} (h : EnvG D H v e) (k : NL H H') (hp : ∀ p vs, v = .ref p → H p = some (.lst vs) → H' p = some (.lst vs)) : EnvG D H' v e := by
  cases e with
  | none => exact h
  | some l =>
    obtain ⟨p, rfl, h⟩ := h
    exact ⟨p, rfl, h.mono k fun vs e => hp p vs rfl e⟩
theorem EnvG.same {H H' : Hp} {v : V} {e : EE α} (h : EnvG D H v e) (s : Same H H') : EnvG D H' v e := h.mono s.nl fun _ _ _ e => s _ _ e
theorem meet_get {l m : LL α} {i : Nat} {x y : Option α} (h1 : l[i]? = some x) (h2 : m[i]? = some y) : (meet l m)[i]? = some (if x = y then x else none) := by
  unfold meet
  have e : (l.zip m)[i]? = some (x, y) := List.getElem?_zip_eq_some.mpr ⟨h1, h2⟩
  rw [List.getElem?_map, e]
  rfl
end
inductive spAgreed {K : PySem.W.Frag} {α : Type} [DecidableEq α] (D : Kd K α) (vs : List V) (H : Hp) (Q : VK) (e0 : XK) : Prop
  | mk (kv : V) (b : Addr) (e : EE α) (v : LL α) : vs = [kv, .ref b] → EnvG D H kv e → LA D H b v → ((∀ l, e = some l → l.length = v.length)) → v.length ≤ 100 → (∀ q H', Same H H' → (q = b ∨ H q = none) → LA D H' q (agree e v) → Q (.ref q) H') → spAgreed D vs H Q e0
section
variable {P : Program} {w : World} {K : PySem.W.Frag} {mg : Str → Option Value} {base : Heap} {t : Ad}
theorem sc_agreed : FnScope ["before", "brought", "one", "other"] ["before", "brought"] (defScope s_agreed) := sc_mk
theorem ok_agreed {α : Type} [DecidableEq α] (D : Kd K α) (T : Txt K mg t) : FnOk P w K mg base CX0 1 t.f_agreed t.d_agreed ["before", "brought"] (spAgreed D) := by
  refine T.F_agreed.ok sc_agreed (fun vs H Q E h => ?_) (fun _ A _ s H vs Q E hr h => ?_)
  · obtain ⟨_, _, _, _, rfl, _⟩ := h
    rfl
  · obtain ⟨kv, b, e, v, rfl, hE, hb, hl, h100, k⟩ := h
    have nd := sc_agreed.nd
    refine ⟨_, pss_cons (ps_if (pt_cmp (pc_isN (pv 0))) (pss_one (ps_ret (pv 1))) pss_nil)
      (pss_one (ps_ret (pe_lc (g := gTup K 2 (gCons (gName 2) (gCons (gName 3) gNil))) (own := [("one", 2), ("other", 3)]) rfl nd (pi_zip rfl T.n_zip (pa_cons (pv 0) (pa_cons (pv 1) pa_nil))) ?b1 (fun s H C cl fp => pg_tup rfl (pgs_cons (pg_name (i := 2) nd rfl (Or.inl rfl)) (pgs_cons (pg_name (i := 3) nd rfl (Or.inl rfl)) pgs_nil))) (fun s H C cl fp => pts_nil) (fun s H C cl fp => pe_ifExp (pt_cmpR (r := rEqD K) (op_eqD hr.units) (pv 2) (pv 3) (nomark _)) (pv 2) pe_non)))), ?_⟩
    · show BlkOk ["before", "brought", "one", "other"] (defScope s_agreed) _ _
      exact ⟨rfl, by decide +kernel, by decide +kernel, by decide +kernel, by decide +kernel⟩
    · cases e with
      | none =>
        have hE : kv = .non := hE
        subst hE
        refine ⟨_, rfl, _, rfl, ?_⟩
        refine iteT ?_
        exact ⟨_, rfl, k b H (Same.refl H) (.inl rfl) hb⟩
      | some l =>
        obtain ⟨p, rfl, xs, hp, hx⟩ := hE
        obtain ⟨zs, hbz, hz⟩ := id hb
        have hll := hl l rfl
        have lx : l.length = xs.length := Paired.length hx
        have lz : v.length = zs.length := Paired.length hz
        refine ⟨_, rfl, _, rfl, ?_⟩
        refine iteF ?_
        refine ⟨_, rfl, _, rfl, p, b, _, _, rfl, SqL.of hp, SqL.of hbz, fun D' hD => ?_⟩
        refine zip_ix (fun _ => true) (fun i y H => ∀ o, (meet l v)[i]? = some o → OA D H y o) hD (by rw [sizeLine_eq]; omega) (SqL.of hp) (SqL.of hbz) (by omega) (fun i y H H' r k o ho => (r o ho).nl k) (fun x y => rfl) (fun i x z H2 hi hj s2 A B hA hB => ?_) fun ys H2 s2 hL pr => ?_
        · have il : i < l.length := by have := (List.getElem?_eq_some_iff.mp hi).1; omega
          have iv : i < v.length := by omega
          have h1 := pair_get hx (List.getElem?_eq_getElem il) hi
          have h2 := pair_get hz (List.getElem?_eq_getElem iv) hj
          have m := meet_get (List.getElem?_eq_getElem il) (List.getElem?_eq_getElem iv)
          have h1 := h1.nl s2.nl
          have h2 := h2.nl s2.nl
          refine iteT (B := B H2) ?_
          refine ⟨_, rfl, _, rfl, _, _, h1.dp, h2.dp, shapedO _, shapedO _, _, rfl, ?_⟩
          rw [eqvO h1.ok h2.ok]
          by_cases e : l[i] = v[i]
          · rw [decide_eq_true e]
            refine iteT ⟨_, rfl, hA rfl _ _ (Same.refl _) fun o ho => ?_⟩
            rw [m, if_pos e] at ho
            cases ho
            exact h1
          · rw [decide_eq_false e]
            refine iteF (hA rfl _ _ (Same.refl _) fun o ho => ?_)
            rw [m, if_neg e] at ho
            cases ho
            rfl
        · rw [all_kp, ← lx, ← meet_len hll] at pr
          exact k D' H2 s2 (.inr hD) ⟨ys, hL, paired_at pr⟩
end
end My

set_option Elab.async false
set_option linter.all false
set_option maxRecDepth 100000
set_option maxHeartbeats 1000000
namespace My
open PySem L2
structure KbAt {K : PySem.W.Frag} {α : Type} [DecidableEq α] (D : Kd K α) (t : Ad) (H : Hp) (li bf wt : Addr) (is : List Addr) (c : Sz43.Code) (vs : List V) (B : List (EE α)) (W : List Nat) : Prop where
  lst : H li = some (.lst (is.map V.ref))
  ins : Paired (fun a i => IA t H a i) is c
  bef : H bf = some (.lst vs)
  env : Paired (fun v e => EnvG D H v e) vs B
  nv : ∀ p, V.ref p ∈ vs → p ≠ bf ∧ p ≠ wt
  wai : H wt = some (.lst (iw W))
  n1 : bf ≠ wt
  n2 : li ≠ bf
  n3 : li ≠ wt
section
variable {K : PySem.W.Frag} {α : Type} [DecidableEq α] {D : Kd K α} {t : Ad} {H H' : Hp} {li bf wt : Addr} {is : List Addr} {c : Sz43.Code} {vs : List V} {B : List (EE α)} {W : List Nat}
theorem KbAt.same (k : KbAt D t H li bf wt is c vs B W) (s : Same H H') : KbAt D t H' li bf wt is c vs B W :=
  ⟨s _ _ k.lst, Paired.mapP k.ins fun a i h => h.nl s.nl, s _ _ k.bef, Paired.mapP k.env fun v e h => h.same s, k.nv, s _ _ k.wai, k.n1, k.n2, k.n3⟩
theorem KbAt.setW {W' : List Nat} (k : KbAt D t H li bf wt is c vs B W) : KbAt D t (upd H wt (.lst (iw W'))) li bf wt is c vs B W' := by
  have tp : ∀ b o, H b = some o → b ≠ wt → (upd H wt (.lst (iw W'))) b = some o := fun b o e n => by rw [upd_ne n]; exact e
  have nl : NL H (upd H wt (.lst (iw W'))) := NL.updL k.wai
  exact ⟨tp _ _ k.lst k.n3, Paired.mapP k.ins fun a i h => h.nl nl, tp _ _ k.bef k.n1, Paired.mapM k.env fun v e hv h => h.mono nl fun p xs ev e => tp _ _ e (k.nv p (ev ▸ hv)).2, k.nv, upd_same, k.n1, k.n2, k.n3⟩
theorem KbAt.setB {w q : Nat} {m : LL α} (k : KbAt D t H li bf wt is c vs B W) (hq : LA D H q m) (q1 : q ≠ bf) (q2 : q ≠ wt) : KbAt D t (upd H bf (.lst (vs.set w (.ref q)))) li bf wt is c (vs.set w (.ref q)) (B.set w (some m)) W := by
  have tp : ∀ b o, H b = some o → b ≠ bf → (upd H bf (.lst (vs.set w (.ref q)))) b = some o := fun b o e n => by rw [upd_ne n]; exact e
  have nl : NL H (upd H bf (.lst (vs.set w (.ref q)))) := NL.updL k.bef
  have env' : Paired (fun v e => EnvG D (upd H bf (.lst (vs.set w (.ref q)))) v e) vs B := Paired.mapM k.env fun v e hv h => h.mono nl fun p xs ev e => tp _ _ e (k.nv p (ev ▸ hv)).1
  refine ⟨tp _ _ k.lst k.n2, Paired.mapP k.ins fun a i h => h.nl nl, upd_same, ?_, fun p hp => ?_, tp _ _ k.wai k.n1.symm, k.n1, k.n2, k.n3⟩
  · have pset : ∀ {F : V → EE α → Prop} {x : V} {y : EE α}, F x y → ∀ {l₁ : List V} {l₂ : List (EE α)} {w : Nat}, Paired F l₁ l₂ → Paired F (l₁.set w x) (l₂.set w y) := by
      intro F x y hxy l₁ l₂ w h
      induction h generalizing w with
      | nil => exact .nil
      | cons r t ih =>
        cases w with
        | zero => exact .cons hxy t
        | succ w => exact .cons r ih
    exact pset ⟨q, rfl, hq.mono nl fun vs e => tp _ _ e q1⟩ env'
  · rcases List.mem_or_eq_of_mem_set hp with e | e
    · exact k.nv p e
    · cases e
      exact ⟨q1, q2⟩
theorem KbAt.len (k : KbAt D t H li bf wt is c vs B W) : vs.length = B.length := Paired.length k.env
theorem KbAt.get {w : Nat} (k : KbAt D t H li bf wt is c vs B W) (h : w < B.length) : ∃ v, vs[w]? = some v ∧ EnvG D H v (gt B w) := by
  have hv : vs[w]? = some (vs[w]'(by rw [k.len]; exact h)) := List.getElem?_eq_getElem _
  exact ⟨_, hv, pair_get k.env hv (gt_some h)⟩
end
theorem map_c {α β : Type} (a : β) : ∀ l : List α, l.map (fun _ => a) = List.replicate l.length a
  | [] => rfl
  | _ :: r => by rw [List.map_cons, map_c a r]; rfl
theorem iw_snoc' (w : List Nat) (c : Nat) : iw (w ++ [c]) = iw w ++ [.int (c : Int)] := iw_snoc w c
section
variable {K : PySem.W.Frag} {α : Type} [DecidableEq α]
/-- what behind(instruction, before) is asked, and ways(place, instruction, before) -/
def spBh (t : Ad) (D : Kd K α) {n : Nat} {c : Sz43.Code} (S : Sys α n c) (vs : List V) (H : Hp) (Q : VK) : Prop := ∃ (a kp : Addr) (i : Sz43.Ins) (l : LL α), vs = [.ref a, .ref kp] ∧ IA t H a i ∧ LA D H kp l ∧ i ∈ c ∧ l.length = n ∧
  ∀ b H', Same H H' → (b = kp ∨ H b = none) → LA D H' b (S.bh i l) → Q (.ref b) H'
def spLd (t : Ad) (D : Kd K α) {n : Nat} {c : Sz43.Code} (S : Sys α n c) (vs : List V) (H : Hp) (Q : VK) : Prop := ∃ (p : Nat) (a kp : Addr) (i : Sz43.Ins) (l : LL α), vs = [.int (p : Int), .ref a, .ref kp] ∧ IA t H a i ∧ LA D H kp l ∧ i ∈ c ∧ l.length = n ∧
  ∀ L H', Same H H' → H L = none → H' L = some (.lst (iw (S.ld p i l))) → Q (.ref L) H'
inductive spBr (t : Ad) (D : Kd K α) {n : Nat} {c : Sz43.Code} (S : Sys α n c) (fB fW : Addr) (vs : List V) (H : Hp) (Q : VK) (e0 : XK) : Prop
  | mk (li fs : Addr) : vs = [.ref li, .ref fs, .ref fB, .ref fW] → InsL t H li c → LA D H fs S.fst → (∀ bf ws B H', H' bf = some (.lst ws) → Paired (fun v e => EnvG D H' v e) ws B → WInv S (fun _ => True) B [] → Same H H' → Q (.ref bf) H') → spBr t D S fB fW vs H Q e0
end
section
variable {P : Program} {w : World} {K : PySem.W.Frag} {mg : Str → Option Value} {base : Heap} {t : Ad}
theorem sc_br : FnScope ["instructions", "first", "behind", "ways", "before", "waiting", "place", "instruction", "brought", "way", "together"] ["instructions", "first", "behind", "ways"] (defScope s_brought_along) := sc_mk
theorem ok_br {α : Type} [DecidableEq α] (D : Kd K α) {n : Nat} {c : Sz43.Code} (S : Sys α n c) (T : Txt K mg t) {fB fW : Addr} (kB : PySem.W.keepIn K (.ref fB) = true) (kW : PySem.W.keepIn K (.ref fW) = true) (h256 : c.length ≤ 256) (h64 : n ≤ 64)
    (hB : ∀ vs H Q, spBh t D S vs H Q → ∃ k fd ps sp, FnOk P w K mg base CX0 k fB fd ps sp ∧ k ≤ 5 ∧ Binds K fd ps [] ∧ sp vs H Q E0)
    (hW : ∀ vs H Q, spLd t D S vs H Q → ∃ k fd ps sp, FnOk P w K mg base CX0 k fW fd ps sp ∧ k ≤ 5 ∧ Binds K fd ps [] ∧ sp vs H Q E0) :
    FnOk P w K mg base CX0 6 t.f_brought_along t.d_brought_along ["instructions", "first", "behind", "ways"] (spBr t D S fB fW) := by
  refine T.F_brought_along.ok sc_br (fun vs H Q E h => ?_) (fun _ A _ s H vs Q E hr h => ?_)
  · obtain ⟨_, _, rfl, _⟩ := h
    rfl
  · obtain ⟨li, fs, rfl, ⟨is, hli, hins⟩, hfs, k⟩ := h
    have nd := sc_br.nd
    have hr1 := hr.mono (show 1 ≤ 5 by decide)
    refine ⟨_, pss_cons (ps_setLc (i := 4) (own := [("place", 6)]) rfl nd rfl rfl rfl (pi_range1 rfl T.n_range (pa_cons (pe_op op_add (pe_callB call_len_seq rfl T.n_len PySem.boot_len (pa_cons (pv 0) pa_nil)) pe_int) pa_nil)) ?b1 (fun s H C cl fp => pg_name (i := 6) nd rfl (Or.inl rfl)) (fun s H C cl fp => pts_nil) (fun s H C cl fp => pe_non))
      (pss_cons (ps_asg (pv 1) (pg_sub (pv 4) pe_int set_list))
      (pss_cons (ps_set (i := 5) nd rfl (Or.inl rfl) (pe_lst (pa_cons pe_int pa_nil)))
      (pss_cons (ps_while PassesOwn.never (pt_cmpR op_gt (pe_callB call_len_seq rfl T.n_len PySem.boot_len (pa_cons (pv 5) pa_nil)) pe_int (nomark _))
        (pss_cons (ps_set (i := 6) nd rfl (Or.inl rfl) (pe_bm0 PySem.F.plainAttrs_list PySem.F.slot_list_pop PySem.F.type_list_pop mt_pop (pv 5)))
        (pss_cons (ps_if (pt_cmpR op_eq (pv 6) (pe_callB call_len_seq rfl T.n_len PySem.boot_len (pa_cons (pv 0) pa_nil)) (nomark _)) (pss_one ps_continue) pss_nil)
        (pss_cons (ps_set (i := 7) nd rfl (Or.inl rfl) (pe_ix ix_list (pv 0) (pv 6) (fun _ _ => rfl)))
        (pss_cons (ps_set (i := 8) nd rfl (Or.inl rfl) (pe_callV (i := 2) (spT := fun f vs H Q => f = fB ∧ spBh t D S vs H Q) (fun f vs H Q h => by
            obtain ⟨rfl, h⟩ := h
            obtain ⟨k, fd, ps, sp, F, hk, hb, hs⟩ := hB vs H Q h
            exact ⟨k, fd, ps, sp, F, hr.mono hk, hb, hs⟩) rfl (Or.inl rfl) (pa_cons (pv 7) (pa_cons (pe_ix ix_list (pv 4) (pv 6) (fun _ _ => rfl)) pa_nil))))
        (pss_one (ps_for PassesOwn.never rfl (pi_list (pe_callV (i := 3) (spT := fun f vs H Q => f = fW ∧ spLd t D S vs H Q) (fun f vs H Q h => by
            obtain ⟨rfl, h⟩ := h
            obtain ⟨k, fd, ps, sp, F, hk, hb, hs⟩ := hW vs H Q h
            exact ⟨k, fd, ps, sp, F, hr.mono hk, hb, hs⟩) rfl (Or.inl rfl) (pa_cons (pv 6) (pa_cons (pv 7) (pa_cons (pe_ix ix_list (pv 4) (pv 6) (fun _ _ => rfl)) pa_nil))))) (pg_name (i := 9) nd rfl (Or.inl rfl))
          (pss_cons (ps_set (i := 10) nd rfl (Or.inl rfl) (pe_call (ok_agreed D T) hr1 rfl T.g_agreed T.F_agreed.kp (b_agreed T) .nil pass0 (pa_cons (pe_ix ix_list (pv 4) (pv 9) (fun _ _ => rfl)) (pa_cons (pv 8) pa_nil))))
          (pss_one (ps_if (pt_cmpR (op_neD hr.units) (pv 10) (pe_ix ix_list (pv 4) (pv 9) (fun _ _ => rfl)) (nomark _))
            (pss_cons (ps_asg (pv 10) (pg_sub (pv 4) (pv 9) set_list)) (pss_one (ps_expr (pe_bm PySem.F.plainAttrs_list PySem.F.slot_list_append PySem.F.type_list_append mt_append (pv 5) (pa_cons (pv 9) pa_nil))))) pss_nil))))))))))
      (pss_one (ps_ret (pv 4)))))), ?_⟩
    · show BlkOk ["instructions", "first", "behind", "ways", "before", "waiting", "place", "instruction", "brought", "way", "together"] (defScope s_brought_along) _ _
      exact ⟨rfl, by decide +kernel, by decide +kernel, by decide +kernel, by decide +kernel⟩
    · have ln : is.length = c.length := Paired.length hins
      refine ⟨_, rfl, li, _, rfl, .inl (SqL.of hli), _, _, rfl, rfl, ((c.length + 1 : Nat) : Int), ?_, by omega, by omega, fun bf hbf => ?_⟩
      · show [V.int (((is.map V.ref).length : Int) + 1)] = _
        rw [List.length_map, ln]
        rfl
      refine lc_flat (xs := (List.range (c.length + 1)).map fun (i : Nat) => V.int (0 + i)) (fun _ => .non) hbf (by rw [List.length_map, List.length_range, sizeLine_eq]; omega) (fun H2 _ => yields_range) (fun y => rfl) (fun i y H2 _ _ Q' k' => k' H2 (Same.refl _)) ?_
      intro H1 s1 hb1
      rw [map_c, List.length_map, List.length_range] at hb1
      refine ⟨_, rfl, _, rfl, bf, _, 0, 0, rfl, rfl, hb1, ?_, ?_⟩
      · unfold ixN
        rw [List.length_replicate, if_pos (by decide), if_pos (by omega)]
        rfl
      refine ⟨(by show 1 ≤ sizeLine; decide), fun wt hwt => ?_⟩
      obtain ⟨fvs, hfv, hfp⟩ := id hfs
      have nbw : bf ≠ wt := ne_of_none upd_same hwt
      have nlb : li ≠ bf := ne_of_none hli hbf
      have nDb : fs ≠ bf := ne_of_none hfv hbf
      have up3 : ∀ b o, H1 b = some o → b ≠ bf → (upd (upd H1 bf (.lst ((List.replicate (c.length + 1) V.non).set 0 (.ref fs)))) wt (.lst [.int 0])) b = some o := fun b o e n => by
        have e3 : (upd H1 bf (.lst ((List.replicate (c.length + 1) V.non).set 0 (.ref fs)))) b = some o := by rw [upd_ne n]; exact e
        rw [upd_ne (ne_of_none e3 hwt)]
        exact e3
      have nlw : li ≠ wt := ne_of_none (o := .lst (is.map V.ref)) (by rw [upd_ne nlb]; exact s1 _ _ hli) hwt
      have nDw : fs ≠ wt := ne_of_none (o := .lst fvs) (by rw [upd_ne nDb]; exact s1 _ _ hfv) hwt
      have SS : Same H (upd (upd H1 bf (.lst ((List.replicate (c.length + 1) V.non).set 0 (.ref fs)))) wt (.lst [.int 0])) := fun b o e => up3 _ _ (s1 _ _ e) (ne_of_none e hbf)
      have K0 : KbAt D t (upd (upd H1 bf (.lst ((List.replicate (c.length + 1) V.non).set 0 (.ref fs)))) wt (.lst [.int 0])) li bf wt is c ((List.replicate (c.length + 1) V.non).set 0 (.ref fs)) S.start [0] := by
        refine ⟨SS _ _ hli, Paired.mapP hins fun a i h => h.nl SS.nl, by rw [upd_ne nbw]; exact upd_same, ?_, fun q hq => ?_, upd_same, nbw, nlb, nlw⟩
        · rw [List.replicate_succ, List.set_cons_zero]
          refine .cons ⟨fs, rfl, hfs.same SS⟩ ?_
          have rp : ∀ (F : V → EE α → Prop), F .non none → ∀ n, Paired F (List.replicate n V.non) (List.replicate n none) := by
            intro F hF n
            induction n with
            | zero => exact .nil
            | succ n ih =>
              rw [List.replicate_succ, List.replicate_succ]
              exact .cons hF ih
          exact rp _ rfl _
        · rw [List.replicate_succ, List.set_cons_zero] at hq
          rcases List.mem_cons.mp hq with e | e
          · cases e
            exact ⟨nDb, nDw⟩
          · have := List.eq_of_mem_replicate e
            cases this
      have m0 : 2 * hts n S.start + 1 ≤ 40000 := by
        have h1 : hts n S.start ≤ S.start.length * (n + 1) := by
          have all : ∀ l : List (EE α), (∀ j, Wf n (gt l j)) → hts n l ≤ l.length * (n + 1) := by
            intro l
            induction l with
            | nil => intro _; exact Nat.zero_le _
            | cons x l ih =>
              intro h
              have ih := ih fun j => h (j + 1)
              have h0 := ht_top (h 0)
              unfold hts at *
              rw [List.map_cons, List.sum_cons, List.length_cons, Nat.add_mul, Nat.one_mul]
              have : ht n (gt (x :: l) 0) = ht n x := rfl
              omega
          exact all _ S.start_wf
        rw [S.start_len] at h1
        have h2 : (c.length + 1) * (n + 1) ≤ 257 * 65 := Nat.mul_le_mul (by omega) (by omega)
        omega
      have fwt : H wt = none := by
        have s3 : Same H (upd H1 bf (.lst ((List.replicate (c.length + 1) V.non).set 0 (.ref fs)))) := s1.upd hbf
        exact s3.free hwt
      refine pl_seq ?_
      refine ⟨fun m σ Hh => ∃ (vs : List V) (B : List (EE α)) (W : List Nat) (v4 v5 v6 v7 v8 : Option V), m = 2 * hts n B + W.length ∧ σ = [some (.ref li), some (.ref fs), some (.ref fB), some (.ref fW), some (.ref bf), some (.ref wt), v4, v5, v6, v7, v8] ∧
        KbAt D t Hh li bf wt is c vs B W ∧ WInv S (fun _ => True) B W ∧ m ≤ 40000 ∧ Same H Hh, ⟨_, _, _, _, _, _, _, _, _, rfl, rfl, K0, WInv.init (fun _ _ => trivial), m0, SS⟩, ?_⟩
      rintro m σ Hh ⟨vs, B, W, v4, v5, v6, v7, v8, rfl, rfl, Kb, WI, m4, SH⟩
      refine ⟨_, rfl, wt, _, rfl, .inl (SqL.of Kb.wai), _, _, rfl, rfl, _, rfl, ?_⟩
      rw [iw_len]
      rcases List.eq_nil_or_concat W with eW | ⟨ws, q, eW⟩
      · subst eW
        refine iteF ?_
        exact ⟨_, rfl, k bf vs B Hh Kb.bef Kb.env WI SH⟩
      rw [List.concat_eq_append] at eW
      subst eW
      have d0 : decide ((0 : Int) < ((ws ++ [q]).length : Int)) = true := decide_eq_true (by rw [List.length_append, List.length_singleton]; omega)
      rw [d0]
      refine iteT ?_
      refine ⟨fun σ' H' => ∃ m', m' < 2 * hts n B + (ws ++ [q]).length ∧ ∃ (vs : List V) (B : List (EE α)) (W : List Nat) (v4 v5 v6 v7 v8 : Option V), m' = 2 * hts n B + W.length ∧ σ' = [some (.ref li), some (.ref fs), some (.ref fB), some (.ref fW), some (.ref bf), some (.ref wt), v4, v5, v6, v7, v8] ∧
        KbAt D t H' li bf wt is c vs B W ∧ WInv S (fun _ => True) B W ∧ m' ≤ 40000 ∧ Same H H', fun σ' H' h => h, ?_⟩
      have wai := Kb.wai
      rw [iw_snoc'] at wai
      refine ⟨_, rfl, .inl ⟨rfl, _, SqL.of wai⟩, wt, _, .int (q : Int), rfl, rfl, wai, ?_, ?_⟩
      · rw [List.length_append, List.length_singleton, Nat.add_sub_cancel]
        simp
      rw [List.dropLast_concat]
      obtain ⟨H1', eH1⟩ : ∃ H1', H1' = upd Hh wt (.lst (iw ws)) := ⟨_, rfl⟩
      rw [← eH1]
      have Kb1 : KbAt D t H1' li bf wt is c vs B ws := by rw [eH1]; exact Kb.setW
      have SH1 : Same H H1' := by rw [eH1]; exact SH.upd fwt
      have wq := WI.wb q (by simp)
      refine ⟨_, rfl, _, rfl, li, _, rfl, .inl (SqL.of Kb1.lst), rfl, _, rfl, ?_⟩
      rw [List.length_map, ln, dec_len]
      by_cases hq : q = c.length
      · rw [decide_eq_true hq]
        refine iteT ?_
        refine ⟨2 * hts n B + ws.length, by rw [List.length_append, List.length_singleton]; omega, vs, B, ws, _, _, _, _, _, rfl, rfl, Kb1, WI.pop hq, ?_, SH1⟩
        rw [List.length_append, List.length_singleton] at m4
        omega
      rw [decide_eq_false hq]
      refine iteF ?_
      have hqc : q < c.length := by omega
      obtain ⟨i, hi⟩ : ∃ i, c[q]? = some i := ⟨_, List.getElem?_eq_getElem hqc⟩
      obtain ⟨a, hai⟩ : ∃ a, is[q]? = some a := ⟨_, List.getElem?_eq_getElem (by omega)⟩
      obtain ⟨l, hl⟩ := wq.2
      have him := List.mem_of_getElem? hi
      have lB := WI.len
      obtain ⟨v, hv, hE⟩ := Kb1.get (w := q) (by omega)
      rw [hl] at hE
      obtain ⟨kp, rfl, hkp⟩ := hE
      have lln : l.length = n := WI.wf q l hl
      have hI := pair_get Kb1.ins hai hi
      have nkp := Kb1.nv kp (List.mem_of_getElem? hv)
      refine ⟨_, rfl, _, rfl, li, _, _, _, rfl, rfl, SqL.of Kb1.lst, atI_nat (by rw [List.getElem?_map, hai]; rfl), ?_⟩
      refine ⟨fB, rfl, kB, _, rfl, _, rfl, _, rfl, bf, _, _, _, rfl, rfl, SqL.of Kb1.bef, atI_nat hv, rfl, a, kp, i, l, rfl, hI, hkp, him, lln, fun b H2' s2' hb2 eb2 => ?_⟩
      have Kb2 := Kb1.same s2'
      have nb : b ≠ bf ∧ b ≠ wt := by
        rcases hb2 with e | e
        · rw [e]
          exact nkp
        · exact ⟨(ne_of_none Kb1.bef e).symm, (ne_of_none Kb1.wai e).symm⟩
      have hI2 := pair_get Kb2.ins hai hi
      refine ⟨fW, rfl, kW, _, rfl, _, rfl, _, rfl, _, rfl, bf, _, _, _, rfl, rfl, SqL.of Kb2.bef, atI_nat hv, rfl, q, a, kp, i, l, rfl, hI2, hkp.same s2', him, lln, fun L H3' s3' hD3 eD3 => ?_⟩
      have Kb3 := Kb2.same s3'
      have nD : L ≠ bf ∧ L ≠ wt := ⟨(ne_of_none Kb2.bef hD3).symm, (ne_of_none Kb2.wai hD3).symm⟩
      have eb3 := eb2.same s3'
      have bln : (S.bh i l).length = n := by rw [S.bl]; exact lln
      refine ⟨L, rfl, ⟨_, SqL.of eD3⟩, for_list (K := K) (a := L) (xs := iw (S.ld q i l)) (fun r σ Hr => ∃ (vs' : List V) (B' : List (EE α)) (W' : List Nat) (v7 v8 : Option V), σ = [some (.ref li), some (.ref fs), some (.ref fB), some (.ref fW), some (.ref bf), some (.ref wt), some (.int (q : Int)), some (.ref a), some (.ref b), v7, v8] ∧
        KbAt D t Hr li bf wt is c vs' B' W' ∧ FInv S (fun _ => True) B ws (S.bh i l) ((S.ld q i l).take r) B' W' ∧ LA D Hr b (S.bh i l) ∧ Hr L = some (.lst (iw (S.ld q i l))) ∧ Same H Hr) ⟨vs, B, ws, _, _, rfl, Kb3, FInv.start WI, eb3, eD3, (SH1.trans s2').trans s3'⟩ (fun _ _ _ _ ⟨_, _, _, _, _, _, _, _, _, e, _⟩ => SqL.of e) ?_ ?_⟩
      · rintro r y σ Hr hy ⟨vs', B', W', v7, v8, rfl, Kr, F, ebr, eDr, SHr⟩
        obtain ⟨u, hu, rfl⟩ := iw_get hy
        have hum : u ∈ S.ld q i l := List.mem_of_getElem? hu
        have hub : u < B'.length := by
          have := S.ib q i l hi u hum
          have := F.len
          omega
        obtain ⟨ev, hev, hEv⟩ := Kr.get hub
        have FS := F.step WI hi hl (fun _ _ => trivial) hum
        rw [show (S.ld q i l).take r ++ [u] = (S.ld q i l).take (r + 1) by rw [List.take_add_one, hu]; rfl] at FS
        refine ⟨_, rfl, _, rfl, bf, _, _, _, rfl, rfl, SqL.of Kr.bef, atI_nat hev, _, rfl, ev, b, gt B' u, S.bh i l, rfl, hEv, ebr, fun l' e' => by rw [bln]; exact F.wf u l' e', by omega, fun z H5 s5 hz ez => ?_⟩
        have K5 := Kr.same s5
        have nz : z ≠ bf ∧ z ≠ wt := by
          rcases hz with e | e
          · rw [e]
            exact nb
          · exact ⟨(ne_of_none Kr.bef e).symm, (ne_of_none Kr.wai e).symm⟩
        have ez' : EnvG D H5 (.ref z) (some (agree (gt B' u) (S.bh i l))) := ⟨z, rfl, ez⟩
        have hEv5 : EnvG D H5 ev (gt B' u) := hEv.same s5
        refine ⟨_, rfl, _, rfl, _, rfl, bf, _, _, _, rfl, rfl, SqL.of K5.bef, atI_nat hev, _, _, ez'.dp, hEv5.dp, shapedE _, shapedE _, _, rfl, ?_⟩
        rw [ez'.eqv hEv5]
        unfold wayM at FS
        by_cases he : some (agree (gt B' u) (S.bh i l)) = gt B' u
        · rw [if_pos he] at FS
          rw [decide_eq_true he]
          refine iteF ?_
          exact ⟨vs', B', W', _, _, rfl, K5, FS, ebr.same s5, s5 _ _ eDr, SHr.trans s5⟩
        · rw [if_neg he] at FS
          rw [decide_eq_false he]
          refine iteT ?_
          have wl : W'.length ≤ 40000 := by
            have := F.meas
            rw [List.length_append, List.length_singleton] at m4
            omega
          refine ⟨_, rfl, _, rfl, _, rfl, bf, _, _, u, rfl, rfl, K5.bef, ?_, ?_⟩
          · unfold ixN
            have := K5.len
            rw [if_pos (by omega), if_pos (by omega)]
            simp
          have K6 := K5.setB (w := u) ez nz.1 nz.2
          refine ⟨_, rfl, .inl ⟨rfl, _, SqL.of K6.wai⟩, _, rfl, wt, _, _, rfl, rfl, K6.wai, (by rw [iw_len, sizeLine_eq]; omega), ?_⟩
          rw [← iw_snoc']
          refine ⟨_, _, _, _, _, rfl, K6.setW, FS, ?_, ?_, ((SHr.trans s5).upd hbf).upd fwt⟩
          · refine ((ebr.same s5).mono (NL.updL K5.bef) fun vs e => ?_).mono (NL.updL K6.wai) fun vs e => ?_
            · rw [upd_ne nb.1]
              exact e
            · rw [upd_ne nb.2]
              exact e
          · rw [upd_ne nD.2, upd_ne nD.1]
            exact s5 _ _ eDr
      · rintro σ Hr ⟨vs', B', W', v7, v8, rfl, Kr, F, ebr, eDr, SHr⟩
        rw [iw_len, List.take_length] at F
        have m5 := F.meas
        rw [List.length_append, List.length_singleton] at m4
        refine ⟨2 * hts n B' + W'.length, by rw [List.length_append, List.length_singleton]; omega, vs', B', W', _, _, _, _, _, rfl, rfl, Kr, F.done WI hi hl (fun j hj => hj), by omega, SHr⟩
end
end My

set_option Elab.async false
set_option linter.all false
set_option maxRecDepth 100000
set_option maxHeartbeats 1000000
namespace My
open PySem L2
inductive spBehind (t : Ad) (vs : List V) (H : Hp) (Q : VK) (e0 : XK) : Prop
  | mk (a kp : Addr) (i : Sz43.Ins) (pl : V) (l : KL) : vs = [.ref a, .ref kp] → InsAt t H a i pl → H kp = some (.lst (kV' l)) → ((∀ v ∈ Sz43.usesOf i, v < l.length)) → ((∀ d, Sz43.givesOf i = some d → d < l.length)) → AllP I64 l → (∀ b H', Same H H' → (b = kp ∨ H b = none) → H' b = some (.lst (kV' (Sz43.behind i l))) → Q (.ref b) H') → spBehind t vs H Q e0
inductive spKWays (t : Ad) (vs : List V) (H : Hp) (Q : VK) (e0 : XK) : Prop
  | mk (p : Nat) (a kp : Addr) (i : Sz43.Ins) (l : KL) : vs = [.int (p : Int), .ref a, .ref kp] → IA t H a i → H kp = some (.lst (kV' l)) → ((∀ v ∈ Sz43.usesOf i, v < l.length)) → (∀ D H', Same H H' → H D = none → H' D = some (.lst (iw (waysM p i l))) → Q (.ref D) H') → spKWays t vs H Q e0
/-- numbers that are known -/
def intKd (K : PySem.W.Frag) : Kd K Int where
  at_ := fun _ v z => v = .int z ∧ I64 z
  nl := fun h _ => h
  dat := fun z => .int z
  dp := fun {H v a} h => by
    rw [h.1]
    exact .int a
  ok := I64
  isok := fun h => h.2
  eqv := fun {a b} _ _ => by
    show (a == b) = decide (a = b)
    rw [Bool.eq_iff_iff]
    simp
  en1 := fun _ => rfl
  en2 := fun _ => rfl
  lay := fun _ => rfl
  dep := fun z => Nat.le_of_lt_succ (show PyData.depth (.int z) < 9 by unfold PyData.depth; omega)
theorem la_int {K : PySem.W.Frag} {H : Hp} {p : Addr} {l : KL} : LA (intKd K) H p l ↔ H p = some (.lst (kV' l)) ∧ AllP I64 l := by
  have fw : ∀ {l : KL} {vs : List V}, Paired (fun o v => OA (intKd K) H v o) l vs → vs = kV' l ∧ AllP I64 l := by
    intro l vs h
    induction h with
    | nil => exact ⟨rfl, fun z h => absurd h (by simp)⟩
    | @cons o v l vs r _ ih =>
      obtain ⟨h1, h2⟩ := ih
      cases o with
      | none =>
        have r : v = .non := r
        refine ⟨by rw [r, h1]; rfl, fun z hz => ?_⟩
        rcases List.mem_cons.mp hz with e | e
        · cases e
        · exact h2 z e
      | some x =>
        have r : v = .int x ∧ I64 x := r
        refine ⟨by rw [r.1, h1]; rfl, fun z hz => ?_⟩
        rcases List.mem_cons.mp hz with e | e
        · cases e
          exact r.2
        · exact h2 z e
  have bw : ∀ l : KL, AllP I64 l → Paired (fun o v => OA (intKd K) H v o) l (kV' l) := by
    intro l
    induction l with
    | nil => exact fun _ => .nil
    | cons o l ih =>
      intro h
      refine .cons ?_ (ih fun z hz => h z (List.mem_cons_of_mem _ hz))
      cases o with
      | none => rfl
      | some x => exact ⟨rfl, h x (by simp)⟩
  constructor
  · rintro ⟨vs, h1, h2⟩
    obtain ⟨e, h3⟩ := fw h2
    rw [e] at h1
    exact ⟨h1, h3⟩
  · rintro ⟨h1, h2⟩
    exact ⟨_, h1, bw l h2⟩
structure PO (p : Sz43.Program) : Prop where
  good : GoodC I64 p.vars.length p.code
  l256 : p.code.length ≤ 256
  l64 : p.vars.length ≤ 64
inductive spKnown (t : Ad) (K : PySem.W.Frag) (vs : List V) (H : Hp) (Q : VK) (e0 : XK) : Prop
  | mk (x : Addr) (p : Sz43.Program) : vs = [.ref x] → ProgAt t H x p → PO p → (∀ bf ws B H', H' bf = some (.lst ws) → Paired (fun v e => EnvG (intKd K) H' v e) ws B → B.length = p.code.length + 1 → (∀ j, gt B j = Sz43.knownAt (Sz43.known p.vars.length p.code) j) → (∀ j l, gt B j = some l → l.length = p.vars.length) → Same H H' → Q (.ref bf) H') → spKnown t K vs H Q e0
theorem rk64 : ∀ k x y, I64 x → I64 y → I64 (Sz43.reckon k x y) := fun k x y hx hy => reckon_in hx hy
section
variable {P : Program} {w : World} {K : PySem.W.Frag} {mg : Str → Option Value} {base : Heap} {t : Ad}
theorem sc_behind : FnScope ["instruction", "known", "behind"] ["instruction", "known"] (defScope s_known_behind) := sc_mk
theorem ok_behind (T : Txt K mg t) : FnOk P w K mg base CX0 5 t.f_known_behind t.d_known_behind ["instruction", "known"] (spBehind t) := by
  refine T.F_known_behind.ok sc_behind (fun vs H Q E h => ?_) (fun _ A _ s H vs Q E hr h => ?_)
  · obtain ⟨_, _, _, _, _, rfl, _⟩ := h
    rfl
  · obtain ⟨a, kp, i, pl, l, rfl, hI, hk, hus, hgv, hP, k⟩ := h
    have nd := sc_behind.nd
    refine ⟨_, pss_cons (ps_if (pt_cmp (pc_isN (pe_fld (pv 0) rfl))) (pss_one (ps_ret (pv 1))) pss_nil)
      (pss_cons (ps_set (i := 2) nd rfl (Or.inl rfl) (pe_callTy call_list_of rfl T.n_list rfl (pa_cons (pv 1) pa_nil)))
      (pss_cons (ps_asg (pe_call (ok_given T) hr rfl T.g_given_number T.F_given_number.kp (b_given_number T) .nil pass0 (pa_cons (pv 0) (pa_cons (pv 1) pa_nil))) (pg_sub (pv 2) (pe_fld (pv 0) rfl) set_list))
      (pss_one (ps_ret (pv 2))))), ?_⟩
    obtain ⟨dx, u, op, ha, hu, hop⟩ := id hI
    have cl := T.cl_Instruction
    rw [behind_eq] at k
    refine ⟨_, rfl, a, _, dx, _, _, rfl, ha, cl, T.na_Instruction_given, if_given, _, rfl, ?_⟩
    cases hg : Sz43.givesOf i with
    | none =>
      rw [hg] at k
      have eg : givV i = .non := by unfold givV; rw [hg]
      rw [eg]
      refine iteT ?_
      exact ⟨_, rfl, k kp H (Same.refl H) (.inl rfl) hk⟩
    | some d =>
      rw [hg] at k
      have eg : givV i = .int (d : Int) := by unfold givV; rw [hg]
      rw [eg]
      refine iteF ?_
      refine ⟨_, rfl, kp, _, rfl, .inl (SqL.of hk), fun b hb => ?_⟩
      have s1 := Same.new (o := .lst (kV' l)) hb
      have hI1 : InsAt t (upd H b (.lst (kV' l))) a i pl := hI.mono (fun _ _ e => s1 _ _ e) fun _ _ _ e => s1 _ _ e
      refine ⟨_, rfl, _, rfl, a, kp, i, pl, l, rfl, hI1, s1 _ _ hk, by rw [hg]; rfl, hus, hP, fun H2 s2 => ?_⟩
      refine ⟨_, rfl, _, rfl, a, _, dx, _, _, rfl, s2 _ _ (s1 _ _ ha), cl, T.na_Instruction_given, if_given, b, _, (d : Int), d, rfl, eg, s2 _ _ upd_same, ?_, ?_⟩
      · have := hgv d hg
        unfold ixN
        rw [kV_len, if_pos (by omega), if_pos (by omega)]
        simp
      · refine ⟨_, rfl, k b _ ?_ (.inr hb) ?_⟩
        · exact fun c o e => by
            rw [upd_ne (ne_of_none e hb)]
            exact s2 _ _ (s1 _ _ e)
        · rw [upd_same]
          show some (HO.lst ((kV' l).set d (ofOpt (givOf i l)))) = some (HO.lst (kV' (l.set d (givOf i l))))
          unfold kV'
          rw [List.map_set]
theorem sc_kways : FnScope ["place", "instruction", "known"] ["place", "instruction", "known"] (defScope s_known_ways) := sc_mk
theorem ok_kways (T : Txt K mg t) : FnOk P w K mg base CX0 2 t.f_known_ways t.d_known_ways ["place", "instruction", "known"] (spKWays t) := by
  refine T.F_known_ways.ok sc_kways (fun vs H Q E h => ?_) (fun _ A _ s H vs Q E hr h => ?_)
  · obtain ⟨_, _, _, _, _, rfl, _⟩ := h
    rfl
  · obtain ⟨p, a, kp, i, l, rfl, hI, hk, hus, k⟩ := h
    have nd := sc_kways.nd
    refine ⟨_, pss_cons (ps_if (PW.pt (pw_or (pt_cmpR op_ne (pe_fld (pv 1) rfl) pe_str (nomark _)) (pw_or1 (pt_cmp (pc_isN (pe_ix ix_list (pv 2) (pe_ix ix_tup (pe_fld (pv 1) rfl) pe_int (fun _ _ => rfl)) (fun _ _ => rfl))))))) (pss_one (ps_ret (pe_call (ok_ways T) hr rfl T.g_ways_from T.F_ways_from.kp (b_ways_from T) .nil pass0 (pa_cons (pv 0) (pa_cons (pv 1) pa_nil))))) pss_nil)
      (pss_one (ps_ret (pe_ifExp (pt_cmpR op_eq (pe_ix ix_list (pv 2) (pe_ix ix_tup (pe_fld (pv 1) rfl) pe_int (fun _ _ => rfl)) (fun _ _ => rfl)) pe_int (nomark _)) (pe_lst (pa_cons (pe_op op_add (pv 0) pe_int) pa_nil)) (pe_lst (pa_cons (pe_fld (pv 1) rfl) pa_nil))))), ?_⟩
    obtain ⟨dx, u, op, ha, hu, hop⟩ := id hI
    have cl := T.cl_Instruction
    have eadd : V.int ((p : Int) + 1) = V.int ((p + 1 : Nat) : Int) := by
      rw [Int.natCast_add]
      rfl
    refine ⟨_, rfl, a, _, dx, _, _, rfl, ha, cl, T.na_Instruction_kind, if_kind, rfl, _, rfl, ?_⟩
    cases i with
    | cond v u' =>
      refine iteF ?_
      have hv := hus v (by simp [Sz43.usesOf])
      have ew : waysM p (.cond v u') l = (match Sz43.knows l v with | none => [p + 1, u'] | some z => if z = 0 then [p + 1] else [u']) := rfl
      refine ⟨_, rfl, _, rfl, a, _, dx, _, _, rfl, ha, cl, T.na_Instruction_used, if_used, _, _, _, _, rfl, rfl, SqT.of hu, atI_nat (j := 0) rfl, kp, _, _, _, rfl, rfl, SqL.of hk, atI_nat (kV_get hv), _, rfl, ?_⟩
      cases hz : Sz43.knows l v with
      | none =>
        rw [hz] at ew
        rw [ew] at k
        refine iteT ?_
        exact ⟨_, rfl, _, rfl, p, a, _, rfl, hI, k⟩
      | some z =>
        rw [hz] at ew
        refine iteF ?_
        refine ⟨_, rfl, _, rfl, a, _, dx, _, _, rfl, ha, cl, T.na_Instruction_used, if_used, _, _, _, _, rfl, rfl, SqT.of hu, atI_nat (j := 0) rfl, kp, _, _, _, rfl, rfl, SqL.of hk, atI_nat (kV_get hv), ?_⟩
        rw [hz]
        refine ⟨rfl, _, rfl, ?_⟩
        by_cases h0 : z = 0
        · have ew : waysM p (.cond v u') l = [p + 1] := by rw [ew]; exact if_pos h0
          rw [ew] at k
          have e : decide (ofOpt (some z) = V.int 0) = true := by rw [h0]; rfl
          rw [e]
          refine iteT ?_
          refine ⟨_, rfl, _, _, rfl, rfl, (by show 1 ≤ sizeLine; decide), fun D hD => ?_⟩
          rw [eadd]
          exact k D _ (Same.new hD) hD upd_same
        · have ew : waysM p (.cond v u') l = [u'] := by rw [ew]; exact if_neg h0
          rw [ew] at k
          have e : decide (ofOpt (some z) = V.int 0) = false := decide_eq_false fun q => h0 (by injection q)
          rw [e]
          refine iteF ?_
          exact ⟨_, rfl, a, _, dx, _, _, rfl, ha, cl, T.na_Instruction_place, if_place, (by show 1 ≤ sizeLine; decide), fun D hD => k D _ (Same.new hD) hD upd_same⟩
    | _ =>
      refine iteT ?_
      refine iteT ?_
      exact ⟨_, rfl, _, rfl, p, a, _, rfl, hI, k⟩
theorem sc_known : FnScope ["program", "first", "name"] ["program"] (defScope s_known_before) := sc_mk
theorem ok_known (T : Txt K mg t) : FnOk P w K mg base CX0 7 t.f_known_before t.d_known_before ["program"] (spKnown t K) := by
  refine T.F_known_before.ok sc_known (fun vs H Q E h => ?_) (fun _ A _ s H vs Q E hr h => ?_)
  · obtain ⟨_, _, rfl, _⟩ := h
    rfl
  · obtain ⟨x, p, rfl, hX, O, k⟩ := h
    have nd := sc_known.nd
    have G := O.good
    have gv : ∀ i ∈ p.code, (∀ v ∈ Sz43.usesOf i, v < p.vars.length) ∧ ∀ d, Sz43.givesOf i = some d → d < p.vars.length := fun i hi => ⟨(G i hi).us, (G i hi).gv⟩
    have oB := ok_br (P := P) (w := w) (base := base) (intKd K) (knownSys p.vars.length G.bounds) T T.F_known_behind.kp T.F_known_ways.kp O.l256 O.l64
      (fun vs H Q h => by
        obtain ⟨a, kp, i, l, rfl, hI, hk, hi, hl, k⟩ := h
        obtain ⟨h1, h2⟩ := la_int.mp hk
        refine ⟨_, _, _, _, ok_behind T, Nat.le_refl 5, b_known_behind T, a, kp, i, _, l, rfl, hI, h1, fun v hv => by rw [hl]; exact (gv i hi).1 v hv, fun d hd => by rw [hl]; exact (gv i hi).2 d hd, h2, fun b H' s hb e => k b H' s hb (la_int.mpr ⟨e, behind_good rk64 (G i hi) h2⟩)⟩)
      (fun vs H Q h => by
        obtain ⟨q, a, kp, i, l, rfl, hI, hk, hi, hl, k⟩ := h
        obtain ⟨h1, h2⟩ := la_int.mp hk
        exact ⟨_, _, _, _, ok_kways T, by decide, b_known_ways T, q, a, kp, i, l, rfl, hI, h1, fun v hv => by rw [hl]; exact (gv i hi).1 v hv, k⟩)
    refine ⟨_, pss_cons (ps_setLc (i := 1) (own := [("name", 2)]) rfl nd rfl rfl rfl (pi_list (pe_fld (pv 0) rfl)) ?b1 (fun s H C cl fp => pg_name (i := 2) nd rfl (Or.inl rfl)) (fun s H C cl fp => pts_nil) (fun s H C cl fp => pe_int))
      (pss_one (ps_ret (pe_call oB hr rfl T.g_brought_along T.F_brought_along.kp (b_brought_along T) .nil pass0 (pa_cons (pe_fld (pv 0) rfl) (pa_cons (pv 1) (pa_cons (pe_glob (v := .ref t.f_known_behind) rfl T.g_known_behind rfl) (pa_cons (pe_glob (v := .ref t.f_known_ways) rfl T.g_known_ways rfl) pa_nil))))))), ?_⟩
    · show BlkOk ["program", "first", "name"] (defScope s_known_before) _ _
      exact ⟨rfl, by decide +kernel, by decide +kernel, by decide +kernel, by decide +kernel⟩
    · obtain ⟨dx, li, ns, hx, hli, qs, hns, hqs⟩ := hX
      have ln : qs.length = p.vars.length := Paired.length hqs
      have l64 := O.l64
      refine ⟨_, rfl, x, _, dx, _, _, rfl, hx, T.cl_Program, T.na_Program_names, pf_nms _ _, ns, rfl, ⟨_, SqL.of hns⟩, fun F hF => ?_⟩
      refine lc_flat (xs := qs.map V.ref) (fun _ => .int 0) hF (by rw [List.length_map, sizeLine_eq]; omega) (fun H2 s2 => yields_list (SqL.of (s2 _ _ hns))) (fun y => rfl) (fun i y H2 _ _ Q' k' => k' H2 (Same.refl _)) ?_
      intro H1 s1 hF1
      rw [map_c, List.length_map, ln] at hF1
      have lF : LA (intKd K) H1 F (knownSys p.vars.length G.bounds).fst := by
        refine la_int.mpr ⟨?_, fun z hz => ?_⟩
        · rw [hF1]
          show _ = some (HO.lst (List.map ofOpt (List.replicate _ (some 0))))
          rw [List.map_replicate]
          rfl
        · have := List.eq_of_mem_replicate hz
          cases this
          unfold I64
          omega
      refine ⟨_, rfl, x, _, dx, _, _, rfl, s1 _ _ hx, T.cl_Program, T.na_Program_instructions, pf_ins _ _, _, rfl, li, F, rfl, hli.same s1, lF, fun bf ws B H' hb hE hW s' => ?_⟩
      exact k bf ws B H' hb hE hW.len (fun j => hW.known G.bounds j) (fun j l e => hW.wf j l e) (s1.trans s')
end
end My

set_option Elab.async false
set_option linter.all false
set_option maxRecDepth 100000
set_option maxHeartbeats 1000000
namespace My
open PySem L2
def pairI (l : KL) (i : Nat) : List Int := match Sz43.knows l i with
  | some z => [1, z]
  | none => [0, 0]
def toldN (l : KL) (n : Nat) : List Int := (List.range n).flatMap fun (i : Nat) => pairI l i
theorem told_succ (l : KL) (n : Nat) : toldN l (n + 1) = toldN l n ++ pairI l n := by
  unfold toldN
  rw [List.range_succ, List.flatMap_append]
  simp
theorem pair_len (l : KL) (i : Nat) : (pairI l i).length = 2 := by
  unfold pairI
  cases Sz43.knows l i <;> rfl
theorem told_len (l : KL) : ∀ n, (toldN l n).length = 2 * n
  | 0 => rfl
  | n + 1 => by
    rw [told_succ, List.length_append, told_len l n, pair_len]
    omega
theorem pair_out {l : KL} {i : Nat} (h : l.length ≤ i) : pairI l i = [0, 0] := by
  unfold pairI Sz43.knows
  rw [List.getElem?_eq_none h]
  rfl
def iv (l : List Int) : List V := l.map V.int
inductive spTold (vs : List V) (H : Hp) (Q : VK) (e0 : XK) : Prop
  | mk (kp : Addr) (l : KL) : vs = [.ref kp] → H kp = some (.lst (kV' l)) → l.length ≤ 64 → (∀ D H', Same H H' → H D = none → H' D = some (.lst (iv (toldN l 64))) → Q (.ref D) H') → spTold vs H Q e0
inductive spBt (K : PySem.W.Frag) (vs : List V) (H : Hp) (Q : VK) (e0 : XK) : Prop
  | mk (z : Int) (a : Addr) (tx : List Nat) : vs = [.int z, .ref a] → TxA K H a (tx.map fun (c : Nat) => (c : Int)) → tx.length ≤ 65536 → (∀ q H', H' q = some (.lst (iv (PySz43.bt_known z (tx.map fun (c : Nat) => (c : Int))))) → Q (.ref q) H') → spBt K vs H Q e0
theorem good_64 {n : Nat} {c : Sz43.Code} (h : GoodC R64 n c) : GoodC I64 n c := fun i hi => by
  have O := h i hi
  refine ⟨O.us, O.gv, fun d z e => ?_, O.op, O.tg⟩
  unfold I64
  exact O.nm d z e
theorem nats_cast (tx : List Nat) : Sz43Neutral.nats (tx.map fun (c : Nat) => (c : Int)) = tx := by
  unfold Sz43Neutral.nats
  rw [List.map_map]
  exact (List.map_congr_left fun c _ => by simp).trans (List.map_id tx)
theorem sized_iff (n : Nat) (z : Int) : Sz43.sized n z = decide (0 ≤ z ∧ z ≤ (n : Int)) := by
  unfold Sz43.sized
  rw [Bool.decide_and]
theorem bt_eq (z : Int) (tx : List Nat) (h : tx.length ≤ 65536) : PySz43.bt_known z (tx.map fun (c : Nat) => (c : Int)) = match Sz43.parse tx with
    | .error k => [-100 - (k : Int)]
    | .ok p => if ¬ (0 ≤ z ∧ z ≤ (p.code.length : Int)) then [-4] else match Sz43.knownAt (Sz43.known p.vars.length p.code) z.toNat with
      | none => [-3]
      | some l => ((p.vars.length : Nat) : Int) :: toldN l 64 := by
  have e0 : PySz43.bt_known z (tx.map fun (c : Nat) => (c : Int)) = (Sz43.does (.known (Sz43Neutral.nats (tx.map fun (c : Nat) => (c : Int))) ((tx.map fun (c : Nat) => (c : Int)).length : Int) z)).value :: ((Sz43.does (.known (Sz43Neutral.nats (tx.map fun (c : Nat) => (c : Int))) ((tx.map fun (c : Nat) => (c : Int)).length : Int) z)).out ++ (Sz43.does (.known (Sz43Neutral.nats (tx.map fun (c : Nat) => (c : Int))) ((tx.map fun (c : Nat) => (c : Int)).length : Int) z)).done) := rfl
  rw [e0, nats_cast, List.length_map]
  have e1 : Sz43.sized Sz43.LONG (tx.length : Int) = true := by
    rw [sized_iff]
    exact decide_eq_true ⟨by omega, by unfold Sz43.LONG; omega⟩
  have e2 : Sz43.does (.known tx (tx.length : Int) z) = match Sz43.parse tx with
    | .error k => ⟨-100 - (k : Int), [], []⟩
    | .ok p => if Sz43.sized p.code.length z = false then ⟨-4, [], []⟩ else match Sz43.knownAt (Sz43.known p.vars.length p.code) z.toNat with
      | none => ⟨-3, [], []⟩
      | some l => ⟨(p.vars.length : Nat), (List.range Sz43.VARS).flatMap fun (i : Nat) => (match Sz43.knows l i with
        | some z => [1, z]
        | none => [0, 0]), []⟩ := by
    unfold Sz43.does
    dsimp only
    rw [if_neg (by rw [e1]; decide)]
    rfl
  rw [e2]
  cases Sz43.parse tx with
  | error k => rfl
  | ok p =>
    dsimp only
    rw [sized_iff]
    by_cases hz : 0 ≤ z ∧ z ≤ (p.code.length : Int)
    · rw [decide_eq_true hz, if_neg (by decide), if_neg (fun q => q hz)]
      cases Sz43.knownAt (Sz43.known p.vars.length p.code) z.toNat with
      | none => rfl
      | some l =>
        show _ :: (_ ++ []) = _
        rw [List.append_nil]
        rfl
    · rw [decide_eq_false hz, if_pos rfl, if_pos hz]
      rfl
section
variable {P : Program} {w : World} {K : PySem.W.Frag} {mg : Str → Option Value} {base : Heap} {t : Ad}
theorem sc_told : FnScope ["known", "told_numbers", "number", "missing"] ["known"] (defScope s_known_told) := sc_mk
theorem ok_told (T : Txt K mg t) : FnOk P w K mg base CX0 1 t.f_known_told t.d_known_told ["known"] spTold := by
  refine T.F_known_told.ok sc_told (fun vs H Q E h => ?_) (fun _ A _ s H vs Q E hr h => ?_)
  · obtain ⟨_, _, rfl, _⟩ := h
    rfl
  · obtain ⟨kp, l, rfl, hk, hl, k⟩ := h
    have nd := sc_told.nd
    refine ⟨_, pss_cons (ps_set (i := 1) nd rfl (Or.inl rfl) (pe_lst pa_nil))
      (pss_cons (ps_for PassesOwn.never rfl (pi_list (pv 0)) (pg_name (i := 2) nd rfl (Or.inl rfl)) (pss_one (ps_expr (pe_bm PySem.F.plainAttrs_list PySem.F.slot_list_extend PySem.F.type_list_extend mt_extend (pv 1) (pa_cons (pe_ifExp (pt_cmp (pc_isN (pv 2))) (pe_lst (pa_cons pe_int (pa_cons pe_int pa_nil))) (pe_lst (pa_cons pe_int (pa_cons (pv 2) pa_nil)))) pa_nil)))))
      (pss_cons (ps_for PassesOwn.never rfl (pi_range1 rfl T.n_range (pa_cons (pe_op op_sub (pe_cint T.c_MOST_VARIABLES rfl) (pe_callB call_len_seq rfl T.n_len PySem.boot_len (pa_cons (pv 0) pa_nil))) pa_nil)) (pg_name (i := 3) nd rfl (Or.inl rfl)) (pss_one (ps_expr (pe_bm PySem.F.plainAttrs_list PySem.F.slot_list_extend PySem.F.type_list_extend mt_extend (pv 1) (pa_cons (pe_lst (pa_cons pe_int (pa_cons pe_int pa_nil))) pa_nil)))))
      (pss_one (ps_ret (pv 1))))), ?_⟩
    refine ⟨Nat.zero_le _, fun D hD => ?_⟩
    have s0 := Same.new (o := .lst []) hD
    have nk : kp ≠ D := ne_of_none hk hD
    have grow : ∀ {Hh H' : Hp} {n : Nat} {b : Addr} {ys : List V}, Same H Hh → Hh D = some (.lst (iv (toldN l n))) → Hh b = none → ys = iv (pairI l n) → H' = upd (upd Hh b (.lst ys)) D (.lst (iv (toldN l n) ++ ys)) → Same H H' ∧ H' D = some (.lst (iv (toldN l (n + 1)))) := by
      intro Hh H' n b ys sm hd hb e1 e2
      subst e1 e2
      refine ⟨fun c o e => ?_, ?_⟩
      · rw [upd_ne (ne_of_none e hD), upd_ne (ne_of_none (sm _ _ e) hb)]
        exact sm _ _ e
      · rw [upd_same, told_succ]
        unfold iv
        rw [List.map_append]
    refine ⟨_, rfl, kp, rfl, ⟨_, SqL.of (s0 _ _ hk)⟩, for_list (K := K) (a := kp) (xs := kV' l) (fun i σ Hh => ∃ v, σ = [some (.ref kp), some (.ref D), v, none] ∧ Same H Hh ∧ Hh D = some (.lst (iv (toldN l i)))) ⟨none, rfl, s0, upd_same⟩ (fun i σ Hh _ ⟨_, _, sm, _⟩ => SqL.of (sm _ _ hk)) ?_ ?_⟩
    · rintro i y σ Hh hy ⟨v, rfl, sm, hd⟩
      have hi : i < l.length := by
        have := (List.getElem?_eq_some_iff.mp hy).1
        rw [kV_len] at this
        exact this
      rw [kV_get hi] at hy
      cases hy
      refine ⟨_, rfl, .inl ⟨rfl, _, SqL.of hd⟩, ?_⟩
      refine ⟨_, rfl, _, rfl, ?_⟩
      have il : (iv (toldN l i)).length ≤ 128 := by
        unfold iv
        rw [List.length_map, told_len]
        omega
      cases hz : Sz43.knows l i with
      | none =>
        have ep : pairI l i = [0, 0] := by unfold pairI; rw [hz]
        refine iteT ?_
        refine ⟨(by show 2 ≤ sizeLine; decide), fun b hb => ?_⟩
        have g := grow (ys := [.int 0, .int 0]) sm hd hb (by rw [ep]; rfl) rfl
        refine ⟨D, b, _, _, rfl, rfl, Same.new hb _ _ hd, upd_same, ?_, ⟨_, rfl, g⟩⟩
        rw [sizeLine_eq]
        show (iv (toldN l i)).length + 2 ≤ _
        omega
      | some z =>
        have ep : pairI l i = [1, z] := by unfold pairI; rw [hz]
        refine iteF ?_
        refine ⟨_, rfl, (by show 2 ≤ sizeLine; decide), fun b hb => ?_⟩
        have g := grow (ys := [.int 1, .int z]) sm hd hb (by rw [ep]; rfl) rfl
        refine ⟨D, b, _, _, rfl, rfl, Same.new hb _ _ hd, upd_same, ?_, ⟨_, rfl, g⟩⟩
        rw [sizeLine_eq]
        show (iv (toldN l i)).length + 2 ≤ _
        omega
    · rintro σ Hh ⟨v, rfl, sm, hd⟩
      rw [kV_len] at hd
      refine ⟨_, rfl, kp, _, rfl, .inl (SqL.of (sm _ _ hk)), _, _, rfl, rfl, ((64 - l.length : Nat) : Int), ?_, by omega, by omega, for_range (lo := 0) (n := 64 - l.length) (fun i σ Hh => ∃ v w', σ = [some (.ref kp), some (.ref D), v, w'] ∧ Same H Hh ∧ Hh D = some (.lst (iv (toldN l (l.length + i))))) ⟨_, _, rfl, sm, hd⟩ ?_ ?_⟩
      · show [V.int (64 - ((kV' l).length : Int))] = _
        rw [kV_len, Int.natCast_sub hl]
        rfl
      · rintro i σ Hh hi ⟨v, w', rfl, sm, hd⟩
        refine ⟨_, rfl, .inl ⟨rfl, _, SqL.of hd⟩, (by show 2 ≤ sizeLine; decide), fun b hb => ?_⟩
        have g := grow (ys := [.int 0, .int 0]) sm hd hb (by rw [pair_out (by omega)]; rfl) rfl
        refine ⟨D, b, _, _, rfl, rfl, Same.new hb _ _ hd, upd_same, ?_, ⟨_, _, rfl, g⟩⟩
        have il : (iv (toldN l (l.length + i))).length ≤ 128 := by
          unfold iv
          rw [List.length_map, told_len]
          omega
        rw [sizeLine_eq]
        show (iv (toldN l (l.length + i))).length + 2 ≤ _
        omega
      · rintro σ Hh ⟨v, w', rfl, sm, hd⟩
        rw [show l.length + (64 - l.length) = 64 by omega] at hd
        exact ⟨_, rfl, k D Hh sm hD hd⟩
theorem sc_bt : FnScope ["at", "text", "program", "wrong", "known"] ["at", "text"] (defScope s_bt_known) := sc_mk
theorem ok_bt (T : Txt K mg t) : FnOk P w K mg base CX0 10 t.f_bt_known t.d_bt_known ["at", "text"] (spBt K) := by
  refine T.F_bt_known.ok sc_bt (fun vs H Q E h => ?_) (fun _ A _ s H vs Q E hr h => ?_)
  · obtain ⟨_, _, _, rfl, _⟩ := h
    rfl
  · obtain ⟨z, a, tx, rfl, hT, hl, k⟩ := h
    have nd := sc_bt.nd
    have hr1 := hr.mono (show 1 ≤ 9 by decide)
    have hr6 := hr.mono (show 7 ≤ 9 by decide)
    refine ⟨_, pss_cons (ps_try (i := 3) (E := fun v _ _ => ∃ k : Nat, v = .int (k : Int) 0 ∧ Sz43.parse tx = .error k) T.xc rfl rfl nd rfl rfl rfl rfl T.gc_WrongLine
        (fun P => pss_one (ps_set (i := 2) nd rfl (Or.inl rfl) (pe_call (ok_read T) hr rfl T.g_read_program T.F_read_program.kp (b_read_program T) .nil (passE rfl rfl) (pa_cons (pv 1) pa_nil))))
        (fun P e => pss_one (ps_ret (pe_lst (pa_cons (pe_op op_sub (pe_cint T.c_WRONG_LINE rfl) (pe_xget T.xc (pv 3) rfl)) pa_nil)))))
      (pss_cons (ps_if (PW.pt (pw_or (pt_cmpR op_lt (pv 0) pe_int (nomark _)) (pw_or1 (pt_cmpR op_gt (pv 0) (pe_callB call_len_seq rfl T.n_len PySem.boot_len (pa_cons (pe_fld (pv 2) rfl) pa_nil)) (nomark _))))) (pss_one (ps_ret (pe_lst (pa_cons (pe_cint T.c_NO_SUCH_PLACE rfl) pa_nil)))) pss_nil)
      (pss_cons (ps_set (i := 4) nd rfl (Or.inl rfl) (pe_ix ix_list (pe_call (ok_known T) hr6 rfl T.g_known_before T.F_known_before.kp (b_known_before T) .nil pass0 (pa_cons (pv 2) pa_nil)) (pv 0) (fun _ _ => rfl)))
      (pss_cons (ps_if (pt_cmp (pc_isN (pv 4))) (pss_one (ps_ret (pe_lst (pa_cons (pe_cint T.c_NOT_COME_TO rfl) pa_nil)))) pss_nil)
      (pss_one (ps_ret (pe_op op_cat (pe_lst (pa_cons (pe_callB call_len_seq rfl T.n_len PySem.boot_len (pa_cons (pe_fld (pv 2) rfl) pa_nil)) pa_nil)) (pe_call (ok_told T) hr1 rfl T.g_known_told T.F_known_told.kp (b_known_told T) .nil pass0 (pa_cons (pv 4) pa_nil)))))))), ?_⟩
    have eB := bt_eq z tx hl
    refine ⟨⟨_, rfl, a, tx, rfl, hT, fun k' hk' H' => ⟨k', rfl, hk'⟩, fun p hp x H1 hX => ?_⟩, ?_⟩
    case refine_2 =>
      rintro n H' a' dx ⟨kk, e1, e2⟩ h1 h2 h3
      have e1 : n = (kk : Int) := by injection e1
      refine ⟨_, rfl, a', dx, n, rfl, upd_same, (by rw [upd_ne h3]; exact upd_same), _, _, rfl, rfl, (by show 1 ≤ sizeLine; decide), fun q hq => k q _ ?_⟩
      rw [upd_same, eB, e2, e1]
      rfl
    rw [hp] at eB
    obtain ⟨o1, oN, o3, o4⟩ := parse_ok hp
    have O : PO p := ⟨good_64 o1, o3, o4⟩
    obtain ⟨dx, li, ns, hx, ⟨is, hli, hins⟩, qs, hns, hwn⟩ := id hX
    have ln : is.length = p.code.length := Paired.length hins
    dsimp only at eB
    refine ⟨_, rfl, _, _, rfl, rfl, _, rfl, ?_⟩
    by_cases hz0 : z < 0
    · rw [decide_eq_true hz0]
      refine iteT ?_
      refine iteT ?_
      rw [if_pos (by omega)] at eB
      exact ⟨(by show 1 ≤ sizeLine; decide), fun q hq => k q _ (by rw [upd_same, eB]; rfl)⟩
    rw [decide_eq_false hz0]
    refine iteF ?_
    refine ⟨_, rfl, _, rfl, x, _, dx, _, _, rfl, hx, T.cl_Program, T.na_Program_instructions, pf_ins _ _, li, _, rfl, .inl (SqL.of hli), _, _, rfl, rfl, _, rfl, ?_⟩
    rw [List.length_map, ln]
    by_cases hz1 : (p.code.length : Int) < z
    · rw [decide_eq_true hz1]
      refine iteT ?_
      rw [if_pos (by omega)] at eB
      exact ⟨(by show 1 ≤ sizeLine; decide), fun q hq => k q _ (by rw [upd_same, eB]; rfl)⟩
    rw [decide_eq_false hz1]
    refine iteF ?_
    rw [if_neg (by omega)] at eB
    obtain ⟨m, rfl⟩ : ∃ m : Nat, z = (m : Int) := ⟨z.toNat, by omega⟩
    rw [Int.toNat_natCast] at eB
    refine ⟨_, rfl, x, p, rfl, hX, O, fun bf ws B H2 hb env lB kn wl sm => ?_⟩
    have hm : m < B.length := by omega
    have lws : ws.length = B.length := Paired.length env
    obtain ⟨v, hv⟩ : ∃ v, ws[m]? = some v := ⟨_, List.getElem?_eq_getElem (by omega)⟩
    have hE := pair_get env hv (gt_some hm)
    refine ⟨_, rfl, bf, _, _, v, rfl, rfl, SqL.of hb, atI_nat hv, ?_⟩
    refine ⟨_, rfl, _, rfl, ?_⟩
    rw [← kn] at eB
    cases hg : gt B m with
    | none =>
      rw [hg] at hE eB
      have hE : v = .non := hE
      rw [decide_eq_true hE]
      refine iteT ?_
      exact ⟨(by show 1 ≤ sizeLine; decide), fun q hq => k q _ (by rw [upd_same, eB]; rfl)⟩
    | some l =>
      rw [hg] at hE eB
      obtain ⟨kp, rfl, hk⟩ := hE
      have hk := (la_int.mp hk).1
      have ll := wl m l hg
      refine iteF ?_
      refine ⟨_, rfl, x, _, dx, _, _, rfl, sm _ _ hx, T.cl_Program, T.na_Program_names, pf_nms _ _, ns, _, rfl, .inl (SqL.of (sm _ _ hns)), (by show 1 ≤ sizeLine; decide), fun b hb2 => ?_⟩
      rw [List.length_map, Paired.length hwn]
      have s3 := Same.new (o := .lst [.int (p.vars.length : Int)]) hb2
      refine ⟨_, rfl, kp, l, rfl, s3 _ _ hk, by omega, fun D H4 s4 hD eD => ?_⟩
      refine ⟨b, D, _, _, rfl, rfl, s4 _ _ upd_same, eD, ?_, fun q hq => k q _ ?_⟩
      · unfold iv
        rw [List.length_map, told_len, sizeLine_eq]
        show 1 + _ ≤ _
        omega
      · rw [upd_same, eB]
        rfl
end
end My

set_option Elab.async false
set_option linter.all false
set_option maxRecDepth 100000
set_option maxHeartbeats 1000000
namespace My
open PySem PySem.Spec PyProof.Rows L2
/-- the call, at the heap behind the top -/
theorem spec_call {P : Program} {w : World} {K : PySem.W.Frag} {mg mb : Str → Option Value} {k : Nat} {fa a : Addr} {fd : FuncData} {ps : List Str} {sp : Sp} {s₁ : Shared} {vs : List Value} {ns out : List Int} {z : Int} {tk : Tok}
    (KX : K.In s₁.heap) (hns : s₁.heap.Ns mainGlobals mg) (hb : s₁.heap.Ns builtinsNs mb) (hbb : ∀ x : Str, x ≠ "__name__" → mb x = bootBuiltins x) (hlim : s₁.heap.NoLimit) (hg : s₁.gens = #[])
    (ha : s₁.heap.get? a = some { cls := .type "list", data := .seq vs.toArray }) (hi : IntsAre vs ns) (hl : ns.length ≤ 100000) (hr : Room k callerA)
    (F : ∀ base : Heap, K.In base → base.Ns mainGlobals mg → FnOk P w K mg base CX0 k fa fd ps sp) (hbind : ∀ s : Shared, K.In s.heap → BindsTo s fd ⟨[.int z tk, .ref a], []⟩ (ps.zip [.int z tk, .ref a]))
    (hsp : ∀ H : Hp, TxA K H a ns → sp [.int z, .ref a] H (fun v H' => ∃ q, v = .ref q ∧ H' q = some (.lst (out.map V.int))) fun _ _ _ => False) :
    codeAny (model P w) callerA (.call (.ref fa) ⟨[.int z tk, .ref a], []⟩) (fun r s' => (∃ (q : Addr) (its : List Value) (n : Nat), r = .ok (.ret (.ref q)) ∧ s'.heap.get? q = some { cls := .type "list", data := .seq its.toArray n } ∧ Vals (out.map V.int) its) ∧ OldK s₁.heap s'.heap ∧ s'.os = s₁.os ∧ AllBare s'.gens) s₁ := by
  have rv := vals_ints hi
  have lenV := hi.length
  have core : ∀ H : Hp, Only H → TxA K H a ns → HOk P w H s₁.heap → (∀ b, H b ≠ none → b = a) → (H a ≠ none → K.lookup a = none) →
      codeAny (model P w) callerA (.call (.ref fa) ⟨[.int z tk, .ref a], []⟩) (fun r s' => (∃ (q : Addr) (its : List Value) (n : Nat), r = .ok (.ret (.ref q)) ∧ s'.heap.get? q = some { cls := .type "list", data := .seq its.toArray n } ∧ Vals (out.map V.int) its) ∧ OldK s₁.heap s'.heap ∧ s'.os = s₁.os ∧ AllBare s'.gens) s₁ := by
    intro H hO hS hok hA hK
    have base_of : ∀ {b : Addr} {o : Obj}, s₁.heap.get? b = some o → H b = none → (hidT s₁.heap H).get? b = some o := fun e n => hidT_get e n
    have noA : ∀ {b : Addr} {o : Obj} {es : Array DictEntry} {ep : Nat}, s₁.heap.get? b = some o → o.data = .dict es ep → H b = none := fun {b o es ep} e d => by
      cases q : H b with
      | none => rfl
      | some u =>
        have e' : b = a := hA b (by rw [q]; simp)
        subst e'
        rw [ha] at e; cases e
        have d' : Data.seq vs.toArray _ = Data.dict es ep := d
        cases d'
    have nsK : ∀ {b : Addr} {m : Str → Option Value}, s₁.heap.Ns b m → (hidT s₁.heap H).Ns b m := fun {b m} ⟨o, es, ep, e, d, r⟩ => ⟨o, es, ep, base_of e (noA e d), d, r⟩
    have hKb : K.In (hidT s₁.heap H) := fun b o e => base_of (KX b o e) (by
      cases q : H b with
      | none => rfl
      | some u =>
        have e' : b = a := hA b (by rw [q]; simp)
        subst e'
        rw [hK (by rw [q]; simp)] at e; cases e)
    have hM : Mod K mg (hidT s₁.heap H) := ⟨hKb, nsK hns, ⟨mb, nsK hb, hbb⟩, let ⟨mc, h1, h2⟩ := hlim; ⟨mc, nsK h1, h2⟩⟩
    have e0 : Env0 P w K mg (hidT s₁.heap H) callerA [] s₁ H := ⟨rfl, hM, fun b o e => of_hidT e, Nat.le_of_eq (hidT_size _ _), trivial, fun b hb => absurd (show b ∈ ([] : List Addr) from hb) (by simp), hok, .of_eq hg⟩
    refine codeAny_mono ((F _ hKb (nsK hns)).run callerA [] s₁ H ⟨[.int z tk, .ref a], []⟩ [.int z tk, .ref a] [.int z, .ref a] _ _ hr e0 (hbind s₁ KX) (.cons ⟨tk, rfl⟩ (.cons rfl .nil)) (hsp H hS)) fun r s' h => ?_
    cases r with
    | error e => exact False.elim h
    | ok fl =>
      cases fl with
      | next => exact False.elim h
      | brk => exact False.elim h
      | cont => exact False.elim h
      | ret u =>
        obtain ⟨v, H', os, bare, un, hok', r', q, eq, hq⟩ := h
        subst eq
        obtain rfl : u = Value.ref q := r'
        obtain ⟨_, its, n, rv', hget⟩ := hok' q _ hq
        refine ⟨⟨q, its, n, rfl, hget, rv'⟩, OldK.of_keep fun b o e => ?_, os, bare⟩
        cases q : H b with
        | none => exact un.keep b o e q (by intro z; exact absurd (show b ∈ ([] : List Addr) from z) (by simp)) (by simp)
        | some u =>
          rcases hO b with z | ⟨ob, xs, z⟩
          · rw [q] at z; cases z
          · have z2 := un.frzs b ob _ z
            obtain ⟨e1, _⟩ := hok b _ z
            obtain ⟨e2, _⟩ := hok' b _ z2
            rw [e] at e1; cases e1
            exact e2
  cases hk : K.lookup a with
  | some o =>
    have e := KX a o hk
    rw [ha] at e
    cases e
    exact core (fun _ => none) (fun _ => .inl rfl) ⟨hl, .inr ⟨vs, hk, rv⟩⟩ (fun b u z => by have z' : (none : Option HO) = some u := z; cases z') (fun b z => absurd rfl z) fun z => absurd rfl z
  | none =>
    refine core (fun b => if b = a then some (.frz { cls := .type "list", data := .seq vs.toArray } (.lst (ns.map V.int))) else none) (fun b => ?_) ⟨hl, .inl (.inr ⟨{ cls := .type "list", data := .seq vs.toArray }, if_pos rfl⟩)⟩ (fun b u z => ?_) (fun b z => ?_) fun _ => hk
    · by_cases hb : b = a
      · exact .inr ⟨_, _, if_pos hb⟩
      · exact .inl (if_neg hb)
    · by_cases hb : b = a
      · have z' := (if_pos hb).symm.trans z
        cases z'
        subst hb
        exact ⟨ha, by rw [List.length_map, sizeLine_eq]; omega, vs, _, rv, ha⟩
      · have z' := (if_neg hb).symm.trans z
        cases z'
    · by_cases hb : b = a
      · exact hb
      · exact absurd (if_neg hb) z
theorem reads_ints {R : PySem.W.WRecords} {cl : Str → Option Addr} {h : Heap} : ∀ {out : List Int} {its : List Value}, Vals (out.map V.int) its → ∃ as, PySem.W.ReadsAllW R cl h its (out.map PySem.W.WData.int) as
  | [], _, .nil => ⟨_, .nil⟩
  | i :: r, _, .cons ⟨t, e⟩ q => by
    obtain ⟨as, h'⟩ := reads_ints (R := R) (cl := cl) (h := h) q
    subst e
    exact ⟨_, .cons (.int i t) h'⟩
end My

set_option Elab.async false
set_option linter.all false
set_option maxRecDepth 100000
set_option maxHeartbeats 1000000
namespace My
open PySem PySem.Spec PyProof.Rows L2
/-- the hash of a tuple of whole numbers -/
def hashT (ks : List Int) : Int := reduceHash (Builtin.Tuple.tupleHashOf (ks.map hashInt))
theorem hash_eq (P : Program) (w : World) (ks : List Int) : (tupleKind (mixKind P w)).hash (ks.map Sum.inl) = hashT ks := by
  unfold hashT
  show reduceHash (Builtin.Tuple.tupleHashOf ((ks.map Sum.inl).map (mixKind P w).hash)) = _
  rw [List.map_map]
  rfl
/-- a tuple of whole numbers of the module -/
def KeyIn (K : PySem.W.Frag) (a : Addr) (ks : List Int) : Prop := ∀ (P : Program) (w : World) (h : Heap), K.In h → (tupleKind (mixKind P w)).is h (ks.map Sum.inl) a
theorem ik_mk1 {K : PySem.W.Frag} {a : Addr} {o : Obj} {n : Nat} {k : Int} {t : Tok} (l : K.lookup a = some o) (d : o.cls = .type "tuple" ∧ o.data = .seq #[.int k t] n) : KeyIn K a [k] :=
  fun P w h X => ⟨o, _, n, X _ _ l, d.1, d.2, .cons (keyIs_int k t) .nil⟩
theorem ik_mk2 {K : PySem.W.Frag} {a : Addr} {o : Obj} {n : Nat} {k k' : Int} {t t' : Tok} (l : K.lookup a = some o) (d : o.cls = .type "tuple" ∧ o.data = .seq #[.int k t, .int k' t'] n) : KeyIn K a [k, k'] :=
  fun P w h X => ⟨o, _, n, X _ _ l, d.1, d.2, .cons (keyIs_int k t) (.cons (keyIs_int k' t') .nil)⟩
theorem tab_mk {P : Program} {w : World} {K : PySem.W.Frag} {t : Ad} {oO : Obj} {epO : Nat} {hs_plus : Int} {hs_minus : Int} {hs_times : Int} {hs_divided : Int} {hs_rest : Int} {hs_both_bits : Int} {hs_either_bits : Int} {hs_differing_bits : Int} {hs_shifted_up : Int} {hs_shifted_down : Int} {hs_is_less : Int} {hs_is_same : Int} (l_O : K.lookup t.a_OPERATORS = some oO) (d_O : oO.ExactDict ∧ oO.data = .dict #[⟨hs_plus, .ref t.k_plus, .ref t.f_plus⟩, ⟨hs_minus, .ref t.k_minus, .ref t.f_minus⟩, ⟨hs_times, .ref t.k_times, .ref t.f_times⟩, ⟨hs_divided, .ref t.k_divided, .ref t.f_divided⟩, ⟨hs_rest, .ref t.k_rest, .ref t.f_rest⟩, ⟨hs_both_bits, .ref t.k_both_bits, .ref t.f_both_bits⟩, ⟨hs_either_bits, .ref t.k_either_bits, .ref t.f_either_bits⟩, ⟨hs_differing_bits, .ref t.k_differing_bits, .ref t.f_differing_bits⟩, ⟨hs_shifted_up, .ref t.k_shifted_up, .ref t.f_shifted_up⟩, ⟨hs_shifted_down, .ref t.k_shifted_down, .ref t.f_shifted_down⟩, ⟨hs_is_less, .ref t.k_is_less, .ref t.f_is_less⟩, ⟨hs_is_same, .ref t.k_is_same, .ref t.f_is_same⟩] epO) (n_O : (t.a_OPERATORS == sysModules) = false)
    (hh_plus : hs_plus = hashT [43]) (ik_plus : KeyIn K t.k_plus [43]) (hh_minus : hs_minus = hashT [45]) (ik_minus : KeyIn K t.k_minus [45]) (hh_times : hs_times = hashT [42]) (ik_times : KeyIn K t.k_times [42]) (hh_divided : hs_divided = hashT [47]) (ik_divided : KeyIn K t.k_divided [47]) (hh_rest : hs_rest = hashT [37]) (ik_rest : KeyIn K t.k_rest [37]) (hh_both_bits : hs_both_bits = hashT [38]) (ik_both_bits : KeyIn K t.k_both_bits [38]) (hh_either_bits : hs_either_bits = hashT [124]) (ik_either_bits : KeyIn K t.k_either_bits [124]) (hh_differing_bits : hs_differing_bits = hashT [94]) (ik_differing_bits : KeyIn K t.k_differing_bits [94]) (hh_shifted_up : hs_shifted_up = hashT [60, 60]) (ik_shifted_up : KeyIn K t.k_shifted_up [60, 60]) (hh_shifted_down : hs_shifted_down = hashT [62, 62]) (ik_shifted_down : KeyIn K t.k_shifted_down [62, 62]) (hh_is_less : hs_is_less = hashT [60]) (ik_is_less : KeyIn K t.k_is_less [60]) (hh_is_same : hs_is_same = hashT [61, 61]) (ik_is_same : KeyIn K t.k_is_same [61, 61]) : KTab P w K t.a_OPERATORS (opsXs t) := by
  refine ⟨fun h X => ⟨oO, _, epO, X _ _ l_O, d_O.1, d_O.2, ?_, ?_, ?_⟩, n_O⟩
  · subst hh_plus hh_minus hh_times hh_divided hh_rest hh_both_bits hh_either_bits hh_differing_bits hh_shifted_up hh_shifted_down hh_is_less hh_is_same
    simp only [opsXs, List.map_cons, List.map_nil, entryOfKey]
    rw [show (tupleKind (mixKind P w)).hash [Sum.inl 43] = hashT [43] from hash_eq P w [43], show (tupleKind (mixKind P w)).hash [Sum.inl 45] = hashT [45] from hash_eq P w [45], show (tupleKind (mixKind P w)).hash [Sum.inl 42] = hashT [42] from hash_eq P w [42], show (tupleKind (mixKind P w)).hash [Sum.inl 47] = hashT [47] from hash_eq P w [47], show (tupleKind (mixKind P w)).hash [Sum.inl 37] = hashT [37] from hash_eq P w [37], show (tupleKind (mixKind P w)).hash [Sum.inl 38] = hashT [38] from hash_eq P w [38], show (tupleKind (mixKind P w)).hash [Sum.inl 124] = hashT [124] from hash_eq P w [124], show (tupleKind (mixKind P w)).hash [Sum.inl 94] = hashT [94] from hash_eq P w [94], show (tupleKind (mixKind P w)).hash [Sum.inl 60, Sum.inl 60] = hashT [60, 60] from hash_eq P w [60, 60], show (tupleKind (mixKind P w)).hash [Sum.inl 62, Sum.inl 62] = hashT [62, 62] from hash_eq P w [62, 62], show (tupleKind (mixKind P w)).hash [Sum.inl 60] = hashT [60] from hash_eq P w [60], show (tupleKind (mixKind P w)).hash [Sum.inl 61, Sum.inl 61] = hashT [61, 61] from hash_eq P w [61, 61]]
  · intro x hx
    unfold opsXs at hx
    simp only [List.mem_cons, List.not_mem_nil, or_false] at hx
    rcases hx with rfl | rfl | rfl | rfl | rfl | rfl | rfl | rfl | rfl | rfl | rfl | rfl
    · exact ik_plus P w h X
    · exact ik_minus P w h X
    · exact ik_times P w h X
    · exact ik_divided P w h X
    · exact ik_rest P w h X
    · exact ik_both_bits P w h X
    · exact ik_either_bits P w h X
    · exact ik_differing_bits P w h X
    · exact ik_shifted_up P w h X
    · exact ik_shifted_down P w h X
    · exact ik_is_less P w h X
    · exact ik_is_same P w h X
  · show ([[Sum.inl 43], [Sum.inl 45], [Sum.inl 42], [Sum.inl 47], [Sum.inl 37], [Sum.inl 38], [Sum.inl 124], [Sum.inl 94], [Sum.inl 60, Sum.inl 60], [Sum.inl 62, Sum.inl 62], [Sum.inl 60], [Sum.inl 61, Sum.inl 61]] : List (List Key)).Nodup
    decide
theorem xc_mk {K : PySem.W.Frag} {C N fI : Addr} {nm q : Str} {bs sub : List Value} {sn : List Str} {ab : Bool} {col : Option Bool} {dd : Option Addr} {k0 k1 k2 k3 k5 : Option Value} {oc : Value} {od : Option Addr} {es : Array DictEntry} {ep : Nat} {sl : Array (Option Value)}
    (c : K.lookup C = some (excClassObj nm q C N bs [.type "Exception", .type "BaseException", .type "object"] true sn sub ab col dd k0 k1 k2 k3 k5 "Exception.__new__")) (l : K.lookup N = some ⟨oc, od, .dict es ep, sl⟩)
    (al : (es.toList.all fun e => match e.key with | .str _ _ => true | _ => false) = true) (i : PySem.W.nsIn K N "__init__" = some (some (.ref fI))) (sa : PySem.W.nsIn K N "__setattr__" = some none) (ln : PySem.W.nsIn K N "line" = some none) (ga : PySem.W.nsIn K N "__getattribute__" = some none) (gt : PySem.W.nsIn K N "__getattr__" = some none)
    (fn : PySem.W.isFn K (.ref fI) = true) (kp : PySem.W.keepIn K (.ref C) = true) : XC K C N fI :=
  ⟨⟨_, _, _, _, _, _, _, _, _, _, _, _, _, c⟩, (by unfold PySem.W.nsOkIn; rw [l]; show (es.all fun e => match e.key with | .str _ _ => true | _ => false) = true; rw [← Array.all_toList]; exact al), i, sa, ln, ga, gt, fn, kp⟩
theorem sq3 {K : PySem.W.Frag} {a : Addr} {o : Obj} {n : Nat} {x y z : Int} {t u v : Tok} (l : K.lookup a = some o) (d : o.cls = .type "tuple" ∧ o.data = .seq #[.int x t, .int y u, .int z v] n) (H : Hp) : SqT K H a [.int x, .int y, .int z] :=
  .inr ⟨o, _, n, l, d.1, d.2, (by show 3 ≤ sizeLine; decide), .cons ⟨_, rfl⟩ (.cons ⟨_, rfl⟩ (.cons ⟨_, rfl⟩ .nil))⟩
theorem sq6 {K : PySem.W.Frag} {a : Addr} {o : Obj} {n : Nat} {x y z x' y' z' : Str} {t u v t' u' v' : Tok} (l : K.lookup a = some o) (d : o.cls = .type "tuple" ∧ o.data = .seq #[.str x t, .str y u, .str z v, .str x' t', .str y' u', .str z' v'] n) (H : Hp) : SqT K H a [.str x, .str y, .str z, .str x', .str y', .str z'] :=
  .inr ⟨o, _, n, l, d.1, d.2, (by show 6 ≤ sizeLine; decide), .cons ⟨_, rfl⟩ (.cons ⟨_, rfl⟩ (.cons ⟨_, rfl⟩ (.cons ⟨_, rfl⟩ (.cons ⟨_, rfl⟩ (.cons ⟨_, rfl⟩ .nil)))))⟩
theorem int_mk {K : PySem.W.Frag} {h : Heap} {mg : Str → Option Value} {x : Str} {n : Int} {tk : Tok} (X : K.In h) (G : h.Ns mainGlobals mg) (e : PySem.W.nsIn K mainGlobals x = some (some (.int n tk))) : ∃ tk, mg x = some (.int n tk) := ⟨tk, PySem.W.mg_of X G e⟩
theorem ini_mk {K : PySem.W.Frag} {f a : Addr} {st : Stmt} {x q : Str} {oc kV doc pm cdv ct : Value} {od an : Option Addr} {osl : Array (Option Value)} (l : K.lookup f = some ⟨oc, od, .func (PySem.W.fnOf x q (defArgs st) (defBody st) (defScope st) (.ref a) kV doc pm an cdv ct), osl⟩) (c : PySem.W.codeIn K cdv q = true) :
    ∃ (oc : Value) (od : Option Addr) (kV' doc' pm' : Value) (an' : Option Addr) (cdv' ct' : Value) (osl : Array (Option Value)), PySem.W.fnOf x q (defArgs st) (defBody st) (defScope st) (.ref a) kV doc pm an cdv ct = PySem.W.fnOf x q (defArgs st) (defBody st) (defScope st) (.ref a) kV' doc' pm' an' cdv' ct' ∧ K.lookup f = some ⟨oc, od, .func (PySem.W.fnOf x q (defArgs st) (defBody st) (defScope st) (.ref a) kV doc pm an cdv ct), osl⟩ ∧ PySem.W.codeIn K cdv' q = true :=
  ⟨_, _, _, _, _, _, _, _, _, rfl, l, c⟩
theorem dfl_mk {K : PySem.W.Frag} {a : Addr} {o : Obj} {n : Nat} {xs : Array Value} (l : K.lookup a = some o) (e : o.data = .seq xs n) : ∃ (o : Obj) (n : Nat), K.lookup a = some o ∧ o.data = .seq xs n := ⟨o, n, l, e⟩
end My

set_option Elab.async false
set_option linter.all false
set_option maxRecDepth 100000
set_option maxHeartbeats 1000000
namespace My
open PySem PySem.W PyProof.Rows L2
abbrev R0 := PySem.Challenge.rw_sameruns_s01_bt_known
theorem fin {w : World} {s₀ s₁ : Shared} {mg mb : Str → Option Value} {K : PySem.W.Frag} {t : Ad} {z : Int} {ns : List Int} {vals : List Value} (KX : K.In s₁.heap) (g : s₁.heap.Ns mainGlobals mg) (b : s₁.heap.Ns builtinsNs mb) (bb : ∀ x : Str, x ≠ "__name__" → mb x = bootBuiltins x) (nl : s₁.heap.NoLimit) (hg : s₁.gens = #[])
    (T : Txt K mg t) (said : R0.wellSaid = true) (hw : Codec.withinAll R0.args (z, ns, ()) = true) (hwl : WellAll w.params s₁.heap vals [WData.int z, WData.list (ns.map WData.int)]) :
    wpAny (model R0.prog w) callerA (call (Value.ref t.f_bt_known) vals)
      (fun v s' => GoodWG R0.claim (classAt s₀.heap) (ExcName.means s₀.heap) (Codec.encAll R0.args (z, ns, ())) s₁ (Except.ok (Flow.ret v)) s')
      (fun e s' => GoodWG R0.claim (classAt s₀.heap) (ExcName.means s₀.heap) (Codec.encAll R0.args (z, ns, ())) s₁ (Except.error e) s') s₁ := by
  cases hwl with
  | cons w1 w2 =>
    cases w2 with
    | cons w3 w4 =>
      cases w4
      cases w1 with
      | int _ tk =>
        cases w3 with
        | @list a vs _ ho hall =>
          have hi := Att.ints_of_wellAll ns _ hall
          have hw' : (Codec.inInt (Int.negSucc 2147483647) (Int.ofNat 2147483647) z && ((Codec.inLen 0 65536 ns && ns.all (Codec.inInt (Int.ofNat 0) (Int.ofNat 255))) && true)) = true := hw
          rw [Bool.and_true, Bool.and_eq_true, Bool.and_eq_true] at hw'
          obtain ⟨_, hlen, hall'⟩ := hw'
          have hl : ns.length ≤ 65536 := (Codec.inNat_iff.mp hlen).2
          have h0 : ∀ x ∈ ns, 0 ≤ x := fun x hx => (Codec.inInt_iff.mp (List.all_eq_true.mp hall' x hx)).1
          have en : (ns.map Int.toNat).map (fun (c : Nat) => (c : Int)) = ns := by
            rw [List.map_map]
            exact (List.map_congr_left fun c hc => by
              show ((c.toNat : Nat) : Int) = id c
              have := h0 c hc
              simp
              omega).trans (List.map_id ns)
          refine wpAny_call (codeAny_mono (spec_call (k := 10) (out := PySz43.bt_known z ns) KX g b bb nl hg ho hi (by omega) ⟨rfl, by decide, by decide⟩ (fun base _ _ => ok_bt T) (fun s kx => b_bt_known T s [.int z tk, .ref a] kx rfl) fun H hT => ⟨z, a, ns.map Int.toNat, rfl, by rw [en]; exact hT, by rw [List.length_map]; exact hl, fun q H' e => ⟨q, rfl, by rw [en] at e; exact e⟩⟩) fun r s' hq => ?_)
          obtain ⟨⟨q, its, n, rfl, hget, hv⟩, h2, h3, h4⟩ := hq
          obtain ⟨as', hr⟩ := reads_ints (R := []) (cl := classAt s₀.heap) (h := s'.heap) hv
          exact ⟨.inl ⟨.ref q, .list ((PySz43.bt_known z ns).map .int), q :: as', rfl, fun _ => rfl, .list hget rfl rfl (by rw [List.toList_toArray]; exact hr), (OpenSpec.post_iff said hw _ _).mpr rfl, fun h => by cases h⟩, h2, h3, h4⟩
end My

set_option Elab.async false
set_option linter.all false
open PySem PySem.W PyProof.Rows
structure PySem.W.Fast : Prop where (tw7842158017110167425 tw6783234400411873244 tw6048614080425543820 tw14378674433012254975 tw14576630726915986400 tw7828963688504862998 tw14813448733761197497 tw13811438155604786474 tw7444486460549670902 tw14321998142133166239 tw13173465299139594687 tw6212662660093966250 tw14672441281191661079 tw2383778091723504615 tw15178834590419040355 tw2697665848456869040 tw7687108749178120942 tw11062003890348865346 tw14508309445531345546 tw16207355618512313845 tw7745188022935868668 tw13720113741013331233 tw1533881974163941983 tw11650048295933762136 tw919033219928846282 tw488878601918541459 tw5721716824632112739 tw16448068586393420316 tw4327507815018246226 tw7388169953741988734 tw6852363157100968067 tw988904991240918820 tw18073308573239570302 tw8135006552597658226 tw18346096599643954705 tw6505777843340007558 tw18317238734219435553 tw2507386030292657478 tw13016299536049419800 tw390009531370196511 tw8879656529295395365 tw17352911338979483056 tw2098080562799675625 tw14445445788789168774 tw5427488291977132887 tw5368365933615181544 tw17024850732250163098 tw1269895199304594147 tw16345850194882922595 tw1062473016863729852 tw8120400492767089392 tw13758579956287913757 tw1650831404241889989 tw7055519602985363736 tw616985934773580296 tw12035377562745123632 tw17535839814103407007 tw12784018393057351219 tw17215070753153971964 tw13166645096117030887 tw17414969193923485148 tw8927958299459178641 tw16861204208803919494 tw6795982663410296390 tw1980881075868635730 tw16392699943898309097 tw11010700248898405069 tw8854815682557443383 tw2906294195230052037 tw15372524639043910273 tw10806645738654685274 tw4795583935346359939 tw17416379994239281568 tw3866481150492602302 tw9343342263526418878 tw9163341187837801273 tw2983987288100407406 tw9727161216918320761 tw16577725138202447524 : True)
set_option maxRecDepth 100000 in
set_option maxHeartbeats 0 in
theorem PySem.Challenge.cw_sameruns_s01_bt_known_holds : PySem.Challenge.rw_sameruns_s01_bt_known.Holds := by
  w_on; k_headS; (case hw => exact ⟨[.int 0, .list []], by decide +kernel, by decide +kernel⟩)
  k_fillS
  intro w s₀ s₁ mg mb G Y fa o pm cd doc dV kV ho hd hcd hD hmg hg args vals as hpre hlay hrd hwl hlo
  have KX := kIn_of Y
  have T : ∃ t, My.Txt (L2.KOf KX) mg t := by
    dsimp only [L2.KOf]
    refine' ⟨My.Ad.mk .., ?T⟩
    case T =>
    constructor
    case g_ways_from | g_agreed | g_brought_along | g_wrapped | g_plus | g_minus | g_times | g_divided | g_rest | g_both_bits | g_either_bits | g_differing_bits | g_shifted_up | g_shifted_down | g_is_less | g_is_same | g_is_operator | g_reckoned | g_given_number | g_known_behind | g_known_ways | g_known_before | g_spelled | g_lines_of | g_is_letter | g_is_digit | g_is_name_sign | g_is_name | g_number_of | g_read_program | g_bt_known | g_known_told | gc_Instruction | gc_Program | gc_WrongLine | gc_Reading | g_OPERATORS | g_BLANKS | g_NOT_NAMES =>
      refine' mg_of KX G.T.g ?q1
      case q1 => (try dsimp only); k_is
    case c_ALL_NUMBERS | c_NUMBERS_BELOW_ZERO | c_SHIFT_BITS | c_NEWLINE | c_DIGIT_ZERO | c_DIGIT_NINE | c_LETTER_A | c_LETTER_Z | c_UNDERSCORE | c_MINUS | c_LONGEST_NAME | c_MOST_DIGITS | c_MOST_INSTRUCTIONS | c_MOST_VARIABLES | c_WRONG_LINE | c_NO_SUCH_PLACE | c_NOT_COME_TO =>
      refine' My.int_mk KX G.T.g ?q1
      case q1 => k_is
    case n_list | n_tuple | n_all | n_range | n_len | n_abs | n_zip | n_ord =>
      refine' ns_none_of KX G.T.g ?q1
      case q1 => (try dsimp only); k_is
    case mk_Instruction | mk_Program | mk_Reading =>
      refine' ⟨?q1, ?q2, ?q3, ?q4⟩
      case q1 => (try dsimp only); k_is
      case q2 => (try dsimp only); k_is
      case q3 => (try dsimp only); k_is
      case q4 => (try dsimp only); k_is
    case cl_Instruction | cl_Program | cl_Reading =>
      refine' ⟨?q1, ?q2, ?q3, ?q4⟩
      case q1 => (try dsimp only); k_is
      case q2 => (try dsimp only); k_is
      case q3 => (try dsimp only); k_is
      case q4 => (try dsimp only); k_is
    case m_Reading_take_line | m_Reading_take_label | m_Reading_take_instruction | m_Reading_instruction_of | m_Reading_giving_of | m_Reading_variable_of | m_Reading_jump_to | m_Reading_find_places =>
      refine' ⟨?q1, ?q2, ?q3⟩
      case q1 => (try dsimp only); k_is
      case q2 => (try dsimp only); k_is
      case q3 => (try dsimp only); k_is
    case na_Instruction_kind | na_Instruction_used | na_Instruction_given | na_Instruction_number | na_Instruction_operator | na_Instruction_place | na_Program_instructions | na_Program_names | na_Reading_line | na_Reading_instructions | na_Reading_variables | na_Reading_labels | na_Reading_jumps =>
      dsimp only [L2.NoAttr]; k_is
    case xc =>
      refine' My.xc_mk ?q1 ?q2 ?q3 ?q4 ?q5 ?q6 ?q7 ?q8 ?q9 ?q10
      case q1 => (try dsimp only); k_is
      case q2 => (try dsimp only); k_is
      case q3 => rfl
      case q4 => (try dsimp only); k_is
      case q5 => (try dsimp only); k_is
      case q6 => (try dsimp only); k_is
      case q7 => (try dsimp only); k_is
      case q8 => (try dsimp only); k_is
      case q9 => (try dsimp only); k_is
      case q10 => (try dsimp only); k_is
    case F_ways_from | F_agreed | F_brought_along | F_wrapped | F_plus | F_minus | F_times | F_divided | F_rest | F_both_bits | F_either_bits | F_differing_bits | F_shifted_up | F_shifted_down | F_is_less | F_is_same | F_is_operator | F_reckoned | F_given_number | F_known_behind | F_known_ways | F_known_before | F_spelled | F_lines_of | F_is_letter | F_is_digit | F_is_name_sign | F_is_name | F_number_of | F_read_program | F_bt_known | F_known_told | F_Program___init__ | F_WrongLine___init__ | F_Reading___init__ | F_Reading_take_line | F_Reading_take_label | F_Reading_take_instruction | F_Reading_instruction_of | F_Reading_giving_of | F_Reading_variable_of | F_Reading_jump_to | F_Reading_find_places =>
      refine' L2.fun_mk ?q1 ?q2 ?q3
      case q1 => (try dsimp only); k_is
      case q2 => (try dsimp only); k_is
      case q3 => (try dsimp only); k_is
    case F_Instruction___init__ =>
      dsimp only
      refine' My.ini_mk ?q1 ?q2
      case q1 => (try dsimp only); k_is
      case q2 => (try dsimp only); k_is
    case dfl =>
      dsimp only
      refine' My.dfl_mk ?q1 ?q2
      case q1 => (try dsimp only); k_is
      case q2 => rfl
    case q_BLANKS =>
      refine' My.sq3 ?q1 ?q2
      case q1 => (try dsimp only); k_is
      case q2 => exact ⟨rfl, rfl⟩
    case q_NOT_NAMES =>
      refine' My.sq6 ?q1 ?q2
      case q1 => (try dsimp only); k_is
      case q2 => exact ⟨rfl, rfl⟩
    case tab =>
      intro P w; refine' My.tab_mk ?q1 ?q2 ?q3 ?p0 ?r0 ?p1 ?r1 ?p2 ?r2 ?p3 ?r3 ?p4 ?r4 ?p5 ?r5 ?p6 ?r6 ?p7 ?r7 ?p8 ?r8 ?p9 ?r9 ?p10 ?r10 ?p11 ?r11
      case q1 => (try dsimp only); k_is
      case q2 => exact ⟨⟨rfl, rfl, rfl⟩, rfl⟩
      case q3 | p0 | p1 | p2 | p3 | p4 | p5 | p6 | p7 | p8 | p9 | p10 | p11 => decide +kernel
      case r0 | r1 | r2 | r3 | r4 | r5 | r6 | r7 | r10 =>
        refine' My.ik_mk1 ?q1 ?q2
        case q1 => (try dsimp only); k_is
        case q2 => exact ⟨rfl, rfl⟩
      case r8 | r9 | r11 =>
        refine' My.ik_mk2 ?q1 ?q2
        case q1 => (try dsimp only); k_is
        case q2 => exact ⟨rfl, rfl⟩
    case kops =>
      refine' ⟨?q1, ?q2, ?q3, ?q4, ?q5, ?q6, ?q7, ?q8, ?q9, ?q10, ?q11, ?q12⟩
      case q1 => (try dsimp only); k_is
      case q2 => (try dsimp only); k_is
      case q3 => (try dsimp only); k_is
      case q4 => (try dsimp only); k_is
      case q5 => (try dsimp only); k_is
      case q6 => (try dsimp only); k_is
      case q7 => (try dsimp only); k_is
      case q8 => (try dsimp only); k_is
      case q9 => (try dsimp only); k_is
      case q10 => (try dsimp only); k_is
      case q11 => (try dsimp only); k_is
      case q12 => (try dsimp only); k_is
  obtain ⟨t, T⟩ := T
  have efa : fa = t.f_bt_known := by
    have e := hmg.symm.trans T.g_bt_known
    injection e with e
    injection e
  subst efa
  have said : PySem.Challenge.rw_sameruns_s01_bt_known.wellSaid = true := by decide +kernel
  obtain ⟨⟨z, ns, u⟩, hw, has, rfl⟩ := (OpenSpec.pre_iff said args).mp hpre
  cases u
  exact My.fin KX G.T.g G.T.b G.T.builtins G.T.nolimit hg T said hw hwl
