import PyProof.Rows.All
import Wide.All
import OpenK.AllK
import Wide.FinOn
import PyProof.EqAt
import PyProof.EqKinds
import PyProof.TupleCall
import KE.BitLaws
import Open.SpecLaws
import KE.OsHead
import KE.OsGo
import KE.SpHead
import KE.OsShapes
import KE.KSortTupG
import KE.KSortKeyAny
import KE.KDictList
import PyProof.Rows.SetFrom
import PyProof.MinMaxWalk
import PySem.Challenge.RW_cleaningtanks_s01_answers
set_option Elab.async false
set_option linter.all false
set_option maxRecDepth 100000
namespace L2
open PySem PySem.Spec PyProof.Rows

/-- a key: an int or a str -/
abbrev Key := Sum Int Str
def keyIs : Key → Value → Bool
  | .inl k, v => Value.isInt k v
  | .inr x, v => Value.isStrOf x v
def keyH (w : World) : Key → Int
  | .inl k => hashInt k
  | .inr x => hashStr w x
theorem keyIs_shape : ∀ {k : Key} {v : Value}, keyIs k v = true → (∃ i t, k = Sum.inl i ∧ v = Value.int i t) ∨ (∃ x t, k = Sum.inr x ∧ v = Value.str x t)
  | .inl i, v, h => by
    obtain ⟨t, e⟩ := Value.isInt_shape (k := i) (v := v) h
    exact .inl ⟨i, t, rfl, e⟩
  | .inr x, v, h => by
    obtain ⟨t, e⟩ := Value.isStrOf_shape (x := x) (v := v) h
    exact .inr ⟨x, t, rfl, e⟩
theorem keyIs_int (i : Int) (t : Tok) : keyIs (.inl i) (.int i t) = true := by simp [keyIs, Value.isInt]
theorem keyIs_str (x : Str) (t : Tok) : keyIs (.inr x) (.str x t) = true := by simp [keyIs, Value.isStrOf]
theorem key_ll (a b : Int) : decide ((Sum.inl a : Key) = Sum.inl b) = (a == b) := by
  by_cases e : a = b
  · subst e; simp
  · have h : ¬ (Sum.inl a : Key) = Sum.inl b := fun q => e (Sum.inl.inj q)
    rw [decide_eq_false h]
    exact (beq_eq_false_iff_ne.mpr e).symm
theorem key_rr (a b : Str) : decide ((Sum.inr a : Key) = Sum.inr b) = decide (a = b) := by
  by_cases e : a = b
  · subst e; simp
  · have h : ¬ (Sum.inr a : Key) = Sum.inr b := fun q => e (Sum.inr.inj q)
    rw [decide_eq_false h, decide_eq_false e]
theorem key_lr (a : Int) (b : Str) : decide ((Sum.inl a : Key) = Sum.inr b) = false := decide_eq_false (fun q => nomatch q)
theorem key_rl (a : Str) (b : Int) : decide ((Sum.inr a : Key) = Sum.inl b) = false := decide_eq_false (fun q => nomatch q)

def mixKind (prog : Program) (w : World) : PySem.KeyKind prog w Key where
  is := keyIs
  hash := keyH w
  inj := fun v a b ha hb => by
    rcases keyIs_shape ha with ⟨i, t, rfl, rfl⟩ | ⟨x, t, rfl, rfl⟩
    · rcases keyIs_shape hb with ⟨j, u, rfl, e⟩ | ⟨y, u, rfl, e⟩
      · injection e with e1 _; rw [e1]
      · exact nomatch e
    · rcases keyIs_shape hb with ⟨j, u, rfl, e⟩ | ⟨y, u, rfl, e⟩
      · exact nomatch e
      · injection e with e1 _; rw [e1]
  byValue := fun k v h => by
    rcases keyIs_shape h with ⟨i, t, rfl, rfl⟩ | ⟨x, t, rfl, rfl⟩ <;> rfl
  pyHash := fun hv h => by
    rcases keyIs_shape hv with ⟨i, t, rfl, rfl⟩ | ⟨x, t, rfl, rfl⟩
    · exact wpAny_pyHash_int h
    · exact wpAny_pyHash_str h
  eqBool := fun hu hv h => by
    rcases keyIs_shape hu with ⟨i, t, rfl, rfl⟩ | ⟨x, t, rfl, rfl⟩
    · rcases keyIs_shape hv with ⟨j, u, rfl, rfl⟩ | ⟨y, u, rfl, rfl⟩
      · rw [key_ll] at h; exact wpAny_eqBool_int h
      · rw [key_lr] at h; exact SeqAt.EqAt.int_str i t y u _ _ _ _ h
    · rcases keyIs_shape hv with ⟨j, u, rfl, rfl⟩ | ⟨y, u, rfl, rfl⟩
      · rw [key_rl] at h; exact SeqAt.EqAt.str_int x t j u _ _ _ _ h
      · rw [key_rr] at h; exact wpAny_eqBool_str h
  «strs» := fun k x t v h => by
    rcases keyIs_shape h with ⟨i, u, rfl, e⟩ | ⟨y, u, rfl, e⟩
    · exact nomatch e
    · injection e with e1 _
      subst e1
      cases v <;> rfl

theorem mixKind_int (prog : Program) (w : World) (i : Int) (t : Tok) : (mixKind prog w).is (.inl i) (.int i t) = true := keyIs_int i t
theorem mixKind_str (prog : Program) (w : World) (x : Str) (t : Tok) : (mixKind prog w).is (.inr x) (.str x t) = true := keyIs_str x t
end L2

namespace L2
open PySem PySem.Spec PyProof.Rows

/-- a value, without the heap -/
inductive V where
  | non | bl (b : Bool) | int (i : Int) | str (x : Str) | byt (b : Array UInt8) | flt (b : UInt64) | ref (a : Addr) | ty (n : String)
  deriving DecidableEq

def RelV : V → Value → Prop
  | .non, u => u = Value.none
  | .bl b, u => u = Value.bool b
  | .int i, u => ∃ t, u = Value.int i t
  | .str x, u => ∃ t, u = Value.str x t
  | .byt b, u => ∃ t, u = Value.bytes b t
  | .flt b, u => ∃ t, u = Value.float b t
  | .ref a, u => u = Value.ref a
  | .ty n, u => u = Value.type n

abbrev Vals : List V → List Value → Prop := Paired RelV
theorem Vals.length {xs : List V} {us : List Value} (r : Vals xs us) : xs.length = us.length := Paired.length r
theorem Vals.get : ∀ {xs : List V} {us : List Value} {i : Nat} {x : V}, Vals xs us → xs[i]? = some x → ∃ u, us[i]? = some u ∧ RelV x u
  | _, _, _, _, .nil, e => by simp at e
  | _, _, 0, _, .cons r _, e => by simp at e; subst e; exact ⟨_, rfl, r⟩
  | _, _, i + 1, x, .cons _ t, e => by
    obtain ⟨u, h1, h2⟩ := Vals.get (i := i) (x := x) t (by simpa using e)
    exact ⟨u, by simpa using h1, h2⟩
theorem Vals.append : ∀ {xs ys : List V} {us ws : List Value}, Vals xs us → Vals ys ws → Vals (xs ++ ys) (us ++ ws)
  | _, _, _, _, .nil, s => s
  | _, _, _, _, .cons r t, s => .cons r (Vals.append t s)
theorem Vals.take : ∀ {xs : List V} {us : List Value} (n : Nat), Vals xs us → Vals (xs.take n) (us.take n)
  | _, _, 0, _ => .nil
  | _, _, _ + 1, .nil => .nil
  | _, _, n + 1, .cons r t => .cons r (Vals.take n t)
theorem Vals.drop : ∀ {xs : List V} {us : List Value} (n : Nat), Vals xs us → Vals (xs.drop n) (us.drop n)
  | _, _, 0, r => r
  | _, _, _ + 1, .nil => .nil
  | _, _, n + 1, .cons _ t => Vals.drop n t
def RelO : Option V → Option Value → Prop
  | some v, some u => RelV v u
  | none, none => True
  | _, _ => False
def KV {κ : Type} : List (κ × V) → List (κ × Value) → Prop := Paired fun (p : κ × V) (q : κ × Value) => p.1 = q.1 ∧ RelV p.2 q.2

/-- a key of a dict (00_mix): an int or a text -/
def kV : Key → V
  | .inl i => .int i
  | .inr x => .str x

/-- what stands at a tracked address -/
inductive HO where
  /-- a list -/
  | lst (xs : List V)
  /-- a tuple (never changes) -/
  | tup (xs : List V)
  /-- a dict whose keys are ints and texts; one whose keys are tuples of ints and texts (the empty one is both) -/
  | dK (kvs : List (Key × V)) | dT (kvs : List (List Key × V))
  /-- a set of ints: its members, its size -/
  | set (S : Int → Bool) (n : Nat)
  /-- an instance of the class at C, its dict at dx, its attributes -/
  | ins (C dx : Addr) (fs : List (Str × V))
  /-- the dict of the instance at x -/
  | own (x : Addr)
  /-- the dict of an exception -/
  | xd (fs : List (Str × V))
  /-- a bound method, f of x -/
  | met (f x : Addr)
  /-- a range object lo, lo + 1, .. below hi -/
  | rng (lo hi : Int)
  /-- a thing that is known to the object (the script; a dict while a loop walks it): read, never written while it is so -/
  | frz (o : Obj) (u : HO)
  /-- a code object's table -/
  | tbl (ps : Array Value)
  /-- any other thing, by what is true of its one object (a def of one's own: SetO a S n := HO.ext fun h => ..) -/
  | ext (φ : Heap → Prop)

abbrev Hp := Addr → Option HO
def upd (H : Hp) (a : Addr) (o : HO) : Hp := fun b => if b = a then some o else H b
theorem upd_same {H : Hp} {a : Addr} {o : HO} : upd H a o a = some o := by unfold upd; rw [if_pos rfl]
theorem upd_ne {H : Hp} {a b : Addr} {o : HO} (h : b ≠ a) : upd H a o b = H b := by unfold upd; rw [if_neg h]
/-- two objects of different content stand apart -/
theorem ne_of {H : Hp} {a b : Addr} {o u : HO} (h : H a = some o) (h' : H b = some u) (d : o ≠ u) : a ≠ b := by
  intro e; subst e; rw [h] at h'; exact d (Option.some.inj h')
theorem ne_of_none {H : Hp} {a b : Addr} {o : HO} (h : H a = some o) (h' : H b = none) : a ≠ b := by
  intro e; subst e; rw [h] at h'; cases h'

section
variable (P : Program) (w : World)
def ObjOk (H : Hp) (h : Heap) (a : Addr) : HO → Prop
  | .lst xs => xs.length ≤ sizeLine ∧ ∃ (its : List Value) (n : Nat), Vals xs its ∧ h.get? a = some { cls := .type "list", data := .seq its.toArray n }
  | .tup xs => xs.length ≤ sizeLine ∧ ∃ its : List Value, Vals xs its ∧ IsTup h a its.toArray
  | .dK kvs => kvs.length ≤ sizeLine ∧ (a == sysModules) = false ∧ ∃ vs, KV kvs vs ∧ h.DictOf (mixKind P w) a vs
  | .dT kvs => kvs.length ≤ sizeLine ∧ (a == sysModules) = false ∧ ∃ xs : List (List Key × Addr × Value),
      Paired (fun (p : List Key × V) (q : List Key × Addr × Value) => p.1 = q.1 ∧ H q.2.1 = some (.tup (p.1.map kV)) ∧ RelV p.2 q.2.2) kvs xs ∧
      ∃ o es ep, h.get? a = some o ∧ o.ExactDict ∧ o.data = .dict es ep ∧ es.toList = xs.map (entryOfKey (tupleKind (mixKind P w))) ∧ (xs.map (·.1)).Nodup
  | .set S n => h.SetOf (intKind P w) a S n
  | .ins C dx fs => H dx = some (.own a) ∧ fs.length ≤ 1000 ∧ dx ≠ a ∧ h.get? a = some (PySem.W.instObj C dx) ∧
      ∃ mA, h.Ns1 dx mA ∧ (∀ f, RelO (fs.lookup f) (mA f)) ∧ PySem.Within mA (fs.map (·.1))
  | .own _ => ∃ o, h.get? a = some o
  | .xd fs => ∃ mA, h.Ns1 a mA ∧ ∀ f, RelO (fs.lookup f) (mA f)
  | .rng lo hi => ∃ t u v, h.get? a = some { cls := .type "range", data := .fields #[.int lo t, .int hi u, .int 1 v] }
  | .frz o u => h.get? a = some o ∧ ObjOk H h a u
  | .tbl ps => h.get? a = some { cls := .none, data := .fields ps }
  | .met f x => h.get? a = some (PySem.W.methodObj (.ref f) (.ref x))
  | .ext φ => φ h ∧ (∃ o, h.get? a = some o) ∧ ∀ h1 h2 : Heap, φ h1 → (∀ o, h1.get? a = some o → h2.get? a = some o) → φ h2
/-- the abstract heap is held -/
def HOk (H : Hp) (h : Heap) : Prop := ∀ a o, H a = some o → ObjOk P w H h a o
end

section
variable {P : Program} {w : World} {H H' : Hp} {h h' : Heap} {a : Addr} {o : HO}
theorem ObjOk.lt (x : ObjOk P w H h a o) : a < h.objs.size := by
  cases o with
  | lst xs => obtain ⟨_, _, _, _, e⟩ := x; exact Heap.lt_size e
  | tup xs => obtain ⟨_, _, _, p⟩ := x; exact p.lt
  | dK kvs => obtain ⟨_, _, _, _, o, _, _, e, _⟩ := x; exact Heap.lt_size e
  | dT kvs => obtain ⟨_, _, _, _, o, _, _, e, _⟩ := x; exact Heap.lt_size e
  | set S n => obtain ⟨o, _, _, _, e, _⟩ := x; exact Heap.lt_size e
  | ins C dx fs => obtain ⟨_, _, _, e, _⟩ := x; exact Heap.lt_size e
  | own y => obtain ⟨_, e⟩ := x; exact Heap.lt_size e
  | xd fs => obtain ⟨_, ⟨_, _, _, e, _⟩, _⟩ := x; exact Heap.lt_size e
  | rng lo hi => obtain ⟨_, _, _, e⟩ := x; exact Heap.lt_size e
  | frz ob u => obtain ⟨e, _⟩ := x; exact Heap.lt_size e
  | tbl ps => exact Heap.lt_size (show h.get? a = some _ from x)
  | met f y => exact Heap.lt_size (show h.get? a = some _ from x)
  | ext φ => obtain ⟨_, ⟨_, e⟩, _⟩ := x; exact Heap.lt_size e
theorem Paired.mapP {α β : Type} {F G : α → β → Prop} : ∀ {l₁ : List α} {l₂ : List β}, Paired F l₁ l₂ → (∀ a b, F a b → G a b) → Paired G l₁ l₂
  | _, _, .nil, _ => .nil
  | _, _, .cons r t, f => .cons (f _ _ r) (Paired.mapP t f)
/-- what an object's description leans on: its own object, its own dict, the tuples -/
theorem ObjOk.stay (x : ObjOk P w H h a o) (k : ∀ b u, (b = a ∨ H b = some (.own a)) → h.get? b = some u → h'.get? b = some u)
    (ho : ∀ b, H b = some (.own a) → H' b = some (.own a)) (ht : ∀ b xs, H b = some (.tup xs) → H' b = some (.tup xs)) : ObjOk P w H' h' a o := by
  induction o with
  | lst xs => obtain ⟨z, its, n, r, e⟩ := x; exact ⟨z, its, n, r, k _ _ (.inl rfl) e⟩
  | tup xs => obtain ⟨z, its, r, ob, e, c⟩ := x; exact ⟨z, its, r, ob, k _ _ (.inl rfl) e, c⟩
  | dK kvs => obtain ⟨z, y, vs, r, ob, es, ep, e, c⟩ := x; exact ⟨z, y, vs, r, ob, es, ep, k _ _ (.inl rfl) e, c⟩
  | dT kvs =>
    obtain ⟨z, y, xs, r, ob, es, ep, e, c⟩ := x
    exact ⟨z, y, xs, Paired.mapP r fun p q z => ⟨z.1, ht _ _ z.2.1, z.2.2⟩, ob, es, ep, k _ _ (.inl rfl) e, c⟩
  | set S n => obtain ⟨ob, es, ep, t, e, c⟩ := x; exact ⟨ob, es, ep, t, k _ _ (.inl rfl) e, c⟩
  | ins C dx fs =>
    obtain ⟨d, z, ne, e, mA, ⟨od, es, ep, e2, c⟩, r⟩ := x
    exact ⟨ho _ d, z, ne, k _ _ (.inl rfl) e, mA, ⟨od, es, ep, k _ _ (.inr d) e2, c⟩, r⟩
  | own y => obtain ⟨ob, e⟩ := x; exact ⟨ob, k _ _ (.inl rfl) e⟩
  | xd fs => obtain ⟨mA, ⟨od, es, ep, e, c⟩, r⟩ := x; exact ⟨mA, ⟨od, es, ep, k _ _ (.inl rfl) e, c⟩, r⟩
  | rng lo hi => obtain ⟨t, u, v, e⟩ := x; exact ⟨t, u, v, k _ _ (.inl rfl) e⟩
  | frz ob u ih => obtain ⟨e, q⟩ := x; exact ⟨k _ _ (.inl rfl) e, ih q⟩
  | tbl ps =>
    have e : h.get? a = some { cls := .none, data := .fields ps } := x
    show h'.get? a = some { cls := .none, data := .fields ps }
    exact k a _ (.inl rfl) e
  | met f y =>
    have e : h.get? a = some (PySem.W.methodObj (.ref f) (.ref y)) := x
    show h'.get? a = some (PySem.W.methodObj (.ref f) (.ref y))
    exact k a _ (.inl rfl) e
  | ext φ => obtain ⟨p, ⟨o, e⟩, st⟩ := x; exact ⟨st _ _ p fun o q => k _ _ (.inl rfl) q, ⟨o, k _ _ (.inl rfl) e⟩, st⟩
theorem HOk.lt (x : HOk P w H h) (e : H a = some o) : a < h.objs.size := (x a o e).lt
theorem HOk.fresh (x : HOk P w H h) (e : h.objs.size ≤ a) : H a = none := by
  cases q : H a with
  | none => rfl
  | some u => exact absurd (Nat.lt_of_lt_of_le (x.lt q) e) (Nat.lt_irrefl _)
/-- every object of the heap is kept -/
theorem HOk.kept (x : HOk P w H h) (k : ∀ b u, h.get? b = some u → h'.get? b = some u) : HOk P w H h' := fun a o e =>
  (x a o e).stay (fun b u _ q => k b u q) (fun _ q => q) fun _ _ q => q
/-- a new object is laid and tracked -/
theorem HOk.laid (x : HOk P w H h) (k : ∀ b u, h.get? b = some u → h'.get? b = some u) (hp : h.objs.size ≤ a) (new : ObjOk P w (upd H a o) h' a o) : HOk P w (upd H a o) h' := fun b u e => by
  have hn := x.fresh hp
  by_cases hb : b = a
  · subst hb; rw [upd_same] at e; cases e; exact new
  · rw [upd_ne hb] at e
    exact (x b u e).stay (fun c v _ q => k c v q) (fun c q => by rw [upd_ne (ne_of_none q hn)]; exact q) fun c xs q => by rw [upd_ne (ne_of_none q hn)]; exact q
end

/-- what may be read as u: it is u, or a known u -/
def Rd (H : Hp) (a : Addr) (u : HO) : Prop := H a = some u ∨ ∃ o, H a = some (.frz o u)
theorem Rd.ok {P : Program} {w : World} {H : Hp} {h : Heap} {a : Addr} {u : HO} (r : Rd H a u) (x : HOk P w H h) : ObjOk P w H h a u := by
  rcases r with r | ⟨o, r⟩
  · exact x a u r
  · obtain ⟨_, q⟩ := x a _ r
    exact q
/-- what may be written -/
def Mut : Option HO → Prop
  | some (.lst _) => True
  | some (.dK _) => True
  | some (.dT _) => True
  | some (.set _ _) => True
  | some (.ins _ _ _) => True
  | some (.ext _) => True
  | _ => False
section
variable {P : Program} {w : World} {H : Hp} {h h' : Heap} {x e : Addr} {o' : HO}
/-- the object at e is changed: x itself, or the dict of the instance x -/
theorem HOk.write (ok : HOk P w H h) (mu : Mut (H x)) (he : e = x ∨ H e = some (.own x)) (k : ∀ b u, b ≠ e → h.get? b = some u → h'.get? b = some u) (heo : ∃ u, h'.get? e = some u)
    (new : ObjOk P w (upd H x o') h' x o') : HOk P w (upd H x o') h' := fun b u q => by
  have nown : ∀ c y, H c = some (.own y) → c ≠ x := fun c y r z => by subst z; rw [r] at mu; exact mu
  have ntup : ∀ c xs, H c = some (.tup xs) → c ≠ x := fun c xs r z => by subst z; rw [r] at mu; exact mu
  by_cases hb : b = x
  · subst hb; rw [upd_same] at q; cases q; exact new
  · rw [upd_ne hb] at q
    by_cases hbe : b = e
    · have q' : H b = some (.own x) := by
        rcases he with z | z
        · exact absurd (hbe.trans z) hb
        · rw [hbe]; exact z
      rw [q] at q'; cases q'
      obtain ⟨v, hv⟩ := heo
      exact ⟨v, by rw [hbe]; exact hv⟩
    · refine (ok b u q).stay (fun c v hc r => k c v ?_ r) (fun c r => by rw [upd_ne (nown c b r)]; exact r) fun c xs r => by rw [upd_ne (ntup c xs r)]; exact r
      rcases hc with rfl | hc
      · exact hbe
      · rintro rfl
        rcases he with z | z
        · exact nown c b hc z
        · rw [hc] at z; cases z; exact hb rfl
end

structure Un (fs ex : List Addr) (H H' : Hp) (h h' : Heap) : Prop where
  keep : ∀ b o, h.get? b = some o → H b = none → b ∉ fs → b ∉ ex → h'.get? b = some o
  slot : ∀ b o, h.get? b = some o → H b = none → b ∈ fs → b ∉ ex → ∃ sl, h'.get? b = some { o with slots := sl }
  free : ∀ b o, h.get? b = some o → H b = none → b ∉ ex → H' b = none
  there : ∀ b o, h.get? b = some o → b ∉ ex → ∃ o', h'.get? b = some o'
  tups : ∀ b xs, H b = some (.tup xs) → H' b = some (.tup xs)
  frzs : ∀ b o u, H b = some (.frz o u) → H' b = some (.frz o u)
  tbls : ∀ b ps, H b = some (.tbl ps) → ∃ more, H' b = some (.tbl (ps ++ more))
section
variable {fs fs' ex ex' : List Addr} {H H1 H2 : Hp} {h h1 h2 h' : Heap} {a x e : Addr} {o : HO}
theorem Un.any (u : Un fs ex H H1 h h1) {b : Addr} {ob : Obj} (q : h.get? b = some ob) (n : H b = none) (hx : b ∉ ex) : ∃ sl, h1.get? b = some { ob with slots := sl } := by
  by_cases hb : b ∈ fs
  · exact u.slot b ob q n hb hx
  · exact ⟨ob.slots, u.keep b ob q n hb hx⟩
theorem Un.kept (k : ∀ b u, h.get? b = some u → h'.get? b = some u) : Un fs ex H H h h' :=
  ⟨fun b ob q _ _ _ => k b ob q, fun b ob q _ _ _ => ⟨ob.slots, k b ob q⟩, fun _ _ _ n _ => n, fun b ob q _ => ⟨ob, k b ob q⟩, fun _ _ q => q, fun _ _ _ q => q, fun _ ps q => ⟨#[], by rw [q]; simp⟩⟩
theorem Un.refl : Un fs ex H H h h := Un.kept fun _ _ q => q
theorem Un.laid (k : ∀ b u, h.get? b = some u → h'.get? b = some u) (hp : h.objs.size ≤ a) (hn : H a = none) : Un fs ex H (upd H a o) h h' where
  keep := fun b u q _ _ _ => k b u q
  slot := fun b u q _ _ _ => ⟨u.slots, k b u q⟩
  free := fun b u q n _ => by rw [upd_ne (Nat.ne_of_lt (Nat.lt_of_lt_of_le (Heap.lt_size q) hp))]; exact n
  there := fun b u q _ => ⟨u, k b u q⟩
  tups := fun b xs q => by rw [upd_ne (ne_of_none q hn)]; exact q
  frzs := fun b u xs q => by rw [upd_ne (ne_of_none q hn)]; exact q
  tbls := fun b ps q => ⟨#[], by rw [upd_ne (ne_of_none q hn), q]; simp⟩
theorem Un.write (mu : Mut (H x)) (he : e = x ∨ H e = some (.own x)) (k : ∀ b u, b ≠ e → h.get? b = some u → h'.get? b = some u) (heo : ∃ u, h'.get? e = some u) : Un fs ex H (upd H x o) h h' := by
  have hx : ∀ b, H b = none → b ≠ x := fun b n z => by subst z; rw [n] at mu; exact mu
  have hb : ∀ b, H b = none → b ≠ e := fun b n z => by
    subst z
    rcases he with r | r
    · exact hx b n r
    · rw [n] at r; cases r
  have hm : ∀ b u, H b = some u → ¬ Mut (some u) → b ≠ x := fun b u q nm z => by subst z; rw [q] at mu; exact nm mu
  refine ⟨fun b u q n _ _ => k b u (hb b n) q, fun b u q n _ _ => ⟨u.slots, k b u (hb b n) q⟩, fun b u q n _ => by rw [upd_ne (hx b n)]; exact n, fun b u q _ => ?_,
    fun b xs q => by rw [upd_ne (hm b _ q fun z => z)]; exact q, fun b u xs q => by rw [upd_ne (hm b _ q fun z => z)]; exact q, fun b ps q => ⟨#[], by rw [upd_ne (hm b _ q fun z => z), q]; simp⟩⟩
  by_cases hbe : b = e
  · subst hbe; exact heo
  · exact ⟨u, k b u hbe q⟩
end

def trk (h : Heap) (H : Hp) : List Addr := (List.range h.objs.size).filter fun a => (H a).isSome
def hidT (h : Heap) (H : Hp) : Heap := PySem.W.hideAll h (trk h H)
theorem hidT_size (h : Heap) (H : Hp) : (hidT h H).objs.size = h.objs.size := PySem.W.hideAll_size _ _
theorem hidT_get {h : Heap} {H : Hp} {b : Addr} {o : Obj} (e : h.get? b = some o) (n : H b = none) : (hidT h H).get? b = some o :=
  PySem.W.hideAll_get _ e fun hm => by
    have q : (H b).isSome = true := (List.mem_filter.mp hm).2
    rw [n] at q; simp at q
theorem of_hidT {h : Heap} {H : Hp} {b : Addr} {o : Obj} (e : (hidT h H).get? b = some o) : h.get? b = some o ∧ H b = none := by
  have e' : h.get? b = some o := PySem.W.of_hideAll (trk h H) e
  refine ⟨e', ?_⟩
  cases q : H b with
  | none => rfl
  | some x =>
    have hm : b ∈ trk h H := List.mem_filter.mpr ⟨List.mem_range.mpr (Heap.lt_size e'), by simp [q]⟩
    have z : (hidT h H).get? b = none := PySem.W.hideAll_none (trk h H) hm
    rw [z] at e; cases e

end L2

namespace L2
open PySem PySem.Spec PyProof.Rows

/-- the module's facts, over the base: the heap at the law's entry without what is tracked there -/
structure Mod (K : PySem.W.Frag) (mg : Str → Option Value) (base : Heap) : Prop where
  kin : K.In base
  glob : base.Ns mainGlobals mg
  blt : ∃ mb, base.Ns builtinsNs mb ∧ ∀ x : Str, x ≠ "__name__" → mb x = bootBuiltins x
  nolimit : base.NoLimit

/-- the context: a def's body (or a comprehension's block) running. base: fixed through the whole law; s₀, H₀: the entry; outer: the frames whose slots others may change (a def's callers); stack: all frames that run;
   ex: iterators that were made ahead of the entry and are walked here (a comprehension's); fn: the names whose cells were made at the entry (a def: all; a comprehension's block: its own); calm: not within an except suite; pn: pins that every state bears; xe: what is wanted of an exception that leaves the code -/
structure Cx where
  prog : Program
  w : World
  K : PySem.W.Frag
  mg : Str → Option Value
  base : Heap
  A : Around
  N : List Str
  s_0 : Shared
  H_0 : Hp
  env : Env
  outer : List Env
  stack : List Env
  ex : List Addr
  fn : Str → Bool
  calm : Bool
  pn : List (Addr × Obj)
  xe : Value → Shared → Prop
/-- the callers' frames -/
def frs (l : List Env) : List Addr := l.filterMap (·.frame)
abbrev Cx.fs (X : Cx) : List Addr := frs X.outer

def Vis (sc : Scope) (x : Str) : Prop := sc.names.lookup x = some .local ∨ sc.names.lookup x = some .cell ∨ sc.names.lookup x = some .free
def Loc (sc : Scope) (x : Str) : Prop := sc.names.lookup x = some .local ∨ sc.names.lookup x = some .cell
def Look (env : Env) (h : Heap) (m : Str → Option Value) (x : Str) (u : Value) : Prop :=
  (env.kindOf x = some .local ∧ m x = some u) ∨ ((env.kindOf x = some .cell ∨ env.kindOf x = some .free) ∧ ∃ c, env.cells.lookup x = some c ∧ h.IsCell c (some u))

structure Cx.Ok (X : Cx) : Prop where
  mod : Mod X.K X.mg X.base
  kind : X.env.scope.kind = .function
  glob : X.env.globals = mainGlobals
  blt : X.env.builtins = builtinsNs
  above : X.s_0.heap.objs.size ≤ X.env.locals
  inj : ∀ x y c, X.env.cells.lookup x = some c → X.env.cells.lookup y = some c → x = y
  has : ∀ x, (X.env.kindOf x = some .cell ∨ X.env.kindOf x = some .free) → ∃ c, X.env.cells.lookup x = some c
  cab : ∀ x c, X.fn x = true → X.env.cells.lookup x = some c → X.s_0.heap.objs.size ≤ c
  hd : X.calm = true → X.A.handled = none
  frames : X.A.frames = some X.stack
  stk : X.stack = X.outer ∨ (X.stack = X.env :: X.outer ∧ X.env.frame = some X.env.locals)
  exf : ∀ b ∈ X.ex, b ≠ X.env.locals ∧ ∀ x c, X.env.cells.lookup x = some c → c ≠ b
  bs : ∀ b o, X.base.get? b = some o → X.s_0.heap.get? b = some o ∧ X.H_0 b = none
  bsz : X.base.objs.size ≤ X.s_0.heap.objs.size
  noex : ∀ b o, X.base.get? b = some o → b ∉ X.ex
  exfs : ∀ b ∈ X.ex, b ∉ X.fs
  funs : X.s_0.heap.FunFrames X.base X.outer
  frf : ∀ b ∈ X.fs, X.H_0 b = none

structure Inv (X : Cx) (pins : List (Addr × Obj)) (σ : List (Option V)) (H : Hp) (s : Shared) : Prop where
  ok : X.Ok
  os : s.os = X.s_0.os
  bare : AllBare s.gens
  base : Un X.fs X.ex X.H_0 H X.s_0.heap s.heap
  loc : ∃ m, s.heap.Ns X.env.locals m ∧ ∀ (i : Nat) (x : Str) (v : V), X.N[i]? = some x → σ[i]? = some (some v) → Vis X.env.scope x → ∃ u, RelV v u ∧ Look X.env s.heap m x u
  cell : ∀ x c, X.env.cells.lookup x = some c → ∃ v, s.heap.IsCell c v
  free : H X.env.locals = none
  freeC : ∀ x c, X.env.cells.lookup x = some c → H c = none
  pin : ∀ p ∈ X.pn ++ pins, s.heap.get? p.1 = some p.2 ∧ H p.1 = none ∧ p.1 ≠ X.env.locals ∧ p.1 ∉ X.fs ∧ ∀ v, p.2.data ≠ .cell v
  hok : HOk X.prog X.w H s.heap
  len : σ.length = X.N.length

section
variable {X : Cx} {pins : List (Addr × Obj)} {σ : List (Option V)} {H H' : Hp} {s : Shared} {h' : Heap}

theorem Cx.Ok.nofr (ok : X.Ok) {b : Addr} {o : Obj} (e : X.base.get? b = some o) : b ∉ X.fs := fun hb => by
  have := (ok.funs.mem hb).1
  rw [e] at this; cases this
theorem Inv.bs (I : Inv X pins σ H s) : ∀ b o, X.base.get? b = some o → s.heap.get? b = some o ∧ H b = none := fun b o e =>
  ⟨I.base.keep b o (I.ok.bs b o e).1 (I.ok.bs b o e).2 (I.ok.nofr e) (I.ok.noex b o e), I.base.free b o (I.ok.bs b o e).1 (I.ok.bs b o e).2 (I.ok.noex b o e)⟩
theorem Inv.bk (I : Inv X pins σ H s) : ∀ b o, X.base.get? b = some o → s.heap.get? b = some o := fun b o e => (I.bs b o e).1
theorem Inv.mod (I : Inv X pins σ H s) : Mod X.K X.mg X.base := I.ok.mod
theorem Inv.kIn (I : Inv X pins σ H s) : X.K.In s.heap := I.ok.mod.kin.keeps I.bk
theorem Inv.lt (I : Inv X pins σ H s) : X.env.locals < s.heap.objs.size := let ⟨_, hn, _⟩ := I.loc; hn.lt
theorem Inv.sz (I : Inv X pins σ H s) : X.s_0.heap.objs.size ≤ s.heap.objs.size := Nat.le_trans I.ok.above (Nat.le_of_lt I.lt)
theorem Inv.nofs (I : Inv X pins σ H s) {a : Addr} (h : s.heap.objs.size ≤ a) : a ∉ X.fs := fun hb => by
  obtain ⟨_, o, ho, _⟩ := I.ok.funs.mem hb
  exact absurd (Nat.lt_of_lt_of_le (Heap.lt_size ho) (Nat.le_trans I.sz h)) (Nat.lt_irrefl _)
theorem Inv.cne (I : Inv X pins σ H s) : ∀ x c, X.env.cells.lookup x = some c → c ≠ X.env.locals := fun x c e z => by
  obtain ⟨v, o, ho, hd⟩ := I.cell x c e
  obtain ⟨m, ⟨o', es, ep, ho', hd', _⟩, _⟩ := I.loc
  rw [z, ho'] at ho; cases ho; rw [hd'] at hd; cases hd
theorem Inv.funs (I : Inv X pins σ H s) : s.heap.FunFrames X.base X.outer := by
  have all : ∀ (l : List Env), (∀ b ∈ frs l, b ∈ X.fs) → X.s_0.heap.FunFrames X.base l → s.heap.FunFrames X.base l := by
    intro l
    induction l with
    | nil => intro _ _; trivial
    | cons env r ih =>
      intro hs hl
      obtain ⟨hk, ⟨L, o, hf, hn, ho, hd⟩, hr⟩ := hl
      have hL : L ∈ X.fs := hs L (by unfold frs; rw [List.filterMap_cons, hf]; exact List.mem_cons_self)
      obtain ⟨sl, e⟩ := I.base.slot L o ho (I.ok.frf L hL) hL fun z => I.ok.exfs L z hL
      exact ⟨hk, ⟨L, _, hf, hn, e, hd⟩, ih (fun b hb => hs b (by unfold frs; rw [List.filterMap_cons, hf]; exact List.mem_cons_of_mem _ hb)) hr⟩
  exact all X.outer (fun _ hb => hb) I.ok.funs

/-- the frames that run, for a call -/
theorem Inv.stack (I : Inv X pins σ H s) : s.heap.FunFrames X.base X.stack := by
  rcases I.ok.stk with e | ⟨e, hf⟩
  · rw [e]; exact I.funs
  · rw [e]
    obtain ⟨m, hn, _⟩ := I.loc
    refine .cons (by rw [I.ok.kind]; decide) hf hn ?_ I.funs
    exact Heap.get?_none_of_le (Nat.le_trans I.ok.bsz I.ok.above)
theorem Inv.stkSub (I : Inv X pins σ H s) : ∀ b ∈ frs X.stack, b ∈ X.env.locals :: X.fs := fun b hb => by
  rcases I.ok.stk with e | ⟨e, hf⟩
  · rw [e] at hb; exact List.mem_cons_of_mem _ hb
  · rw [e] at hb
    unfold frs at hb
    rw [List.filterMap_cons, hf] at hb
    exact hb
theorem Inv.stkFree (I : Inv X pins σ H s) : ∀ b ∈ frs X.stack, H b = none := fun b hb => by
  rcases List.mem_cons.mp (I.stkSub b hb) with e | hb
  · rw [e]; exact I.free
  · obtain ⟨_, o, ho, _⟩ := I.ok.funs.mem hb
    exact I.base.free b o ho (I.ok.frf b hb) fun z => I.ok.exfs b z hb

/-- THE STEP: the untracked objects but the frame and the records at ch are kept (the callers' frames up to slots), the frame's map is kept, the new abstract heap is held -/
theorem Inv.step {g' : Array GenState} {t' : Nat} {d' : Drawn} {ch : List Addr} (I : Inv X pins σ H s)
    (hch : ∀ b ∈ ch, (b ∈ X.ex ∨ X.s_0.heap.objs.size ≤ b) ∧ b ≠ X.env.locals ∧ (∀ x c, X.env.cells.lookup x = some c → c ≠ b) ∧ ∀ p ∈ X.pn ++ pins, p.1 ≠ b)
    (keep : ∀ b o, b ≠ X.env.locals → b ∉ X.fs → b ∉ ch → s.heap.get? b = some o → H b = none → h'.get? b = some o)
    (slot : ∀ b o, b ≠ X.env.locals → b ∈ X.fs → b ∉ ch → s.heap.get? b = some o → H b = none → ∃ sl, h'.get? b = some { o with slots := sl }) (free : ∀ b o, b ∉ ch → s.heap.get? b = some o → H b = none → H' b = none)
    (there : ∀ b o, b ∉ ch → s.heap.get? b = some o → ∃ o', h'.get? b = some o')
    (tups : ∀ b xs, H b = some (.tup xs) → H' b = some (.tup xs)) (frzs : ∀ b o u, H b = some (.frz o u) → H' b = some (.frz o u)) (tbls : ∀ b ps, H b = some (.tbl ps) → ∃ more, H' b = some (.tbl (ps ++ more)))
    (ns : ∀ m, s.heap.Ns X.env.locals m → h'.Ns X.env.locals m) (hok : HOk X.prog X.w H' h') (hg : AllBare g') :
    Inv X pins σ H' { s with heap := h', gens := g', drawn := d', toks := t' } := by
  have neL : ∀ b o, X.s_0.heap.get? b = some o → b ≠ X.env.locals := fun b o e => Nat.ne_of_lt (Nat.lt_of_lt_of_le (Heap.lt_size e) I.ok.above)
  have neC : ∀ b o, X.s_0.heap.get? b = some o → b ∉ X.ex → b ∉ ch := fun b o e hx hb => by
    rcases (hch b hb).1 with z | z
    · exact hx z
    · exact absurd (Nat.lt_of_lt_of_le (Heap.lt_size e) z) (Nat.lt_irrefl _)
  have cellK : ∀ x c, X.env.cells.lookup x = some c → ∀ v, s.heap.IsCell c v → h'.IsCell c v := fun x c e v ⟨o, ho, hd⟩ => by
    have nch : c ∉ ch := fun z => (hch c z).2.2.1 x c e rfl
    by_cases hc : c ∈ X.fs
    · obtain ⟨sl, q⟩ := slot c o (I.cne x c e) hc nch ho (I.freeC x c e)
      exact ⟨_, q, hd⟩
    · exact ⟨o, keep c o (I.cne x c e) hc nch ho (I.freeC x c e), hd⟩
  refine ⟨I.ok, I.os, hg, ⟨fun b o e n hb hx => ?_, fun b o e n hb hx => ?_, fun b o e n hx => ?_, fun b o e hx => ?_, fun b xs e => tups b xs (I.base.tups b xs e), fun b o xs e => frzs b o xs (I.base.frzs b o xs e), fun b ps e => ?_⟩, ?_, fun x c e => ?_, ?_, fun x c e => ?_, fun p hp => ?_, hok, I.len⟩
  · exact keep b o (neL b o e) hb (neC b o e hx) (I.base.keep b o e n hb hx) (I.base.free b o e n hx)
  · obtain ⟨sl, e1⟩ := I.base.slot b o e n hb hx
    obtain ⟨sl', e2⟩ := slot b _ (neL b o e) hb (neC b o e hx) e1 (I.base.free b o e n hx)
    exact ⟨sl', e2⟩
  · obtain ⟨o', e1⟩ := I.base.there b o e hx
    exact free b o' (neC b o e hx) e1 (I.base.free b o e n hx)
  · obtain ⟨o', e1⟩ := I.base.there b o e hx
    exact there b o' (neC b o e hx) e1
  · obtain ⟨m1, e1⟩ := I.base.tbls b ps e
    obtain ⟨m2, e2⟩ := tbls b _ e1
    exact ⟨m1 ++ m2, by rw [e2, Array.append_assoc]⟩
  · obtain ⟨m, hn, hl⟩ := I.loc
    refine ⟨m, ns m hn, fun i x v e1 e2 e3 => ?_⟩
    obtain ⟨u, r, l⟩ := hl i x v e1 e2 e3
    refine ⟨u, r, ?_⟩
    rcases l with l | ⟨k, c, e, z⟩
    · exact .inl l
    · exact .inr ⟨k, c, e, cellK x c e _ z⟩
  · obtain ⟨v, z⟩ := I.cell x c e
    exact ⟨v, cellK x c e v z⟩
  · obtain ⟨m, ⟨o, _, _, ho, _⟩, _⟩ := I.loc
    exact free _ o (fun z => (hch _ z).2.1 rfl) ho I.free
  · obtain ⟨v, o, ho, hd⟩ := I.cell x c e
    exact free c o (fun z => (hch c z).2.2.1 x c e rfl) ho (I.freeC x c e)
  · obtain ⟨e, n, ne, nf, d⟩ := I.pin p hp
    have nch : p.1 ∉ ch := fun z => (hch p.1 z).2.2.2 p hp rfl
    exact ⟨keep p.1 p.2 ne nf nch e n, free p.1 p.2 nch e n, ne, nf, d⟩
/-- .. where the frame's own object is kept too -/
theorem Inv.un {t' : Nat} (I : Inv X pins σ H s) (u : Un X.fs [] H H' s.heap h') (hok : HOk X.prog X.w H' h') : Inv X pins σ H' { s with heap := h', toks := t' } := by
  obtain ⟨m, ⟨o, es, ep, ho, r⟩, _⟩ := id I.loc
  obtain ⟨sl, hL⟩ := u.any ho I.free (by simp)
  exact I.step (g' := s.gens) (d' := s.drawn) (ch := []) (fun _ z => nomatch z) (fun b o _ hb _ e n => u.keep b o e n hb (by simp)) (fun b o _ hb _ e n => u.slot b o e n hb (by simp)) (fun b o _ e n => u.free b o e n (by simp)) (fun b o _ e => u.there b o e (by simp)) u.tups u.frzs u.tbls (fun m' hm => by
    obtain ⟨o', es', ep', ho', r'⟩ := hm
    rw [ho] at ho'; cases ho'
    exact ⟨_, es', ep', hL, r'⟩) hok I.bare
/-- behind a call (or a comprehension's block): the slots of this frame may have changed too, the records at ch may have turned -/
theorem Inv.call {g' : Array GenState} {t' : Nat} {d' : Drawn} {ch : List Addr} (I : Inv X pins σ H s) (u : Un (frs X.stack) ch H H' s.heap h') (hok : HOk X.prog X.w H' h') (hg : AllBare g')
    (hch : ∀ b ∈ ch, (b ∈ X.ex ∨ X.s_0.heap.objs.size ≤ b) ∧ b ≠ X.env.locals ∧ (∀ x c, X.env.cells.lookup x = some c → c ≠ b) ∧ ∀ p ∈ X.pn ++ pins, p.1 ≠ b) :
    Inv X pins σ H' { s with heap := h', gens := g', drawn := d', toks := t' } := by
  obtain ⟨m, ⟨o, es, ep, ho, r⟩, _⟩ := id I.loc
  obtain ⟨sl, hL⟩ := u.any ho I.free fun z => (hch _ z).2.1 rfl
  exact I.step (ch := ch) hch (fun b o hL hb hc e n => u.keep b o e n (fun z => (List.mem_cons.mp (I.stkSub b z)).elim hL hb) hc) (fun b o _ _ hc e n => u.any e n hc) (fun b o hc e n => u.free b o e n hc) (fun b o hc e => u.there b o e hc) u.tups u.frzs u.tbls (fun m' hm => by
    obtain ⟨o', es', ep', ho', r'⟩ := hm
    rw [ho] at ho'; cases ho'
    exact ⟨_, es', ep', hL, r'⟩) hok hg
/-- an untracked record of ours (an iterator) has turned -/
theorem Inv.turned {t' : Nat} {it : Addr} (I : Inv X pins σ H s) (k : ∀ b o, b ≠ it → s.heap.get? b = some o → h'.get? b = some o) (hn : H it = none) (hL : it ≠ X.env.locals)
    (h1 : it ∈ X.ex ∨ X.s_0.heap.objs.size ≤ it) (h2 : ∀ x c, X.env.cells.lookup x = some c → c ≠ it) (h3 : ∀ p ∈ X.pn ++ pins, p.1 ≠ it) : Inv X pins σ H { s with heap := h', toks := t' } := by
  have nit : ∀ b u, H b = some u → b ≠ it := fun b u e z => by rw [z, hn] at e; cases e
  refine I.step (g' := s.gens) (d' := s.drawn) (ch := [it]) (fun b hb => ?_) (fun b o _ _ hc e _ => k b o (fun z => hc (by simp [z])) e) (fun b o _ _ hc e _ => ⟨o.slots, k b o (fun z => hc (by simp [z])) e⟩) (fun _ _ _ _ n => n)
    (fun b o hc e => ⟨o, k b o (fun z => hc (by simp [z])) e⟩) (fun _ _ e => e) (fun _ _ _ e => e) (fun b ps e => ⟨#[], by rw [e]; simp⟩) (fun m hm => ?_) (fun b u e => ?_) I.bare
  · have e : b = it := by simpa using hb
    subst e
    exact ⟨h1, hL, h2, h3⟩
  · obtain ⟨o, es, ep, ho, r⟩ := hm
    exact ⟨o, es, ep, k _ o (Ne.symm hL) ho, r⟩
  · refine (I.hok b u e).stay (fun c v hc q => k c v ?_ q) (fun _ q => q) fun _ _ q => q
    rcases hc with z | z
    · rw [z]; exact nit b u e
    · exact nit c _ z
theorem Inv.tok (I : Inv X pins σ H s) (t : Nat) : Inv X pins σ H { s with toks := t } := I.un (h' := s.heap) (t' := t) Un.refl I.hok
/-- all objects kept -/
theorem Inv.kept {t' : Nat} (I : Inv X pins σ H s) (k : ∀ b u, s.heap.get? b = some u → h'.get? b = some u) : Inv X pins σ H { s with heap := h', toks := t' } := I.un (Un.kept k) (I.hok.kept k)
/-- a new object laid and tracked -/
theorem Inv.laid {a : Addr} {o : HO} {t' : Nat} (I : Inv X pins σ H s) (k : ∀ b u, s.heap.get? b = some u → h'.get? b = some u) (hp : s.heap.objs.size ≤ a) (new : ObjOk X.prog X.w (upd H a o) h' a o) :
    Inv X pins σ (upd H a o) { s with heap := h', toks := t' } := I.un (Un.laid k hp (I.hok.fresh hp)) (I.hok.laid k hp new)
/-- an object written -/
theorem Inv.write {x e : Addr} {o : HO} {t' : Nat} (I : Inv X pins σ H s) (mu : Mut (H x)) (he : e = x ∨ H e = some (.own x)) (k : ∀ b u, b ≠ e → s.heap.get? b = some u → h'.get? b = some u) (heo : ∃ u, h'.get? e = some u)
    (new : ObjOk X.prog X.w (upd H x o) h' x o) : Inv X pins σ (upd H x o) { s with heap := h', toks := t' } := I.un (Un.write mu he k heo) (I.hok.write mu he k heo new)
/-- forgetting slots, pins -/
theorem Inv.weak {σ' : List (Option V)} (I : Inv X pins σ H s) (hl : σ'.length = σ.length) (w : ∀ (i : Nat) v, σ'[i]? = some (some v) → σ[i]? = some (some v)) : Inv X pins σ' H s :=
  ⟨I.ok, I.os, I.bare, I.base, let ⟨m, hn, hl'⟩ := I.loc; ⟨m, hn, fun i x v e1 e2 e3 => hl' i x v e1 (w i v e2) e3⟩, I.cell, I.free, I.freeC, I.pin, I.hok, hl.trans I.len⟩
theorem Inv.pins_of {pins' : List (Addr × Obj)} (I : Inv X pins σ H s) (h : ∀ p ∈ pins', s.heap.get? p.1 = some p.2 ∧ H p.1 = none ∧ p.1 ≠ X.env.locals ∧ p.1 ∉ X.fs ∧ ∀ v, p.2.data ≠ .cell v) : Inv X pins' σ H s :=
  ⟨I.ok, I.os, I.bare, I.base, I.loc, I.cell, I.free, I.freeC, fun p hp => (List.mem_append.mp hp).elim (fun z => I.pin p (List.mem_append_left _ z)) (h p), I.hok, I.len⟩

theorem nodup_ix {N : List Str} (hN : N.Nodup) {i j : Nat} {x : Str} (a : N[i]? = some x) (b : N[j]? = some x) : i = j := by
  obtain ⟨h1, e1⟩ := List.getElem?_eq_some_iff.mp a
  obtain ⟨h2, e2⟩ := List.getElem?_eq_some_iff.mp b
  exact (List.getElem_inj hN).mp (e1.trans e2.symm)

/-- a name is stored; what changed -/
theorem store_ok2 {M : Model} {A : Around} {E : Value → Shared → Prop} {i : Nat} {x : Str} {v : V} {u : Value} {Q : Unit → Shared → Prop} (I : Inv X pins σ H s) (hN : X.N.Nodup) (hi : X.N[i]? = some x) (hx : Loc X.env.scope x) (r : RelV v u)
    (h : ∀ s', Inv X pins (σ.set i (some v)) H s' → (∃ a, Heap.SameBut a s.heap s'.heap ∧ (a = X.env.locals ∨ X.env.cells.lookup x = some a)) → Q () s') (hf : X.fn x = true ∨ X.env.scope.names.lookup x = some .local := by first | exact .inl rfl | exact .inr rfl | assumption) : wpAny M A (storeName X.env x u) Q E s := by
  obtain ⟨m, hn, hl⟩ := id I.loc
  have hcls : (X.env.scope.kind == .class || (X.env.scope.kind == .module && X.env.locals != X.env.globals)) = false := by rw [I.ok.kind]; rfl
  have hiσ : i < σ.length := by rw [I.len]; exact (List.getElem?_eq_some_iff.mp hi).1
  have cne := I.cne
  have tracked : ∀ {a : Addr} {h' : Heap}, (∃ o, s.heap.get? a = some o ∧ H a = none) → Heap.SameBut a s.heap h' → HOk X.prog X.w H h' := fun {a h'} ha hs b ob e => by
    obtain ⟨_, _, hfree⟩ := ha
    refine (I.hok b ob e).stay (fun c w' hc q => (hs.2 c ?_).trans q) (fun _ q => q) fun _ _ q => q
    rintro rfl
    rcases hc with rfl | hc
    · rw [hfree] at e; cases e
    · rw [hfree] at hc; cases hc
  rcases hx with hk | hk
  · refine wpAny_storeName_local hk hn (fun h' hn' hs => ?_) hcls
    obtain ⟨oL, _, _, hoL, _⟩ := id hn
    refine h _ ⟨I.ok, I.os, I.bare, ⟨fun b o e n hb hx => ?_, fun b o e n hb hx => ?_, I.base.free, fun b o e hx => ?_, I.base.tups, I.base.frzs, I.base.tbls⟩, ⟨_, hn', fun j y v' e1 e2 e3 => ?_⟩, fun y c e => ?_, I.free, I.freeC, fun p hp => ?_, tracked ⟨oL, hoL, I.free⟩ hs, by simpa using I.len⟩ ⟨_, hs, .inl rfl⟩
    · exact (hs.2 b (Nat.ne_of_lt (Nat.lt_of_lt_of_le (Heap.lt_size e) I.ok.above))).trans (I.base.keep b o e n hb hx)
    · obtain ⟨sl, e1⟩ := I.base.slot b o e n hb hx
      exact ⟨sl, (hs.2 b (Nat.ne_of_lt (Nat.lt_of_lt_of_le (Heap.lt_size e) I.ok.above))).trans e1⟩
    · obtain ⟨o', e1⟩ := I.base.there b o e hx
      exact ⟨o', (hs.2 b (Nat.ne_of_lt (Nat.lt_of_lt_of_le (Heap.lt_size e) I.ok.above))).trans e1⟩
    · by_cases hj : j = i
      · subst hj
        rw [hi] at e1; cases e1
        rw [List.getElem?_set_self hiσ] at e2
        cases e2
        exact ⟨u, r, .inl ⟨hk, by simp⟩⟩
      · rw [List.getElem?_set_ne (Ne.symm hj)] at e2
        obtain ⟨u', r', q⟩ := hl j y v' e1 e2 e3
        refine ⟨u', r', ?_⟩
        rcases q with ⟨k, e⟩ | ⟨k, c, e, z⟩
        · refine .inl ⟨k, ?_⟩
          have : y ≠ x := fun e => hj (nodup_ix hN e1 (e ▸ hi))
          simp [this, e]
        · exact .inr ⟨k, c, e, z.sameBut hs (cne y c e)⟩
    · obtain ⟨w', z⟩ := I.cell y c e
      exact ⟨w', z.sameBut hs (cne y c e)⟩
    · obtain ⟨e, n, ne, nf, d⟩ := I.pin p hp
      exact ⟨(hs.2 p.1 ne).trans e, n, ne, nf, d⟩
  · have hfn : X.fn x = true := by
      rcases hf with z | z
      · exact z
      · rw [z] at hk; cases hk
    obtain ⟨c, hc⟩ := I.ok.has x (.inl hk)
    obtain ⟨w', z⟩ := I.cell x c hc
    refine wpAny_storeName_cell I.ok.kind hk hc z (fun h' hc' hs => ?_)
    obtain ⟨oc, hoc, hocd⟩ := id z
    refine h { s with heap := h' } ⟨I.ok, I.os, I.bare, ⟨fun b o e n hb hx => ?_, fun b o e n hb hx => ?_, I.base.free, fun b o e hx => ?_, I.base.tups, I.base.frzs, I.base.tbls⟩, ⟨m, hn.sameBut hs (Ne.symm (cne x c hc)), fun j y v' e1 e2 e3 => ?_⟩, fun y c' e => ?_, I.free, I.freeC, fun p hp => ?_, tracked ⟨oc, hoc, I.freeC x c hc⟩ hs, by simpa using I.len⟩ ⟨c, hs, .inr hc⟩
    · exact (hs.2 b (Nat.ne_of_lt (Nat.lt_of_lt_of_le (Heap.lt_size e) (I.ok.cab x c hfn hc)))).trans (I.base.keep b o e n hb hx)
    · obtain ⟨sl, e1⟩ := I.base.slot b o e n hb hx
      exact ⟨sl, (hs.2 b (Nat.ne_of_lt (Nat.lt_of_lt_of_le (Heap.lt_size e) (I.ok.cab x c hfn hc)))).trans e1⟩
    · obtain ⟨o', e1⟩ := I.base.there b o e hx
      exact ⟨o', (hs.2 b (Nat.ne_of_lt (Nat.lt_of_lt_of_le (Heap.lt_size e) (I.ok.cab x c hfn hc)))).trans e1⟩
    · by_cases hj : j = i
      · subst hj
        rw [hi] at e1; cases e1
        rw [List.getElem?_set_self hiσ] at e2
        cases e2
        exact ⟨u, r, .inr ⟨.inl hk, c, hc, hc'⟩⟩
      · rw [List.getElem?_set_ne (Ne.symm hj)] at e2
        obtain ⟨u', r', q⟩ := hl j y v' e1 e2 e3
        refine ⟨u', r', ?_⟩
        rcases q with q | ⟨k, c', e, z'⟩
        · exact .inl q
        · refine .inr ⟨k, c', e, z'.sameBut hs ?_⟩
          rintro rfl
          exact hj (nodup_ix hN e1 (I.ok.inj _ _ _ e hc ▸ hi))
    · by_cases hcc : c' = c
      · subst hcc; exact ⟨_, hc'⟩
      · obtain ⟨w2, z2⟩ := I.cell y c' e
        exact ⟨w2, z2.sameBut hs hcc⟩
    · obtain ⟨e, n, ne, nf, d⟩ := I.pin p hp
      refine ⟨(hs.2 p.1 ?_).trans e, n, ne, nf, d⟩
      intro q
      rw [q, hoc] at e
      have q' : oc = p.2 := Option.some.inj e
      exact d w' (by rw [← q']; exact hocd)
theorem store_ok {M : Model} {A : Around} {E : Value → Shared → Prop} {i : Nat} {x : Str} {v : V} {u : Value} {Q : Unit → Shared → Prop} (I : Inv X pins σ H s) (hN : X.N.Nodup) (hi : X.N[i]? = some x) (hx : Loc X.env.scope x) (r : RelV v u)
    (h : ∀ s', Inv X pins (σ.set i (some v)) H s' → Q () s') (hf : X.fn x = true ∨ X.env.scope.names.lookup x = some .local := by first | exact .inl rfl | exact .inr rfl | assumption) : wpAny M A (storeName X.env x u) Q E s :=
  store_ok2 I hN hi hx r (fun s' I' _ => h s' I') hf
/-- behind a call or a block, the state as it is -/
theorem Inv.call' {s' : Shared} {ch : List Addr} (I : Inv X pins σ H s) (ho : s'.os = s.os) (u : Un (frs X.stack) ch H H' s.heap s'.heap) (hok : HOk X.prog X.w H' s'.heap) (hg : AllBare s'.gens)
    (hch : ∀ b ∈ ch, (b ∈ X.ex ∨ X.s_0.heap.objs.size ≤ b) ∧ b ≠ X.env.locals ∧ (∀ x c, X.env.cells.lookup x = some c → c ≠ b) ∧ ∀ p ∈ X.pn ++ pins, p.1 ≠ b) : Inv X pins σ H' s' := by
  obtain ⟨h', g', d', t', o'⟩ := s'
  have e : o' = s.os := ho
  subst e
  exact I.call (g' := g') (t' := t') (d' := d') u hok hg hch
end

/-- an exception: its class, its own dict's address (where it has one), the abstract heap behind it -/
abbrev XK := Value → Option Addr → Hp → Prop
abbrev St := List (Option V)
abbrev VK := V → Hp → Prop
/-- an expression's reading; a test's; an argument list's -/
abbrev TE := St → Hp → VK → Prop
abbrev TT := St → Hp → (Bool → Hp → Prop) → Prop
abbrev TA := St → Hp → (List V → Hp → Prop) → Prop
/-- what is wanted behind a statement -/
structure Ends where
  nx : St → Hp → Prop
  rt : VK
  bk : St → Hp → Prop := fun _ _ => False
  ct : St → Hp → Prop := fun _ _ => False
abbrev TS := Ends → St → Hp → Prop

def EP (X : Cx) (pins : List (Addr × Obj)) (σ : St) (Q : VK) (u : Value) (s' : Shared) : Prop := ∃ v H', Inv X pins σ H' s' ∧ RelV v u ∧ Q v H'
def TP (X : Cx) (pins : List (Addr × Obj)) (σ : St) (Q : Bool → Hp → Prop) (b : Bool) (s' : Shared) : Prop := ∃ H', Inv X pins σ H' s' ∧ Q b H'
def AP (X : Cx) (pins : List (Addr × Obj)) (σ : St) (Q : List V → Hp → Prop) (us : List Value) (s' : Shared) : Prop := ∃ vs H', Inv X pins σ H' s' ∧ Vals vs us ∧ Q vs H'
def SP (X : Cx) (pins : List (Addr × Obj)) (D : Ends) (f : Flow) (s' : Shared) : Prop :=
  match f with
  | .next => ∃ σ' H', Inv X pins σ' H' s' ∧ D.nx σ' H'
  | .brk => ∃ σ' H', Inv X pins σ' H' s' ∧ D.bk σ' H'
  | .cont => ∃ σ' H', Inv X pins σ' H' s' ∧ D.ct σ' H'
  | .ret u => ∃ v σ' H', Inv X pins σ' H' s' ∧ RelV v u ∧ D.rt v H'

def PE (X : Cx) (e : Expr) (t : TE) : Prop :=
  ∀ (pins : List (Addr × Obj)) (s : Shared) (σ : St) (H : Hp) (Q : VK), Inv X pins σ H s → t σ H Q → wpAny (model X.prog X.w) X.A (eval e X.env) (EP X pins σ Q) X.xe s
def PT (X : Cx) (e : Expr) (t : TT) : Prop :=
  ∀ (pins : List (Addr × Obj)) (s : Shared) (σ : St) (H : Hp) (Q : Bool → Hp → Prop), Inv X pins σ H s → t σ H Q → wpAny (model X.prog X.w) X.A (isTrue e X.env (eval e X.env)) (TP X pins σ Q) X.xe s
/-- a test whatever its 'whole' is (and, or) -/
def PW (X : Cx) (e : Expr) (t : TT) : Prop :=
  ∀ (whole : Sem Value) (pins : List (Addr × Obj)) (s : Shared) (σ : St) (H : Hp) (Q : Bool → Hp → Prop), Inv X pins σ H s → t σ H Q → wpAny (model X.prog X.w) X.A (isTrue e X.env whole) (TP X pins σ Q) X.xe s
theorem PW.pt {X : Cx} {e : Expr} {t : TT} (h : PW X e t) : PT X e t := h _
/-- an argument list (no star), from the left -/
def PA (X : Cx) (es : List Expr) (t : TA) : Prop :=
  ∀ (pos : Pos) (pins : List (Addr × Obj)) (s : Shared) (σ : St) (H : Hp) (Q : List V → Hp → Prop), Inv X pins σ H s → t σ H Q → wpAny (model X.prog X.w) X.A (spliced (backTo pos (starEach es X.env))) (AP X pins σ Q) X.xe s
def PS (X : Cx) (st : Stmt) (t : TS) : Prop :=
  ∀ (pins : List (Addr × Obj)) (s : Shared) (σ : St) (H : Hp) (D : Ends), Inv X pins σ H s → t D σ H → wpAny (model X.prog X.w) X.A (exec st X.env) (SP X pins D) X.xe s
def PSs (X : Cx) (st : List Stmt) (t : TS) : Prop :=
  ∀ (pins : List (Addr × Obj)) (s : Shared) (σ : St) (H : Hp) (D : Ends), Inv X pins σ H s → t D σ H → wpAny (model X.prog X.w) X.A (execs st X.env) (SP X pins D) X.xe s
/-- weaken the end -/
theorem thn {α : Type} {t : Sem α} {Q Q' : α → Shared → Prop} {M : Model} {A : Around} {E : Value → Shared → Prop} {s : Shared} (h : wpAny M A t Q E s) (hQ : ∀ a s, Q a s → Q' a s) : wpAny M A t Q' E s := wpAny_mono h hQ fun _ _ x => x
end L2

namespace L2
open PySem PySem.Spec PyProof.Rows
section
variable {X : Cx}

def tVar (i : Nat) : TE := fun σ H Q => ∃ v, σ[i]? = some (some v) ∧ Q v H
def tC (v : V) : TE := fun _ H Q => Q v H
theorem pe_var {i : Nat} {x : Str} {pos : Pos} (hN : X.N[i]? = some x) (hv : Vis X.env.scope x) (hd : (x == ("__debug__" : Str)) = false := by decide) (hcd : (x == ("__classdict__" : Str)) = false := by decide) : PE X (.Name x pos) (tVar i) := by
  intro pins s σ H Q I h
  obtain ⟨v, e, h⟩ := h
  obtain ⟨m, hn, hl⟩ := I.loc
  obtain ⟨u, r, l⟩ := hl i x v hN e hv
  have fin : EP X pins σ Q u s := ⟨v, H, I, r, h⟩
  rcases l with ⟨hk, hm⟩ | ⟨hk, c, hc, hcell⟩
  · exact wpAny_Name (wpAny_loadName_local I.ok.kind hk hn hm fin) hd
  · rcases hk with hk | hk
    · exact wpAny_Name (wpAny_loadName_cell I.ok.kind hk hc hcell fin) hd
    · exact wpAny_Name (wpAny_loadName_free I.ok.kind hk hc hcell fin hcd) hd
theorem pe_int {i j pos} : PE X (.Constant (.int i) j pos) (tC (.int i)) := fun _ _ _ H _ I h => wpAny_Constant_int ⟨.int i, H, I.tok _, ⟨_, rfl⟩, h⟩
theorem pe_bl {b j pos} : PE X (.Constant (.bool b) j pos) (tC (.bl b)) := fun _ _ _ H _ I h => Constant_bool ⟨.bl b, H, I, rfl, h⟩
/-- a global name of the def -/
def Gl (X : Cx) (x : Str) : Prop := X.env.kindOf x = some .globalImplicit
theorem ld_glob {E : Value → Shared → Prop} {pins : List (Addr × Obj)} {s : Shared} {σ : St} {H : Hp} {x : Str} {u : Value} {pos : Pos} {Q : Value → Shared → Prop} (I : Inv X pins σ H s) (hg : Gl X x) (hm : X.mg x = some u) (h : Q u s)
    (hd : (x == ("__debug__" : Str)) = false := by decide) : wpAny (model X.prog X.w) X.A (eval (.Name x pos) X.env) Q E s :=
  Calls.Name_function_global I.ok.kind hg (Calls.loadGlobal_global (by rw [I.ok.glob]; exact I.mod.glob.keeps I.bk) hm h) hd
theorem ld_blt {E : Value → Shared → Prop} {pins : List (Addr × Obj)} {s : Shared} {σ : St} {H : Hp} {x : Str} {u : Value} {pos : Pos} {Q : Value → Shared → Prop} (I : Inv X pins σ H s) (hg : Gl X x) (hm : X.mg x = none) (hv : bootBuiltins x = some u) (h : Q u s)
    (hn : x ≠ "__name__" := by decide) (hd : (x == ("__debug__" : Str)) = false := by decide) : wpAny (model X.prog X.w) X.A (eval (.Name x pos) X.env) Q E s := by
  obtain ⟨mb, h1, h2⟩ := I.mod.blt
  exact Calls.Name_function_global I.ok.kind hg (Calls.loadGlobal_builtin (by rw [I.ok.glob]; exact I.mod.glob.keeps I.bk) hm (by rw [I.ok.blt]; exact h1.keeps I.bk) ((h2 x hn).trans hv) h) hd
/-- a module's constant, a class, a function, as a value -/
theorem pe_glob {x : Str} {v : V} {u : Value} {pos : Pos} (hg : Gl X x) (hm : X.mg x = some u) (r : RelV v u) (hd : (x == ("__debug__" : Str)) = false := by decide) : PE X (.Name x pos) (tC v) :=
  fun _ _ _ H _ I h => ld_glob I hg hm ⟨v, H, I, r, h⟩ hd
variable {a b : Expr} {ta tb : TE} {pos : Pos}
def PC (X : Cx) (op : CmpOp) (a b : Expr) (t : TE) : Prop :=
  ∀ (pins : List (Addr × Obj)) (s : Shared) (σ : St) (H : Hp) (Q : VK), Inv X pins σ H s → t σ H Q →
    wpAny (model X.prog X.w) X.A (eval a X.env) (fun v s₁ => wpAny (model X.prog X.w) X.A (eval b X.env) (fun u s₂ => wpAny (model X.prog X.w) X.A (compareOp op v u) (EP X pins σ Q) X.xe s₂) X.xe s₁) X.xe s
/-- a comparison as a value, as a test -/
def tB (t : TE) : TT := fun σ H Q => t σ H fun x H1 => ∃ c, x = .bl c ∧ Q c H1
theorem pt_cmp {op : CmpOp} {t : TE} (h : PC X op a b t) (h1 : behindInMarks op b = false := by first | exact nobehind _ (by decide) (by decide) | rfl) : PT X (.Compare a [op] [b] pos) (tB t) := by
  intro pins s σ H Q I hw
  refine wpAny_isTrue_Compare1 (thn (h pins s σ H _ I hw) fun v s1 h1 => thn h1 fun u s2 h2 => thn h2 fun c s3 ⟨x, H1, I1, r1, q1⟩ => ?_) h1
  obtain ⟨d, rfl, q⟩ := q1
  cases r1
  exact wpAny_truthy_bool ⟨H1, I1, q⟩
/-- an expression whose value is a bool, as a test -/
theorem pt_val {e : Expr} {t : TE} (h : PE X e t) (he : ∀ whole, isTrue e X.env whole = (do let v ← whole; standAt e.pos; holding [v] (truthy v)) := by intro _; rfl) : PT X e (tB t) := by
  intro pins s σ H Q I hw
  refine isTrue_plain (thn (h pins s σ H _ I hw) fun v s1 ⟨x, H1, I1, r1, q1⟩ => ?_) (he _)
  obtain ⟨d, rfl, q⟩ := q1
  cases r1
  exact wpAny_truthy_bool ⟨H1, I1, q⟩

variable {tA tB' : TT} {rest : List Expr}
def tAnd (t u : TT) : TT := fun σ H Q => t σ H fun c H1 => if c = true then u σ H1 Q else Q false H1
def tOr (t u : TT) : TT := fun σ H Q => t σ H fun c H1 => if c = true then Q true H1 else u σ H1 Q
def tNot (t : TT) : TT := fun σ H Q => t σ H fun c H1 => Q (!c) H1
theorem pw_and1 (ha : PT X a tA) : PW X (.BoolOp .And [a] pos) tA := by
  intro wh pins s σ H Q I h
  refine isTrue_and (thn (ha pins s σ H Q I h) fun c s1 e => ?_)
  cases c with
  | true => exact isTrue_and_nil e
  | false => exact e
theorem pw_or1 (ha : PT X a tA) : PW X (.BoolOp .Or [a] pos) tA := by
  intro wh pins s σ H Q I h
  refine isTrue_or (thn (ha pins s σ H Q I h) fun c s1 e => ?_)
  cases c with
  | false => exact isTrue_or_nil e
  | true => exact e
theorem pw_and (ha : PT X a tA) (hb : PW X (.BoolOp .And (b :: rest) pos) tB') : PW X (.BoolOp .And (a :: b :: rest) pos) (tAnd tA tB') := by
  intro wh pins s σ H Q I h
  refine isTrue_and (thn (ha pins s σ H _ I h) fun c s1 ⟨H1, I1, q1⟩ => ?_)
  cases c with
  | true => exact hb wh pins s1 σ H1 Q I1 q1
  | false => exact ⟨H1, I1, q1⟩
theorem pw_or (ha : PT X a tA) (hb : PW X (.BoolOp .Or (b :: rest) pos) tB') : PW X (.BoolOp .Or (a :: b :: rest) pos) (tOr tA tB') := by
  intro wh pins s σ H Q I h
  refine isTrue_or (thn (ha pins s σ H _ I h) fun c s1 ⟨H1, I1, q1⟩ => ?_)
  cases c with
  | true => exact ⟨H1, I1, q1⟩
  | false => exact hb wh pins s1 σ H1 Q I1 q1
theorem pt_not (ha : PT X a tA) : PT X (.UnaryOp .Not a pos) (tNot tA) := by
  intro pins s σ H Q I h
  exact isTrue_not (ha pins s σ H (fun c H1 => Q (!c) H1) I h)
/-- .. as values (bools) -/
def tAndV (ta tb : TE) : TE := fun σ H Q => ta σ H fun x H1 => ∃ c, x = .bl c ∧ if c = true then tb σ H1 Q else Q (.bl false) H1
theorem pe_one {op} {t : TE} (h : PE X a t) : PE X (.BoolOp op [a] pos) t := fun pins s σ H Q I hw => BoolOp_one (h pins s σ H Q I hw)
theorem pe_and (ha : PE X a ta) (hb : PE X (.BoolOp .And (b :: rest) pos) tb) : PE X (.BoolOp .And (a :: b :: rest) pos) (tAndV ta tb) := by
  intro pins s σ H Q I h
  refine BoolOp_and (thn (ha pins s σ H _ I h) fun v s1 ⟨x, H1, I1, r1, q1⟩ => ?_)
  obtain ⟨c, rfl, q1⟩ := q1
  cases r1
  refine wpAny_truthy_bool ?_
  cases c with
  | true => exact hb pins s1 σ H1 Q I1 q1
  | false => exact ⟨.bl false, H1, I1, rfl, q1⟩
/-- a if t else b -/
def tIf (t : TT) (ta tb : TE) : TE := fun σ H Q => t σ H fun c H1 => if c = true then ta σ H1 Q else tb σ H1 Q
theorem pe_ifExp {c : Expr} (hc : PT X c tA) (ha : PE X a ta) (hb : PE X b tb) : PE X (.IfExp c a b pos) (tIf tA ta tb) := by
  intro pins s σ H Q I h
  refine wpAny_IfExp (thn (hc pins s σ H _ I h) fun d s1 ⟨H1, I1, q1⟩ => ?_)
  cases d with
  | true => exact ha pins s1 σ H1 Q I1 q1
  | false => exact hb pins s1 σ H1 Q I1 q1
end
end L2

namespace L2
open PySem PySem.Spec PyProof.Rows

def SqL (K : PySem.W.Frag) (H : Hp) (a : Addr) (xs : List V) : Prop :=
  Rd H a (.lst xs) ∨
    ∃ (o : Obj) (its : Array Value) (n : Nat), K.lookup a = some o ∧ o.cls = .type "list" ∧ o.dict = none ∧ o.data = .seq its n ∧ its.size ≤ sizeLine ∧ Vals xs its.toList
def SqT (K : PySem.W.Frag) (H : Hp) (a : Addr) (xs : List V) : Prop :=
  Rd H a (.tup xs) ∨
    ∃ (o : Obj) (its : Array Value) (n : Nat), K.lookup a = some o ∧ o.cls = .type "tuple" ∧ o.data = .seq its n ∧ its.size ≤ sizeLine ∧ Vals xs its.toList
def absV : Value → Option V
  | .none => some .non
  | .bool b => some (.bl b)
  | .int i _ => some (.int i)
  | .str x _ => some (.str x)
  | .bytes b _ => some (.byt b)
  | .float b _ => some (.flt b)
  | .ref a => some (.ref a)
  | .type n => some (.ty n)
  | _ => none
theorem RelV.abs {x : V} {u : Value} (r : RelV x u) : absV u = some x := by
  cases x with
  | non => cases r; rfl
  | bl _ => cases r; rfl
  | int _ => obtain ⟨t, rfl⟩ := r; rfl
  | str _ => obtain ⟨t, rfl⟩ := r; rfl
  | byt _ => obtain ⟨t, rfl⟩ := r; rfl
  | flt _ => obtain ⟨t, rfl⟩ := r; rfl
  | ref _ => cases r; rfl
  | ty _ => cases r; rfl
theorem RelV.inj {x y : V} {u : Value} (r : RelV x u) (q : RelV y u) : x = y := Option.some.inj (r.abs.symm.trans q.abs)
theorem Vals.inj : ∀ {xs ys : List V} {us : List Value}, Vals xs us → Vals ys us → xs = ys
  | _, _, _, .nil, .nil => rfl
  | _, _, _, .cons r t, .cons r' t' => by rw [r.inj r', Vals.inj t t']
section
variable {X : Cx} {pins : List (Addr × Obj)} {σ : St} {H : Hp} {s : Shared} {a : Addr} {xs ys : List V}
theorem SqL.of {K : PySem.W.Frag} (h : H a = some (.lst xs)) : SqL K H a xs := .inl (.inl h)
theorem SqT.of {K : PySem.W.Frag} (h : H a = some (.tup xs)) : SqT K H a xs := .inl (.inl h)
theorem Inv.list (I : Inv X pins σ H s) (h : SqL X.K H a xs) : ∃ its : List Value, Vals xs its ∧ PlainL s.heap a its.toArray ∧ xs.length ≤ sizeLine := by
  rcases h with h | ⟨o, its, n, hk, hc, hd, hs, hz, r⟩
  · obtain ⟨z, its, n, r, e⟩ := h.ok I.hok
    exact ⟨its, r, ⟨_, n, e, rfl, rfl, rfl⟩, z⟩
  · refine ⟨its.toList, r, ⟨o, n, I.kIn a o hk, hc, hd, by simpa using hs⟩, ?_⟩
    have e := r.length
    simp only [Array.length_toList] at e
    omega
theorem Inv.tuple (I : Inv X pins σ H s) (h : SqT X.K H a xs) : ∃ its : List Value, Vals xs its ∧ IsTup s.heap a its.toArray ∧ xs.length ≤ sizeLine := by
  rcases h with h | ⟨o, its, n, hk, hc, hs, hz, r⟩
  · obtain ⟨z, its, r, p⟩ := h.ok I.hok
    exact ⟨its, r, p, z⟩
  · refine ⟨its.toList, r, ⟨o, I.kIn a o hk, hc, n, by simpa using hs⟩, ?_⟩
    have e := r.length
    simp only [Array.length_toList] at e
    omega
theorem Inv.list_inj (I : Inv X pins σ H s) (h : SqL X.K H a xs) (h' : SqL X.K H a ys) : xs = ys := by
  obtain ⟨its, r, ⟨o, n, e, _, _, d⟩, _⟩ := I.list h
  obtain ⟨its', r', ⟨o', n', e', _, _, d'⟩, _⟩ := I.list h'
  rw [e] at e'; cases e'
  rw [d] at d'
  injection d' with d1 _
  have : its = its' := by simpa using congrArg Array.toList d1
  subst this
  exact r.inj r'
end

abbrev Cx.wish (X : Cx) (E : Value → Shared → Prop) : Cx := { X with xe := E }
/-- no exception leaves -/
abbrev Cx.nox (X : Cx) : Cx := X.wish fun _ _ => False
theorem Cx.Ok.wish {X : Cx} (ok : X.Ok) (E : Value → Shared → Prop) : (X.wish E).Ok :=
  ⟨ok.mod, ok.kind, ok.glob, ok.blt, ok.above, ok.inj, ok.has, ok.cab, ok.hd, ok.frames, ok.stk, ok.exf, ok.bs, ok.bsz, ok.noex, ok.exfs, ok.funs, ok.frf⟩
theorem Cx.Ok.unwish {X : Cx} {E : Value → Shared → Prop} (ok : (X.wish E).Ok) : X.Ok :=
  ⟨ok.mod, ok.kind, ok.glob, ok.blt, ok.above, ok.inj, ok.has, ok.cab, ok.hd, ok.frames, ok.stk, ok.exf, ok.bs, ok.bsz, ok.noex, ok.exfs, ok.funs, ok.frf⟩
section
variable {X : Cx} {pins : List (Addr × Obj)} {σ : St} {H : Hp} {s : Shared} {E : Value → Shared → Prop}
theorem Inv.wish (I : Inv X pins σ H s) (E : Value → Shared → Prop) : Inv (X.wish E) pins σ H s := ⟨I.ok.wish E, I.os, I.bare, I.base, I.loc, I.cell, I.free, I.freeC, I.pin, I.hok, I.len⟩
theorem Inv.unwish (I : Inv (X.wish E) pins σ H s) : Inv X pins σ H s := ⟨I.ok.unwish, I.os, I.bare, I.base, I.loc, I.cell, I.free, I.freeC, I.pin, I.hok, I.len⟩
theorem SP.unwish {D : Ends} {f : Flow} {s' : Shared} (h : SP (X.wish E) pins D f s') : SP X pins D f s' := by
  cases f with
  | next => obtain ⟨σ', H', I, q⟩ := h; exact ⟨σ', H', I.unwish, q⟩
  | brk => obtain ⟨σ', H', I, q⟩ := h; exact ⟨σ', H', I.unwish, q⟩
  | cont => obtain ⟨σ', H', I, q⟩ := h; exact ⟨σ', H', I.unwish, q⟩
  | ret u => obtain ⟨v, σ', H', I, r, q⟩ := h; exact ⟨v, σ', H', I.unwish, r, q⟩
theorem PSs.nox {st : List Stmt} {t : TS} (h : PSs X.nox st t) : PSs X st t := fun pins s σ H D I hw =>
  wpAny_mono (h pins s σ H D (I.wish _) hw) (fun _ _ q => q.unwish) fun _ _ z => False.elim z
end

section
variable {X : Cx} {st : Stmt} {rest : List Stmt} {t u : TS} {e : Expr} {te : TE} {pos : Pos}
def tNext : TS := fun D σ H => D.nx σ H
def tSeq (t u : TS) : TS := fun D σ H => t { D with nx := u D } σ H
theorem pss_nil : PSs X [] tNext := fun _ _ σ H _ I h => wpAny_execs_nil ⟨σ, H, I, h⟩
theorem pss_cons (h1 : PS X st t) (h2 : PSs X rest u) : PSs X (st :: rest) (tSeq t u) := by
  intro pins s σ H D I h
  refine wpAny_execs_cons (thn (h1 pins s σ H { D with nx := u D } I h) fun f s1 q => ?_)
  cases f with
  | next =>
    obtain ⟨σ', H', I', q⟩ := q
    exact h2 pins s1 σ' H' D I' q
  | ret v => exact q
  | brk => exact q
  | cont => exact q
theorem pss_one (h1 : PS X st t) : PSs X [st] t := by
  intro pins s σ H D I h
  refine wpAny_execs_cons (thn (h1 pins s σ H D I h) fun f s1 q => ?_)
  cases f with
  | next => exact wpAny_execs_nil q
  | ret v => exact q
  | brk => exact q
  | cont => exact q
/-- in a def's body nothing is shown -/
theorem Inv.quiet {pins : List (Addr × Obj)} {σ : St} {H : Hp} {s : Shared} (I : Inv X pins σ H s) : interactive X.env = false := by simp [interactive, I.ok.kind]
/-- an expression whose value is dropped -/
def tDrop (te : TE) : TS := fun D σ H => te σ H fun _ H1 => D.nx σ H1
theorem ps_expr (he : PE X e te) (hs : swapsWith e none pos.line X.env = pure false := by rfl) : PS X (.Expr e pos) (tDrop te) := by
  intro pins s σ H D I h
  exact wpAny_Expr_any (thn (he pins s σ H _ I h) fun v s1 ⟨x, H1, I1, r1, q1⟩ => ⟨σ, H1, I1, q1⟩) I.quiet hs
def tRet (te : TE) : TS := fun D σ H => te σ H D.rt
theorem ps_ret (he : PE X e te) : PS X (.Return (some e) pos) (tRet te) := by
  intro pins s σ H D I h
  exact wpAny_Return_some (thn (he pins s σ H _ I h) fun v s1 ⟨x, H1, I1, r1, q1⟩ => ⟨x, σ, H1, I1, r1, q1⟩)
def tIfS (c : TT) (t u : TS) : TS := fun D σ H => c σ H fun b H1 => if b = true then t D σ H1 else u D σ H1
theorem ps_if {c : Expr} {a b : List Stmt} {tc : TT} (hc : PT X c tc) (ha : PSs X a t) (hb : PSs X b u) : PS X (.If c a b pos) (tIfS tc t u) := by
  intro pins s σ H D I h
  refine wpAny_If (thn (hc pins s σ H _ I h) fun d s1 ⟨H1, I1, q1⟩ => ?_)
  cases d with
  | true => exact ha pins s1 σ H1 D I1 q1
  | false => exact hb pins s1 σ H1 D I1 q1
end

abbrev TG := V → St → Hp → (St → Hp → Prop) → Prop
abbrev TGs := List V → St → Hp → (St → Hp → Prop) → Prop
def PG (X : Cx) (target : Expr) (t : TG) : Prop :=
  ∀ (pins : List (Addr × Obj)) (s : Shared) (σ : St) (H : Hp) (v : V) (u : Value) (Q : St → Hp → Prop), Inv X pins σ H s → RelV v u → t v σ H Q →
    wpAny (model X.prog X.w) X.A (assign target X.env u) (fun _ s' => ∃ σ' H', Inv X pins σ' H' s' ∧ Q σ' H') X.xe s
/-- several targets, one after another -/
def PGs (X : Cx) (ts : List Expr) (t : TGs) : Prop :=
  ∀ (pins : List (Addr × Obj)) (s : Shared) (σ : St) (H : Hp) (vs : List V) (us : List Value) (Q : St → Hp → Prop), Inv X pins σ H s → Vals vs us → t vs σ H Q →
    wpAny (model X.prog X.w) X.A (assignInOrder ((assignEach ts X.env).map (·.2)) us) (fun _ s' => ∃ σ' H', Inv X pins σ' H' s' ∧ Q σ' H') X.xe s
/-- a op= b, by values -/
abbrev TIp := V → V → Hp → VK → Prop
def PIp (X : Cx) (op : Operator) (t : TIp) : Prop :=
  ∀ (pins : List (Addr × Obj)) (s : Shared) (σ : St) (H : Hp) (x y : V) (v u : Value) (Q : VK), Inv X pins σ H s → RelV x v → RelV y u → t x y H Q →
    wpAny (model X.prog X.w) X.A (inplaceOp op v u) (EP X pins σ Q) X.xe s
section
variable {X : Cx} {pos : Pos}
def gName (i : Nat) : TG := fun v σ H Q => Q (σ.set i (some v)) H
theorem pg_name {i : Nat} {x : Str} (hN : X.N.Nodup) (hi : X.N[i]? = some x) (hx : Loc X.env.scope x) (hf : X.fn x = true ∨ X.env.scope.names.lookup x = some .local := by first | exact .inl rfl | exact .inr rfl | assumption) : PG X (.Name x pos) (gName i) := by
  intro pins s σ H v u Q I r h
  exact wpAny_assign_Name (store_ok I hN hi hx r (fun s' I' => ⟨_, H, I', h⟩) hf)
def gNil : TGs := fun vs σ H Q => vs = [] ∧ Q σ H
def gCons (t : TG) (u : TGs) : TGs := fun vs σ H Q => ∃ v r, vs = v :: r ∧ t v σ H fun σ' H' => u r σ' H' Q
theorem pgs_nil : PGs X [] gNil := by
  intro pins s σ H vs us Q I r h
  obtain ⟨e, h⟩ := h
  subst e
  cases r
  exact assignInOrder_nil ⟨σ, H, I, h⟩
theorem pgs_cons {e : Expr} {es : List Expr} {t : TG} {u : TGs} (h1 : PG X e t) (h2 : PGs X es u)
    (hs : (assignEach (e :: es) X.env).map (·.2) = assign e X.env :: (assignEach es X.env).map (·.2) := by rfl) : PGs X (e :: es) (gCons t u) := by
  intro pins s σ H vs us Q I r h
  obtain ⟨v, vr, e1, h⟩ := h
  subst e1
  cases r with
  | cons r rr =>
    rw [hs]
    refine assignInOrder_cons (thn (h1 pins s σ H _ _ _ I r h) fun _ s1 ⟨σ1, H1, I1, q1⟩ => ?_)
    exact h2 pins s1 σ1 H1 _ _ Q I1 rr q1
/-- (a, b, ..) = a tuple of that length -/
def gTup (K : PySem.W.Frag) (n : Nat) (t : TGs) : TG := fun v σ H Q => ∃ a xs, v = .ref a ∧ SqT K H a xs ∧ xs.length = n ∧ t xs σ H Q
theorem pg_tup {es : List Expr} {k : Nat} {t : TGs} {n : Nat} (hc : X.calm = true) (h : PGs X es t)
    (hn : (assignEach es X.env).length = n := by rfl) (hst : (assignEach es X.env).findIdx? (·.1) = none := by rfl) : PG X (.Tuple es k pos) (gTup X.K n t) := by
  intro pins s σ H v u Q I r hw
  obtain ⟨a, xs, e1, hq, hl, hw⟩ := hw
  subst e1
  cases r
  obtain ⟨its, rv, ht, hz⟩ := I.tuple hq
  refine assign_Tuple_tuple (I.ok.hd hc) ht (by simp [hn, ← hl, rv.length]) hst fun h' hx => ?_
  have I1 : Inv X pins σ H { s with heap := h' } := I.kept (t' := s.toks) fun b o e => hx b o (Nat.ne_of_lt (Heap.lt_size e)) e
  exact h pins _ σ H xs _ Q I1 (by simpa using rv) hw
/-- target = value -/
def tAsg (te : TE) (g : TG) : TS := fun D σ H => te σ H fun x H1 => g x σ H1 D.nx
/-- name = value -/
theorem ps_set {i : Nat} {x : Str} {e : Expr} {te : TE} {pos' : Pos} (hN : X.N.Nodup) (hi : X.N[i]? = some x) (hx : Loc X.env.scope x) (he : PE X e te) (hs : swapsWith e (some (.Name x pos')) pos.line X.env = pure false := by rfl) (hf : X.fn x = true ∨ X.env.scope.names.lookup x = some .local := by first | exact .inl rfl | exact .inr rfl | assumption) :
    PS X (.Assign [.Name x pos'] e pos) (tAsg te (gName i)) := by
  intro pins s σ H D I h
  refine wpAny_Assign_Name (thn (he pins s σ H _ I h) fun v s1 ⟨y, H1, I1, r1, q1⟩ => ?_) hs
  exact store_ok I1 hN hi hx r1 (fun s2 I2 => ⟨_, H1, I2, q1⟩) hf
/-- name op= e -/
def tAug (i : Nat) (te : TE) (ti : TIp) : TS := fun D σ H => ∃ x, σ[i]? = some (some x) ∧ te σ H fun y H1 => ti x y H1 fun z H2 => D.nx (σ.set i (some z)) H2
theorem ps_aug {i : Nat} {x : Str} {e : Expr} {te : TE} {op : Operator} {ti : TIp} {pos' : Pos} (hN : X.N.Nodup) (hi : X.N[i]? = some x) (hx : Loc X.env.scope x) (he : PE X e te) (ho : PIp X op ti) (hf : X.fn x = true ∨ X.env.scope.names.lookup x = some .local := by first | exact .inl rfl | exact .inr rfl | assumption) :
    PS X (.AugAssign (.Name x pos') op e pos) (tAug i te ti) := by
  intro pins s σ H D I h
  obtain ⟨v, e1, h⟩ := h
  obtain ⟨m, hn, hl⟩ := I.loc
  have vis : Vis X.env.scope x := by rcases hx with k | k; exact .inl k; exact .inr (.inl k)
  obtain ⟨u, r, l⟩ := hl i x v hi e1 vis
  refine wpAny_AugAssign_Name ?_
  have go : wpAny (model X.prog X.w) X.A (eval e X.env) (fun w s₂ => wpAny (model X.prog X.w) X.A (inplaceOp op u w) (fun r s₃ => wpAny (model X.prog X.w) X.A (storeName X.env x r) (fun _ => SP X pins D .next) X.xe s₃) X.xe s₂) X.xe s := by
    refine thn (he pins s σ H _ I h) fun w s1 ⟨y, H1, I1, r1, q1⟩ => ?_
    refine thn (ho pins s1 σ H1 v y u w _ I1 r r1 q1) fun z s2 ⟨zv, H2, I2, r2, q2⟩ => ?_
    exact store_ok I2 hN hi hx r2 (fun s3 I3 => ⟨_, H2, I3, q2⟩) hf
  rcases l with ⟨hk, hm⟩ | ⟨hk, c, hc, hcell⟩
  · exact wpAny_loadName_local I.ok.kind hk hn hm go
  · rcases hk with hk | hk
    · exact wpAny_loadName_cell I.ok.kind hk hc hcell go
    · rcases hx with k | k
      · have : X.env.scope.names.lookup x = some .free := hk
        rw [k] at this; cases this
      · have : X.env.scope.names.lookup x = some .free := hk
        rw [k] at this; cases this
/-- ints -/
def ipI (f : Int → Int → Int) : TIp := fun x y H Q => ∃ i j, x = .int i ∧ y = .int j ∧ Q (.int (f i j)) H
theorem ip_add : PIp X .Add (ipI fun i j => i + j) := by
  intro pins s σ H x y v u Q I r1 r2 h
  obtain ⟨i, j, e1, e2, q⟩ := h
  subst e1; subst e2
  obtain ⟨t, rfl⟩ := r1
  obtain ⟨t', rfl⟩ := r2
  exact iadd_int ⟨.int _, H, I.tok _, ⟨_, rfl⟩, q⟩
end

section
variable {X : Cx} {pos : Pos}
/-- the invariant W with its measure -/
def tWhile (c : TT) (tb : TS) : TS := fun D σ H => ∃ W : Nat → St → Hp → Prop, (∃ m, W m σ H) ∧ ∀ m σ H, W m σ H →
  c σ H fun b H1 => if b = true then ∃ N : St → Hp → Prop, (∀ σ' H', N σ' H' → ∃ m', m' < m ∧ W m' σ' H') ∧ tb { D with nx := N, ct := N, bk := D.nx } σ H1 else D.nx σ H1
theorem ps_while {c : Expr} {body : List Stmt} {tc : TT} {tb : TS} (hp : PassesOwn (model X.prog X.w) X.A X.env X.xe) (hc : PT X c tc) (hb : PSs X body tb) : PS X (.While c body [] pos) (tWhile tc tb) := by
  intro pins s σ H D I h
  obtain ⟨W, ⟨m0, w0⟩, turn⟩ := h
  refine wpAny_While (codeAny_whileLoop (fun n s' => ∃ σ' H', Inv X pins σ' H' s' ∧ W n σ' H') ?_ m0 ⟨σ, H, I, w0⟩)
  rintro n s1 ⟨σ1, H1, I1, w1⟩
  refine wpAny_passesOwn hp (thn (hc pins s1 σ1 H1 _ I1 (turn n σ1 H1 w1)) fun b s2 ⟨H2, I2, q2⟩ => ?_)
  cases b with
  | true =>
    obtain ⟨N, hN, q2⟩ := q2
    rw [if_pos rfl]
    refine wpAny_passesOwn hp (thn (hb pins s2 σ1 H2 _ I2 q2) fun f s3 q3 => ?_)
    cases f with
    | next =>
      obtain ⟨σ3, H3, I3, n3⟩ := q3
      obtain ⟨m', hm, w3⟩ := hN σ3 H3 n3
      exact ⟨m', hm, σ3, H3, I3, w3⟩
    | cont =>
      obtain ⟨σ3, H3, I3, n3⟩ := q3
      obtain ⟨m', hm, w3⟩ := hN σ3 H3 n3
      exact ⟨m', hm, σ3, H3, I3, w3⟩
    | brk => exact q3
    | ret v => exact q3
  | false =>
    rw [if_neg Bool.false_ne_true]
    exact wpAny_execs_nil ⟨σ1, H2, I2, q2⟩
end

/-- at turn i: it yields x (the heap may grow), or it stops -/
structure It where
  go : Nat → Hp → Prop
  yld : Nat → Hp → V → Hp → Prop
  stop : Nat → Hp → Prop
/-- the iterator's own objects may turn: they are not the frame's, not pinned, younger than the entry (or a comprehension's own) -/
def FpOk (X : Cx) (pins : List (Addr × Obj)) (H : Hp) (b : Addr) : Prop :=
  H b = none ∧ b ≠ X.env.locals ∧ b ∉ X.fs ∧ (b ∈ X.ex ∨ X.s_0.heap.objs.size ≤ b) ∧ (∀ x c, X.env.cells.lookup x = some c → c ≠ b) ∧ ∀ p ∈ X.pn ++ pins, p.1 ≠ b
theorem Inv.fpOk {X : Cx} {pins : List (Addr × Obj)} {σ : St} {H H' : Hp} {s : Shared} {b : Addr} (I : Inv X pins σ H s) (hb : s.heap.objs.size ≤ b) (hn : H' b = none) : FpOk X pins H' b := by
  refine ⟨hn, Nat.ne_of_gt (Nat.lt_of_lt_of_le I.lt hb), I.nofs hb, .inr (Nat.le_trans I.sz hb), fun x c e z => ?_, fun p hp z => ?_⟩
  · obtain ⟨v, q⟩ := I.cell x c e
    exact absurd (Nat.lt_of_lt_of_le q.lt (by rw [z]; exact hb)) (Nat.lt_irrefl _)
  · exact absurd (Nat.lt_of_lt_of_le (Heap.lt_size (I.pin p hp).1) (by rw [z]; exact hb)) (Nat.lt_irrefl _)
structure Turn (P : Program) (w : World) (K : PySem.W.Frag) (tg : Expr) (J : It) (fp : List Addr) (it : Addr) (tn : Nat → Heap → Prop) : Prop where
  mem : it ∈ fp
  obj : ∀ i h, tn i h → ∀ b ∈ fp, ∃ o, h.get? b = some o ∧ ∀ v, o.data ≠ .cell v
  keep : ∀ i h h', tn i h → (∀ b ∈ fp, ∀ o, h.get? b = some o → h'.get? b = some o) → tn i h'
  item : ∀ (X : Cx), X.prog = P → X.w = w → X.K = K → X.calm = true → ∀ (i : Nat) (pins : List (Addr × Obj)) (s : Shared) (σ : St) (H : Hp) (E : Value → Shared → Prop), Inv X pins σ H s → (∀ b ∈ fp, FpOk X pins H b) → tn i s.heap → J.go i H →
    wpAny (model P w) X.A (pyNext (.ref it)) (fun r s1 => ∃ u, r = some u ∧
      wpAny (model P w) X.A (letOwnedTupleGo tg (.ref it) u) (fun _ s2 => ∃ x H', Inv X pins σ H' s2 ∧ RelV x u ∧ J.yld i H x H' ∧ tn (i + 1) s2.heap ∧ ∀ b ∈ fp, H' b = none) E s1) E s
  done : ∀ (X : Cx), X.prog = P → X.w = w → X.K = K → X.calm = true → ∀ (i : Nat) (pins : List (Addr × Obj)) (s : Shared) (σ : St) (H : Hp) (E : Value → Shared → Prop), Inv X pins σ H s → (∀ b ∈ fp, FpOk X pins H b) → tn i s.heap → J.stop i H →
    wpAny (model P w) X.A (pyNext (.ref it)) (fun r s1 => r = none ∧ Inv X pins σ H s1) E s
  self : ∀ (A : Around) (i : Nat) (s : Shared) (Q : Value → Shared → Prop) (E : Value → Shared → Prop), tn i s.heap → Q (.ref it) s → wpAny (model P w) A (pyIter (.ref it)) Q E s
abbrev TI := St → Hp → (It → Hp → Prop) → Prop
/-- an iterator has come -/
def PIE (X : Cx) (pins : List (Addr × Obj)) (σ : St) (tg : Expr) (R : It → Hp → Prop) (itv : Value) (s2 : Shared) : Prop :=
  ∃ (it : Addr) (fp : List Addr) (tn : Nat → Heap → Prop) (J : It) (H' : Hp), itv = .ref it ∧ Inv X pins σ H' s2 ∧ Turn X.prog X.w X.K tg J fp it tn ∧ tn 0 s2.heap ∧ (∀ b ∈ fp, FpOk X pins H' b) ∧ R J H'
def PI (X : Cx) (tg iter : Expr) (wi : TI) : Prop :=
  ∀ (pins : List (Addr × Obj)) (s : Shared) (σ : St) (H : Hp) (R : It → Hp → Prop), Inv X pins σ H s → wi σ H R →
    wpAny (model X.prog X.w) X.A (eval iter X.env) (fun v s1 => wpAny (model X.prog X.w) X.A (pyIter v) (PIE X pins σ tg R) X.xe s1) X.xe s

/-- the step ahead of the store is nothing for an iterator that keeps no tuple -/
theorem go_of {M : Model} {A : Around} {E : Value → Shared → Prop} {s : Shared} {tg : Expr} {it : Addr} {u : Value} {o : Obj} {n : String} {vs : Array Value} {Q : Unit → Shared → Prop} (ho : s.heap.get? it = some o) (hc : o.cls = .type n) (hd : o.data = .fields vs)
    (hn : ["enumerate", "zip", "dict_itemiterator", "dict_reverseitemiterator", "odict_iterator", "itertools.zip_longest", "itertools.pairwise"].contains n = false) (hQ : Q () s) : wpAny M A (letOwnedTupleGo tg (.ref it) u) Q E s := by
  unfold letOwnedTupleGo
  cases tg <;> first
    | exact wpAny_pure hQ
    | (cases u <;> first
        | exact wpAny_pure hQ
        | (refine wpAny_bind (wpAny_load ho ?_)
           rw [hc, hd]
           show wpAny M A (if (["enumerate", "zip", "dict_itemiterator", "dict_reverseitemiterator", "odict_iterator", "itertools.zip_longest", "itertools.pairwise"].contains n && vs[0]? == some (rawInt _)) = true then _ else _) Q E s
           rw [if_neg (by intro h; rw [hn, Bool.false_and] at h; cases h)]
           exact wpAny_pure hQ))

/-- the list at a, as it stands at each turn (a loop may append to it) -/
def Itl (K : PySem.W.Frag) (a : Addr) : It :=
  ⟨fun i H => ∃ xs x, SqL K H a xs ∧ xs[i]? = some x, fun i H x H' => H' = H ∧ ∀ xs, SqL K H a xs → xs[i]? = some x, fun i H => ∃ xs, SqL K H a xs ∧ xs.length ≤ i⟩
theorem turn_list {P : Program} {w : World} {K : PySem.W.Frag} {tg : Expr} (a it : Addr) : Turn P w K tg (Itl K a) [it] it (fun i h => h.IsListIter it a i) where
  mem := by simp
  obj := fun i h st b hb => by
    have e : b = it := by simpa using hb
    subst e
    obtain ⟨o, e, c, d⟩ := st
    exact ⟨o, e, fun v z => by rw [d] at z; cases z⟩
  keep := fun i h h' st k => st.at fun o e => k it (by simp) o e
  item := by
    intro X hP hw hK hc i pins s σ H E I hf st hg
    subst hP hw hK
    obtain ⟨xs, x, hq, hx⟩ := hg
    obtain ⟨its, rv, p, hz⟩ := I.list hq
    obtain ⟨u, hu, ru⟩ := rv.get hx
    obtain ⟨f0, f1, f2, f3, f4, f5⟩ := hf it (by simp)
    refine wpAny_pyNext_list_item st p.isList (x := u) (by simpa using hu) fun h' st' sb => ?_
    have I1 : Inv X pins σ H { s with heap := h' } := I.turned (t' := s.toks) (fun b o hb e => (sb.2 b hb).trans e) f0 f1 f3 f4 f5
    obtain ⟨o, e, c, d⟩ := id st'
    exact ⟨u, rfl, go_of (s := { s with heap := h' }) e c d (by decide) ⟨x, H, I1, ru, ⟨rfl, fun ys hy => by rw [I.list_inj hy hq]; exact hx⟩, st', fun b hb => (hf b hb).1⟩⟩
  done := by
    intro X hP hw hK hc i pins s σ H E I hf st hg
    subst hP hw hK
    obtain ⟨xs, hq, hx⟩ := hg
    obtain ⟨its, rv, p, hz⟩ := I.list hq
    obtain ⟨f0, f1, f2, f3, f4, f5⟩ := hf it (by simp)
    have hl := rv.length
    exact wpAny_pyNext_list_end (I.ok.hd hc) st p.isList (by simp; omega) fun h' eb => ⟨rfl, I.turned (t' := s.toks) (fun b o hb e => eb b o hb e) f0 f1 f3 f4 f5⟩
  self := fun _ _ _ _ _ st h => wpAny_pyIter_listiter st h
end L2

namespace L2
open PySem PySem.Spec PyProof.Rows
section
variable {X : Cx} {tg : Expr}
def iList (K : PySem.W.Frag) (tl : TE) : TI := fun σ H R => tl σ H fun x H1 => ∃ a, x = .ref a ∧ (∃ xs, SqL K H1 a xs) ∧ R (Itl K a) H1
theorem pi_list {l : Expr} {tl : TE} (hl : PE X l tl) : PI X tg l (iList X.K tl) := by
  intro pins s σ H R I h
  refine thn (hl pins s σ H _ I h) fun v s1 ⟨x, H1, I1, r1, q1⟩ => ?_
  obtain ⟨a, e, ⟨xs, hq⟩, q⟩ := q1
  subst e
  cases r1
  obtain ⟨its, rv, p, hz⟩ := I1.list hq
  refine wpAny_pyIter_list p.isList ?_
  refine ⟨s1.heap.objs.size, [s1.heap.objs.size], _, _, H1, rfl, I1.kept (t' := s1.toks) fun b o e => Heap.get?_push_of_some _ e, turn_list a _, ⟨_, Heap.get?_push_size _ rfl, rfl, rfl⟩, fun b hb => ?_, q⟩
  have e : b = s1.heap.objs.size := by simpa using hb
  subst e
  exact I1.fpOk (Nat.le_refl _) (I1.hok.fresh (Nat.le_refl _))
/-- W: the invariant by the turn and a measure; N: what the body is to reach -/
def tFor (wi : TI) (g : TG) (tb : TS) : TS := fun D σ H => wi σ H fun J H1 => ∃ W : Nat → Nat → St → Hp → Prop, (∃ m, W 0 m σ H1) ∧ ∀ i m σ H, W i m σ H →
  (J.stop i H ∧ D.nx σ H) ∨ (J.go i H ∧ ∃ N : St → Hp → Prop, (∀ σ' H', N σ' H' → ∃ m', m' < m ∧ W (i + 1) m' σ' H') ∧ ∀ x H', J.yld i H x H' → g x σ H' fun σ2 H2 => tb { D with nx := N, ct := N, bk := D.nx } σ2 H2)
/-- the records at fp as they stand -/
def pinsAt (fp : List Addr) (h : Heap) : List (Addr × Obj) := fp.filterMap fun b => (h.get? b).map fun o => (b, o)
theorem mem_pinsAt {fp : List Addr} {h : Heap} {b : Addr} {o : Obj} (hb : b ∈ fp) (e : h.get? b = some o) : (b, o) ∈ pinsAt fp h := List.mem_filterMap.mpr ⟨b, hb, by rw [e]; rfl⟩
theorem of_pinsAt {fp : List Addr} {h : Heap} {p : Addr × Obj} (hp : p ∈ pinsAt fp h) : p.1 ∈ fp ∧ h.get? p.1 = some p.2 := by
  obtain ⟨b, hb, e⟩ := List.mem_filterMap.mp hp
  cases q : h.get? b with
  | none => rw [q] at e; cases e
  | some o =>
    rw [q] at e
    have e' : (b, o) = p := Option.some.inj e
    subst e'
    exact ⟨hb, q⟩
theorem Inv.pinned {pins : List (Addr × Obj)} {σ : St} {H : Hp} {s : Shared} {fp : List Addr} (I : Inv X pins σ H s) (hf : ∀ b ∈ fp, FpOk X pins H b) (ho : ∀ b ∈ fp, ∃ o, s.heap.get? b = some o ∧ ∀ v, o.data ≠ .cell v) : Inv X (pins ++ pinsAt fp s.heap) σ H s :=
  I.pins_of fun p hp => (List.mem_append.mp hp).elim (fun z => I.pin p (List.mem_append_right _ z)) fun z => by
    obtain ⟨hb, e⟩ := of_pinsAt z
    obtain ⟨f0, f1, f2, _⟩ := hf p.1 hb
    obtain ⟨o, e', d⟩ := ho p.1 hb
    rw [e] at e'; cases e'
    exact ⟨e, f0, f1, f2, d⟩
theorem Inv.unpinned {pins pl : List (Addr × Obj)} {σ : St} {H : Hp} {s : Shared} (I : Inv X (pins ++ pl) σ H s) : Inv X pins σ H s := I.pins_of fun p hp => I.pin p (List.mem_append_right _ (List.mem_append_left _ hp))
theorem ps_for {iter : Expr} {body : List Stmt} {wi : TI} {g : TG} {tb : TS} {pos : Pos} (hp : PassesOwn (model X.prog X.w) X.A X.env X.xe) (hc : X.calm = true) (hi : PI X tg iter wi) (hg : PG X tg g) (hb : PSs X body tb)
    (hs : ∀ x, foldedSetIterable iter X.env x = pure x := by intro _; rfl) : PS X (.For tg iter body [] pos) (tFor wi g tb) := by
  intro pins s σ H D I h
  refine wpAny_For (thn (hi pins s σ H _ I h) fun v s1 h1 => thn h1 fun itv s2 h2 => ?_) hs
  obtain ⟨it, fp, tn, J, H2, e, I2, T, st2, f2, W, ⟨m0, w0⟩, turn⟩ := h2
  subst e
  -- what stays true of the iterator's objects through the loop
  have stat : ∀ {H' : Hp}, (∀ b ∈ fp, H' b = none) → ∀ b ∈ fp, FpOk X pins H' b := fun hn b hb => ⟨hn b hb, (f2 b hb).2⟩
  refine codeAny_forLoop_any (fun n s' => ∃ i σ' H', Inv X pins σ' H' s' ∧ tn i s'.heap ∧ (∀ b ∈ fp, H' b = none) ∧ W i n σ' H') ?_ m0 ⟨0, σ, H2, I2, st2, fun b hb => (f2 b hb).1, w0⟩
  rintro n s3 ⟨i, σ3, H3, I3, st3, fr3, w3⟩
  rcases turn i n σ3 H3 w3 with ⟨stop, qn⟩ | ⟨go, N, hN, step⟩
  · refine wpAny_passesOwn hp (thn (T.done X rfl rfl rfl hc i pins s3 σ3 H3 X.xe I3 (stat fr3) st3 stop) fun r s4 ⟨hr, I4⟩ => ?_)
    subst hr
    exact wpAny_execs_nil ⟨σ3, H3, I4, qn⟩
  · refine wpAny_passesOwn hp (thn (T.item X rfl rfl rfl hc i pins s3 σ3 H3 X.xe I3 (stat fr3) st3 go) fun r s4 ⟨u, hr, h4⟩ => ?_)
    subst hr
    refine wpAny_passesOwn hp (thn h4 fun _ s5 ⟨x, H5, I5, r5, y5, st5, fr5⟩ => ?_)
    have I5' := I5.pinned (stat fr5) (T.obj _ _ st5)
    refine wpAny_passesOwn hp (thn (hg _ s5 σ3 H5 x u _ I5' r5 (step x H5 y5)) fun _ s6 ⟨σ6, H6, I6, q6⟩ => ?_)
    refine wpAny_passesOwn hp (thn (hb _ s6 σ6 H6 _ I6 q6) fun f s7 q7 => ?_)
    have again : ∀ {σ7 : St} {H7 : Hp}, Inv X (pins ++ pinsAt fp s5.heap) σ7 H7 s7 → N σ7 H7 → ∃ m, m < n ∧ ∃ i σ' H', Inv X pins σ' H' s7 ∧ tn i s7.heap ∧ (∀ b ∈ fp, H' b = none) ∧ W i m σ' H' := fun {σ7 H7} I7 n7 => by
      obtain ⟨m', hm, w7⟩ := hN σ7 H7 n7
      refine ⟨m', hm, i + 1, σ7, H7, I7.unpinned, T.keep _ _ _ st5 fun b hb o e => (I7.pin (b, o) (List.mem_append_right _ (List.mem_append_right _ (mem_pinsAt hb e)))).1, fun b hb => ?_, w7⟩
      obtain ⟨o, e, d⟩ := T.obj _ _ st5 b hb
      exact (I7.pin (b, o) (List.mem_append_right _ (List.mem_append_right _ (mem_pinsAt hb e)))).2.1
    cases f with
    | next => obtain ⟨σ7, H7, I7, n7⟩ := q7; exact again I7 n7
    | cont => obtain ⟨σ7, H7, I7, n7⟩ := q7; exact again I7 n7
    | brk => obtain ⟨σ7, H7, I7, q7⟩ := q7; exact ⟨σ7, H7, I7.unpinned, q7⟩
    | ret v => obtain ⟨x7, σ7, H7, I7, r7, q7⟩ := q7; exact ⟨x7, σ7, H7, I7.unpinned, r7, q7⟩
end

/-- over a list that the body leaves as it is -/
theorem for_list {K : PySem.W.Frag} {a : Addr} {xs : List V} {g : TG} {tb : TS} {D : Ends} {σ : St} {H : Hp} (Pv : Nat → St → Hp → Prop) (h0 : Pv 0 σ H) (hl : ∀ i σ H, i ≤ xs.length → Pv i σ H → SqL K H a xs)
    (hs : ∀ i x σ H, xs[i]? = some x → Pv i σ H → g x σ H fun σ2 H2 => tb { D with nx := Pv (i + 1), ct := Pv (i + 1), bk := D.nx } σ2 H2) (hd : ∀ σ H, Pv xs.length σ H → D.nx σ H) :
    ∃ W : Nat → Nat → St → Hp → Prop, (∃ m, W 0 m σ H) ∧ ∀ i m σ H, W i m σ H →
      ((Itl K a).stop i H ∧ D.nx σ H) ∨ ((Itl K a).go i H ∧ ∃ N : St → Hp → Prop, (∀ σ' H', N σ' H' → ∃ m', m' < m ∧ W (i + 1) m' σ' H') ∧ ∀ x H', (Itl K a).yld i H x H' → g x σ H' fun σ2 H2 => tb { D with nx := N, ct := N, bk := D.nx } σ2 H2) := by
  refine ⟨fun i m σ H => m = xs.length - i ∧ i ≤ xs.length ∧ Pv i σ H, ⟨xs.length, by simp, Nat.zero_le _, h0⟩, ?_⟩
  rintro i m σ H ⟨rfl, hi, p⟩
  have q := hl i σ H hi p
  by_cases hlt : i < xs.length
  · refine .inr ⟨⟨xs, xs[i], q, by simp [hlt]⟩, Pv (i + 1), fun σ' H' p' => ⟨xs.length - (i + 1), by omega, rfl, hlt, p'⟩, fun x H' y => ?_⟩
    obtain ⟨e, y⟩ := y
    subst e
    exact hs i x σ _ (y xs q) p
  · have e : i = xs.length := by omega
    subst e
    exact .inl ⟨⟨xs, q, Nat.le_refl _⟩, hd σ H p⟩
/-- while, by a word and a measure of the state -/
theorem while_by {c : TT} {tb : TS} {D : Ends} {σ : St} {H : Hp} (Pv : St → Hp → Prop) (μ : St → Hp → Nat) (h0 : Pv σ H)
    (hs : ∀ σ H, Pv σ H → c σ H fun b H1 => if b = true then tb { D with nx := fun σ' H' => Pv σ' H' ∧ μ σ' H' < μ σ H, ct := fun σ' H' => Pv σ' H' ∧ μ σ' H' < μ σ H, bk := D.nx } σ H1 else D.nx σ H1)
    (mono : ∀ σ H Q Q', (∀ b H1, Q b H1 → Q' b H1) → c σ H Q → c σ H Q') : tWhile c tb D σ H := by
  refine ⟨fun m σ H => m = μ σ H ∧ Pv σ H, ⟨_, rfl, h0⟩, ?_⟩
  rintro m σ H ⟨rfl, p⟩
  refine mono σ H _ _ (fun b H1 q => ?_) (hs σ H p)
  cases b with
  | true => exact ⟨_, fun σ' H' ⟨p', l⟩ => ⟨_, l, rfl, p'⟩, q⟩
  | false => exact q
end L2

namespace L2
open PySem PySem.Spec PyProof.Rows

abbrev R2 := V → V → Hp → VK → Prop
/-- a two-place operation on values: f is binaryOp op, inplaceOp op or compareOp op -/
def OpR (X : Cx) (f : Value → Value → Sem Value) (r : R2) : Prop :=
  ∀ (pins : List (Addr × Obj)) (s : Shared) (σ : St) (H : Hp) (x y : V) (v u : Value) (Q : VK), Inv X pins σ H s → RelV x v → RelV y u → r x y H Q →
    wpAny (model X.prog X.w) X.A (f v u) (EP X pins σ Q) X.xe s
/-- a call of a value that is known (a builtin, a type) with values -/
def CallR (X : Cx) (f : Value) (r : List V → Hp → VK → Prop) : Prop :=
  ∀ (pins : List (Addr × Obj)) (s : Shared) (σ : St) (H : Hp) (xs : List V) (us : List Value) (Q : VK), Inv X pins σ H s → Vals xs us → r xs H Q →
    wpAny (model X.prog X.w) X.A (call f us) (EP X pins σ Q) X.xe s
def tOp (r : R2) (ta tb : TE) : TE := fun σ H Q => ta σ H fun x H1 => tb σ H1 fun y H2 => r x y H2 Q
def rI0 (g : Int → Int → V) : R2 := fun x y H Q => ∃ i j, x = .int i ∧ y = .int j ∧ Q (g i j) H
section
variable {X : Cx} {a b c : Expr} {ta tb tc : TE} {pos : Pos}

theorem binT (ha : PE X a ta) (hb : PE X b tb) {pins : List (Addr × Obj)} {s : Shared} {σ : St} {H : Hp} {R : V → V → Hp → Prop} (I : Inv X pins σ H s)
    (h : ta σ H fun x H1 => tb σ H1 fun y H2 => R x y H2) {Q : Value → Shared → Prop} {f : Value → Value → Sem Value}
    (hf : ∀ v u s2 x y H2, Inv X pins σ H2 s2 → RelV x v → RelV y u → R x y H2 → wpAny (model X.prog X.w) X.A (f v u) Q X.xe s2) :
    wpAny (model X.prog X.w) X.A (eval a X.env) (fun v s₁ => wpAny (model X.prog X.w) X.A (eval b X.env) (fun u s₂ => wpAny (model X.prog X.w) X.A (f v u) Q X.xe s₂) X.xe s₁) X.xe s := by
  refine thn (ha pins s σ H _ I h) fun v s1 ⟨x, H1, I1, r1, q1⟩ => ?_
  refine thn (hb pins s1 σ H1 _ I1 q1) fun u s2 ⟨y, H2, I2, r2, q2⟩ => ?_
  exact hf v u s2 x y H2 I2 r1 r2 q2

theorem pe_op {op : Operator} {r : R2} (ho : OpR X (binaryOp op) r) (ha : PE X a ta) (hb : PE X b tb) : PE X (.BinOp a op b pos) (tOp r ta tb) := by
  intro pins s σ H Q I h
  exact wpAny_BinOp (binT ha hb I h fun v u s2 x y H2 I2 rx ry q => ho pins s2 σ H2 x y v u Q I2 rx ry q)
theorem opI0 {f : Value → Value → Sem Value} {g : Int → Int → Int}
    (rule : ∀ (i j : Int) (t u : Tok) (s : Shared) (Q : Value → Shared → Prop) (E : Value → Shared → Prop), Q (.int (g i j) s.toks) { s with toks := s.toks + 1 } → wpAny (model X.prog X.w) X.A (f (.int i t) (.int j u)) Q E s) :
    OpR X f (rI0 fun i j => .int (g i j)) := by
  intro pins s σ H x y v u Q I rx ry h
  obtain ⟨i, j, rfl, rfl, q⟩ := h
  obtain ⟨t, rfl⟩ := rx
  obtain ⟨t', rfl⟩ := ry
  exact rule i j t t' s _ _ ⟨.int (g i j), H, I.tok _, ⟨_, rfl⟩, q⟩
theorem opB0 {f : Value → Value → Sem Value} {g : Int → Int → Bool}
    (rule : ∀ (i j : Int) (t u : Tok) (s : Shared) (Q : Value → Shared → Prop) (E : Value → Shared → Prop), Q (.bool (g i j)) s → wpAny (model X.prog X.w) X.A (f (.int i t) (.int j u)) Q E s) :
    OpR X f (rI0 fun i j => .bl (g i j)) := by
  intro pins s σ H x y v u Q I rx ry h
  obtain ⟨i, j, rfl, rfl, q⟩ := h
  obtain ⟨t, rfl⟩ := rx
  obtain ⟨t', rfl⟩ := ry
  exact rule i j t t' s _ _ ⟨.bl (g i j), H, I, rfl, q⟩

theorem op_add : OpR X (binaryOp .Add) (rI0 fun i j => .int (i + j)) := opI0 fun _ _ _ _ _ _ _ q => add_int q
theorem op_sub : OpR X (binaryOp .Sub) (rI0 fun i j => .int (i - j)) := opI0 fun _ _ _ _ _ _ _ q => sub_int q
end

/-- the scalars that == tells apart as data does -/
def scal : V → V → Bool
  | .non, .non => true | .non, .int _ => true | .int _, .non => true | .non, .bl _ => true | .bl _, .non => true | .non, .str _ => true | .str _, .non => true
  | .int _, .int _ => true | .bl _, .bl _ => true | .str _, .str _ => true | .byt _, .byt _ => true
  | .int _, .str _ => true | .str _, .int _ => true | .bl _, .str _ => true | .str _, .bl _ => true
  | _, _ => false
def rEq : R2 := fun x y H Q => scal x y = true ∧ Q (.bl (decide (x = y))) H
def rNe : R2 := fun x y H Q => scal x y = true ∧ Q (.bl (!decide (x = y))) H

theorem dec_int {i j : Int} : decide (V.int i = V.int j) = (i == j) := by
  rw [Bool.eq_iff_iff]
  simp
theorem dec_bl {i j : Bool} : decide (V.bl i = V.bl j) = (i == j) := by
  rw [Bool.eq_iff_iff]
  simp
theorem dec_str {i j : Str} : decide (V.str i = V.str j) = (i == j) := by
  rw [Bool.eq_iff_iff]
  simp
theorem dec_byt {i j : Array UInt8} : decide (V.byt i = V.byt j) = (i.toList == j.toList) := by
  rw [Bool.eq_iff_iff]
  cases i
  cases j
  simp

section
variable {X : Cx} {a b c : Expr} {ta tb tc : TE} {pos : Pos}
theorem fin_bl {pins : List (Addr × Obj)} {σ : St} {H : Hp} {s : Shared} {Q : VK} {k k' : Bool} (I : Inv X pins σ H s) (q : Q (.bl k) H) (e : k = k') : EP X pins σ Q (.bool k') s := by
  subst e
  exact ⟨.bl k, H, I, rfl, q⟩
theorem op_eq : OpR X (compareOp .Eq) rEq := by
  intro pins s σ H x y v u Q I rx ry h
  obtain ⟨hs, q⟩ := h
  cases x with
  | non =>
    cases rx
    cases y with
    | non => cases ry; exact PySem.EqNone.eq_none_none (fin_bl I q (by simp))
    | bl j => cases ry; exact PySem.EqNone.eq_none_bool (fin_bl I q (by simp))
    | int j => obtain ⟨t', rfl⟩ := ry; exact PySem.EqNone.eq_none_int (fin_bl I q (by simp))
    | str j => obtain ⟨t', rfl⟩ := ry; exact PySem.EqNone.eq_none_str (fin_bl I q (by simp))
    | _ => exact absurd (show false = true from hs) Bool.false_ne_true
  | bl i =>
    cases rx
    cases y with
    | non => cases ry; exact PySem.EqNone.eq_bool_none (fin_bl I q (by simp))
    | bl j => cases ry; exact eq_bool (fin_bl I q dec_bl)
    | str j => obtain ⟨t', rfl⟩ := ry; exact PySem.EqMixed.eq_bool_str (fin_bl I q (by simp))
    | _ => exact absurd (show false = true from hs) Bool.false_ne_true
  | int i =>
    obtain ⟨t, rfl⟩ := rx
    cases y with
    | non => cases ry; exact PySem.EqNone.eq_int_none (fin_bl I q (by simp))
    | int j => obtain ⟨t', rfl⟩ := ry; exact eq_int (fin_bl I q dec_int)
    | str j => obtain ⟨t', rfl⟩ := ry; exact PySem.EqMixed.eq_int_str (fin_bl I q (by simp))
    | _ => exact absurd (show false = true from hs) Bool.false_ne_true
  | str i =>
    obtain ⟨t, rfl⟩ := rx
    cases y with
    | non => cases ry; exact PySem.EqNone.eq_str_none (fin_bl I q (by simp))
    | bl j => cases ry; exact PySem.EqMixed.eq_str_bool (fin_bl I q (by simp))
    | int j => obtain ⟨t', rfl⟩ := ry; exact PySem.EqMixed.eq_str_int (fin_bl I q (by simp))
    | str j => obtain ⟨t', rfl⟩ := ry; exact eq_str (fin_bl I q dec_str)
    | _ => exact absurd (show false = true from hs) Bool.false_ne_true
  | byt i =>
    obtain ⟨t, rfl⟩ := rx
    cases y with
    | byt j => obtain ⟨t', rfl⟩ := ry; exact PySem.W.eq_bytes (fin_bl I q dec_byt)
    | _ => exact absurd (show false = true from hs) Bool.false_ne_true
  | _ => cases y <;> exact absurd (show false = true from hs) Bool.false_ne_true
theorem op_ne : OpR X (compareOp .NotEq) rNe := by
  intro pins s σ H x y v u Q I rx ry h
  obtain ⟨hs, q⟩ := h
  cases x with
  | non =>
    cases rx
    cases y with
    | non => cases ry; exact PySem.EqNone.ne_none_none (fin_bl I q (by simp))
    | bl j => cases ry; exact PySem.EqNone.ne_none_bool (fin_bl I q (by simp))
    | int j => obtain ⟨t', rfl⟩ := ry; exact PySem.EqNone.ne_none_int (fin_bl I q (by simp))
    | str j => obtain ⟨t', rfl⟩ := ry; exact PySem.EqNone.ne_none_str (fin_bl I q (by simp))
    | _ => exact absurd (show false = true from hs) Bool.false_ne_true
  | bl i =>
    cases rx
    cases y with
    | non => cases ry; exact PySem.EqNone.ne_bool_none (fin_bl I q (by simp))
    | bl j => cases ry; exact ne_bool (fin_bl I q (congrArg not dec_bl))
    | str j => obtain ⟨t', rfl⟩ := ry; exact PySem.EqMixed.ne_bool_str (fin_bl I q (by simp))
    | _ => exact absurd (show false = true from hs) Bool.false_ne_true
  | int i =>
    obtain ⟨t, rfl⟩ := rx
    cases y with
    | non => cases ry; exact PySem.EqNone.ne_int_none (fin_bl I q (by simp))
    | int j => obtain ⟨t', rfl⟩ := ry; exact ne_int (fin_bl I q (congrArg not dec_int))
    | str j => obtain ⟨t', rfl⟩ := ry; exact PySem.EqMixed.ne_int_str (fin_bl I q (by simp))
    | _ => exact absurd (show false = true from hs) Bool.false_ne_true
  | str i =>
    obtain ⟨t, rfl⟩ := rx
    cases y with
    | non => cases ry; exact PySem.EqNone.ne_str_none (fin_bl I q (by simp))
    | bl j => cases ry; exact PySem.EqMixed.ne_str_bool (fin_bl I q (by simp))
    | int j => obtain ⟨t', rfl⟩ := ry; exact PySem.EqMixed.ne_str_int (fin_bl I q (by simp))
    | str j => obtain ⟨t', rfl⟩ := ry; exact ne_str (fin_bl I q (congrArg not dec_str))
    | _ => exact absurd (show false = true from hs) Bool.false_ne_true
  | byt i =>
    obtain ⟨t, rfl⟩ := rx
    cases y with
    | byt j => obtain ⟨t', rfl⟩ := ry; exact PySem.W.ne_bytes (fin_bl I q (congrArg not dec_byt))
    | _ => exact absurd (show false = true from hs) Bool.false_ne_true
  | _ => cases y <;> exact absurd (show false = true from hs) Bool.false_ne_true

theorem op_lt : OpR X (compareOp .Lt) (rI0 fun i j => .bl (decide (i < j))) := opB0 fun _ _ _ _ _ _ _ q => lt_int q
theorem op_le : OpR X (compareOp .LtE) (rI0 fun i j => .bl (decide (i ≤ j))) := opB0 fun _ _ _ _ _ _ _ q => le_int q
theorem op_gt : OpR X (compareOp .Gt) (rI0 fun i j => .bl (decide (j < i))) := opB0 fun _ _ _ _ _ _ _ q => gt_int q
theorem op_ge : OpR X (compareOp .GtE) (rI0 fun i j => .bl (decide (j ≤ i))) := opB0 fun _ _ _ _ _ _ _ q => ge_int q
theorem nomark (b : Expr) {op : CmpOp} (h : op ≠ .In := by decide) (h2 : op ≠ .NotIn := by decide) : behindInMarks op b = false := by
  have e1 : (op == CmpOp.In) = false := by cases op <;> first | rfl | exact absurd rfl h
  have e2 : (op == CmpOp.NotIn) = false := by cases op <;> first | rfl | exact absurd rfl h2
  cases b <;> simp [behindInMarks, e1, e2]
/-- a comparison as a value; hm: nomark b, or (for in, not in) by with_unfolding_all rfl -/
theorem pe_cmpR {op : CmpOp} {r : R2} (ho : OpR X (compareOp op) r) (ha : PE X a ta) (hb : PE X b tb) (hm : behindInMarks op b = false) : PE X (.Compare a [op] [b] pos) (tOp r ta tb) := by
  intro pins s σ H Q I h
  exact wpAny_Compare1 (binT ha hb I h fun v u s2 x y H2 I2 rx ry q => ho pins s2 σ H2 x y v u Q I2 rx ry q) hm
/-- a reading of a value as a test -/
def tTest (t : TE) : TT := fun σ H Q => t σ H fun x H' => ∃ k, x = .bl k ∧ Q k H'
theorem pt_cmpR {op : CmpOp} {r : R2} (ho : OpR X (compareOp op) r) (ha : PE X a ta) (hb : PE X b tb) (hm : behindInMarks op b = false) : PT X (.Compare a [op] [b] pos) (tTest (tOp r ta tb)) := by
  intro pins s σ H Q I h
  refine wpAny_isTrue_Compare1 (thn (ha pins s σ H _ I h) fun v s1 ⟨x, H1, I1, r1, q1⟩ => thn (hb pins s1 σ H1 _ I1 q1) fun u s2 ⟨y, H2, I2, r2, q2⟩ =>
    thn (ho pins s2 σ H2 x y v u _ I2 r1 r2 q2) fun c s3 ⟨z, H3, I3, r3, k, e, q3⟩ => ?_) hm
  subst e
  cases r3
  exact wpAny_truthy_bool ⟨H3, I3, q3⟩
theorem line63 : (sizeLine : Nat) < 2 ^ 63 := by rw [sizeLine_eq]; decide
theorem vals1 {x : V} {us : List Value} (r : Vals [x] us) : ∃ u, us = [u] ∧ RelV x u := by
  cases r with
  | cons r1 r2 => cases r2; exact ⟨_, rfl, r1⟩
theorem vals2 {x y : V} {us : List Value} (r : Vals [x, y] us) : ∃ u w', us = [u, w'] ∧ RelV x u ∧ RelV y w' := by
  cases r with
  | cons r1 r2 =>
    cases r2 with
    | cons r3 r4 => cases r4; exact ⟨_, _, rfl, r1, r3⟩
theorem call_max2 (hc : X.calm = true) : CallR X (.builtin "max") (fun xs H Q => ∃ i j, xs = [.int i, .int j] ∧ Q (.int (if j > i then j else i)) H) := by
  intro pins s σ H xs us Q I r h
  obtain ⟨i, j, rfl, q⟩ := h
  obtain ⟨u, w', rfl, ⟨t, rfl⟩, ⟨t', rfl⟩⟩ := vals2 r
  refine max_two_ints (I.ok.hd hc) fun h' tk k => ⟨_, H, I.kept k, ?_, q⟩
  by_cases hj : j > i
  · rw [if_pos hj, if_pos hj]; exact ⟨_, rfl⟩
  · rw [if_neg hj, if_neg hj]; exact ⟨_, rfl⟩
end
end L2

namespace L2
open PySem PySem.Spec PyProof.Rows

structure ObjM (h : Heap) (x dx C : Addr) (mA : Str → Option Value) : Prop where
  obj : h.get? x = some (PySem.W.instObj C dx)
  ns : h.Ns1 dx mA
  ne : dx ≠ x

theorem lookIn_ns {h : Heap} {dx : Addr} {mA : Str → Option Value} (n : h.Ns1 dx mA) : ∃ od, h.get? dx = some od ∧ ∀ name, PySem.W.lookIn name od = some (mA name) := by
  obtain ⟨o, es, ep, ho, hd, hk, _, hm⟩ := n
  refine ⟨o, ho, fun name => ?_⟩
  have e := hm name
  unfold nsFind findBy at e
  rw [← Array.find?_toList] at e
  unfold PySem.W.lookIn
  rw [hd]
  dsimp only
  split
  · rename_i y q
    rw [q] at e
    exact congrArg some e
  · rename_i q
    rw [q] at e
    have a : es.toList.any (·.refKey) = false := by
      rw [List.any_eq_false]
      intro y hy
      obtain ⟨z, t, hkey⟩ := hk y (Array.mem_toList_iff.mp hy)
      simp [DictEntry.refKey, hkey]
    have a' : ¬ es.toList.any (·.refKey) = true := by rw [a]; exact Bool.false_ne_true
    rw [if_neg a']
    exact congrArg some e

theorem ObjM.look {h : Heap} {x dx C : Addr} {mA : Str → Option Value} (I : ObjM h x dx C mA) : ∃ od, PySem.W.InstAt h x (PySem.W.instObj C dx) C (some od) ∧ ∀ name, PySem.W.lookIn name od = some (mA name) :=
  let ⟨od, ho, hl⟩ := lookIn_ns I.ns
  ⟨od, ⟨I.obj, rfl, rfl, ho⟩, hl⟩

section
variable {prog : Program} {w : World} {A : Around} {E : Value → Shared → Prop} {s : Shared} {K : PySem.W.Frag} {x dx C f : Addr} {mA : Str → Option Value} {name : Str} {v : Value}

theorem get_map {expr : Bool} {Q : Value → Shared → Prop} (X : K.In s.heap) (I : ObjM s.heap x dx C mA) (hg : PySem.W.plainGet K C name = true) (hh : PySem.W.hasDictIn K C = true)
    (ha : PySem.W.findIn K (.ref C) name = some none) (hv : mA name = some v) (hv' : PySem.W.handedIn v = true) (h : Q v { s with toks := s.toks + 1 }) :
    wpAny (model prog w) A (getAttr (.ref x) name expr) Q E s := by
  obtain ⟨od, J, hl⟩ := I.look
  exact PySem.W.get_value X J (PySem.W.plainGet_of hg).1 (PySem.W.findObj_own hh ha rfl (by rw [hl, hv])) hv' h

theorem set_map {ns : List Str} {Q : Unit → Shared → Prop} (X : K.In s.heap) (I : ObjM s.heap x dx C mA)
    (hs : PySem.W.findIn K (.ref C) "__setattr__" = some (some (.builtin "object.__setattr__"))) (hp : PySem.W.plainOver K C = true) (ht : PySem.W.takerIn K C name = some none) (hh : PySem.W.hasDictIn K C = true)
    (hw : PySem.Within mA ns) (hsz : ns.length ≤ sizeLine)
    (h : ∀ h', ObjM h' x dx C (fun y => if y = name then some v else mA y) → Heap.SameBut dx s.heap h' → Q () { s with heap := h', toks := s.toks + 2 }) :
    wpAny (model prog w) A (setAttr (.ref x) name v) Q E s := by
  obtain ⟨od, J, hl⟩ := I.look
  refine PySem.W.set_plain X J hs (PySem.W.osa_open (s := { s with toks := s.toks + 1 }) (r := none) X J hp ht fun b => ?_)
  obtain ⟨cd, hc, hd'⟩ := PySem.W.any_some hh
  have hx : s.heap.get? x = some ⟨.ref C, some dx, .plain, #[]⟩ := I.obj
  refine wpAny_bind (wpAny_pure (wpAny_bind (wpAny_bind (wpAny_loadPart hx (wpAny_bind (PySem.W.Looks.here (s := { s with toks := s.toks + 1 }) (PySem.W.looks_clsIn X hc) ?_))))))
  rw [hd']
  refine wpAny_pure (a := some dx) (wpAny_bind (wpAny_pure (wpAny_bind ?_)))
  refine wpAny_nsSet1 (s := { s with toks := s.toks + 1 }) I.ns fun h' hn2 hs2 => ?_
  obtain ⟨oD, esD, epD, hoD, hdD, hcD⟩ := hn2.count (PySem.Within.cons name v hw)
  refine wpAny_bind (wpAny_lookBehind hoD (by rw [hdD]; exact pastItsLine_dict (Nat.le_trans hcD (by rw [List.length_cons]; omega))) ?_)
  exact wpAny_pure (h _ ⟨(hs2.2 _ (Ne.symm I.ne)).trans I.obj, hn2, I.ne⟩ hs2)

/-- C(..): the dict at the heap's end, the instance behind it; then its __init__ -/
theorem make_map {R : Result → Shared → Prop} {vs : List Value} {kw : List (Str × Value)} (X : K.In s.heap) (hm : PySem.W.makesIn K C = true)
    (hi : PySem.W.findIn K (.ref C) "__init__" = some (some (.ref f))) (hf : PySem.W.typeIn K (.ref f) = some (.type "function"))
    (h : codeAny (model prog w) (A.under (.builtin "type.__call__" ⟨.ref C :: vs, kw⟩)) (.call (.ref f) ⟨.ref (s.heap.objs.size + 1) :: vs, kw⟩) (PySem.W.InitBack (s.heap.objs.size + 1) R)
      { s with heap := (s.heap.push PySem.W.emptyDict).push (PySem.W.instObj C s.heap.objs.size) }) :
    codeAny (model prog w) A (.call (.ref C) ⟨vs, kw⟩) R s := by
  obtain ⟨hh, g, d, t, os⟩ := s
  exact PySem.W.make_core (PySem.W.makes_of X hm) (PySem.W.looks_findIn X hi) (fun self => PySem.W.bind_fn X self hf) (.inl rfl) h
end

def putF (f : Str) (v : V) : List (Str × V) → List (Str × V)
  | [] => [(f, v)]
  | (g, x) :: r => if g = f then (g, v) :: r else (g, x) :: putF f v r
theorem lookup_putF (f g : Str) (v : V) : ∀ fs : List (Str × V), (putF f v fs).lookup g = if g = f then some v else fs.lookup g
  | [] => by
    show List.lookup g [(f, v)] = _
    by_cases h : g = f
    · have hb : (g == f) = true := beq_iff_eq.mpr h
      simp only [List.lookup, hb, if_pos h]
    · have hb : (g == f) = false := beq_eq_false_iff_ne.mpr h
      simp only [List.lookup, hb, if_neg h]
  | (k, x) :: r => by
    have ih := lookup_putF f g v r
    rw [show putF f v ((k, x) :: r) = (if k = f then (k, v) :: r else (k, x) :: putF f v r) from rfl]
    by_cases hk : k = f
    · rw [if_pos hk]
      by_cases h : g = k
      · have hb : (g == k) = true := beq_iff_eq.mpr h
        simp only [List.lookup, hb, if_pos (h.trans hk)]
      · have hb : (g == k) = false := beq_eq_false_iff_ne.mpr h
        simp only [List.lookup, hb, if_neg (fun e : g = f => h (e.trans hk.symm))]
    · rw [if_neg hk]
      by_cases h : g = k
      · have hb : (g == k) = true := beq_iff_eq.mpr h
        simp only [List.lookup, hb, if_neg (fun e : g = f => hk (h.symm.trans e))]
      · have hb : (g == k) = false := beq_eq_false_iff_ne.mpr h
        simp only [List.lookup, hb]
        exact ih
theorem keys_putF (f : Str) (v : V) : ∀ fs : List (Str × V), f ∈ (putF f v fs).map (·.1) ∧ ∀ g, g ∈ fs.map (·.1) → g ∈ (putF f v fs).map (·.1)
  | [] => ⟨by simp [putF], fun g h => by simp at h⟩
  | (k, x) :: r => by
    obtain ⟨i1, i2⟩ := keys_putF f v r
    rw [show putF f v ((k, x) :: r) = (if k = f then (k, v) :: r else (k, x) :: putF f v r) from rfl]
    by_cases hk : k = f
    · rw [if_pos hk]
      subst hk
      exact ⟨by simp, fun g h => by simpa using h⟩
    · rw [if_neg hk]
      refine ⟨?_, fun g h => ?_⟩
      · rw [List.map_cons]
        exact List.mem_cons_of_mem _ i1
      · rw [List.map_cons] at h ⊢
        rcases List.mem_cons.mp h with e | e
        · exact List.mem_cons.mpr (.inl e)
        · exact List.mem_cons_of_mem _ (i2 g e)
theorem length_putF (f : Str) (v : V) : ∀ fs : List (Str × V), (putF f v fs).length ≤ fs.length + 1
  | [] => by simp [putF]
  | (k, x) :: r => by
    have ih := length_putF f v r
    rw [show putF f v ((k, x) :: r) = (if k = f then (k, v) :: r else (k, x) :: putF f v r) from rfl]
    by_cases hk : k = f
    · rw [if_pos hk, List.length_cons, List.length_cons]; omega
    · rw [if_neg hk, List.length_cons, List.length_cons]; omega

theorem RelO.some_of {v : V} {o : Option Value} (r : RelO (some v) o) : ∃ u, o = some u ∧ RelV v u := by
  cases o with
  | none => exact (show False from r).elim
  | some u => exact ⟨u, rfl, r⟩
theorem handed_of {v : V} {u : Value} (r : RelV v u) : PySem.W.handedIn u = true := by
  cases v with
  | non => cases (show u = Value.none from r); rfl
  | bl b => cases (show u = Value.bool b from r); rfl
  | int i => obtain ⟨t, e⟩ := (show ∃ t, u = Value.int i t from r); cases e; rfl
  | str x => obtain ⟨t, e⟩ := (show ∃ t, u = Value.str x t from r); cases e; rfl
  | byt b => obtain ⟨t, e⟩ := (show ∃ t, u = Value.bytes b t from r); cases e; rfl
  | flt b => obtain ⟨t, e⟩ := (show ∃ t, u = Value.float b t from r); cases e; rfl
  | ref a => cases (show u = Value.ref a from r); rfl
  | ty n => cases (show u = Value.type n from r); rfl

section
variable {P : Program} {w : World} {H H' : Hp} {h h' : Heap} {a C dx : Addr} {fs fs' : List (Str × V)}
theorem ins_get (hok : HOk P w H h) (e : H a = some (.ins C dx fs)) : ∃ mA, ObjM h a dx C mA ∧ (∀ f, RelO (fs.lookup f) (mA f)) ∧ PySem.Within mA (fs.map (·.1)) ∧ fs.length ≤ 1000 ∧ H dx = some (.own a) := by
  obtain ⟨d, z, ne, ob, mA, n, r, q⟩ := (show ObjOk P w H h a (.ins C dx fs) from hok a _ e)
  exact ⟨mA, ⟨ob, n, ne⟩, r, q, z, d⟩
end

structure Cls (K : PySem.W.Frag) (C : Addr) : Prop where
  pg : PySem.W.plainGet K C Str.empty = true
  hd : PySem.W.hasDictIn K C = true
  po : PySem.W.plainOver K C = true
  sa : PySem.W.findIn K (.ref C) "__setattr__" = some (some (.builtin "object.__setattr__"))
theorem Cls.get {K : PySem.W.Frag} {C : Addr} (c : Cls K C) (f : Str) : PySem.W.plainGet K C f = true := c.pg
/-- no class of it has the name -/
def NoAttr (K : PySem.W.Frag) (C : Addr) (f : Str) : Prop := PySem.W.findIn K (.ref C) f = some none
theorem NoAttr.taker {K : PySem.W.Frag} {C : Addr} {f : Str} (n : NoAttr K C f) : PySem.W.takerIn K C f = some none := by
  unfold PySem.W.takerIn
  rw [show PySem.W.findIn K (.ref C) f = some none from n]
  rfl
section
variable {X : Cx} {pins : List (Addr × Obj)} {σ : St} {H : Hp} {s : Shared} {a C dx : Addr} {fs : List (Str × V)} {f : Str} {v : V} {A : Around} {E : Value → Shared → Prop}

theorem getattr_ok {b : Bool} {Q : Value → Shared → Prop} (I : Inv X pins σ H s) (e : H a = some (.ins C dx fs)) (c : Cls X.K C) (n : NoAttr X.K C f) (l : fs.lookup f = some v)
    (h : ∀ u s', Inv X pins σ H s' → RelV v u → Q u s') : wpAny (model X.prog X.w) A (getAttr (.ref a) f b) Q E s := by
  obtain ⟨mA, O, r, _, _, _⟩ := ins_get I.hok e
  obtain ⟨u, hu, ru⟩ := RelO.some_of (v := v) (o := mA f) (by rw [← l]; exact r f)
  exact get_map I.kIn O (c.get f) c.hd n hu (handed_of ru) (h u _ (I.tok _) ru)

theorem setattr_ok {y : V} {u : Value} {Q : Unit → Shared → Prop} (I : Inv X pins σ H s) (e : H a = some (.ins C dx fs)) (c : Cls X.K C) (n : NoAttr X.K C f) (hl : fs.length < 1000) (ry : RelV y u)
    (h : ∀ s', Inv X pins σ (upd H a (.ins C dx (putF f y fs))) s' → Q () s') : wpAny (model X.prog X.w) A (setAttr (.ref a) f u) Q E s := by
  obtain ⟨mA, O, r, wi, _, ho⟩ := ins_get I.hok e
  have hz : (fs.map (·.1)).length ≤ sizeLine := by rw [List.length_map, sizeLine_eq]; omega
  refine set_map I.kIn O c.sa c.po n.taker c.hd wi hz fun h' O' sb => h _ ?_
  have hd : ∃ o, h'.get? dx = some o := let ⟨o, _, _, e', _⟩ := O'.ns; ⟨o, e'⟩
  refine I.write (x := a) (e := dx) (by rw [e]; exact True.intro) (.inr ho) (fun b q hb z => (sb.2 b hb).trans z) hd ?_
  refine ⟨by rw [upd_ne O.ne]; exact ho, ?_, O.ne, O'.obj, _, O'.ns, fun g => ?_, fun g hg => ?_⟩
  · have := length_putF f y fs; omega
  · show RelO ((putF f y fs).lookup g) (if g = f then some u else mA g)
    rw [lookup_putF]
    by_cases q : g = f
    · rw [if_pos q, if_pos q]; exact ry
    · rw [if_neg q, if_neg q]; exact r g
  · by_cases q : g = f
    · rw [q]; exact (keys_putF f y fs).1
    · refine (keys_putF f y fs).2 g (wi g fun z => hg ?_)
      show (if g = f then some u else mA g) = none
      rw [if_neg q]; exact z

/-- a new instance, tracked, without attributes -/
theorem Inv.made (I : Inv X pins σ H s) : Inv X pins σ (upd (upd H s.heap.objs.size (.own (s.heap.objs.size + 1))) (s.heap.objs.size + 1) (.ins C s.heap.objs.size []))
    { s with heap := (s.heap.push PySem.W.emptyDict).push (PySem.W.instObj C s.heap.objs.size) } := by
  have e1 : (s.heap.push PySem.W.emptyDict).get? s.heap.objs.size = some PySem.W.emptyDict := Heap.get?_push_size s.heap rfl
  have e2 : ((s.heap.push PySem.W.emptyDict).push (PySem.W.instObj C s.heap.objs.size)).get? (s.heap.objs.size + 1) = some (PySem.W.instObj C s.heap.objs.size) := by
    have := Heap.get?_push_size (s.heap.push PySem.W.emptyDict) (o := PySem.W.instObj C s.heap.objs.size) rfl
    rwa [Heap.size_push] at this
  have e3 : (s.heap.push PySem.W.emptyDict).Ns s.heap.objs.size (fun _ => none) := ⟨PySem.W.emptyDict, #[], _, e1, rfl, (fun e he => absurd he (by simp)), fun _ => rfl⟩
  have I1 := I.laid (a := s.heap.objs.size) (o := .own (s.heap.objs.size + 1)) (h' := s.heap.push PySem.W.emptyDict) (t' := s.toks) (fun b u q => Heap.get?_push_of_some _ q) (Nat.le_refl _) ⟨_, e1⟩
  refine I1.laid (a := s.heap.objs.size + 1) (o := .ins C s.heap.objs.size []) (t' := s.toks) (fun b u q => Heap.get?_push_of_some _ q) (Nat.le_of_eq (Heap.size_push _ _)) ?_
  have ne : s.heap.objs.size ≠ s.heap.objs.size + 1 := Nat.ne_of_lt (Nat.lt_succ_self _)
  refine ⟨by rw [upd_ne ne, upd_same], Nat.zero_le _, ne, e2, fun _ => none, (Heap.Ns1.of_empty e3).at fun o q => Heap.get?_push_of_some _ q, fun _ => True.intro, fun y hy => absurd rfl hy⟩

/-- e.f where nothing but the object is asked: through attributeBase (super) and the last hold -/
theorem attr_of {prog : Program} {w : World} {env : Env} {e : Expr} {f : Str} {pos : Pos} {s : Shared} {Q : Value → Shared → Prop} (hb : attributeBase e f env (eval e env) = eval e env)
    (h : wpAny (model prog w) A (eval e env) (fun o s₁ => wpAny (model prog w) A (getAttr o f true) Q E s₁) E s) : wpAny (model prog w) A (eval (.Attribute e f pos) env) Q E s :=
  Attribute_any_ h (by rw [arm_eval_Attribute, hb])
end

/-- e.f, an attribute of the instance -/
def tFld (K : PySem.W.Frag) (ta : TE) (f : Str) : TE := fun σ H Q => ta σ H fun x H1 => ∃ a C dx fs v, x = .ref a ∧ H1 a = some (.ins C dx fs) ∧ Cls K C ∧ NoAttr K C f ∧ fs.lookup f = some v ∧ Q v H1
/-- e.f = value -/
def sFld (K : PySem.W.Frag) (ta tv : TE) (f : Str) : TS := fun D σ H => tv σ H fun y H1 => ta σ H1 fun x H2 => ∃ a C dx fs, x = .ref a ∧ H2 a = some (.ins C dx fs) ∧ Cls K C ∧ NoAttr K C f ∧ fs.length < 1000 ∧
  D.nx σ (upd H2 a (.ins C dx (putF f y fs)))
section
variable {X : Cx} {o e value : Expr} {f : Str} {pos pos' tpos : Pos} {ta tv : TE}
theorem pe_fld (he : PE X e ta) (hb : attributeBase e f X.env (eval e X.env) = eval e X.env) : PE X (.Attribute e f pos) (tFld X.K ta f) := by
  intro pins s σ H Q I h
  refine attr_of hb (thn (he pins s σ H _ I h) fun u s1 ⟨x, H1, I1, rx, a, C, dx, fs, v, ex, ea, c, n, l, q⟩ => ?_)
  subst ex
  obtain rfl : u = Value.ref a := rx
  exact getattr_ok I1 ea c n l fun u' s2 I2 ru => ⟨v, H1, I2, ru, q⟩
theorem ps_fld (ha : PE X o ta) (hv : PE X value tv) (hs : swapsWith value (some (.Attribute o f pos')) pos.line X.env = pure false) : PS X (.Assign [.Attribute o f pos'] value pos) (sFld X.K ta tv f) := by
  intro pins s σ H D I h
  refine plainObj_wpAny_Assign_Attribute (thn (hv pins s σ H _ I h) fun u s1 ⟨y, H1, I1, ry, q⟩ => thn (ha pins s1 σ H1 _ I1 q) fun ov s2 ⟨x, H2, I2, rx, a, C, dx, fs, ex, ea, c, n, l, q2⟩ => ?_) hs
  subst ex
  obtain rfl : ov = Value.ref a := rx
  exact setattr_ok I2 ea c n l ry fun s3 I3 => ⟨σ, _, I3, q2⟩
end

section
variable {X : Cx} {pins : List (Addr × Obj)} {σ : St} {H : Hp} {s : Shared} {A : Around} {E : Value → Shared → Prop} {Q : Value → Shared → Prop} {c : Value} {b : Bool}
end
end L2

namespace L2
open PySem PySem.Spec PyProof.Rows

structure Room (k : Nat) (A : Around) : Prop where
  hd : A.handled = none
  dp : A.depth + 3 * k + 5 < recursionLimit
  un : A.units + 16 * k + 200 < cLine
theorem Room.mono {j k : Nat} {A : Around} (r : Room k A) (h : j ≤ k) : Room j A := ⟨r.hd, by have := r.dp; omega, by have := r.un; omega⟩
theorem Room.deeper {k : Nat} {A : Around} (r : Room (k + 1) A) (env : Env) : Room k (A.deeper env) :=
  ⟨r.hd, by have := r.dp; show A.depth + 1 + 3 * k + 5 < _; omega, by have := r.un; show A.units + 3 + 16 * k + 200 < _; omega⟩
theorem Room.in1 {k : Nat} {A : Around} (r : Room (k + 1) A) : Room k A.in1 :=
  ⟨r.hd, by have := r.dp; show A.depth + 3 * k + 5 < _; omega, by have := r.un; show A.units + 1 + 16 * k + 200 < _; omega⟩
theorem make_depth {A : Around} {C : Addr} {us : List Value} {kw : List (Str × Value)} : (A.under (.builtin "type.__call__" ⟨.ref C :: us, kw⟩)).depth = A.depth + 1 := by
  first | rfl | simp [Around.under, Code.weight, Code.isCreation, Code.isGuard, Code.isCaller, Code.frames, Code.isFrame, guardIds]
theorem make_units {A : Around} {C : Addr} {us : List Value} {kw : List (Str × Value)} : (A.under (.builtin "type.__call__" ⟨.ref C :: us, kw⟩)).units = A.units + 1 := by
  first | rfl | simp [Around.under, Code.cUnits, Code.frames, Code.isFrame]
theorem Room.make {k : Nat} {A : Around} (r : Room (k + 1) A) (C : Addr) (us : List Value) (kw : List (Str × Value)) : Room k (A.under (.builtin "type.__call__" ⟨.ref C :: us, kw⟩)) :=
  ⟨r.hd, by have := r.dp; rw [make_depth]; omega, by have := r.un; rw [make_units]; omega⟩
theorem Room.depth {k : Nat} {A : Around} (r : Room k A) : A.depth < recursionLimit := by have := r.dp; omega
theorem Room.units {k : Nat} {A : Around} (r : Room k A) : A.units + 64 < cLine := by have := r.un; omega
def tNil : TA := fun _ H Q => Q [] H
def tCons (ta : TE) (tr : TA) : TA := fun σ H Q => ta σ H fun x H1 => tr σ H1 fun xs H2 => Q (x :: xs) H2
section
variable {X : Cx} {e : Expr} {es : List Expr} {te : TE} {t : TA} {pos : Pos}
theorem pa_nil : PA X [] tNil := fun _ _ _ _ H Q I h => Calls.spliced_nil ⟨[], H, I, .nil, h⟩
theorem pa_cons (ha : PE X e te) (hr : PA X es t) (hs : starEach (e :: es) X.env = (false, eval e X.env) :: starEach es X.env := by rfl) : PA X (e :: es) (tCons te t) := by
  intro pos pins s σ H Q I h
  rw [hs]
  show wpAny _ _ (spliced ((false, eval e X.env) :: backTo pos (starEach es X.env))) _ _ s
  refine Calls.spliced_cons (thn (ha pins s σ H _ I h) fun u s1 ⟨x, H1, I1, r1, q1⟩ => ?_)
  exact thn (hr pos pins s1 σ H1 _ I1 q1) fun us s2 ⟨xs, H2, I2, r2, q2⟩ => ⟨x :: xs, H2, I2, .cons r1 r2, q2⟩

/-- a tuple, a list of written items -/
def tTup (t : TA) : TE := fun σ H Q => t σ H fun xs H1 => xs.length ≤ sizeLine ∧ ∀ p, H1 p = none → Q (.ref p) (upd H1 p (.tup xs))
def tLst (t : TA) : TE := fun σ H Q => t σ H fun xs H1 => xs.length ≤ sizeLine ∧ ∀ p, H1 p = none → Q (.ref p) (upd H1 p (.lst xs))
theorem pe_tup {x1} (h : PA X es t) : PE X (.Tuple es x1 pos) (tTup t) := by
  intro pins s σ H Q I hq
  refine wpAny_Tuple_spliced (thn (h pos pins s σ H _ I hq) fun us s1 ⟨xs, H1, I1, r, z, q⟩ => ⟨by rw [← r.length]; exact z, ?_⟩)
  have hf : H1 s1.heap.objs.size = none := I1.hok.fresh (Nat.le_refl _)
  refine ⟨.ref s1.heap.objs.size, upd H1 s1.heap.objs.size (.tup xs), I1.laid (t' := s1.toks) (fun b u e => Heap.get?_push_of_some _ e) (Nat.le_refl _) ?_, rfl, q _ hf⟩
  exact ⟨z, us, r, ⟨_, Heap.get?_push_size _ rfl, rfl, _, rfl⟩⟩
theorem pe_lst (h : PA X es t) : PE X (.List es pos) (tLst t) := by
  intro pins s σ H Q I hq
  refine wpAny_List_spliced (thn (h pos pins s σ H _ I hq) fun us s1 ⟨xs, H1, I1, r, z, q⟩ => ⟨by rw [← r.length]; exact z, ?_⟩)
  have hf : H1 s1.heap.objs.size = none := I1.hok.fresh (Nat.le_refl _)
  refine ⟨.ref s1.heap.objs.size, upd H1 s1.heap.objs.size (.lst xs), I1.laid (t' := s1.toks) (fun b u e => Heap.get?_push_of_some _ e) (Nat.le_refl _) ?_, rfl, q _ hf⟩
  exact ⟨z, us, 0, r, Heap.get?_push_size _ rfl⟩
end

/-- a def's promise: the bound arguments in the parameters' order, the heap, the wanted end, the wanted exception -/
abbrev Sp := List V → Hp → VK → XK → Prop
/-- how an exception lies behind a call (file 08 gives it): the callers' frames, abstract heap and state ahead of the call, the wish, the exception, the state -/
abbrev CXT := List Env → Hp → Shared → XK → Value → Shared → Prop

/-- the state at a call -/
structure Env0 (P : Program) (w : World) (K : PySem.W.Frag) (mg : Str → Option Value) (base : Heap) (A : Around) (outer : List Env) (s : Shared) (H : Hp) : Prop where
  frames : A.frames = some outer
  mod : Mod K mg base
  bs : ∀ b o, base.get? b = some o → s.heap.get? b = some o ∧ H b = none
  bsz : base.objs.size ≤ s.heap.objs.size
  funs : s.heap.FunFrames base outer
  frf : ∀ b ∈ frs outer, H b = none
  hok : HOk P w H s.heap
  bare : AllBare s.gens
/-- a call's end -/
def CE (outer : List Env) (P : Program) (w : World) (H : Hp) (s : Shared) (Q : VK) (u : Value) (s' : Shared) : Prop :=
  ∃ v H', s'.os = s.os ∧ AllBare s'.gens ∧ Un (frs outer) [] H H' s.heap s'.heap ∧ HOk P w H' s'.heap ∧ RelV v u ∧ Q v H'
def CR (CX : CXT) (outer : List Env) (P : Program) (w : World) (H : Hp) (s : Shared) (Q : VK) (E : XK) (r : Result) (s' : Shared) : Prop :=
  match r with
  | .ok (.ret u) => CE outer P w H s Q u s'
  | .ok _ => False
  | .error e => CX outer H s E e s'
structure FnOk (P : Program) (w : World) (K : PySem.W.Frag) (mg : Str → Option Value) (base : Heap) (CX : CXT) (k : Nat) (f : Addr) (fd : FuncData) (ps : List Str) (sp : Sp) : Prop where
  len : ∀ vs H Q E, sp vs H Q E → vs.length = ps.length
  run : ∀ (A : Around) (outer : List Env) (s : Shared) (H : Hp) (args : Args) (us : List Value) (vs : List V) (Q : VK) (E : XK), Room k A → Env0 P w K mg base A outer s H → BindsTo s fd args (ps.zip us) → Vals vs us → sp vs H Q E →
    codeAny (model P w) A (.call (.ref f) args) (CR CX outer P w H s Q E) s
theorem FnOk.mono {P : Program} {w : World} {K : PySem.W.Frag} {mg : Str → Option Value} {base : Heap} {CX : CXT} {j k : Nat} {f : Addr} {fd : FuncData} {ps : List Str} {sp : Sp} (F : FnOk P w K mg base CX j f fd ps sp) (h : j ≤ k) :
    FnOk P w K mg base CX k f fd ps sp := ⟨F.len, fun A outer s H args us vs Q E hr => F.run A outer s H args us vs Q E (hr.mono h)⟩
/-- a weaker promise -/
theorem FnOk.imp {P : Program} {w : World} {K : PySem.W.Frag} {mg : Str → Option Value} {base : Heap} {CX : CXT} {k : Nat} {f : Addr} {fd : FuncData} {ps : List Str} {sp sp' : Sp} (F : FnOk P w K mg base CX k f fd ps sp)
    (h : ∀ vs H Q E, sp' vs H Q E → sp vs H Q E) : FnOk P w K mg base CX k f fd ps sp' :=
  ⟨fun vs H Q E q => F.len vs H Q E (h _ _ _ _ q), fun A outer s H args us vs Q E hr he hb hv hs => F.run A outer s H args us vs Q E hr he hb hv (h _ _ _ _ hs)⟩

theorem Env0.make {P : Program} {w : World} {K : PySem.W.Frag} {mg : Str → Option Value} {base : Heap} {A : Around} {outer : List Env} {s : Shared} {H : Hp} (e : Env0 P w K mg base A outer s H) (C : Addr) (us : List Value) (kw : List (Str × Value)) :
    Env0 P w K mg base (A.under (.builtin "type.__call__" ⟨.ref C :: us, kw⟩)) outer s H := ⟨by first | exact e.frames | (simpa [Around.under, Code.envs, Code.isFrame, pushEnvs] using e.frames), e.mod, e.bs, e.bsz, e.funs, e.frf, e.hok, e.bare⟩
theorem Env0.in1 {P : Program} {w : World} {K : PySem.W.Frag} {mg : Str → Option Value} {base : Heap} {A : Around} {outer : List Env} {s : Shared} {H : Hp} (e : Env0 P w K mg base A outer s H) :
    Env0 P w K mg base A.in1 outer s H := ⟨e.frames, e.mod, e.bs, e.bsz, e.funs, e.frf, e.hok, e.bare⟩

section
variable {X : Cx} {pins : List (Addr × Obj)} {σ : St} {H : Hp} {s s' : Shared}
/-- from a body: what a callee wants -/
theorem Inv.env0 (I : Inv X pins σ H s) : Env0 X.prog X.w X.K X.mg X.base X.A X.stack s H :=
  ⟨I.ok.frames, I.ok.mod, I.bs, Nat.le_trans I.ok.bsz I.sz, I.stack, I.stkFree, I.hok, I.bare⟩
/-- behind a call -/
theorem Inv.after {Q : VK} {u : Value} (I : Inv X pins σ H s) (h : CE X.stack X.prog X.w H s Q u s') : EP X pins σ Q u s' := by
  obtain ⟨v, H', os, bare, un, hok, r, q⟩ := h
  obtain ⟨hh, g, d, t, os'⟩ := s'
  obtain rfl : os' = s.os := os
  exact ⟨v, H', I.call (h' := hh) (g' := g) (d' := d) (t' := t) (ch := []) un hok bare (fun b z => absurd z (by simp)), r, q⟩
end

/-- f(..): the written arguments, then the defaults dvs; E: what is wanted of an exception -/
def tCall (sp : Sp) (dvs : List V) (E : XK) (t : TA) : TE := fun σ H Q => t σ H fun vs H1 => sp (vs ++ dvs) H1 Q E
/-- C(..): a new instance and its dict, then __init__ -/
def tMake (C : Addr) (sp : Sp) (dvs : List V) (E : XK) (t : TA) : TE := fun σ H Q => t σ H fun vs H1 => ∀ x dx, H1 x = none → H1 dx = none → dx ≠ x →
  sp (.ref x :: (vs ++ dvs)) (upd (upd H1 dx (.own x)) x (.ins C dx [])) (fun v H2 => v = .non ∧ Q (.ref x) H2) E

/-- how the parameters are bound: us the positional arguments, kw the keywords' values by name, ds the defaults that fill up -/
def Binds (K : PySem.W.Frag) (fd : FuncData) (ps : List Str) (ds : List Value) : Prop :=
  ∀ (s : Shared) (us : List Value), K.In s.heap → (us ++ ds).length = ps.length → BindsTo s fd ⟨us, []⟩ (ps.zip (us ++ ds))
/-- every parameter is given -/
theorem Binds.all {K : PySem.W.Frag} {fd : FuncData} {ps : List Str} (h : ∀ us : List Value, us.length = ps.length → bindArgs fd ⟨us, []⟩ = pure (ps.zip us)) : Binds K fd ps [] := fun s us _ hl => by
  rw [List.append_nil] at hl ⊢
  exact .of_eq (h us hl)

/-- an exception of a callee reaches what this body wants of exceptions -/
def Passes (CX : CXT) (X : Cx) (E : XK) : Prop := ∀ (pins : List (Addr × Obj)) (σ : St) (H : Hp) (s : Shared) (e : Value) (s' : Shared), Inv X pins σ H s → CX X.stack H s E e s' → X.xe e s'

section
variable {X : Cx} {CX : CXT} {k : Nat} {f C : Addr} {fd : FuncData} {ps : List Str} {sp : Sp} {dvs : List V} {ds : List Value} {E : XK} {x m : Str} {p pos apos : Pos} {e o : Expr} {es : List Expr} {ta : TE} {t : TA}

/-- the callee runs -/
theorem run_fn {pins : List (Addr × Obj)} {σ : St} {H : Hp} {s : Shared} {Q : VK} {us : List Value} {vs : List V} (F : FnOk X.prog X.w X.K X.mg X.base CX k f fd ps sp) (hr : Room k X.A) (hb : Binds X.K fd ps ds) (hd : Vals dvs ds) (hx : Passes CX X E)
    (I : Inv X pins σ H s) (r : Vals vs us) (h : sp (vs ++ dvs) H Q E) : wpAny (model X.prog X.w) X.A (call (.ref f) us) (EP X pins σ Q) X.xe s := by
  have r2 : Vals (vs ++ dvs) (us ++ ds) := r.append hd
  have hl : (us ++ ds).length = ps.length := by rw [← r2.length]; exact F.len _ _ _ _ h
  refine wpAny_call (codeAny_mono (F.run X.A X.stack s H ⟨us, []⟩ (us ++ ds) (vs ++ dvs) Q E hr I.env0 (hb s us I.kIn hl) r2 h) fun r s' hq => ?_)
  cases r with
  | error e => exact hx pins σ H s e s' I hq
  | ok fl =>
    cases fl with
    | ret u => exact I.after hq
    | next => exact False.elim hq
    | brk => exact False.elim hq
    | cont => exact False.elim hq

theorem pe_call (F : FnOk X.prog X.w X.K X.mg X.base CX k f fd ps sp) (hr : Room k X.A) (hg : Gl X x) (hm : X.mg x = some (.ref f)) (hk : PySem.W.keepIn X.K (.ref f) = true) (hb : Binds X.K fd ps ds) (hd : Vals dvs ds) (hx : Passes CX X E)
    (ha : PA X (e :: es) t) (hdb : (x == ("__debug__" : Str)) = false := by decide) (he : starEach (e :: es) X.env = (false, eval e X.env) :: starEach es X.env := by rfl) (hpl : (backTo pos (starEach es X.env)).any (·.1) = false := by rfl) :
    PE X (.Call (.Name x p) (e :: es) [] pos) (tCall sp dvs E t) := by
  intro pins s σ H Q I h
  refine wpAny_Call_Name_kw (ld_glob I hg hm ?_ hdb)
  refine PySem.W.callWith_K (h₀ := X.base) I.ok.mod.kin hk (thn (ha pos pins s σ H _ I h) fun us s1 ⟨vs, H1, I1, r, q⟩ => ⟨I1.kIn, ?_⟩) he hpl
  exact run_fn F hr hb hd hx I1 r q
/-- what a class must have to be made -/
structure Mk (K : PySem.W.Frag) (C f : Addr) : Prop where
  makes : PySem.W.makesIn K C = true
  init : PySem.W.findIn K (.ref C) "__init__" = some (some (.ref f))
  fn : PySem.W.isFn K (.ref f) = true
  kp : PySem.W.keepIn K (.ref C) = true

theorem run_make {pins : List (Addr × Obj)} {σ : St} {H : Hp} {s : Shared} {Q : VK} {us : List Value} {vs : List V} (M : Mk X.K C f) (F : FnOk X.prog X.w X.K X.mg X.base CX k f fd ps sp) (hr : Room (k + 1) X.A) (hb : Binds X.K fd ps ds) (hd : Vals dvs ds)
    (hx : Passes CX X E) (I : Inv X pins σ H s) (r : Vals vs us)
    (h : ∀ x dx, H x = none → H dx = none → dx ≠ x → sp (.ref x :: (vs ++ dvs)) (upd (upd H dx (.own x)) x (.ins C dx [])) (fun v H2 => v = .non ∧ Q (.ref x) H2) E) :
    wpAny (model X.prog X.w) X.A (call (.ref C) us) (EP X pins σ Q) X.xe s := by
  have hq := h (s.heap.objs.size + 1) s.heap.objs.size (I.hok.fresh (Nat.le_succ _)) (I.hok.fresh (Nat.le_refl _)) (Nat.ne_of_lt (Nat.lt_succ_self _))
  have I2 := Inv.made (C := C) I
  have r2 : Vals (V.ref (s.heap.objs.size + 1) :: (vs ++ dvs)) (Value.ref (s.heap.objs.size + 1) :: (us ++ ds)) := .cons rfl (r.append hd)
  have hl : (Value.ref (s.heap.objs.size + 1) :: us ++ ds).length = ps.length := by
    have e := r2.length
    rw [F.len _ _ _ _ hq] at e
    exact e.symm
  refine wpAny_call (make_map (f := f) I.kIn M.makes M.init (beq_iff_eq.mp M.fn) (codeAny_mono (F.run _ X.stack _ _ ⟨Value.ref (s.heap.objs.size + 1) :: us, []⟩ (Value.ref (s.heap.objs.size + 1) :: (us ++ ds)) _ _ E (hr.make C us [])
    (I2.env0.make C us []) (hb _ (Value.ref (s.heap.objs.size + 1) :: us) I2.kIn hl) r2 hq) fun r s' hq' => ?_))
  cases r with
  | error e => exact hx pins σ _ _ e s' I2 hq'
  | ok fl =>
    cases fl with
    | ret u =>
      obtain ⟨v, H', I3, rv, ev, q3⟩ := I2.after hq'
      subst ev
      exact ⟨rv, ⟨V.ref (s.heap.objs.size + 1), H', I3, rfl, q3⟩⟩
    | next => exact False.elim hq'
    | brk => exact False.elim hq'
    | cont => exact False.elim hq'
theorem pe_make (M : Mk X.K C f) (F : FnOk X.prog X.w X.K X.mg X.base CX k f fd ps sp) (hr : Room (k + 1) X.A) (hg : Gl X x) (hm : X.mg x = some (.ref C)) (hb : Binds X.K fd ps ds) (hd : Vals dvs ds) (hx : Passes CX X E)
    (ha : PA X (e :: es) t) (hdb : (x == ("__debug__" : Str)) = false := by decide) (he : starEach (e :: es) X.env = (false, eval e X.env) :: starEach es X.env := by rfl) (hpl : (backTo pos (starEach es X.env)).any (·.1) = false := by rfl) :
    PE X (.Call (.Name x p) (e :: es) [] pos) (tMake C sp dvs E t) := by
  intro pins s σ H Q I h
  refine wpAny_Call_Name_kw (ld_glob I hg hm ?_ hdb)
  refine PySem.W.callWith_K (h₀ := X.base) I.ok.mod.kin M.kp (thn (ha pos pins s σ H _ I h) fun us s1 ⟨vs, H1, I1, r, q⟩ => ⟨I1.kIn, ?_⟩) he hpl
  exact run_make M F hr hb hd hx I1 r q
theorem pe_make0 (M : Mk X.K C f) (F : FnOk X.prog X.w X.K X.mg X.base CX k f fd ps sp) (hr : Room (k + 1) X.A) (hg : Gl X x) (hm : X.mg x = some (.ref C)) (hb : Binds X.K fd ps ds) (hd : Vals dvs ds) (hx : Passes CX X E)
    (hdb : (x == ("__debug__" : Str)) = false := by decide) : PE X (.Call (.Name x p) [] [] pos) (tMake C sp dvs E tNil) := by
  intro pins s σ H Q I h
  refine wpAny_Call_Name_kw (ld_glob I hg hm ?_ hdb)
  exact PySem.W.callWith_K0 I.kIn M.kp (run_make (us := []) M F hr hb hd hx I .nil h)
end

/-- the values of the keywords, from the left -/
def PK (X : Cx) (kws : List Keyword) (t : TA) : Prop :=
  ∀ (pos : Pos) (pins : List (Addr × Obj)) (s : Shared) (σ : St) (H : Hp) (Q : List V → Hp → Prop), Inv X pins σ H s → t σ H Q → wpAny (model X.prog X.w) X.A (evalAll ((backToKw pos (keywordEach kws X.env)).map (·.2))) (AP X pins σ Q) X.xe s
section
variable {X : Cx} {CX : CXT} {k : Nat} {f C : Addr} {fd : FuncData} {ps ks : List Str} {sp : Sp} {E : XK} {x m : Str} {p pos apos kpos : Pos} {e o : Expr} {es : List Expr} {kws : List Keyword} {te ta : TE} {t tk : TA} {nm : Option Str}
theorem pk_nil : PK X [] tNil := fun _ _ _ _ H Q I h => wpAny_evalAll_nil ⟨[], H, I, .nil, h⟩
theorem pk_cons (ha : PE X e te) (hr : PK X kws t) : PK X (⟨nm, e, kpos⟩ :: kws) (tCons te t) := by
  intro pos pins s σ H Q I h
  show wpAny _ _ (evalAll ((do let v ← eval e X.env; standAt pos; pure v) :: (backToKw pos (keywordEach kws X.env)).map (·.2))) _ _ s
  refine wpAny_evalAll_cons (wpAny_bind (thn (ha pins s σ H _ I h) fun u s1 ⟨x, H1, I1, r1, q1⟩ => wpAny_bind (wpAny_standAt (wpAny_pure ?_))))
  exact thn (hr pos pins s1 σ H1 _ I1 q1) fun us s2 ⟨xs, H2, I2, r2, q2⟩ => ⟨x :: xs, H2, I2, .cons r1 r2, q2⟩

variable {g : List Value → List Value → List Value} {gV : List V → List V → List V}
end

/-- names: the parameters first -/
structure FnScope (N P : List Str) (sc : Scope) : Prop where
  kind : sc.kind = .function
  co : sc.isCoroutine = false
  gen : sc.isGenerator = false
  nd : N.Nodup
  pre : N.take P.length = P
  par : ∀ x ∈ P, sc.names.lookup x = some .local ∨ sc.names.lookup x = some .cell
  nofree : ∀ y ∈ sc.names, y.2 ≠ .free

theorem bindL_out {kindOf : Str → Option NameKind} {x : Str} : ∀ {binds : List (Str × Value)} {m : Str → Option Value}, (∀ v, (x, v) ∉ binds) → bindL kindOf binds m x = m x
  | [], _, _ => rfl
  | (n, v) :: r, m, h => by
    unfold bindL
    rw [bindL_out fun w hw => h w (List.mem_cons_of_mem _ hw)]
    split
    · have : x ≠ n := by rintro rfl; exact h v List.mem_cons_self
      simp [this]
    · rfl
theorem bindC_out {kindOf : Str → Option NameKind} {x : Str} : ∀ {binds : List (Str × Value)} {m : Str → Option Value}, (∀ v, (x, v) ∉ binds) → bindC kindOf binds m x = m x
  | [], _, _ => rfl
  | (n, v) :: r, m, h => by
    unfold bindC
    rw [bindC_out fun w hw => h w (List.mem_cons_of_mem _ hw)]
    split
    · rfl
    · have : x ≠ n := by rintro rfl; exact h v List.mem_cons_self
      simp [this]
theorem bindL_get {kindOf : Str → Option NameKind} {x : Str} {v : Value} : ∀ {P : List Str} {vs : List Value} {i : Nat} {m : Str → Option Value}, P.Nodup → P[i]? = some x → vs[i]? = some v → kindOf x = some .local →
    bindL kindOf (P.zip vs) m x = some v
  | [], _, _, _, _, h, _, _ => by simp at h
  | _ :: _, [], _, _, _, _, h, _ => by simp at h
  | p :: P, w :: vs, 0, m, nd, h1, h2, hk => by
    simp at h1 h2; subst h1; subst h2
    show bindL kindOf ((p, w) :: P.zip vs) m p = _
    unfold bindL
    rw [bindL_out fun v hv => (List.nodup_cons.mp nd).1 (List.of_mem_zip hv).1, if_pos hk]
    simp
  | p :: P, w :: vs, i + 1, m, nd, h1, h2, hk => by
    show bindL kindOf ((p, w) :: P.zip vs) m x = _
    unfold bindL
    exact bindL_get (i := i) (List.nodup_cons.mp nd).2 (by simpa using h1) (by simpa using h2) hk
theorem bindC_get {kindOf : Str → Option NameKind} {x : Str} {v : Value} : ∀ {P : List Str} {vs : List Value} {i : Nat} {m : Str → Option Value}, P.Nodup → P[i]? = some x → vs[i]? = some v → kindOf x ≠ some .local →
    bindC kindOf (P.zip vs) m x = some v
  | [], _, _, _, _, h, _, _ => by simp at h
  | _ :: _, [], _, _, _, _, h, _ => by simp at h
  | p :: P, w :: vs, 0, m, nd, h1, h2, hk => by
    simp at h1 h2; subst h1; subst h2
    show bindC kindOf ((p, w) :: P.zip vs) m p = _
    unfold bindC
    rw [bindC_out fun v hv => (List.nodup_cons.mp nd).1 (List.of_mem_zip hv).1, if_neg hk]
    simp
  | p :: P, w :: vs, i + 1, m, nd, h1, h2, hk => by
    show bindC kindOf ((p, w) :: P.zip vs) m x = _
    unfold bindC
    exact bindC_get (i := i) (List.nodup_cons.mp nd).2 (by simpa using h1) (by simpa using h2) hk

/-- the names' values at the entry -/
def start (N : List Str) (vs : List V) : St := vs.map some ++ List.replicate (N.length - vs.length) none

/-- the context of a def's body, at its entry; an exception leaves the frame, then lies as CX says -/
def cxOf (CX : CXT) (P : Program) (w : World) (K : PySem.W.Frag) (mg : Str → Option Value) (base : Heap) (N : List Str) (qual : Str) (scope : Scope) (f : Addr) (cd : Value) (A : Around) (outer : List Env) (s : Shared) (H : Hp) (E : XK) : Cx where
  prog := P
  w := w
  K := K
  mg := mg
  base := base
  A := A.deeper (envOfC qual scope s.heap.objs.size f cd)
  N := N
  s_0 := s
  H_0 := H
  env := envOfC qual scope s.heap.objs.size f cd
  outer := outer
  stack := envOfC qual scope s.heap.objs.size f cd :: outer
  ex := []
  calm := true
  fn := fun _ => true
  pn := []
  xe := fun e s' => wpAny (model P w) (A.deeper (envOfC qual scope s.heap.objs.size f cd)) (leaving (envOfC qual scope s.heap.objs.size f cd) e) (fun _ s'' => CX outer H s E e s'') (fun e' s'' => CX outer H s E e' s'') s'

theorem cell_has {sc : Scope} {n : Nat} {x : Str} (h : sc.names.lookup x = some .cell) : ∃ c, (cellsFrom n sc.names []).lookup x = some c := by
  have q := PySem.W.cellsFrom_some sc.names n [] (.inl h)
  exact Option.isSome_iff_exists.mp q

theorem inv_start {CX : CXT} {P : Program} {w : World} {K : PySem.W.Frag} {mg : Str → Option Value} {base : Heap} {N ps : List Str} {qual : Str} {scope : Scope} {f : Addr} {cd : Value} {A : Around} {outer : List Env} {s s1 : Shared} {H : Hp} {E : XK} {us : List Value} {vs : List V}
    (S : FnScope N ps scope) (hd : A.handled = none) (e0 : Env0 P w K mg base A outer s H) (hl : vs.length = ps.length) (r : Vals vs us)
    (x : InCallC s s.heap.objs.size (bindL (envOfC qual scope s.heap.objs.size f cd).kindOf (ps.zip us) fun _ => none) (cellsFrom (s.heap.objs.size + 1) scope.names []) (bindC (envOfC qual scope s.heap.objs.size f cd).kindOf (ps.zip us) fun _ => none) s1) :
    Inv (cxOf CX P w K mg base N qual scope f cd A outer s H E) [] (start N vs) H s1 := by
  have hpl : ps.length ≤ N.length := by have := congrArg List.length S.pre; rw [List.length_take] at this; omega
  obtain ⟨h1, tk, rfl, hk⟩ := x.done
  have noA : ∀ b : Addr, b ∉ (cxOf CX P w K mg base N qual scope f cd A outer s H E).ex := fun b z => absurd (show b ∈ ([] : List Addr) from z) (by simp)
  refine ⟨⟨e0.mod, S.kind, rfl, rfl, Nat.le_refl _, fun y z c h1 h2 => ?_, fun y hy => ?_, fun y c _ h => ?_, fun _ => hd, Around.frames_deeper e0.frames, .inr ⟨rfl, rfl⟩, fun b z => absurd z (noA b), e0.bs, e0.bsz, fun b _ _ => noA b, fun b z => absurd z (noA b), e0.funs, e0.frf⟩,
    rfl, e0.bare, Un.kept hk, ⟨_, x.toInCall.ns, fun i y v h1 h2 h3 => ?_⟩, fun y c h => ⟨_, x.cell y c h⟩, e0.hok.fresh (Nat.le_refl _), fun y c h => ?_, fun p hp => absurd (show p ∈ ([] : List (Addr × Obj)) from hp) (by simp), e0.hok.kept hk, ?_⟩
  · exact name_of_addr x.apart (PySem.mem_of_lookup h1) (PySem.mem_of_lookup h2)
  · have hy : scope.names.lookup y = some .cell ∨ scope.names.lookup y = some .free := hy
    rcases hy with hy | hy
    · exact cell_has hy
    · exact absurd rfl (S.nofree _ (PySem.mem_of_lookup hy))
  · exact Nat.le_of_lt (x.above y c (PySem.mem_of_lookup h))
  · have hi : i < vs.length := by
      unfold start at h2
      by_cases hi : i < vs.length
      · exact hi
      · rw [List.getElem?_append_right (by simpa using hi)] at h2
        rw [List.getElem?_replicate] at h2
        split at h2 <;> cases h2
    have ha : vs[i]? = some v := by
      unfold start at h2
      rw [List.getElem?_append_left (by simpa using hi), List.getElem?_map] at h2
      cases e : vs[i]? with
      | none => rw [e] at h2; cases h2
      | some a => rw [e] at h2; cases h2; rfl
    obtain ⟨u, hu, rv⟩ := r.get ha
    have hp : ps[i]? = some y := by
      rw [← S.pre, List.getElem?_take_of_lt (by omega)]; exact h1
    have ndP : ps.Nodup := by rw [← S.pre]; exact S.nd.sublist (List.take_sublist _ _)
    refine ⟨u, rv, ?_⟩
    rcases S.par y (List.mem_of_getElem? hp) with k | k
    · exact .inl ⟨k, bindL_get ndP hp hu k⟩
    · obtain ⟨c, e⟩ := cell_has (n := s.heap.objs.size + 1) k
      refine .inr ⟨.inl k, c, e, ?_⟩
      have q := x.cell y c e
      rw [bindC_get ndP hp hu (by show scope.names.lookup y ≠ _; rw [k]; decide)] at q
      exact q
  · exact e0.hok.fresh (Nat.le_of_lt (x.above y c (PySem.mem_of_lookup h)))
  · unfold start
    show _ = N.length
    rw [List.length_append, List.length_map, List.length_replicate]
    omega

/-- THE RULE: a def (or a method) of the text, by its body. The body's reading t is chosen for each entry; it is run at the parameters' values -/
theorem fn_of {CX : CXT} {P : Program} {w : World} {K : PySem.W.Frag} {mg : Str → Option Value} {base : Heap} {k : Nat} {f : Addr} {name qual : Str} {params : Arguments} {body : List Stmt} {scope : Scope} {dV kV doc pm cdv ct oc : Value} {an od : Option Addr}
    {osl : Array (Option Value)} {N ps : List Str} {sp : Sp} (lk : K.lookup f = some ⟨oc, od, .func (PySem.W.fnOf name qual params body scope dV kV doc pm an cdv ct), osl⟩) (hcd : PySem.W.codeIn K cdv qual = true) (S : FnScope N ps scope)
    (len : ∀ vs H Q E, sp vs H Q E → vs.length = ps.length)
    (hbody : ∀ (A : Around) (outer : List Env) (s : Shared) (H : Hp) (vs : List V) (Q : VK) (E : XK), Room k (A.deeper (envOfC qual scope s.heap.objs.size f cdv)) → sp vs H Q E →
      ∃ t, PSs (cxOf CX P w K mg base N qual scope f cdv A outer s H E) body t ∧ t { nx := fun _ H' => Q .non H', rt := Q } (start N vs) H) :
    FnOk P w K mg base CX (k + 1) f (PySem.W.fnOf name qual params body scope dV kV doc pm an cdv ct) ps sp := by
  refine ⟨len, fun A outer s H args us vs Q E hr e0 hb r hsp => ?_⟩
  have hl := len _ _ _ _ hsp
  have KX : K.In s.heap := e0.mod.kin.keeps fun b o e => (e0.bs b o e).1
  have lim : s.heap.NoLimit := e0.mod.nolimit.keeps fun b o e => (e0.bs b o e).1
  have hkind : ∀ y ∈ ps.zip us, scope.names.lookup y.1 = some .local ∨ (scope.names.lookup y.1 = some .cell ∧ ((cellsFrom (s.heap.objs.size + 1) scope.names []).lookup y.1).isSome = true) := fun ⟨n, v⟩ hy => by
    rcases S.par n (List.of_mem_zip hy).1 with q | q
    · exact .inl q
    · exact .inr ⟨q, PySem.W.cellsFrom_some _ _ _ (.inl q)⟩
  refine codeAny_call_function hr.depth (KX _ _ lk) rfl S.co S.gen rfl (PySem.W.codeRec_of KX hcd) (hb _ _ _ _ ?_)
  refine wpAny_newFunctionEnv_cells S.kind hkind fun env he s1 x => ?_
  subst he
  refine ⟨lim.keeps x.toInCall.keep, codeAny_func ?_⟩
  obtain ⟨t, ht, hq⟩ := hbody A outer s H vs Q E (hr.deeper _) hsp
  have I : Inv (cxOf CX P w K mg base N qual scope f cdv A outer s H E) [] (start N vs) H s1 := inv_start S hr.hd e0 hl r x
  refine wpAny_mono (ht [] s1 (start N vs) H _ I hq) (fun fl s' hs => ?_) fun e s' hs => hs
  have fin : ∀ {σ' : St} {H' : Hp} {v : V} {u : Value}, Inv (cxOf CX P w K mg base N qual scope f cdv A outer s H E) [] σ' H' s' → RelV v u → Q v H' → CE outer P w H s Q u s' :=
    fun {σ' H' v u} J rv q => ⟨v, H', J.os, J.bare, J.base, J.hok, rv, q⟩
  cases fl with
  | ret u =>
    obtain ⟨v, σ', H', J, rv, q⟩ := hs
    exact fin J rv q
  | next =>
    obtain ⟨σ', H', J, q⟩ := hs
    exact fin (v := V.non) (u := Value.none) J rfl q
  | brk =>
    obtain ⟨_, _, _, q⟩ := hs
    exact False.elim q
  | cont =>
    obtain ⟨_, _, _, q⟩ := hs
    exact False.elim q
end L2

namespace L2
open PySem PySem.Spec PyProof.Rows
section
variable {X : Cx} {x : Str} {p pos : Pos} {e : Expr} {es : List Expr} {t : TA} {id T : String} {r : List V → Hp → VK → Prop}

def tCB (r : List V → Hp → VK → Prop) (t : TA) : TE := fun σ H Q => t σ H fun vs H1 => r vs H1 Q
/-- f(e, ..), f a built-in function -/
theorem pe_callB (hc : CallR X (.builtin id) r) (hg : Gl X x) (hm : X.mg x = none) (hv : bootBuiltins x = some (.builtin id)) (ha : PA X (e :: es) t) (hn : x ≠ "__name__" := by decide) (hdb : (x == ("__debug__" : Str)) = false := by decide)
    (he : starEach (e :: es) X.env = (false, eval e X.env) :: starEach es X.env := by rfl) (hpl : (backTo pos (starEach es X.env)).any (·.1) = false := by rfl) : PE X (.Call (.Name x p) (e :: es) [] pos) (tCB r t) := by
  intro pins s σ H Q I h
  refine wpAny_Call_Name_kw (ld_blt I hg hm hv ?_ hn hdb)
  exact PyProof.Rows.callWith_builtin1 (thn (ha pos pins s σ H _ I h) fun us s1 ⟨vs, H1, I1, r1, q1⟩ => hc pins s1 σ H1 vs us Q I1 r1 q1) he hpl
/-- T(e, ..), T a built-in type -/
theorem pe_callTy (hc : CallR X (.type T) r) (hg : Gl X x) (hm : X.mg x = none) (hv : bootBuiltins x = some (.type T)) (ha : PA X (e :: es) t) (hn : x ≠ "__name__" := by decide) (hdb : (x == ("__debug__" : Str)) = false := by decide)
    (he : starEach (e :: es) X.env = (false, eval e X.env) :: starEach es X.env := by rfl) (hpl : (backTo pos (starEach es X.env)).any (·.1) = false := by rfl) : PE X (.Call (.Name x p) (e :: es) [] pos) (tCB r t) := by
  intro pins s σ H Q I h
  refine wpAny_Call_Name_kw (ld_blt I hg hm hv ?_ hn hdb)
  exact PyProof.Rows.callWith_type1 (thn (ha pos pins s σ H _ I h) fun us s1 ⟨vs, H1, I1, r1, q1⟩ => hc pins s1 σ H1 vs us Q I1 r1 q1) he hpl
end
end L2

namespace HT
open PySem PyProof.Rows

section
open PySem.SeqAt
open PySem.AutoSeq1 (wpAny_loadPart')
open PySem.MeetsSeq PySem.MeetsSeq2 PySem.MeetsSeq3

end

section
variable {prog : Program} {w : World} {A : Around} {E : Value → Shared → Prop} {s : Shared}

/-- a slice's bound as a place among n (d where it is left out) -/
def sIx (n d : Nat) : Option Int → Nat
  | none => d
  | some v => if v < 0 then (v + (n : Int)).toNat else min v.toNat n
theorem sIx_nat (n d k : Nat) : sIx n d (some (k : Int)) = min k n := by
  show (if (k : Int) < 0 then ((k : Int) + (n : Int)).toNat else min (k : Int).toNat n) = min k n
  rw [if_neg (by omega), Int.toNat_natCast]
end
end HT

namespace L2
open PySem PySem.Spec PyProof.Rows

abbrev TO := St → Hp → (Option Int → Hp → Prop) → Prop
/-- a slice's part (left out, or an int) -/
def PO (X : Cx) (e : Option Expr) (t : TO) : Prop :=
  ∀ (pins : List (Addr × Obj)) (s : Shared) (σ : St) (H : Hp) (Q : Option Int → Hp → Prop), Inv X pins σ H s → t σ H Q →
    wpAny (model X.prog X.w) X.A (evalPart e X.env) (fun u s' => ∃ o H', Inv X pins σ H' s' ∧ IsPart u o ∧ Q o H') X.xe s
def tPart (t : TE) : TO := fun σ H Q => t σ H fun x H1 => ∃ i, x = .int i ∧ Q (some i) H1

section
variable {X : Cx} {e : Expr} {te : TE} {lo hi : Option Expr} {tl th : TO} {pos p2 : Pos}

theorem po_some (h : PE X e te) : PO X (some e) (tPart te) := by
  intro pins s σ H Q I hw
  rw [evalPart_some]
  refine thn (h pins s σ H _ I hw) fun u s1 ⟨x, H1, I1, r1, q1⟩ => ?_
  obtain ⟨i, rfl, q⟩ := q1
  obtain ⟨t, rfl⟩ := r1
  exact ⟨some i, H1, I1, .int i t, q⟩

/-- what a slice of a value is, by values: the slice object stands at sl -/
def SlR (X : Cx) (r : V → Option Int → Option Int → Hp → VK → Prop) : Prop :=
  ∀ (pins : List (Addr × Obj)) (s : Shared) (σ : St) (H : Hp) (x : V) (v vl vu : Value) (lo hi : Option Int) (sl : Addr) (Q : VK), Inv X pins σ H s → RelV x v → s.heap.IsSliceOf sl vl vu .none → IsPart vl lo → IsPart vu hi → r x lo hi H Q →
    ∃ T id, typeLookup (.type T) "__getitem__" = pure (some (.builtin id)) ∧ s.TypeIs v T ∧ wpAny (model X.prog X.w) X.A (getItem v (.ref sl)) (EP X pins σ Q) X.xe s
def tSl (r : V → Option Int → Option Int → Hp → VK → Prop) (te : TE) (tl th : TO) : TE := fun σ H Q => te σ H fun x H1 => tl σ H1 fun l H2 => th σ H2 fun u H3 => r x l u H3 Q
/-- a[lo:hi], any a -/
theorem pe_slice {r : V → Option Int → Option Int → Hp → VK → Prop} (hr : SlR X r) (he : PE X e te) (hl : PO X lo tl) (hu : PO X hi th) : PE X (.Subscript e (.Slice lo hi none p2) pos) (tSl r te tl th) := by
  intro pins s σ H Q I h
  refine Subscript_ (thn (he pins s σ H _ I h) fun v s1 ⟨x, H1, I1, r1, q1⟩ => ?_)
  refine wpAny_Slice (thn (hl pins s1 σ H1 _ I1 q1) fun vl s2 ⟨l, H2, I2, pl, q2⟩ => thn (hu pins s2 σ H2 _ I2 q2) fun vu s3 ⟨u, H3, I3, pu, q3⟩ => ?_)
  rw [evalPart_none]
  refine wpAny_pure ?_
  have I4 : Inv X pins σ H3 { s3 with heap := s3.heap.push { cls := .type "slice", data := .fields #[vl, vu, .none] } } := I3.kept (t' := s3.toks) fun b ob q => Heap.get?_push_of_some _ q
  obtain ⟨T, id, hT, ht, hg⟩ := hr pins { s3 with heap := s3.heap.push { cls := .type "slice", data := .fields #[vl, vu, .none] } } σ H3 x v vl vu l u s3.heap.objs.size Q I4 r1 (Heap.IsSliceOf.new ..) pl pu q3
  show wpAny (model X.prog X.w) X.A (subscriptTail e (.Slice lo hi none p2) v (.ref s3.heap.objs.size)) (EP X pins σ Q) X.xe { s3 with heap := s3.heap.push { cls := .type "slice", data := .fields #[vl, vu, .none] } }
  exact tail_any (ops := [.ref s3.heap.objs.size, v]) ht hT hg (by with_unfolding_all rfl)

/-- the items of xs[lo:hi] -/
def cutV (xs : List V) (lo hi : Option Int) : List V := (xs.drop (HT.sIx xs.length 0 lo)).take (HT.sIx xs.length xs.length hi - HT.sIx xs.length 0 lo)
theorem cutV_length (xs : List V) (lo hi : Option Int) : (cutV xs lo hi).length ≤ xs.length := by
  unfold cutV
  rw [List.length_take, List.length_drop]
  omega
end
end L2

namespace L2
open PySem PySem.Spec PyProof.Rows

/-- the place that an index of any sign means -/
def ixN (n : Nat) (i : Int) : Option Nat := if 0 ≤ i then (if i < n then some i.toNat else none) else if -(n : Int) ≤ i then some (i + n).toNat else none
def atI {α : Type} (xs : List α) (i : Int) : Option α := (ixN xs.length i).bind fun j => xs[j]?
theorem ixN_seq {n : Nat} {i : Int} {j : Nat} (h : ixN n i = some j) : seqIndex? i n = some j ∧ j < n ∧ -(n : Int) ≤ i ∧ i < n := by
  unfold ixN at h
  by_cases h0 : 0 ≤ i
  · rw [if_pos h0] at h
    by_cases h1 : i < n
    · rw [if_pos h1] at h
      have e : i.toNat = j := Option.some.inj h
      exact ⟨by rw [seqIndex_of h0 h1, e], by omega, by omega, h1⟩
    · rw [if_neg h1] at h; cases h
  · rw [if_neg h0] at h
    by_cases h1 : -(n : Int) ≤ i
    · rw [if_pos h1] at h
      have e : (i + n).toNat = j := Option.some.inj h
      exact ⟨by rw [seqIndex_neg (by omega) h1, e], by omega, h1, by omega⟩
    · rw [if_neg h1] at h; cases h
theorem atI_get {α : Type} {xs : List α} {i : Int} {v : α} (h : atI xs i = some v) : ∃ j, seqIndex? i xs.length = some j ∧ xs[j]? = some v ∧ j < xs.length ∧ -(xs.length : Int) ≤ i ∧ i < xs.length := by
  unfold atI at h
  cases e : ixN xs.length i with
  | none => rw [e] at h; cases h
  | some j =>
    rw [e] at h
    obtain ⟨h1, h2, h3, h4⟩ := ixN_seq e
    exact ⟨j, h1, h, h2, h3, h4⟩
theorem atI_nat {α : Type} {xs : List α} {j : Nat} {v : α} (h : xs[j]? = some v) : atI xs (j : Int) = some v := by
  have hj : j < xs.length := (List.getElem?_eq_some_iff.mp h).1
  have e : ixN xs.length (j : Int) = some j := by
    unfold ixN
    rw [if_pos (by omega), if_pos (by omega)]; simp
  unfold atI; rw [e]; exact h
/-- what stands as an index of a plain subscript -/
def PlainIx (b : Expr) : Prop := ∀ o i, subscripted b false o i = operate [o, i] (getItem o i)
/-- a subscript by values -/
def IxR (X : Cx) (r : R2) : Prop :=
  ∀ (value slice : Expr) (pins : List (Addr × Obj)) (s : Shared) (σ : St) (H : Hp) (x y : V) (v u : Value) (Q : VK), Inv X pins σ H s → RelV x v → RelV y u → r x y H Q →
    subscripted slice false v u = operate [v, u] (getItem v u) → wpAny (model X.prog X.w) X.A (subscriptTail value slice v u) (EP X pins σ Q) X.xe s
/-- a call of a builtin's method by values: the receiver, the arguments -/
def MtR (X : Cx) (id : String) (r : V → List V → Hp → VK → Prop) : Prop :=
  ∀ (pins : List (Addr × Obj)) (s : Shared) (σ : St) (H : Hp) (x : V) (xs : List V) (v : Value) (us : List Value) (Q : VK), Inv X pins σ H s → RelV x v → Vals xs us → r x xs H Q →
    wpAny (model X.prog X.w) X.A (call (.builtin id) (v :: us)) (EP X pins σ Q) X.xe s
section
variable {X : Cx} {a b : Expr} {ta tb : TE} {pos : Pos}
/-- a[b] -/
theorem pe_ix {r : R2} (hr : IxR X r) (ha : PE X a ta) (hb : PE X b tb) (hs : PlainIx b) : PE X (.Subscript a b pos) (tOp r ta tb) := by
  intro pins s σ H Q I h
  exact Subscript_ (binT ha hb I h fun v u s2 x y H2 I2 rx ry q => hr a b pins s2 σ H2 x y v u Q I2 rx ry q (hs _ _))

def rIxL (K : PySem.W.Frag) : R2 := fun x y H Q => ∃ p xs i v, x = .ref p ∧ y = .int i ∧ SqL K H p xs ∧ atI xs i = some v ∧ Q v H
def rIxT (K : PySem.W.Frag) : R2 := fun x y H Q => ∃ p xs i v, x = .ref p ∧ y = .int i ∧ SqT K H p xs ∧ atI xs i = some v ∧ Q v H
theorem ix_list : IxR X (rIxL X.K) := by
  intro value slice pins s σ H x y v u Q I rx ry h hs
  obtain ⟨p, xs, i, z, rfl, rfl, hq, he, q⟩ := h
  cases rx
  obtain ⟨t, rfl⟩ := ry
  obtain ⟨its, r, pl, hz⟩ := I.list hq
  obtain ⟨j, h1, h2, h3, h4, h5⟩ := atI_get he
  obtain ⟨w, ew, rw'⟩ := r.get h2
  have hl := r.length
  have hn := line63
  have fin : EP X pins σ Q w s := ⟨z, H, I, rw', q⟩
  by_cases h0 : 0 ≤ i
  · have hj : i.toNat = j := by
      rw [seqIndex_of h0 h5] at h1
      exact Option.some.inj h1
    exact item_listR pl.isList h0 (by omega) (by rw [hj]; simpa using ew) fin hs
  · have hj : (i + (its.toArray.size : Int)).toNat = j := by
      rw [seqIndex_neg (by omega) h4] at h1
      rw [List.size_toArray, ← hl]
      exact Option.some.inj h1
    exact subscriptTail_builtinR (x := w) pl.isList.typeIs slot_list_getitem.lookup
      (wpAny_getItem_list_neg (Q := fun r s' => r = w ∧ EP X pins σ Q r s') pl.isList (by omega) (by rw [List.size_toArray] <;> omega) (by omega) (by rw [hj]; simpa using ew) ⟨rfl, fin⟩) hs
theorem ix_tup : IxR X (rIxT X.K) := by
  intro value slice pins s σ H x y v u Q I rx ry h hs
  obtain ⟨p, xs, i, z, rfl, rfl, hq, he, q⟩ := h
  cases rx
  obtain ⟨t, rfl⟩ := ry
  obtain ⟨its, r, pl, hz⟩ := I.tuple hq
  obtain ⟨j, h1, h2, h3, h4, h5⟩ := atI_get he
  obtain ⟨w, ew, rw'⟩ := r.get h2
  have hl := r.length
  have hn := line63
  have fin : EP X pins σ Q w s := ⟨z, H, I, rw', q⟩
  exact subscriptTail_builtinR (x := w) pl.typeIs slot_tuple_getitem.lookup
    (getItem_tuple (j := j) (Q := fun r s' => r = w ∧ EP X pins σ Q r s') pl (by omega) (by omega) (by rw [List.size_toArray, ← hl]; exact h1) (by simpa using ew) ⟨rfl, fin⟩) hs
theorem slice_bounds (lo hi : Option Int) (n : Nat) : (sliceBounds lo hi none n).1 = ((HT.sIx n 0 lo : Nat) : Int) ∧ (sliceBounds lo hi none n).2.1 = ((HT.sIx n n hi : Nat) : Int) ∧ (sliceBounds lo hi none n).2.2 = 1 := by
  refine ⟨?_, ?_, rfl⟩
  · cases lo with
    | none => simp [sliceBounds, HT.sIx]
    | some i =>
      simp only [sliceBounds, HT.sIx, Option.getD_none, show (1 : Int) > 0 by decide, if_true]
      by_cases h : i < 0
      · simp only [h, if_true] <;> omega
      · simp only [h, if_false] <;> omega
  · cases hi with
    | none => simp [sliceBounds, HT.sIx]
    | some i =>
      simp only [sliceBounds, HT.sIx, Option.getD_none, show (1 : Int) > 0 by decide, if_true]
      by_cases h : i < 0
      · simp only [h, if_true] <;> omega
      · simp only [h, if_false] <;> omega
theorem slicePick_cut (its : List Value) (lo hi : Option Int) : slicePick its.toArray lo hi none = ((its.drop (HT.sIx its.length 0 lo)).take (HT.sIx its.length its.length hi - HT.sIx its.length 0 lo)).toArray := by
  obtain ⟨h1, h2, h3⟩ := slice_bounds lo hi its.toArray.size
  unfold slicePick
  rw [h1, h2, h3]
  simp only [sliceRange_one, pick_run, List.size_toArray] <;> rfl
/-- xs[lo:hi] of a list: a new list -/
def rSlL (K : PySem.W.Frag) : V → Option Int → Option Int → Hp → VK → Prop := fun x lo hi H Q => ∃ a xs, x = .ref a ∧ SqL K H a xs ∧ ∀ p, H p = none → Q (.ref p) (upd H p (.lst (cutV xs lo hi)))
theorem sl_list : SlR X (rSlL X.K) := by
  intro pins s σ H x v vl vu lo hi sl Q I rx hs pl pu h
  obtain ⟨a, xs, rfl, hx, q⟩ := h
  cases rx
  obtain ⟨its, r, ht, hz⟩ := I.list hx
  have hlen := r.length
  refine ⟨"list", _, slot_list_getitem.lookup, ht.isList.typeIs, ?_⟩
  refine wpAny_getItem_list_slice ht.isList hs pl pu .none (by simp) ?_ (by rw [List.size_toArray] <;> omega)
  rw [slicePick_cut, ← hlen]
  refine ⟨.ref s.heap.objs.size, _, I.laid (t' := s.toks) (o := .lst (cutV xs lo hi)) (fun b ob q => Heap.get?_push_of_some _ q) (Nat.le_refl _) ?_, rfl, q _ (I.hok.fresh (Nat.le_refl _))⟩
  exact ⟨Nat.le_trans (cutV_length xs lo hi) hz, _, 0, (r.drop (HT.sIx xs.length 0 lo)).take (HT.sIx xs.length xs.length hi - HT.sIx xs.length 0 lo), Heap.get?_push_size _ rfl⟩

def flatV : V → Bool
  | .non => true
  | .bl _ => true
  | .int _ => true
  | .str _ => true
  | _ => false
/-- == of flat values -/
def eqV : V → V → Bool
  | .non, .non => true
  | .bl a, .bl b => a == b
  | .bl a, .int b => (if a then 1 else 0) == b
  | .int a, .bl b => a == (if b then 1 else 0)
  | .int a, .int b => a == b
  | .str a, .str b => a == b
  | _, _ => false
theorem eqAt_V {A : Around} {s : Shared} {y x : V} {u v : Value} (ry : RelV y u) (rx : RelV x v) (fy : flatV y = true) (fx : flatV x = true) : SeqAt.EqAt A s u v (eqV y x) := by
  cases y with
  | non =>
    cases ry
    cases x with
    | non => cases rx; exact SeqAt.EqAt.same _
    | bl b => cases rx; exact SeqAt.EqAt.none_bool b
    | int b => obtain ⟨t, rfl⟩ := rx; exact SeqAt.EqAt.none_int b t
    | str b => obtain ⟨t, rfl⟩ := rx; exact SeqAt.EqAt.none_str b t
    | _ => exact absurd (show false = true from fx) Bool.false_ne_true
  | bl a =>
    cases ry
    cases x with
    | non => cases rx; exact SeqAt.EqAt.bool_none a
    | bl b => cases rx; exact SeqAt.EqAt.bool_bool a b
    | int b => obtain ⟨t, rfl⟩ := rx; exact SeqAt.EqAt.bool_int a b t
    | str b => obtain ⟨t, rfl⟩ := rx; exact SeqAt.EqAt.bool_str a b t
    | _ => exact absurd (show false = true from fx) Bool.false_ne_true
  | int a =>
    obtain ⟨t', rfl⟩ := ry
    cases x with
    | non => cases rx; exact SeqAt.EqAt.int_none a t'
    | bl b => cases rx; exact SeqAt.EqAt.int_bool a t' b
    | int b => obtain ⟨t, rfl⟩ := rx; exact SeqAt.EqAt.int_int a t' b t
    | str b => obtain ⟨t, rfl⟩ := rx; exact SeqAt.EqAt.int_str a t' b t
    | _ => exact absurd (show false = true from fx) Bool.false_ne_true
  | str a =>
    obtain ⟨t', rfl⟩ := ry
    cases x with
    | non => cases rx; exact SeqAt.EqAt.str_none a t'
    | bl b => cases rx; exact SeqAt.EqAt.str_bool a t' b
    | int b => obtain ⟨t, rfl⟩ := rx; exact SeqAt.EqAt.str_int a t' b t
    | str b => obtain ⟨t, rfl⟩ := rx; exact SeqAt.EqAt.str_str a t' b t
    | _ => exact absurd (show false = true from fx) Bool.false_ne_true
  | _ => exact absurd (show false = true from fy) Bool.false_ne_true
/-- the items' answers, read off the values (a value's own answer does not lean on its token) -/
def eqU (x : V) (u : Value) : Bool := match u with
  | .none => eqV .non x
  | .bool b => eqV (.bl b) x
  | .int i _ => eqV (.int i) x
  | .str z _ => eqV (.str z) x
  | _ => false
theorem eqU_of {x y : V} {u : Value} (r : RelV y u) (f : flatV y = true) : eqU x u = eqV y x := by
  cases y with
  | non => cases r; rfl
  | bl b => cases r; rfl
  | int i => obtain ⟨t, rfl⟩ := r; rfl
  | str z => obtain ⟨t, rfl⟩ := r; rfl
  | _ => exact absurd (show false = true from f) Bool.false_ne_true
theorem any_eqU {x : V} : ∀ {xs : List V} {us : List Value}, Vals xs us → xs.all flatV = true → us.any (eqU x) = xs.any fun y => eqV y x
  | _, _, .nil, _ => rfl
  | y :: xs, u :: us, .cons r t, f => by
    rw [List.all_cons, Bool.and_eq_true] at f
    rw [List.any_cons, List.any_cons, eqU_of r f.1, any_eqU t f.2]
theorem mem_eqAt {A : Around} {s : Shared} {x : V} {v : Value} (rx : RelV x v) (fx : flatV x = true) : ∀ {xs : List V} {us : List Value}, Vals xs us → xs.all flatV = true → ∀ u ∈ us, SeqAt.EqAt A s u v (eqU x u)
  | _, _, .nil, _ => fun u hu => by cases hu
  | y :: xs, u :: us, .cons r t, f => fun u' hu => by
    rw [List.all_cons, Bool.and_eq_true] at f
    rcases List.mem_cons.mp hu with rfl | hu
    · rw [eqU_of r f.1]; exact eqAt_V r rx f.1 fx
    · exact mem_eqAt rx fx t f.2 u' hu
def inV (x : V) (xs : List V) : Bool := xs.any fun y => eqV y x
/-- x in a list or tuple of flat items -/
def rIn (K : PySem.W.Frag) (neg : Bool) : R2 := fun x y H Q => ∃ p xs, y = .ref p ∧ (SqL K H p xs ∨ SqT K H p xs) ∧ flatV x = true ∧ xs.all flatV = true ∧ Q (.bl (if neg then !inV x xs else inV x xs)) H
theorem op_in_seq : OpR X (compareOp .In) (rIn X.K false) := by
  intro pins s σ H x y v u Q I rx ry h
  obtain ⟨p, xs, rfl, hq, fx, fs, q⟩ := h
  cases ry
  rcases hq with hq | hq
  · obtain ⟨its, r, pl, hz⟩ := I.list hq
    refine SeqAt.in_listAt (eqU x) pl.isList (fun w hw => mem_eqAt rx fx r fs w (by simpa using hw)) ⟨.bl _, H, I, rfl, ?_⟩
    rw [show its.toArray.any (eqU x) = its.any (eqU x) by simp, any_eqU r fs]
    exact q
  · obtain ⟨its, r, pl, hz⟩ := I.tuple hq
    refine SeqAt.in_tupleAt (eqU x) pl (fun w hw => mem_eqAt rx fx r fs w (by simpa using hw)) ⟨.bl _, H, I, rfl, ?_⟩
    rw [show its.toArray.any (eqU x) = its.any (eqU x) by simp, any_eqU r fs]
    exact q
theorem call_len_seq : CallR X (.builtin "len") (fun xs H Q => ∃ p ys, xs = [.ref p] ∧ (SqL X.K H p ys ∨ SqT X.K H p ys) ∧ Q (.int ys.length) H) := by
  intro pins s σ H xs us Q I r h
  obtain ⟨p, ys, rfl, hq, q⟩ := h
  obtain ⟨u, rfl, rx⟩ := vals1 r
  cases rx
  have hn := line63
  rcases hq with hq | hq
  · obtain ⟨its, r', pl, hz⟩ := I.list hq
    have hlen := r'.length
    exact Calls.call_len_list pl.isList (by simp only [List.size_toArray] <;> omega) ⟨.int ys.length, H, I.tok _, ⟨s.toks + 1, by rw [List.size_toArray, hlen]⟩, q⟩
  · obtain ⟨its, r', pl, hz⟩ := I.tuple hq
    have hlen := r'.length
    exact len_tuple pl (by simp only [List.size_toArray] <;> omega) ⟨.int ys.length, H, I.tok _, ⟨s.toks + 1, by rw [List.size_toArray, hlen]⟩, q⟩
/-- the value is of that builtin type -/
def tyV (K : PySem.W.Frag) (T : String) (x : V) (H : Hp) : Prop := match x with
  | .str _ => T = "str"
  | .int _ => T = "int"
  | .ref p => (T = "list" ∧ ∃ xs, SqL K H p xs) ∨ (T = "tuple" ∧ ∃ o, K.lookup p = some o ∧ o.cls = .type "tuple" ∧ o.dict = none) ∨
      (T = "dict" ∧ ((∃ kvs, H p = some (.dK kvs)) ∨ ∃ kvs, H p = some (.dT kvs))) ∨ (T = "set" ∧ ∃ S n, H p = some (.set S n))
  | _ => False
theorem tyV_is {pins : List (Addr × Obj)} {σ : St} {H : Hp} {s : Shared} {T : String} {x : V} {v : Value} (I : Inv X pins σ H s) (r : RelV x v) (ty : tyV X.K T x H) :
    s.TypeIs v T ∧ ∀ a, v = .ref a → ∃ ob, s.heap.get? a = some ob ∧ ob.dict = none := by
  cases x with
  | str z =>
    obtain ⟨t, rfl⟩ := r
    cases (show T = "str" from ty)
    exact ⟨typeIs_str s z t, fun _ e => nomatch e⟩
  | int i =>
    obtain ⟨t, rfl⟩ := r
    cases (show T = "int" from ty)
    exact ⟨typeIs_int s i t, fun _ e => nomatch e⟩
  | ref p =>
    cases r
    rcases ty with ⟨rfl, xs, hq⟩ | ⟨rfl, o, hk, hc, hd⟩ | ⟨rfl, hk⟩ | ⟨rfl, S, n, hk⟩
    · obtain ⟨its, _, pl, _⟩ := I.list hq
      refine ⟨pl.isList.typeIs, fun a e => ?_⟩
      cases e
      obtain ⟨o, n, e, c, hd, _⟩ := pl
      exact ⟨o, e, hd⟩
    · refine ⟨⟨o, I.kIn p o hk, hc⟩, fun a e => ?_⟩
      cases e
      exact ⟨o, I.kIn _ o hk, hd⟩
    · have z : ∃ o, s.heap.get? p = some o ∧ o.ExactDict := by
        rcases hk with ⟨kvs, hk⟩ | ⟨kvs, hk⟩
        · obtain ⟨_, _, _, _, o, _, _, e, ex, _⟩ := I.hok p _ hk
          exact ⟨o, e, ex⟩
        · obtain ⟨_, _, _, _, o, _, _, e, ex, _⟩ := I.hok p _ hk
          exact ⟨o, e, ex⟩
      obtain ⟨o, e, ex⟩ := z
      refine ⟨⟨o, e, ex.1⟩, fun a e2 => ?_⟩
      cases e2
      exact ⟨o, e, ex.2.1⟩
    · obtain ⟨o, _, _, _, e, ex, _⟩ := I.hok p _ hk
      refine ⟨⟨o, e, ex.1⟩, fun a e2 => ?_⟩
      cases e2
      exact ⟨o, e, ex.2.1⟩
  | _ => exact False.elim ty
def tBM (K : PySem.W.Frag) (T : String) (r : V → List V → Hp → VK → Prop) (to : TE) (t : TA) : TE := fun σ H Q => to σ H fun x H1 => tyV K T x H1 ∧ t σ H1 fun xs H2 => r x xs H2 Q
variable {o e : Expr} {es : List Expr} {to : TE} {t : TA} {name : Str} {apos cpos : Pos} {T id : String} {r : V → List V → Hp → VK → Prop}
theorem pe_bm (pa : PlainAttrs T) (slot : Slot T name id) (hty : typeOf (.builtin id) = pure (.type "method_descriptor")) (hm : MtR X id r) (ho : PE X o to) (ha : PA X (e :: es) t)
    (hbase : attributeBase o name X.env (eval o X.env) = eval o X.env := by rfl)
    (hfew : ((backTo cpos (starEach (e :: es) X.env)).all (fun x => !x.1) && (backToKw cpos (keywordEach [] X.env)).all (fun x => x.1.isSome)
      && decide ((e :: es).length + ([] : List Keyword).length + (if ([] : List Keyword).isEmpty then 0 else 1) < 30)) = true := by rfl)
    (hline : (apos.endLine == cpos.line) = true := by rfl) (hs : starEach (e :: es) X.env = (false, eval e X.env) :: starEach es X.env := by rfl) (hplain : (backTo cpos (starEach es X.env)).any (·.1) = false := by rfl) :
    PE X (.Call (.Attribute o name apos) (e :: es) [] cpos) (tBM X.K T r to t) := by
  intro pins s σ H Q I h
  refine wpAny_Call_method_late hbase hfew hline rfl (thn (ho pins s σ H _ I h) fun v s1 ⟨x, H1, I1, r1, ty, q1⟩ => ?_)
  obtain ⟨h1, h2⟩ := tyV_is I1 r1 ty
  refine ⟨T, id, pa, slot, hty, h1, h2, ?_⟩
  have hA := ha cpos pins s1 σ H1 _ I1 q1
  rw [hs] at hA ⊢
  refine Calls.callWith_builtin (by show (false || (backTo cpos (starEach es X.env)).any (·.1)) = false; rw [hplain] <;> rfl) (Calls.evalArgs_plain ?_)
  exact thn hA fun us s2 ⟨vs, H2, I2, r2, q2⟩ => hm pins s2 σ H2 x vs v us Q I2 r1 r2 q2
/- xs.append(e), list.index on a module's tuple .. are MtR facts of 06m -/
end
end L2

namespace L2
open PySem PySem.Spec PyProof.Rows

def MtM (X : Cx) (id : String) (r : V → List V → Hp → VK → Prop) : Prop :=
  ∀ (pins : List (Addr × Obj)) (s : Shared) (σ : St) (H : Hp) (x : V) (xs : List V) (v : Value) (us : List Value) (Q : VK), Inv X pins σ H s → RelV x v → Vals xs us → r x xs H Q →
    wpAny (model X.prog X.w) X.A (call (.builtin id) (v :: us)) (EP X pins σ Q) X.xe s

theorem Vals.one : ∀ {x : V} {us : List Value}, Vals [x] us → ∃ u, us = [u] ∧ RelV x u
  | _, _, .cons r .nil => ⟨_, rfl, r⟩
section
variable {X : Cx} {pins : List (Addr × Obj)} {σ : St} {H : Hp} {s : Shared} {l b : Addr} {xs ys zs : List V}

theorem Inv.lset {its its' : List Value} {n : Nat} {f : Array Value → Array Value} {t' : Nat} (I : Inv X pins σ H s) (hH : H l = some (.lst xs))
    (e : s.heap.get? l = some { cls := .type "list", data := .seq its.toArray n }) (hf : f its.toArray = its'.toArray) (hv : Vals ys its') (hz : ys.length ≤ sizeLine) :
    Inv X pins σ (upd H l (.lst ys)) { s with heap := s.heap.update l (Obj.mapSeq f), toks := t' } := by
  have q := PySem.IsL.update e f
  rw [hf] at q
  refine I.write (x := l) (e := l) (by rw [hH]; exact trivial) (.inl rfl) (fun b' u hb hu => (Heap.get?_update_other s.heap (Obj.mapSeq f) (Ne.symm hb)).trans hu) ⟨_, q⟩ ?_
  exact ⟨hz, its', _, hv, q⟩
theorem Inv.lnew {its : List Value} {t' : Nat} (I : Inv X pins σ H s) (hv : Vals ys its) (hz : ys.length ≤ sizeLine) :
    Inv X pins σ (upd H s.heap.objs.size (.lst ys)) { s with heap := s.heap.push { cls := .type "list", data := .seq its.toArray }, toks := t' } :=
  I.laid (fun _ _ q => Heap.get?_push_of_some _ q) (Nat.le_refl _) ⟨hz, its, 0, hv, Heap.get?_push_size _ rfl⟩
theorem Inv.fresh (I : Inv X pins σ H s) : H s.heap.objs.size = none := I.hok.fresh (Nat.le_refl _)
theorem Inv.lstM (I : Inv X pins σ H s) (hH : H l = some (.lst xs)) : xs.length ≤ sizeLine ∧ ∃ (its : List Value) (n : Nat), Vals xs its ∧ xs.length = its.length ∧ s.heap.get? l = some { cls := .type "list", data := .seq its.toArray n } := by
  obtain ⟨z, its, n, r, e⟩ := I.hok l _ hH
  exact ⟨z, its, n, r, r.length, e⟩

theorem notLongL {n : Nat} (h : n ≤ sizeLine) : Builtin.List.listTooLong n = false := by
  unfold Builtin.List.listTooLong
  exact decide_eq_false (by omega)
end

section
variable {X : Cx}

def rAppend : V → List V → Hp → VK → Prop := fun x vs H Q => ∃ l xs y, x = .ref l ∧ vs = [y] ∧ H l = some (.lst xs) ∧ xs.length < sizeLine ∧ Q .non (upd H l (.lst (xs ++ [y])))
theorem mt_append : MtM X "list.append" rAppend := by
  intro pins s σ H x vs v us Q I rx rv h
  obtain ⟨l, xs, y, rfl, rfl, hH, hz, q⟩ := h
  cases rx
  obtain ⟨u, rfl, ru⟩ := rv.one
  obtain ⟨z, its, n, r, hl, e⟩ := I.lstM hH
  refine call_meets F.slot_list_append ⟨_, e, rfl⟩ F.entry_list_append (F.args_list_append_2 _ _) (PySem.list_append l its.toArray n u (by rw [List.size_toArray]; omega)) ⟨e, ?_⟩
  refine ⟨.non, _, I.lset (its' := its ++ [u]) hH e (by simp) (r.append (.cons ru .nil)) ?_, rfl, q⟩
  rw [List.length_append, List.length_singleton]
  omega

def rExtend : V → List V → Hp → VK → Prop := fun x vs H Q => ∃ l b xs zs, x = .ref l ∧ vs = [.ref b] ∧ H l = some (.lst xs) ∧ H b = some (.lst zs) ∧ xs.length + zs.length ≤ sizeLine ∧ Q .non (upd H l (.lst (xs ++ zs)))
theorem mt_extend : MtM X "list.extend" rExtend := by
  intro pins s σ H x vs v us Q I rx rv h
  obtain ⟨l, b, xs, zs, rfl, rfl, hH, hB, hz, q⟩ := h
  cases rx
  obtain ⟨u, rfl, ru⟩ := rv.one
  cases ru
  obtain ⟨z, its, n, r, hl, e⟩ := I.lstM hH
  obtain ⟨z2, its2, n2, r2, hl2, e2⟩ := I.lstM hB
  have hsz : its.toArray.size + its2.toArray.size ≤ sizeLine := by rw [List.size_toArray, List.size_toArray]; omega
  have hlong : ¬ (!its.toArray.isEmpty && Builtin.List.listTooLong (its.toArray.size + its2.toArray.size)) = true := by
    rw [notLongL hsz, Bool.and_false]
    exact Bool.false_ne_true
  refine call_meets F.slot_list_extend ⟨_, e, rfl⟩ F.entry_list_extend (F.args_list_extend_2 _ _)
    (AutoSeq1.list_extend_list_list_0 l its.toArray n b its2.toArray n2 hlong (by rw [List.size_toArray]; omega) (by omega)) ⟨e, e2, ?_⟩
  refine ⟨.non, _, I.lset (its' := its ++ its2) hH e (by simp) (r.append r2) ?_, rfl, q⟩
  rw [List.length_append]
  omega

def rCat : R2 := fun x y H Q => ∃ l b xs zs, x = .ref l ∧ y = .ref b ∧ H l = some (.lst xs) ∧ H b = some (.lst zs) ∧ xs.length + zs.length ≤ sizeLine ∧ ∀ p, H p = none → Q (.ref p) (upd H p (.lst (xs ++ zs)))
theorem op_cat : OpR X (binaryOp .Add) rCat := by
  intro pins s σ H x y v u Q I rx ry h
  obtain ⟨l, b, xs, zs, rfl, rfl, hH, hB, hz, q⟩ := h
  cases rx
  cases ry
  obtain ⟨z, its, n, r, hl, e⟩ := I.lstM hH
  obtain ⟨z2, its2, n2, r2, hl2, e2⟩ := I.lstM hB
  refine PySem.P.add_list e e2 ?_ (by rw [List.size_toArray, List.size_toArray]; omega)
  have ea : its.toArray ++ its2.toArray = (its ++ its2).toArray := by simp
  rw [ea]
  exact ⟨.ref _, _, I.lnew (t' := s.toks) (r.append r2) (by rw [List.length_append]; omega), rfl, q _ I.fresh⟩
end

section
variable {prog : Program} {w : World} {A : Around} {E : Value → Shared → Prop} {s : Shared}
end

section
variable {X : Cx}
end
end L2

namespace L2
open PySem PySem.Spec PyProof.Rows

theorem Vals.ints : ∀ {ns : List Int} {us : List Value}, Vals (ns.map V.int) us → IntsAre us ns
  | [], us, h => by
    rw [List.map_nil] at h
    cases h
    exact IntsAre.nil
  | n :: ns, us, h => by
    rw [List.map_cons] at h
    cases h with
    | cons r t =>
      obtain ⟨k, rfl⟩ := r
      exact IntsAre.cons n k (Vals.ints t)
theorem vals_of_ints : ∀ {us : List Value} {ns : List Int}, IntsAre us ns → Vals (ns.map V.int) us
  | _, _, .nil => by rw [List.map_nil]; exact Paired.nil
  | _, _, .cons n t h => by rw [List.map_cons]; exact Paired.cons (show RelV (V.int n) (Value.int n t) from ⟨t, rfl⟩) (vals_of_ints h)
theorem Vals.ref1 {a : Addr} {us : List Value} (r : Vals [V.ref a] us) : us = [Value.ref a] := by
  cases r with
  | cons r t =>
    cases t
    cases r
    rfl
section
variable {prog : Program} {w : World} {A : Around} {E : Value → Shared → Prop} {s : Shared} {l : Addr} {its : List Value} {ns : List Int} {Q : Value → Shared → Prop}
theorem sum_raw (hh : A.handled = none) (hl : s.heap.IsList l its.toArray) (hi : IntsAre its ns)
    (h : ∀ h' tk t', (∀ b o, s.heap.get? b = some o → h'.get? b = some o) → Q (.int ns.sum t') { s with heap := h', toks := tk }) : wpAny (model prog w) A (call (.builtin "sum") [.ref l]) Q E s := by
  obtain ⟨xs, e⟩ := hi.allInts.items
  have hn : numsOf (intItems xs).toList = ns := by rw [← e]; exact hi.numsOf
  rw [nums_intItems] at hn
  rw [e] at hl
  refine PySem.sum_intListG hh hl fun h' tk t' hk => ?_
  have := h h' tk t' hk
  rw [preSum_eq, List.take_of_length_le (by simp), hn]; exact this
theorem min_raw (hh : A.handled = none) (hl : s.heap.IsList l its.toArray) (hi : IntsAre its ns) (hne : 0 < ns.length)
    (h : ∀ h' tk M t', (∀ b o, s.heap.get? b = some o → h'.get? b = some o) → M ∈ ns → (∀ a, a ∈ ns → M ≤ a) → Q (.int M t') { s with heap := h', toks := tk }) : wpAny (model prog w) A (call (.builtin "min") [.ref l]) Q E s := by
  obtain ⟨xs, e⟩ := hi.allInts.items
  have hn : numsOf (intItems xs).toList = ns := by rw [← e]; exact hi.numsOf
  rw [nums_intItems] at hn
  subst hn
  rw [e] at hl
  have hsz : 0 < xs.size := by simpa using hne
  refine PySem.min_intList hh hl hsz fun v h' tk hv hk => ?_
  obtain ⟨t, rfl⟩ := intItems_at hv
  obtain ⟨h1, h2⟩ := argBest_lt (numAt xs) (xs.size - 1)
  refine h h' tk _ t hk ?_ fun a ha => ?_
  · rw [numAt_eq]; exact PySem.getD_mem (by rw [List.length_map, Array.length_toList]; omega)
  · obtain ⟨j, hj, rfl⟩ := mem_getD ha
    rw [List.length_map, Array.length_toList] at hj
    rw [← numAt_eq]; exact h2 j (by omega)
end

section
variable {X : Cx}
/-- sum(xs) of a list of ints -/
def rSum (K : PySem.W.Frag) : List V → Hp → VK → Prop := fun vs H Q => ∃ (a : Addr) (ns : List Int), vs = [V.ref a] ∧ SqL K H a (ns.map V.int) ∧ Q (.int ns.sum) H
def rMin (K : PySem.W.Frag) : List V → Hp → VK → Prop := fun vs H Q => ∃ (a : Addr) (ns : List Int), vs = [V.ref a] ∧ SqL K H a (ns.map V.int) ∧ 0 < ns.length ∧ ∀ m, m ∈ ns → (∀ y, y ∈ ns → m ≤ y) → Q (.int m) H
theorem cr_sum (hc : X.calm = true) : CallR X (.builtin "sum") (rSum X.K) := by
  intro pins s σ H vs us Q I r h
  obtain ⟨a, ns, rfl, hs, q⟩ := h
  obtain ⟨its, rv, hl, _⟩ := I.list hs
  rw [Vals.ref1 r]
  exact sum_raw (I.ok.hd hc) hl.isList rv.ints fun h' tk t' hk => ⟨.int _, H, I.kept hk, ⟨_, rfl⟩, q⟩
theorem cr_min (hc : X.calm = true) : CallR X (.builtin "min") (rMin X.K) := by
  intro pins s σ H vs us Q I r h
  obtain ⟨a, ns, rfl, hs, hne, q⟩ := h
  obtain ⟨its, rv, hl, _⟩ := I.list hs
  rw [Vals.ref1 r]
  exact min_raw (I.ok.hd hc) hl.isList rv.ints hne fun h' tk m t' hk h1 h2 => ⟨.int _, H, I.kept hk, ⟨_, rfl⟩, q m h1 h2⟩

def rSorted (K : PySem.W.Frag) : List V → Hp → VK → Prop := fun vs H Q => ∃ (a : Addr) (ns : List Int), vs = [V.ref a] ∧ SqL K H a (ns.map V.int) ∧ ns.length < 64 ∧
  ∀ (ns' : List Int) (p : Addr), ns'.Perm ns → ns'.Pairwise (· ≤ ·) → H p = none → Q (.ref p) (upd H p (.lst (ns'.map V.int)))
theorem small64 {n : Nat} (h : n < 64) : n ≤ sizeLine := by rw [sizeLine_eq]; omega
theorem cr_sorted : CallR X (.builtin "sorted") (rSorted X.K) := by
  intro pins s σ H vs us Q I r h
  obtain ⟨a, ns, rfl, hs, h64, q⟩ := h
  obtain ⟨its, rv, hl, _⟩ := I.list hs
  rw [Vals.ref1 r]
  have hi := rv.ints
  refine PyProof.Rows.sorted_ints hl.isList hi (by rw [hi.length]; exact h64) fun out ns' h1 h2 h3 => ?_
  obtain ⟨ep, he'⟩ := PyProof.Rows.sortedAll_at s.heap its out
  have hlen : (ns'.map V.int).length ≤ sizeLine := by rw [List.length_map, h2.length_eq]; exact small64 h64
  exact ⟨.ref _, upd H (s.heap.objs.size + 1) (.lst (ns'.map V.int)), I.laid (t' := s.toks) (fun _ _ => PyProof.Rows.sortedAll_old) (Nat.le_succ _) ⟨hlen, out.toList, ep, vals_of_ints h1, he'⟩, rfl, q ns' _ h2 h3 (I.hok.fresh (Nat.le_succ _))⟩
end

section
variable {X : Cx}
end

section
variable {X : Cx}
end

section
variable {X : Cx}
end

mutual
inductive Dp (K : PySem.W.Frag) (H : Hp) : V → PyData → Prop
  | non : Dp K H .non .none
  | bl (b : Bool) : Dp K H (.bl b) (.bool b)
  | int (i : Int) : Dp K H (.int i) (.int i)
  | str (x : Str) : Dp K H (.str x) (.str x)
  | lst {a : Addr} {xs : List V} {ds : List PyData} : SqL K H a xs → DpAll K H xs ds → Dp K H (.ref a) (.list ds)
  | tup {a : Addr} {xs : List V} {ds : List PyData} : SqT K H a xs → DpAll K H xs ds → Dp K H (.ref a) (.tuple ds)
inductive DpAll (K : PySem.W.Frag) (H : Hp) : List V → List PyData → Prop
  | nil : DpAll K H [] []
  | cons {v : V} {vs : List V} {d : PyData} {ds : List PyData} : Dp K H v d → DpAll K H vs ds → DpAll K H (v :: vs) (d :: ds)
end
section
variable {X : Cx} {pins : List (Addr × Obj)} {σ : St} {H : Hp} {s : Shared}
mutual
theorem Dp.reads (I : Inv X pins σ H s) : ∀ (d : PyData) (v : V) (u : Value), Dp X.K H v d → RelV v u → ∃ as, Reads s.heap u d as
  | .none, _, _, h, r => by
    cases h
    cases r
    exact ⟨_, Reads.none⟩
  | .bool b, _, _, h, r => by
    cases h
    cases r
    exact ⟨_, Reads.bool b⟩
  | .int i, _, _, h, r => by
    cases h
    obtain ⟨t, rfl⟩ := r
    exact ⟨_, Reads.int i t⟩
  | .str x, _, _, h, r => by
    cases h
    obtain ⟨t, rfl⟩ := r
    exact ⟨_, Reads.str x t⟩
  | .list ds, _, _, h, r => by
    cases h with
    | lst hs ha =>
      cases r
      obtain ⟨its, rv, ⟨o, n, ho, hc, _, hd⟩, _⟩ := I.list hs
      obtain ⟨as, hr⟩ := Dp.readsAll I ds _ its ha rv
      exact ⟨_, Reads.list ho hc hd hr⟩
  | .tuple ds, _, _, h, r => by
    cases h with
    | tup hs ha =>
      cases r
      obtain ⟨its, rv, ⟨o, ho, hc, n, hd⟩, _⟩ := I.tuple hs
      obtain ⟨as, hr⟩ := Dp.readsAll I ds _ its ha rv
      exact ⟨_, Reads.tuple ho hc hd hr⟩
  | .dict _, _, _, h, _ => by cases h
theorem Dp.readsAll (I : Inv X pins σ H s) : ∀ (ds : List PyData) (vs : List V) (us : List Value), DpAll X.K H vs ds → Vals vs us → ∃ as, ReadsAll s.heap us ds as
  | [], _, _, h, r => by
    cases h
    cases r
    exact ⟨_, ReadsAll.nil⟩
  | d :: ds, _, _, h, r => by
    cases h with
    | cons h1 h2 =>
      cases r with
      | cons r1 r2 =>
        obtain ⟨as, q1⟩ := Dp.reads I d _ _ h1 r1
        obtain ⟨bs, q2⟩ := Dp.readsAll I ds _ _ h2 r2
        exact ⟨_, ReadsAll.cons q1 q2⟩
end
end
section
variable {X : Cx}
end
end L2

namespace L2
open PySem PySem.Spec PyProof.Rows
abbrev CellAt (h : Heap) (c : Addr) (v : Option Value) : Prop := h.IsCell c v
def relS (scope sc : Scope) : Scope :=
  { scope with names := scope.names.map fun (n, k) => if (k == .free && sc.kind == .function && sc.names.lookup n == some .cell) then (n, .cell) else (n, k) }

def cloFrom (cells : List (Str × Addr)) : List (Str × NameKind) → List (Str × Addr) → List (Str × Addr)
  | [], acc => acc
  | (n, k) :: r, acc => if k == .free then cloFrom cells r ((n, (cells.lookup n).getD 0) :: acc) else cloFrom cells r acc

theorem closure_loop (env : Env) (f : Str × NameKind → List (Str × Addr) → Sem (ForInStep (List (Str × Addr))))
    (hf : ∀ n k c, f (n, k) c = if k == .free then (do let a ← cellOf env n; pure (.yield ((n, a) :: c))) else pure (.yield c)) :
    ∀ (names : List (Str × NameKind)) (acc : List (Str × Addr)), (∀ y ∈ names, y.2 = .free → ∃ c, env.cells.lookup y.1 = some c) → forIn names acc f = pure (cloFrom env.cells names acc)
  | [], acc, _ => by rw [List.forIn_nil]; rfl
  | (n, k) :: r, acc, h => by
    rw [List.forIn_cons, hf]
    have ih := fun acc => closure_loop env f hf r acc fun y hy => h y (List.mem_cons_of_mem _ hy)
    unfold cloFrom
    by_cases hk : (k == NameKind.free) = true
    · rw [if_pos hk, if_pos hk]
      obtain ⟨c, hc⟩ := h (n, k) List.mem_cons_self (by simpa using hk)
      have e : cellOf env n = pure c := by unfold cellOf; rw [hc]
      rw [e]
      have e2 : (env.cells.lookup n).getD 0 = c := by rw [hc]; rfl
      rw [e2]
      exact ih _
    · rw [if_neg hk, if_neg hk]
      exact ih _
theorem closure_ok {scope : Scope} {env : Env} (h : ∀ y ∈ scope.names, y.2 = .free → ∃ c, env.cells.lookup y.1 = some c) : closureFor scope env = pure (cloFrom env.cells scope.names []) := by
  simp only [closureFor]
  rw [closure_loop env _ (fun n k c => rfl) scope.names [] h]
  rfl

theorem mem_lookup {α : Type} : ∀ {l : List (Str × α)} {n : Str} {c : α}, (n, c) ∈ l → ∃ c', l.lookup n = some c'
  | (k, v) :: r, n, c, h => by
    rw [List.lookup_cons]
    cases hb : n == k with
    | true => exact ⟨_, rfl⟩
    | false =>
      rcases List.mem_cons.mp h with e | h
      · cases e; simp at hb
      · exact mem_lookup h

theorem cloFrom_mem {cells : List (Str × Addr)} : ∀ {names : List (Str × NameKind)} {acc : List (Str × Addr)} {n : Str} {c : Addr}, (n, c) ∈ cloFrom cells names acc → (n, c) ∈ acc ∨ ((n, .free) ∈ names ∧ c = (cells.lookup n).getD 0)
  | [], _, _, _, h => .inl h
  | (m, k) :: r, acc, n, c, h => by
    unfold cloFrom at h
    split at h
    · rename_i hk
      have hk : k = .free := by simpa using hk
      rcases cloFrom_mem h with h | ⟨h1, h2⟩
      · rcases List.mem_cons.mp h with e | h
        · cases e; exact .inr ⟨hk ▸ List.mem_cons_self, rfl⟩
        · exact .inl h
      · exact .inr ⟨List.mem_cons_of_mem _ h1, h2⟩
    · rcases cloFrom_mem h with h | ⟨h1, h2⟩
      · exact .inl h
      · exact .inr ⟨List.mem_cons_of_mem _ h1, h2⟩
theorem cloFrom_acc {cells : List (Str × Addr)} : ∀ {names : List (Str × NameKind)} {acc : List (Str × Addr)} {p : Str × Addr}, p ∈ acc → p ∈ cloFrom cells names acc
  | [], _, _, h => h
  | (m, k) :: r, acc, p, h => by
    unfold cloFrom
    split
    · exact cloFrom_acc (List.mem_cons_of_mem _ h)
    · exact cloFrom_acc h
theorem cloFrom_has {cells : List (Str × Addr)} : ∀ {names : List (Str × NameKind)} {acc : List (Str × Addr)} {n : Str}, (n, .free) ∈ names → (n, (cells.lookup n).getD 0) ∈ cloFrom cells names acc
  | (m, k) :: r, acc, n, h => by
    unfold cloFrom
    rcases List.mem_cons.mp h with e | h
    · cases e
      exact cloFrom_acc List.mem_cons_self
    · split
      · exact cloFrom_has h
      · exact cloFrom_has h

theorem cells_mem : ∀ {names : List (Str × NameKind)} {h : Heap} {acc : List (Str × Addr)} {x : Str} {c : Addr}, (x, c) ∈ cellsFrom h.objs.size names acc →
    (x, c) ∈ acc ∨ ((x, .cell) ∈ names ∧ h.objs.size ≤ c ∧ CellAt (pushCells h names) c none)
  | [], _, _, _, _, h => .inl h
  | (n, k) :: r, h, acc, x, c, hm => by
    unfold cellsFrom at hm
    unfold pushCells
    split at hm
    · rename_i hk
      rw [if_pos hk]
      have hk : k = .cell := by simpa using hk
      rw [← Heap.size_push h { cls := .type "cell", data := .cell none }] at hm
      rcases cells_mem hm with hm | ⟨h1, h2, h3⟩
      · rcases List.mem_cons.mp hm with e | hm
        · cases e
          exact .inr ⟨hk ▸ List.mem_cons_self, Nat.le_refl _, _, pushCells_keeps r _ _ _ (Heap.get?_push_size _ rfl), rfl⟩
        · exact .inl hm
      · rw [Heap.size_push] at h2
        exact .inr ⟨List.mem_cons_of_mem _ h1, Nat.le_of_succ_le h2, h3⟩
    · rename_i hk
      rw [if_neg hk]
      rcases cells_mem hm with hm | ⟨h1, h2, h3⟩
      · exact .inl hm
      · exact .inr ⟨List.mem_cons_of_mem _ h1, h2, h3⟩
theorem cells_acc : ∀ {names : List (Str × NameKind)} {n : Nat} {acc : List (Str × Addr)} {p : Str × Addr}, p ∈ acc → p ∈ cellsFrom n names acc
  | [], _, _, _, h => h
  | (m, k) :: r, n, acc, p, h => by
    unfold cellsFrom
    split
    · exact cells_acc (List.mem_cons_of_mem _ h)
    · exact cells_acc h
theorem cells_has : ∀ {names : List (Str × NameKind)} {n : Nat} {acc : List (Str × Addr)} {x : Str}, (x, .cell) ∈ names → ∃ c, (x, c) ∈ cellsFrom n names acc
  | (m, k) :: r, n, acc, x, h => by
    unfold cellsFrom
    rcases List.mem_cons.mp h with e | h
    · cases e
      exact ⟨n, cells_acc List.mem_cons_self⟩
    · split
      · exact cells_has h
      · exact cells_has h
theorem cells_inj : ∀ {names : List (Str × NameKind)} {h : Heap} {acc : List (Str × Addr)} {x y : Str} {c : Addr}, (∀ p ∈ acc, p.2 < h.objs.size) → (∀ x y c, (x, c) ∈ acc → (y, c) ∈ acc → x = y) →
    (x, c) ∈ cellsFrom h.objs.size names acc → (y, c) ∈ cellsFrom h.objs.size names acc → x = y
  | [], _, _, _, _, _, _, hi, h1, h2 => hi _ _ _ h1 h2
  | (n, k) :: r, h, acc, x, y, c, hl, hi, h1, h2 => by
    unfold cellsFrom at h1 h2
    split at h1
    · rename_i hk
      rw [if_pos hk] at h2
      rw [← Heap.size_push h { cls := .type "cell", data := .cell none }] at h1 h2
      refine cells_inj (h := h.push _) (fun p hp => ?_) (fun x y c a b => ?_) h1 h2
      · rw [Heap.size_push]
        rcases List.mem_cons.mp hp with rfl | hp
        · exact Nat.lt_succ_self _
        · exact Nat.lt_succ_of_lt (hl p hp)
      · rcases List.mem_cons.mp a with e | a <;> rcases List.mem_cons.mp b with e' | b
        · cases e; cases e'; rfl
        · cases e; exact absurd (hl _ b) (Nat.lt_irrefl _)
        · cases e'; exact absurd (hl _ a) (Nat.lt_irrefl _)
        · exact hi _ _ _ a b
    · rename_i hk
      rw [if_neg hk] at h2
      exact cells_inj hl hi h1 h2

theorem newEnv_comp {M : Model} {A : Around} {E : Value → Shared → Prop} {s : Shared} {scope : Scope} {globals : Addr} {closure : List (Str × Addr)} {qual : Str} {func : Option Addr} {code : Value} {around : Env} {builtins : Addr} {Q : Env → Shared → Prop}
    (h : Q (newEnv scope s.heap.objs.size globals (cellsFrom (s.heap.objs.size + 1) scope.names closure) qual func code (some around) builtins)
      { s with heap := pushCells (s.heap.push { cls := .type "dict", data := .dict #[] }) scope.names }) :
    wpAny M A (newFunctionEnv scope globals closure [] qual func code (some around) builtins) Q E s := by
  simp only [newFunctionEnv, Option.isSome_some, if_true]
  refine wpAny_bind (wpAny_alloc ?_)
  refine wpAny_bind (wpAny_layCells _ (fun n k c => rfl) scope.names closure _ _ ?_)
  rw [show ({ s with heap := s.heap.push { cls := .type "dict", data := .dict #[] } } : Shared).heap.objs.size = s.heap.objs.size + 1 from Heap.size_push ..]
  rw [List.forIn_nil]
  exact wpAny_bind (wpAny_pure (wpAny_pure h))

/-- every name of the written scope, in the scope that runs -/
theorem lookup_relS {sc : Scope} : ∀ {names : List (Str × NameKind)} {x : Str} {k : NameKind},
    (names.map fun (n, k) => if (k == NameKind.free && sc.kind == .function && sc.names.lookup n == some .cell) then (n, NameKind.cell) else (n, k)).lookup x = some k →
    ∃ k', names.lookup x = some k' ∧ (k = k' ∨ (k' = .free ∧ k = .cell))
  | [], _, _, h => by simp at h
  | (n, k₀) :: r, x, k, h => by
    have ih := @lookup_relS sc r x k
    have h' : List.lookup x ((if (k₀ == NameKind.free && sc.kind == .function && sc.names.lookup n == some .cell) = true then (n, NameKind.cell) else (n, k₀)) :: (r.map _)) = some k := h
    cases hx : x == n with
    | true =>
      simp only [List.lookup_cons, hx]
      by_cases hc : (k₀ == NameKind.free && sc.kind == .function && sc.names.lookup n == some .cell) = true
      · rw [if_pos hc] at h'
        simp only [List.lookup_cons, hx] at h'
        cases h'
        simp only [Bool.and_eq_true, beq_iff_eq] at hc
        exact ⟨k₀, rfl, .inr ⟨hc.1.1, rfl⟩⟩
      · rw [if_neg hc] at h'
        simp only [List.lookup_cons, hx] at h'
        cases h'
        exact ⟨_, rfl, .inl rfl⟩
    | false =>
      simp only [List.lookup_cons, hx]
      by_cases hc : (k₀ == NameKind.free && sc.kind == .function && sc.names.lookup n == some .cell) = true
      · rw [if_pos hc] at h'
        simp only [List.lookup_cons, hx] at h'
        exact ih h'
      · rw [if_neg hc] at h'
        simp only [List.lookup_cons, hx] at h'
        exact ih h'
/-- the names of a comprehension's block: its own (with their places in N), or captured -/
structure BlkOk (N : List Str) (sc scope : Scope) (own : List (Str × Nat)) : Prop where
  kind : scope.kind = .function
  uniq : ∀ y ∈ scope.names, scope.names.lookup y.1 = some y.2
  ix : ∀ p ∈ own, N[p.2]? = some p.1
  free : ∀ y ∈ scope.names, y.2 = .free → sc.names.lookup y.1 = some .cell ∨ sc.names.lookup y.1 = some .free
  own : ∀ y ∈ scope.names, y.2 = .local ∨ y.2 = .cell → y.1 ∈ own.map (·.1) ∨ y.1 ∉ N
/-- the slots of the block's own names forgotten -/
def wipe (σ : St) : List Nat → St
  | [] => σ
  | v :: vs => (wipe σ vs).set v none
theorem wipe_length (σ : St) : ∀ vs : List Nat, (wipe σ vs).length = σ.length
  | [] => rfl
  | v :: vs => by unfold wipe; rw [List.length_set, wipe_length σ vs]
theorem wipe_some {σ : St} {i : Nat} {x : V} : ∀ {vs : List Nat}, (wipe σ vs)[i]? = some (some x) → σ[i]? = some (some x) ∧ i ∉ vs
  | [], h => ⟨h, by simp⟩
  | v :: vs, h => by
    unfold wipe at h
    by_cases hi : v = i
    · subst hi
      by_cases hv : v < (wipe σ vs).length
      · rw [List.getElem?_set_self hv] at h; cases h
      · rw [List.getElem?_eq_none (by simpa using hv)] at h; cases h
    · rw [List.getElem?_set_ne hi] at h
      obtain ⟨h1, h2⟩ := wipe_some h
      exact ⟨h1, by simp only [List.mem_cons, not_or]; exact ⟨fun e => hi e.symm, h2⟩⟩

/-- the context of a block that starts at s, its iterator's objects at fp -/
abbrev Cx.blk (X : Cx) (s : Shared) (H : Hp) (scope : Scope) (cenv : Env) (fp : List Addr) : Cx := { X with s_0 := s, H_0 := H, env := cenv, outer := X.stack, ex := fp, fn := fun x => scope.names.lookup x == some .cell, pn := [], xe := fun _ _ => False }
section
variable {X : Cx} {pins : List (Addr × Obj)} {σ : St} {H : Hp} {s : Shared}
theorem block_start {scope : Scope} {own : List (Str × Nat)} {fp : List Addr} (I : Inv X pins σ H s) (ok : BlkOk X.N X.env.scope scope own) (hN : X.N.Nodup) (hfp : ∀ b ∈ fp, FpOk X pins H b ∧ b < s.heap.objs.size) :
    Inv (X.blk s H scope (compEnvC scope (cellsFrom (s.heap.objs.size + 1) scope.names (cloFrom X.env.cells scope.names [])) s.heap.objs.size X.env) fp) [] (wipe σ (own.map (·.2))) H { s with heap := pushCells (s.heap.push { cls := .type "dict", data := .dict #[] }) scope.names } := by
  have hfree : ∀ y ∈ scope.names, y.2 = .free → ∃ c, X.env.cells.lookup y.1 = some c := fun y hy e => by
    rcases ok.free y hy e with k | k
    · exact I.ok.has _ (.inl k)
    · exact I.ok.has _ (.inr k)
  generalize hcenv : compEnvC scope (cellsFrom (s.heap.objs.size + 1) scope.names (cloFrom X.env.cells scope.names [])) s.heap.objs.size X.env = cenv
  have kp : ∀ b o, s.heap.get? b = some o → (pushCells (s.heap.push { cls := .type "dict", data := .dict #[] }) scope.names).get? b = some o := fun b o e => pushCells_keeps _ _ _ _ (Heap.get?_push_of_some _ e)
  have hL : cenv.locals = s.heap.objs.size := by rw [← hcenv]; rfl
  have hcl : cenv.cells = cellsFrom (s.heap.objs.size + 1) scope.names (cloFrom X.env.cells scope.names []) := by rw [← hcenv]; rfl
  have hsc : cenv.scope = relS scope X.env.scope := by rw [← hcenv]; rfl
  rw [← Heap.size_push s.heap { cls := .type "dict", data := .dict #[] }] at hcl
  have cm : ∀ {y c}, (y, c) ∈ cloFrom X.env.cells scope.names [] → X.env.cells.lookup y = some c ∧ c < s.heap.objs.size := fun {y c} hm => by
    rcases cloFrom_mem hm with hm | ⟨h1, rfl⟩
    · cases hm
    · obtain ⟨c, hc⟩ := hfree _ h1 rfl
      rw [hc]
      obtain ⟨w, z⟩ := I.cell _ _ hc
      exact ⟨rfl, z.lt⟩
  have mem : ∀ {y c}, cenv.cells.lookup y = some c → (X.env.cells.lookup y = some c ∧ c < s.heap.objs.size) ∨ (s.heap.objs.size + 1 ≤ c ∧ CellAt (pushCells (s.heap.push { cls := .type "dict", data := .dict #[] }) scope.names) c none) := fun {y c} e => by
    rw [hcl] at e
    rcases cells_mem (PySem.mem_of_lookup e) with hm | ⟨_, h2, h3⟩
    · exact .inl (cm hm)
    · rw [Heap.size_push] at h2; exact .inr ⟨h2, h3⟩
  have look : ∀ {y}, scope.names.lookup y = some .free → ∃ c, cenv.cells.lookup y = some c ∧ X.env.cells.lookup y = some c := fun {y} hl => by
    have hy : (y, NameKind.free) ∈ scope.names := PySem.mem_of_lookup hl
    obtain ⟨c', e'⟩ := mem_lookup (cells_acc (names := scope.names) (n := (s.heap.push { cls := .type "dict", data := .dict #[] }).objs.size) (cloFrom_has (cells := X.env.cells) (acc := []) hy))
    rw [← hcl] at e'
    refine ⟨c', e', ?_⟩
    rw [hcl] at e'
    rcases cells_mem (PySem.mem_of_lookup e') with hm | ⟨h1, _, _⟩
    · exact (cm hm).1
    · have := ok.uniq _ h1
      rw [hl] at this; cases this
  have okB : (X.blk s H scope cenv fp).Ok := by
    refine ⟨I.ok.mod, by show cenv.scope.kind = _; rw [hsc]; exact ok.kind, by show cenv.globals = _; rw [← hcenv]; exact I.ok.glob, by show cenv.builtins = _; rw [← hcenv]; exact I.ok.blt, by show s.heap.objs.size ≤ cenv.locals; rw [hL]; exact Nat.le_refl _,
      fun y z c e1 e2 => ?_, fun y hy => ?_, fun y c z e => ?_, I.ok.hd, I.ok.frames, .inl rfl, fun b hb => ⟨?_, fun y c e z => ?_⟩, I.bs, Nat.le_trans I.ok.bsz I.sz, fun b o e hb => ?_, fun b hb z => ?_, I.stack, I.stkFree⟩
    · have e1 : cenv.cells.lookup y = some c := e1
      have e2 : cenv.cells.lookup z = some c := e2
      rw [hcl] at e1 e2
      refine cells_inj (fun p hp => ?_) (fun y z c a b => I.ok.inj y z c (cm a).1 (cm b).1) (PySem.mem_of_lookup e1) (PySem.mem_of_lookup e2)
      rw [Heap.size_push]
      exact Nat.lt_succ_of_lt (cm (y := p.1) (c := p.2) hp).2
    · show ∃ c, cenv.cells.lookup y = some c
      have key : ∀ k, cenv.kindOf y = some k → (k = .cell ∨ k = .free) → ∃ c, cenv.cells.lookup y = some c := fun k hk hk' => by
        unfold Env.kindOf at hk
        rw [hsc] at hk
        obtain ⟨k', e, r⟩ := lookup_relS hk
        have : k' = .cell ∨ k' = .free := by
          rcases r with rfl | ⟨rfl, _⟩
          · exact hk'
          · exact .inr rfl
        rcases this with rfl | rfl
        · obtain ⟨c, hm⟩ := cells_has (n := (s.heap.push { cls := .type "dict", data := .dict #[] }).objs.size) (acc := cloFrom X.env.cells scope.names []) (PySem.mem_of_lookup e)
          obtain ⟨c', e'⟩ := mem_lookup hm
          exact ⟨c', by rw [hcl]; exact e'⟩
        · obtain ⟨c, h1, _⟩ := look e
          exact ⟨c, h1⟩
      rcases hy with hy | hy
      · exact key _ hy (.inl rfl)
      · exact key _ hy (.inr rfl)
    · have z : (scope.names.lookup y == some NameKind.cell) = true := z
      have z : scope.names.lookup y = some .cell := by simpa using z
      have e : cenv.cells.lookup y = some c := e
      rw [hcl] at e
      rcases cells_mem (PySem.mem_of_lookup e) with hm | ⟨_, h2, _⟩
      · rcases cloFrom_mem hm with hm | ⟨h1, _⟩
        · cases hm
        · have q := ok.uniq _ h1
          rw [z] at q; cases q
      · rw [Heap.size_push] at h2
        exact Nat.le_of_succ_le h2
    · show b ≠ cenv.locals
      rw [hL]; exact Nat.ne_of_lt (hfp b hb).2
    · have e : cenv.cells.lookup y = some c := e
      rcases mem e with ⟨h1, _⟩ | ⟨h1, _⟩
      · exact (hfp b hb).1.2.2.2.2.1 y c h1 z
      · have h2 : s.heap.objs.size + 1 ≤ b := by rw [← z]; exact h1
        exact absurd (Nat.lt_of_lt_of_le (hfp b hb).2 (Nat.le_of_succ_le h2)) (Nat.lt_irrefl _)
    · rcases (hfp b hb).1.2.2.2.1 with z | z
      · exact I.ok.noex b o e z
      · exact absurd (Nat.lt_of_lt_of_le (Heap.lt_size e) (Nat.le_trans I.ok.bsz z)) (Nat.lt_irrefl _)
    · rcases List.mem_cons.mp (I.stkSub b z) with z | z
      · exact (hfp b hb).1.2.1 z
      · exact (hfp b hb).1.2.2.1 z
  refine ⟨okB, rfl, I.bare, Un.kept kp, ⟨fun _ => none, ?_, fun i y av e1 e2 e3 => ?_⟩, fun y c e => ?_, ?_, fun y c e => ?_, fun p hp => ?_, I.hok.kept kp, by rw [wipe_length]; exact I.len⟩
  · show Heap.Ns _ cenv.locals _
    rw [hL]
    exact Heap.Ns.keeps (Heap.Ns.new ..) fun b o e => pushCells_keeps _ _ _ _ e
  · obtain ⟨e2, hne⟩ := wipe_some e2
    have hfr : scope.names.lookup y = some .free ∧ (cenv.kindOf y = some .cell ∨ cenv.kindOf y = some .free) := by
      have key : ∀ k, cenv.scope.names.lookup y = some k → k = .local ∨ k = .cell ∨ k = .free → scope.names.lookup y = some .free ∧ (cenv.kindOf y = some .cell ∨ cenv.kindOf y = some .free) := fun k hk hk' => by
        have hk0 := hk
        rw [hsc] at hk
        obtain ⟨k', e, r⟩ := lookup_relS hk
        have no : ¬ (k' = .local ∨ k' = .cell) := fun hh => by
          rcases ok.own _ (PySem.mem_of_lookup e) hh with e' | e'
          · obtain ⟨p, hp, hpy⟩ := List.mem_map.mp e'
            have e3 := ok.ix p hp
            have : p.1 = y := hpy
            rw [this] at e3
            exact hne (List.mem_map.mpr ⟨p, hp, nodup_ix hN e3 e1⟩)
          · exact e' (List.mem_of_getElem? e1)
        rcases r with rfl | ⟨rfl, rfl⟩
        · rcases hk' with rfl | rfl | rfl
          · exact absurd (.inl rfl) no
          · exact absurd (.inr rfl) no
          · exact ⟨e, .inr hk0⟩
        · exact ⟨e, .inl hk0⟩
      have e3 : Vis cenv.scope y := e3
      rcases e3 with e3 | e3 | e3
      · exact key _ e3 (.inl rfl)
      · exact key _ e3 (.inr (.inl rfl))
      · exact key _ e3 (.inr (.inr rfl))
    obtain ⟨m, hn, hl⟩ := I.loc
    have hvis : Vis X.env.scope y := (ok.free _ (PySem.mem_of_lookup hfr.1) rfl).elim (fun k => .inr (.inl k)) (fun k => .inr (.inr k))
    obtain ⟨w, r, q⟩ := hl i y av e1 e2 hvis
    refine ⟨w, r, .inr ⟨hfr.2, ?_⟩⟩
    obtain ⟨c, h1, h2⟩ := look hfr.1
    rcases q with ⟨k, _⟩ | ⟨_, c', e', z⟩
    · have k : X.env.scope.names.lookup y = some .local := k
      rcases ok.free _ (PySem.mem_of_lookup hfr.1) rfl with k' | k' <;> rw [show X.env.scope.names.lookup y = _ from k'] at k <;> cases k
    · rw [h2] at e'; cases e'
      exact ⟨c, h1, z.keeps kp⟩
  · have e : cenv.cells.lookup y = some c := e
    rcases mem e with ⟨h1, _⟩ | ⟨_, z⟩
    · obtain ⟨w, z⟩ := I.cell y c h1
      exact ⟨w, z.keeps kp⟩
    · exact ⟨_, z⟩
  · show H cenv.locals = none
    rw [hL]; exact I.hok.fresh (Nat.le_refl _)
  · have e : cenv.cells.lookup y = some c := e
    rcases mem e with ⟨h1, _⟩ | ⟨h1, _⟩
    · exact I.freeC y c h1
    · exact I.hok.fresh (Nat.le_of_succ_le h1)
  · exact absurd (show p ∈ ([] : List (Addr × Obj)) ++ [] from hp) (by simp)

/-- an item appended to a tracked list -/
theorem app_ok {E : Value → Shared → Prop} {D : Addr} {xs : List V} {y : V} {v : Value} {Q : Value → Shared → Prop} (I : Inv X pins σ H s) (hD : H D = some (.lst xs)) (hz : xs.length < sizeLine) (r : RelV y v)
    (h : ∀ s', Inv X pins σ (upd H D (.lst (xs ++ [y]))) s' → Q .none s') : wpAny (model X.prog X.w) X.A (call (.builtin "list.append") [.ref D, v]) Q E s := by
  obtain ⟨hz', its, n, ri, e⟩ := I.hok D _ hD
  have hl := ri.length
  refine append_at (hsz := by rw [List.size_toArray]; omega) e fun h' sb ho' => ?_
  refine h { s with heap := h' } (I.write (t' := s.toks) (by rw [hD]; trivial) (.inl rfl) (fun b u hb q => (sb.2 b hb).trans q) ⟨_, ho'⟩ ⟨by rw [List.length_append]; exact hz, its ++ [v], n + 1, ri.append (.cons r .nil), ?_⟩)
  rw [ho']
  simp

/-- a clause's tests -/
def PTs (X : Cx) (ifs : List Expr) (t : TT) : Prop :=
  ∀ (pins : List (Addr × Obj)) (s : Shared) (σ : St) (H : Hp) (Q : Bool → Hp → Prop), Inv X pins σ H s → t σ H Q →
    wpAny (model X.prog X.w) X.A (forIn ifs true fun c r => if r = true then do let ok ← isTrue c X.env (eval c X.env); pure (ForInStep.yield ok) else pure (ForInStep.yield r)) (TP X pins σ Q) X.xe s
def tYes : TT := fun _ H Q => Q true H
theorem pts_nil : PTs X [] tYes := fun _ _ _ H _ I h => wpAny_tests_nil ⟨H, I, h⟩
theorem pts_one {c : Expr} {t : TT} (h : PT X c t) : PTs X [c] t := fun pins s σ H Q I hw => wpAny_tests_one (h pins s σ H Q I hw)
end

theorem thnF {α : Type} {t : Sem α} {Q Q' : α → Shared → Prop} {M : Model} {A : Around} {E : Value → Shared → Prop} {s : Shared} (h : wpAny M A t Q (fun _ _ => False) s) (hQ : ∀ a s, Q a s → Q' a s) : wpAny M A t Q' E s := wpAny_mono h hQ fun _ _ z => False.elim z

/-- the loop of a list comprehension's block, the target of any form (codeAny_compLoop_tests asks a target that no tuple goes to; statement and proof follow it, PyProof/CompMap.lean:41-61, with the step letOwnedTupleGo kept) -/
theorem compLoop_any {prog : Program} {w : World} {A : Around} {R : Result → Shared → Prop} {s : Shared} {elt target iter : Expr} {ifs : List Expr} {scope : Scope} {pos : Pos} {it acc : Value} {env : Env} (I : Nat → Shared → Prop)
    (turn : ∀ n s, I n s → wpAny (model prog w) A (pyNext it) (fun r s₁ => match r with
      | none => R (.ok .next) s₁
      | some v => wpAny (model prog w) A (letOwnedTupleGo target it v) (fun _ s₁' => wpAny (model prog w) A (assign target env v) (fun _ s₂ =>
          wpAny (model prog w) A (forIn ifs true fun c r => if r = true then do let ok ← isTrue c env (eval c env); pure (ForInStep.yield ok) else pure (ForInStep.yield r)) (fun ok s₃ =>
            if ok = true then wpAny (model prog w) A (eval elt env) (fun x s₄ =>
              wpAny (model prog w) A (call (.builtin "list.append") [acc, x]) (fun _ s₅ => ∃ m, m < n ∧ I m s₅) (notedBy (model prog w) A env fun e s' => R (.error e) s') s₄) (notedBy (model prog w) A env fun e s' => R (.error e) s') s₃
            else ∃ m, m < n ∧ I m s₃) (notedBy (model prog w) A env fun e s' => R (.error e) s') s₂) (notedBy (model prog w) A env fun e s' => R (.error e) s') s₁') (notedBy (model prog w) A env fun e s' => R (.error e) s') s₁) (notedBy (model prog w) A env fun e s' => R (.error e) s') s)
    (n : Nat) (h : I n s) :
    codeAny (model prog w) A (.compLoop (.ListComp elt [⟨target, iter, ifs, 0⟩] scope pos) 0 it acc env) R s := by
  refine codeAny_loop rfl I (fun n s hI => ?_) n h
  show wpAny _ A ((compTurn (.ListComp elt [⟨target, iter, ifs, 0⟩] scope pos) 0 it acc env).onRaise (fun x => do noteFrame x env; theTreesLotGoes x)) _ _ s
  refine wpAny_noted ?_
  rw [compTurn_list]
  refine wpAny_bind (wpAny_standAt (wpAny_bind (wpAny_mono (turn n s hI) (fun r s₁ h₁ => ?_) fun _ _ h' => h')))
  cases r with
  | none => exact wpAny_pure h₁
  | some v =>
    refine wpAny_bind (wpAny_mono h₁ (fun _ s₁' h₁' => ?_) fun _ _ h' => h')
    refine wpAny_bind (wpAny_mono h₁' (fun _ s₂ h₂ => wpAny_bind (wpAny_mono h₂ (fun ok s₃ h₃ => ?_) fun _ _ h' => h')) fun _ _ h' => h')
    cases ok with
    | false => exact wpAny_pure ⟨rfl, h₃⟩
    | true =>
      exact wpAny_bind (wpAny_bind (wpAny_mono h₃ (fun x s₄ h₄ => wpAny_bind (wpAny_mono h₄ (fun _ s₅ h₅ => wpAny_pure (wpAny_pure ⟨rfl, h₅⟩)) fun _ _ h' => h')) fun _ _ h' => h'))

section
variable {X : Cx}
/-- [elt for target in iter if ..]: D the new list; W by the turn and a measure, Nx what a turn is to reach -/
def tLc (wi : TI) (g : TG) (tt : TT) (te : TE) (vs : List Nat) : TE := fun σ H Q => wi σ H fun J H1 => ∀ D, H1 D = none → ∃ W : Nat → Nat → Hp → Prop, (∃ m, W 0 m (upd H1 D (.lst []))) ∧ ∀ i m H, W i m H →
  (J.stop i H ∧ Q (.ref D) H) ∨ (J.go i H ∧ ∃ Nx : Hp → Prop, (∀ H', Nx H' → ∃ m', m' < m ∧ W (i + 1) m' H') ∧ ∀ x H', J.yld i H x H' → g x (wipe σ vs) H' fun σ2 H2 => wipe σ2 vs = wipe σ vs ∧ tt σ2 H2 fun b H3 =>
    if b = true then te σ2 H3 fun y H4 => ∃ acc, H4 D = some (.lst acc) ∧ acc.length < sizeLine ∧ Nx (upd H4 D (.lst (acc ++ [y]))) else Nx H3)
theorem lc_core {pins : List (Addr × Obj)} {s : Shared} {σ : St} {H : Hp} {Q : VK} {elt tg iter : Expr} {ifs : List Expr} {scope : Scope} {own : List (Str × Nat)} {pos pos' : Pos} {wi : TI} {g : TG} {tt : TT} {te : TE} {use : Option (Value → Sem Unit)} {Qf : Value → Shared → Prop}
    (hc : X.calm = true) (hN : X.N.Nodup) (I : Inv X pins σ H s) (hi : PI X tg iter wi) (ok : BlkOk X.N X.env.scope scope own)
    (hg : ∀ (s : Shared) (H : Hp) (C : Addr) (cl : List (Str × Addr)) (fp : List Addr), PG (X.blk s H scope (compEnvC scope cl C X.env) fp) tg g) (ht : ∀ (s : Shared) (H : Hp) (C : Addr) (cl : List (Str × Addr)) (fp : List Addr), PTs (X.blk s H scope (compEnvC scope cl C X.env) fp) ifs tt)
    (he : ∀ (s : Shared) (H : Hp) (C : Addr) (cl : List (Str × Addr)) (fp : List Addr), PE (X.blk s H scope (compEnvC scope cl C X.env) fp) elt te) (hs : ∀ x, foldedSetIterable iter X.env x = pure x)
    (h : tLc wi g tt te (own.map (·.2)) σ H Q)
    (hRR : ∀ D C s' m H', Inv X pins σ H' s' → Q (.ref D) H' → s'.heap.Ns C m → FpOk X pins H' C → compPost (model X.prog X.w) X.A X.xe use Qf (.ref D) C (.ok .next) s') :
    wpAny (model X.prog X.w) X.A (comprehension (.ListComp elt [⟨tg, iter, ifs, 0⟩] scope pos) scope X.env pos' (newList []) false (eval iter X.env) use) Qf X.xe s := by
  have hfree : ∀ y ∈ scope.names, y.2 = .free → ∃ c, X.env.cells.lookup y.1 = some c := fun y hy e => by
    rcases ok.free y hy e with k | k
    · exact I.ok.has _ (.inl k)
    · exact I.ok.has _ (.inr k)
  refine wpAny_comprehension_free (use := use) rfl hs (closure_ok hfree) ok.kind (fun y hy e => by rw [ok.uniq y hy, e])
    (thn (hi pins s σ H _ I h) fun xv s1 hx => thn hx fun itv s2 h2 => ?_)
  obtain ⟨it, fp, tn, J, H2, e, I2, T, st2, f2, q⟩ := h2
  subst e
  refine wpAny_newObj_type (newEnv_comp ?_) (by show 0 ≤ sizeLine; decide)
  generalize hD : s2.heap.objs.size = D
  have hDn : H2 D = none := I2.hok.fresh (Nat.le_of_eq hD)
  obtain ⟨W, ⟨m0, w0⟩, turn⟩ := q D hDn
  -- the new list
  generalize hs3 : ({ s2 with heap := s2.heap.push { cls := .type "list", data := .seq ([] : List Value).toArray } } : Shared) = s3
  have I3 : Inv X pins σ (upd H2 D (.lst [])) s3 := by
    rw [← hs3]
    refine I2.laid (t' := s2.toks) (fun b o e => Heap.get?_push_of_some _ e) (Nat.le_of_eq hD) ⟨Nat.zero_le _, [], 0, .nil, ?_⟩
    rw [← hD]
    exact Heap.get?_push_size _ rfl
  have h3 : s3.heap = s2.heap.push { cls := .type "list", data := .seq ([] : List Value).toArray } := by rw [← hs3]
  have sz : ∀ b ∈ fp, b < s2.heap.objs.size := fun b hb => by
    obtain ⟨o, e, _⟩ := T.obj _ _ st2 b hb
    exact Heap.lt_size e
  have f3 : ∀ b ∈ fp, FpOk X pins (upd H2 D (.lst [])) b ∧ b < s3.heap.objs.size := fun b hb => by
    have hlt := sz b hb
    refine ⟨⟨?_, (f2 b hb).2⟩, by rw [h3, Heap.size_push]; exact Nat.lt_succ_of_lt hlt⟩
    rw [upd_ne (by rw [← hD]; exact Nat.ne_of_lt hlt)]
    exact (f2 b hb).1
  have st3 : tn 0 s3.heap := T.keep _ _ _ st2 fun b _ o e => by rw [h3]; exact Heap.get?_push_of_some _ e
  have I4 := block_start I3 ok hN f3
  have pg := hg s3 (upd H2 D (.lst [])) s3.heap.objs.size (cellsFrom (s3.heap.objs.size + 1) scope.names (cloFrom X.env.cells scope.names [])) fp
  have pt := ht s3 (upd H2 D (.lst [])) s3.heap.objs.size (cellsFrom (s3.heap.objs.size + 1) scope.names (cloFrom X.env.cells scope.names [])) fp
  have pe := he s3 (upd H2 D (.lst [])) s3.heap.objs.size (cellsFrom (s3.heap.objs.size + 1) scope.names (cloFrom X.env.cells scope.names [])) fp
  show codeAny _ _ (.compStart (.ListComp elt [⟨tg, iter, ifs, 0⟩] scope pos) 0 (.ref it) (.ref D) (compEnvC scope (cellsFrom (s3.heap.objs.size + 1) scope.names (cloFrom X.env.cells scope.names [])) s3.heap.objs.size X.env)) (compPost (model X.prog X.w) X.A X.xe use Qf (.ref D) s3.heap.objs.size) { s3 with heap := pushCells (s3.heap.push { cls := .type "dict", data := .dict #[] }) scope.names }
  have nfp : ∀ b ∈ fp, (upd H2 D (.lst [])) b = none := fun b hb => (f3 b hb).1.1
  generalize hce : compEnvC scope (cellsFrom (s3.heap.objs.size + 1) scope.names (cloFrom X.env.cells scope.names [])) s3.heap.objs.size X.env = ce at I4 pg pt pe ⊢
  have cL : ce.locals = s3.heap.objs.size := by subst hce; rfl
  generalize hH3 : upd H2 D (.lst []) = H3 at I3 I4 pg pt pe w0 nfp f3
  generalize hs4 : ({ s3 with heap := pushCells (s3.heap.push { cls := .type "dict", data := .dict #[] }) scope.names } : Shared) = s4 at I4 ⊢
  have st4 : tn 0 s4.heap := T.keep _ _ _ st3 fun b _ o e => by rw [← hs4]; exact pushCells_keeps _ _ _ _ (Heap.get?_push_of_some _ e)
  have stat : ∀ {σ' : St} {H' : Hp} {s' : Shared}, Inv (X.blk s3 H3 scope ce fp) [] σ' H' s' → (∀ b ∈ fp, H' b = none) → ∀ b ∈ fp, FpOk (X.blk s3 H3 scope ce fp) [] H' b := fun {σ' H' s'} I' hn b hb =>
    ⟨hn b hb, (I'.ok.exf b hb).1, I'.ok.exfs b hb, .inl hb, fun x c e => (I'.ok.exf b hb).2 x c e, fun p hp => absurd (show p ∈ ([] : List (Addr × Obj)) ++ [] from hp) (by simp)⟩
  have loop : codeAny (model X.prog X.w) X.A (.compLoop (.ListComp elt [⟨tg, iter, ifs, 0⟩] scope pos) 0 (.ref it) (.ref D) ce) (compPost (model X.prog X.w) X.A X.xe use Qf (.ref D) s3.heap.objs.size) s4 := by
    refine compLoop_any (fun n s' => ∃ i H', Inv (X.blk s3 H3 scope ce fp) [] (wipe σ (own.map (·.2))) H' s' ∧ tn i s'.heap ∧ (∀ b ∈ fp, H' b = none) ∧ W i n H') ?_ m0 ⟨0, H3, I4, st4, nfp, w0⟩
    rintro n s5 ⟨i, H5, I5, st5, n5, w5⟩
    rcases turn i n H5 w5 with ⟨stop, qq⟩ | ⟨go, Nx, hNx, step⟩
    · have td := T.done (X.blk s3 H3 scope ce fp) rfl rfl rfl hc i [] s5 _ H5 (fun _ _ => False) I5 (stat I5 n5) st5 stop
      refine thnF td fun r s6 ⟨hr, I6⟩ => ?_
      subst hr
      -- back in the def's context
      have I7 : Inv X pins σ H5 s6 := I3.call' (ch := fp) I6.os I6.base I6.hok I6.bare fun b hb => ⟨(f3 b hb).1.2.2.2.1, (f3 b hb).1.2.1, (f3 b hb).1.2.2.2.2.1, (f3 b hb).1.2.2.2.2.2⟩
      have nC : H5 s3.heap.objs.size = none := by
        have z : H5 ce.locals = none := I6.free
        rw [cL] at z
        exact z
      obtain ⟨m, hn, _⟩ := I6.loc
      have hn : s6.heap.Ns ce.locals m := hn
      rw [cL] at hn
      exact hRR D s3.heap.objs.size s6 m H5 I7 qq hn (I3.fpOk (Nat.le_refl _) nC)
    · have ti := T.item (X.blk s3 H3 scope ce fp) rfl rfl rfl hc i [] s5 _ H5 (fun _ _ => False) I5 (stat I5 n5) st5 go
      refine thnF ti fun r s6 ⟨u, hr, h6⟩ => ?_
      subst hr
      refine thnF h6 fun _ s7 ⟨x, H7, I7, r7, y7, st7, n7⟩ => ?_
      have I7' := I7.pinned (stat I7 n7) (T.obj _ _ st7)
      refine thnF (pg _ s7 _ H7 x u _ I7' r7 (step x H7 y7)) fun _ s8 ⟨σ8, H8, I8, hw8, q8⟩ => ?_
      refine thnF (pt _ s8 σ8 H8 _ I8 q8) fun b s9 ⟨H9, I9, q9⟩ => ?_
      -- the turn's end
      have fin : ∀ {s' : Shared} {H' : Hp}, Inv (X.blk s3 H3 scope ce fp) ([] ++ pinsAt fp s7.heap) σ8 H' s' → Nx H' → ∃ m, m < n ∧ ∃ i H', Inv (X.blk s3 H3 scope ce fp) [] (wipe σ (own.map (·.2))) H' s' ∧ tn i s'.heap ∧ (∀ b ∈ fp, H' b = none) ∧ W i m H' := fun {s' H'} I' nx => by
        obtain ⟨m', hm, w'⟩ := hNx H' nx
        have pin' : ∀ b ∈ fp, ∀ o, s7.heap.get? b = some o → s'.heap.get? b = some o ∧ H' b = none := fun b hb o e =>
          let z := I'.pin (b, o) (List.mem_append_right _ (List.mem_append_right _ (mem_pinsAt hb e)))
          ⟨z.1, z.2.1⟩
        have hl : (wipe σ (own.map (·.2))).length = σ8.length := by rw [← hw8, wipe_length]
        refine ⟨m', hm, i + 1, H', (I'.unpinned (pins := [])).weak hl (fun j v e => ?_), T.keep _ _ _ st7 fun b hb o e => (pin' b hb o e).1, fun b hb => ?_, w'⟩
        · rw [← hw8] at e
          exact (wipe_some e).1
        · obtain ⟨o, e, _⟩ := T.obj _ _ st7 b hb
          exact (pin' b hb o e).2
      cases b with
      | false =>
        simp only [Bool.false_eq_true, if_false] at q9 ⊢
        exact fin I9 q9
      | true =>
        simp only [if_true] at q9 ⊢
        refine thnF (pe _ s9 σ8 H9 _ I9 q9) fun z s10 ⟨yv, H10, I10, r10, acc, hD10, hz10, nx⟩ => ?_
        exact app_ok (X := X.blk s3 H3 scope ce fp) I10 hD10 hz10 r10 fun s11 I11 => fin I11 nx
  exact codeAny_compStart_list loop (T.self X.A 0 _ _ _ st4 loop)
/-- as a value -/
theorem pe_lc {elt tg iter : Expr} {ifs : List Expr} {scope : Scope} {own : List (Str × Nat)} {pos : Pos} {wi : TI} {g : TG} {tt : TT} {te : TE} (hc : X.calm = true) (hN : X.N.Nodup) (hi : PI X tg iter wi) (ok : BlkOk X.N X.env.scope scope own)
    (hg : ∀ (s : Shared) (H : Hp) (C : Addr) (cl : List (Str × Addr)) (fp : List Addr), PG (X.blk s H scope (compEnvC scope cl C X.env) fp) tg g) (ht : ∀ (s : Shared) (H : Hp) (C : Addr) (cl : List (Str × Addr)) (fp : List Addr), PTs (X.blk s H scope (compEnvC scope cl C X.env) fp) ifs tt)
    (he : ∀ (s : Shared) (H : Hp) (C : Addr) (cl : List (Str × Addr)) (fp : List Addr), PE (X.blk s H scope (compEnvC scope cl C X.env) fp) elt te) (hs : ∀ x, foldedSetIterable iter X.env x = pure x := by intro _; rfl) :
    PE X (.ListComp elt [⟨tg, iter, ifs, 0⟩] scope pos) (tLc wi g tt te (own.map (·.2))) := by
  intro pins s σ H Q I h
  rw [eval_ListComp]
  refine lc_core hc hN I hi ok hg ht he hs h fun D C s' m H' I' q hn f => ⟨m, hn, fun h'' sb => ?_⟩
  obtain ⟨f0, f1, f2, f3, f4, f5⟩ := f
  exact ⟨.ref D, H', I'.turned (t' := s'.toks) (fun b o hb e => (sb.2 b hb).trans e) f0 f1 f3 f4 f5, rfl, q⟩
/-- name = [..] on one line, the name a local -/
theorem ps_setLc {i : Nat} {y : Str} {py : Pos} {elt tg iter : Expr} {ifs : List Expr} {scope : Scope} {own : List (Str × Nat)} {pos spos : Pos} {wi : TI} {g : TG} {tt : TT} {te : TE} (hc : X.calm = true) (hN : X.N.Nodup) (hy : X.N[i]? = some y) (hyl : X.env.scope.names.lookup y = some .local)
    (hsw : swapsWith (.ListComp elt [⟨tg, iter, ifs, 0⟩] scope pos) (some (.Name y py)) spos.line X.env = pure true) (hi : PI X tg iter wi) (ok : BlkOk X.N X.env.scope scope own)
    (hg : ∀ (s : Shared) (H : Hp) (C : Addr) (cl : List (Str × Addr)) (fp : List Addr), PG (X.blk s H scope (compEnvC scope cl C X.env) fp) tg g) (ht : ∀ (s : Shared) (H : Hp) (C : Addr) (cl : List (Str × Addr)) (fp : List Addr), PTs (X.blk s H scope (compEnvC scope cl C X.env) fp) ifs tt)
    (he : ∀ (s : Shared) (H : Hp) (C : Addr) (cl : List (Str × Addr)) (fp : List Addr), PE (X.blk s H scope (compEnvC scope cl C X.env) fp) elt te) (hs : ∀ x, foldedSetIterable iter X.env x = pure x := by intro _; rfl) :
    PS X (.Assign [.Name y py] (.ListComp elt [⟨tg, iter, ifs, 0⟩] scope pos) spos) (tAsg (tLc wi g tt te (own.map (·.2))) (gName i)) := by
  intro pins s σ H D I h
  rw [exec_Assign_Name_used _ _ _ _ hsw]
  refine wpAny_bind (wpAny_standAt (wpAny_bind ?_))
  show wpAny _ X.A (do let _ ← comprehension (.ListComp elt [⟨tg, iter, ifs, 0⟩] scope pos) scope X.env (firstIterPos [⟨tg, iter, ifs, 0⟩] pos) (newList []) false (eval iter X.env) (some (assign (.Name y py) X.env))) _ _ s
  have h : tLc wi g tt te (own.map (·.2)) σ H (fun x H1 => gName i x σ H1 D.nx) := h
  refine wpAny_bind (thn (lc_core (Qf := fun _ s' => SP X pins D .next s') hc hN I hi ok hg ht he hs h fun L C s' m H' I' q hn f => ?_) fun _ s' hq => wpAny_pure (wpAny_pure hq))
  show wpAny _ _ (assign (.Name y py) X.env (.ref L)) _ _ _
  refine wpAny_assign_Name (store_ok2 (v := V.ref L) I' hN hy (.inl hyl) rfl (fun s2 I2 ⟨a, sb, ha⟩ => ?_) (.inr hyl))
  obtain ⟨f0, f1, f2, f3, f4, f5⟩ := f
  have haC : C ≠ a := by
    rcases ha with z | z
    · rw [z]; exact f1
    · exact fun e => f4 y a z e.symm
  refine ⟨m, hn.sameBut sb haC, fun h3 sb3 => ?_⟩
  exact ⟨_, H', I2.turned (t' := s2.toks) (fun b o hb e => (sb3.2 b hb).trans e) f0 f1 f3 f4 f5, q⟩
theorem sw_true {elt : Expr} {gs : List Comprehension} {scope : Scope} {pos py : Pos} {y : Str} {l : Nat} {env : Env} (hk : env.scope.kind = .function) (hy : env.scope.names.lookup y = some .local) (hl : (py.line == pos.line) = true)
    (ha : (scope.names.any fun (n, k) => n == y && (k == .local || k == .cell)) = false) : swapsWith (.ListComp elt gs scope pos) (some (.Name y py)) l env = pure true := by
  have ky : env.kindOf y = some .local := hy
  have hb : env.blockKind = .function := by unfold Env.blockKind; rw [hk]; rfl
  unfold swapsWith
  simp only [hb, ky, ha, Expr.pos, hl]
  rfl
end

/-- over a list that the block leaves as it is -/
theorem lc_list {K : PySem.W.Frag} {a : Addr} {xs : List V} {g : TG} {tt : TT} {te : TE} {vs : List Nat} {σ : St} {H1 : Hp} {D : Addr} {Qd : Hp → Prop} (Pv : Nat → Hp → Prop) (h0 : Pv 0 (upd H1 D (.lst []))) (hl : ∀ i H, i ≤ xs.length → Pv i H → SqL K H a xs)
    (hs : ∀ i x H, xs[i]? = some x → Pv i H → g x (wipe σ vs) H fun σ2 H2 => wipe σ2 vs = wipe σ vs ∧ tt σ2 H2 fun b H3 =>
      if b = true then te σ2 H3 fun y H4 => ∃ acc, H4 D = some (.lst acc) ∧ acc.length < sizeLine ∧ Pv (i + 1) (upd H4 D (.lst (acc ++ [y]))) else Pv (i + 1) H3) (hd : ∀ H, Pv xs.length H → Qd H) :
    ∃ W : Nat → Nat → Hp → Prop, (∃ m, W 0 m (upd H1 D (.lst []))) ∧ ∀ i m H, W i m H →
      ((Itl K a).stop i H ∧ Qd H) ∨ ((Itl K a).go i H ∧ ∃ Nx : Hp → Prop, (∀ H', Nx H' → ∃ m', m' < m ∧ W (i + 1) m' H') ∧ ∀ x H', (Itl K a).yld i H x H' → g x (wipe σ vs) H' fun σ2 H2 => wipe σ2 vs = wipe σ vs ∧ tt σ2 H2 fun b H3 =>
        if b = true then te σ2 H3 fun y H4 => ∃ acc, H4 D = some (.lst acc) ∧ acc.length < sizeLine ∧ Nx (upd H4 D (.lst (acc ++ [y]))) else Nx H3) := by
  refine ⟨fun i m H => m = xs.length - i ∧ i ≤ xs.length ∧ Pv i H, ⟨xs.length, by simp, Nat.zero_le _, h0⟩, ?_⟩
  rintro i m H ⟨rfl, hi, p⟩
  have q := hl i H hi p
  by_cases hlt : i < xs.length
  · refine .inr ⟨⟨xs, xs[i], q, by simp [hlt]⟩, Pv (i + 1), fun H' p' => ⟨xs.length - (i + 1), by omega, rfl, hlt, p'⟩, fun x H' y => ?_⟩
    obtain ⟨e, y⟩ := y
    subst e
    exact hs i x _ (y xs q) p
  · have e : i = xs.length := by omega
    subst e
    exact .inl ⟨⟨xs, q, Nat.le_refl _⟩, hd H p⟩
def blkC (N : List Str) (sc scope : Scope) (own : List (Str × Nat)) : Bool :=
  (match scope.kind with | .function => true | _ => false) && (scope.names.all fun y => decide (scope.names.lookup y.1 = some y.2)) && (own.all fun p => decide (N[p.2]? = some p.1)) &&
    (scope.names.all fun y => match y.2 with
      | .free => (match sc.names.lookup y.1 with | some .cell => true | some .free => true | _ => false)
      | .local => decide (y.1 ∈ own.map (·.1)) || decide (y.1 ∉ N)
      | .cell => decide (y.1 ∈ own.map (·.1)) || decide (y.1 ∉ N)
      | _ => true)
theorem blkOk_by {N : List Str} {sc scope : Scope} {own : List (Str × Nat)} (h : blkC N sc scope own = true) : BlkOk N sc scope own := by
  unfold blkC at h
  simp only [Bool.and_eq_true, List.all_eq_true, decide_eq_true_eq] at h
  obtain ⟨⟨⟨h1, h2⟩, h3⟩, h4⟩ := h
  refine ⟨?_, h2, h3, fun y hy e => ?_, fun y hy e => ?_⟩
  · split at h1
    · assumption
    · cases h1
  · have q := h4 y hy
    simp only [e] at q
    split at q <;> first | exact .inl (by assumption) | exact .inr (by assumption) | cases q
  · have q := h4 y hy
    rcases e with e | e <;> (simp only [e, Bool.or_eq_true, decide_eq_true_eq] at q; exact q)
end L2

namespace L2
open PySem PySem.Spec PyProof.Rows

section
variable {prog : Program} {w : World} {A : Around} {R : Result → Shared → Prop} {s : Shared} {elt t0 i0 t1 i1 : Expr} {ifs0 ifs1 : List Expr} {scope : Scope} {pos : Pos} {it acc : Value} {env : Env}
end

section
variable {X : Cx}
end
end L2

namespace L2
open PySem PySem.Spec PyProof.Rows

section
variable {κ : Type} [DecidableEq κ]
def valV (kvs : List (κ × V)) (k : κ) : Option V := (kvs.find? fun kv => decide (kv.1 = k)).map (·.2)
/-- in its place, or at the end -/
def putK (kvs : List (κ × V)) (k : κ) (v : V) : List (κ × V) :=
  if (kvs.any fun kv => decide (kv.1 = k)) = true then kvs.map (fun kv => if kv.1 = k then (kv.1, v) else kv) else kvs ++ [(k, v)]
def dropK (kvs : List (κ × V)) (k : κ) : List (κ × V) := kvs.filter fun kv => decide (kv.1 ≠ k)

theorem valV_pos {p : κ × V} {r : List (κ × V)} {k : κ} (e : p.1 = k) : valV (p :: r) k = some p.2 := by simp [valV, List.find?_cons, e]
theorem valV_neg {p : κ × V} {r : List (κ × V)} {k : κ} (e : ¬ p.1 = k) : valV (p :: r) k = valV r k := by simp [valV, List.find?_cons, e]
theorem valV_any (k : κ) : ∀ kvs : List (κ × V), (kvs.any fun kv => decide (kv.1 = k)) = (valV kvs k).isSome
  | [] => rfl
  | p :: r => by
    rw [List.any_cons]
    by_cases e : p.1 = k
    · simp only [valV_pos e, decide_eq_true e, Bool.true_or, Option.isSome_some]
    · rw [valV_neg e, decide_eq_false e, Bool.false_or]; exact valV_any k r
theorem length_putK (kvs : List (κ × V)) (k : κ) (v : V) : (putK kvs k v).length ≤ kvs.length + 1 := by
  unfold putK
  split
  · rw [List.length_map]; omega
  · rw [List.length_append, List.length_cons, List.length_nil]; omega
theorem putK_new {kvs : List (κ × V)} {k : κ} (v : V) (h : valV kvs k = none) : putK kvs k v = kvs ++ [(k, v)] := by
  unfold putK
  rw [valV_any, h]
  exact if_neg (by decide)

theorem RelO.isSome_eq {o : Option V} {u : Option Value} (r : RelO o u) : o.isSome = u.isSome := by
  cases o with
  | none => cases u with
    | none => rfl
    | some _ => exact (show False from r).elim
  | some _ => cases u with
    | none => exact (show False from r).elim
    | some _ => rfl
/-- raw tables of the same keys -/
theorem KV.val {kvs : List (κ × V)} {vs : List (κ × Value)} (r : KV kvs vs) (k : κ) : RelO (valV kvs k) (valueAt vs k) := by
  unfold KV at r
  induction r with
  | nil => exact True.intro
  | @cons p q ps qs h t ih =>
    obtain ⟨h1, h2⟩ := h
    by_cases e : p.1 = k
    · have e' : q.1 = k := h1.symm.trans e
      have b : valueAt (q :: qs) k = some q.2 := by simp [valueAt, List.find?_cons, e']
      rw [valV_pos e, b]; exact h2
    · have e' : ¬ q.1 = k := fun z => e (h1.trans z)
      have b : valueAt (q :: qs) k = valueAt qs k := by simp [valueAt, List.find?_cons, e']
      rw [valV_neg e, b]; exact ih
theorem KV.any {kvs : List (κ × V)} {vs : List (κ × Value)} (r : KV kvs vs) (k : κ) : (kvs.any fun kv => decide (kv.1 = k)) = vs.any fun kv => decide (kv.1 = k) := by
  unfold KV at r
  induction r with
  | nil => rfl
  | cons h t ih => rw [List.any_cons, List.any_cons, ih, h.1]
theorem KV.repl {kvs : List (κ × V)} {vs : List (κ × Value)} (r : KV kvs vs) (k : κ) {y : V} {u : Value} (ry : RelV y u) :
    KV (kvs.map fun kv => if kv.1 = k then (kv.1, y) else kv) (vs.map fun kv => if kv.1 = k then (kv.1, u) else kv) := by
  unfold KV at r ⊢
  induction r with
  | nil => exact .nil
  | @cons p q ps qs h t ih =>
    rw [List.map_cons, List.map_cons]
    refine .cons ?_ ih
    obtain ⟨h1, h2⟩ := h
    by_cases e : p.1 = k
    · rw [if_pos e, if_pos (h1.symm.trans e)]; exact ⟨h1, ry⟩
    · rw [if_neg e, if_neg (fun z => e (h1.trans z))]; exact ⟨h1, h2⟩
theorem KV.put {kvs : List (κ × V)} {vs : List (κ × Value)} (r : KV kvs vs) (k : κ) {y : V} {u : Value} (ry : RelV y u) : KV (putK kvs k y) (stored vs k u) := by
  unfold putK stored
  rw [r.any k]
  by_cases e : (vs.any fun kv => decide (kv.1 = k)) = true
  · rw [if_pos e, if_pos e]; exact r.repl k ry
  · rw [if_neg e, if_neg e]; exact Paired.snoc r ⟨rfl, ry⟩
theorem KV.drop {kvs : List (κ × V)} {vs : List (κ × Value)} (r : KV kvs vs) (k : κ) : KV (dropK kvs k) (without vs k) := by
  unfold KV at r ⊢
  unfold dropK without
  induction r with
  | nil => exact .nil
  | @cons p q ps qs h t ih =>
    obtain ⟨h1, h2⟩ := h
    rw [List.filter_cons, List.filter_cons]
    by_cases e : p.1 = k
    · have a : ¬ decide (p.1 ≠ k) = true := by simp [e]
      have b : ¬ decide (q.1 ≠ k) = true := by simp [h1.symm.trans e]
      rw [if_neg a, if_neg b]; exact ih
    · have e' : ¬ q.1 = k := fun z => e (h1.trans z)
      have a : decide (p.1 ≠ k) = true := by simp [e]
      have b : decide (q.1 ≠ k) = true := by simp [e']
      rw [if_pos a, if_pos b]; exact .cons ⟨h1, h2⟩ ih
theorem KV.length {kvs : List (κ × V)} {vs : List (κ × Value)} (r : KV kvs vs) : kvs.length = vs.length := Paired.length r
theorem dropK_le (kvs : List (κ × V)) (k : κ) : (dropK kvs k).length ≤ kvs.length := List.length_filter_le _ _
end


theorem kV_is {P : Program} {w : World} {k : Key} {u : Value} (r : RelV (kV k) u) : (mixKind P w).is k u = true := by
  cases k with
  | inl i => obtain ⟨t, e⟩ := (show ∃ t, u = Value.int i t from r); subst e; exact mixKind_int P w i t
  | inr x => obtain ⟨t, e⟩ := (show ∃ t, u = Value.str x t from r); subst e; exact mixKind_str P w x t
theorem items_are {P : Program} {w : World} : ∀ {ks : List Key} {us : List Value}, Vals (ks.map kV) us → ItemsAre (mixKind P w) ks us
  | [], _, r => by rw [List.map_nil] at r; cases r; exact .nil
  | k :: ks, _, r => by
    rw [List.map_cons] at r
    cases r with
    | cons h t => exact .cons (kV_is h) (items_are t)

/-- raw entries of a dict with tuple keys -/
abbrev KT (H : Hp) : List (List Key × V) → List (List Key × Addr × Value) → Prop := Paired fun p q => p.1 = q.1 ∧ H q.2.1 = some (.tup (p.1.map kV)) ∧ RelV p.2 q.2.2
theorem KT.val {H : Hp} {kvs : List (List Key × V)} {xs : List (List Key × Addr × Value)} (r : KT H kvs xs) (k : List Key) : RelO (valV kvs k) ((atKey xs k).map (·.2)) := by
  induction r with
  | nil => exact True.intro
  | @cons p q ps qs h t ih =>
    obtain ⟨h1, _, h2⟩ := h
    by_cases e : p.1 = k
    · have e' : q.1 = k := h1.symm.trans e
      have b : atKey (q :: qs) k = some q.2 := by simp [atKey, List.find?_cons, e']
      rw [valV_pos e, b]; exact h2
    · have e' : ¬ q.1 = k := fun z => e (h1.trans z)
      have b : atKey (q :: qs) k = atKey qs k := by simp [atKey, List.find?_cons, e']
      rw [valV_neg e, b]; exact ih
theorem KT.repl {H : Hp} {kvs : List (List Key × V)} {xs : List (List Key × Addr × Value)} (r : KT H kvs xs) (k : List Key) {y : V} {u : Value} (ry : RelV y u) :
    KT H (kvs.map fun kv => if kv.1 = k then (kv.1, y) else kv) (xs.map (putAt k u)) := by
  induction r with
  | nil => exact .nil
  | @cons p q ps qs h t ih =>
    rw [List.map_cons, List.map_cons]
    refine .cons ?_ ih
    obtain ⟨h1, h2, h3⟩ := h
    unfold putAt
    by_cases e : p.1 = k
    · rw [if_pos e, if_pos (h1.symm.trans e)]; exact ⟨h1, h2, ry⟩
    · rw [if_neg e, if_neg (fun z => e (h1.trans z))]; exact ⟨h1, h2, h3⟩
theorem KT.put {H : Hp} {kvs : List (List Key × V)} {xs : List (List Key × Addr × Value)} (r : KT H kvs xs) (k : List Key) {b : Addr} {y : V} {u : Value} (hb : H b = some (.tup (k.map kV))) (ry : RelV y u) :
    KT H (putK kvs k y) (storedH xs k b u) := by
  have e : (kvs.any fun kv => decide (kv.1 = k)) = (atKey xs k).isSome := by
    rw [valV_any, (r.val k).isSome_eq, Option.isSome_map]
  unfold putK storedH
  rw [e]
  by_cases q : (atKey xs k).isSome = true
  · rw [if_pos q, if_pos q]; exact r.repl k ry
  · rw [if_neg q, if_neg q]; exact Paired.snoc r ⟨rfl, hb, ry⟩
theorem KT.keeps {H H' : Hp} {kvs : List (List Key × V)} {xs : List (List Key × Addr × Value)} (r : KT H kvs xs) (ht : ∀ b ys, H b = some (.tup ys) → H' b = some (.tup ys)) : KT H' kvs xs :=
  Paired.mapP r fun _ _ z => ⟨z.1, ht _ _ z.2.1, z.2.2⟩

section
variable {P : Program} {w : World} {H : Hp} {h : Heap} {a : Addr}
theorem rd_of {u : HO} (ok : HOk P w H h) (e : Rd H a u) : ObjOk P w H h a u := e.ok ok
theorem dk_rd {kvs : List (Key × V)} (ok : HOk P w H h) (e : Rd H a (.dK kvs)) : kvs.length ≤ sizeLine ∧ (a == sysModules) = false ∧ ∃ vs, KV kvs vs ∧ h.DictOf (mixKind P w) a vs :=
  show ObjOk P w H h a (.dK kvs) from rd_of ok e
theorem dk_of {kvs : List (Key × V)} (ok : HOk P w H h) (e : H a = some (.dK kvs)) : kvs.length ≤ sizeLine ∧ (a == sysModules) = false ∧ ∃ vs, KV kvs vs ∧ h.DictOf (mixKind P w) a vs := dk_rd ok (.inl e)
/-- a tracked tuple of ints and texts is a key -/
theorem key_of {ks : List Key} (ok : HOk P w H h) (e : H a = some (.tup (ks.map kV))) : (tupleKind (mixKind P w)).is h ks a := by
  obtain ⟨_, its, r, o, h1, h2, n, h3⟩ := (show ObjOk P w H h a (.tup (ks.map kV)) from ok a _ e)
  exact ⟨o, its.toArray, n, h1, h2, h3, by simpa using items_are r⟩
theorem dt_rd {kvs : List (List Key × V)} (ok : HOk P w H h) (e : Rd H a (.dT kvs)) : kvs.length ≤ sizeLine ∧ (a == sysModules) = false ∧
    ∃ xs, KT H kvs xs ∧ h.DictOfH (tupleKind (mixKind P w)) a xs := by
  obtain ⟨z, y, xs, r, o, es, ep, h1, h2, h3, h4, h5⟩ := (show ObjOk P w H h a (.dT kvs) from rd_of ok e)
  refine ⟨z, y, xs, r, o, es, ep, h1, h2, h3, h4, fun x hx => ?_, h5⟩
  have all : ∀ {l : List (List Key × V)} {m : List (List Key × Addr × Value)}, KT H l m → ∀ x ∈ m, (tupleKind (mixKind P w)).is h x.1 x.2.1 := by
    intro l m q
    induction q with
    | nil => intro x hx; exact nomatch hx
    | @cons p q ps qs hq t ih =>
      intro x hx
      rcases List.mem_cons.mp hx with e | hx
      · subst e
        exact key_of ok (by rw [← hq.1]; exact hq.2.1)
      · exact ih x hx
  exact all r x hx
theorem dt_of {kvs : List (List Key × V)} (ok : HOk P w H h) (e : H a = some (.dT kvs)) : kvs.length ≤ sizeLine ∧ (a == sysModules) = false ∧
    ∃ xs, KT H kvs xs ∧ h.DictOfH (tupleKind (mixKind P w)) a xs := dt_rd ok (.inl e)
end

/-- what the dict at a holds at the key y -/
def DGet (H : Hp) (a : Addr) (y : V) (r : Option V) : Prop :=
  (∃ kvs k, Rd H a (.dK kvs) ∧ y = kV k ∧ r = valV kvs k) ∨ ∃ kvs k b, Rd H a (.dT kvs) ∧ y = .ref b ∧ H b = some (.tup (k.map kV)) ∧ r = valV kvs k
/-- the heap behind a[y] = v -/
def DPut (H : Hp) (a : Addr) (y v : V) (H' : Hp) : Prop :=
  (∃ kvs k, H a = some (.dK kvs) ∧ y = kV k ∧ kvs.length < sizeLine ∧ H' = upd H a (.dK (putK kvs k v))) ∨
  ∃ kvs k b, H a = some (.dT kvs) ∧ y = .ref b ∧ H b = some (.tup (k.map kV)) ∧ kvs.length < sizeLine ∧ H' = upd H a (.dT (putK kvs k v))
theorem DGet.k {H : Hp} {a : Addr} {kvs : List (Key × V)} {k : Key} (e : H a = some (.dK kvs)) : DGet H a (kV k) (valV kvs k) := .inl ⟨kvs, k, .inl e, rfl, rfl⟩
theorem DPut.k {H : Hp} {a : Addr} {kvs : List (Key × V)} {k : Key} {v : V} (e : H a = some (.dK kvs)) (hl : kvs.length < sizeLine) : DPut H a (kV k) v (upd H a (.dK (putK kvs k v))) := .inl ⟨kvs, k, e, rfl, hl, rfl⟩
section
variable {X : Cx} {pins : List (Addr × Obj)} {σ : St} {H : Hp} {s : Shared} {a : Addr} {y v : V} {u r : Value} {o : Option V} {A : Around} {E : Value → Shared → Prop}

theorem Inv.big (I : Inv X pins σ H s) : sysModules < s.heap.objs.size := by
  have h : mainGlobals < s.heap.objs.size := (I.mod.glob.keeps I.bk).lt
  exact Nat.lt_trans (by decide) h

/-- d[y], there -/
theorem d_getItem {Q : Value → Shared → Prop} (hu : A.units + 1 < cLine) (I : Inv X pins σ H s) (g : DGet H a y (some v)) (ry : RelV y u) (h : ∀ w' s', Inv X pins σ H s' → RelV v w' → Q w' s') :
    wpAny (model X.prog X.w) A (getItem (.ref a) u) Q E s := by
  rcases g with ⟨kvs, k, e, ey, l⟩ | ⟨kvs, k, b, e, ey, eb, l⟩
  · subst ey
    obtain ⟨z, hd, vs, rel, dd⟩ := dk_rd I.hok e
    obtain ⟨w', hw, rw'⟩ := RelO.some_of (v := v) (o := valueAt vs k) (by rw [l]; exact rel.val k)
    exact wpAny_getItem_of (kV_is ry) dd.mapOf hw (h w' _ (I.tok _) rw')
  · subst ey
    cases (show u = Value.ref b from ry)
    obtain ⟨z, hd, xs, rel, dd⟩ := dt_rd I.hok e
    obtain ⟨w', hw, rw'⟩ := RelO.some_of (v := v) (o := (atKey xs k).map (·.2)) (by rw [l]; exact rel.val k)
    obtain ⟨p, hp, hp2⟩ := Option.map_eq_some_iff.mp hw
    refine wpAny_getItem_heap (tupleKind_room_in1 hu) (key_of I.hok eb) dd hp ?_
    rw [hp2]
    exact h w' _ (I.tok _) rw'
theorem d_notIn {Q : Value → Shared → Prop} (hu : A.units + 1 < cLine) (I : Inv X pins σ H s) (g : DGet H a y o) (ry : RelV y u) (h : ∀ s', Inv X pins σ H s' → Q (.bool (!o.isSome)) s') :
    wpAny (model X.prog X.w) A (compareOp .NotIn u (.ref a)) Q E s := by
  rcases g with ⟨kvs, k, e, ey, l⟩ | ⟨kvs, k, b, e, ey, eb, l⟩
  · subst ey
    obtain ⟨z, hd, vs, rel, dd⟩ := dk_rd I.hok e
    refine wpAny_notIn_of (kV_is ry) hd dd.mapOf ?_
    rw [← (rel.val k).isSome_eq, ← l]
    exact h _ (I.tok _)
  · subst ey
    cases (show u = Value.ref b from ry)
    obtain ⟨z, hd, xs, rel, dd⟩ := dt_rd I.hok e
    refine wpAny_notIn_heap (tupleKind_room_in1 hu) (key_of I.hok eb) hd dd ?_
    have q := (rel.val k).isSome_eq
    rw [Option.isSome_map] at q
    rw [← q, ← l]
    exact h _ (I.tok _)
/-- a dict's object is replaced -/
theorem d_write {h' : Heap} {t' : Nat} {ob : HO} (I : Inv X pins σ H s) (mu : Mut (H a)) (hs : Heap.SameBut a s.heap h') (he : ∃ q, h'.get? a = some q) (new : ObjOk X.prog X.w (upd H a ob) h' a ob) :
    Inv X pins σ (upd H a ob) { s with heap := h', toks := t' } :=
  I.write (x := a) (e := a) mu (.inl rfl) (fun b q hb z => (hs.2 b hb).trans z) he new
theorem dk_new {P : Program} {w : World} {H' : Hp} {h' : Heap} {kvs : List (Key × V)} {vs : List (Key × Value)} (z : kvs.length ≤ sizeLine) (hd : (a == sysModules) = false) (rel : KV kvs vs) (dd : h'.DictOf (mixKind P w) a vs) :
    ObjOk P w H' h' a (.dK kvs) := ⟨z, hd, vs, rel, dd⟩
/-- d[y] = v -/
theorem d_setItem {H' : Hp} {Q : Unit → Shared → Prop} (hu : A.units + 1 < cLine) (I : Inv X pins σ H s) (g : DPut H a y v H') (ry : RelV y u) (rv : RelV v r) (h : ∀ s', Inv X pins σ H' s' → Q () s') :
    wpAny (model X.prog X.w) A (setItem (.ref a) u r) Q E s := by
  rcases g with ⟨kvs, k, e, ey, l, eH⟩ | ⟨kvs, k, b, e, ey, eb, l, eH⟩
  · subst ey eH
    obtain ⟨z, hd, vs, rel, dd⟩ := dk_of I.hok e
    have hz : vs.length ≤ sizeLine := by rw [← rel.length]; exact z
    have hl : (putK kvs k v).length ≤ sizeLine := by have := length_putK kvs k v; omega
    refine wpAny_setItem_pairs (hsz := hz) (kV_is ry) dd fun h' dd' hs => h _ ?_
    have he : ∃ q, h'.get? a = some q := let ⟨q, _, _, hq, _⟩ := dd'; ⟨q, hq⟩
    exact d_write I (by rw [e]; exact True.intro) hs he (dk_new hl hd (rel.put k rv) dd')
  · subst ey eH
    cases (show u = Value.ref b from ry)
    obtain ⟨z, hd, xs, rel, dd⟩ := dt_of I.hok e
    have hz : xs.length ≤ sizeLine := by rw [← Paired.length rel]; exact z
    have hl : (putK kvs k v).length ≤ sizeLine := by have := length_putK kvs k v; omega
    refine wpAny_setItem_heap (hsz := hz) (tupleKind_room_in1 hu) (key_of I.hok eb) dd fun h' dd' hs => h _ ?_
    obtain ⟨q, es, ep, hq, h2, h3, h4, _, h5⟩ := dd'
    refine d_write I (by rw [e]; exact True.intro) hs ⟨q, hq⟩ ⟨hl, hd, _, (rel.put k eb rv).keeps fun c ys ec => ?_, q, es, ep, hq, h2, h3, h4, h5⟩
    rw [upd_ne (ne_of ec e (fun z => nomatch z))]
    exact ec
end

section
variable {X : Cx} {pins : List (Addr × Obj)} {σ : St} {H : Hp} {s : Shared} {a : Addr} {kvs : List (Key × V)} {k : Key} {u : Value} {A : Around} {E : Value → Shared → Prop}
/-- d.pop(k[, x]), there -/
theorem d_pop {v : V} {more : List Value} {Q : Value → Shared → Prop} (I : Inv X pins σ H s) (e : H a = some (.dK kvs)) (ry : RelV (kV k) u) (l : valV kvs k = some v) (hm : more = [] ∨ ∃ x, more = [x])
    (h : ∀ w' s', Inv X pins σ (upd H a (.dK (dropK kvs k))) s' → RelV v w' → Q w' s') : wpAny (model X.prog X.w) A (call (.builtin "dict.pop") (.ref a :: u :: more)) Q E s := by
  obtain ⟨z, hd, vs, rel, dd⟩ := dk_of I.hok e
  obtain ⟨w', hw, rw'⟩ := RelO.some_of (v := v) (o := valueAt vs k) (by rw [← l]; exact rel.val k)
  have hp : (keyPart u).isSome = true := by
    cases k with
    | inl i => obtain ⟨t, q⟩ := (show ∃ t, u = Value.int i t from ry); subst q; rfl
    | inr x => obtain ⟨t, q⟩ := (show ∃ t, u = Value.str x t from ry); subst q; rfl
  have ha : argsOk "dict.pop" ⟨.ref a :: u :: more, []⟩ := by
    rcases hm with q | ⟨x, q⟩
    · subst q; exact PySem.F.args_dict_pop_2 _ _
    · subst q; exact PySem.F.args_dict_pop_3 _ _ _
  refine call_meetsIn PySem.F.slot_dict_pop dd.typeIs PySem.F.entry_dict_pop ha (meets_dict_pop_there (mixKind X.prog X.w) a (kV_is ry) more hm hp)
    ⟨vs, w', dd, by rw [← rel.length]; exact z, hw, fun h' dd' hs => h w' _ ?_ rw'⟩
  have he : ∃ q, h'.get? a = some q := let ⟨q, _, _, hq, _⟩ := dd'; ⟨q, hq⟩
  exact d_write I (by rw [e]; exact True.intro) hs he (dk_new (Nat.le_trans (dropK_le kvs k) z) hd (rel.drop k) dd')
/-- len(d) -/
theorem d_len {Q : Value → Shared → Prop} (I : Inv X pins σ H s) (e : Rd H a (.dK kvs)) (h : ∀ t s', Inv X pins σ H s' → Q (.int kvs.length t) s') : wpAny (model X.prog X.w) A (call (.builtin "len") [.ref a]) Q E s := by
  obtain ⟨z, hd, vs, rel, dd⟩ := dk_rd I.hok e
  refine call_len_dict hd dd (by rw [← rel.length]; rw [sizeLine_eq] at z; omega) ?_
  rw [← rel.length]
  exact h _ _ (I.tok _)
end


/-- the element of a subscription, not a slice -/
def NoSl (i : Expr) : Prop := ∀ ov iv, subscripted i false ov iv = operate [ov, iv] (getItem ov iv)
theorem subD_of {prog : Program} {w : World} {A : Around} {E : Value → Shared → Prop} {s : Shared} {env : Env} {value slice : Expr} {pos : Pos} {T id : String} {Q : Value → Shared → Prop}
    (hl : typeLookup (.type T) "__getitem__" = pure (some (.builtin id))) (hs : NoSl slice)
    (h : wpAny (model prog w) A (eval value env) (fun o s₁ => wpAny (model prog w) A (eval slice env) (fun i s₂ => s₂.TypeIs o T ∧ wpAny (model prog w) A (getItem o i) Q E s₂) E s₁) E s) :
    wpAny (model prog w) A (eval (.Subscript value slice pos) env) Q E s := by
  refine Subscript_ (wpAny_mono h (fun o s₁ h₁ => wpAny_mono h₁ (fun i s₂ h₂ => ?_) fun _ _ x => x) fun _ _ x => x)
  obtain ⟨hT, h₂⟩ := h₂
  unfold subscriptTail
  refine wpAny_bind ?_
  rw [getitemInPython_of_ne hT.not_modules]
  refine wpAny_bind (wpAny_specialOf hT hl ?_)
  have fin : wpAny (model prog w) A (subscripted slice false o i) (fun r s₃ => wpAny (model prog w) A (letTemporaryGo value o r >>= fun _ => pure r) Q E s₃) E s₂ := by
    rw [hs o i]
    exact wpAny_operating (wpAny_mono h₂ (fun r s₃ h₃ => wpAny_bind (wpAny_letTemporaryGo (wpAny_pure h₃))) fun _ _ x => x)
  first
    | exact wpAny_pure (wpAny_bind fin)
    | exact wpAny_bind (wpAny_pure (wpAny_bind fin))
    | exact wpAny_bind fin

theorem dict_typeIs {X : Cx} {pins : List (Addr × Obj)} {σ : St} {H : Hp} {s : Shared} {a : Addr} {y : V} {o : Option V} (I : Inv X pins σ H s) (g : DGet H a y o) : s.TypeIs (.ref a) "dict" := by
  rcases g with ⟨kvs, k, e, _, _⟩ | ⟨kvs, k, b, e, _, _, _⟩
  · obtain ⟨_, _, vs, _, dd⟩ := dk_rd I.hok e
    exact dd.typeIs
  · obtain ⟨_, _, xs, _, dd⟩ := dt_rd I.hok e
    exact dd.typeIs
/-- d[y] -/
def tDGet (td ty : TE) : TE := fun σ H Q => td σ H fun x H1 => ty σ H1 fun y H2 => ∃ a v, x = .ref a ∧ DGet H2 a y (some v) ∧ Q v H2
def tDNotIn (ty td : TE) : TE := fun σ H Q => ty σ H fun y H1 => td σ H1 fun x H2 => ∃ a o, x = .ref a ∧ DGet H2 a y o ∧ Q (.bl (!o.isSome)) H2
/-- d[y] = v -/
def sDPut (td ty tv : TE) : TS := fun D σ H => tv σ H fun v H1 => td σ H1 fun x H2 => ty σ H2 fun y H3 => ∃ a H4, x = .ref a ∧ DPut H3 a y v H4 ∧ D.nx σ H4
section
variable {X : Cx} {o i e value : Expr} {pos pos' tpos : Pos} {td ty tv : TE}
theorem pe_dget (hu : X.A.units + 1 < cLine) (ho : PE X o td) (hi : PE X i ty) (hs : NoSl i) : PE X (.Subscript o i pos) (tDGet td ty) := by
  intro pins s σ H Q I h
  refine subD_of PySem.F.slot_dict_getitem.lookup hs (thn (ho pins s σ H _ I h) fun u s1 ⟨x, H1, I1, rx, q1⟩ => thn (hi pins s1 σ H1 _ I1 q1) fun iv s2 ⟨y, H2, I2, ry, a, v, ex, g, q2⟩ => ?_)
  subst ex
  obtain rfl : u = Value.ref a := rx
  exact ⟨dict_typeIs I2 g, d_getItem hu I2 g ry fun w' s3 I3 rw' => ⟨v, H2, I3, rw', q2⟩⟩
theorem pc_dnotin (hu : X.A.units + 1 < cLine) (hi : PE X i ty) (ho : PE X o td) : PC X .NotIn i o (tDNotIn ty td) := by
  intro pins s σ H Q I h
  refine thn (hi pins s σ H _ I h) fun iv s1 ⟨y, H1, I1, ry, q1⟩ => thn (ho pins s1 σ H1 _ I1 q1) fun u s2 ⟨x, H2, I2, rx, a, ov, ex, g, q2⟩ => ?_
  subst ex
  obtain rfl : u = Value.ref a := rx
  exact d_notIn hu I2 g ry fun s3 I3 => ⟨.bl (!ov.isSome), H2, I3, rfl, q2⟩
theorem ps_dput (hu : X.A.units + 1 < cLine) (ho : PE X o td) (hi : PE X i ty) (hv : PE X value tv) (hs : swapsWith value (some (.Subscript o i pos')) pos.line X.env = pure false) :
    PS X (.Assign [.Subscript o i pos'] value pos) (sDPut td ty tv) := by
  intro pins s σ H D I h
  refine wpAny_Assign_Subscript (thn (hv pins s σ H _ I h) fun r s1 ⟨v, H1, I1, rv, q1⟩ => thn (ho pins s1 σ H1 _ I1 q1) fun u s2 ⟨x, H2, I2, rx, q2⟩ => thn (hi pins s2 σ H2 _ I2 q2) fun iv s3 ⟨y, H3, I3, ry, a, H4, ex, g, q3⟩ => ?_) hs
  subst ex
  obtain rfl : u = Value.ref a := rx
  exact d_setItem hu I3 g ry rv fun s4 I4 => ⟨σ, H4, I4, q3⟩
end


theorem dk_empty {P : Program} {w : World} {H : Hp} (h : Heap) (hb : sysModules < h.objs.size) : ObjOk P w H (h.push { cls := .type "dict", data := .dict #[] }) h.objs.size (.dK []) :=
  ⟨Nat.zero_le _, beq_eq_false_iff_ne.mpr (Ne.symm (Nat.ne_of_lt hb)), [], .nil, Heap.DictOf.new h⟩
/-- {}, to be a dict of the kind that is wanted -/
def tDNewK : TE := fun _ H Q => ∀ p, H p = none → Q (.ref p) (upd H p (.dK []))
section
variable {X : Cx} {pos : Pos}
theorem pe_dnewK : PE X (.Dict [] [] pos) tDNewK := fun pins s σ H Q I h =>
  wpAny_Dict_empty ⟨.ref s.heap.objs.size, _, I.laid (a := s.heap.objs.size) (o := .dK []) (t' := s.toks) (fun _ _ q => Heap.get?_push_of_some _ q) (Nat.le_refl _) (dk_empty s.heap I.big), rfl, h _ (I.hok.fresh (Nat.le_refl _))⟩
end

/-- a method call o.m(e) of a built-in, with one argument: what must be seen of the text -/
structure M1 (X : Cx) (o : Expr) (m : Str) (apos : Pos) (e : Expr) (cpos : Pos) : Prop where
  base : attributeBase o m X.env (eval o X.env) = eval o X.env
  few : ((backTo cpos (starEach [e] X.env)).all (fun x => !x.1) && (backToKw cpos (keywordEach [] X.env)).all (fun x => x.1.isSome)
    && decide (([e] : List Expr).length + ([] : List Keyword).length + (if ([] : List Keyword).isEmpty then 0 else 1) < 30)) = true
  line : (apos.endLine == cpos.line) = true
  trees : backTo cpos (starEach [e] X.env) = [(false, eval e X.env)]
/-- a is a dict, whatever its keys -/
def IsD (H : Hp) (a : Addr) : Prop := (∃ kvs, Rd H a (.dK kvs)) ∨ ∃ kvs, Rd H a (.dT kvs)
theorem isD_at {X : Cx} {pins : List (Addr × Obj)} {σ : St} {H : Hp} {s : Shared} {a : Addr} (I : Inv X pins σ H s) (d : IsD H a) :
    s.TypeIs (.ref a) "dict" ∧ (∀ b, Value.ref a = .ref b → ∃ ob, s.heap.get? b = some ob ∧ ob.dict = none) ∧ (a == sysModules) = false := by
  rcases d with ⟨kvs, e⟩ | ⟨kvs, e⟩
  · obtain ⟨_, hd, vs, _, dd⟩ := dk_rd I.hok e
    refine ⟨dd.typeIs, fun b q => ?_, hd⟩
    cases q
    obtain ⟨ob, _, _, h1, h2, _⟩ := dd
    exact ⟨ob, h1, h2.2.1⟩
  · obtain ⟨_, hd, xs, _, dd⟩ := dt_rd I.hok e
    refine ⟨dd.typeIs, fun b q => ?_, hd⟩
    cases q
    obtain ⟨ob, _, _, h1, h2, _⟩ := dd
    exact ⟨ob, h1, h2.2.1⟩

section
variable {X : Cx} {pins : List (Addr × Obj)} {σ : St} {H : Hp} {s : Shared} {a : Addr} {y d : V} {u r : Value} {o : Option V} {A : Around} {E : Value → Shared → Prop}
end

/-- d.pop(k): there; d.pop(k, x): there or not -/
def tDPop1 (td ty : TE) : TE := fun σ H Q => td σ H fun x H1 => ∃ a, x = .ref a ∧ IsD H1 a ∧ ty σ H1 fun y H2 => ∃ kvs k v, H2 a = some (.dK kvs) ∧ y = kV k ∧ valV kvs k = some v ∧ Q v (upd H2 a (.dK (dropK kvs k)))
section
variable {X : Cx} {o e f : Expr} {apos cpos : Pos} {td ty tx : TE}
theorem pe_dpop1 (ho : PE X o td) (he : PE X e ty) (m : M1 X o "pop" apos e cpos) : PE X (.Call (.Attribute o "pop" apos) [e] [] cpos) (tDPop1 td ty) := by
  intro pins s σ H Q I h
  refine wpAny_Call_method m.base m.few m.line PySem.F.plainAttrs_dict PySem.F.slot_dict_pop PySem.F.type_dict_pop (thn (ho pins s σ H _ I h) fun u s1 ⟨x, H1, I1, rx, a, ex, d, q1⟩ => ?_)
  subst ex
  obtain rfl : u = Value.ref a := rx
  obtain ⟨t1, t2, _⟩ := isD_at I1 d
  refine ⟨t1, t2, ?_⟩
  rw [m.trees]
  refine Calls.callWith_builtin rfl (Calls.evalArgs_plain (Calls.spliced_cons (thn (he pins s1 σ H1 _ I1 q1) fun iv s2 ⟨y, H2, I2, ry, kvs, k, v, ea, ey, l, q2⟩ => Calls.spliced_nil ?_)))
  subst ey
  exact d_pop I2 ea ry l (.inl rfl) fun w' s3 I3 rw' => ⟨v, _, I3, rw', q2⟩
end

section
variable {X : Cx} {pins : List (Addr × Obj)} {σ : St} {H : Hp} {s : Shared} {a : Addr} {kvs : List (Key × V)} {A : Around} {E : Value → Shared → Prop}
end


section
variable {X : Cx} {pins : List (Addr × Obj)} {σ : St} {H : Hp} {s : Shared} {a : Addr} {y : V} {u : Value} {A : Around} {E : Value → Shared → Prop}
end
end L2

namespace L2
open PySem PySem.Spec PyProof.Rows

section
variable {prog : Program} {w : World} {A : Around} {E : Value → Shared → Prop}
end

section
variable {X : Cx}
end
end L2

namespace L2
open PySem PySem.Spec PyProof.Rows

section
variable {X : Cx} {pins : List (Addr × Obj)} {σ : St} {H : Hp} {s : Shared} {h' : Heap}
end
section
variable {X : Cx}
end

section
variable {X : Cx} {tg : Expr}
end
section
variable {X : Cx} {tg : Expr}
end

section
variable {prog : Program} {w : World} {A : Around} {E : Value → Shared → Prop} {s : Shared}
end

section
variable {X : Cx} {pins : List (Addr × Obj)} {σ : St} {H : Hp} {s : Shared} {d : Addr} {o : Obj}
end

section
variable {P : Program} {w : World} {K : PySem.W.Frag} {tg : Expr} {d : Addr} {o : Obj} {es : Array DictEntry} {ep : Nat}
end

section
variable {X : Cx} {tg e : Expr} {td : TE} {apos cpos : Pos}
end

end L2

section 
namespace Bits
open PySem PyProof.Rows

end Bits
end 

section 
namespace TL
open PySem PySem.Builtin PySem.Builtin.Str PySem.StrLaws

end TL
end 

namespace L2
open PySem PySem.Spec PyProof.Rows

section
variable {X : Cx} {pins : List (Addr × Obj)} {σ : St} {H : Hp} {s : Shared} {Q : VK}
end

section
variable {X : Cx}

end

section
variable {X : Cx} {o e : Expr} {to te : TE}
end
end L2

namespace L2
open PySem PySem.Spec PyProof.Rows

section
variable {X : Cx}
end

end L2

namespace Att
open PySem PySem.W PySem.Calls PyProof.Rows

section
variable {prog : Program} {w : World} {A : Around} {E : Value → Shared → Prop} {s : Shared} {K : Frag}

end
end Att

namespace L2
open PySem PySem.Spec PyProof.Rows

end L2

namespace L2
open PySem PySem.Spec PyProof.Rows

end L2

namespace L2
open PySem PySem.Spec PyProof.Rows

/-- the j-th statement of a class's body -/
def inClass (s : Stmt) (j : Nat) : Stmt := match s with
  | .ClassDef _ _ _ body _ _ _ _ _ _ _ => body.getD j (.Pass ⟨0, 0, 0, 0⟩)
  | _ => .Pass ⟨0, 0, 0, 0⟩
def defArgs (s : Stmt) : Arguments := match s with
  | .FunctionDef _ a _ _ _ _ _ _ _ _ => a
  | _ => { posonlyargs := [], args := [], vararg := none, kwonlyargs := [], kw_defaults := [], kwarg := none, defaults := [] }
def defBody (s : Stmt) : List Stmt := match s with
  | .FunctionDef _ _ b _ _ _ _ _ _ _ => b
  | _ => []
def defScope (s : Stmt) : Scope := match s with
  | .FunctionDef _ _ _ _ _ _ sc _ _ _ => sc
  | _ => { kind := .function, names := [], isGenerator := false, isCoroutine := false }

abbrev CX0 : CXT := fun _ _ _ _ _ _ => False
abbrev E0 : XK := fun _ _ _ => False
theorem pass0 {X : Cx} : Passes CX0 X E0 := fun _ _ _ _ _ _ _ h => h.elim

structure Fun (K : PySem.W.Frag) (x qual : Str) (st : Stmt) (f : Addr) (fd : FuncData) : Prop where
  ex : ∃ (oc : Value) (od : Option Addr) (kV doc pm : Value) (an : Option Addr) (cdv ct : Value) (osl : Array (Option Value)),
    fd = PySem.W.fnOf x qual (defArgs st) (defBody st) (defScope st) .none kV doc pm an cdv ct ∧ K.lookup f = some ⟨oc, od, .func fd, osl⟩ ∧ PySem.W.codeIn K cdv qual = true
  kp : PySem.W.keepIn K (.ref f) = true
section
variable {P : Program} {w : World} {K : PySem.W.Frag} {mg : Str → Option Value} {base : Heap}
/-- THE RULE for a def: its body as a term of rules, and the reading of that term -/
theorem Fun.ok {x qual : Str} {st : Stmt} {f : Addr} {fd : FuncData} {N ps : List Str} {k : Nat} {sp : Sp} (F : Fun K x qual st f fd) (S : FnScope N ps (defScope st)) (len : ∀ vs H Q E, sp vs H Q E → vs.length = ps.length)
    (hbody : ∀ (cdv : Value) (A : Around) (outer : List Env) (s : Shared) (H : Hp) (vs : List V) (Q : VK) (E : XK), Room k (A.deeper (envOfC qual (defScope st) s.heap.objs.size f cdv)) → sp vs H Q E →
      ∃ t, PSs (cxOf CX0 P w K mg base N qual (defScope st) f cdv A outer s H E).nox (defBody st) t ∧ t { nx := fun _ H' => Q .non H', rt := Q } (start N vs) H) : FnOk P w K mg base CX0 (k + 1) f fd ps sp := by
  obtain ⟨oc, od, kV, doc, pm, an, cdv, ct, osl, rfl, lk, hcd⟩ := F.ex
  refine fn_of lk hcd S len fun A outer s H vs Q E hr hsp => ?_
  obtain ⟨t, h, q⟩ := hbody cdv A outer s H vs Q E hr hsp
  exact ⟨t, h.nox, q⟩
/-- how its arguments bind (no defaults): h is «fun _ _ _ _ _ _ us hl => match us, hl with | [_, _], _ => rfl», one _ a parameter -/
theorem Fun.binds {x qual : Str} {st : Stmt} {f : Addr} {fd : FuncData} {ps : List Str} (F : Fun K x qual st f fd)
    (h : ∀ (kV doc pm : Value) (an : Option Addr) (cdv ct : Value) (us : List Value), us.length = ps.length → bindArgs (PySem.W.fnOf x qual (defArgs st) (defBody st) (defScope st) .none kV doc pm an cdv ct) ⟨us, []⟩ = pure (ps.zip us)) : Binds K fd ps [] := by
  obtain ⟨oc, od, kV, doc, pm, an, cdv, ct, osl, rfl, lk, hcd⟩ := F.ex
  exact .all (h kV doc pm an cdv ct)
theorem fun_mk {x qual : Str} {st : Stmt} {f : Addr} {oc : Value} {od an : Option Addr} {osl : Array (Option Value)} {kV doc pm cdv ct : Value} (l : K.lookup f = some ⟨oc, od, .func (PySem.W.fnOf x qual (defArgs st) (defBody st) (defScope st) .none kV doc pm an cdv ct), osl⟩)
    (c : PySem.W.codeIn K cdv qual = true) (k : PySem.W.keepIn K (.ref f) = true) : Fun K x qual st f (PySem.W.fnOf x qual (defArgs st) (defBody st) (defScope st) .none kV doc pm an cdv ct) := ⟨⟨oc, od, kV, doc, pm, an, cdv, ct, osl, rfl, l, c⟩, k⟩
end
theorem hu_of {A : Around} {k : Nat} (hr : Room k A) : A.units + 1 < cLine := Nat.lt_of_le_of_lt (Nat.add_le_add_left (by decide : 1 ≤ 64) _) hr.units
theorem small1000 {n : Nat} (h : n ≤ 1000) : n < sizeLine := Nat.lt_of_le_of_lt h (by decide)

section
variable {X : Cx}
theorem pv (i : Nat) {x : Str} {pos : Pos} (hN : X.N[i]? = some x := by rfl) (hv : Vis X.env.scope x := by first | exact Or.inl rfl | exact Or.inr (Or.inl rfl) | exact Or.inr (Or.inr rfl)) (hd : (x == ("__debug__" : Str)) = false := by decide)
    (hcd : (x == ("__classdict__" : Str)) = false := by decide) : PE X (.Name x pos) (tVar i) := pe_var hN hv hd hcd
/-- len of a dict -/
theorem call_lenD : CallR X (.builtin "len") (fun xs H Q => ∃ a kvs, xs = [V.ref a] ∧ H a = some (.dK kvs) ∧ Q (.int kvs.length) H) := by
  intro pins s σ H xs us Q I r h
  obtain ⟨a, kvs, rfl, ha, q⟩ := h
  obtain ⟨u, rfl, ru⟩ := vals1 r
  cases ru
  exact d_len I (.inl ha) fun t s' I' => ⟨.int kvs.length, H, I', ⟨t, rfl⟩, q⟩
end

theorem iteF {A B : Prop} (h : B) : if false = true then A else B := by
  rw [if_neg Bool.false_ne_true]
  exact h
theorem iteT {A B : Prop} (h : A) : if true = true then A else B := by
  rw [if_pos rfl]
  exact h
theorem ite2 {c A B : Prop} [Decidable c] (h1 : c → A) (h2 : ¬ c → B) : if c then A else B := by
  by_cases h : c
  · rw [if_pos h]
    exact h1 h
  · rw [if_neg h]
    exact h2 h
/-- all that was tracked is as it was -/
def Same (H H' : Hp) : Prop := ∀ b o, H b = some o → H' b = some o
theorem Same.refl (H : Hp) : Same H H := fun _ _ h => h
theorem Same.trans {H H1 H2 : Hp} (a : Same H H1) (b : Same H1 H2) : Same H H2 := fun c o h => b c o (a c o h)
theorem Same.free {H H' : Hp} (e : Same H H') {l : Addr} (h : H' l = Option.none) : H l = Option.none := by
  cases q : H l with
  | none => rfl
  | some o =>
    rw [e l o q] at h
    cases h
theorem Same.seq {K : PySem.W.Frag} {H H' : Hp} {a : Addr} {xs : List V} (e : Same H H') (h : SqL K H a xs) : SqL K H' a xs := by
  rcases h with (h | ⟨o, h⟩) | h
  · exact .inl (.inl (e _ _ h))
  · exact .inl (.inr ⟨o, e _ _ h⟩)
  · exact .inr h

section
variable {κ : Type} [DecidableEq κ]
end
/-- a new instance and its __init__ leave all that was tracked as it was -/
theorem Same.made {H H1 : Hp} {x dx C : Addr} (nx : H x = Option.none) (nd : H dx = Option.none) (k : ∀ b o, (upd (upd H dx (.own x)) x (.ins C dx [])) b = some o → b ≠ x → H1 b = some o) : Same H H1 := fun b o e =>
  k b o (by rw [upd_ne (ne_of_none e nx), upd_ne (ne_of_none e nd)]; exact e) (ne_of_none e nx)
end L2

section
set_option Elab.async false
set_option linter.all false
set_option maxRecDepth 100000
set_option maxHeartbeats 2000000
namespace L2
open PySem PySem.Spec PyProof.Rows
open PySem.W (WData Codec OpenSpec Well WellAll ReadsW ReadsAllW)
mutual
/-- x stands for the datum d, lists and tuples all the way -/
inductive Dw (K : PySem.W.Frag) (H : Hp) : V → WData → Prop
  | non : Dw K H .non .none
  | bl (b : Bool) : Dw K H (.bl b) (.bool b)
  | int (i : Int) : Dw K H (.int i) (.int i)
  | str (x : Str) : Dw K H (.str x) (.str x)
  | byt (b : Array UInt8) : Dw K H (.byt b) (.bytes b.toList)
  | lst {a : Addr} {xs : List V} {ds : List WData} : SqL K H a xs → DwAll K H xs ds → Dw K H (.ref a) (.list ds)
  | tup {a : Addr} {xs : List V} {ds : List WData} : SqT K H a xs → DwAll K H xs ds → Dw K H (.ref a) (.tuple ds)
inductive DwAll (K : PySem.W.Frag) (H : Hp) : List V → List WData → Prop
  | nil : DwAll K H [] []
  | cons {v : V} {vs : List V} {d : WData} {ds : List WData} : Dw K H v d → DwAll K H vs ds → DwAll K H (v :: vs) (d :: ds)
end
theorem dw_ints {K : PySem.W.Frag} {H : Hp} : ∀ ns : List Int, DwAll K H (ns.map V.int) (ns.map WData.int)
  | [] => .nil
  | n :: r => .cons (.int n) (dw_ints r)
theorem ints_dw {K : PySem.W.Frag} {H : Hp} : ∀ (ns : List Int) (xs : List V), DwAll K H xs (ns.map WData.int) → xs = ns.map V.int
  | [], xs, h => by
    cases h
    rfl
  | n :: r, xs, h => by
    cases h with
    | cons h1 h2 =>
      cases h1
      rw [ints_dw r _ h2] <;> rfl
section
variable {P : Program} {w : World} {K : PySem.W.Frag} {H : Hp} {h : Heap} {R : PySem.W.WRecords} {cl : Str → Option Addr}
theorem sqL_at {a : Addr} {xs : List V} (hok : HOk P w H h) (KX : K.In h) (q : SqL K H a xs) : ∃ (its : List Value) (o : Obj) (n : Nat), Vals xs its ∧ h.get? a = some o ∧ o.cls = .type "list" ∧ o.data = .seq its.toArray n := by
  rcases q with q | ⟨o, its, n, e, hc, _, hd, _, hv⟩
  · obtain ⟨_, its, n, hv, e⟩ := (show ObjOk P w H h a (.lst xs) from q.ok hok)
    exact ⟨its, _, n, hv, e, rfl, rfl⟩
  · exact ⟨its.toList, o, n, hv, KX _ _ e, hc, by simp [hd]⟩
theorem sqT_at {a : Addr} {xs : List V} (hok : HOk P w H h) (KX : K.In h) (q : SqT K H a xs) : ∃ (its : List Value) (o : Obj) (n : Nat), Vals xs its ∧ h.get? a = some o ∧ o.cls = .type "tuple" ∧ o.data = .seq its.toArray n := by
  rcases q with q | ⟨o, its, n, e, hc, hd, _, hv⟩
  · obtain ⟨_, its, hv, o, e, hc, n, hd⟩ := (show ObjOk P w H h a (.tup xs) from q.ok hok)
    exact ⟨its, o, n, hv, e, hc, hd⟩
  · exact ⟨its.toList, o, n, hv, KX _ _ e, hc, by simp [hd]⟩
mutual
theorem Dw.reads (hok : HOk P w H h) (KX : K.In h) : ∀ (d : WData) (v : V) (u : Value), Dw K H v d → RelV v u → ∃ as, ReadsW R cl h u d as
  | .none, _, _, x, r => by
    cases x
    cases r
    exact ⟨_, ReadsW.none⟩
  | .bool b, _, _, x, r => by
    cases x
    cases r
    exact ⟨_, ReadsW.bool b⟩
  | .int i, _, _, x, r => by
    cases x
    obtain ⟨t, rfl⟩ := r
    exact ⟨_, ReadsW.int i t⟩
  | .str s, _, _, x, r => by
    cases x
    obtain ⟨t, rfl⟩ := r
    exact ⟨_, ReadsW.str s t⟩
  | .bytes b, _, _, x, r => by
    cases x
    obtain ⟨t, rfl⟩ := r
    exact ⟨_, ReadsW.bytes _ t⟩
  | .list ds, _, _, x, r => by
    cases x with
    | lst hs ha =>
      cases r
      obtain ⟨its, o, n, rv, ho, hc, hd⟩ := sqL_at hok KX hs
      obtain ⟨as, hr⟩ := Dw.readsAll hok KX ds _ its ha rv
      exact ⟨_, ReadsW.list ho hc hd hr⟩
  | .tuple ds, _, _, x, r => by
    cases x with
    | tup hs ha =>
      cases r
      obtain ⟨its, o, n, rv, ho, hc, hd⟩ := sqT_at hok KX hs
      obtain ⟨as, hr⟩ := Dw.readsAll hok KX ds _ its ha rv
      exact ⟨_, ReadsW.tuple ho hc hd hr⟩
  | .float _, _, _, x, _ => by cases x
  | .dict _, _, _, x, _ => by cases x
  | .bytearray _, _, _, x, _ => by cases x
  | .set _, _, _, x, _ => by cases x
  | .frozenset _, _, _, x, _ => by cases x
  | .obj _ _, _, _, x, _ => by cases x
theorem Dw.readsAll (hok : HOk P w H h) (KX : K.In h) : ∀ (ds : List WData) (vs : List V) (us : List Value), DwAll K H vs ds → Vals vs us → ∃ as, ReadsAllW R cl h us ds as
  | [], _, _, x, r => by
    cases x
    cases r
    exact ⟨_, ReadsAllW.nil⟩
  | d :: ds, _, _, x, r => by
    cases x with
    | cons h1 h2 =>
      cases r with
      | cons r1 r2 =>
        obtain ⟨as, q1⟩ := Dw.reads hok KX d _ _ h1 r1
        obtain ⟨bs, q2⟩ := Dw.readsAll hok KX ds _ _ h2 r2
        exact ⟨_, ReadsAllW.cons q1 q2⟩
end
end
mutual
/-- data that a codec tells -/
def plW : WData → Bool
  | .none => true
  | .bool _ => true
  | .int _ => true
  | .str _ => true
  | .bytes _ => true
  | .list xs => plWs xs
  | .tuple xs => plWs xs
  | _ => false
def plWs : List WData → Bool
  | [] => true
  | x :: r => plW x && plWs r
end
theorem plWs_map {α : Type} {f : α → WData} (h : ∀ a, plW (f a) = true) : ∀ l : List α, plWs (l.map f) = true
  | [] => rfl
  | x :: r => by
    show (plW (f x) && plWs (r.map f)) = true
    rw [h x, plWs_map h r] <;> rfl
theorem pl_enc : ∀ (c : Codec) (a : c.denote), plW (c.enc a) = true
  | .unit, _ => rfl
  | .bool, _ => rfl
  | .int _ _, _ => rfl
  | .nat _ _, _ => rfl
  | .u8, _ => rfl
  | .bytes _ _, _ => rfl
  | .text _ _ _ _, _ => rfl
  | .list _ _ c, a => plWs_map (fun x => pl_enc c x) a
  | .pair c d, a => by
    show (plW (c.enc a.1) && (plW (d.enc a.2) && true)) = true
    rw [pl_enc c a.1, pl_enc d a.2] <;> rfl
  | .triple c d e, a => by
    show (plW (c.enc a.1) && (plW (d.enc a.2.1) && (plW (e.enc a.2.2) && true))) = true
    rw [pl_enc c a.1, pl_enc d a.2.1, pl_enc e a.2.2] <;> rfl
  | .option c, none => rfl
  | .option c, some x => pl_enc c x
theorem pl_encAll : ∀ (cs : List Codec) (a : Codec.denoteAll cs), plWs (Codec.encAll cs a) = true
  | [], _ => rfl
  | c :: cs, a => by
    show (plW (c.enc a.1) && plWs (Codec.encAll cs a.2)) = true
    rw [pl_enc c a.1, pl_encAll cs a.2] <;> rfl
theorem weight_mem : ∀ {xs : List WData} {d : WData}, d ∈ xs → d.weight ≤ WData.weightAll xs
  | [], d, h => absurd h (by simp)
  | x :: r, d, h => by
    show d.weight ≤ x.weight + 1 + WData.weightAll r
    rcases List.mem_cons.mp h with e | m
    · rw [e]
      omega
    · have z := weight_mem m
      omega
def toV : Value → V
  | .none => .non
  | .bool b => .bl b
  | .int i _ => .int i
  | .str x _ => .str x
  | .bytes b _ => .byt b
  | .ref a => .ref a
  | _ => .non
/-- a value of the arguments, its objects among A -/
def OkU (A : List Addr) : Value → Prop
  | .none => True
  | .bool _ => True
  | .int _ _ => True
  | .str _ _ => True
  | .bytes _ _ => True
  | .ref a => a ∈ A
  | _ => False
theorem OkU.mono {A B : List Addr} (h : ∀ a ∈ A, a ∈ B) : ∀ {u : Value}, OkU A u → OkU B u := fun {u} x => by
  cases u with
  | ref a => exact h a x
  | none => trivial
  | bool b => trivial
  | int i t => trivial
  | str s t => trivial
  | bytes b t => trivial
  | _ => exact False.elim x
theorem relV_toV {A : List Addr} {u : Value} (x : OkU A u) : RelV (toV u) u := by
  cases u with
  | ref a => rfl
  | none => rfl
  | bool b => rfl
  | int i t => exact ⟨t, rfl⟩
  | str s t => exact ⟨t, rfl⟩
  | bytes b t => exact ⟨t, rfl⟩
  | _ => exact False.elim x
theorem vals_toV {A : List Addr} : ∀ {vs : List Value}, (∀ u ∈ vs, OkU A u) → Vals (vs.map toV) vs
  | [], _ => .nil
  | u :: r, h => .cons (relV_toV (h u (List.mem_cons_self ..))) (vals_toV fun x hx => h x (List.mem_cons_of_mem _ hx))
/-- an object of the arguments -/
def ArgOb (h : Heap) (A : List Addr) (a : Addr) : Prop := ∃ vs : List Value, vs.length ≤ sizeLine ∧ (∀ u ∈ vs, OkU A u) ∧
  (h.get? a = some { cls := .type "list", data := .seq vs.toArray } ∨ h.get? a = some { cls := .type "tuple", data := .seq vs.toArray })
theorem ArgOb.mono {h : Heap} {A B : List Addr} {a : Addr} (k : ∀ a ∈ A, a ∈ B) (x : ArgOb h A a) : ArgOb h B a := by
  obtain ⟨vs, h1, h2, h3⟩ := x
  exact ⟨vs, h1, fun u hu => (h2 u hu).mono k, h3⟩
theorem wellAll_len {P : Params} {h : Heap} : ∀ {vs : List Value} {ds : List WData}, WellAll P h vs ds → vs.length = ds.length
  | _, _, .nil => rfl
  | _, _, .cons _ b => by
    show _ + 1 = _ + 1
    rw [wellAll_len b]
theorem well_list {P : Params} {h : Heap} {v : Value} {ds : List WData} (x : Well P h v (.list ds)) : ∃ (a : Addr) (vs : List Value), v = .ref a ∧ h.get? a = some { cls := .type "list", data := .seq vs.toArray } ∧ WellAll P h vs ds := by
  cases x with
  | list ho hall => exact ⟨_, _, rfl, ho, hall⟩
theorem well_tuple {P : Params} {h : Heap} {v : Value} {ds : List WData} (x : Well P h v (.tuple ds)) : ∃ (a : Addr) (vs : List Value), v = .ref a ∧ h.get? a = some { cls := .type "tuple", data := .seq vs.toArray } ∧ WellAll P h vs ds := by
  cases x with
  | tuple ho hall => exact ⟨_, _, rfl, ho, hall⟩
theorem well_cons {P : Params} {h : Heap} {us : List Value} {d : WData} {ds : List WData} (x : WellAll P h us (d :: ds)) : ∃ (v : Value) (vs : List Value), us = v :: vs ∧ Well P h v d ∧ WellAll P h vs ds := by
  cases x with
  | cons a b => exact ⟨_, _, rfl, a, b⟩
theorem line_of {n : Nat} (h : n ≤ 1048576) : n ≤ sizeLine := Nat.le_trans h (by decide)
section
variable {P : Params} {h : Heap}
mutual
theorem area_one : ∀ (d : WData) (v : Value), Well P h v d → plW d = true → d.weight ≤ 1048576 → ∃ A : List Addr, OkU A v ∧ ∀ a ∈ A, ArgOb h A a
  | .none, _, x, _, _ => by
    cases x
    exact ⟨[], trivial, fun a m => absurd m (by simp)⟩
  | .bool b, _, x, _, _ => by
    cases x
    exact ⟨[], trivial, fun a m => absurd m (by simp)⟩
  | .int i, _, x, _, _ => by
    cases x
    exact ⟨[], trivial, fun a m => absurd m (by simp)⟩
  | .str s, _, x, _, _ => by
    cases x
    exact ⟨[], trivial, fun a m => absurd m (by simp)⟩
  | .bytes b, _, x, _, _ => by
    cases x
    exact ⟨[], trivial, fun a m => absurd m (by simp)⟩
  | .list ds, _, x, p, z => by
    obtain ⟨a, vs, rfl, ho, hall⟩ := well_list x
    have z2 : WData.weightAll ds ≤ 1048576 := z
    obtain ⟨A, h1, h2⟩ := area_all ds _ hall p fun d hd => Nat.le_trans (weight_mem hd) z2
    have k : ∀ b ∈ A, b ∈ a :: A := fun b hb => List.mem_cons_of_mem _ hb
    refine ⟨a :: A, List.mem_cons_self .., fun b hb => ?_⟩
    rcases List.mem_cons.mp hb with e | m
    · rw [e]
      exact ⟨vs, line_of (by rw [wellAll_len hall]; exact Nat.le_trans (PySem.W.length_le_weightAllW ds) z2), fun u hu => (h1 u hu).mono k, .inl ho⟩
    · exact (h2 b m).mono k
  | .tuple ds, _, x, p, z => by
    obtain ⟨a, vs, rfl, ho, hall⟩ := well_tuple x
    have z2 : WData.weightAll ds ≤ 1048576 := z
    obtain ⟨A, h1, h2⟩ := area_all ds _ hall p fun d hd => Nat.le_trans (weight_mem hd) z2
    have k : ∀ b ∈ A, b ∈ a :: A := fun b hb => List.mem_cons_of_mem _ hb
    refine ⟨a :: A, List.mem_cons_self .., fun b hb => ?_⟩
    rcases List.mem_cons.mp hb with e | m
    · rw [e]
      exact ⟨vs, line_of (by rw [wellAll_len hall]; exact Nat.le_trans (PySem.W.length_le_weightAllW ds) z2), fun u hu => (h1 u hu).mono k, .inr ho⟩
    · exact (h2 b m).mono k
  | .float _, _, _, p, _ => Bool.noConfusion (show false = true from p)
  | .dict _, _, _, p, _ => Bool.noConfusion (show false = true from p)
  | .bytearray _, _, _, p, _ => Bool.noConfusion (show false = true from p)
  | .set _, _, _, p, _ => Bool.noConfusion (show false = true from p)
  | .frozenset _, _, _, p, _ => Bool.noConfusion (show false = true from p)
  | .obj _ _, _, _, p, _ => Bool.noConfusion (show false = true from p)
theorem area_all : ∀ (ds : List WData) (vs : List Value), WellAll P h vs ds → plWs ds = true → (∀ d ∈ ds, d.weight ≤ 1048576) → ∃ A : List Addr, (∀ u ∈ vs, OkU A u) ∧ ∀ a ∈ A, ArgOb h A a
  | [], _, x, _, _ => by
    cases x
    exact ⟨[], fun u m => absurd m (by simp), fun a m => absurd m (by simp)⟩
  | d :: ds, _, x, p, z => by
    obtain ⟨v, vs, rfl, x1, x2⟩ := well_cons x
    have q : plW d = true ∧ plWs ds = true := Bool.and_eq_true_iff.mp p
    obtain ⟨A, a1, a2⟩ := area_one d v x1 q.1 (z d (List.mem_cons_self ..))
    obtain ⟨B, b1, b2⟩ := area_all ds vs x2 q.2 fun e he => z e (List.mem_cons_of_mem _ he)
    have kA : ∀ b ∈ A, b ∈ A ++ B := fun b hb => List.mem_append.mpr (.inl hb)
    have kB : ∀ b ∈ B, b ∈ A ++ B := fun b hb => List.mem_append.mpr (.inr hb)
    refine ⟨A ++ B, fun u hu => ?_, fun b hb => ?_⟩
    · rcases List.mem_cons.mp hu with e | m
      · rw [e]
        exact a1.mono kA
      · exact (b1 u m).mono kB
    · rcases List.mem_append.mp hb with m | m
      · exact (a2 b m).mono kA
      · exact (b2 b m).mono kB
end
end
/-- what is tracked of an argument's object -/
def hoOf (o : Obj) : Option HO := match o.data with
  | .seq vs _ => if (o.cls == Value.type "list") = true then some (.frz o (.lst (vs.toList.map toV))) else some (.frz o (.tup (vs.toList.map toV)))
  | _ => none
def argH (K : PySem.W.Frag) (h : Heap) (A : List Addr) : Hp := fun b => if b ∈ A then (if (K.lookup b).isNone = true then (h.get? b).bind hoOf else none) else none
/-- nothing is tracked but what is known to the object -/
def OnlyF (H : Hp) : Prop := ∀ b, H b = none ∨ ∃ o u, H b = some (.frz o u)
theorem hoOf_lst (vs : List Value) : hoOf { cls := .type "list", data := .seq vs.toArray } = some (.frz { cls := .type "list", data := .seq vs.toArray } (.lst (vs.map toV))) := by
  show (if (Value.type "list" == Value.type "list") = true then some (HO.frz { cls := .type "list", data := .seq vs.toArray } (.lst (vs.toArray.toList.map toV))) else some (HO.frz { cls := .type "list", data := .seq vs.toArray } (.tup (vs.toArray.toList.map toV)))) = _
  rw [if_pos (beq_self_eq_true _)]
theorem hoOf_tup (vs : List Value) : hoOf { cls := .type "tuple", data := .seq vs.toArray } = some (.frz { cls := .type "tuple", data := .seq vs.toArray } (.tup (vs.map toV))) := by
  show (if (Value.type "tuple" == Value.type "list") = true then some (HO.frz { cls := .type "tuple", data := .seq vs.toArray } (.lst (vs.toArray.toList.map toV))) else some (HO.frz { cls := .type "tuple", data := .seq vs.toArray } (.tup (vs.toArray.toList.map toV)))) = _
  rw [if_neg (by decide)]
section
variable {P : Program} {w : World} {K : PySem.W.Frag} {h : Heap} {A : List Addr}
theorem argH_at {b : Addr} {o : Obj} (hb : b ∈ A) (hk : K.lookup b = none) (e : h.get? b = some o) : argH K h A b = hoOf o := by
  unfold argH
  rw [if_pos hb, hk, if_pos (show (none : Option Obj).isNone = true from rfl), e] <;> rfl
theorem of_argH {b : Addr} {u : HO} (q : argH K h A b = some u) : b ∈ A ∧ K.lookup b = none := by
  unfold argH at q
  by_cases hb : b ∈ A
  · rw [if_pos hb] at q
    cases hk : K.lookup b with
    | none => exact ⟨hb, rfl⟩
    | some o =>
      rw [hk, if_neg (by simp)] at q
      cases q
  · rw [if_neg hb] at q
    cases q
/-- what stands tracked -/
theorem argH_is (ar : ∀ a ∈ A, ArgOb h A a) {b : Addr} {u : HO} (q : argH K h A b = some u) : K.lookup b = none ∧ ∃ vs : List Value, vs.length ≤ sizeLine ∧ (∀ u ∈ vs, OkU A u) ∧
    ((h.get? b = some { cls := .type "list", data := .seq vs.toArray } ∧ u = .frz { cls := .type "list", data := .seq vs.toArray } (.lst (vs.map toV))) ∨
     (h.get? b = some { cls := .type "tuple", data := .seq vs.toArray } ∧ u = .frz { cls := .type "tuple", data := .seq vs.toArray } (.tup (vs.map toV)))) := by
  obtain ⟨hb, hk⟩ := of_argH q
  obtain ⟨vs, h1, h2, h3⟩ := ar b hb
  refine ⟨hk, vs, h1, h2, ?_⟩
  rcases h3 with e | e
  · rw [argH_at hb hk e, hoOf_lst] at q
    exact .inl ⟨e, (Option.some.inj q).symm⟩
  · rw [argH_at hb hk e, hoOf_tup] at q
    exact .inr ⟨e, (Option.some.inj q).symm⟩
theorem argH_only (ar : ∀ a ∈ A, ArgOb h A a) : OnlyF (argH K h A) := fun b => by
  cases q : argH K h A b with
  | none => exact .inl rfl
  | some u =>
    obtain ⟨_, vs, _, _, ⟨_, e⟩ | ⟨_, e⟩⟩ := argH_is ar q
    · exact .inr ⟨_, _, by rw [e]⟩
    · exact .inr ⟨_, _, by rw [e]⟩
theorem argH_ok (ar : ∀ a ∈ A, ArgOb h A a) : HOk P w (argH K h A) h := fun b u q => by
  obtain ⟨_, vs, h1, h2, ⟨e, rfl⟩ | ⟨e, rfl⟩⟩ := argH_is ar q
  · exact ⟨e, by rw [List.length_map]; exact h1, vs, _, vals_toV h2, e⟩
  · exact ⟨e, by rw [List.length_map]; exact h1, vs, vals_toV h2, _, e, rfl, _, rfl⟩
theorem seq_inj {c c' : Value} {vs us : List Value} (e : (some { cls := c, data := .seq vs.toArray } : Option Obj) = some { cls := c', data := .seq us.toArray }) : c = c' ∧ vs = us := by
  have e1 := Option.some.inj e
  have e2 : c = c' := congrArg Obj.cls e1
  have e3 : Data.seq vs.toArray = Data.seq us.toArray := congrArg Obj.data e1
  injection e3 with e4
  refine ⟨e2, ?_⟩
  have e5 := congrArg Array.toList e4
  simpa using e5
/-- a list argument -/
theorem argL (KX : K.In h) (ar : ∀ a ∈ A, ArgOb h A a) {a : Addr} {vs : List Value} (ha : a ∈ A) (e : h.get? a = some { cls := .type "list", data := .seq vs.toArray }) : (∀ u ∈ vs, OkU A u) ∧ SqL K (argH K h A) a (vs.map toV) := by
  obtain ⟨us, h1, h2, h3⟩ := ar a ha
  have hu : us = vs := by
    rcases h3 with q | q
    · rw [e] at q
      exact (seq_inj q).2.symm
    · rw [e] at q
      exact absurd (Value.type.inj (seq_inj q).1) (by decide)
  subst hu
  refine ⟨h2, ?_⟩
  cases hk : K.lookup a with
  | none => exact .inl (.inr ⟨_, by rw [argH_at ha hk e, hoOf_lst]⟩)
  | some o =>
    have e2 := KX a o hk
    rw [e] at e2
    obtain rfl := Option.some.inj e2
    exact .inr ⟨_, us.toArray, _, hk, rfl, rfl, rfl, by rw [List.size_toArray]; exact h1, by simpa using vals_toV h2⟩
theorem argT (KX : K.In h) (ar : ∀ a ∈ A, ArgOb h A a) {a : Addr} {vs : List Value} (ha : a ∈ A) (e : h.get? a = some { cls := .type "tuple", data := .seq vs.toArray }) : (∀ u ∈ vs, OkU A u) ∧ SqT K (argH K h A) a (vs.map toV) := by
  obtain ⟨us, h1, h2, h3⟩ := ar a ha
  have hu : us = vs := by
    rcases h3 with q | q
    · rw [e] at q
      exact absurd (Value.type.inj (seq_inj q).1) (by decide)
    · rw [e] at q
      exact (seq_inj q).2.symm
  subst hu
  refine ⟨h2, ?_⟩
  cases hk : K.lookup a with
  | none => exact .inl (.inr ⟨_, by rw [argH_at ha hk e, hoOf_tup]⟩)
  | some o =>
    have e2 := KX a o hk
    rw [e] at e2
    obtain rfl := Option.some.inj e2
    exact .inr ⟨_, us.toArray, _, hk, rfl, rfl, by rw [List.size_toArray]; exact h1, by simpa using vals_toV h2⟩
mutual
theorem dw_one {Pm : Params} (KX : K.In h) (ar : ∀ a ∈ A, ArgOb h A a) : ∀ (d : WData) (v : Value), Well Pm h v d → plW d = true → OkU A v → Dw K (argH K h A) (toV v) d
  | .none, _, x, _, _ => by
    cases x
    exact .non
  | .bool b, _, x, _, _ => by
    cases x
    exact .bl b
  | .int i, _, x, _, _ => by
    cases x
    exact .int i
  | .str s, _, x, _, _ => by
    cases x
    exact .str s
  | .bytes b, _, x, _, _ => by
    cases x
    have z := Dw.byt (K := K) (H := argH K h A) b.toArray
    exact z
  | .list ds, _, x, p, hu => by
    obtain ⟨a, vs, rfl, ho, hall⟩ := well_list x
    obtain ⟨h2, hs⟩ := argL KX ar hu ho
    exact .lst hs (dw_all KX ar ds _ hall p h2)
  | .tuple ds, _, x, p, hu => by
    obtain ⟨a, vs, rfl, ho, hall⟩ := well_tuple x
    obtain ⟨h2, hs⟩ := argT KX ar hu ho
    exact .tup hs (dw_all KX ar ds _ hall p h2)
  | .float _, _, _, p, _ => Bool.noConfusion (show false = true from p)
  | .dict _, _, _, p, _ => Bool.noConfusion (show false = true from p)
  | .bytearray _, _, _, p, _ => Bool.noConfusion (show false = true from p)
  | .set _, _, _, p, _ => Bool.noConfusion (show false = true from p)
  | .frozenset _, _, _, p, _ => Bool.noConfusion (show false = true from p)
  | .obj _ _, _, _, p, _ => Bool.noConfusion (show false = true from p)
theorem dw_all {Pm : Params} (KX : K.In h) (ar : ∀ a ∈ A, ArgOb h A a) : ∀ (ds : List WData) (vs : List Value), WellAll Pm h vs ds → plWs ds = true → (∀ u ∈ vs, OkU A u) → DwAll K (argH K h A) (vs.map toV) ds
  | [], _, x, _, _ => by
    cases x
    exact .nil
  | d :: ds, _, x, p, hu => by
    obtain ⟨v, vs, rfl, x1, x2⟩ := well_cons x
    have q : plW d = true ∧ plWs ds = true := Bool.and_eq_true_iff.mp p
    exact .cons (dw_one KX ar d v x1 q.1 (hu _ (List.mem_cons_self ..))) (dw_all KX ar ds vs x2 q.2 fun u m => hu u (List.mem_cons_of_mem _ m))
end
end
theorem spec_call {P : Program} {w : World} {K : PySem.W.Frag} {mg mb : Str → Option Value} {CX : CXT} {k : Nat} {fa : Addr} {fd : FuncData} {ps : List Str} {sp : Sp} {s₁ : Shared} {vals : List Value} {ds : List WData} {R : PySem.W.WRecords} {cl : Str → Option Addr} {d0 : WData}
    (KX : K.In s₁.heap) (hns : s₁.heap.Ns mainGlobals mg) (hb : s₁.heap.Ns builtinsNs mb) (hbb : ∀ x : Str, x ≠ "__name__" → mb x = bootBuiltins x) (hlim : s₁.heap.NoLimit) (hg : s₁.gens = #[])
    (hwl : WellAll w.params s₁.heap vals ds) (hpl : plWs ds = true) (hwt : ∀ d ∈ ds, d.weight ≤ 1048576) (hr : Room k callerA)
    (F : ∀ base : Heap, K.In base → base.Ns mainGlobals mg → FnOk P w K mg base CX k fa fd ps sp) (hbind : ∀ (s : Shared) (us : List Value), us.length = ps.length → BindsTo s fd ⟨us, []⟩ (ps.zip us)) (hlen : ds.length = ps.length)
    (hsp : ∀ (H : Hp) (xs : List V), OnlyF H → DwAll K H xs ds → sp xs H (fun v H' => Dw K H' v d0) fun _ _ _ => False)
    (hCX : ∀ H e s', CX [] H s₁ (fun _ _ _ => False) e s' → False) :
    codeAny (model P w) callerA (.call (.ref fa) ⟨vals, []⟩) (fun r s' => ∃ u as, r = .ok (.ret u) ∧ ReadsW R cl s'.heap u d0 as ∧ OldK s₁.heap s'.heap ∧ s'.os = s₁.os ∧ AllBare s'.gens) s₁ := by
  obtain ⟨A, ho, ar⟩ := area_all ds vals hwl hpl hwt
  have hO : OnlyF (argH K s₁.heap A) := argH_only ar
  have hok : HOk P w (argH K s₁.heap A) s₁.heap := argH_ok ar
  have hS := dw_all KX ar ds vals hwl hpl ho
  have hV := vals_toV ho
  have hK : ∀ b u, argH K s₁.heap A b = some u → K.lookup b = none := fun b u q => (argH_is ar q).1
  have noA : ∀ {b : Addr} {o : Obj} {es : Array DictEntry} {ep : Nat}, s₁.heap.get? b = some o → o.data = .dict es ep → argH K s₁.heap A b = none := fun {b o es ep} e d => by
    cases q : argH K s₁.heap A b with
    | none => rfl
    | some u =>
      obtain ⟨_, vs, _, _, ⟨e2, _⟩ | ⟨e2, _⟩⟩ := argH_is ar q
      · rw [e2] at e
        cases e
        have d' : Data.seq vs.toArray _ = Data.dict es ep := d
        cases d'
      · rw [e2] at e
        cases e
        have d' : Data.seq vs.toArray _ = Data.dict es ep := d
        cases d'
  generalize argH K s₁.heap A = H at hO hok hS hK noA
  have base_of : ∀ {b : Addr} {o : Obj}, s₁.heap.get? b = some o → H b = none → (hidT s₁.heap H).get? b = some o := fun e n => hidT_get e n
  have nsK : ∀ {b : Addr} {m : Str → Option Value}, s₁.heap.Ns b m → (hidT s₁.heap H).Ns b m := fun {b m} ⟨o, es, ep, e, d, r⟩ => ⟨o, es, ep, base_of e (noA e d), d, r⟩
  have nK : ∀ b o, K.lookup b = some o → H b = none := fun b o e => by
    cases q : H b with
    | none => rfl
    | some u =>
      rw [hK b u q] at e
      cases e
  have hKb : K.In (hidT s₁.heap H) := fun b o e => base_of (KX b o e) (nK b o e)
  have hM : Mod K mg (hidT s₁.heap H) := ⟨hKb, nsK hns, ⟨mb, nsK hb, hbb⟩, let ⟨mc, h1, h2⟩ := hlim; ⟨mc, nsK h1, h2⟩⟩
  have e0 : Env0 P w K mg (hidT s₁.heap H) callerA [] s₁ H := ⟨rfl, hM, fun b o e => of_hidT e, Nat.le_of_eq (hidT_size _ _), trivial, fun b hb => absurd (show b ∈ ([] : List Addr) from hb) (by simp), hok, .of_eq hg⟩
  have hl : vals.length = ps.length := by rw [wellAll_len hwl]; exact hlen
  refine codeAny_mono ((F _ hKb (nsK hns)).run callerA [] s₁ H ⟨vals, []⟩ vals (vals.map toV) _ _ hr e0 (hbind s₁ vals hl) hV (hsp H _ hO hS)) fun r s' x => ?_
  cases r with
  | error e => exact (hCX H e s' x).elim
  | ok fl =>
    cases fl with
    | next => exact False.elim x
    | brk => exact False.elim x
    | cont => exact False.elim x
    | ret u =>
      obtain ⟨v, H', os, bare, un, hok', r', q⟩ := x
      have kept : ∀ b o, s₁.heap.get? b = some o → s'.heap.get? b = some o := fun b o e => by
        cases q2 : H b with
        | none => exact un.keep b o e q2 (by intro z; exact absurd (show b ∈ ([] : List Addr) from z) (by simp)) (by simp)
        | some u2 =>
          rcases hO b with z | ⟨ob, u3, z⟩
          · rw [q2] at z
            cases z
          · have z2 := un.frzs b ob _ z
            obtain ⟨e1, _⟩ := hok b _ z
            obtain ⟨e2, _⟩ := hok' b _ z2
            rw [e] at e1
            cases e1
            exact e2
      have KX' : K.In s'.heap := fun b o e => kept b o (KX b o e)
      obtain ⟨as, hrd⟩ := Dw.reads (R := R) (cl := cl) hok' KX' d0 v u q r'
      exact ⟨u, as, rfl, hrd, OldK.of_keep kept, os, bare⟩
theorem layable_weight {ds : List WData} (h : WData.layableAll ds = true) : ∀ d ∈ ds, d.weight ≤ 1048576 := fun d hd =>
  (PySem.W.layableW_iff.mp (List.all_eq_true.mp h d hd)).2.2
theorem encAll_len : ∀ (cs : List Codec) (a : Codec.denoteAll cs), (Codec.encAll cs a).length = cs.length
  | [], _ => rfl
  | c :: cs, a => by
    show (Codec.encAll cs a.2).length + 1 = cs.length + 1
    rw [encAll_len cs a.2]
/-- the goal that k_headS leaves (case hc), from the promise of the row's def: whatever the arguments that the codecs let and the row asks for, the def gives what stands for enc (f ..) -/
theorem walk_spec {r : OpenSpec} {k : Nat} {q : Program} {loose : List Str} {XP : (Str → Option Value) → Heap → Prop} {YP : World → Heap → Prop} {d : DefRec} {K : Params → PySem.W.Frag} {CX : World → CXT} {ps : List Str} {sp : World → Sp}
    (hwell : r.wellSaid = true) (hdf : d.params.defaults = []) (hlen : r.args.length = ps.length) (hr : Room k callerA)
    (hY : ∀ (w : World) (h : Heap), YP w h → (K w.params).In h)
    (F : ∀ (w : World) (mg : Str → Option Value) (fa : Addr) (h : Heap), YP w h → (K w.params).In h → h.Ns mainGlobals mg → mg d.name = some (.ref fa) →
      ∃ fd : FuncData, (∀ (s : Shared) (us : List Value), us.length = ps.length → BindsTo s fd ⟨us, []⟩ (ps.zip us)) ∧
        ∀ base : Heap, (K w.params).In base → base.Ns mainGlobals mg → FnOk r.prog w (K w.params) mg base (CX w) k fa fd ps (sp w))
    (hsp : ∀ (w : World) (H : Hp) (xs : List V) (a : Codec.denoteAll r.args), OnlyF H → Codec.withinAll r.args a = true → Codec.app r.args r.asked a = true → DwAll (K w.params) H xs (Codec.encAll r.args a) →
      sp w xs H (fun v H' => Dw (K w.params) H' v (r.ret.enc (Codec.app r.args r.f a))) fun _ _ _ => False)
    (hCX : ∀ (w : World) (H : Hp) (s : Shared) (e : Value) (s' : Shared), CX w [] H s (fun _ _ _ => False) e s' → False) :
    PySem.W.WalkOS q loose XP YP r d [] (fun f vs => PySem.call f vs) := by
  intro w s_0 s₁ mg mb G Y fa o pm cd doc dV kV ho hd hcd hD hmg hg args vals as hpre hlay hrd hwl hlo
  obtain ⟨a, e1, e2⟩ := PySem.W.os_pre_some hpre
  obtain ⟨e3, hwi⟩ := Codec.encAll_of_decAll r.args args a e1
  subst e3
  have KX := hY w _ Y
  obtain ⟨fd, hb, hF⟩ := F w mg fa _ Y KX G.T.g hmg
  refine PySem.W.enter_call (codeAny_mono (spec_call (R := []) (cl := classAt s_0.heap) (d0 := r.ret.enc (Codec.app r.args r.f a)) KX G.T.g G.T.b G.T.builtins G.T.nolimit hg hwl (pl_encAll _ _) (layable_weight hlay) hr hF hb (by rw [encAll_len]; exact hlen)
    (fun H xs hO hS => hsp w H xs a hO hwi e2 hS) fun H e s' => hCX w H s₁ e s') fun r' s' hq => ?_)
  obtain ⟨u, as', rfl, h1, h2, h3, h4⟩ := hq
  exact ⟨.inl ⟨u, _, as', rfl, fun _ => rfl, h1, (OpenSpec.post_iff hwell hwi _ _).mpr rfl, fun z => Bool.noConfusion (show false = true from z)⟩, h2, h3, h4⟩
/-- the same where the promise hangs on the written part alone -/
theorem walk_specK {r : OpenSpec} {k : Nat} {q : Program} {loose : List Str} {XP : (Str → Option Value) → Heap → Prop} {YP : World → Heap → Prop} {d : DefRec} {K : Params → PySem.W.Frag} {CX : CXT} {ps : List Str} {sp : PySem.W.Frag → Sp}
    (hwell : r.wellSaid = true) (hdf : d.params.defaults = []) (hlen : r.args.length = ps.length) (hr : Room k callerA)
    (hY : ∀ (w : World) (h : Heap), YP w h → (K w.params).In h)
    (F : ∀ (w : World) (mg : Str → Option Value) (fa : Addr) (h : Heap), YP w h → (K w.params).In h → h.Ns mainGlobals mg → mg d.name = some (.ref fa) →
      ∃ fd : FuncData, (∀ (s : Shared) (us : List Value), us.length = ps.length → BindsTo s fd ⟨us, []⟩ (ps.zip us)) ∧
        ∀ base : Heap, (K w.params).In base → base.Ns mainGlobals mg → FnOk r.prog w (K w.params) mg base CX k fa fd ps (sp (K w.params)))
    (hsp : ∀ (K : PySem.W.Frag) (H : Hp) (xs : List V) (a : Codec.denoteAll r.args), OnlyF H → Codec.withinAll r.args a = true → Codec.app r.args r.asked a = true → DwAll K H xs (Codec.encAll r.args a) →
      sp K xs H (fun v H' => Dw K H' v (r.ret.enc (Codec.app r.args r.f a))) fun _ _ _ => False)
    (hCX : ∀ (H : Hp) (s : Shared) (e : Value) (s' : Shared), CX [] H s (fun _ _ _ => False) e s' → False) :
    PySem.W.WalkOS q loose XP YP r d [] (fun f vs => PySem.call f vs) :=
  walk_spec (K := K) (CX := fun _ => CX) (sp := fun w => sp (K w.params)) hwell hdf hlen hr hY F (fun w H xs a h1 h2 h3 h4 => hsp (K w.params) H xs a h1 h2 h3 h4) fun _ H s e s' => hCX H s e s'
end L2
end
section
namespace Ct
open Kv349

/-! ### the most at once -/
theorem foldl_max_le : ∀ (l : List Nat) (z k : Nat), l.foldl max z ≤ k ↔ z ≤ k ∧ ∀ x ∈ l, x ≤ k
  | [], z, k => by simp
  | y :: l, z, k => by
    rw [List.foldl_cons, foldl_max_le l (max z y) k]
    constructor
    · rintro ⟨h1, h2⟩
      refine ⟨by omega, fun x hx => ?_⟩
      rcases List.mem_cons.mp hx with rfl | hx
      · omega
      · exact h2 x hx
    · rintro ⟨h1, h2⟩
      have := h2 y List.mem_cons_self
      exact ⟨by omega, fun x hx => h2 x (List.mem_cons_of_mem _ hx)⟩
theorem peak_le {a : Abs} {l : List Nat} {k : Nat} : a.peak l ≤ k ↔ ∀ i ∈ l, a.count l (a.lot i).from_ ≤ k := by
  unfold Abs.peak
  rw [foldl_max_le]
  constructor
  · rintro ⟨_, h⟩ i hi
    exact h _ (List.mem_map.mpr ⟨i, hi, rfl⟩)
  · intro h
    refine ⟨Nat.zero_le _, fun x hx => ?_⟩
    obtain ⟨i, hi, rfl⟩ := List.mem_map.mp hx
    exact h i hi
theorem filter_len_le {α : Type} {p q : α → Bool} : ∀ (l : List α), (∀ x ∈ l, p x = true → q x = true) → (l.filter p).length ≤ (l.filter q).length
  | [], _ => by simp
  | x :: l, h => by
    have ih := filter_len_le (p := p) (q := q) l fun y hy => h y (List.mem_cons_of_mem _ hy)
    have hx := h x List.mem_cons_self
    rw [List.filter_cons, List.filter_cons]
    by_cases hp : p x = true
    · rw [if_pos hp, if_pos (hx hp)]
      simp only [List.length_cons]; omega
    · rw [if_neg hp]
      split
      · simp only [List.length_cons]; omega
      · exact ih
/-- one with the greatest measure among those that keep p -/
theorem greatest {α : Type} {p : α → Bool} (m : α → Nat) : ∀ (l : List α), (∃ x ∈ l, p x = true) → ∃ x ∈ l, p x = true ∧ ∀ y ∈ l, p y = true → m y ≤ m x
  | [], h => by obtain ⟨x, hx, _⟩ := h; cases hx
  | z :: l, h => by
    by_cases hl : ∃ x ∈ l, p x = true
    · obtain ⟨x, hx, px, hm⟩ := greatest m l hl
      by_cases hz : p z = true ∧ m x < m z
      · refine ⟨z, List.mem_cons_self, hz.1, fun y hy py => ?_⟩
        rcases List.mem_cons.mp hy with rfl | hy
        · omega
        · have := hm y hy py; omega
      · refine ⟨x, List.mem_cons_of_mem _ hx, px, fun y hy py => ?_⟩
        rcases List.mem_cons.mp hy with rfl | hy
        · apply Nat.le_of_not_lt; intro q; exact hz ⟨py, q⟩
        · exact hm y hy py
    · obtain ⟨x, hx, px⟩ := h
      rcases List.mem_cons.mp hx with rfl | hx
      · refine ⟨x, List.mem_cons_self, px, fun y hy py => ?_⟩
        rcases List.mem_cons.mp hy with rfl | hy
        · omega
        · exact absurd ⟨y, hy, py⟩ hl
      · exact absurd ⟨x, hx, px⟩ hl
theorem at_iff {x : Lot} {h : Nat} : x.at_ h = true ↔ x.from_ ≤ h ∧ h < x.upto := by
  unfold Lot.at_
  rw [Bool.and_eq_true, decide_eq_true_iff, decide_eq_true_iff]
/-- it's never more than at some hour from which one of them lies -/
theorem count_le_of_peak {a : Abs} {l : List Nat} {k : Nat} (hp : a.peak l ≤ k) (h : Nat) : a.count l h ≤ k := by
  by_cases he : ∃ i ∈ l, (a.lot i).at_ h = true
  · obtain ⟨i, hi, pi, hm⟩ := greatest (p := fun i => (a.lot i).at_ h) (fun i => (a.lot i).from_) l he
    refine Nat.le_trans (filter_len_le l fun j hj pj => ?_) (peak_le.mp hp i hi)
    rw [at_iff] at pi pj ⊢
    have hq := hm j hj (at_iff.mpr pj)
    omega
  · have : a.count l h = 0 := by
      unfold Abs.count
      rw [List.length_eq_zero_iff, List.filter_eq_nil_iff]
      intro i hi q
      exact he ⟨i, hi, q⟩
    omega

/-! ### the state's invariant -/
structure Ok (a : Abs) : Prop where
  peak : a.peak a.ids ≤ a.tanks
  few : a.ids.length ≤ 12
  ever : a.lots.length ≤ 60
  pos : ∀ x ∈ a.lots, x.from_ < x.upto
  tk : 1 ≤ a.tanks ∧ a.tanks ≤ 6
  hr : a.hour ≤ 10000
theorem mem_ids {a : Abs} {i : Nat} : i ∈ a.ids ↔ i < a.lots.length ∧ (a.lot i).there = true := by
  unfold Abs.ids
  rw [List.mem_filter, List.mem_range]
theorem has_iff {a : Abs} {i : Nat} : a.has i = true ↔ i ∈ a.ids := by
  unfold Abs.has
  rw [mem_ids, Bool.and_eq_true, decide_eq_true_iff]
theorem ids_nodup (a : Abs) : a.ids.Nodup := List.nodup_range.sublist List.filter_sublist
theorem ids_sorted (a : Abs) : a.ids.Pairwise (· < ·) := (List.pairwise_lt_range).sublist List.filter_sublist
theorem lot_mem {a : Abs} {i : Nat} (h : i < a.lots.length) : a.lot i ∈ a.lots := by
  unfold Abs.lot
  rw [List.getD_eq_getElem?_getD, List.getElem?_eq_getElem h]
  exact List.getElem_mem h
theorem Ok.lt {a : Abs} (o : Ok a) {i : Nat} (h : i ∈ a.ids) : (a.lot i).from_ < (a.lot i).upto := o.pos _ (lot_mem (mem_ids.mp h).1)
theorem ok_begun {t n : Nat} (h1 : 1 ≤ t) (h2 : t ≤ 6) : Ok (begun t n) := by
  have e : (begun t n).ids = [] := rfl
  refine ⟨?_, ?_, Nat.zero_le _, fun x hx => (by cases hx), ⟨h1, h2⟩, Nat.zero_le _⟩
  · rw [e]; exact Nat.zero_le _
  · rw [e]; exact Nat.zero_le _

/-! ### may -/
def begins (a : Abs) (l : List Nat) (h n : Nat) : List Nat := (l.filter fun i => decide (h < (a.lot i).from_) && decide ((a.lot i).from_ < h + n)).map fun i => (a.lot i).from_
theorem may_iff {a : Abs} {k h n : Nat} : a.may k h n = true ↔ ∀ x ∈ h :: begins a a.ids h n, a.count a.ids x < k := by
  unfold Abs.may begins
  rw [Bool.and_eq_true, decide_eq_true_iff, List.all_eq_true]
  constructor
  · rintro ⟨h1, h2⟩ x hx
    rcases List.mem_cons.mp hx with rfl | hx
    · exact h1
    · obtain ⟨i, hi, rfl⟩ := List.mem_map.mp hx
      obtain ⟨hi, hc⟩ := List.mem_filter.mp hi
      have := h2 i hi
      rw [hc] at this
      simpa using this
  · intro H
    refine ⟨H h List.mem_cons_self, fun i hi => ?_⟩
    by_cases hc : (decide (h < (a.lot i).from_) && decide ((a.lot i).from_ < h + n)) = true
    · have := H (a.lot i).from_ (List.mem_cons_of_mem _ (List.mem_map.mpr ⟨i, List.mem_filter.mpr ⟨hi, hc⟩, rfl⟩))
      rw [hc]
      simpa using this
    · rw [Bool.eq_false_iff.mpr hc]; rfl
theorem may_of {a : Abs} {k h n : Nat} (hm : a.may k h n = true) : a.count a.ids h < k ∧ ∀ i ∈ a.ids, h < (a.lot i).from_ → (a.lot i).from_ < h + n → a.count a.ids (a.lot i).from_ < k := by
  have H := may_iff.mp hm
  refine ⟨H h List.mem_cons_self, fun i hi h1 h2 => ?_⟩
  exact H _ (List.mem_cons_of_mem _ (List.mem_map.mpr ⟨i, List.mem_filter.mpr ⟨hi, by simp [h1, h2]⟩, rfl⟩))
theorem may_to {a : Abs} {k h n : Nat} (h1 : a.count a.ids h < k) (h2 : ∀ i ∈ a.ids, h < (a.lot i).from_ → (a.lot i).from_ < h + n → a.count a.ids (a.lot i).from_ < k) : a.may k h n = true := by
  refine may_iff.mpr fun x hx => ?_
  rcases List.mem_cons.mp hx with rfl | hx
  · exact h1
  · obtain ⟨i, hi, rfl⟩ := List.mem_map.mp hx
    obtain ⟨hi, hc⟩ := List.mem_filter.mp hi
    rw [Bool.and_eq_true, decide_eq_true_iff, decide_eq_true_iff] at hc
    exact h2 i hi hc.1 hc.2

/-! ### one more lot -/
def withLot (a : Abs) (x : Lot) : Abs := { a with lots := a.lots ++ [x] }
theorem withLot_old {a : Abs} {x : Lot} {i : Nat} (h : i < a.lots.length) : (withLot a x).lot i = a.lot i := by
  show (a.lots ++ [x]).getD i _ = a.lots.getD i _
  rw [List.getD_eq_getElem?_getD, List.getD_eq_getElem?_getD, List.getElem?_append_left h]
theorem withLot_new {a : Abs} {x : Lot} : (withLot a x).lot a.lots.length = x := by
  show (a.lots ++ [x]).getD a.lots.length _ = x
  rw [List.getD_eq_getElem?_getD, List.getElem?_append_right (Nat.le_refl _), Nat.sub_self]
  rfl
theorem withLot_ids {a : Abs} {x : Lot} (hx : x.there = true) : (withLot a x).ids = a.ids ++ [a.lots.length] := by
  unfold Abs.ids
  have e : (withLot a x).lots.length = a.lots.length + 1 := by
    show (a.lots ++ [x]).length = _
    rw [List.length_append]; rfl
  rw [e, List.range_succ, List.filter_append, List.filter_cons, withLot_new, if_pos hx, List.filter_nil]
  congr 1
  refine List.filter_congr fun i hi => ?_
  rw [withLot_old (List.mem_range.mp hi)]
theorem count_withLot {a : Abs} {x : Lot} (hx : x.there = true) (h : Nat) : (withLot a x).count (withLot a x).ids h = a.count a.ids h + (if x.at_ h = true then 1 else 0) := by
  rw [withLot_ids hx]
  unfold Abs.count
  rw [List.filter_append, List.length_append]
  have e1 : (a.ids.filter fun i => ((withLot a x).lot i).at_ h) = a.ids.filter fun i => (a.lot i).at_ h :=
    List.filter_congr fun i hi => by rw [withLot_old (mem_ids.mp hi).1]
  rw [e1, List.filter_cons, withLot_new, List.filter_nil]
  split <;> rfl
theorem ok_lot {a : Abs} {h n c : Nat} (o : Ok a) (hf : a.ids.length < 12) (hl : a.lots.length < 60) (hn : 1 ≤ n) (hm : a.may a.tanks h n = true) : Ok (withLot a ⟨h, h + n, c, true⟩) := by
  obtain ⟨m1, m2⟩ := may_of hm
  have ei := withLot_ids (a := a) (x := ⟨h, h + n, c, true⟩) rfl
  refine ⟨?_, ?_, ?_, ?_, o.tk, o.hr⟩
  · refine peak_le.mpr fun i hi => ?_
    rw [count_withLot rfl]
    show _ ≤ a.tanks
    rw [ei] at hi
    rcases List.mem_append.mp hi with hi | hi
    · rw [withLot_old (mem_ids.mp hi).1]
      have hc := count_le_of_peak o.peak (a.lot i).from_
      split
      · rename_i hq
        rw [at_iff] at hq
        have hq1 : h ≤ (a.lot i).from_ := hq.1
        have hq2 : (a.lot i).from_ < h + n := hq.2
        by_cases he : (a.lot i).from_ = h
        · rw [he]; omega
        · have := m2 i hi (by omega) hq2; omega
      · omega
    · rw [List.mem_singleton.mp hi, withLot_new]
      show a.count a.ids h + _ ≤ _
      split <;> omega
  · rw [ei, List.length_append]; show a.ids.length + 1 ≤ 12; omega
  · show (a.lots ++ [_]).length ≤ 60
    rw [List.length_append]; show a.lots.length + 1 ≤ 60; omega
  · intro x hx
    rcases List.mem_append.mp hx with hx | hx
    · exact o.pos x hx
    · rw [List.mem_singleton.mp hx]; show h < h + n; omega

/-! ### a lot changed at its place -/
def withAt (a : Abs) (l : Nat) (f : Lot → Lot) : Abs := { a with lots := a.lots.modify l f }
theorem withAt_len {a : Abs} {l : Nat} {f : Lot → Lot} : (withAt a l f).lots.length = a.lots.length := by
  show (a.lots.modify l f).length = _
  rw [List.length_modify]
theorem withAt_same {a : Abs} {l : Nat} {f : Lot → Lot} (h : l < a.lots.length) : (withAt a l f).lot l = f (a.lot l) := by
  show (a.lots.modify l f).getD l _ = f (a.lots.getD l _)
  rw [List.getD_eq_getElem?_getD, List.getD_eq_getElem?_getD, List.getElem?_modify_eq, List.getElem?_eq_getElem h]
  rfl
theorem withAt_ne {a : Abs} {l i : Nat} {f : Lot → Lot} (h : i ≠ l) : (withAt a l f).lot i = a.lot i := by
  show (a.lots.modify l f).getD i _ = a.lots.getD i _
  rw [List.getD_eq_getElem?_getD, List.getD_eq_getElem?_getD, List.getElem?_modify]
  cases a.lots[i]? with
  | none => rfl
  | some x =>
    show (some (if l = i then f x else x)).getD _ = _
    rw [if_neg (fun z => h z.symm)]
theorem mem_modify {l : Nat} {f : Lot → Lot} : ∀ {xs : List Lot} {x : Lot}, x ∈ xs.modify l f → x ∈ xs ∨ ∃ y ∈ xs, x = f y := by
  intro xs x hx
  obtain ⟨i, hi, rfl⟩ := List.getElem_of_mem hx
  have hi' : i < xs.length := by rw [List.length_modify] at hi; exact hi
  by_cases e : i = l
  · subst e
    exact .inr ⟨xs[i], List.getElem_mem hi', by rw [List.getElem_modify]; simp⟩
  · refine .inl ?_
    rw [List.getElem_modify, if_neg (by omega)]
    exact List.getElem_mem hi'
/-- longer -/
def withMore (a : Abs) (l n : Nat) : Abs := withAt a l fun x => { x with upto := x.upto + n }
theorem withMore_ids {a : Abs} {l n : Nat} : (withMore a l n).ids = a.ids := by
  unfold Abs.ids
  rw [show (withMore a l n).lots.length = a.lots.length from withAt_len]
  refine List.filter_congr fun i hi => ?_
  by_cases e : i = l
  · subst e
    rw [show (withMore a i n).lot i = _ from withAt_same (List.mem_range.mp hi)]
  · rw [show (withMore a l n).lot i = _ from withAt_ne e]
theorem withMore_from {a : Abs} {l n i : Nat} (hi : i < a.lots.length) : ((withMore a l n).lot i).from_ = (a.lot i).from_ := by
  by_cases e : i = l
  · subst e
    rw [show (withMore a i n).lot i = _ from withAt_same hi]
  · rw [show (withMore a l n).lot i = _ from withAt_ne e]
theorem count_one {p q : Nat → Bool} {l : Nat} : ∀ {xs : List Nat}, xs.Nodup → l ∈ xs → (∀ i ∈ xs, i ≠ l → p i = q i) → q l = false → p l = true → (xs.filter p).length = (xs.filter q).length + 1
  | [], _, h, _, _, _ => by cases h
  | y :: xs, nd, h, he, hq, hp => by
    obtain ⟨n1, n2⟩ := List.nodup_cons.mp nd
    by_cases e : y = l
    · subst e
      rw [List.filter_cons, if_pos hp, List.filter_cons, if_neg (by rw [hq]; decide), List.length_cons]
      rw [List.filter_congr fun i hi => he i (List.mem_cons_of_mem _ hi) fun z => n1 (z ▸ hi)]
    · have hl : l ∈ xs := by
        rcases List.mem_cons.mp h with z | z
        · exact absurd z.symm e
        · exact z
      have ih := count_one n2 hl (fun i hi => he i (List.mem_cons_of_mem _ hi)) hq hp
      rw [List.filter_cons, List.filter_cons, he y List.mem_cons_self e]
      split
      · rw [List.length_cons, List.length_cons, ih]
      · exact ih
theorem count_withMore {a : Abs} {l n : Nat} (o : Ok a) (hl : l ∈ a.ids) (h : Nat) :
    (withMore a l n).count (withMore a l n).ids h = a.count a.ids h + (if (a.lot l).upto ≤ h ∧ h < (a.lot l).upto + n then 1 else 0) := by
  rw [withMore_ids]
  have hlt := (mem_ids.mp hl).1
  have es : (withMore a l n).lot l = { a.lot l with upto := (a.lot l).upto + n } := withAt_same hlt
  have hpos := o.lt hl
  by_cases hc : (a.lot l).upto ≤ h ∧ h < (a.lot l).upto + n
  · rw [if_pos hc]
    refine count_one (ids_nodup a) hl (fun i _ hi => ?_) ?_ ?_
    · show ((withMore a l n).lot i).at_ h = (a.lot i).at_ h
      rw [show (withMore a l n).lot i = _ from withAt_ne hi]
    · refine Bool.eq_false_iff.mpr fun z => ?_
      have := at_iff.mp z; omega
    · show ((withMore a l n).lot l).at_ h = true
      rw [es, at_iff]
      exact ⟨show (a.lot l).from_ ≤ h by omega, hc.2⟩
  · rw [if_neg hc, Nat.add_zero]
    unfold Abs.count
    refine congrArg List.length (List.filter_congr fun i _ => ?_)
    by_cases e : i = l
    · subst e
      rw [es]
      rw [Bool.eq_iff_iff, at_iff, at_iff]
      show (a.lot i).from_ ≤ h ∧ h < (a.lot i).upto + n ↔ _
      omega
    · rw [show (withMore a l n).lot i = _ from withAt_ne e]
theorem longer_iff {a : Abs} {l n : Nat} (o : Ok a) (hl : l ∈ a.ids) (hn : 1 ≤ n) : (withMore a l n).peak (withMore a l n).ids ≤ a.tanks ↔ a.may a.tanks (a.lot l).upto n = true := by
  constructor
  · intro hp
    have hc := fun h => count_le_of_peak hp h
    refine may_to ?_ fun i hi h1 h2 => ?_
    · have := hc (a.lot l).upto
      rw [count_withMore o hl, if_pos ⟨Nat.le_refl _, by omega⟩] at this
      omega
    · have := hc (a.lot i).from_
      rw [count_withMore o hl, if_pos ⟨by omega, h2⟩] at this
      omega
  · intro hm
    obtain ⟨m1, m2⟩ := may_of hm
    refine peak_le.mpr fun i hi => ?_
    rw [count_withMore o hl]
    rw [withMore_ids] at hi
    rw [withMore_from (mem_ids.mp hi).1]
    have hc := count_le_of_peak o.peak (a.lot i).from_
    split
    · rename_i hq
      by_cases he : (a.lot i).from_ = (a.lot l).upto
      · rw [he]; omega
      · have := m2 i hi (by omega) hq.2; omega
    · omega
theorem ok_longer {a : Abs} {l n : Nat} (o : Ok a) (hp : (withMore a l n).peak (withMore a l n).ids ≤ a.tanks) : Ok (withMore a l n) := by
  refine ⟨hp, by rw [withMore_ids]; exact o.few, by rw [show (withMore a l n).lots.length = a.lots.length from withAt_len]; exact o.ever, fun x hx => ?_, o.tk, o.hr⟩
  rcases mem_modify hx with hx | ⟨y, hy, rfl⟩
  · exact o.pos x hx
  · have := o.pos y hy
    show y.from_ < y.upto + n
    omega

/-! ### drop -/
def without (a : Abs) (l : Nat) : Abs := withAt a l fun x => { x with there := false }
theorem without_ids {a : Abs} {l : Nat} : (without a l).ids = a.ids.filter fun i => i != l := by
  unfold Abs.ids
  rw [show (without a l).lots.length = a.lots.length from withAt_len, List.filter_filter]
  refine List.filter_congr fun i hi => ?_
  by_cases e : i = l
  · subst e
    rw [show (without a i).lot i = _ from withAt_same (List.mem_range.mp hi)]
    simp
  · rw [show (without a l).lot i = _ from withAt_ne e]
    simp [e]
theorem without_lot {a : Abs} {l i : Nat} (h : i ≠ l) : (without a l).lot i = a.lot i := withAt_ne h
theorem ok_drop {a : Abs} {l : Nat} (o : Ok a) : Ok (without a l) := by
  have hsub : (without a l).ids.Sublist a.ids := by rw [without_ids]; exact List.filter_sublist
  have hne : ∀ i ∈ (without a l).ids, i ≠ l := fun i hi => by
    rw [without_ids] at hi
    simpa using (List.mem_filter.mp hi).2
  refine ⟨peak_le.mpr fun i hi => ?_, ?_, by rw [show (without a l).lots.length = a.lots.length from withAt_len]; exact o.ever, fun x hx => ?_, o.tk, o.hr⟩
  · rw [without_lot (hne i hi)]
    have hc := count_le_of_peak o.peak (a.lot i).from_
    refine Nat.le_trans ?_ hc
    unfold Abs.count
    have e : ((without a l).ids.filter fun j => ((without a l).lot j).at_ (a.lot i).from_) = (without a l).ids.filter fun j => (a.lot j).at_ (a.lot i).from_ :=
      List.filter_congr fun j hj => by rw [without_lot (hne j hj)]
    rw [e]
    exact (hsub.filter _).length_le
  · exact Nat.le_trans hsub.length_le o.few
  · rcases mem_modify hx with hx | ⟨y, hy, rfl⟩
    · exact o.pos x hx
    · exact o.pos y hy
theorem ok_tank_ {a : Abs} (o : Ok a) (h : a.tanks < 6) : Ok { a with tanks := a.tanks + 1 } :=
  ⟨Nat.le_succ_of_le o.peak, o.few, o.ever, o.pos, ⟨Nat.le_add_left _ _, h⟩, o.hr⟩
theorem ok_hours {a : Abs} {n : Nat} (o : Ok a) (h : a.hour + n ≤ 10000) : Ok { a with hour := a.hour + n } :=
  ⟨o.peak, o.few, o.ever, o.pos, o.tk, h⟩

/-! ### orders: sorted by a key of two numbers -/
theorem sooner_iff {a : Abs} {i j : Nat} : a.sooner i j = true ↔ (a.lot i).from_ < (a.lot j).from_ ∨ (a.lot i).from_ = (a.lot j).from_ ∧ i ≤ j := by
  unfold Abs.sooner
  rw [Bool.or_eq_true, Bool.and_eq_true, decide_eq_true_iff, decide_eq_true_iff, beq_iff_eq]
theorem ends_iff {a : Abs} {i j : Nat} : a.ends i j = true ↔ (a.lot i).upto < (a.lot j).upto ∨ (a.lot i).upto = (a.lot j).upto ∧ i ≤ j := by
  unfold Abs.ends
  rw [Bool.or_eq_true, Bool.and_eq_true, decide_eq_true_iff, decide_eq_true_iff, beq_iff_eq]
theorem sorted_sooner {a : Abs} {l m : List Nat} (p : m.Perm l) (s : m.Pairwise fun i j => a.sooner i j = true) : m = l.mergeSort a.sooner := by
  refine List.Perm.eq_of_pairwise (le := fun i j => a.sooner i j = true) (fun i j _ _ h1 h2 => ?_) s (List.pairwise_mergeSort (fun i j k h1 h2 => ?_) (fun i j => ?_) l) (p.trans (List.mergeSort_perm l _).symm)
  · rw [sooner_iff] at h1 h2; omega
  · rw [sooner_iff] at h1 h2 ⊢; omega
  · rw [Bool.or_eq_true, sooner_iff, sooner_iff]; omega
theorem sorted_ends {a : Abs} {l m : List Nat} (p : m.Perm l) (s : m.Pairwise fun i j => a.ends i j = true) : m = l.mergeSort a.ends := by
  refine List.Perm.eq_of_pairwise (le := fun i j => a.ends i j = true) (fun i j _ _ h1 h2 => ?_) s (List.pairwise_mergeSort (fun i j k h1 h2 => ?_) (fun i j => ?_) l) (p.trans (List.mergeSort_perm l _).symm)
  · rw [ends_iff] at h1 h2; omega
  · rw [ends_iff] at h1 h2 ⊢; omega
  · rw [Bool.or_eq_true, ends_iff, ends_iff]; omega
theorem sorted_rise {l m : List Nat} (p : m.Perm l) (s : m.Pairwise (· ≤ ·)) : m = rise l := by
  refine List.Perm.eq_of_pairwise (le := fun i j => decide (i ≤ j) = true) (fun i j _ _ h1 h2 => ?_) (s.imp fun h => decide_eq_true h) (List.pairwise_mergeSort (fun i j k h1 h2 => ?_) (fun i j => ?_) l) (p.trans (List.mergeSort_perm l _).symm)
  · have h1 := of_decide_eq_true h1; have h2 := of_decide_eq_true h2; omega
  · have h1 := of_decide_eq_true h1; have h2 := of_decide_eq_true h2; exact decide_eq_true (by omega)
  · rw [Bool.or_eq_true, decide_eq_true_iff, decide_eq_true_iff]; omega

/-! ### the least free tank -/
def taken (a : Abs) (p : List (Nat × Nat)) (i : Nat) : List Nat := (p.filter fun x => (a.lot x.1).meets (a.lot i)).map (·.2)
def leastOf (a : Abs) (p : List (Nat × Nat)) (i : Nat) : Nat := ((List.range (p.length + 1)).find? fun t => p.all fun x => !(x.2 == t && (a.lot x.1).meets (a.lot i))).getD 0
theorem free_iff {a : Abs} {p : List (Nat × Nat)} {i t : Nat} : (p.all fun x => !(x.2 == t && (a.lot x.1).meets (a.lot i))) = true ↔ t ∉ taken a p i := by
  unfold taken
  rw [List.all_eq_true]
  constructor
  · intro h hm
    obtain ⟨x, hx, rfl⟩ := List.mem_map.mp hm
    obtain ⟨hx, hq⟩ := List.mem_filter.mp hx
    have := h x hx
    simp [hq] at this
  · intro h x hx
    rw [Bool.not_eq_true', Bool.and_eq_false_iff]
    by_cases hq : (a.lot x.1).meets (a.lot i) = true
    · refine .inl ?_
      rw [beq_eq_false_iff_ne]
      intro e
      exact h (List.mem_map.mpr ⟨x, List.mem_filter.mpr ⟨hx, hq⟩, e⟩)
    · exact .inr (Bool.eq_false_iff.mpr hq)
theorem taken_len {a : Abs} {p : List (Nat × Nat)} {i : Nat} : (taken a p i).length ≤ p.length := by
  unfold taken
  rw [List.length_map]
  exact List.filter_sublist.length_le
theorem exists_free {a : Abs} {p : List (Nat × Nat)} {i : Nat} : ∃ t, t ≤ p.length ∧ t ∉ taken a p i := by
  apply Classical.byContradiction
  intro h
  have hs : List.range (p.length + 1) ⊆ taken a p i := fun t ht => by
    apply Classical.byContradiction
    intro hn
    exact h ⟨t, by have := List.mem_range.mp ht; omega, hn⟩
  have := (List.nodup_range (n := p.length + 1)).length_le_of_subset hs
  rw [List.length_range] at this
  have := taken_len (a := a) (p := p) (i := i)
  omega
/-- the least number that is not taken -/
theorem leastOf_eq {a : Abs} {p : List (Nat × Nat)} {i t : Nat} (h1 : t ∉ taken a p i) (h2 : ∀ s, s < t → s ∈ taken a p i) : leastOf a p i = t := by
  have ht : t ≤ p.length := by
    obtain ⟨u, hu, hn⟩ := exists_free (a := a) (p := p) (i := i)
    apply Nat.le_of_not_lt
    intro q
    exact hn (h2 u (by omega))
  unfold leastOf
  have e : (List.range (p.length + 1)).find? (fun t => p.all fun x => !(x.2 == t && (a.lot x.1).meets (a.lot i))) = some t := by
    rw [List.find?_range_eq_some]
    refine ⟨free_iff.mpr h1, List.mem_range.mpr (by omega), fun j hj => ?_⟩
    rw [Bool.not_eq_true', Bool.eq_false_iff]
    intro q
    exact free_iff.mp q (h2 j hj)
  rw [e]; rfl
theorem put_cons (a : Abs) (i : Nat) (l : List Nat) (p : List (Nat × Nat)) : a.put (i :: l) p = a.put l (p ++ [(i, leastOf a p i)]) := rfl
/-- what put does, from the left -/
theorem put_append (a : Abs) : ∀ (l m : List Nat) (p : List (Nat × Nat)), a.put (l ++ m) p = a.put m (a.put l p)
  | [], m, p => rfl
  | i :: l, m, p => by
    show a.put (i :: (l ++ m)) p = a.put m (a.put (i :: l) p)
    rw [put_cons, put_cons, put_append a l m]
theorem put_snoc (a : Abs) (l : List Nat) (i : Nat) : a.put (l ++ [i]) [] = a.put l [] ++ [(i, leastOf a (a.put l []) i)] := by
  rw [put_append, put_cons]; rfl
theorem put_fst (a : Abs) : ∀ (l : List Nat) (p : List (Nat × Nat)), (a.put l p).map (·.1) = p.map (·.1) ++ l
  | [], p => by simp [Abs.put]
  | i :: l, p => by rw [put_cons, put_fst a l, List.map_append]; simp
theorem take_append (a : Abs) (k : Nat) : ∀ (l m p : List Nat), a.take k (l ++ m) p = a.take k m (a.take k l p)
  | [], m, p => rfl
  | i :: l, m, p => by
    show (if a.peak (p ++ [i]) ≤ k then a.take k (l ++ m) (p ++ [i]) else a.take k (l ++ m) p) = a.take k m (if a.peak (p ++ [i]) ≤ k then a.take k l (p ++ [i]) else a.take k l p)
    split
    · exact take_append a k l m _
    · exact take_append a k l m _
theorem take_snoc1 (a : Abs) (k : Nat) (l : List Nat) (i : Nat) : a.take k (l ++ [i]) [] = if a.peak (a.take k l [] ++ [i]) ≤ k then a.take k l [] ++ [i] else a.take k l [] := by
  rw [take_append]
  show (if a.peak (a.take k l [] ++ [i]) ≤ k then _ else _) = _
  rfl
theorem take_sub (a : Abs) (k : Nat) : ∀ (l p : List Nat), (a.take k l p).Sublist (p ++ l)
  | [], p => by rw [List.append_nil]; exact List.Sublist.refl _
  | i :: l, p => by
    show (if a.peak (p ++ [i]) ≤ k then a.take k l (p ++ [i]) else a.take k l p).Sublist _
    split
    · have := take_sub a k l (p ++ [i])
      rw [List.append_assoc] at this
      exact this
    · refine (take_sub a k l p).trans ?_
      exact List.Sublist.append_left (List.sublist_cons_self i l) p
end Ct
end
section
set_option linter.all false
namespace Ct
open Kv349
/-! ### may, hour by hour -/
theorem count_at_begin {a : Abs} {l : List Nat} {h x k : Nat} (hx : h ≤ x) (hc : ¬ a.count l x < k) (h0 : a.count l h < k) : ∃ i ∈ l, h < (a.lot i).from_ ∧ (a.lot i).from_ ≤ x ∧ ¬ a.count l (a.lot i).from_ < k := by
  have hk : 0 < k := by omega
  have he : ∃ i ∈ l, (a.lot i).at_ x = true := by
    apply Classical.byContradiction
    intro hn
    have : a.count l x = 0 := by
      unfold Abs.count
      rw [List.length_eq_zero_iff, List.filter_eq_nil_iff]
      intro i hi q
      exact hn ⟨i, hi, q⟩
    omega
  obtain ⟨i, hi, pi, hm⟩ := greatest (p := fun i => (a.lot i).at_ x) (fun i => (a.lot i).from_) l he
  have pi' := at_iff.mp pi
  have hle : a.count l x ≤ a.count l (a.lot i).from_ := filter_len_le l fun j hj pj => by
    have hq := hm j hj pj
    have pj' := at_iff.mp pj
    exact at_iff.mpr ⟨by omega, by omega⟩
  by_cases hlt : h < (a.lot i).from_
  · exact ⟨i, hi, hlt, pi'.1, by omega⟩
  · exfalso
    have hle2 : a.count l x ≤ a.count l h := filter_len_le l fun j hj pj => by
      have hq := hm j hj pj
      have pj' := at_iff.mp pj
      exact at_iff.mpr ⟨by omega, by omega⟩
    omega
theorem may_hours {a : Abs} {k h n : Nat} (hn : 1 ≤ n) : a.may k h n = true ↔ ∀ x, h ≤ x → x < h + n → a.count a.ids x < k := by
  constructor
  · intro hm x h1 h2
    obtain ⟨m1, m2⟩ := may_of hm
    apply Classical.byContradiction
    intro hc
    obtain ⟨i, hi, g1, g2, g3⟩ := count_at_begin h1 hc m1
    exact g3 (m2 i hi g1 (by omega))
  · intro H
    exact may_to (H h (Nat.le_refl _) (by omega)) fun i _ h1 h2 => H _ (by omega) h2
/-- where it begins to be free, a lot ends -/
theorem may_turn {a : Abs} {k t n : Nat} (hn : 1 ≤ n) (h0 : a.may k t n = false) (h1 : a.may k (t + 1) n = true) : ∃ i ∈ a.ids, (a.lot i).upto = t + 1 := by
  have H := (may_hours hn).mp h1
  have hc : ¬ a.count a.ids t < k := fun z => by
    have : a.may k t n = true := (may_hours hn).mpr fun x g1 g2 => by
      by_cases e : x = t
      · rw [e]; exact z
      · exact H x (by omega) (by omega)
    rw [this] at h0; cases h0
  apply Classical.byContradiction
  intro hno
  have hle : a.count a.ids t ≤ a.count a.ids (t + 1) := filter_len_le a.ids fun j hj pj => by
    have pj' := at_iff.mp pj
    refine at_iff.mpr ⟨by omega, ?_⟩
    apply Nat.lt_of_le_of_ne pj'.2
    intro e
    exact hno ⟨j, hj, e.symm⟩
  have := H (t + 1) (Nat.le_refl _) (by omega)
  omega
/-- in the end all is free -/
theorem may_late {a : Abs} {k n : Nat} (hk : 1 ≤ k) {h : Nat} (hh : ∀ i ∈ a.ids, (a.lot i).upto ≤ h) : a.may k h n = true := by
  have h0 : ∀ x, h ≤ x → a.count a.ids x = 0 := fun x hx => by
    unfold Abs.count
    rw [List.length_eq_zero_iff, List.filter_eq_nil_iff]
    intro i hi q
    have := hh i hi
    have q' := at_iff.mp q
    omega
  refine may_to (by rw [h0 h (Nat.le_refl _)]; omega) fun i _ h1 _ => by rw [h0 _ (by omega)]; omega
theorem bound_of (l : List Nat) (f : Nat → Nat) : ∃ m, ∀ i ∈ l, f i ≤ m := by
  induction l with
  | nil => exact ⟨0, fun i hi => by cases hi⟩
  | cons x l ih =>
    obtain ⟨m, hm⟩ := ih
    exact ⟨max m (f x), fun i hi => by
      rcases List.mem_cons.mp hi with rfl | hi
      · omega
      · have := hm i hi; omega⟩
theorem least_of {p : Nat → Bool} {h m : Nat} (hm : h ≤ m) (hp : p m = true) : ∃ s, h ≤ s ∧ s ≤ m ∧ p s = true ∧ ∀ t, h ≤ t → t < s → p t = false := by
  induction m using Nat.strongRecOn with
  | _ m ih =>
    by_cases he : ∃ t, h ≤ t ∧ t < m ∧ p t = true
    · obtain ⟨t, h1, h2, h3⟩ := he
      obtain ⟨s, g1, g2, g3, g4⟩ := ih t h2 h1 h3
      exact ⟨s, g1, by omega, g3, g4⟩
    · refine ⟨m, hm, Nat.le_refl _, hp, fun t h1 h2 => ?_⟩
      cases e : p t with
      | false => rfl
      | true => exact absurd ⟨t, h1, h2, e⟩ he
theorem first_exists {a : Abs} {k h n : Nat} (hk : 1 ≤ k) : ∃ s, h ≤ s ∧ a.may k s n = true ∧ ∀ t, h ≤ t → t < s → a.may k t n = false := by
  obtain ⟨m, hm⟩ := bound_of a.ids fun i => (a.lot i).upto
  obtain ⟨s, g1, _, g3, g4⟩ := least_of (p := fun s => a.may k s n) (h := h) (m := max h m) (by omega) (may_late hk fun i hi => by have := hm i hi; omega)
  exact ⟨s, g1, g3, g4⟩
def cands (a : Abs) (h : Nat) : List Nat := h :: (a.ids.map fun i => (a.lot i).upto).filter fun u => decide (h < u)
theorem first_cand {a : Abs} {k h n s : Nat} (hn : 1 ≤ n) (hs : h ≤ s) (hm : a.may k s n = true) (hl : ∀ t, h ≤ t → t < s → a.may k t n = false) : s ∈ cands a h := by
  by_cases e : s = h
  · rw [e]; exact List.mem_cons_self
  · obtain ⟨t, rfl⟩ : ∃ t, s = t + 1 := ⟨s - 1, by omega⟩
    obtain ⟨i, hi, eu⟩ := may_turn hn (hl t (by omega) (by omega)) hm
    refine List.mem_cons_of_mem _ (List.mem_filter.mpr ⟨List.mem_map.mpr ⟨i, hi, eu⟩, ?_⟩)
    exact decide_eq_true (by omega)
theorem cand_ge {a : Abs} {h x : Nat} (hx : x ∈ cands a h) : h ≤ x := by
  rcases List.mem_cons.mp hx with rfl | hx
  · exact Nat.le_refl _
  · have := of_decide_eq_true (List.mem_filter.mp hx).2
    omega
/-- the first hour from which it may lie -/
theorem first_eq {a : Abs} {k h n s : Nat} (hn : 1 ≤ n) (hs : h ≤ s) (hm : a.may k s n = true) (hl : ∀ t, h ≤ t → t < s → a.may k t n = false) : a.first k h n = some s := by
  show ((cands a h).mergeSort fun x y => decide (x ≤ y)).find? (fun s => a.may k s n) = some s
  have hsort : ((cands a h).mergeSort fun x y => decide (x ≤ y)).Pairwise fun x y => decide (x ≤ y) = true :=
    List.pairwise_mergeSort (fun i j k h1 h2 => decide_eq_true (by have := of_decide_eq_true h1; have := of_decide_eq_true h2; omega)) (fun i j => by rw [Bool.or_eq_true, decide_eq_true_iff, decide_eq_true_iff]; omega) _
  have hmem : s ∈ (cands a h).mergeSort fun x y => decide (x ≤ y) := (List.mergeSort_perm _ _).mem_iff.mpr (first_cand hn hs hm hl)
  have hge : ∀ x ∈ (cands a h).mergeSort fun x y => decide (x ≤ y), h ≤ x := fun x hx => cand_ge ((List.mergeSort_perm _ _).mem_iff.mp hx)
  generalize (cands a h).mergeSort (fun x y => decide (x ≤ y)) = l at hsort hmem hge
  induction l with
  | nil => cases hmem
  | cons y l ih =>
    obtain ⟨p1, p2⟩ := List.pairwise_cons.mp hsort
    by_cases e : y = s
    · rw [e]
      exact List.find?_cons_of_pos (p := fun s => a.may k s n) hm
    · have hsl : s ∈ l := by
        rcases List.mem_cons.mp hmem with z | z
        · exact absurd z.symm e
        · exact z
      have hys := of_decide_eq_true (p1 s hsl)
      have hy : a.may k y n = false := hl y (hge y List.mem_cons_self) (by omega)
      rw [List.find?_cons_of_neg (by rw [hy]; decide)]
      exact ih p2 hsl fun x hx => hge x (List.mem_cons_of_mem _ hx)
theorem first_get {a : Abs} {k h n s : Nat} (hn : 1 ≤ n) (hs : h ≤ s) (hm : a.may k s n = true) (hl : ∀ t, h ≤ t → t < s → a.may k t n = false) : (a.first k h n).getD 0 = s := by
  rw [first_eq hn hs hm hl]; rfl
/-! ### no two of them meet -/
theorem meets_iff {x y : Lot} : x.meets y = true ↔ x.from_ < y.upto ∧ y.from_ < x.upto := by
  unfold Lot.meets
  rw [Bool.and_eq_true, decide_eq_true_iff, decide_eq_true_iff]
theorem meets_comm (x y : Lot) : x.meets y = y.meets x := by
  unfold Lot.meets
  rw [Bool.and_comm]
theorem two_in {p : Nat → Bool} : ∀ {l : List Nat}, l.Nodup → (2 ≤ (l.filter p).length ↔ ∃ i ∈ l, ∃ j ∈ l, i ≠ j ∧ p i = true ∧ p j = true) := by
  intro l nd
  constructor
  · intro h
    match e : l.filter p, h with
    | x :: y :: r, _ =>
      have hx : x ∈ l.filter p := by rw [e]; exact List.mem_cons_self
      have hy : y ∈ l.filter p := by rw [e]; exact List.mem_cons_of_mem _ List.mem_cons_self
      have nd2 : (l.filter p).Nodup := nd.sublist List.filter_sublist
      rw [e] at nd2
      have hne : x ≠ y := fun z => (List.nodup_cons.mp nd2).1 (by rw [z]; exact List.mem_cons_self)
      obtain ⟨x1, x2⟩ := List.mem_filter.mp hx
      obtain ⟨y1, y2⟩ := List.mem_filter.mp hy
      exact ⟨x, x1, y, y1, hne, x2, y2⟩
  · rintro ⟨i, hi, j, hj, hne, pi, pj⟩
    have hs : [i, j] ⊆ l.filter p := fun z hz => by
      rcases List.mem_cons.mp hz with rfl | hz
      · exact List.mem_filter.mpr ⟨hi, pi⟩
      · rw [List.mem_singleton.mp hz]; exact List.mem_filter.mpr ⟨hj, pj⟩
    have hnd : [i, j].Nodup := List.nodup_cons.mpr ⟨by simpa using hne, by simp⟩
    exact hnd.length_le_of_subset hs
theorem together_iff {a : Abs} {l : List Nat} (nd : l.Nodup) (hp : ∀ i ∈ l, (a.lot i).from_ < (a.lot i).upto) : a.peak l ≤ 1 ↔ ∀ i ∈ l, ∀ j ∈ l, i ≠ j → (a.lot i).meets (a.lot j) = false := by
  constructor
  · intro h i hi j hj hne
    cases e : (a.lot i).meets (a.lot j) with
    | false => rfl
    | true =>
      exfalso
      have e' := meets_iff.mp e
      have hpi := hp i hi
      have hpj := hp j hj
      have hc := count_le_of_peak h (max (a.lot i).from_ (a.lot j).from_)
      have h2 : 2 ≤ a.count l (max (a.lot i).from_ (a.lot j).from_) := (two_in nd).mpr ⟨i, hi, j, hj, hne, at_iff.mpr ⟨by omega, by omega⟩, at_iff.mpr ⟨by omega, by omega⟩⟩
      omega
  · intro H
    refine peak_le.mpr fun i hi => ?_
    apply Classical.byContradiction
    intro hc
    have h2 : 2 ≤ a.count l (a.lot i).from_ := by omega
    obtain ⟨x, hx, y, hy, hne, px, py⟩ := (two_in nd).mp h2
    have px' := at_iff.mp px
    have py' := at_iff.mp py
    have := H x hx y hy hne
    rw [meets_iff.mpr ⟨by omega, by omega⟩] at this
    cases this
end Ct
end
section
set_option Elab.async false
set_option linter.all false
set_option maxRecDepth 10000
set_option maxHeartbeats 4000000
namespace Ct
/-! ### a line of calls, place by place -/
def tabN : List (Nat × Nat) := [(2, 0), (3, 0), (1, 0), (2, 0), (0, 0), (1, 0), (0, 0), (0, 1), (1, 0), (0, 0), (1, 0), (1, 0), (1, 1), (0, 1), (1, 0), (2, 0), (2, 0), (3, 0), (0, 0), (1, 0), (0, 0), (1, 0), (0, 0), (0, 0)]
def intL (l : List Nat) : List Int := l.map fun (x : Nat) => (x : Int)
/-- a call as the specification has it -/
def rawC (j : Nat) (args : List Nat) (row : Option (List Nat)) : List (List Int) := ((j : Int) :: intL args) :: (match row with | none => [] | some r => [intL r])
def callJ : Nat → List Nat → Option (List Nat) → Option Kv349.Call
  | 0, [x, y], none => some (.begin_ x y)
  | 1, [x, y, z], none => some (.lot x y z)
  | 2, [x], none => some (.drop x)
  | 3, [x, y], none => some (.longer x y)
  | 4, [], none => some (.tank)
  | 5, [x], none => some (.hours x)
  | 6, [], none => some (.fewest)
  | 7, [], some l => some (.peak l)
  | 8, [x], none => some (.at_ x)
  | 9, [], none => some (.plan)
  | 10, [x], none => some (.tankOf x)
  | 11, [x], none => some (.most x)
  | 12, [x], some l => some (.mostOf x l)
  | 13, [], some l => some (.together l)
  | 14, [x], none => some (.meets x)
  | 15, [x, y], none => some (.may x y)
  | 16, [x, y], none => some (.first x y)
  | 17, [x, y, z], none => some (.firstWith x y z)
  | 18, [], none => some (.ready)
  | 19, [x], none => some (.left_ x)
  | 20, [], none => some (.busy)
  | 21, [x], none => some (.look x)
  | 22, [], none => some (.sums)
  | 23, [], none => some (.state)
  | _, _, _ => none
theorem nats_ints (l : List Nat) : Kv349Neutral.nats (intL l) = l := by
  unfold Kv349Neutral.nats intL
  rw [List.map_map]
  conv => rhs; rw [← List.map_id l]
  exact List.map_congr_left fun x _ => rfl
theorem shape_tab {p : Int} {z : Nat × Nat} (h : PyKv349.shape p = some z) : ∃ j : Nat, p = (j : Int) ∧ j < 24 ∧ tabN[j]? = some z := by
  unfold PyKv349.shape at h
  by_cases h0 : p < 0
  · exfalso
    rw [if_neg (show ¬ p = 0 by omega), if_neg (show ¬ p = 1 by omega), if_neg (show ¬ p = 2 by omega), if_neg (show ¬ p = 3 by omega), if_neg (show ¬ p = 4 by omega), if_neg (show ¬ p = 5 by omega), if_neg (show ¬ p = 6 by omega), if_neg (show ¬ p = 7 by omega), if_neg (show ¬ p = 8 by omega), if_neg (show ¬ p = 9 by omega), if_neg (show ¬ p = 10 by omega), if_neg (show ¬ p = 11 by omega), if_neg (show ¬ p = 12 by omega), if_neg (show ¬ p = 13 by omega), if_neg (show ¬ p = 14 by omega), if_neg (show ¬ p = 15 by omega), if_neg (show ¬ p = 16 by omega), if_neg (show ¬ p = 17 by omega), if_neg (show ¬ p = 18 by omega), if_neg (show ¬ p = 19 by omega), if_neg (show ¬ p = 20 by omega), if_neg (show ¬ p = 21 by omega), if_neg (show ¬ p = 22 by omega), if_neg (show ¬ p = 23 by omega)] at h
    cases h
  · obtain ⟨j, rfl⟩ : ∃ j : Nat, p = (j : Int) := ⟨p.toNat, by omega⟩
    refine ⟨j, rfl, ?_⟩
    by_cases hj : j < 24
    · refine ⟨hj, ?_⟩
      match j, hj, h with
      | 0, _, h => exact h
      | 1, _, h => exact h
      | 2, _, h => exact h
      | 3, _, h => exact h
      | 4, _, h => exact h
      | 5, _, h => exact h
      | 6, _, h => exact h
      | 7, _, h => exact h
      | 8, _, h => exact h
      | 9, _, h => exact h
      | 10, _, h => exact h
      | 11, _, h => exact h
      | 12, _, h => exact h
      | 13, _, h => exact h
      | 14, _, h => exact h
      | 15, _, h => exact h
      | 16, _, h => exact h
      | 17, _, h => exact h
      | 18, _, h => exact h
      | 19, _, h => exact h
      | 20, _, h => exact h
      | 21, _, h => exact h
      | 22, _, h => exact h
      | 23, _, h => exact h
      | j + 24, hj, _ => omega
    · exfalso
      rw [if_neg (show ¬ (j : Int) = 0 by omega), if_neg (show ¬ (j : Int) = 1 by omega), if_neg (show ¬ (j : Int) = 2 by omega), if_neg (show ¬ (j : Int) = 3 by omega), if_neg (show ¬ (j : Int) = 4 by omega), if_neg (show ¬ (j : Int) = 5 by omega), if_neg (show ¬ (j : Int) = 6 by omega), if_neg (show ¬ (j : Int) = 7 by omega), if_neg (show ¬ (j : Int) = 8 by omega), if_neg (show ¬ (j : Int) = 9 by omega), if_neg (show ¬ (j : Int) = 10 by omega), if_neg (show ¬ (j : Int) = 11 by omega), if_neg (show ¬ (j : Int) = 12 by omega), if_neg (show ¬ (j : Int) = 13 by omega), if_neg (show ¬ (j : Int) = 14 by omega), if_neg (show ¬ (j : Int) = 15 by omega), if_neg (show ¬ (j : Int) = 16 by omega), if_neg (show ¬ (j : Int) = 17 by omega), if_neg (show ¬ (j : Int) = 18 by omega), if_neg (show ¬ (j : Int) = 19 by omega), if_neg (show ¬ (j : Int) = 20 by omega), if_neg (show ¬ (j : Int) = 21 by omega), if_neg (show ¬ (j : Int) = 22 by omega), if_neg (show ¬ (j : Int) = 23 by omega)] at h
      cases h
theorem callJ_of {j : Nat} {args : List Nat} {row : Option (List Nat)} (h : tabN[j]? = some (args.length, if row.isSome = true then 1 else 0)) :
    ∃ c, callJ j args row = some c ∧ PyKv349.whole (rawC j args row) = rawC j args row ∧ Kv349Neutral.callOf (rawC j args row) = some c :=
  match j, h with
  | 0, h => by
    have h' : some ((2, 0) : Nat × Nat) = some (args.length, if row.isSome = true then 1 else 0) := h
    have h1 : args.length = 2 := (congrArg Prod.fst (Option.some.inj h')).symm
    have h2 : (if row.isSome = true then 1 else 0) = 0 := (congrArg Prod.snd (Option.some.inj h')).symm
    match args, h1, row, h2 with
    | [x, y], _, none, _ => exact ⟨_, rfl, rfl, rfl⟩
    | [x, y], _, some l, h2 => exact absurd h2 (by simp)
  | 1, h => by
    have h' : some ((3, 0) : Nat × Nat) = some (args.length, if row.isSome = true then 1 else 0) := h
    have h1 : args.length = 3 := (congrArg Prod.fst (Option.some.inj h')).symm
    have h2 : (if row.isSome = true then 1 else 0) = 0 := (congrArg Prod.snd (Option.some.inj h')).symm
    match args, h1, row, h2 with
    | [x, y, z], _, none, _ => exact ⟨_, rfl, rfl, rfl⟩
    | [x, y, z], _, some l, h2 => exact absurd h2 (by simp)
  | 2, h => by
    have h' : some ((1, 0) : Nat × Nat) = some (args.length, if row.isSome = true then 1 else 0) := h
    have h1 : args.length = 1 := (congrArg Prod.fst (Option.some.inj h')).symm
    have h2 : (if row.isSome = true then 1 else 0) = 0 := (congrArg Prod.snd (Option.some.inj h')).symm
    match args, h1, row, h2 with
    | [x], _, none, _ => exact ⟨_, rfl, rfl, rfl⟩
    | [x], _, some l, h2 => exact absurd h2 (by simp)
  | 3, h => by
    have h' : some ((2, 0) : Nat × Nat) = some (args.length, if row.isSome = true then 1 else 0) := h
    have h1 : args.length = 2 := (congrArg Prod.fst (Option.some.inj h')).symm
    have h2 : (if row.isSome = true then 1 else 0) = 0 := (congrArg Prod.snd (Option.some.inj h')).symm
    match args, h1, row, h2 with
    | [x, y], _, none, _ => exact ⟨_, rfl, rfl, rfl⟩
    | [x, y], _, some l, h2 => exact absurd h2 (by simp)
  | 4, h => by
    have h' : some ((0, 0) : Nat × Nat) = some (args.length, if row.isSome = true then 1 else 0) := h
    have h1 : args.length = 0 := (congrArg Prod.fst (Option.some.inj h')).symm
    have h2 : (if row.isSome = true then 1 else 0) = 0 := (congrArg Prod.snd (Option.some.inj h')).symm
    match args, h1, row, h2 with
    | [], _, none, _ => exact ⟨_, rfl, rfl, rfl⟩
    | [], _, some l, h2 => exact absurd h2 (by simp)
  | 5, h => by
    have h' : some ((1, 0) : Nat × Nat) = some (args.length, if row.isSome = true then 1 else 0) := h
    have h1 : args.length = 1 := (congrArg Prod.fst (Option.some.inj h')).symm
    have h2 : (if row.isSome = true then 1 else 0) = 0 := (congrArg Prod.snd (Option.some.inj h')).symm
    match args, h1, row, h2 with
    | [x], _, none, _ => exact ⟨_, rfl, rfl, rfl⟩
    | [x], _, some l, h2 => exact absurd h2 (by simp)
  | 6, h => by
    have h' : some ((0, 0) : Nat × Nat) = some (args.length, if row.isSome = true then 1 else 0) := h
    have h1 : args.length = 0 := (congrArg Prod.fst (Option.some.inj h')).symm
    have h2 : (if row.isSome = true then 1 else 0) = 0 := (congrArg Prod.snd (Option.some.inj h')).symm
    match args, h1, row, h2 with
    | [], _, none, _ => exact ⟨_, rfl, rfl, rfl⟩
    | [], _, some l, h2 => exact absurd h2 (by simp)
  | 7, h => by
    have h' : some ((0, 1) : Nat × Nat) = some (args.length, if row.isSome = true then 1 else 0) := h
    have h1 : args.length = 0 := (congrArg Prod.fst (Option.some.inj h')).symm
    have h2 : (if row.isSome = true then 1 else 0) = 1 := (congrArg Prod.snd (Option.some.inj h')).symm
    match args, h1, row, h2 with
    | [], _, some l, _ => exact ⟨_, rfl, rfl, by show some (Kv349.Call.peak (Kv349Neutral.nats (intL l))) = _; rw [nats_ints]⟩
    | [], _, none, h2 => exact absurd h2 (by decide)
  | 8, h => by
    have h' : some ((1, 0) : Nat × Nat) = some (args.length, if row.isSome = true then 1 else 0) := h
    have h1 : args.length = 1 := (congrArg Prod.fst (Option.some.inj h')).symm
    have h2 : (if row.isSome = true then 1 else 0) = 0 := (congrArg Prod.snd (Option.some.inj h')).symm
    match args, h1, row, h2 with
    | [x], _, none, _ => exact ⟨_, rfl, rfl, rfl⟩
    | [x], _, some l, h2 => exact absurd h2 (by simp)
  | 9, h => by
    have h' : some ((0, 0) : Nat × Nat) = some (args.length, if row.isSome = true then 1 else 0) := h
    have h1 : args.length = 0 := (congrArg Prod.fst (Option.some.inj h')).symm
    have h2 : (if row.isSome = true then 1 else 0) = 0 := (congrArg Prod.snd (Option.some.inj h')).symm
    match args, h1, row, h2 with
    | [], _, none, _ => exact ⟨_, rfl, rfl, rfl⟩
    | [], _, some l, h2 => exact absurd h2 (by simp)
  | 10, h => by
    have h' : some ((1, 0) : Nat × Nat) = some (args.length, if row.isSome = true then 1 else 0) := h
    have h1 : args.length = 1 := (congrArg Prod.fst (Option.some.inj h')).symm
    have h2 : (if row.isSome = true then 1 else 0) = 0 := (congrArg Prod.snd (Option.some.inj h')).symm
    match args, h1, row, h2 with
    | [x], _, none, _ => exact ⟨_, rfl, rfl, rfl⟩
    | [x], _, some l, h2 => exact absurd h2 (by simp)
  | 11, h => by
    have h' : some ((1, 0) : Nat × Nat) = some (args.length, if row.isSome = true then 1 else 0) := h
    have h1 : args.length = 1 := (congrArg Prod.fst (Option.some.inj h')).symm
    have h2 : (if row.isSome = true then 1 else 0) = 0 := (congrArg Prod.snd (Option.some.inj h')).symm
    match args, h1, row, h2 with
    | [x], _, none, _ => exact ⟨_, rfl, rfl, rfl⟩
    | [x], _, some l, h2 => exact absurd h2 (by simp)
  | 12, h => by
    have h' : some ((1, 1) : Nat × Nat) = some (args.length, if row.isSome = true then 1 else 0) := h
    have h1 : args.length = 1 := (congrArg Prod.fst (Option.some.inj h')).symm
    have h2 : (if row.isSome = true then 1 else 0) = 1 := (congrArg Prod.snd (Option.some.inj h')).symm
    match args, h1, row, h2 with
    | [x], _, some l, _ => exact ⟨_, rfl, rfl, by show some (Kv349.Call.mostOf (Kv349Neutral.nat (x : Int)) (Kv349Neutral.nats (intL l))) = _; rw [nats_ints]; rfl⟩
    | [x], _, none, h2 => exact absurd h2 (by decide)
  | 13, h => by
    have h' : some ((0, 1) : Nat × Nat) = some (args.length, if row.isSome = true then 1 else 0) := h
    have h1 : args.length = 0 := (congrArg Prod.fst (Option.some.inj h')).symm
    have h2 : (if row.isSome = true then 1 else 0) = 1 := (congrArg Prod.snd (Option.some.inj h')).symm
    match args, h1, row, h2 with
    | [], _, some l, _ => exact ⟨_, rfl, rfl, by show some (Kv349.Call.together (Kv349Neutral.nats (intL l))) = _; rw [nats_ints]⟩
    | [], _, none, h2 => exact absurd h2 (by decide)
  | 14, h => by
    have h' : some ((1, 0) : Nat × Nat) = some (args.length, if row.isSome = true then 1 else 0) := h
    have h1 : args.length = 1 := (congrArg Prod.fst (Option.some.inj h')).symm
    have h2 : (if row.isSome = true then 1 else 0) = 0 := (congrArg Prod.snd (Option.some.inj h')).symm
    match args, h1, row, h2 with
    | [x], _, none, _ => exact ⟨_, rfl, rfl, rfl⟩
    | [x], _, some l, h2 => exact absurd h2 (by simp)
  | 15, h => by
    have h' : some ((2, 0) : Nat × Nat) = some (args.length, if row.isSome = true then 1 else 0) := h
    have h1 : args.length = 2 := (congrArg Prod.fst (Option.some.inj h')).symm
    have h2 : (if row.isSome = true then 1 else 0) = 0 := (congrArg Prod.snd (Option.some.inj h')).symm
    match args, h1, row, h2 with
    | [x, y], _, none, _ => exact ⟨_, rfl, rfl, rfl⟩
    | [x, y], _, some l, h2 => exact absurd h2 (by simp)
  | 16, h => by
    have h' : some ((2, 0) : Nat × Nat) = some (args.length, if row.isSome = true then 1 else 0) := h
    have h1 : args.length = 2 := (congrArg Prod.fst (Option.some.inj h')).symm
    have h2 : (if row.isSome = true then 1 else 0) = 0 := (congrArg Prod.snd (Option.some.inj h')).symm
    match args, h1, row, h2 with
    | [x, y], _, none, _ => exact ⟨_, rfl, rfl, rfl⟩
    | [x, y], _, some l, h2 => exact absurd h2 (by simp)
  | 17, h => by
    have h' : some ((3, 0) : Nat × Nat) = some (args.length, if row.isSome = true then 1 else 0) := h
    have h1 : args.length = 3 := (congrArg Prod.fst (Option.some.inj h')).symm
    have h2 : (if row.isSome = true then 1 else 0) = 0 := (congrArg Prod.snd (Option.some.inj h')).symm
    match args, h1, row, h2 with
    | [x, y, z], _, none, _ => exact ⟨_, rfl, rfl, rfl⟩
    | [x, y, z], _, some l, h2 => exact absurd h2 (by simp)
  | 18, h => by
    have h' : some ((0, 0) : Nat × Nat) = some (args.length, if row.isSome = true then 1 else 0) := h
    have h1 : args.length = 0 := (congrArg Prod.fst (Option.some.inj h')).symm
    have h2 : (if row.isSome = true then 1 else 0) = 0 := (congrArg Prod.snd (Option.some.inj h')).symm
    match args, h1, row, h2 with
    | [], _, none, _ => exact ⟨_, rfl, rfl, rfl⟩
    | [], _, some l, h2 => exact absurd h2 (by simp)
  | 19, h => by
    have h' : some ((1, 0) : Nat × Nat) = some (args.length, if row.isSome = true then 1 else 0) := h
    have h1 : args.length = 1 := (congrArg Prod.fst (Option.some.inj h')).symm
    have h2 : (if row.isSome = true then 1 else 0) = 0 := (congrArg Prod.snd (Option.some.inj h')).symm
    match args, h1, row, h2 with
    | [x], _, none, _ => exact ⟨_, rfl, rfl, rfl⟩
    | [x], _, some l, h2 => exact absurd h2 (by simp)
  | 20, h => by
    have h' : some ((0, 0) : Nat × Nat) = some (args.length, if row.isSome = true then 1 else 0) := h
    have h1 : args.length = 0 := (congrArg Prod.fst (Option.some.inj h')).symm
    have h2 : (if row.isSome = true then 1 else 0) = 0 := (congrArg Prod.snd (Option.some.inj h')).symm
    match args, h1, row, h2 with
    | [], _, none, _ => exact ⟨_, rfl, rfl, rfl⟩
    | [], _, some l, h2 => exact absurd h2 (by simp)
  | 21, h => by
    have h' : some ((1, 0) : Nat × Nat) = some (args.length, if row.isSome = true then 1 else 0) := h
    have h1 : args.length = 1 := (congrArg Prod.fst (Option.some.inj h')).symm
    have h2 : (if row.isSome = true then 1 else 0) = 0 := (congrArg Prod.snd (Option.some.inj h')).symm
    match args, h1, row, h2 with
    | [x], _, none, _ => exact ⟨_, rfl, rfl, rfl⟩
    | [x], _, some l, h2 => exact absurd h2 (by simp)
  | 22, h => by
    have h' : some ((0, 0) : Nat × Nat) = some (args.length, if row.isSome = true then 1 else 0) := h
    have h1 : args.length = 0 := (congrArg Prod.fst (Option.some.inj h')).symm
    have h2 : (if row.isSome = true then 1 else 0) = 0 := (congrArg Prod.snd (Option.some.inj h')).symm
    match args, h1, row, h2 with
    | [], _, none, _ => exact ⟨_, rfl, rfl, rfl⟩
    | [], _, some l, h2 => exact absurd h2 (by simp)
  | 23, h => by
    have h' : some ((0, 0) : Nat × Nat) = some (args.length, if row.isSome = true then 1 else 0) := h
    have h1 : args.length = 0 := (congrArg Prod.fst (Option.some.inj h')).symm
    have h2 : (if row.isSome = true then 1 else 0) = 0 := (congrArg Prod.snd (Option.some.inj h')).symm
    match args, h1, row, h2 with
    | [], _, none, _ => exact ⟨_, rfl, rfl, rfl⟩
    | [], _, some l, h2 => exact absurd h2 (by simp)
  | j + 24, h => by simp [tabN] at h
/-! ### the walk -/
structure CallAt (ms : List Nat) (pl j : Nat) (args : List Nat) (row : Option (List Nat)) (en : Nat) : Prop where
  at_ : ms[pl]? = some j
  tab : tabN[j]? = some (args.length, if row.isSome = true then 1 else 0)
  cut : (ms.drop (pl + 1)).take args.length = args
  fits : pl + 1 + args.length ≤ ms.length
  none_ : row = none → en = pl + 1 + args.length
  some_ : ∀ r, row = some r → ms[pl + 1 + args.length]? = some r.length ∧ (ms.drop (pl + 1 + args.length + 1)).take r.length = r ∧ pl + 1 + args.length + 1 + r.length ≤ ms.length ∧ en = pl + 1 + args.length + 1 + r.length
theorem ints_len {l : List Nat} : (intL l).length = l.length := List.length_map ..
theorem ints_drop {l : List Nat} {n : Nat} : (intL l).drop n = intL (l.drop n) := by unfold intL; rw [List.map_drop]
theorem ints_take {l : List Nat} {n : Nat} : (intL l).take n = intL (l.take n) := by unfold intL; rw [List.map_take]
theorem ints_inj {l m : List Nat} (h : intL l = intL m) : l = m := by
  have := congrArg Kv349Neutral.nats h
  rw [nats_ints, nats_ints] at this
  exact this
theorem ints_cons {l : List Nat} {p : Int} {r : List Int} (h : intL l = p :: r) : ∃ x m, l = x :: m ∧ p = (x : Int) ∧ r = intL m := by
  cases l with
  | nil => cases h
  | cons x m =>
    have h' : (x : Int) :: intL m = p :: r := h
    injection h' with h1 h2
    exact ⟨x, m, rfl, h1.symm, h2.symm⟩
theorem row_of {l x s : List Int} (h : PyFlat.row l = some (x, s)) : ∃ n r, l = n :: r ∧ 0 ≤ n ∧ n.toNat ≤ r.length ∧ x = r.take n.toNat ∧ s = r.drop n.toNat := by
  cases l with
  | nil => cases h
  | cons n r =>
    have h' : (if 0 ≤ n ∧ n.toNat ≤ r.length then some (r.take n.toNat, r.drop n.toNat) else none) = some (x, s) := h
    split at h'
    · rename_i hc
      injection h' with h'
      injection h' with h1 h2
      exact ⟨n, r, rfl, hc.1, hc.2, h1.symm, h2.symm⟩
    · cases h'
theorem tab_row {j : Nat} {z : Nat × Nat} (h : tabN[j]? = some z) : z.2 = 0 ∨ z.2 = 1 := by
  have hm : z ∈ tabN := List.mem_of_getElem? h
  have all : tabN.all (fun z => z.2 == 0 || z.2 == 1) = true := by decide
  have := List.all_eq_true.mp all z hm
  simpa using this
theorem next_call {ms : List Nat} {pl f : Nat} {cs : List (List (List Int))} (h : PyFlat.calls PyKv349.shape f ((intL ms).drop pl) = some cs) (hl : pl < ms.length) :
    ∃ (j : Nat) (args : List Nat) (row : Option (List Nat)) (en f' : Nat) (cs' : List (List (List Int))), CallAt ms pl j args row en ∧ cs = rawC j args row :: cs' ∧ PyFlat.calls PyKv349.shape f' ((intL ms).drop en) = some cs' := by
  rw [ints_drop] at h
  have ed : ms.drop pl = ms[pl] :: ms.drop (pl + 1) := List.drop_eq_getElem_cons hl
  have at0 : ms[pl]? = some ms[pl] := List.getElem?_eq_getElem hl
  generalize ms[pl] = x at ed at0
  rw [ed] at h
  cases f with
  | zero => cases h
  | succ f =>
    have h' : (match PyFlat.call PyKv349.shape ((x : Int) :: intL (ms.drop (pl + 1))) with | none => none | some (c, t) => match PyFlat.calls PyKv349.shape f t with | none => none | some cs => some (c :: cs)) = some cs := h
    cases hc : PyFlat.call PyKv349.shape ((x : Int) :: intL (ms.drop (pl + 1))) with
    | none => rw [hc] at h'; cases h'
    | some ct =>
      obtain ⟨c, t⟩ := ct
      rw [hc] at h'
      have h' : (match PyFlat.calls PyKv349.shape f t with | none => none | some cs => some (c :: cs)) = some cs := h'
      cases hk : PyFlat.calls PyKv349.shape f t with
      | none => rw [hk] at h'; cases h'
      | some cs' =>
        rw [hk] at h'
        have ecs : c :: cs' = cs := Option.some.inj h'
        have hc' : (match PyKv349.shape (x : Int) with | none => none | some (n, k) => if (intL (ms.drop (pl + 1))).length < n then none else match PyFlat.rows k ((intL (ms.drop (pl + 1))).drop n) with | none => none | some (xs, t) => some (((x : Int) :: (intL (ms.drop (pl + 1))).take n) :: xs, t)) = some (c, t) := hc
        cases hs : PyKv349.shape (x : Int) with
        | none => rw [hs] at hc'; cases hc'
        | some z =>
          obtain ⟨n, k⟩ := z
          rw [hs] at hc'
          obtain ⟨j, ej, hj, ht⟩ := shape_tab hs
          have exj : x = j := by omega
          subst exj
          have hc2 : (if (intL (ms.drop (pl + 1))).length < n then none else match PyFlat.rows k ((intL (ms.drop (pl + 1))).drop n) with | none => none | some (xs, t) => some (((x : Int) :: (intL (ms.drop (pl + 1))).take n) :: xs, t)) = some (c, t) := hc'
          split at hc2
          · cases hc2
          · rename_i hn
            rw [ints_len, List.length_drop] at hn
            have al : ((ms.drop (pl + 1)).take n).length = n := by rw [List.length_take, List.length_drop]; omega
            rcases tab_row ht with hk0 | hk1
            · have hk0' : k = 0 := hk0
              subst hk0'
              have e2 : (((x : Int) :: (intL (ms.drop (pl + 1))).take n) :: ([] : List (List Int)), (intL (ms.drop (pl + 1))).drop n) = (c, t) := Option.some.inj hc2
              injection e2 with e3 e4
              refine ⟨x, (ms.drop (pl + 1)).take n, none, pl + 1 + n, f, cs', ⟨at0, by rw [al]; exact ht, by rw [al], by rw [al]; omega, fun _ => by rw [al], fun r hr => by cases hr⟩, ?_, ?_⟩
              · rw [← ecs, ← e3, ints_take]; rfl
              · rw [ints_drop, ← List.drop_drop, ← ints_drop, e4]; exact hk
            · have hk1' : k = 1 := hk1
              subst hk1'
              have hc3 : (match (match PyFlat.row ((intL (ms.drop (pl + 1))).drop n) with | none => none | some (x, s) => some ([x], s)) with | none => none | some (xs, t) => some (((x : Int) :: (intL (ms.drop (pl + 1))).take n) :: xs, t)) = some (c, t) := by
                rw [← hc2]
                show _ = (match (match PyFlat.row ((intL (ms.drop (pl + 1))).drop n) with | none => none | some (x, s) => match PyFlat.rows 0 s with | none => none | some (xs, t) => some (x :: xs, t)) with | none => none | some (xs, t) => some (((x : Int) :: (intL (ms.drop (pl + 1))).take n) :: xs, t))
                cases PyFlat.row ((intL (ms.drop (pl + 1))).drop n) <;> rfl
              cases hr : PyFlat.row ((intL (ms.drop (pl + 1))).drop n) with
              | none => rw [hr] at hc3; cases hc3
              | some xs =>
                obtain ⟨r, s⟩ := xs
                rw [hr] at hc3
                have e2 : (((x : Int) :: (intL (ms.drop (pl + 1))).take n) :: [r], s) = (c, t) := Option.some.inj hc3
                injection e2 with e3 e4
                obtain ⟨m, rest, em, hm0, hml, er, es⟩ := row_of hr
                rw [ints_drop, List.drop_drop] at em
                obtain ⟨m', rest', em1, em2, em3⟩ := ints_cons em
                have hlt : pl + 1 + n < ms.length := by
                  have := congrArg List.length em1
                  rw [List.length_drop, List.length_cons] at this
                  omega
                have em4 : ms.drop (pl + 1 + n) = ms[pl + 1 + n] :: ms.drop (pl + 1 + n + 1) := List.drop_eq_getElem_cons hlt
                have at1 : ms[pl + 1 + n]? = some ms[pl + 1 + n] := List.getElem?_eq_getElem hlt
                rw [em1] at em4
                injection em4 with em5 em6
                have mt : m.toNat = m' := by rw [em2]; rfl
                rw [mt] at hml er es
                rw [em3, ints_len] at hml
                rw [em3, ints_take] at er
                rw [em3, ints_drop] at es
                have hrl : (ms.drop (pl + 1 + n + 1)).length = ms.length - (pl + 1 + n + 1) := List.length_drop ..
                have rl : (rest'.take m').length = m' := by rw [List.length_take]; omega
                refine ⟨x, (ms.drop (pl + 1)).take n, some (rest'.take m'), pl + 1 + n + 1 + m', f, cs', ⟨at0, by rw [al]; exact ht, by rw [al], by rw [al]; omega, (fun z => by cases z), fun r' hr' => ?_⟩, ?_, ?_⟩
                · have er' := Option.some.inj hr'
                  subst er'
                  rw [al, rl]
                  refine ⟨by rw [at1, em5], by rw [← em6], ?_, rfl⟩
                  rw [← em6] at hrl
                  omega
                · rw [← ecs, ← e3, ints_take, er]; rfl
                · rw [ints_drop, ← List.drop_drop, ← em6, ← es, e4]; exact hk
theorem no_call {ms : List Nat} {pl f : Nat} {cs : List (List (List Int))} (h : PyFlat.calls PyKv349.shape f ((intL ms).drop pl) = some cs) (hl : ms.length ≤ pl) : cs = [] := by
  rw [List.drop_of_length_le (by rw [ints_len]; exact hl)] at h
  have h' : some ([] : List (List (List Int))) = some cs := by
    cases f <;> exact h
  exact (Option.some.inj h').symm
/-- what is told from a state on -/
def restOf (st : Option Kv349.Abs) (cs : List (List (List Int))) : List Int := PyFlat.told (PyFlat.played Kv349Neutral.step st (cs.map PyKv349.whole))
theorem rest_cons {st : Option Kv349.Abs} {j : Nat} {args : List Nat} {row : Option (List Nat)} {c : Kv349.Call} {cs : List (List (List Int))} (h1 : PyKv349.whole (rawC j args row) = rawC j args row) (h2 : Kv349Neutral.callOf (rawC j args row) = some c) :
    restOf st (rawC j args row :: cs) = ((Kv349Neutral.row (Kv349.act st c).2).length : Int) :: Kv349Neutral.row (Kv349.act st c).2 ++ restOf (Kv349.act st c).1 cs := by
  unfold restOf
  rw [List.map_cons, h1]
  have e : Kv349Neutral.step st (rawC j args row) = ((Kv349.act st c).1, Kv349Neutral.row (Kv349.act st c).2) := by
    unfold Kv349Neutral.step
    rw [h2]
  show PyFlat.told ((Kv349Neutral.step st (rawC j args row)).2 :: PyFlat.played Kv349Neutral.step (Kv349Neutral.step st (rawC j args row)).1 (cs.map PyKv349.whole)) = _
  rw [e]; rfl
theorem answers_rest {l : List Int} {raw : List (List (List Int))} (h : PyFlat.calls PyKv349.shape l.length l = some raw) : PyKv349.answers l = restOf none raw := by
  unfold PyKv349.answers PyKv349.calls
  rw [h]; rfl
theorem asked_of {l : List Int} (h : PyKv349.answers_asked l = true) : ∃ raw, PyFlat.calls PyKv349.shape l.length l = some raw ∧ (∀ c ∈ raw, PyInside.call PyKv349.bound c = true) ∧ (PyKv349.answers l).length ≤ 10000000 := by
  unfold PyKv349.answers_asked at h
  cases e : PyFlat.calls PyKv349.shape l.length l with
  | none => rw [e] at h; cases h
  | some raw =>
    rw [e] at h
    have h' : (!raw.isEmpty && PyFlat.atMost 256 raw && PyInside.calls PyKv349.bound raw && Kv349Neutral.asked (raw.map PyKv349.whole) && PyFlat.short 10000000 (PyKv349.answers l)) = true := h
    rw [Bool.and_eq_true, Bool.and_eq_true, Bool.and_eq_true] at h'
    exact ⟨raw, rfl, fun c hc => List.all_eq_true.mp h'.1.1.2 c hc, of_decide_eq_true h'.2⟩
theorem row_small {j : Nat} {args r : List Nat} (ht : tabN[j]? = some (args.length, 1)) (h : PyInside.call PyKv349.bound (rawC j args (some r)) = true) : r.length ≤ 40 := by
  have hj : j = 7 ∨ j = 12 ∨ j = 13 := by
    have hlt : j < 24 := by
      have := (List.getElem?_eq_some_iff.mp ht).1
      exact this
    match j, hlt, ht with
    | 0, _, ht | 1, _, ht | 2, _, ht | 3, _, ht | 4, _, ht | 5, _, ht | 6, _, ht | 8, _, ht | 9, _, ht | 10, _, ht | 11, _, ht | 14, _, ht | 15, _, ht | 16, _, ht | 17, _, ht | 18, _, ht | 19, _, ht | 20, _, ht | 21, _, ht | 22, _, ht | 23, _, ht => exact absurd (congrArg Prod.snd (Option.some.inj ht)) (by show ¬ (0 = 1); decide)
    | 7, _, _ => exact .inl rfl
    | 12, _, _ => exact .inr (.inl rfl)
    | 13, _, _ => exact .inr (.inr rfl)
  have hb : (PyKv349.bound (j : Int)).2 = [(0, 65535, 0, 40)] := by rcases hj with rfl | rfl | rfl <;> rfl
  have h' : (PyInside.each (PyKv349.bound (j : Int)).1 (intL args) && PyInside.lists (PyKv349.bound (j : Int)).2 [intL r]) = true := h
  rw [hb, Bool.and_eq_true] at h'
  have h2 : (decide (0 ≤ (intL r).length) && decide ((intL r).length ≤ 40) && (intL r).all (PyInside.within 0 65535) && true) = true := h'.2
  rw [Bool.and_true, Bool.and_eq_true, Bool.and_eq_true, decide_eq_true_iff, decide_eq_true_iff, ints_len] at h2
  exact h2.1.2
end Ct
end
section
set_option Elab.async false
set_option linter.all false
set_option maxRecDepth 100000
set_option maxHeartbeats 4000000
namespace Ct
open PySem PySem.Spec PyProof.Rows L2

/-! ### a record of one's own: written, adopted -/
section
variable {X : Cx} {pins : List (Addr × Obj)} {σ : L2.St} {H : Hp} {s : Shared} {b : Addr}
structure Mine (X : Cx) (pins : List (Addr × Obj)) (b : Addr) : Prop where
  loc : b ≠ X.env.locals
  fs : b ∉ X.fs
  ex : b ∈ X.ex ∨ X.s_0.heap.objs.size ≤ b
  cel : ∀ x c, X.env.cells.lookup x = some c → c ≠ b
  pn : ∀ p ∈ X.pn ++ pins, p.1 ≠ b
theorem mine_of (I : Inv X pins σ H s) (h : s.heap.objs.size ≤ b) : Mine X pins b := by
  obtain ⟨_, a1, a2, a3, a4, a5⟩ := I.fpOk h (I.hok.fresh h)
  exact ⟨a1, a2, a3, a4, a5⟩
/-- an untracked record is tracked from now on -/
theorem adopt {o : HO} (I : Inv X pins σ H s) (m : Mine X pins b) (hn : H b = none) (new : ObjOk X.prog X.w (upd H b o) s.heap b o) : Inv X pins σ (upd H b o) s := by
  have hne : ∀ c u, H c = some u → c ≠ b := fun c u e z => by rw [z, hn] at e; cases e
  have r := I.step (H' := upd H b o) (h' := s.heap) (g' := s.gens) (t' := s.toks) (d' := s.drawn) (ch := [b]) (fun c hc => by
      have e : c = b := by simpa using hc
      subst e
      exact ⟨m.ex, m.loc, m.cel, m.pn⟩) (fun c u _ _ _ e _ => e) (fun c u _ _ _ e _ => ⟨u.slots, e⟩) (fun c u hc _ n => by rw [upd_ne (fun z => hc (by simp [z]))]; exact n)
      (fun c u _ e => ⟨u, e⟩) (fun c xs e => by rw [upd_ne (hne _ _ e)]; exact e) (fun c u xs e => by rw [upd_ne (hne _ _ e)]; exact e) (fun c ps e => ⟨#[], by rw [upd_ne (hne _ _ e), e]; simp⟩)
      (fun _ h => h) (fun c u e => by
        by_cases hc : c = b
        · subst hc; rw [upd_same] at e; cases e; exact new
        · rw [upd_ne hc] at e
          exact (I.hok c u e).stay (fun _ _ _ q => q) (fun d q => by rw [upd_ne (hne _ _ q)]; exact q) fun d xs q => by rw [upd_ne (hne _ _ q)]; exact q) I.bare
  exact r
/-- pins dropped, pins added -/
theorem unpin {more : List (Addr × Obj)} (I : Inv X (pins ++ more) σ H s) : Inv X pins σ H s := I.pins_of fun p hp => I.pin p (List.mem_append_right _ (List.mem_append_left _ hp))
theorem pinned {more : List (Addr × Obj)} (I : Inv X (pins ++ more) σ H s) {p : Addr × Obj} (h : p ∈ more) : s.heap.get? p.1 = some p.2 ∧ H p.1 = none := by
  obtain ⟨a, b, _⟩ := I.pin p (List.mem_append_right _ (List.mem_append_right _ h))
  exact ⟨a, b⟩
theorem pin_two {b c : Addr} {ob oc : Obj} (I : Inv X pins σ H s) (mb : Mine X pins b) (mc : Mine X pins c) (hb : s.heap.get? b = some ob) (hc : s.heap.get? c = some oc) (nb : H b = none) (nc : H c = none)
    (db : ∀ v, ob.data ≠ .cell v) (dc : ∀ v, oc.data ≠ .cell v) : Inv X (pins ++ [(b, ob), (c, oc)]) σ H s := I.pins_of fun p hp => by
  rcases List.mem_append.mp hp with hp | hp
  · exact I.pin p (List.mem_append_right _ hp)
  · rcases List.mem_cons.mp hp with rfl | hp
    · exact ⟨hb, nb, mb.loc, mb.fs, db⟩
    · rw [List.mem_singleton.mp hp]
      exact ⟨hc, nc, mc.loc, mc.fs, dc⟩
theorem seq_no_cell {c : String} {xs : Array Value} {n : Nat} : ∀ v, (seqObj c xs n).data ≠ .cell v := fun v z => by
  have z' : Data.seq xs n = Data.cell v := z
  cases z'
end

/-! ### sorted(xs, key=f), f handing back two ints -/
def PLe (x y : (Int × Int) × V) : Prop := x.1.1 < y.1.1 ∨ x.1.1 = y.1.1 ∧ x.1.2 ≤ y.1.2
def sh0 : Nat → Bool := fun _ => false
/-- a key that was made -/
def KeyAt (H : Hp) (z : Int × Int) (u : Value) : Prop := ∃ q, u = .ref q ∧ H q = some (.tup [.int z.1, .int z.2])
theorem KeyAt.keep {H H' : Hp} {z : Int × Int} {u : Value} (h : KeyAt H z u) (k : Same H H') : KeyAt H' z u := by
  obtain ⟨q, e, hq⟩ := h
  exact ⟨q, e, k _ _ hq⟩
theorem paired_keep {H H' : Hp} (k : Same H H') : ∀ {zs : List (Int × Int)} {us : List Value}, Paired (KeyAt H) zs us → Paired (KeyAt H') zs us
  | _, _, .nil => .nil
  | _, _, .cons r t => .cons (r.keep k) (paired_keep k t)
theorem paired_snoc {α β : Type} {R : α → β → Prop} {x : α} {y : β} (h : R x y) : ∀ {xs : List α} {ys : List β}, Paired R xs ys → Paired R (xs ++ [x]) (ys ++ [y])
  | _, _, .nil => .cons h .nil
  | _, _, .cons r t => .cons r (paired_snoc h t)
theorem pair_items {a b : Int} {t u : Tok} : tupItems sh0 0 [Value.int a t, Value.int b u] = some [Sum.inl a, Sum.inl b] := rfl
/-- in the heap: what a key's tuple is -/
theorem key_heap {P : Program} {w : World} {H : Hp} {h : Heap} {z : Int × Int} {u : Value} (ok : HOk P w H h) (k : KeyAt H z u) :
    G.tupKeyC h sh0 u = some [Sum.inl z.1, Sum.inl z.2] ∧ ∃ f, TupOf h sh0 u f := by
  obtain ⟨q, rfl, hq⟩ := k
  obtain ⟨_, its, rv, o, ho, hc, n, hd⟩ := ok q _ hq
  cases rv with
  | cons r1 r2 =>
    cases r2 with
    | cons r3 r4 =>
      cases r4
      obtain ⟨t, rfl⟩ := r1
      obtain ⟨t', rfl⟩ := r3
      refine ⟨?_, _, q, o, _, n, rfl, ho, hc, hd, rfl, fun _ => ⟨_, _, rfl⟩, fun e => absurd e (by decide)⟩
      have h1 : G.isTupObj h (.ref q) = true := by
        unfold G.isTupObj
        simp only [ho, hc]
        rfl
      unfold G.tupKeyC
      rw [if_pos h1]
      unfold tupKey
      simp only [ho, hd]
      exact pair_items
theorem keys_heap {P : Program} {w : World} {H : Hp} {h : Heap} (ok : HOk P w H h) : ∀ {zs : List (Int × Int)} {us : List Value}, Paired (KeyAt H) zs us → ∃ fs, TupsOf h sh0 us fs ∧ fs.length = us.length
  | _, _, .nil => ⟨[], .nil, rfl⟩
  | _, _, .cons r t => by
    obtain ⟨_, f, hf⟩ := key_heap ok r
    obtain ⟨fs, hfs, hl⟩ := keys_heap ok t
    exact ⟨f :: fs, .cons hf hfs, by rw [List.length_cons, List.length_cons, hl]⟩
/-- a pair of the sort, read -/
def dec (h : Heap) (p : Keyed) : (Int × Int) × V :=
  ((match G.tupKeyC h sh0 p.1 with | some [Sum.inl a, Sum.inl b] => (a, b) | _ => (0, 0)), (absV p.2).getD .non)
def Good (h : Heap) (p : Keyed) : Prop := ∃ (z : Int × Int) (v : V), G.tupKeyC h sh0 p.1 = some [Sum.inl z.1, Sum.inl z.2] ∧ RelV v p.2 ∧ dec h p = (z, v)
theorem good_of {P : Program} {w : World} {H : Hp} {h : Heap} {z : Int × Int} {u x : Value} {v : V} (ok : HOk P w H h) (k : KeyAt H z u) (r : RelV v x) : Good h (u, x) ∧ dec h (u, x) = (z, v) := by
  have e1 := (key_heap ok k).1
  have e2 : dec h (u, x) = (z, v) := by
    unfold dec
    simp only [e1, r.abs, Option.getD_some]
  exact ⟨⟨z, v, e1, r, e2⟩, e2⟩
theorem zip_dec {P : Program} {w : World} {H : Hp} {h : Heap} (ok : HOk P w H h) : ∀ {zs : List (Int × Int)} {us xs : List Value} {vs : List V}, Paired (KeyAt H) zs us → Vals vs xs → zs.length = vs.length →
    (us.zip xs).map (dec h) = zs.zip vs ∧ ∀ p ∈ us.zip xs, Good h p
  | _, _, _, _, .nil, _, _ => ⟨rfl, fun p hp => by simp at hp⟩
  | _, _, _, _, .cons r t, .nil, e => by simp at e
  | _, _, _, _, .cons r t, .cons r' t', e => by
    obtain ⟨g, d⟩ := good_of ok r r'
    obtain ⟨h1, h2⟩ := zip_dec ok t t' (by simpa using e)
    refine ⟨by rw [List.zip_cons_cons, List.map_cons, List.zip_cons_cons, h1, d], fun p hp => ?_⟩
    rw [List.zip_cons_cons] at hp
    rcases List.mem_cons.mp hp with rfl | hp
    · exact g
    · exact h2 p hp
theorem ple_of {z z' : Int × Int} {v v' : V} (h : lexLt itemOrd [Sum.inl z'.1, Sum.inl z'.2] [Sum.inl z.1, Sum.inl z.2] = false) : PLe (z, v) (z', v') := by
  obtain ⟨h1, h2⟩ := lex_false.mp h
  have h1' : ¬ z'.1 < z.1 := of_decide_eq_false (show decide (z'.1 < z.1) = false from h1)
  rcases h2 with h2 | h2
  · have h2' : z.1 < z'.1 := of_decide_eq_true (show decide (z.1 < z'.1) = true from h2)
    exact .inl h2'
  · obtain ⟨h3, _⟩ := lex_false.mp h2
    have h3' : ¬ z'.2 < z.2 := of_decide_eq_false (show decide (z'.2 < z.2) = false from h3)
    show z.1 < z'.1 ∨ z.1 = z'.1 ∧ z.2 ≤ z'.2
    omega
theorem kk_good {h : Heap} {xs : Array Keyed} {i : Nat} {p : Keyed} (e : xs[i]? = some p) (g : Good h p) : KK (G.tupKindC h sh0) xs i = [Sum.inl (dec h p).1.1, Sum.inl (dec h p).1.2] := by
  obtain ⟨z, v, e1, _, e2⟩ := g
  unfold KK
  simp only [e, e2]
  show (G.tupKeyC h sh0 p.1).getD [] = _
  rw [e1]; rfl
/-- what the sort gives, read -/
theorem sorted_read {h : Heap} {arr : Array Keyed} {l : List ((Int × Int) × V)} {n : Nat} (hp : arr.toList.map (dec h) = l) (hg : ∀ p ∈ arr.toList, Good h p) (hs : SortedToK (G.tupKindC h sh0) arr n) (hn : arr.size = n) :
    l.Pairwise PLe ∧ Vals (l.map (·.2)) (arr.map (·.2)).toList := by
  subst hp
  constructor
  · rw [List.pairwise_map, List.pairwise_iff_getElem]
    intro i j hi hj hij
    have gi := hg _ (List.getElem_mem hi)
    have gj := hg _ (List.getElem_mem hj)
    rw [Array.length_toList] at hi hj
    have ei : arr[i]? = some arr.toList[i] := by rw [Array.getElem?_eq_getElem hi, Array.getElem_toList]
    have ej : arr[j]? = some arr.toList[j] := by rw [Array.getElem?_eq_getElem hj, Array.getElem_toList]
    have q := hs i j (Nat.le_of_lt hij) (by omega)
    rw [kk_good ei gi, kk_good ej gj] at q
    exact ple_of q
  · rw [Array.toList_map, List.map_map]
    generalize arr.toList = l at hg
    clear hs hn
    induction l with
    | nil => exact .nil
    | cons p r ih =>
      obtain ⟨z, v, _, rv, e⟩ := hg p List.mem_cons_self
      refine .cons ?_ (ih fun q hq => hg q (List.mem_cons_of_mem _ hq))
      show RelV (dec h p).2 p.2
      rw [e]; exact rv

section
variable {X : Cx} {pins : List (Addr × Obj)} {σ : L2.St} {H : Hp} {s : Shared} {D kS f : Addr} {e1 k : Nat} {fd : FuncData} {pr : Str} {sp : Sp} {its : List Value} {vs : List V} {ks : List (Int × Int)} {P : PySem.Fin → Shared → Prop} {E : Value → Shared → Prop}
/-- the end of the sort: keys let go, the list filled -/
theorem sortK_tail {A : Around} {kA : Array Value} {e : Nat} {st : SortSt} {ps : List ((Int × Int) × V)} (I : Inv X (pins ++ [(D, seqObj "list" #[] e1), (kS, seqObj "list" kA e)]) σ H s) (mD : Mine X pins D) (mK : Mine X pins kS) (hne : kS ≠ D)
    (hf : failedOf st = none) (hk : kA.size ≤ sizeLine) (ho : ((arrOf st).map (·.2)).size ≤ sizeLine) (rv : Vals (ps.map (·.2)) ((arrOf st).map (·.2)).toList)
    (done : ∀ s', Inv X pins σ (upd H D (.lst (ps.map (·.2)))) s' → P (.done (.ret .none)) s') : wpAny (model X.prog X.w) A (ksk_tail D false e1 (.ref kS) st) P E s := by
  obtain ⟨gD, nD⟩ := pinned I (p := (D, seqObj "list" #[] e1)) (by simp)
  obtain ⟨gK, nK⟩ := pinned I (p := (kS, seqObj "list" kA e)) (by simp)
  have I0 := unpin I
  unfold ksk_tail
  dsimp only
  refine wpAny_bind (listUpdate_at gK rfl ?_ hk (Nat.zero_le _))
  refine wpAny_bind (wpAny_letGo ?_)
  have gD1 : (s.heap.update kS (Obj.mapSeq fun _ => (#[] : Array Value))).get? D = some (seqObj "list" #[] e1) := (Heap.get?_update_other _ _ hne).trans gD
  refine wpAny_bind (seqEpoch_at gD1 rfl ?_)
  refine wpAny_bind (listUpdate_at gD1 rfl ?_ (Nat.zero_le _) (Nat.le_succ_of_le (show ((arrOf st).map (·.2)).size ≤ sizeLine from ho)))
  rw [hf]
  simp only [bne_self_eq_false, Bool.false_eq_true, if_false]
  obtain ⟨c2, gD2⟩ : ∃ c2, ((s.heap.update kS (Obj.mapSeq fun _ => (#[] : Array Value))).update D (Obj.mapSeq fun _ => (arrOf st).map (·.2))).get? D = some (seqObj "list" ((arrOf st).map (·.2)) c2) := ⟨_, get?_update_seq gD1 fun _ => (arrOf st).map (·.2)⟩
  have I1 : Inv X pins σ H { s with heap := s.heap.update kS (Obj.mapSeq fun _ => (#[] : Array Value)), toks := s.toks } := I0.turned (it := kS) (fun b o hb q => (Heap.get?_update_other _ _ (Ne.symm hb)).trans q) nK mK.loc mK.ex mK.cel mK.pn
  have I2 := Inv.turned (h' := (s.heap.update kS (Obj.mapSeq fun _ => (#[] : Array Value))).update D (Obj.mapSeq fun _ => (arrOf st).map (·.2))) (t' := s.toks) (it := D) I1 (fun b o hb q => (Heap.get?_update_other _ _ (Ne.symm hb)).trans q) nD mD.loc mD.ex mD.cel mD.pn
  refine wpAny_pure (done _ (adopt I2 mD nD ⟨?_, ((arrOf st).map (·.2)).toList, c2, rv, ?_⟩))
  · rw [rv.length, Array.length_toList]; exact ho
  · show _ = some ({ cls := .type "list", data := .seq (((arrOf st).map (·.2)).toList).toArray c2 } : Obj)
    rw [Array.toArray_toList]
    exact gD2
/-- keys are made, one behind another; then sorted -/
theorem sortK_rest {A : Around} (hA : A = X.A.in1.in1) (I : Inv X (pins ++ [(D, seqObj "list" #[] e1), (kS, seqObj "list" #[] 0)]) σ H s) (mD : Mine X pins D) (mK : Mine X pins kS) (hne : kS ≠ D)
    (rv : Vals vs its) (h64 : vs.length < 64) (hlen : ks.length = vs.length) (F : FnOk X.prog X.w X.K X.mg X.base CX0 k f fd [pr] sp) (hr : Room (k + 2) X.A) (hb : Binds X.K fd [pr] [])
    (turn : ∀ (i : Nat) (v : V) (z : Int × Int), vs[i]? = some v → ks[i]? = some z → ∀ (H' : Hp), Same H H' → ∀ Q' : VK, (∀ (H'' : Hp) (q : Addr), Same H' H'' → H'' q = some (.tup [.int z.1, .int z.2]) → Q' (.ref q) H'') → sp [v] H' Q' E0)
    (done : ∀ (ps : List ((Int × Int) × V)) (H' : Hp) (s' : Shared), Same H H' → H' D = none → ps.Perm (ks.zip vs) → ps.Pairwise PLe → Inv X pins σ (upd H' D (.lst (ps.map (·.2)))) s' → P (.done (.ret .none)) s') :
    wpAny (model X.prog X.w) A (ksk_rest D (.ref f) false its.toArray e1 (.ref kS)) P E s := by
  have hil := rv.length
  have hz : sizeLine = 16777216 := sizeLine_eq
  unfold ksk_rest
  refine wpAny_bind (wpAny_rule ?_)
  first
    | rw [List.forIn_toArray]
    | (rw [← Array.forIn_toList]; simp only [List.toList_toArray])
  refine wpAny_bind (ksk_fold (fun i s' => ∃ (H' : Hp) (kA : Array Value) (e : Nat), Inv X (pins ++ [(D, seqObj "list" #[] e1), (kS, seqObj "list" kA e)]) σ H' s' ∧ Same H H' ∧ Paired (KeyAt H') (ks.take i) kA.toList) its 0 s
    ⟨H, #[], 0, I, Same.refl H, by simpa using Paired.nil⟩ ?step ?fin)
  case step =>
    rintro j x s' hx ⟨H', kA, e, I', sm, kp⟩
    simp only [Nat.zero_add] at kp ⊢
    have hj : j < its.length := (List.getElem?_eq_some_iff.mp hx).1
    obtain ⟨v, hv⟩ : ∃ v, vs[j]? = some v := ⟨_, List.getElem?_eq_getElem (by omega)⟩
    obtain ⟨z, hzj⟩ : ∃ z, ks[j]? = some z := ⟨_, List.getElem?_eq_getElem (by omega)⟩
    obtain ⟨x', hx', rx⟩ := rv.get hv
    have ex : x' = x := Option.some.inj (hx'.symm.trans hx)
    subst ex
    have hksz : kA.size ≤ 64 := by
      have q := Paired.length kp
      have q2 : (ks.take j).length ≤ j := by rw [List.length_take]; exact Nat.min_le_left _ _
      have q3 : kA.toList.length = kA.size := Array.length_toList
      omega
    have hroom : Room k A := by rw [hA]; exact (hr.in1).in1
    have henv : Env0 X.prog X.w X.K X.mg X.base A X.stack s' H' := by rw [hA]; exact I'.env0.in1.in1
    refine wpAny_bind (wpAny_attempt ?_)
    refine wpAny_call (codeAny_mono (F.run A X.stack s' H' ⟨[x'], []⟩ [x'] [v] (fun y H'' => ∃ q, y = .ref q ∧ Same H' H'' ∧ H'' q = some (.tup [.int z.1, .int z.2])) E0 hroom henv (hb s' [x'] I'.kIn rfl) (.cons rx .nil)
      (turn j v z hv hzj H' sm _ fun H'' q a b => ⟨q, rfl, a, b⟩)) fun r s'' hq => ?_)
    cases r with
    | error e => exact False.elim hq
    | ok fl =>
      cases fl with
      | next => exact False.elim hq
      | brk => exact False.elim hq
      | cont => exact False.elim hq
      | ret u =>
        obtain ⟨y, H'', I'', ry, q, ey, sm2, hq2⟩ := I'.after hq
        subst ey
        cases ry
        obtain ⟨gD, nD⟩ := pinned I'' (p := (D, seqObj "list" #[] e1)) (by simp)
        obtain ⟨gK, nK⟩ := pinned I'' (p := (kS, seqObj "list" kA e)) (by simp)
        obtain ⟨c2, gK2⟩ : ∃ c2, (s''.heap.update kS (Obj.mapSeq (·.push (.ref q)))).get? kS = some (seqObj "list" (kA.push (.ref q)) c2) := ⟨_, get?_update_seq gK (·.push (.ref q))⟩
        show wpAny _ _ (do let _ ← Builtin.List.listUpdate (.ref kS) (·.push (.ref q)); pure (ForInStep.yield PUnit.unit)) _ _ s''
        refine wpAny_bind (listUpdate_at gK rfl ?_ (by omega) (by rw [Array.size_push]; omega))
        have I2 : Inv X pins σ H'' { s'' with heap := s''.heap.update kS (Obj.mapSeq (·.push (.ref q))), toks := s''.toks } :=
          (unpin I'').turned (it := kS) (fun b o hb' e' => (Heap.get?_update_other _ _ (Ne.symm hb')).trans e') nK mK.loc mK.ex mK.cel mK.pn
        refine wpAny_pure ⟨rfl, H'', kA.push (.ref q), c2, pin_two I2 mD mK ((Heap.get?_update_other _ _ hne).trans gD) gK2 nD nK seq_no_cell seq_no_cell, sm.trans sm2, ?_⟩
        have et : ks.take (j + 1) = ks.take j ++ [z] := by rw [List.take_add_one, hzj]; rfl
        rw [et, Array.toList_push]
        exact paired_snoc ⟨q, rfl, hq2⟩ (paired_keep sm2 kp)
  case fin =>
    rintro s' ⟨H', kA, e, I', sm, kp⟩
    have e3 : ks.take (0 + its.length) = ks := List.take_of_length_le (by omega)
    rw [e3] at kp
    have hkl : ks.length = kA.size := (Paired.length kp).trans Array.length_toList
    obtain ⟨gD, nD⟩ := pinned I' (p := (D, seqObj "list" #[] e1)) (by simp)
    obtain ⟨gK, nK⟩ := pinned I' (p := (kS, seqObj "list" kA e)) (by simp)
    obtain ⟨zd, zg⟩ := zip_dec I'.hok kp rv hlen
    have hzl : (kA.zip its.toArray).toList = kA.toList.zip its := by simp
    have hzs : (kA.zip its.toArray).size = vs.length := by
      have q1 : its.toArray.size = its.length := List.size_toArray
      rw [Array.size_zip]
      omega
    -- what is left once the pairs are sorted
    have rest : ∀ st : SortSt, (arrOf st).Perm (kA.zip its.toArray) → failedOf st = none → SortedToK (G.tupKindC s'.heap sh0) (arrOf st) vs.length → wpAny (model X.prog X.w) A (ksk_tail D false e1 (.ref kS) st) P E s' := fun st hp hf hs => by
      have hpl : (arrOf st).toList.Perm (kA.toList.zip its) := by rw [← hzl]; exact Array.perm_iff_toList_perm.mp hp
      obtain ⟨r1, r2⟩ := sorted_read (h := s'.heap) (arr := arrOf st) rfl (fun p hm => zg p (hpl.mem_iff.mp hm)) hs (hp.size_eq.trans hzs)
      refine sortK_tail I' mD mK hne hf (by omega) (by rw [Array.size_map, hp.size_eq, hzs]; omega) r2 fun s'' I'' => done _ H' s'' sm nD ?_ r1 I''
      rw [← zd]
      exact hpl.map _
    refine wpAny_bind (listItems_at gK rfl ?_)
    unfold ksk_end
    dsimp only
    simp only [Bool.false_eq_true, if_false]
    by_cases h2 : its.toArray.size < 2
    · rw [if_pos h2, if_pos h2]
      refine wpAny_bind (wpAny_pure ?_)
      rw [StateT.run_pure]
      refine wpAny_bind (wpAny_pure ?_)
      refine rest _ (Array.Perm.refl _) rfl fun i j hij hj => ?_
      rw [List.size_toArray] at h2
      have : i = j := by omega
      subst this
      exact KeyOrd.kle_refl _
    · rw [if_neg h2, if_neg h2]
      rw [List.size_toArray] at h2
      obtain ⟨fs, ht, hfl⟩ := keys_heap I'.hok kp
      have hfl : fs.length = kA.size := hfl.trans Array.length_toList
      have ht' : TupsOf s'.heap sh0 kA.toList fs := ht
      have hkind : ∀ {Q : SortKind → Shared → Prop}, Q (tuples' true) s' → wpAny (model X.prog X.w) A (keyKind' kA) Q E s' := fun hq => by
        have q := tup_kind (M := model X.prog X.w) (A := A) (E := E) (s := s') (by omega) ht' hq
        simpa using q
      refine wpAny_bind (hkind ?_)
      refine wpAny_bind (wpAny_mono (G.wpS_sortRunsSt (κ := G.tupKindC s'.heap sh0) (kd := tuples' true) (a₀ := kA.zip its.toArray) (st := SortSt.mk' (tuples' true) (kA.zip its.toArray) #[] 7 none)
        (Q := fun _ st' => (arrOf st').Perm (kA.zip its.toArray) ∧ failedOf st' = none ∧ SortedToK (G.tupKindC s'.heap sh0) (arrOf st') (kA.zip its.toArray).size)
        (G.tupC_ltAt (s := s') true (G.KeepsTups.refl _)) (fun p hp => ?_) ⟨Array.Perm.refl _, rfl, rfl⟩ rfl (Stable.refl _) (by rw [hzs]; omega) fun st' a1 a2 a3 _ => ⟨a1, a2, a3⟩) ?_ fun _ _ q => q)
      · rw [hzl] at hp
        obtain ⟨z, v, e4, _⟩ := zg p hp
        exact ⟨_, e4⟩
      · rintro ⟨⟨⟩, st'⟩ s'' ⟨rfl, hp, hf, hs⟩
        dsimp only
        rw [hzs] at hs
        exact rest st' hp hf hs
/-- list.sort with a key -/
theorem sortK_tree {A : Around} (hA : A = X.A.in1.in1) {n : Nat} (I : Inv X pins σ H s) (mD : Mine X pins D) (hD : s.heap.get? D = some (seqObj "list" its.toArray n)) (nD : H D = none)
    (rv : Vals vs its) (h64 : vs.length < 64) (hlen : ks.length = vs.length) (F : FnOk X.prog X.w X.K X.mg X.base CX0 k f fd [pr] sp) (hr : Room (k + 2) X.A) (hb : Binds X.K fd [pr] [])
    (turn : ∀ (i : Nat) (v : V) (z : Int × Int), vs[i]? = some v → ks[i]? = some z → ∀ (H' : Hp), Same H H' → ∀ Q' : VK, (∀ (H'' : Hp) (q : Addr), Same H' H'' → H'' q = some (.tup [.int z.1, .int z.2]) → Q' (.ref q) H'') → sp [v] H' Q' E0)
    (done : ∀ (ps : List ((Int × Int) × V)) (H' : Hp) (s' : Shared), Same H H' → H' D = none → ps.Perm (ks.zip vs) → ps.Pairwise PLe → Inv X pins σ (upd H' D (.lst (ps.map (·.2)))) s' → P (.done (.ret .none)) s') :
    wpAny (model X.prog X.w) A (ksk_tree D (.ref f) false) P E s := by
  have hil := rv.length
  have hz : sizeLine = 16777216 := sizeLine_eq
  unfold ksk_tree
  refine wpAny_bind (listItems_at hD rfl ?_)
  refine wpAny_bind (listUpdate_at hD rfl ?_ (by rw [List.size_toArray]; omega) (Nat.zero_le _))
  obtain ⟨e1, hD1⟩ : ∃ e1, (s.heap.update D (Obj.mapSeq fun _ => (#[] : Array Value))).get? D = some (seqObj "list" #[] e1) := ⟨_, get?_update_seq hD fun _ => #[]⟩
  refine wpAny_bind (seqEpoch_at hD1 rfl ?_)
  refine wpAny_bind (wpAny_newTuple ?_ (by show its.length ≤ _; omega))
  refine wpAny_bind (wpAny_newList ?_ (Nat.zero_le _))
  refine wpAny_holding ?_
  have I1 : Inv X pins σ H { s with heap := s.heap.update D (Obj.mapSeq fun _ => (#[] : Array Value)), toks := s.toks } := I.turned (it := D) (fun b o hb' q => (Heap.get?_update_other _ _ (Ne.symm hb')).trans q) nD mD.loc mD.ex mD.cel mD.pn
  have I2 : Inv X pins σ H { s with heap := (s.heap.update D (Obj.mapSeq fun _ => (#[] : Array Value))).push { cls := .type "tuple", data := .seq its.toArray }, toks := s.toks } := I1.kept (t' := s.toks) fun b u q => Heap.get?_push_of_some _ q
  have mK := mine_of I2 (Nat.le_refl _)
  have nK := I2.hok.fresh (Nat.le_refl _)
  have I3 : Inv X pins σ H { s with heap := ((s.heap.update D (Obj.mapSeq fun _ => (#[] : Array Value))).push { cls := .type "tuple", data := .seq its.toArray }).push { cls := .type "list", data := .seq #[] }, toks := s.toks } := I2.kept (t' := s.toks) fun b u q => Heap.get?_push_of_some _ q
  have hne : ((s.heap.update D (Obj.mapSeq fun _ => (#[] : Array Value))).push { cls := .type "tuple", data := .seq its.toArray }).objs.size ≠ D := Nat.ne_of_gt (Nat.lt_of_lt_of_le (Heap.lt_size hD1) (by rw [Heap.size_push]; exact Nat.le_succ _))
  exact sortK_rest hA (pin_two I3 mD mK (Heap.get?_push_of_some _ (Heap.get?_push_of_some _ hD1)) (Heap.get?_push_size _ rfl) nD nK seq_no_cell seq_no_cell) mD mK hne rv h64 hlen F hr hb turn done
theorem sortK_run {l : Addr} {Q : VK} (I : Inv X pins σ H s) (hq : SqL X.K H l vs)
    (h64 : vs.length < 64) (hlen : ks.length = vs.length) (F : FnOk X.prog X.w X.K X.mg X.base CX0 k f fd [pr] sp) (hr : Room (k + 2) X.A) (hb : Binds X.K fd [pr] [])
    (turn : ∀ (i : Nat) (v : V) (z : Int × Int), vs[i]? = some v → ks[i]? = some z → ∀ (H' : Hp), Same H H' → ∀ Q' : VK, (∀ (H'' : Hp) (q : Addr), Same H' H'' → H'' q = some (.tup [.int z.1, .int z.2]) → Q' (.ref q) H'') → sp [v] H' Q' E0)
    (done : ∀ (ps : List ((Int × Int) × V)) (H' : Hp) (q : Addr), Same H H' → H q = none → ps.Perm (ks.zip vs) → ps.Pairwise PLe → H' q = some (.lst (ps.map (·.2))) → Q (.ref q) H') :
    wpAny (model X.prog X.w) X.A (call (.builtin "sorted") [.ref l] [(Str.ofString "key", .ref f)]) (EP X pins σ Q) X.xe s := by
  obtain ⟨its, rv, pl, _⟩ := I.list hq
  have hil := rv.length
  have hz : sizeLine = 16777216 := sizeLine_eq
  refine call_function_entry_kw kind_sorted plain_sorted entry_sorted (ksk_s1 _ _) ?_
  unfold Builtin.«sorted»
  refine wpAny_bind (m := checkCount "sorted" 1 1 _) (wpAny_pure ?_)
  refine wpAny_bind (collect_list pl.isList ?_ (by omega))
  refine wpAny_bind (wpAny_newList ?_ (by omega))
  have hnew : (s.heap.push (seqObj "list" #[] 0)).get? s.heap.objs.size = some (seqObj "list" #[] 0) := Heap.get?_push_size _ rfl
  have I1 : Inv X pins σ H { s with heap := s.heap.push (seqObj "list" #[] 0), toks := s.toks } := I.kept (t' := s.toks) fun b u q => Heap.get?_push_of_some _ q
  have m0 := mine_of I (Nat.le_refl _)
  have I2 := Inv.turned (h' := (s.heap.push (seqObj "list" #[] 0)).update s.heap.objs.size (Obj.mapSeq (· ++ its.toArray))) (t' := s.toks) (it := s.heap.objs.size) I1 (fun b o hb' q => (Heap.get?_update_other _ _ (Ne.symm hb')).trans q) (I.hok.fresh (Nat.le_refl _)) m0.loc m0.ex m0.cel m0.pn
  have hoL := Heap.get?_push_size ((s.heap.push (seqObj "list" #[] 0)).update s.heap.objs.size (Obj.mapSeq (· ++ its.toArray))) (o := seqObj "list" its.toArray 0) rfl
  have I3 : Inv X pins σ H { s with heap := ((s.heap.push (seqObj "list" #[] 0)).update s.heap.objs.size (Obj.mapSeq (· ++ its.toArray))).push (seqObj "list" its.toArray 0), toks := s.toks } := I2.kept (t' := s.toks) fun b u q => Heap.get?_push_of_some _ q
  have mD := mine_of I2 (Nat.le_refl _)
  have nD := I2.hok.fresh (Nat.le_refl _)
  refine wpAny_bind (wpAny_holding (wpAny_call_entry_kw slot_list_sort ⟨_, hoL, rfl⟩ entry_list_sort ?body (ksk_l1 _ _)))
  case body =>
    rw [ksk_t1]
    refine sortK_tree rfl I3 mD hoL nD rv h64 hlen F hr hb turn fun ps H' s' sm n' p1 p2 I' => ⟨_, rfl, wpAny_pure ⟨_, rfl, ?_⟩⟩
    refine ⟨.ref _, _, I', rfl, done ps _ _ (fun b o e => ?_) nD p1 p2 upd_same⟩
    rw [upd_ne (ne_of_none (sm b o e) n')]
    exact sm b o e
end
end Ct
end
section
set_option Elab.async false
set_option linter.all false
set_option maxRecDepth 100000
set_option maxHeartbeats 4000000
namespace Ct
open PySem PySem.Spec PyProof.Rows L2

/-! ### max(xs, default=d) -/
theorem args_maxd (a v : Value) : argsOk "max" ⟨[a], [(Str.ofString "default", v)]⟩ := by unfold argsOk; kernel_rfl
section
variable {prog : Program} {w : World} {A : Around} {R : Result → Shared → Prop} {I : Addr} {fp wr : List Addr} {n : Nat} {P : Nat → Value → Prop} {Sx : Nat → Heap → Prop}
theorem maxd_on (W : Walks prog w A.in1 I fp wr n P Sx) (bt : Nat → Nat → Bool) (hc : CmpOf prog w A.in1 .Gt P bt) (B : Addr) (hB : B ∉ fp) (kw : List (Str × Value)) :
    ∀ (k j : Nat) (s : Shared) (vb : Value) (c : Nat), j + 1 + k = n → Sx (j + 1) s.heap → P (argBest bt j) vb → s.heap.get? B = some (seqObj "list" #[vb, vb] c) →
    (∀ v h' tk, P (argBest bt (n - 1)) v → (∀ b o, b ∉ wr → b ≠ B → s.heap.get? b = some o → h'.get? b = some o) → R (.ok (.ret v)) { s with heap := h', toks := tk }) →
    codeAny (model prog w) A (.builtin "max.loop" ⟨[.ref I, .none, .ref B], kw⟩) R s := by
  have hBw : B ∉ wr := fun q => hB (W.sub _ q)
  have hnm : (toString "max" ++ toString ".loop" : String) = "max.loop" := by decide
  intro k
  induction k with
  | zero =>
    intro j s vb c hk hx hPb gB fin
    refine codeAny_builtin PySem.F.entry_max_loop ?_
    rw [Around.under_plainId PySem.F.plain_max_loop _]
    show wpAny _ A.in1 (seqItems? (.ref B) >>= _) _ _ s
    refine wpAny_bind (wpAny_seqItems gB rfl ?_)
    show wpAny _ A.in1 (tryCatch (pyNext (.ref I)) _ >>= _) _ _ s
    refine wpAny_bind (wpAny_tryCatch (W.done s _ _ (by have e : j + 1 = n := by omega
                                                        exact e ▸ hx) fun h' tk kp => ?_))
    have gB' := kp B _ hBw gB
    show wpAny _ A.in1 (updateSeq B (fun _ => #[]) >>= _) _ _ _
    refine wpAny_bind (wpAny_updateSeq gB' rfl (wpAny_bind (wpAny_letGo (wpAny_pure ?_))))
    refine fin vb _ tk (by have e : n - 1 = j := by omega
                           rw [e]; exact hPb) fun b o h1 h2 e => (Heap.get?_update_other _ _ (Ne.symm h2)).trans (kp b o h1 e)
  | succ k ih =>
    intro j s vb c hk hx hPb gB fin
    refine codeAny_builtin PySem.F.entry_max_loop ?_
    rw [Around.under_plainId PySem.F.plain_max_loop _]
    show wpAny _ A.in1 (seqItems? (.ref B) >>= _) _ _ s
    refine wpAny_bind (wpAny_seqItems gB rfl ?_)
    show wpAny _ A.in1 (tryCatch (pyNext (.ref I)) _ >>= _) _ _ s
    refine wpAny_bind (wpAny_tryCatch (W.item (j + 1) s _ _ (by omega) hx fun v h' tk hP hx' kp => ?_))
    have gB' := kp B _ hBw gB
    show wpAny _ A.in1 (tryCatch (holding [v, v] (richCompare .Gt v vb >>= _)) _ >>= _) _ _ _
    refine wpAny_bind (wpAny_tryCatch (wpAny_holding (wpAny_bind (hc (j + 1) (argBest bt j) v vb _ _ _ hP hPb ?_))))
    refine wpAny_bind (wpAny_holding (wpAny_truthy_bool (wpAny_bind (wpAny_letGo (wpAny_pure ?_)))))
    cases hbt : bt (j + 1) (argBest bt j) with
    | true =>
      simp only [if_true]
      refine wpAny_bind (wpAny_updateSeq gB' rfl (wpAny_bind (wpAny_letGo ?_)))
      rw [hnm]
      refine wpAny_pure ⟨plainId_quiet PySem.F.plain_max_loop _, ih (j + 1) _ v _ (by omega) (W.frame _ _ _ hx' fun b hb o e => ?_) (by simp only [argBest, hbt, if_true]; exact hP) (Heap.get?_update_self _ gB' rfl) fun v' h2 tk2 hP' kp2 => ?_⟩
      · exact (Heap.get?_update_other _ _ (fun z : B = b => hB (by rw [z]; exact hb))).trans e
      · exact fin v' h2 tk2 hP' fun b o h1 h3 e => kp2 b o h1 h3 ((Heap.get?_update_other _ _ (Ne.symm h3)).trans (kp b o h1 e))
    | false =>
      simp only [Bool.false_eq_true, if_false]
      refine wpAny_bind (wpAny_letGo ?_)
      rw [hnm]
      refine wpAny_pure ⟨plainId_quiet PySem.F.plain_max_loop _, ih (j + 1) _ vb c (by omega) hx' (by simp only [argBest, hbt, Bool.false_eq_true, if_false]; exact hPb) gB' fun v' h2 tk2 hP' kp2 => ?_⟩
      exact fin v' h2 tk2 hP' fun b o h1 h3 e => kp2 b o h1 h3 (kp b o h1 e)
end
section
variable {prog : Program} {w : World} {A : Around} {E : Value → Shared → Prop} {s : Shared} {Q : Value → Shared → Prop}
/-- a built-in function called with keywords, by its tree -/
theorem call_treeK {id : String} {b : Builtin} {args : List Value} {kw : List (Str × Value)} (hk : builtinKind id = none) (hp : plainId id = true) (hb : entryFor table id = some b) (ha : argsOk id ⟨args, kw⟩)
    (hc : wpAny (model prog w) A.in1 (b ⟨args, kw⟩) (fun fin s' => match fin with
      | .done f => (match (Except.ok f : Result) with | .ok (.ret v) => Q v s' | .ok _ => False | .error e => E e s')
      | .again c' => c'.quiet = true ∧ codeAny (model prog w) A c' (fun r s' => match r with | .ok (.ret v) => Q v s' | .ok _ => False | .error e => E e s') s') E s) : wpAny (model prog w) A (call (.builtin id) args kw) Q E s := by
  refine wpAny_call (codeAny_call_builtin hp hb ?_)
  simp only [checkBuiltinCall, hk]
  cases hsig : Manifest.signature? id with
  | none => exact wpAny_pure hc
  | some sig =>
    have ha' : Bind.checkArgs id sig ⟨args, kw⟩ = pure () := by simpa only [argsOk, hsig] using ha
    simp only [ha']
    exact wpAny_pure hc
theorem maxd_list {l : Addr} {xs : Array (Int × Tok)} {d : Int} {t : Tok} (hh : A.handled = none) (hl : s.heap.IsList l (intItems xs))
    (h0 : xs.size = 0 → ∀ h' tk, (∀ b o, s.heap.get? b = some o → h'.get? b = some o) → Q (.int d t) { s with heap := h', toks := tk })
    (h1 : 0 < xs.size → ∀ v h' tk, (intItems xs)[argBest (fun i j => decide (numAt xs i > numAt xs j)) (xs.size - 1)]? = some v → (∀ b o, s.heap.get? b = some o → h'.get? b = some o) → Q v { s with heap := h', toks := tk }) :
    wpAny (model prog w) A (call (.builtin "max") [.ref l] [(Str.ofString "default", .int d t)]) Q E s := by
  have hnm : (toString "max" ++ toString ".loop" : String) = "max.loop" := by decide
  refine call_treeK PySem.F.kind_max PySem.F.plain_max PySem.F.entry_max (args_maxd _ _) ?_
  show wpAny _ A.in1 (Builtin.Builtins.bindParams "max" ["key", "default"] 0 ⟨[], [(Str.ofString "default", .int d t)]⟩ >>= _) _ _ s
  refine wpAny_bind (wpAny_of_eq (show Builtin.Builtins.bindParams "max" ["key", "default"] 0 ⟨[], [(Str.ofString "default", .int d t)]⟩ = pure [none, some (.int d t)] from rfl) ?_)
  refine wpAny_bind (wpAny_pure (wpAny_bind (iter_intList hl fun s₂ e st hfp hne => ?_)))
  subst e
  refine wpAny_bind (wpAny_newObj_type ?_)
  rw [hnm]
  have W := Walks.list (prog := prog) (w := w) (A := A.in1) (show A.in1.handled = none from hh) s.heap.objs.size l hne (intItems xs)
  have hsz : (intItems xs).size = xs.size := by simp [intItems]
  have hBf : (s.heap.push { cls := .type "list_iterator", data := .fields #[.ref l, .int 0 0] }).objs.size ∉ [s.heap.objs.size, l] := fun q => Nat.lt_irrefl _ (hfp _ q)
  have hBw : (s.heap.push { cls := .type "list_iterator", data := .fields #[.ref l, .int 0 0] }).objs.size ∉ [s.heap.objs.size] := fun q => hBf (W.sub _ q)
  have st' := W.frame 0 _ ((s.heap.push { cls := .type "list_iterator", data := .fields #[.ref l, .int 0 0] }).push { cls := .type "list", data := .seq #[] }) st fun b _ o e => Heap.get?_push_of_some _ e
  have gB : ((s.heap.push { cls := .type "list_iterator", data := .fields #[.ref l, .int 0 0] }).push { cls := .type "list", data := .seq #[] }).get? (s.heap.push { cls := .type "list_iterator", data := .fields #[.ref l, .int 0 0] }).objs.size = some (seqObj "list" #[] 0) := Heap.get?_push_size _ rfl
  have old : ∀ {h' : Heap}, (∀ b o, b ∉ [s.heap.objs.size] → b ≠ (s.heap.push { cls := .type "list_iterator", data := .fields #[.ref l, .int 0 0] }).objs.size → ((s.heap.push { cls := .type "list_iterator", data := .fields #[.ref l, .int 0 0] }).push { cls := .type "list", data := .seq #[] }).get? b = some o → h'.get? b = some o) →
      ∀ b o, s.heap.get? b = some o → h'.get? b = some o := fun kp b o e => by
    have hb := Heap.lt_size e
    refine kp b o (fun q => ?_) (fun q => ?_) (Heap.get?_push_of_some _ (Heap.get?_push_of_some _ e))
    · rw [List.mem_singleton.mp q] at hb
      exact Nat.lt_irrefl _ hb
    · have z := Nat.lt_of_lt_of_le hb (Nat.le_of_lt (Nat.lt_of_lt_of_eq (Nat.lt_succ_self _) (Heap.size_push s.heap { cls := .type "list_iterator", data := .fields #[.ref l, .int 0 0] }).symm))
      rw [q] at z
      exact Nat.lt_irrefl _ z
  refine wpAny_pure ⟨plainId_quiet PySem.F.plain_max_loop _, codeAny_builtin PySem.F.entry_max_loop ?_⟩
  rw [Around.under_plainId PySem.F.plain_max_loop _]
  show wpAny _ A.in1 (seqItems? (.ref _) >>= _) _ _ _
  refine wpAny_bind (wpAny_seqItems gB rfl ?_)
  show wpAny _ A.in1 (tryCatch (pyNext (.ref _)) _ >>= _) _ _ _
  by_cases hz : xs.size = 0
  · refine wpAny_bind (wpAny_tryCatch (W.done _ _ _ (by rw [hsz, hz]; exact st') fun h' tk kp => ?_))
    show wpAny _ A.in1 (rule _ >>= fun _ => ret (.int d t)) _ _ _
    refine wpAny_bind (wpAny_rule (wpAny_pure (h0 hz h' tk (old fun b o q1 q2 e => kp b o q1 e))))
  · refine wpAny_bind (wpAny_tryCatch (W.item 0 _ _ _ (by omega) st' fun v h' tk hP hx' kp => ?_))
    have gB' := kp _ _ hBw gB
    show wpAny _ A.in1 (updateSeq _ (fun _ => #[v, v]) >>= _) _ _ _
    refine wpAny_bind (wpAny_updateSeq gB' rfl ?_)
    rw [hnm]
    refine wpAny_pure ⟨plainId_quiet PySem.F.plain_max_loop _, maxd_on W (fun i j => decide (numAt xs i > numAt xs j)) (CmpOf.ints_gt (numAt xs) fun _ _ => intItems_at) _ hBf _ (xs.size - 1) 0 _ v _ (by omega) (W.frame _ _ _ hx' fun b hb o e => ?_) hP (Heap.get?_update_self _ gB' rfl) fun v' h2 tk2 hP' kp2 => ?_⟩
    · exact (Heap.get?_update_other _ _ (fun z => hBf (by rw [z]; exact hb))).trans e
    · rw [hsz] at hP'
      exact h1 (by omega) v' h2 tk2 hP' (old fun b o q1 q2 e => kp2 b o q1 q2 ((Heap.get?_update_other _ _ (Ne.symm q2)).trans (kp b o q1 e)))
end

section
variable {X : Cx} {e : Expr} {te : TE} {p p2 pos kpos : Pos} {fn : Str} {f k : Nat} {fd : FuncData} {pr : Str} {sp : Sp}
/-- sorted(e, key=f) -/
def tSortK (K : PySem.W.Frag) (sp : Sp) (te : TE) : TE := fun σ H Q => te σ H fun x H1 => ∃ (l : Addr) (vs : List V) (ks : List (Int × Int)), x = .ref l ∧ SqL K H1 l vs ∧ vs.length < 64 ∧ ks.length = vs.length ∧
  (∀ (i : Nat) (v : V) (z : Int × Int), vs[i]? = some v → ks[i]? = some z → ∀ (H' : Hp), Same H1 H' → ∀ Q' : VK, (∀ (H'' : Hp) (q : Addr), Same H' H'' → H'' q = some (.tup [.int z.1, .int z.2]) → Q' (.ref q) H'') → sp [v] H' Q' E0) ∧
  ∀ (ps : List ((Int × Int) × V)) (H' : Hp) (q : Addr), Same H1 H' → H1 q = none → ps.Perm (ks.zip vs) → ps.Pairwise PLe → H' q = some (.lst (ps.map (·.2))) → Q (.ref q) H'
theorem pe_sortedK (hg : Gl X "sorted") (hm : X.mg "sorted" = none) (he : PE X e te) (hgf : Gl X fn) (hmf : X.mg fn = some (.ref f)) (F : FnOk X.prog X.w X.K X.mg X.base CX0 k f fd [pr] sp) (hr : Room (k + 2) X.A) (hb : L2.Binds X.K fd [pr] [])
    (hdb : (fn == ("__debug__" : Str)) = false := by decide) (hs : starEach [e] X.env = [(false, eval e X.env)] := by rfl) (hpl : (backTo pos (starEach [e] X.env)).any (·.1) = false := by rfl) :
    PE X (.Call (.Name "sorted" p) [e] [⟨some "key", .Name fn p2, kpos⟩] pos) (tSortK X.K sp te) := by
  intro pins s σ H Q I h
  refine wpAny_Call_Name_kw (ld_blt I hg hm boot_sorted ?_)
  have h1 : tCons te tNil σ H (fun us H1 => match us with
    | [x] => ∃ (l : Addr) (vs : List V) (ks : List (Int × Int)), x = .ref l ∧ SqL X.K H1 l vs ∧ vs.length < 64 ∧ ks.length = vs.length ∧
      (∀ (i : Nat) (v : V) (z : Int × Int), vs[i]? = some v → ks[i]? = some z → ∀ (H' : Hp), Same H1 H' → ∀ Q' : VK, (∀ (H'' : Hp) (q : Addr), Same H' H'' → H'' q = some (.tup [.int z.1, .int z.2]) → Q' (.ref q) H'') → sp [v] H' Q' E0) ∧
      ∀ (ps : List ((Int × Int) × V)) (H' : Hp) (q : Addr), Same H1 H' → H1 q = none → ps.Perm (ks.zip vs) → ps.Pairwise PLe → H' q = some (.lst (ps.map (·.2))) → Q (.ref q) H'
    | _ => False) := h
  refine callWith_kw (thn (pa_cons he pa_nil hs pos pins s σ H _ I h1) fun us s1 ⟨vs, H1, I1, r, q⟩ => ?_) (by rw [hs]; rfl) hpl rfl rfl
  cases r with
  | nil => exact q.elim
  | cons r1 r2 =>
    cases r2 with
    | cons _ _ => exact q.elim
    | nil =>
      obtain ⟨l, vs, ks, rfl, hq, h64, hl, turn, done⟩ := q
      cases r1
      refine thn (pk_cons (nm := some "key") (kpos := kpos) (pe_glob (pos := p2) hgf hmf (v := V.ref f) rfl hdb) pk_nil pos pins s1 σ H1 (fun zs H2 => zs = [.ref f] ∧ H2 = H1) I1 ⟨rfl, rfl⟩) fun ws s2 ⟨zs, H2, I2, rz, e1, e2⟩ => ?_
      subst e1 e2
      cases rz with
      | cons rz1 rz2 =>
        cases rz2
        cases rz1
        exact sortK_run I2 hq h64 hl F hr hb turn done
/-- max(e, default=d) -/
def tMaxD (K : PySem.W.Frag) (d : Int) (te : TE) : TE := fun σ H Q => te σ H fun x H1 => ∃ (l : Addr) (ns : List Int), x = .ref l ∧ SqL K H1 l (ns.map V.int) ∧ (ns = [] → Q (.int d) H1) ∧ ∀ m, m ∈ ns → (∀ y, y ∈ ns → y ≤ m) → Q (.int m) H1
theorem pe_maxd {d : Int} {j : Nat} (hc : X.calm = true) (hg : Gl X "max") (hm : X.mg "max" = none) (he : PE X e te) (hs : starEach [e] X.env = [(false, eval e X.env)] := by rfl) (hpl : (backTo pos (starEach [e] X.env)).any (·.1) = false := by rfl) :
    PE X (.Call (.Name "max" p) [e] [⟨some "default", .Constant (.int d) j p2, kpos⟩] pos) (tMaxD X.K d te) := by
  intro pins s σ H Q I h
  refine wpAny_Call_Name_kw (ld_blt I hg hm boot_max ?_)
  have h1 : tCons te tNil σ H (fun us H1 => match us with
    | [x] => ∃ (l : Addr) (ns : List Int), x = .ref l ∧ SqL X.K H1 l (ns.map V.int) ∧ (ns = [] → Q (.int d) H1) ∧ ∀ m, m ∈ ns → (∀ y, y ∈ ns → y ≤ m) → Q (.int m) H1
    | _ => False) := h
  refine callWith_kw (thn (pa_cons he pa_nil hs pos pins s σ H _ I h1) fun us s1 ⟨vs, H1, I1, r, q⟩ => ?_) (by rw [hs]; rfl) hpl rfl rfl
  cases r with
  | nil => exact q.elim
  | cons r1 r2 =>
    cases r2 with
    | cons _ _ => exact q.elim
    | nil =>
      obtain ⟨l, ns, rfl, hq, h0, hmx⟩ := q
      cases r1
      refine thn (pk_cons (nm := some "default") (kpos := kpos) (pe_int (i := d) (j := j) (pos := p2)) pk_nil pos pins s1 σ H1 (fun zs H2 => zs = [.int d] ∧ H2 = H1) I1 ⟨rfl, rfl⟩) fun ws s2 ⟨zs, H2, I2, rz, e1, e2⟩ => ?_
      subst e1 e2
      cases rz with
      | cons rz1 rz2 =>
        cases rz2
        obtain ⟨t, rfl⟩ := rz1
        obtain ⟨its, rv, pl, _⟩ := I2.list hq
        have hi := rv.ints
        obtain ⟨xs, ex⟩ := hi.allInts.items
        have hn : numsOf (intItems xs).toList = ns := by rw [← ex]; exact hi.numsOf
        rw [nums_intItems] at hn
        subst hn
        have hl := pl.isList
        rw [ex] at hl
        refine maxd_list (I2.ok.hd hc) hl (fun hz h' tk kp => ⟨.int d, _, I2.kept kp, ⟨_, rfl⟩, h0 ?_⟩) fun hz v h' tk hv kp => ?_
        · have : xs.toList = [] := List.eq_nil_of_length_eq_zero (by rw [Array.length_toList]; exact hz)
          rw [this]; rfl
        · obtain ⟨t', rfl⟩ := intItems_at hv
          obtain ⟨a1, a2⟩ := argBest_gt (numAt xs) (xs.size - 1)
          refine ⟨.int _, _, I2.kept kp, ⟨_, rfl⟩, hmx _ ?_ fun a ha => ?_⟩
          · rw [numAt_eq]; exact PySem.getD_mem (by rw [List.length_map, Array.length_toList]; omega)
          · obtain ⟨i, hi', rfl⟩ := mem_getD ha
            rw [List.length_map, Array.length_toList] at hi'
            rw [← numAt_eq]; exact a2 i (by omega)
end

/-! ### d.values(), list(..) of it -/
theorem kv_snd : ∀ {kvs : List (Key × V)} {vs : List (Key × Value)}, KV kvs vs → Vals (kvs.map (·.2)) (vs.map (·.2))
  | _, _, .nil => .nil
  | _, _, .cons r t => .cons r.2 (kv_snd t)
def ViewO (v d : Addr) : HO := .ext fun h => h.IsValuesView v d
section
variable {X : Cx} {e : Expr} {td : TE} {apos cpos : Pos}
def tVals (td : TE) : TE := fun σ H Q => td σ H fun x H1 => ∃ (d : Addr) (kvs : List (Key × V)), x = .ref d ∧ H1 d = some (.dK kvs) ∧ ∀ v, H1 v = none → Q (.ref v) (upd H1 v (ViewO v d))
theorem pe_vals (he : PE X e td) (hbase : attributeBase e "values" X.env (eval e X.env) = eval e X.env := by rfl) (hline : (apos.endLine == cpos.line) = true := by rfl) : PE X (.Call (.Attribute e "values" apos) [] [] cpos) (tVals td) := by
  intro pins s σ H Q I h
  refine wpAny_Call_method (T := "dict") (id := "dict.values") hbase rfl hline PySem.F.plainAttrs_dict PySem.F.slot_dict_values PySem.F.type_dict_values (thn (he pins s σ H _ I h) fun u s1 ⟨x, H1, I1, rx, d, kvs, ex, hd, q⟩ => ?_)
  subst ex
  obtain rfl : u = Value.ref d := rx
  obtain ⟨hz, hs, vs, kv, dd⟩ := dk_of I1.hok hd
  refine ⟨dd.typeIs, dd.mapOf.noDict, ?_⟩
  have hn := I1.hok.fresh (Nat.le_refl s1.heap.objs.size)
  have hget : (s1.heap.push { cls := .type "dict_values", data := .fields #[.ref d] }).get? s1.heap.objs.size = some { cls := .type "dict_values", data := .fields #[.ref d] } := Heap.get?_push_size _ rfl
  have I2 : Inv X pins σ (upd H1 s1.heap.objs.size (ViewO s1.heap.objs.size d)) { s1 with heap := s1.heap.push { cls := .type "dict_values", data := .fields #[.ref d] }, toks := s1.toks } :=
    I1.laid (fun b ob q => Heap.get?_push_of_some _ q) (Nat.le_refl _) ⟨⟨_, hget, rfl, rfl⟩, ⟨_, hget⟩, fun h1 h2 ⟨o, ho, hc, hdt⟩ k => ⟨o, k o ho, hc, hdt⟩⟩
  show wpAny _ _ (callWith cpos (.builtin "dict.values") [.ref d] [] []) _ X.xe s1
  exact method_meetsIn PySem.F.slot_dict_values PySem.F.entry_dict_values rfl (PySem.evalArgs_none ⟨rfl, dd.typeIs, PySem.F.args_dict_values_1 _, _, meets_dict_values (mixKind X.prog X.w) d hs, ⟨vs, dd⟩, ⟨.ref _, _, I2, rfl, q _ hn⟩⟩)
theorem call_list_vals (hcalm : X.calm = true) : CallR X (.type "list") (fun xs H Q => ∃ (v d : Addr) (kvs : List (Key × V)), xs = [.ref v] ∧ H v = some (ViewO v d) ∧ H d = some (.dK kvs) ∧ ∀ l, H l = none → Q (.ref l) (upd H l (.lst (kvs.map (·.2))))) := by
  intro pins s σ H xs us Q I r h
  obtain ⟨v, d, kvs, rfl, hv, hd, q⟩ := h
  obtain ⟨u, rfl, rx⟩ := vals1 r
  cases rx
  obtain ⟨hz, hs, vs, kv, dd⟩ := dk_of I.hok hd
  obtain ⟨view, _, _⟩ := I.hok v _ hv
  obtain ⟨ep, dat⟩ := dd.dictAt
  have hl : kvs.length = vs.length := Paired.length kv
  refine PySem.W.kdl_call (PySem.W.kdl_values (knd := mixKind X.prog X.w) (kvs := vs) (ep := ep) (d := d) (r := v)) (I.ok.hd hcalm) ⟨view, dat⟩ (by omega) fun h' tk acc c kp gB hacc => ?_
  have hn := I.hok.fresh (Nat.le_refl s.heap.objs.size)
  have ev : acc.toList = vs.map (·.2) := PySem.W.kdl_vals_eq acc.toList (by rw [Array.length_toList]; exact hacc.1) fun j x hx => hacc.2 j x (by rw [← Array.getElem?_toList]; exact hx)
  have rv : Vals (kvs.map (·.2)) acc.toList := by
    rw [ev]
    exact kv_snd kv
  refine ⟨.ref _, _, I.laid kp (Nat.le_refl _) (show ObjOk X.prog X.w _ h' _ (.lst (kvs.map (·.2))) from ⟨?_, acc.toList, c, rv, ?_⟩), rfl, q _ hn⟩
  · rw [List.length_map]; exact hz
  · rw [gB]
end

/-! ### set(xs) of ints; len of it -/
section
variable {X : Cx}
theorem call_set_ints (hcalm : X.calm = true) : CallR X (.type "set") (fun xs H Q => ∃ (a : Addr) (ns : List Int), xs = [.ref a] ∧ SqL X.K H a (ns.map V.int) ∧ ns.length ≤ 1000 ∧
    ∀ (p : Addr) (S : Int → Bool), H p = none → Q (.ref p) (upd H p (.set S (firstMet (fun i => ns.getD i 0) ns.length).length))) := by
  intro pins s σ H xs us Q I r h
  obtain ⟨a, ns, rfl, hq, hz, q⟩ := h
  obtain ⟨u, rfl, rx⟩ := vals1 r
  cases rx
  obtain ⟨its, rv, pl, _⟩ := I.list hq
  have hi := rv.ints
  have hl := rv.length
  rw [List.length_map] at hl
  have hsz : its.toArray.size = ns.length := by rw [hl]; exact List.size_toArray
  refine PySem.call_set_list (items := its.toArray) (ns := ns) (I.ok.hd hcalm) pl.isList (by simpa using hi) (by rw [hsz]; unfold scanBound; omega) fun h' tk hS kp => ?_
  rw [hsz] at hS
  exact ⟨.ref _, _, I.laid (fun b o e => kp b o (Heap.lt_size e) e) (Nat.le_refl _) (show ObjOk X.prog X.w _ h' _ (.set _ _) from hS), rfl, q _ _ (I.hok.fresh (Nat.le_refl _))⟩
theorem call_len_sets : CallR X (.builtin "len") (fun xs H Q => ∃ (a : Addr) (S : Int → Bool) (n : Nat), xs = [.ref a] ∧ H a = some (.set S n) ∧ Q (.int n) H) := by
  intro pins s σ H xs us Q I r h
  obtain ⟨a, S, n, rfl, ha, q⟩ := h
  obtain ⟨u, rfl, rx⟩ := vals1 r
  cases rx
  obtain ⟨o, es, ep, t, ho, hex, hd, _, _, hb, hf, hn⟩ := I.hok a _ ha
  have hfit : (es.size : Int) < 2 ^ 63 := by unfold scanBound at hb; omega
  exact call_len_set ho hex hd hf hfit ⟨.int n, H, I.tok _, ⟨_, by rw [hn]⟩, q⟩
end

/-! ### f(e, ..), f held by a local name -/
theorem pe_callV {X : Cx} {x : Str} {p pos : Pos} {e : Expr} {es : List Expr} {t : TA} (i : Nat) (hN : X.N[i]? = some x) (hv : Vis X.env.scope x) (ha : PA X (e :: es) t)
    (hd : (x == ("__debug__" : Str)) = false := by decide) (hcd : (x == ("__classdict__" : Str)) = false := by decide)
    (he : starEach (e :: es) X.env = (false, eval e X.env) :: starEach es X.env := by rfl) (hpl : (backTo pos (starEach es X.env)).any (·.1) = false := by rfl) :
    PE X (.Call (.Name x p) (e :: es) [] pos) (fun σ H Q => ∃ (f : Addr) (k : Nat) (fd : FuncData) (ps : List Str) (sp : Sp), σ[i]? = some (some (.ref f)) ∧ PySem.W.keepIn X.K (.ref f) = true ∧ FnOk X.prog X.w X.K X.mg X.base CX0 k f fd ps sp ∧
      Room k X.A ∧ L2.Binds X.K fd ps [] ∧ t σ H fun vs H1 => sp (vs ++ []) H1 Q E0) := by
  intro pins s σ H Q I h
  obtain ⟨f, k, fd, ps, sp, hf, hk, F, hr, hb, q⟩ := h
  refine wpAny_Call_Name_kw (thn (pe_var (pos := p) hN hv hd hcd pins s σ H (fun v H' => v = .ref f ∧ H' = H) I ⟨_, hf, rfl, rfl⟩) fun u s1 ⟨v, H1, I1, r1, e1, e2⟩ => ?_)
  subst e1 e2
  cases r1
  refine PySem.W.callWith_K (h₀ := X.base) I.ok.mod.kin hk (thn (ha pos pins s1 σ _ _ I1 q) fun us s2 ⟨vs, H2, I2, r, q2⟩ => ⟨I2.kIn, ?_⟩) he hpl
  exact run_fn F hr hb .nil pass0 I2 r q2
end Ct
end
section
set_option Elab.async false
set_option linter.all false
set_option maxRecDepth 100000
set_option maxHeartbeats 4000000
namespace Ct
open PySem PySem.Spec PyProof.Rows L2
open PySem.W (Codec)
/-! ### the text by places -/
def top (i : Nat) : Stmt := PySem.Challenge.pw_cleaningtanks_s01_answers.main.body.getD i (.Pass ⟨0, 0, 0, 0⟩)
abbrev s_Lot_init : Stmt := inClass (top 1) 0
abbrev s_numbers_of : Stmt := top 2
abbrev s_lies_in : Stmt := top 3
abbrev s_lying : Stmt := top 4
abbrev s_two_meet : Stmt := top 5
abbrev s_meeting : Stmt := top 6
abbrev s_most_at_once : Stmt := top 7
abbrev s_may_lie : Stmt := top 8
abbrev s_first_hour : Stmt := top 9
abbrev s_hours_left : Stmt := top 10
abbrev s_plan_order : Stmt := top 11
abbrev s_end_order : Stmt := top 12
abbrev s_least_free_tank : Stmt := top 13
abbrev s_plan_of : Stmt := top 14
abbrev s_taken_by : Stmt := top 15
abbrev s_House_init : Stmt := inClass (top 34) 0
abbrev s_all_lots : Stmt := top 35
abbrev s_has_ended : Stmt := top 36
abbrev s_within : Stmt := top 37
abbrev s_is_hour : Stmt := top 38
abbrev s_is_count_of_hours : Stmt := top 39
abbrev s_refusal_of_lots : Stmt := top 40
abbrev s_lots_of : Stmt := top 41
abbrev s_count_and_these : Stmt := top 42
abbrev s_answer_begin : Stmt := top 43
abbrev s_refusal_of_new_lot : Stmt := top 44
abbrev s_answer_lot : Stmt := top 45
abbrev s_answer_drop : Stmt := top 46
abbrev s_answer_longer : Stmt := top 47
abbrev s_answer_tank : Stmt := top 48
abbrev s_answer_hours : Stmt := top 49
abbrev s_answer_fewest : Stmt := top 50
abbrev s_answer_peak : Stmt := top 51
abbrev s_answer_at : Stmt := top 52
abbrev s_answer_plan : Stmt := top 53
abbrev s_answer_tankof : Stmt := top 54
abbrev s_answer_most : Stmt := top 55
abbrev s_answer_mostof : Stmt := top 56
abbrev s_answer_together : Stmt := top 57
abbrev s_answer_meets : Stmt := top 58
abbrev s_answer_may : Stmt := top 59
abbrev s_answer_first : Stmt := top 60
abbrev s_answer_firstwith : Stmt := top 61
abbrev s_answer_ready : Stmt := top 62
abbrev s_answer_left : Stmt := top 63
abbrev s_answer_busy : Stmt := top 64
abbrev s_answer_look : Stmt := top 65
abbrev s_answer_sums : Stmt := top 66
abbrev s_answer_state : Stmt := top 67
abbrev s_end_of_call : Stmt := top 69
abbrev s_told_to_call : Stmt := top 70
abbrev s_answer_call : Stmt := top 71
abbrev s_answers : Stmt := top 72

/-! ### the two kinds of objects -/
/-- a Lot's attributes -/
def lf (n b e c : Int) : List (Str × V) := [("number", .int n), ("begins", .int b), ("ends", .int e), ("crates", .int c)]
theorem lf_n (n b e c : Int) : (lf n b e c).lookup ("number" : Str) = some (.int n) := rfl
theorem lf_b (n b e c : Int) : (lf n b e c).lookup ("begins" : Str) = some (.int b) := rfl
theorem lf_e (n b e c : Int) : (lf n b e c).lookup ("ends" : Str) = some (.int e) := rfl
theorem lf_c (n b e c : Int) : (lf n b e c).lookup ("crates" : Str) = some (.int c) := rfl
theorem lf_pe (n b e c y : Int) : putF "ends" (.int y) (lf n b e c) = lf n b y c := rfl
/-- a House's attributes -/
def hf (bg : Bool) (tk nd hr ev : Int) (d : Addr) : List (Str × V) := [("begun", .bl bg), ("tanks", .int tk), ("need", .int nd), ("hour", .int hr), ("lots_ever", .int ev), ("lots", .ref d)]
theorem hf_b (bg : Bool) (tk nd hr ev : Int) (d : Addr) : (hf bg tk nd hr ev d).lookup ("begun" : Str) = some (.bl bg) := rfl
theorem hf_t (bg : Bool) (tk nd hr ev : Int) (d : Addr) : (hf bg tk nd hr ev d).lookup ("tanks" : Str) = some (.int tk) := rfl
theorem hf_n (bg : Bool) (tk nd hr ev : Int) (d : Addr) : (hf bg tk nd hr ev d).lookup ("need" : Str) = some (.int nd) := rfl
theorem hf_h (bg : Bool) (tk nd hr ev : Int) (d : Addr) : (hf bg tk nd hr ev d).lookup ("hour" : Str) = some (.int hr) := rfl
theorem hf_e (bg : Bool) (tk nd hr ev : Int) (d : Addr) : (hf bg tk nd hr ev d).lookup ("lots_ever" : Str) = some (.int ev) := rfl
theorem hf_l (bg : Bool) (tk nd hr ev : Int) (d : Addr) : (hf bg tk nd hr ev d).lookup ("lots" : Str) = some (.ref d) := rfl
theorem hf_pb (bg : Bool) (tk nd hr ev : Int) (d : Addr) (y : Bool) : putF "begun" (.bl y) (hf bg tk nd hr ev d) = hf y tk nd hr ev d := rfl
theorem hf_pt (bg : Bool) (tk nd hr ev : Int) (d : Addr) (y : Int) : putF "tanks" (.int y) (hf bg tk nd hr ev d) = hf bg y nd hr ev d := rfl
theorem hf_pn (bg : Bool) (tk nd hr ev : Int) (d : Addr) (y : Int) : putF "need" (.int y) (hf bg tk nd hr ev d) = hf bg tk y hr ev d := rfl
theorem hf_ph (bg : Bool) (tk nd hr ev : Int) (d : Addr) (y : Int) : putF "hour" (.int y) (hf bg tk nd hr ev d) = hf bg tk nd y ev d := rfl
theorem hf_pe (bg : Bool) (tk nd hr ev : Int) (d : Addr) (y : Int) : putF "lots_ever" (.int y) (hf bg tk nd hr ev d) = hf bg tk nd hr y d := rfl
theorem hf_pl (bg : Bool) (tk nd hr ev : Int) (d : Addr) (y : Addr) : putF "lots" (.ref y) (hf bg tk nd hr ev d) = hf bg tk nd hr ev y := rfl
/-- a Lot stands at p: number i, as x tells -/
def LotAt (CL : Addr) (H : Hp) (p : Addr) (i : Nat) (x : Kv349.Lot) : Prop := ∃ dx, H p = some (.ins CL dx (lf i x.from_ x.upto x.crates))
theorem LotAt.keep {CL : Addr} {H H' : Hp} {p : Addr} {i : Nat} {x : Kv349.Lot} (h : LotAt CL H p i x) (k : Same H H') : LotAt CL H' p i x := by
  obtain ⟨dx, e⟩ := h
  exact ⟨dx, k _ _ e⟩
/-- the lots of a, each at its address -/
def LL (CL : Addr) (H : Hp) (a : Kv349.Abs) (adr : Nat → Addr) (ids : List Nat) : Prop := ∀ i ∈ ids, LotAt CL H (adr i) i (a.lot i)
theorem LL.keep {CL : Addr} {H H' : Hp} {a : Kv349.Abs} {adr : Nat → Addr} {ids : List Nat} (h : LL CL H a adr ids) (k : Same H H') : LL CL H' a adr ids := fun i hi => (h i hi).keep k
theorem LL.sub {CL : Addr} {H : Hp} {a : Kv349.Abs} {adr : Nat → Addr} {ids ids' : List Nat} (h : LL CL H a adr ids) (k : ∀ i ∈ ids', i ∈ ids) : LL CL H a adr ids' := fun i hi => h i (k i hi)
def refs (adr : Nat → Addr) (ids : List Nat) : List V := ids.map fun i => V.ref (adr i)
theorem refs_at {adr : Nat → Addr} {ids : List Nat} {j : Nat} {v : V} (h : (refs adr ids)[j]? = some v) : ∃ i, ids[j]? = some i ∧ v = V.ref (adr i) := by
  unfold refs at h
  rw [List.getElem?_map] at h
  cases e : ids[j]? with
  | none => rw [e] at h; cases h
  | some i => rw [e] at h; exact ⟨i, rfl, (Option.some.inj h).symm⟩
theorem refs_len {adr : Nat → Addr} {ids : List Nat} : (refs adr ids).length = ids.length := List.length_map ..
structure Txt (K : PySem.W.Frag) (mg : Str → Option Value) (CL CH : Addr) : Prop where
  clL : Cls K CL
  clH : Cls K CH
  lN : NoAttr K CL "number"
  lB : NoAttr K CL "begins"
  lE : NoAttr K CL "ends"
  lC : NoAttr K CL "crates"
  hB : NoAttr K CH "begun"
  hT : NoAttr K CH "tanks"
  hN : NoAttr K CH "need"
  hH : NoAttr K CH "hour"
  hE : NoAttr K CH "lots_ever"
  hL : NoAttr K CH "lots"
  mgL : mg "Lot" = some (.ref CL)
  mgH : mg "House" = some (.ref CH)
  len : mg "len" = none
  max_ : mg "max" = none
  srt : mg "sorted" = none
  set_ : mg "set" = none
  lst : mg "list" = none
  sum_ : mg "sum" = none
  min_ : mg "min" = none
/-- a def of the text: what a caller wants of it -/
structure Def (P : Program) (w : World) (K : PySem.W.Frag) (mg : Str → Option Value) (base : Heap) (k : Nat) (x : Str) (ps : List Str) (sp : Sp) : Prop where
  ex : ∃ f fd, FnOk P w K mg base CX0 k f fd ps sp ∧ mg x = some (.ref f) ∧ PySem.W.keepIn K (.ref f) = true ∧ L2.Binds K fd ps []
theorem pe_def {X : Cx} {k : Nat} {x : Str} {ps : List Str} {sp : Sp} {p pos : Pos} {e : Expr} {es : List Expr} {t : TA} (D : Def X.prog X.w X.K X.mg X.base k x ps sp) (hr : Room k X.A) (hg : Gl X x) (ha : PA X (e :: es) t)
    (hdb : (x == ("__debug__" : Str)) = false := by decide) (he : starEach (e :: es) X.env = (false, eval e X.env) :: starEach es X.env := by rfl) (hpl : (backTo pos (starEach es X.env)).any (·.1) = false := by rfl) :
    PE X (.Call (.Name x p) (e :: es) [] pos) (fun σ H Q => t σ H fun vs H1 => sp vs H1 Q E0) := by
  obtain ⟨f, fd, F, hm, hk, hb⟩ := D.ex
  intro pins s σ H Q I h
  have e : (fun vs H1 => sp (vs ++ []) H1 Q E0) = fun vs H1 => sp vs H1 Q E0 := by funext vs H1; rw [List.append_nil]
  exact pe_call F hr hg hm hk hb .nil pass0 ha hdb he hpl pins s σ H Q I (by show t σ H fun vs H1 => sp (vs ++ []) H1 Q E0; rw [e]; exact h)
theorem Def.mono {P : Program} {w : World} {K : PySem.W.Frag} {mg : Str → Option Value} {base : Heap} {j k : Nat} {x : Str} {ps : List Str} {sp : Sp} (D : Def P w K mg base j x ps sp) (h : j ≤ k) : Def P w K mg base k x ps sp := by
  obtain ⟨f, fd, F, a, b, c⟩ := D.ex
  exact ⟨f, fd, F.mono h, a, b, c⟩
/-! ### rules with the module's part spelled out (inside a comprehension's block) -/
theorem fldK (K : PySem.W.Frag) {X : Cx} {e : Expr} {f : Str} {pos : Pos} {ta : TE} (he : PE X e ta) (hK : X.K = K := by rfl) (hb : attributeBase e f X.env (eval e X.env) = eval e X.env := by rfl) : PE X (.Attribute e f pos) (tFld K ta f) := by
  subst hK
  exact pe_fld he hb
def tLen (K : PySem.W.Frag) (te : TE) : TE := fun σ H Q => te σ H fun x H1 => ∃ (p : Addr) (ys : List V), x = .ref p ∧ SqL K H1 p ys ∧ Q (.int ys.length) H1
theorem lenK (K : PySem.W.Frag) {X : Cx} {e : Expr} {te : TE} {p pos : Pos} (hm : X.mg "len" = none) (he : PE X e te) (hK : X.K = K := by rfl) (hg : Gl X "len" := by rfl) (hs : starEach [e] X.env = [(false, eval e X.env)] := by rfl) (hpl : (backTo pos (starEach [] X.env)).any (·.1) = false := by rfl) :
    PE X (.Call (.Name "len" p) [e] [] pos) (tLen K te) := by
  subst hK
  intro pins s σ H Q I h
  have h1 : tCons te tNil σ H (fun us H1 => match us with | [x] => ∃ (p : Addr) (ys : List V), x = .ref p ∧ SqL X.K H1 p ys ∧ Q (.int ys.length) H1 | _ => False) := h
  have rule : CallR X (.builtin "len") (fun us H1 Q => match us with | [x] => ∃ (p : Addr) (ys : List V), x = .ref p ∧ SqL X.K H1 p ys ∧ Q (.int ys.length) H1 | _ => False) := by
    intro pins s σ H us ws Q I r q
    match us, q with
    | [x], q =>
      obtain ⟨p, ys, rfl, hq, q⟩ := q
      exact call_len_seq pins s σ H _ ws Q I r ⟨p, ys, rfl, .inl hq, q⟩
  exact pe_callB rule hg hm PySem.boot_len (pa_cons he pa_nil hs) (by decide) (by decide) hs hpl pins s σ H Q I h1
theorem pg_tupK (K : PySem.W.Frag) {X : Cx} {pos : Pos} {es : List Expr} {k : Nat} {t : TGs} {n : Nat} (hc : X.calm = true) (h : PGs X es t) (hK : X.K = K := by rfl)
    (hn : (assignEach es X.env).length = n := by rfl) (hst : (assignEach es X.env).findIdx? (·.1) = none := by rfl) : PG X (.Tuple es k pos) (gTup K n t) := by
  subst hK
  exact pg_tup hc h hn hst
end Ct
end
section
set_option Elab.async false
set_option linter.all false
set_option maxRecDepth 100000
set_option maxHeartbeats 4000000
namespace Ct
open PySem PySem.Spec PyProof.Rows L2
section
variable {P : Program} {w : World} {K : PySem.W.Frag} {mg : Str → Option Value} {base : Heap} {CL CH : Addr}
/-! ### Lot -/
def spLotInit (CL : Addr) : Sp := fun vs H Q _ => ∃ (p dx : Addr) (n b e c : Int), vs = [.ref p, .int n, .int b, .int e, .int c] ∧ H p = some (.ins CL dx []) ∧ ∀ H' : Hp, H' p = some (.ins CL dx (lf n b e c)) → (∀ q o, H q = some o → q ≠ p → H' q = some o) → Q .non H'
theorem sc_Lot_init : FnScope ["self", "number", "begins", "ends", "crates"] ["self", "number", "begins", "ends", "crates"] (defScope s_Lot_init) := ⟨rfl, rfl, rfl, by decide +kernel, rfl, by decide +kernel, by decide +kernel⟩
theorem ok_Lot_init {f : Addr} {fd : FuncData} (F : Fun K "__init__" "Lot.__init__" s_Lot_init f fd) (T : Txt K mg CL CH) : FnOk P w K mg base CX0 1 f fd ["self", "number", "begins", "ends", "crates"] (spLotInit CL) := by
  refine F.ok sc_Lot_init (fun vs H Q E h => ?_) (fun cdv A outer s H vs Q E hr h => ?_)
  · obtain ⟨p, dx, n, b, e, c, rfl, _⟩ := h
    rfl
  · obtain ⟨p, dx, n, b, e, c, rfl, hp, k⟩ := h
    refine ⟨_, pss_cons (ps_fld (pv 0) (pv 1) rfl) (pss_cons (ps_fld (pv 0) (pv 2) rfl) (pss_cons (ps_fld (pv 0) (pv 3) rfl) (pss_one (ps_fld (pv 0) (pv 4) rfl)))), ?_⟩
    refine ⟨_, rfl, _, rfl, p, CL, dx, _, rfl, hp, T.clL, T.lN, (by decide), ?_⟩
    refine ⟨_, rfl, _, rfl, p, CL, dx, _, rfl, upd_same, T.clL, T.lB, (by show 1 < 1000; decide), ?_⟩
    refine ⟨_, rfl, _, rfl, p, CL, dx, _, rfl, upd_same, T.clL, T.lE, (by show 2 < 1000; decide), ?_⟩
    refine ⟨_, rfl, _, rfl, p, CL, dx, _, rfl, upd_same, T.clL, T.lC, (by show 3 < 1000; decide), ?_⟩
    exact k _ upd_same fun q o e hb => by rw [upd_ne hb, upd_ne hb, upd_ne hb, upd_ne hb]; exact e
/-! ### lies_in -/
def spLies (CL : Addr) : Sp := fun vs H Q _ => ∃ (p : Addr) (i h : Nat) (x : Kv349.Lot), vs = [.ref p, .int h] ∧ LotAt CL H p i x ∧ Q (.bl (x.at_ h)) H
theorem sc_lies : FnScope ["lot", "hour"] ["lot", "hour"] (defScope s_lies_in) := ⟨rfl, rfl, rfl, by decide +kernel, rfl, by decide +kernel, by decide +kernel⟩
theorem ok_lies {f : Addr} {fd : FuncData} (F : Fun K "lies_in" "lies_in" s_lies_in f fd) (T : Txt K mg CL CH) : FnOk P w K mg base CX0 1 f fd ["lot", "hour"] (spLies CL) := by
  refine F.ok sc_lies (fun vs H Q E h => ?_) (fun cdv A outer s H vs Q E hr h => ?_)
  · obtain ⟨p, i, h', x, rfl, _⟩ := h
    rfl
  · obtain ⟨p, i, h, x, rfl, ⟨dx, hp⟩, q⟩ := h
    refine ⟨_, pss_one (ps_ret (pe_and (pe_cmpR op_le (pe_fld (pv 0) rfl) (pv 1) (nomark _)) (pe_one (pe_cmpR op_lt (pv 1) (pe_fld (pv 0) rfl) (nomark _))))), ?_⟩
    refine ⟨_, rfl, p, CL, dx, _, _, rfl, hp, T.clL, T.lB, lf_b .., _, rfl, _, _, rfl, rfl, _, rfl, ?_⟩
    refine ite2 (fun c => ?_) (fun c => ?_)
    · refine ⟨_, rfl, _, rfl, p, CL, dx, _, _, rfl, hp, T.clL, T.lE, lf_e .., _, _, rfl, rfl, ?_⟩
      have e : x.at_ h = decide ((h : Int) < (x.upto : Int)) := by
        unfold Kv349.Lot.at_
        have c' := of_decide_eq_true c
        rw [decide_eq_true (show x.from_ ≤ h by omega), Bool.true_and]
        by_cases z : h < x.upto
        · rw [decide_eq_true z, decide_eq_true (by omega)]
        · rw [decide_eq_false z, decide_eq_false (by omega)]
      rw [e] at q
      exact q
    · have e : x.at_ h = false := by
        unfold Kv349.Lot.at_
        have c' := of_decide_eq_false (Bool.eq_false_iff.mpr c)
        rw [decide_eq_false (show ¬ x.from_ ≤ h by omega), Bool.false_and]
      rw [e] at q
      exact q
/-! ### comprehensions over a list that stays -/
theorem same_new {H : Hp} {D : Addr} {o : HO} (h : H D = none) : Same H (upd H D o) := fun b u e => by rw [upd_ne (ne_of_none e h)]; exact e
theorem same_over {H H' : Hp} {D : Addr} {o : HO} (h : H D = none) (k : Same H H') : Same H (upd H' D o) := fun b u e => by rw [upd_ne (ne_of_none e h)]; exact k b u e
theorem small_line {n : Nat} (h : n ≤ 1000) : n < sizeLine := small1000 h
theorem lc_go {α : Type} {K : PySem.W.Frag} {l D : Addr} {H : Hp} {items : List α} {f val : α → V} {keep : α → Bool} {g : TG} {tt : TT} {te : TE} {vs : List Nat} {σ : L2.St} {Qd : Hp → Prop} (hl : SqL K H l (items.map f)) (hz : items.length ≤ 1000) (hD : H D = none)
    (turn : ∀ x ∈ items, ∀ H' : Hp, Same H H' → ∀ (KT : V → Hp → Prop) (KF : Hp → Prop), (keep x = true → ∀ H4, Same H' H4 → KT (val x) H4) → (keep x = false → ∀ H3, Same H' H3 → KF H3) →
      g (f x) (wipe σ vs) H' fun σ2 H2 => wipe σ2 vs = wipe σ vs ∧ tt σ2 H2 fun b H3 => if b = true then te σ2 H3 KT else KF H3)
    (done : ∀ H', Same H H' → H' D = some (.lst ((items.filter keep).map val)) → Qd H') :
    ∃ W : Nat → Nat → Hp → Prop, (∃ m, W 0 m (upd H D (.lst []))) ∧ ∀ i m H, W i m H →
      ((Itl K l).stop i H ∧ Qd H) ∨ ((Itl K l).go i H ∧ ∃ Nx : Hp → Prop, (∀ H', Nx H' → ∃ m', m' < m ∧ W (i + 1) m' H') ∧ ∀ x H', (Itl K l).yld i H x H' → g x (wipe σ vs) H' fun σ2 H2 => wipe σ2 vs = wipe σ vs ∧ tt σ2 H2 fun b H3 =>
        if b = true then te σ2 H3 fun y H4 => ∃ acc, H4 D = some (.lst acc) ∧ acc.length < sizeLine ∧ Nx (upd H4 D (.lst (acc ++ [y]))) else Nx H3) := by
  refine lc_list (fun i H' => Same H H' ∧ H' D = some (.lst (((items.take i).filter keep).map val))) ⟨same_new hD, by rw [upd_same]; rfl⟩ (fun i H' _ p => p.1.seq hl) (fun i v H' hv p => ?_) (fun H' p => ?_)
  · obtain ⟨x, hx, rfl⟩ : ∃ x, items[i]? = some x ∧ v = f x := by
      rw [List.getElem?_map] at hv
      cases e : items[i]? with
      | none => rw [e] at hv; cases hv
      | some x => rw [e] at hv; exact ⟨x, rfl, (Option.some.inj hv).symm⟩
    have et : items.take (i + 1) = items.take i ++ [x] := by rw [List.take_add_one, hx]; rfl
    refine turn x (List.mem_of_getElem? hx) H' p.1 _ _ (fun hk H4 s4 => ⟨_, s4 _ _ p.2, ?_, same_over hD (p.1.trans s4), ?_⟩) (fun hk H3 s3 => ⟨p.1.trans s3, ?_⟩)
    · rw [List.length_map]
      refine small_line (Nat.le_trans List.filter_sublist.length_le ?_)
      rw [List.length_take]; omega
    · rw [upd_same, et, List.filter_append, List.filter_cons, if_pos hk, List.filter_nil, List.map_append]; rfl
    · rw [et, List.filter_append, List.filter_cons, if_neg (by rw [hk]; decide), List.filter_nil, List.append_nil]
      exact s3 _ _ p.2
  · refine done H' p.1 ?_
    rw [p.2, List.take_of_length_le (by rw [List.length_map]; exact Nat.le_refl _)]
theorem filter_yes {α : Type} (l : List α) : (l.filter fun _ => true) = l := List.filter_eq_self.mpr fun _ _ => rfl

/-! ### numbers_of -/
def spNumbers (K : PySem.W.Frag) (CL : Addr) : Sp := fun vs H Q _ => ∃ (l : Addr) (a : Kv349.Abs) (adr : Nat → Addr) (ids : List Nat), vs = [.ref l] ∧ SqL K H l (refs adr ids) ∧ ids.length ≤ 1000 ∧ LL CL H a adr ids ∧
  ∀ (H' : Hp) (q : Addr), Same H H' → H q = none → H' q = some (.lst (ids.map fun (i : Nat) => V.int i)) → Q (.ref q) H'
theorem sc_numbers : FnScope ["lots", "lot"] ["lots"] (defScope s_numbers_of) := ⟨rfl, rfl, rfl, by decide +kernel, rfl, by decide +kernel, by decide +kernel⟩
theorem ok_numbers {f : Addr} {fd : FuncData} (F : Fun K "numbers_of" "numbers_of" s_numbers_of f fd) (T : Txt K mg CL CH) : FnOk P w K mg base CX0 1 f fd ["lots"] (spNumbers K CL) := by
  refine F.ok sc_numbers (fun vs H Q E h => ?_) (fun cdv A outer s H vs Q E hr h => ?_)
  · obtain ⟨l, a, adr, ids, rfl, _⟩ := h
    rfl
  · obtain ⟨l, a, adr, ids, rfl, hl, hz, hL, q⟩ := h
    refine ⟨_, pss_one (ps_ret (pe_lc (own := [("lot", 1)]) rfl sc_numbers.nd (pi_list (pv 0)) (blkOk_by rfl) (fun _ _ _ _ _ => pg_name (i := 1) sc_numbers.nd rfl (Or.inl rfl)) (fun _ _ _ _ _ => pts_nil) (fun _ _ _ _ _ => fldK K (pv 1)))), ?_⟩
    refine ⟨_, rfl, l, rfl, ⟨_, hl⟩, fun D hD => lc_go (f := fun i => V.ref (adr i)) (keep := fun _ => true) (val := fun i => V.int (i : Nat)) hl hz hD (fun i hi H' sm KT KF kt _ => ?_) (fun H' sm h' => ?_)⟩
    · obtain ⟨dx, e⟩ := hL i hi
      exact ⟨rfl, iteT (B := KF H') ⟨_, rfl, adr i, CL, dx, _, _, rfl, sm _ _ e, T.clL, T.lN, lf_n .., kt rfl _ (Same.refl _)⟩⟩
    · rw [filter_yes] at h'
      exact q H' D sm hD h'

/-! ### lying -/
def spLying (K : PySem.W.Frag) (CL : Addr) : Sp := fun vs H Q _ => ∃ (l : Addr) (h : Nat) (a : Kv349.Abs) (adr : Nat → Addr) (ids : List Nat), vs = [.ref l, .int h] ∧ SqL K H l (refs adr ids) ∧ ids.length ≤ 1000 ∧ LL CL H a adr ids ∧
  ∀ (H' : Hp) (q : Addr), Same H H' → H q = none → H' q = some (.lst (refs adr (ids.filter fun i => (a.lot i).at_ h))) → Q (.ref q) H'
theorem sc_lying : FnScope ["lots", "hour", "lot"] ["lots", "hour"] (defScope s_lying) := ⟨rfl, rfl, rfl, by decide +kernel, rfl, by decide +kernel, by decide +kernel⟩
theorem ok_lying {f : Addr} {fd : FuncData} (F : Fun K "lying" "lying" s_lying f fd) (D1 : Def P w K mg base 1 "lies_in" ["lot", "hour"] (spLies CL)) : FnOk P w K mg base CX0 2 f fd ["lots", "hour"] (spLying K CL) := by
  refine F.ok sc_lying (fun vs H Q E h => ?_) (fun cdv A outer s H vs Q E hr h => ?_)
  · obtain ⟨l, h', a, adr, ids, rfl, _⟩ := h
    rfl
  · obtain ⟨l, h, a, adr, ids, rfl, hl, hz, hL, q⟩ := h
    refine ⟨_, pss_one (ps_ret (pe_lc (own := [("lot", 2)]) rfl sc_lying.nd (pi_list (pv 0)) (blkOk_by rfl) (fun _ _ _ _ _ => pg_name (i := 2) sc_lying.nd rfl (Or.inl rfl))
      (fun _ _ _ _ _ => pts_one (pt_val (pe_def D1 hr rfl (pa_cons (pv 2) (pa_cons (pv 1) pa_nil))))) (fun _ _ _ _ _ => pv 2))), ?_⟩
    refine ⟨_, rfl, l, rfl, ⟨_, hl⟩, fun D hD => lc_go (f := fun i => V.ref (adr i)) (keep := fun i => (a.lot i).at_ h) (val := fun i => V.ref (adr i)) hl hz hD (fun i hi H' sm KT KF kt kf => ?_) (fun H' sm h' => q H' D sm hD h')⟩
    refine ⟨rfl, _, rfl, _, rfl, adr i, i, h, a.lot i, rfl, (hL i hi).keep sm, _, rfl, ?_⟩
    cases hc : (a.lot i).at_ h with
    | true => exact iteT ⟨_, rfl, kt hc _ (Same.refl _)⟩
    | false => exact iteF (kf hc _ (Same.refl _))

/-! ### two_meet -/
def spMeet (CL : Addr) : Sp := fun vs H Q _ => ∃ (p q : Addr) (i j : Nat) (x y : Kv349.Lot), vs = [.ref p, .ref q] ∧ LotAt CL H p i x ∧ LotAt CL H q j y ∧ Q (.bl (x.meets y)) H
theorem sc_meet : FnScope ["one", "other"] ["one", "other"] (defScope s_two_meet) := ⟨rfl, rfl, rfl, by decide +kernel, rfl, by decide +kernel, by decide +kernel⟩
theorem ok_meet {f : Addr} {fd : FuncData} (F : Fun K "two_meet" "two_meet" s_two_meet f fd) (T : Txt K mg CL CH) : FnOk P w K mg base CX0 1 f fd ["one", "other"] (spMeet CL) := by
  refine F.ok sc_meet (fun vs H Q E h => ?_) (fun cdv A outer s H vs Q E hr h => ?_)
  · obtain ⟨p, q, i, j, x, y, rfl, _⟩ := h
    rfl
  · obtain ⟨p, q, i, j, x, y, rfl, ⟨dx, hp⟩, ⟨dy, hq⟩, k⟩ := h
    refine ⟨_, pss_one (ps_ret (pe_and (pe_cmpR op_lt (pe_fld (pv 0) rfl) (pe_fld (pv 1) rfl) (nomark _)) (pe_one (pe_cmpR op_lt (pe_fld (pv 1) rfl) (pe_fld (pv 0) rfl) (nomark _))))), ?_⟩
    refine ⟨_, rfl, p, CL, dx, _, _, rfl, hp, T.clL, T.lB, lf_b .., _, rfl, q, CL, dy, _, _, rfl, hq, T.clL, T.lE, lf_e .., _, _, rfl, rfl, _, rfl, ?_⟩
    have key : x.meets y = (decide ((x.from_ : Int) < (y.upto : Int)) && decide ((y.from_ : Int) < (x.upto : Int))) := by
      unfold Kv349.Lot.meets
      congr 1 <;> exact decide_eq_decide.mpr (by omega)
    rw [key] at k
    refine ite2 (fun c => ?_) (fun c => ?_)
    · refine ⟨_, rfl, q, CL, dy, _, _, rfl, hq, T.clL, T.lB, lf_b .., _, rfl, p, CL, dx, _, _, rfl, hp, T.clL, T.lE, lf_e .., _, _, rfl, rfl, ?_⟩
      rw [c, Bool.true_and] at k
      exact k
    · rw [Bool.eq_false_iff.mpr c, Bool.false_and] at k
      exact k

/-! ### most_at_once -/
theorem peak_nil (a : Kv349.Abs) : a.peak [] = 0 := rfl
theorem peak_is {a : Kv349.Abs} {ids : List Nat} {m : Int} (h1 : m ∈ ids.map fun i => ((a.count ids (a.lot i).from_ : Nat) : Int)) (h2 : ∀ y, y ∈ (ids.map fun i => ((a.count ids (a.lot i).from_ : Nat) : Int)) → y ≤ m) : ((a.peak ids : Nat) : Int) = m := by
  obtain ⟨i, hi, rfl⟩ := List.mem_map.mp h1
  have l1 : a.peak ids ≤ a.count ids (a.lot i).from_ := peak_le.mpr fun j hj => by
    have := h2 _ (List.mem_map.mpr ⟨j, hj, rfl⟩)
    omega
  have l2 := peak_le.mp (Nat.le_refl (a.peak ids)) i hi
  omega
def spPeak (K : PySem.W.Frag) (CL : Addr) : Sp := fun vs H Q _ => ∃ (l : Addr) (a : Kv349.Abs) (adr : Nat → Addr) (ids : List Nat), vs = [.ref l] ∧ SqL K H l (refs adr ids) ∧ ids.length ≤ 1000 ∧ LL CL H a adr ids ∧
  ∀ (H' : Hp), Same H H' → Q (.int (a.peak ids : Nat)) H'
theorem sc_peak : FnScope ["lots", "lot"] ["lots"] (defScope s_most_at_once) := ⟨rfl, rfl, rfl, by decide +kernel, rfl, by decide +kernel, by decide +kernel⟩
theorem ok_peak {f : Addr} {fd : FuncData} (F : Fun K "most_at_once" "most_at_once" s_most_at_once f fd) (T : Txt K mg CL CH) (D1 : Def P w K mg base 2 "lying" ["lots", "hour"] (spLying K CL)) : FnOk P w K mg base CX0 3 f fd ["lots"] (spPeak K CL) := by
  refine F.ok sc_peak (fun vs H Q E h => ?_) (fun cdv A outer s H vs Q E hr h => ?_)
  · obtain ⟨l, a, adr, ids, rfl, _⟩ := h
    rfl
  · obtain ⟨l, a, adr, ids, rfl, hl, hz, hL, q⟩ := h
    refine ⟨_, pss_one (ps_ret (pe_maxd rfl rfl T.max_ (pe_lc (own := [("lot", 1)]) rfl sc_peak.nd (pi_list (pv 0)) (blkOk_by rfl) (fun _ _ _ _ _ => pg_name (i := 1) sc_peak.nd rfl (Or.inl rfl)) (fun _ _ _ _ _ => pts_nil)
      (fun _ _ _ _ _ => lenK K T.len (pe_def D1 hr rfl (pa_cons (pv 0) (pa_cons (fldK K (pv 1)) pa_nil))))))), ?_⟩
    refine ⟨_, rfl, l, rfl, ⟨_, hl⟩, fun D hD => lc_go (f := fun i => V.ref (adr i)) (keep := fun _ => true) (val := fun i => V.int (a.count ids (a.lot i).from_ : Nat)) hl hz hD (fun i hi H' sm KT KF kt _ => ?_) (fun H' sm h' => ?_)⟩
    · obtain ⟨dx, e⟩ := hL i hi
      refine ⟨rfl, iteT (B := KF H') ⟨_, rfl, _, rfl, adr i, CL, dx, _, _, rfl, sm _ _ e, T.clL, T.lB, lf_b .., l, (a.lot i).from_, a, adr, ids, rfl, sm.seq hl, hz, hL.keep sm, fun H2 q2 s2 _ h2 => ⟨q2, _, rfl, SqL.of h2, ?_⟩⟩⟩
      rw [refs_len]
      exact kt rfl _ s2
    · rw [filter_yes] at h'
      refine ⟨D, ids.map fun i => ((a.count ids (a.lot i).from_ : Nat) : Int), rfl, SqL.of (by rw [h', List.map_map]; rfl), fun e => ?_, fun m h1 h2 => ?_⟩
      · have e' : ids = [] := List.map_eq_nil_iff.mp e
        have := q H' sm
        rw [e', peak_nil] at this
        exact this
      · have := q H' sm
        rw [peak_is h1 h2] at this
        exact this

/-! ### may_lie -/
def mayL (a : Kv349.Abs) (ids : List Nat) (k h n : Nat) : Bool := (h :: begins a ids h n).all fun x => decide (a.count ids x < k)
theorem mayL_eq {a : Kv349.Abs} {k h n : Nat} : mayL a a.ids k h n = a.may k h n := by
  rw [Bool.eq_iff_iff, may_iff]
  unfold mayL
  rw [List.all_eq_true]
  exact ⟨fun q x hx => of_decide_eq_true (q x hx), fun q x hx => decide_eq_true (q x hx)⟩
def spMay (K : PySem.W.Frag) (CL : Addr) : Sp := fun vs H Q _ => ∃ (l : Addr) (h n k : Nat) (a : Kv349.Abs) (adr : Nat → Addr) (ids : List Nat), vs = [.ref l, .int h, .int n, .int k] ∧ SqL K H l (refs adr ids) ∧ ids.length ≤ 900 ∧ LL CL H a adr ids ∧
  ∀ (H' : Hp), Same H H' → Q (.bl (mayL a ids k h n)) H'
theorem sc_may : FnScope ["lots", "hour", "count", "tanks", "begins", "asked", "lot"] ["lots", "hour", "count", "tanks"] (defScope s_may_lie) := ⟨rfl, rfl, rfl, by decide +kernel, rfl, by decide +kernel, by decide +kernel⟩
theorem ok_may {f : Addr} {fd : FuncData} (F : Fun K "may_lie" "may_lie" s_may_lie f fd) (T : Txt K mg CL CH) (D1 : Def P w K mg base 2 "lying" ["lots", "hour"] (spLying K CL)) : FnOk P w K mg base CX0 3 f fd ["lots", "hour", "count", "tanks"] (spMay K CL) := by
  refine F.ok sc_may (fun vs H Q E h => ?_) (fun cdv A outer s H vs Q E hr h => ?_)
  · obtain ⟨l, h', n, k, a, adr, ids, rfl, _⟩ := h
    rfl
  · obtain ⟨l, h, n, k, a, adr, ids, rfl, hl, hz, hL, q⟩ := h
    refine ⟨_, pss_cons (ps_setLc (i := 4) (own := [("lot", 6)]) rfl sc_may.nd rfl rfl (sw_true rfl rfl rfl rfl) (pi_list (pv 0)) (blkOk_by rfl) (fun _ _ _ _ _ => pg_name (i := 6) sc_may.nd rfl (Or.inl rfl))
        (fun _ _ _ _ _ => pts_one (PW.pt (pw_and (pt_cmpR op_lt (pv 1) (fldK K (pv 6)) (nomark _)) (pw_and1 (pt_cmpR op_lt (fldK K (pv 6)) (pe_op op_add (pv 1) (pv 2)) (nomark _)))))) (fun _ _ _ _ _ => fldK K (pv 6)))
      (pss_cons (ps_for PassesOwn.never rfl (pi_list (pe_op op_cat (pe_lst (pa_cons (pv 1) pa_nil)) (pv 4))) (pg_name (i := 5) sc_may.nd rfl (Or.inl rfl))
        (pss_one (ps_if (pt_cmpR op_ge (lenK K T.len (pe_def D1 hr rfl (pa_cons (pv 0) (pa_cons (pv 5) pa_nil)))) (pv 3) (nomark _)) (pss_one (ps_ret pe_bl)) pss_nil)))
      (pss_one (ps_ret pe_bl))), ?_⟩
    refine ⟨_, rfl, l, rfl, ⟨_, hl⟩, fun D hD => lc_go (f := fun i => V.ref (adr i)) (keep := fun i => decide (h < (a.lot i).from_) && decide ((a.lot i).from_ < h + n)) (val := fun i => V.int ((a.lot i).from_ : Nat)) hl (by omega) hD (fun i hi H' sm KT KF kt kf => ?_) (fun H' sm h' => ?_)⟩
    · obtain ⟨dx, e⟩ := hL i hi
      refine ⟨rfl, _, rfl, _, rfl, adr i, CL, dx, _, _, rfl, sm _ _ e, T.clL, T.lB, lf_b .., _, _, rfl, rfl, _, rfl, ite2 (fun c => ?_) (fun c => ?_)⟩
      · refine ⟨_, rfl, adr i, CL, dx, _, _, rfl, sm _ _ e, T.clL, T.lB, lf_b .., _, rfl, _, rfl, _, _, rfl, rfl, _, _, rfl, rfl, _, rfl, ite2 (fun c2 => ?_) (fun c2 => ?_)⟩
        · refine ⟨_, rfl, adr i, CL, dx, _, _, rfl, sm _ _ e, T.clL, T.lB, lf_b .., kt ?_ _ (Same.refl _)⟩
          have c' := of_decide_eq_true c
          have c2' := of_decide_eq_true c2
          rw [decide_eq_true (show h < (a.lot i).from_ by omega), decide_eq_true (show (a.lot i).from_ < h + n by omega)]; rfl
        · refine kf ?_ _ (Same.refl _)
          have c2' := of_decide_eq_false (Bool.eq_false_iff.mpr c2)
          rw [decide_eq_false (show ¬ (a.lot i).from_ < h + n by omega), Bool.and_false]
      · refine iteF (kf ?_ _ (Same.refl _))
        have c' := of_decide_eq_false (Bool.eq_false_iff.mpr c)
        rw [decide_eq_false (show ¬ h < (a.lot i).from_ by omega), Bool.false_and]
    · -- the loop over [hour] + begins
      have hb : H' D = some (.lst ((begins a ids h n).map fun (x : Nat) => V.int x)) := by
        rw [h']
        unfold begins
        rw [List.map_map]; rfl
      have hbl : (begins a ids h n).length ≤ ids.length := by
        unfold begins
        rw [List.length_map]
        exact List.filter_sublist.length_le
      refine ⟨_, rfl, (by show 1 ≤ sizeLine; decide), fun l1 n1 => ?_⟩
      have s1 : Same H' (upd H' l1 (.lst [.int h])) := same_new n1
      refine ⟨_, rfl, l1, D, _, _, rfl, rfl, upd_same, s1 _ _ hb, ?_, fun l2 n2 => ?_⟩
      · rw [List.length_map]
        exact Nat.le_of_lt (small_line (by show 1 + _ ≤ 1000; omega))
      have s2 : Same H' (upd (upd H' l1 (.lst [.int h])) l2 (.lst ([.int h] ++ (begins a ids h n).map fun (x : Nat) => V.int x))) := fun b o e => by
        rw [upd_ne (ne_of_none (s1 b o e) n2)]
        exact s1 b o e
      have hx : (upd (upd H' l1 (.lst [.int h])) l2 (.lst ([.int h] ++ (begins a ids h n).map fun (x : Nat) => V.int x))) l2 = some (.lst ((h :: begins a ids h n).map fun (x : Nat) => V.int x)) := upd_same
      generalize (upd (upd H' l1 (.lst [.int h])) l2 (.lst ([.int h] ++ (begins a ids h n).map fun (x : Nat) => V.int x))) = H2 at s2 hx
      have s02 : Same H H2 := sm.trans s2
      refine ⟨l2, rfl, ⟨_, SqL.of hx⟩, for_list (K := K) (a := l2) (xs := (h :: begins a ids h n).map fun (x : Nat) => V.int x) (fun i σ H3 => ∃ v : Option V, σ = [some (.ref l), some (.int h), some (.int n), some (.int k), some (.ref D), v, none] ∧ Same H2 H3 ∧ ∀ x ∈ (h :: begins a ids h n).take i, a.count ids x < k)
        ⟨none, rfl, Same.refl _, by simp⟩ (fun i σ H3 _ ⟨_, _, s3, _⟩ => s3.seq (SqL.of hx)) ?_ ?_⟩
      · rintro i y σ H3 hi ⟨v, rfl, s3, hc⟩
        obtain ⟨x, hxi, rfl⟩ : ∃ x, (h :: begins a ids h n)[i]? = some x ∧ y = V.int (x : Nat) := by
          rw [List.getElem?_map] at hi
          cases e : (h :: begins a ids h n)[i]? with
          | none => rw [e] at hi; cases hi
          | some x => rw [e] at hi; exact ⟨x, rfl, (Option.some.inj hi).symm⟩
        have s03 := s02.trans s3
        refine ⟨_, rfl, _, rfl, l, x, a, adr, ids, rfl, s03.seq hl, by omega, hL.keep s03, fun H4 q4 s4 _ h4 => ⟨q4, _, rfl, SqL.of h4, ?_⟩⟩
        rw [refs_len]
        refine ⟨_, rfl, _, _, rfl, rfl, _, rfl, ite2 (fun c => ?_) (fun c => ?_)⟩
        · have c' := of_decide_eq_true c
          have : mayL a ids k h n = false := by
            refine Bool.eq_false_iff.mpr fun z => ?_
            unfold mayL at z
            have := of_decide_eq_true (List.all_eq_true.mp z x (List.mem_of_getElem? hxi))
            unfold Kv349.Abs.count at this
            omega
          have qq := q H4 (s03.trans s4)
          rw [this] at qq
          exact qq
        · refine ⟨_, rfl, s3.trans s4, fun z hz' => ?_⟩
          rw [List.take_add_one, hxi] at hz'
          rcases List.mem_append.mp hz' with hz' | hz'
          · exact hc z hz'
          · have e : z = x := by simpa using hz'
            subst e
            have c' := of_decide_eq_false (Bool.eq_false_iff.mpr c)
            unfold Kv349.Abs.count
            omega
      · rintro σ H3 ⟨v, rfl, s3, hc⟩
        rw [List.length_map, List.take_length] at hc
        have : mayL a ids k h n = true := by
          unfold mayL
          exact List.all_eq_true.mpr fun x hx' => decide_eq_true (hc x hx')
        have qq := q H3 (s02.trans s3)
        rw [this] at qq
        exact qq
end
end Ct
end
section
set_option Elab.async false
set_option linter.all false
set_option maxRecDepth 100000
set_option maxHeartbeats 4000000
namespace Ct
open PySem PySem.Spec PyProof.Rows L2
section
variable {P : Program} {w : World} {K : PySem.W.Frag} {mg : Str → Option Value} {base : Heap} {CL CH : Addr}
/-! ### plan_order, end_order -/
def spKeyB (CL : Addr) : Sp := fun vs H Q _ => ∃ (p : Addr) (i : Nat) (x : Kv349.Lot), vs = [.ref p] ∧ LotAt CL H p i x ∧ ∀ (H' : Hp) (q : Addr), Same H H' → H' q = some (.tup [.int x.from_, .int i]) → Q (.ref q) H'
def spKeyE (CL : Addr) : Sp := fun vs H Q _ => ∃ (p : Addr) (i : Nat) (x : Kv349.Lot), vs = [.ref p] ∧ LotAt CL H p i x ∧ ∀ (H' : Hp) (q : Addr), Same H H' → H' q = some (.tup [.int x.upto, .int i]) → Q (.ref q) H'
theorem sc_keyB : FnScope ["lot"] ["lot"] (defScope s_plan_order) := ⟨rfl, rfl, rfl, by decide +kernel, rfl, by decide +kernel, by decide +kernel⟩
theorem sc_keyE : FnScope ["lot"] ["lot"] (defScope s_end_order) := ⟨rfl, rfl, rfl, by decide +kernel, rfl, by decide +kernel, by decide +kernel⟩
theorem ok_keyB {f : Addr} {fd : FuncData} (F : Fun K "plan_order" "plan_order" s_plan_order f fd) (T : Txt K mg CL CH) : FnOk P w K mg base CX0 1 f fd ["lot"] (spKeyB CL) := by
  refine F.ok sc_keyB (fun vs H Q E h => ?_) (fun cdv A outer s H vs Q E hr h => ?_)
  · obtain ⟨p, i, x, rfl, _⟩ := h
    rfl
  · obtain ⟨p, i, x, rfl, ⟨dx, hp⟩, q⟩ := h
    refine ⟨_, pss_one (ps_ret (pe_tup (pa_cons (pe_fld (pv 0) rfl) (pa_cons (pe_fld (pv 0) rfl) pa_nil)))), ?_⟩
    exact ⟨_, rfl, p, CL, dx, _, _, rfl, hp, T.clL, T.lB, lf_b .., _, rfl, p, CL, dx, _, _, rfl, hp, T.clL, T.lN, lf_n .., (by show 2 ≤ sizeLine; decide), fun t ht => q _ t (same_new ht) upd_same⟩
theorem ok_keyE {f : Addr} {fd : FuncData} (F : Fun K "end_order" "end_order" s_end_order f fd) (T : Txt K mg CL CH) : FnOk P w K mg base CX0 1 f fd ["lot"] (spKeyE CL) := by
  refine F.ok sc_keyE (fun vs H Q E h => ?_) (fun cdv A outer s H vs Q E hr h => ?_)
  · obtain ⟨p, i, x, rfl, _⟩ := h
    rfl
  · obtain ⟨p, i, x, rfl, ⟨dx, hp⟩, q⟩ := h
    refine ⟨_, pss_one (ps_ret (pe_tup (pa_cons (pe_fld (pv 0) rfl) (pa_cons (pe_fld (pv 0) rfl) pa_nil)))), ?_⟩
    exact ⟨_, rfl, p, CL, dx, _, _, rfl, hp, T.clL, T.lE, lf_e .., _, rfl, p, CL, dx, _, _, rfl, hp, T.clL, T.lN, lf_n .., (by show 2 ≤ sizeLine; decide), fun t ht => q _ t (same_new ht) upd_same⟩
/-- what comes out of a sort by a key whose second number is the lot's -/
theorem sort_ids {adr : Nat → Addr} {ids : List Nat} {key : Nat → Int × Int} {ps : List ((Int × Int) × V)} (hk : ∀ i, (key i).2 = (i : Int)) (hp : ps.Perm ((ids.map key).zip (refs adr ids))) (hs : ps.Pairwise PLe) :
    ∃ ids' : List Nat, ids'.Perm ids ∧ ps.map (·.2) = refs adr ids' ∧ ids'.Pairwise fun i j => (key i).1 < (key j).1 ∨ (key i).1 = (key j).1 ∧ i ≤ j := by
  have ez : (ids.map key).zip (refs adr ids) = ids.map fun i => (key i, V.ref (adr i)) := by
    unfold refs
    rw [List.zip_map']
  rw [ez] at hp
  have hg : ∀ x ∈ ps, x = (key x.1.2.toNat, V.ref (adr x.1.2.toNat)) := fun x hx => by
    obtain ⟨i, _, rfl⟩ := List.mem_map.mp (hp.mem_iff.mp hx)
    show (key i, V.ref (adr i)) = (key (key i).2.toNat, V.ref (adr (key i).2.toNat))
    rw [hk i]; rfl
  have e1 : ps = (ps.map fun x => x.1.2.toNat).map fun i => (key i, V.ref (adr i)) := by
    rw [List.map_map]
    conv => lhs; rw [← List.map_id ps]
    exact List.map_congr_left fun x hx => hg x hx
  refine ⟨ps.map fun x => x.1.2.toNat, ?_, ?_, ?_⟩
  · have q := hp.map fun x => x.1.2.toNat
    rw [List.map_map] at q
    have e2 : ids.map ((fun x : (Int × Int) × V => x.1.2.toNat) ∘ fun i => (key i, V.ref (adr i))) = ids := by
      conv => rhs; rw [← List.map_id ids]
      refine List.map_congr_left fun i _ => ?_
      show (key i).2.toNat = i
      rw [hk i]; rfl
    rw [e2] at q
    exact q
  · unfold refs
    rw [List.map_map]
    refine List.map_congr_left fun x hx => ?_
    have := congrArg Prod.snd (hg x hx)
    exact this
  · rw [List.pairwise_map]
    refine hs.imp_of_mem fun {x y} hx hy h => ?_
    have e3 : x.1 = key x.1.2.toNat := congrArg Prod.fst (hg x hx)
    have e4 : y.1 = key y.1.2.toNat := congrArg Prod.fst (hg y hy)
    have k3 : x.1.2 = (x.1.2.toNat : Int) := by
      have := hk x.1.2.toNat
      rw [← e3] at this; exact this
    have k4 : y.1.2 = (y.1.2.toNat : Int) := by
      have := hk y.1.2.toNat
      rw [← e4] at this; exact this
    rw [← e3, ← e4]
    rcases h with h | ⟨h1, h2⟩
    · exact .inl h
    · exact .inr ⟨h1, by omega⟩

/-! ### least_free_tank -/
/-- the placed lots: tuples of a lot and its tank -/
def PlAt (H : Hp) (q : Addr) (adr : Nat → Addr) (ys : List (Addr × Nat × Nat)) : Prop := H q = some (.lst (ys.map fun y => V.ref y.1)) ∧ ∀ y ∈ ys, H y.1 = some (.tup [.ref (adr y.2.1), .int y.2.2])
theorem PlAt.keep {H H' : Hp} {q : Addr} {adr : Nat → Addr} {ys : List (Addr × Nat × Nat)} (h : PlAt H q adr ys) (k : Same H H') : PlAt H' q adr ys := ⟨k _ _ h.1, fun y hy => k _ _ (h.2 y hy)⟩
def spLeast (CL : Addr) : Sp := fun vs H Q _ => ∃ (l p : Addr) (a : Kv349.Abs) (adr : Nat → Addr) (ys : List (Addr × Nat × Nat)) (i : Nat), vs = [.ref l, .ref p] ∧ PlAt H l adr ys ∧ ys.length ≤ 900 ∧ (∀ y ∈ ys, LotAt CL H (adr y.2.1) y.2.1 (a.lot y.2.1)) ∧ LotAt CL H p i (a.lot i) ∧
  ∀ (H' : Hp), Same H H' → Q (.int (leastOf a (ys.map (·.2)) i : Nat)) H'
theorem sc_least : FnScope ["placed", "lot", "taken", "least", "other", "tank"] ["placed", "lot"] (defScope s_least_free_tank) := ⟨rfl, rfl, rfl, by decide +kernel, rfl, by decide +kernel, by decide +kernel⟩
theorem taken_ys {a : Kv349.Abs} {ys : List (Addr × Nat × Nat)} {i : Nat} : taken a (ys.map (·.2)) i = (ys.filter fun y => (a.lot y.2.1).meets (a.lot i)).map fun y => y.2.2 := by
  unfold taken
  rw [List.filter_map, List.map_map]; rfl
theorem in_nats {t : Nat} : ∀ {l : List Nat}, inV (.int t) (l.map fun (x : Nat) => V.int x) = decide (t ∈ l)
  | [] => by simp [inV]
  | x :: l => by
    have ih := in_nats (t := t) (l := l)
    unfold inV at ih ⊢
    rw [List.map_cons, List.any_cons, ih]
    show ((x : Int) == (t : Int) || _) = _
    by_cases e : t = x
    · subst e; simp
    · have h1 : ((x : Int) == (t : Int)) = false := by rw [beq_eq_false_iff_ne]; omega
      rw [h1, Bool.false_or]
      exact decide_eq_decide.mpr (by simp [e])
theorem ok_least {f : Addr} {fd : FuncData} (F : Fun K "least_free_tank" "least_free_tank" s_least_free_tank f fd) (D1 : Def P w K mg base 1 "two_meet" ["one", "other"] (spMeet CL)) : FnOk P w K mg base CX0 2 f fd ["placed", "lot"] (spLeast CL) := by
  refine F.ok sc_least (fun vs H Q E h => ?_) (fun cdv A outer s H vs Q E hr h => ?_)
  · obtain ⟨l, p, a, adr, ys, i, rfl, _⟩ := h
    rfl
  · obtain ⟨l, p, a, adr, ys, i, rfl, hpl, hz, hL, hi, q⟩ := h
    refine ⟨_, pss_cons (ps_setLc (i := 2) (own := [("other", 4), ("tank", 5)]) rfl sc_least.nd rfl rfl (sw_true rfl rfl rfl rfl) (pi_list (pv 0)) (blkOk_by rfl)
        (fun _ _ _ _ _ => pg_tupK K (n := 2) rfl (pgs_cons (pg_name (i := 4) sc_least.nd rfl (Or.inl rfl)) (pgs_cons (pg_name (i := 5) sc_least.nd rfl (Or.inl rfl)) pgs_nil)))
        (fun _ _ _ _ _ => pts_one (pt_val (pe_def D1 hr rfl (pa_cons (pv 4) (pa_cons (pv 1) pa_nil))))) (fun _ _ _ _ _ => pv 5))
      (pss_cons (ps_set (i := 3) sc_least.nd rfl (Or.inl rfl) pe_int)
      (pss_cons (ps_while PassesOwn.never (pt_cmpR op_in_seq (pv 3) (pv 2) rfl) (pss_one (ps_aug (i := 3) sc_least.nd rfl (Or.inl rfl) pe_int ip_add)))
      (pss_one (ps_ret (pv 3))))), ?_⟩
    refine ⟨_, rfl, l, rfl, ⟨_, SqL.of hpl.1⟩, fun D hD => lc_go (f := fun y : Addr × Nat × Nat => V.ref y.1) (keep := fun y => (a.lot y.2.1).meets (a.lot i)) (val := fun y => V.int (y.2.2 : Nat)) (SqL.of hpl.1) (by omega) hD (fun y hy H' sm KT KF kt kf => ?_) (fun H' sm h' => ?_)⟩
    · refine ⟨y.1, _, rfl, SqT.of (sm _ _ (hpl.2 y hy)), rfl, _, _, rfl, _, _, rfl, rfl, rfl, _, rfl, _, rfl, adr y.2.1, p, y.2.1, i, a.lot y.2.1, a.lot i, rfl, (hL y hy).keep sm, hi.keep sm, _, rfl, ?_⟩
      cases hc : (a.lot y.2.1).meets (a.lot i) with
      | true => exact iteT ⟨_, rfl, kt hc _ (Same.refl _)⟩
      | false => exact iteF (kf hc _ (Same.refl _))
    · have ht : H' D = some (.lst ((taken a (ys.map (·.2)) i).map fun (x : Nat) => V.int x)) := by
        rw [h', taken_ys, List.map_map]; rfl
      have htl : (taken a (ys.map (·.2)) i).length ≤ ys.length := by
        have := taken_len (a := a) (p := ys.map (·.2)) (i := i)
        rw [List.length_map] at this; exact this
      refine while_by (fun σ H2 => ∃ t : Nat, σ = [some (.ref l), some (.ref p), some (.ref D), some (.int t), none, none] ∧ H2 = H' ∧ ∀ u, u < t → u ∈ taken a (ys.map (·.2)) i)
        (fun (σ : L2.St) _ => match σ[3]? with | some (some (V.int t)) => ys.length + 1 - t.toNat | _ => 0) ⟨0, rfl, rfl, fun u hu => absurd hu (Nat.not_lt_zero _)⟩ ?_ ?_
      · rintro σ H2 ⟨t, rfl, rfl, hb⟩
        refine ⟨_, rfl, _, rfl, D, _, rfl, .inl (SqL.of ht), rfl, ?_, _, rfl, ?_⟩
        · rw [List.all_map]
          exact List.all_eq_true.mpr fun _ _ => rfl
        · have e : (if false = true then !inV (.int t) ((taken a (ys.map (·.2)) i).map fun (x : Nat) => V.int x) else inV (.int t) ((taken a (ys.map (·.2)) i).map fun (x : Nat) => V.int x)) = decide (t ∈ taken a (ys.map (·.2)) i) := by
            rw [if_neg Bool.false_ne_true, in_nats]
          rw [e]
          refine ite2 (fun c => ?_) (fun c => ?_)
          · have hin := of_decide_eq_true c
            have hlt : t + 1 ≤ ys.length := by
              have hs : List.range (t + 1) ⊆ taken a (ys.map (·.2)) i := fun u hu => by
                have := List.mem_range.mp hu
                by_cases eu : u = t
                · rw [eu]; exact hin
                · exact hb u (by omega)
              have := (List.nodup_range (n := t + 1)).length_le_of_subset hs
              rw [List.length_range] at this
              omega
            refine ⟨_, rfl, _, _, rfl, rfl, ⟨t + 1, rfl, rfl, fun u hu => ?_⟩, ?_⟩
            · by_cases eu : u = t
              · rw [eu]; exact hin
              · exact hb u (by omega)
            · show ys.length + 1 - ((t : Int) + 1).toNat < ys.length + 1 - (t : Int).toNat
              omega
          · have hn := of_decide_eq_false (Bool.eq_false_iff.mpr c)
            refine ⟨_, rfl, ?_⟩
            have qq := q H2 sm
            rw [leastOf_eq hn hb] at qq
            exact qq
      · rintro σ H2 Q1 Q2 hq ⟨x, hx, y, hy, p', xs, e1, e2, e3, e4, v, ev, q1⟩
        exact ⟨x, hx, y, hy, p', xs, e1, e2, e3, e4, v, ev, hq _ _ q1⟩

/-! ### plan_of -/
def spPlanOf (K : PySem.W.Frag) (CL : Addr) : Sp := fun vs H Q _ => ∃ (l : Addr) (a : Kv349.Abs) (adr : Nat → Addr) (ids : List Nat), vs = [.ref l] ∧ SqL K H l (refs adr ids) ∧ ids.length < 64 ∧ LL CL H a adr ids ∧
  ∀ (H' : Hp) (q : Addr) (ys : List (Addr × Nat × Nat)), Same H H' → H q = none → PlAt H' q adr ys → ys.map (·.2) = a.plan ids → Q (.ref q) H'
theorem sc_planof : FnScope ["lots", "placed", "lot"] ["lots"] (defScope s_plan_of) := ⟨rfl, rfl, rfl, by decide +kernel, rfl, by decide +kernel, by decide +kernel⟩
theorem perm_mem {α : Type} {l m : List α} (h : l.Perm m) {x : α} (hx : x ∈ l) : x ∈ m := h.mem_iff.mp hx
theorem ok_planof {f : Addr} {fd : FuncData} (F : Fun K "plan_of" "plan_of" s_plan_of f fd) (T : Txt K mg CL CH) (D1 : Def P w K mg base 2 "least_free_tank" ["placed", "lot"] (spLeast CL)) (D2 : Def P w K mg base 1 "plan_order" ["lot"] (spKeyB CL)) :
    FnOk P w K mg base CX0 4 f fd ["lots"] (spPlanOf K CL) := by
  obtain ⟨f2, fd2, F2, m2, _, b2⟩ := D2.ex
  refine F.ok sc_planof (fun vs H Q E h => ?_) (fun cdv A outer s H vs Q E hr h => ?_)
  · obtain ⟨l, a, adr, ids, rfl, _⟩ := h
    rfl
  · obtain ⟨l, a, adr, ids, rfl, hl, hz, hL, q⟩ := h
    have hr2 : Room 2 _ := hr.mono (by decide)
    refine ⟨_, pss_cons (ps_set (i := 1) sc_planof.nd rfl (Or.inl rfl) (pe_lst pa_nil))
      (pss_cons (ps_for PassesOwn.never rfl (pi_list (pe_sortedK rfl T.srt (pv 0) rfl m2 F2 hr b2)) (pg_name (i := 2) sc_planof.nd rfl (Or.inl rfl))
        (pss_one (ps_expr (pe_bm PySem.F.plainAttrs_list PySem.F.slot_list_append PySem.F.type_list_append mt_append (pv 1) (pa_cons (pe_tup (pa_cons (pv 2) (pa_cons (pe_def D1 hr2 rfl (pa_cons (pv 1) (pa_cons (pv 2) pa_nil))) pa_nil))) pa_nil)))))
      (pss_one (ps_ret (pv 1)))), ?_⟩
    refine ⟨Nat.zero_le _, fun pl hpl => ?_⟩
    have s0 : Same H (upd H pl (.lst [])) := same_new hpl
    refine ⟨_, rfl, l, refs adr ids, ids.map fun i => (((a.lot i).from_ : Int), (i : Int)), rfl, s0.seq hl, by rw [refs_len]; exact hz, by rw [List.length_map, refs_len], fun j v z hv hk H1 s1 Q' q' => ?_, fun ps H1 so s1 n1 p1 p2 h1 => ?_⟩
    · obtain ⟨i, hi, rfl⟩ := refs_at hv
      rw [List.getElem?_map, hi] at hk
      have ez : ((((a.lot i).from_ : Int), (i : Int)) : Int × Int) = z := Option.some.inj hk
      subst ez
      exact ⟨adr i, i, a.lot i, rfl, (hL i (List.mem_of_getElem? hi)).keep (s0.trans s1), q'⟩
    · obtain ⟨ids', hp, e1, hs⟩ := sort_ids (fun _ => rfl) p1 p2
      have hms : ids' = ids.mergeSort a.sooner := sorted_sooner hp (hs.imp fun {i j} h => sooner_iff.mpr (by
        have h' : ((a.lot i).from_ : Int) < ((a.lot j).from_ : Int) ∨ ((a.lot i).from_ : Int) = ((a.lot j).from_ : Int) ∧ i ≤ j := h
        omega))
      rw [e1] at h1
      have hlen : ids'.length < 64 := by rw [hp.length_eq]; exact hz
      have hmem : ∀ i ∈ ids', i ∈ ids := fun i hi => perm_mem hp hi
      have s01 := s0.trans s1
      refine ⟨so, rfl, ⟨_, SqL.of h1⟩, for_list (K := K) (a := so) (xs := refs adr ids') (fun j σ H2 => ∃ (v : Option V) (ys : List (Addr × Nat × Nat)), σ = [some (.ref l), some (.ref pl), v] ∧ Same H H2 ∧ H2 so = some (.lst (refs adr ids')) ∧ PlAt H2 pl adr ys ∧ ys.map (·.2) = a.put (ids'.take j) [])
        ⟨none, [], rfl, s01, h1, ⟨s1 _ _ upd_same, fun y hy => by cases hy⟩, rfl⟩ (fun j σ H2 _ ⟨_, _, _, _, h2, _⟩ => SqL.of h2) ?_ ?_⟩
      · rintro j x σ H2 hx ⟨v, ys, rfl, s2, h2, hP, ey⟩
        obtain ⟨i, hi, rfl⟩ := refs_at hx
        have hi' := hmem i (List.mem_of_getElem? hi)
        have hyl : ys.length ≤ 64 := by
          have e2 := congrArg List.length ey
          rw [List.length_map] at e2
          have e3 := congrArg List.length (put_fst a (ids'.take j) [])
          rw [List.length_map, List.map_nil, List.nil_append, List.length_take] at e3
          omega
        have hyi : ∀ y ∈ ys, y.2.1 ∈ ids := fun y hy => by
          have m1 : y.2.1 ∈ (ys.map (·.2)).map (·.1) := List.mem_map.mpr ⟨y.2, List.mem_map.mpr ⟨y, hy, rfl⟩, rfl⟩
          rw [ey, put_fst, List.map_nil, List.nil_append] at m1
          exact hmem _ (List.mem_of_mem_take m1)
        refine ⟨_, rfl, .inl ⟨rfl, _, SqL.of hP.1⟩, _, rfl, _, rfl, _, rfl, pl, adr i, a, adr, ys, i, rfl, hP, by omega, fun y hy => (hL _ (hyi y hy)).keep s2, (hL i hi').keep s2, fun H3 s3 => ⟨by show 2 ≤ sizeLine; decide, fun t ht => ?_⟩⟩
        have s4 : Same H3 (upd H3 t (.tup [.ref (adr i), .int (leastOf a (ys.map (·.2)) i : Nat)])) := same_new ht
        have hP3 := (hP.keep s3).keep s4
        refine ⟨pl, _, _, rfl, rfl, hP3.1, ?_, ?_⟩
        · rw [List.length_map]; exact small_line (by omega)
        · have ntp : t ≠ pl := fun z => by rw [z, s3 _ _ hP.1] at ht; cases ht
          have nso : so ≠ pl := fun z => by rw [z, upd_same] at n1; cases n1
          refine ⟨_, ys ++ [(t, i, leastOf a (ys.map (·.2)) i)], rfl, fun b o e => ?_, ?_, ⟨?_, fun y hy => ?_⟩, ?_⟩
          · rw [upd_ne (fun z => by rw [z, hpl] at e; cases e)]
            exact s4 _ _ (s3 _ _ (s2 _ _ e))
          · rw [upd_ne nso]
            exact s4 _ _ (s3 _ _ h2)
          · rw [upd_same, List.map_append]; rfl
          · rcases List.mem_append.mp hy with hy | hy
            · have e := hP3.2 y hy
              rw [upd_ne (fun z => by rw [z, hP3.1] at e; cases e)]
              exact e
            · rw [List.mem_singleton.mp hy, upd_ne ntp]
              exact upd_same
          · have et : ids'.take (j + 1) = ids'.take j ++ [i] := by rw [List.take_add_one, hi]; rfl
            rw [List.map_append, et, put_snoc, ey]; rfl
      · rintro σ H2 ⟨v, ys, rfl, s2, h2, hP, ey⟩
        refine ⟨_, rfl, q H2 pl ys s2 hpl hP ?_⟩
        rw [ey, refs_len, List.take_length, hms]; rfl

/-! ### taken_by -/
def spTaken (K : PySem.W.Frag) (CL : Addr) : Sp := fun vs H Q _ => ∃ (l : Addr) (k : Nat) (a : Kv349.Abs) (adr : Nat → Addr) (ids : List Nat), vs = [.ref l, .int k] ∧ SqL K H l (refs adr ids) ∧ ids.length < 64 ∧ LL CL H a adr ids ∧
  ∀ (H' : Hp) (q : Addr), Same H H' → H q = none → H' q = some (.lst (refs adr (a.most k ids))) → Q (.ref q) H'
theorem sc_taken : FnScope ["lots", "tanks", "taken", "lot"] ["lots", "tanks"] (defScope s_taken_by) := ⟨rfl, rfl, rfl, by decide +kernel, rfl, by decide +kernel, by decide +kernel⟩
theorem ok_taken {f : Addr} {fd : FuncData} (F : Fun K "taken_by" "taken_by" s_taken_by f fd) (T : Txt K mg CL CH) (D1 : Def P w K mg base 3 "most_at_once" ["lots"] (spPeak K CL)) (D2 : Def P w K mg base 1 "end_order" ["lot"] (spKeyE CL)) :
    FnOk P w K mg base CX0 4 f fd ["lots", "tanks"] (spTaken K CL) := by
  obtain ⟨f2, fd2, F2, m2, _, b2⟩ := D2.ex
  refine F.ok sc_taken (fun vs H Q E h => ?_) (fun cdv A outer s H vs Q E hr h => ?_)
  · obtain ⟨l, k, a, adr, ids, rfl, _⟩ := h
    rfl
  · obtain ⟨l, k, a, adr, ids, rfl, hl, hz, hL, q⟩ := h
    refine ⟨_, pss_cons (ps_set (i := 2) sc_taken.nd rfl (Or.inl rfl) (pe_lst pa_nil))
      (pss_cons (ps_for PassesOwn.never rfl (pi_list (pe_sortedK rfl T.srt (pv 0) rfl m2 F2 hr b2)) (pg_name (i := 3) sc_taken.nd rfl (Or.inl rfl))
        (pss_one (ps_if (pt_cmpR op_le (pe_def D1 hr rfl (pa_cons (pe_op op_cat (pv 2) (pe_lst (pa_cons (pv 3) pa_nil))) pa_nil)) (pv 1) (nomark _))
          (pss_one (ps_expr (pe_bm PySem.F.plainAttrs_list PySem.F.slot_list_append PySem.F.type_list_append mt_append (pv 2) (pa_cons (pv 3) pa_nil)))) pss_nil)))
      (pss_one (ps_ret (pv 2)))), ?_⟩
    refine ⟨Nat.zero_le _, fun pl hpl => ?_⟩
    have s0 : Same H (upd H pl (.lst [])) := same_new hpl
    refine ⟨_, rfl, l, refs adr ids, ids.map fun i => (((a.lot i).upto : Int), (i : Int)), rfl, s0.seq hl, by rw [refs_len]; exact hz, by rw [List.length_map, refs_len], fun j v z hv hk H1 s1 Q' q' => ?_, fun ps H1 so s1 n1 p1 p2 h1 => ?_⟩
    · obtain ⟨i, hi, rfl⟩ := refs_at hv
      rw [List.getElem?_map, hi] at hk
      have ez : ((((a.lot i).upto : Int), (i : Int)) : Int × Int) = z := Option.some.inj hk
      subst ez
      exact ⟨adr i, i, a.lot i, rfl, (hL i (List.mem_of_getElem? hi)).keep (s0.trans s1), q'⟩
    · obtain ⟨ids', hp, e1, hs⟩ := sort_ids (fun _ => rfl) p1 p2
      have hms : ids' = ids.mergeSort a.ends := sorted_ends hp (hs.imp fun {i j} h => ends_iff.mpr (by
        have h' : ((a.lot i).upto : Int) < ((a.lot j).upto : Int) ∨ ((a.lot i).upto : Int) = ((a.lot j).upto : Int) ∧ i ≤ j := h
        omega))
      rw [e1] at h1
      have hlen : ids'.length < 64 := by rw [hp.length_eq]; exact hz
      have hmem : ∀ i ∈ ids', i ∈ ids := fun i hi => perm_mem hp hi
      have nso : so ≠ pl := fun z => by rw [z, upd_same] at n1; cases n1
      refine ⟨so, rfl, ⟨_, SqL.of h1⟩, for_list (K := K) (a := so) (xs := refs adr ids') (fun j σ H2 => ∃ (v : Option V), σ = [some (.ref l), some (.int k), some (.ref pl), v] ∧ Same H H2 ∧ H2 so = some (.lst (refs adr ids')) ∧ H2 pl = some (.lst (refs adr (a.take k (ids'.take j) []))))
        ⟨none, rfl, s0.trans s1, h1, s1 _ _ upd_same⟩ (fun j σ H2 _ ⟨_, _, _, h2, _⟩ => SqL.of h2) ?_ ?_⟩
      · rintro j x σ H2 hx ⟨v, rfl, s2, h2, hP⟩
        obtain ⟨i, hi, rfl⟩ := refs_at hx
        have hi' := hmem i (List.mem_of_getElem? hi)
        have et : ids'.take (j + 1) = ids'.take j ++ [i] := by rw [List.take_add_one, hi]; rfl
        have hsub : (a.take k (ids'.take j) []).Sublist (ids'.take j) := take_sub a k (ids'.take j) []
        have htl : (a.take k (ids'.take j) []).length ≤ 64 := by
          have := hsub.length_le
          rw [List.length_take] at this
          omega
        have htm : ∀ x ∈ a.take k (ids'.take j) [] ++ [i], x ∈ ids := fun x hx => by
          rcases List.mem_append.mp hx with hx | hx
          · exact hmem _ (List.mem_of_mem_take (hsub.subset hx))
          · rw [List.mem_singleton.mp hx]; exact hi'
        refine ⟨_, rfl, _, rfl, (by show 1 ≤ sizeLine; decide), fun o1 no1 => ?_⟩
        have s3 : Same H2 (upd H2 o1 (.lst [.ref (adr i)])) := same_new no1
        refine ⟨pl, o1, _, _, rfl, rfl, s3 _ _ hP, upd_same, ?_, fun o2 no2 => ?_⟩
        · rw [refs_len]; exact Nat.le_of_lt (small_line (by show _ + 1 ≤ 1000; omega))
        have s4 := same_new (o := .lst (refs adr (a.take k (ids'.take j) []) ++ [.ref (adr i)])) no2
        have e4 : upd (upd H2 o1 (.lst [.ref (adr i)])) o2 (.lst (refs adr (a.take k (ids'.take j) []) ++ [.ref (adr i)])) o2 = some (.lst (refs adr (a.take k (ids'.take j) [] ++ [i]))) := by
          rw [upd_same]; unfold refs; rw [List.map_append]; rfl
        generalize upd (upd H2 o1 (.lst [.ref (adr i)])) o2 (.lst (refs adr (a.take k (ids'.take j) []) ++ [.ref (adr i)])) = H4 at s4 e4
        have s24 := s3.trans s4
        refine ⟨o2, a, adr, a.take k (ids'.take j) [] ++ [i], rfl, SqL.of e4, ?_, (hL.sub htm).keep (s2.trans s24), fun H5 s5 => ?_⟩
        · rw [List.length_append]; show _ + 1 ≤ 1000; omega
        have s25 := s24.trans s5
        have hp5 := s25 _ _ hP
        refine ⟨_, rfl, _, _, rfl, rfl, _, rfl, ite2 (fun c => ?_) (fun c => ?_)⟩
        · have c' := of_decide_eq_true c
          refine ⟨_, rfl, .inl ⟨rfl, _, SqL.of hp5⟩, _, rfl, pl, _, _, rfl, rfl, hp5, ?_, ?_⟩
          · rw [refs_len]; exact small_line (by omega)
          · refine ⟨_, rfl, fun b o e => ?_, ?_, ?_⟩
            · rw [upd_ne (fun z => by rw [z, hpl] at e; cases e)]
              exact s25 _ _ (s2 _ _ e)
            · rw [upd_ne nso]
              exact s25 _ _ h2
            · rw [upd_same, et, take_snoc1, if_pos (by omega)]
              unfold refs
              rw [List.map_append]; rfl
        · have c' := of_decide_eq_false (Bool.eq_false_iff.mpr c)
          refine ⟨_, rfl, s2.trans s25, s25 _ _ h2, ?_⟩
          rw [et, take_snoc1, if_neg (by omega)]
          exact hp5
      · rintro σ H2 ⟨v, rfl, s2, h2, hP⟩
        refine ⟨_, rfl, q H2 pl s2 hpl ?_⟩
        rw [refs_len, List.take_length, hms] at hP
        exact hP
end
end Ct
end
section
set_option Elab.async false
set_option linter.all false
set_option maxRecDepth 100000
set_option maxHeartbeats 4000000
namespace Ct
open PySem PySem.Spec PyProof.Rows L2
/-! ### the house -/
def kvs (adr : Nat → Addr) (ids : List Nat) : List (Key × V) := ids.map fun (i : Nat) => ((Sum.inl (i : Int) : Key), V.ref (adr i))
theorem kvs_val {adr : Nat → Addr} {i : Nat} : ∀ {ids : List Nat}, i ∈ ids → valV (kvs adr ids) (Sum.inl (i : Int)) = some (.ref (adr i))
  | [], h => by cases h
  | j :: ids, h => by
    show valV ((Sum.inl (j : Int), V.ref (adr j)) :: kvs adr ids) (Sum.inl (i : Int)) = _
    by_cases e : j = i
    · subst e; exact valV_pos rfl
    · rw [valV_neg (fun z => e (by have := Sum.inl.inj z; omega))]
      rcases List.mem_cons.mp h with z | z
      · exact absurd z.symm e
      · exact kvs_val z
theorem kvs_no {adr : Nat → Addr} {i : Nat} : ∀ {ids : List Nat}, i ∉ ids → valV (kvs adr ids) (Sum.inl (i : Int)) = none
  | [], _ => rfl
  | j :: ids, h => by
    show valV ((Sum.inl (j : Int), V.ref (adr j)) :: kvs adr ids) (Sum.inl (i : Int)) = _
    have e : ¬ j = i := fun z => h (by rw [z]; exact List.mem_cons_self)
    rw [valV_neg (fun z => e (by have := Sum.inl.inj z; omega))]
    exact kvs_no fun z => h (List.mem_cons_of_mem _ z)
theorem kvs_len {adr : Nat → Addr} {ids : List Nat} : (kvs adr ids).length = ids.length := List.length_map ..
theorem kvs_snd {adr : Nat → Addr} {ids : List Nat} : (kvs adr ids).map (·.2) = refs adr ids := by
  unfold kvs refs
  rw [List.map_map]; rfl
theorem kvs_drop {adr : Nat → Addr} {ids : List Nat} {l : Nat} : dropK (kvs adr ids) (Sum.inl (l : Int)) = kvs adr (ids.filter fun i => i != l) := by
  unfold dropK kvs
  rw [List.filter_map]
  congr 1
  refine List.filter_congr fun i _ => ?_
  show decide ((Sum.inl (i : Int) : Key) ≠ Sum.inl (l : Int)) = (i != l)
  by_cases e : i = l
  · subst e; simp
  · have h1 : (Sum.inl (i : Int) : Key) ≠ Sum.inl (l : Int) := fun z => e (by have := Sum.inl.inj z; omega)
    rw [decide_eq_true h1]
    simp [e]
structure HouseX (CL CH : Addr) (H : Hp) (p : Addr) (a : Kv349.Abs) (dx d : Addr) (adr : Nat → Addr) : Prop where
  obj : H p = some (.ins CH dx (hf true a.tanks a.need a.hour a.lots.length d))
  dic : H d = some (.dK (kvs adr a.ids))
  lots : LL CL H a adr a.ids
  ok : Ok a
theorem HouseX.keep {CL CH : Addr} {H H' : Hp} {p : Addr} {a : Kv349.Abs} {dx d : Addr} {adr : Nat → Addr} (h : HouseX CL CH H p a dx d adr) (k : Same H H') : HouseX CL CH H' p a dx d adr := ⟨k _ _ h.obj, k _ _ h.dic, h.lots.keep k, h.ok⟩
theorem HouseX.few {CL CH : Addr} {H : Hp} {p : Addr} {a : Kv349.Abs} {dx d : Addr} {adr : Nat → Addr} (h : HouseX CL CH H p a dx d adr) : a.ids.length ≤ 12 := h.ok.few
/-- the house stands for a state -/
def HouseAt (CL CH : Addr) (H : Hp) (p : Addr) : Option Kv349.Abs → Prop
  | none => ∃ dx d, H p = some (.ins CH dx (hf false 0 0 0 0 d))
  | some a => ∃ dx d adr, HouseX CL CH H p a dx d adr
theorem HouseAt.keep {CL CH : Addr} {H H' : Hp} {p : Addr} : ∀ {st : Option Kv349.Abs}, HouseAt CL CH H p st → Same H H' → HouseAt CL CH H' p st
  | none, ⟨dx, d, h⟩, k => ⟨dx, d, k _ _ h⟩
  | some a, ⟨dx, d, adr, h⟩, k => ⟨dx, d, adr, h.keep k⟩
/-- what no call changes: all but instances and dicts -/
def still : HO → Bool
  | .ins _ _ _ => false
  | .dK _ => false
  | _ => true
def Keeps (H H' : Hp) : Prop := ∀ b o, H b = some o → still o = true → H' b = some o
theorem Same.keeps {H H' : Hp} (k : Same H H') : Keeps H H' := fun b o e _ => k b o e
theorem Keeps.trans {H H1 H2 : Hp} (a : Keeps H H1) (b : Keeps H1 H2) : Keeps H H2 := fun c o e s => b c o (a c o e s) s
theorem Keeps.upd {H H' : Hp} {x : Addr} {o o' : HO} (k : Keeps H H') (hx : H' x = some o) (hs : still o = false) : Keeps H (upd H' x o') := fun b u e s => by
  have e' := k b u e s
  rw [upd_ne (fun z => by rw [z, hx] at e'; cases e'; rw [hs] at s; cases s)]
  exact e'
theorem Keeps.seq {K : PySem.W.Frag} {H H' : Hp} {a : Addr} {xs : List V} (k : Keeps H H') (h : SqL K H a xs) : SqL K H' a xs := by
  rcases h with (h | ⟨o, h⟩) | h
  · exact .inl (.inl (k _ _ h rfl))
  · exact .inl (.inr ⟨o, k _ _ h rfl⟩)
  · exact .inr h
/-- a module's constant -/
structure Con1 (mg : Str → Option Value) (x : Str) (v : V) : Prop where
  ex : ∃ u, mg x = some u ∧ RelV v u
theorem pcon {X : Cx} {x : Str} {v : V} {pos : Pos} (c : Con1 X.mg x v) (hg : Gl X x := by rfl) (hd : (x == ("__debug__" : Str)) = false := by decide) : PE X (.Name x pos) (tC v) := by
  obtain ⟨u, hm, r⟩ := c.ex
  exact pe_glob hg hm r hd
structure Cons (mg : Str → Option Value) : Prop where
  none_ : Con1 mg "NONE_SUCH" (.int (-2))
  notb : Con1 mg "NOT_BEGUN" (.int (-11))
  short : Con1 mg "TOO_SHORT" (.int (-12))
  over : Con1 mg "OVER" (.int (-16))
  ended : Con1 mg "ENDED" (.int (-17))
  oor : Con1 mg "OUT_OF_RANGE" (.int (-22))
  many : Con1 mg "TOO_MANY" (.int (-28))
  notank : Con1 mg "NO_TANK" (.int (-33))
  late : Con1 mg "TOO_LATE" (.int (-75))
  mTanks : Con1 mg "MOST_TANKS" (.int 6)
  mNeed : Con1 mg "MOST_NEED" (.int 500)
  mLots : Con1 mg "MOST_LOTS" (.int 12)
  mEver : Con1 mg "MOST_LOTS_EVER" (.int 60)
  mCr : Con1 mg "MOST_CRATES" (.int 1000)
  last : Con1 mg "LAST_HOUR" (.int 10000)
  mHours : Con1 mg "MOST_HOURS" (.int 500)
  beg : Con1 mg "BEGIN" (.int 0)
section
variable {P : Program} {w : World} {K : PySem.W.Frag} {mg : Str → Option Value} {base : Heap} {CL CH : Addr}
/-! ### House.__init__ -/
def spHouseInit (CL CH : Addr) : Sp := fun vs H Q _ => ∃ (p dx : Addr), vs = [.ref p] ∧ H p = some (.ins CH dx []) ∧ ∀ H' : Hp, HouseAt CL CH H' p none → (∀ q o, H q = some o → q ≠ p → H' q = some o) → Q .non H'
theorem sc_House_init : FnScope ["self"] ["self"] (defScope s_House_init) := ⟨rfl, rfl, rfl, by decide +kernel, rfl, by decide +kernel, by decide +kernel⟩
theorem ok_House_init {f : Addr} {fd : FuncData} (F : Fun K "__init__" "House.__init__" s_House_init f fd) (T : Txt K mg CL CH) : FnOk P w K mg base CX0 1 f fd ["self"] (spHouseInit CL CH) := by
  refine F.ok sc_House_init (fun vs H Q E h => ?_) (fun cdv A outer s H vs Q E hr h => ?_)
  · obtain ⟨p, dx, rfl, _⟩ := h
    rfl
  · obtain ⟨p, dx, rfl, hp, k⟩ := h
    refine ⟨_, pss_cons (ps_fld (pv 0) pe_bl rfl) (pss_cons (ps_fld (pv 0) pe_int rfl) (pss_cons (ps_fld (pv 0) pe_int rfl) (pss_cons (ps_fld (pv 0) pe_int rfl) (pss_cons (ps_fld (pv 0) pe_int rfl) (pss_one (ps_fld (pv 0) pe_dnewK rfl)))))), ?_⟩
    refine ⟨_, rfl, p, CH, dx, _, rfl, hp, T.clH, T.hB, (by decide), ?_⟩
    refine ⟨_, rfl, p, CH, dx, _, rfl, upd_same, T.clH, T.hT, (by show 1 < 1000; decide), ?_⟩
    refine ⟨_, rfl, p, CH, dx, _, rfl, upd_same, T.clH, T.hN, (by show 2 < 1000; decide), ?_⟩
    refine ⟨_, rfl, p, CH, dx, _, rfl, upd_same, T.clH, T.hH, (by show 3 < 1000; decide), ?_⟩
    refine ⟨_, rfl, p, CH, dx, _, rfl, upd_same, T.clH, T.hE, (by show 4 < 1000; decide), ?_⟩
    intro d hd
    have np : p ≠ d := fun z => by rw [← z, upd_same] at hd; cases hd
    refine ⟨_, rfl, p, CH, dx, _, rfl, (by rw [upd_ne np, upd_same]), T.clH, T.hL, (by show 5 < 1000; decide), ?_⟩
    refine k _ ⟨dx, d, upd_same⟩ fun q o e hq => ?_
    have nq : q ≠ d := fun z => by
      subst z
      rw [upd_ne hq, upd_ne hq, upd_ne hq, upd_ne hq, upd_ne hq, e] at hd
      cases hd
    rw [upd_ne hq, upd_ne nq, upd_ne hq, upd_ne hq, upd_ne hq, upd_ne hq, upd_ne hq]
    exact e
/-! ### all_lots, has_ended, within -/
def spAll (CL CH : Addr) : Sp := fun vs H Q _ => ∃ (p : Addr) (a : Kv349.Abs) (dx d : Addr) (adr : Nat → Addr), vs = [.ref p] ∧ HouseX CL CH H p a dx d adr ∧ ∀ (H' : Hp) (q : Addr), Same H H' → H q = none → H' q = some (.lst (refs adr a.ids)) → Q (.ref q) H'
theorem sc_all : FnScope ["house"] ["house"] (defScope s_all_lots) := ⟨rfl, rfl, rfl, by decide +kernel, rfl, by decide +kernel, by decide +kernel⟩
theorem ok_all {f : Addr} {fd : FuncData} (F : Fun K "all_lots" "all_lots" s_all_lots f fd) (T : Txt K mg CL CH) : FnOk P w K mg base CX0 1 f fd ["house"] (spAll CL CH) := by
  refine F.ok sc_all (fun vs H Q E h => ?_) (fun cdv A outer s H vs Q E hr h => ?_)
  · obtain ⟨p, a, dx, d, adr, rfl, _⟩ := h
    rfl
  · obtain ⟨p, a, dx, d, adr, rfl, hX, q⟩ := h
    refine ⟨_, pss_one (ps_ret (pe_callTy (call_list_vals rfl) rfl T.lst PyProof.Rows.boot_list (pa_cons (pe_vals (pe_fld (pv 0) rfl)) pa_nil))), ?_⟩
    refine ⟨_, rfl, p, CH, dx, _, _, rfl, hX.obj, T.clH, T.hL, hf_l .., d, _, rfl, hX.dic, fun v nv => ?_⟩
    have s1 : Same H (upd H v (ViewO v d)) := same_new nv
    refine ⟨v, d, _, rfl, upd_same, s1 _ _ hX.dic, fun l nl => q _ l (fun b o e => ?_) ?_ ?_⟩
    · rw [upd_ne (ne_of_none (s1 b o e) nl)]
      exact s1 b o e
    · cases e : H l with
      | none => rfl
      | some o => rw [s1 l o e] at nl; cases nl
    · rw [upd_same, kvs_snd]
def spEnded (CL CH : Addr) : Sp := fun vs H Q _ => ∃ (p q : Addr) (a : Kv349.Abs) (dx d : Addr) (i : Nat) (x : Kv349.Lot), vs = [.ref p, .ref q] ∧ H p = some (.ins CH dx (hf true a.tanks a.need a.hour a.lots.length d)) ∧ LotAt CL H q i x ∧ Q (.bl (decide (x.upto ≤ a.hour))) H
theorem sc_ended : FnScope ["house", "lot"] ["house", "lot"] (defScope s_has_ended) := ⟨rfl, rfl, rfl, by decide +kernel, rfl, by decide +kernel, by decide +kernel⟩
theorem nat_le (x y : Nat) : decide ((x : Int) ≤ (y : Int)) = decide (x ≤ y) := decide_eq_decide.mpr (by omega)
theorem nat_lt (x y : Nat) : decide ((x : Int) < (y : Int)) = decide (x < y) := decide_eq_decide.mpr (by omega)
theorem ok_ended {f : Addr} {fd : FuncData} (F : Fun K "has_ended" "has_ended" s_has_ended f fd) (T : Txt K mg CL CH) : FnOk P w K mg base CX0 1 f fd ["house", "lot"] (spEnded CL CH) := by
  refine F.ok sc_ended (fun vs H Q E h => ?_) (fun cdv A outer s H vs Q E hr h => ?_)
  · obtain ⟨p, q, a, dx, d, i, x, rfl, _⟩ := h
    rfl
  · obtain ⟨p, q, a, dx, d, i, x, rfl, hp, ⟨dy, hq⟩, k⟩ := h
    refine ⟨_, pss_one (ps_ret (pe_cmpR op_le (pe_fld (pv 1) rfl) (pe_fld (pv 0) rfl) (nomark _))), ?_⟩
    refine ⟨_, rfl, q, CL, dy, _, _, rfl, hq, T.clL, T.lE, lf_e .., _, rfl, p, CH, dx, _, _, rfl, hp, T.clH, T.hH, hf_h .., _, _, rfl, rfl, ?_⟩
    rw [← nat_le] at k
    exact k
def spWithin : Sp := fun vs H Q _ => ∃ (n lo hi : Int), vs = [.int n, .int lo, .int hi] ∧ Q (.bl (decide (lo ≤ n) && decide (n ≤ hi))) H
theorem sc_within : FnScope ["number", "least", "most"] ["number", "least", "most"] (defScope s_within) := ⟨rfl, rfl, rfl, by decide +kernel, rfl, by decide +kernel, by decide +kernel⟩
theorem ok_within {f : Addr} {fd : FuncData} (F : Fun K "within" "within" s_within f fd) : FnOk P w K mg base CX0 1 f fd ["number", "least", "most"] spWithin := by
  refine F.ok sc_within (fun vs H Q E h => ?_) (fun cdv A outer s H vs Q E hr h => ?_)
  · obtain ⟨n, lo, hi, rfl, _⟩ := h
    rfl
  · obtain ⟨n, lo, hi, rfl, k⟩ := h
    refine ⟨_, pss_one (ps_ret (pe_and (pe_cmpR op_le (pv 1) (pv 0) (nomark _)) (pe_one (pe_cmpR op_le (pv 0) (pv 2) (nomark _))))), ?_⟩
    refine ⟨_, rfl, _, rfl, _, _, rfl, rfl, _, rfl, ite2 (fun c => ?_) (fun c => ?_)⟩
    · rw [c, Bool.true_and] at k
      exact ⟨_, rfl, _, rfl, _, _, rfl, rfl, k⟩
    · rw [Bool.eq_false_iff.mpr c, Bool.false_and] at k
      exact k
def spHour : Sp := fun vs H Q _ => ∃ (n : Nat), vs = [.int n] ∧ Q (.bl (Kv349.okH n)) H
def spCount : Sp := fun vs H Q _ => ∃ (n : Nat), vs = [.int n] ∧ Q (.bl (Kv349.okN n)) H
theorem sc_hour : FnScope ["number"] ["number"] (defScope s_is_hour) := ⟨rfl, rfl, rfl, by decide +kernel, rfl, by decide +kernel, by decide +kernel⟩
theorem sc_count : FnScope ["number"] ["number"] (defScope s_is_count_of_hours) := ⟨rfl, rfl, rfl, by decide +kernel, rfl, by decide +kernel, by decide +kernel⟩
theorem ok_hour {f : Addr} {fd : FuncData} (F : Fun K "is_hour" "is_hour" s_is_hour f fd) (C : Cons mg) (D1 : Def P w K mg base 1 "within" ["number", "least", "most"] spWithin) : FnOk P w K mg base CX0 2 f fd ["number"] spHour := by
  refine F.ok sc_hour (fun vs H Q E h => ?_) (fun cdv A outer s H vs Q E hr h => ?_)
  · obtain ⟨n, rfl, _⟩ := h
    rfl
  · obtain ⟨n, rfl, k⟩ := h
    refine ⟨_, pss_one (ps_ret (pe_def D1 hr rfl (pa_cons (pv 0) (pa_cons pe_int (pa_cons (pcon C.last) pa_nil))))), ?_⟩
    refine ⟨_, rfl, _, _, _, rfl, ?_⟩
    have e : Kv349.okH n = (decide ((0 : Int) ≤ (n : Int)) && decide ((n : Int) ≤ 10000)) := by
      unfold Kv349.okH
      rw [decide_eq_true (show (0 : Int) ≤ (n : Int) by omega), Bool.true_and]
      exact decide_eq_decide.mpr (by omega)
    rw [e] at k
    exact k
theorem ok_count {f : Addr} {fd : FuncData} (F : Fun K "is_count_of_hours" "is_count_of_hours" s_is_count_of_hours f fd) (C : Cons mg) (D1 : Def P w K mg base 1 "within" ["number", "least", "most"] spWithin) : FnOk P w K mg base CX0 2 f fd ["number"] spCount := by
  refine F.ok sc_count (fun vs H Q E h => ?_) (fun cdv A outer s H vs Q E hr h => ?_)
  · obtain ⟨n, rfl, _⟩ := h
    rfl
  · obtain ⟨n, rfl, k⟩ := h
    refine ⟨_, pss_one (ps_ret (pe_def D1 hr rfl (pa_cons (pv 0) (pa_cons pe_int (pa_cons (pcon C.mHours) pa_nil))))), ?_⟩
    refine ⟨_, rfl, _, _, _, rfl, ?_⟩
    have e : Kv349.okN n = (decide ((1 : Int) ≤ (n : Int)) && decide ((n : Int) ≤ 500)) := by
      unfold Kv349.okN
      congr 1 <;> exact decide_eq_decide.mpr (by omega)
    rw [e] at k
    exact k
end
end Ct
end
section
set_option Elab.async false
set_option linter.all false
set_option maxRecDepth 100000
set_option maxHeartbeats 4000000
namespace Ct
open PySem PySem.Spec PyProof.Rows L2
section
variable {P : Program} {w : World} {K : PySem.W.Frag} {mg : Str → Option Value} {base : Heap} {CL CH : Addr}
/-! ### meeting -/
def spMeeting (K : PySem.W.Frag) (CL : Addr) : Sp := fun vs H Q _ => ∃ (l p : Addr) (i : Nat) (a : Kv349.Abs) (adr : Nat → Addr) (ids : List Nat), vs = [.ref l, .ref p] ∧ SqL K H l (refs adr ids) ∧ ids.length ≤ 1000 ∧ LL CL H a adr ids ∧ LotAt CL H p i (a.lot i) ∧
  ∀ (H' : Hp) (q : Addr), Same H H' → H q = none → H' q = some (.lst (refs adr (ids.filter fun j => j != i && (a.lot j).meets (a.lot i)))) → Q (.ref q) H'
theorem sc_meeting : FnScope ["lots", "lot", "other"] ["lots", "lot"] (defScope s_meeting) := ⟨rfl, rfl, rfl, by decide +kernel, rfl, by decide +kernel, by decide +kernel⟩
theorem ok_meeting {f : Addr} {fd : FuncData} (F : Fun K "meeting" "meeting" s_meeting f fd) (T : Txt K mg CL CH) (D1 : Def P w K mg base 1 "two_meet" ["one", "other"] (spMeet CL)) : FnOk P w K mg base CX0 2 f fd ["lots", "lot"] (spMeeting K CL) := by
  refine F.ok sc_meeting (fun vs H Q E h => ?_) (fun cdv A outer s H vs Q E hr h => ?_)
  · obtain ⟨l, p, i, a, adr, ids, rfl, _⟩ := h
    rfl
  · obtain ⟨l, p, i, a, adr, ids, rfl, hl, hz, hL, hp, q⟩ := h
    refine ⟨_, pss_one (ps_ret (pe_lc (own := [("other", 2)]) rfl sc_meeting.nd (pi_list (pv 0)) (blkOk_by rfl) (fun _ _ _ _ _ => pg_name (i := 2) sc_meeting.nd rfl (Or.inl rfl))
      (fun _ _ _ _ _ => pts_one (PW.pt (pw_and (pt_cmpR op_ne (fldK K (pv 2)) (fldK K (pv 1)) (nomark _)) (pw_and1 (pt_val (pe_def D1 hr rfl (pa_cons (pv 2) (pa_cons (pv 1) pa_nil)))))))) (fun _ _ _ _ _ => pv 2))), ?_⟩
    refine ⟨_, rfl, l, rfl, ⟨_, hl⟩, fun D hD => lc_go (f := fun i => V.ref (adr i)) (keep := fun j => j != i && (a.lot j).meets (a.lot i)) (val := fun i => V.ref (adr i)) hl hz hD (fun j hj H' sm KT KF kt kf => ?_) (fun H' sm h' => q H' D sm hD h')⟩
    obtain ⟨dj, ej⟩ := (hL j hj).keep sm
    obtain ⟨di, ei⟩ := hp.keep sm
    refine ⟨rfl, _, rfl, adr j, CL, dj, _, _, rfl, ej, T.clL, T.lN, lf_n .., _, rfl, p, CL, di, _, _, rfl, ei, T.clL, T.lN, lf_n .., rfl, _, rfl, ite2 (fun c => ?_) (fun c => ?_)⟩
    · have c' : j ≠ i := fun z => by
        subst z
        simp at c
      refine ⟨_, rfl, _, rfl, adr j, p, j, i, a.lot j, a.lot i, rfl, ⟨dj, ej⟩, ⟨di, ei⟩, _, rfl, ?_⟩
      have e : (j != i && (a.lot j).meets (a.lot i)) = (a.lot j).meets (a.lot i) := by
        rw [show (j != i) = true from by simpa using c', Bool.true_and]
      rw [e] at kt kf
      exact ite2 (fun c2 => ⟨_, rfl, kt c2 _ (Same.refl _)⟩) (fun c2 => kf (Bool.eq_false_iff.mpr c2) _ (Same.refl _))
    · have c' : j = i := Classical.byContradiction fun z => c (by
        have : ¬ (j : Int) = (i : Int) := by omega
        simpa using this)
      refine iteF (kf ?_ _ (Same.refl _))
      subst c'
      simp
/-! ### hours_left -/
def spLeft (CL : Addr) : Sp := fun vs H Q _ => ∃ (p : Addr) (i h : Nat) (x : Kv349.Lot), vs = [.ref p, .int h] ∧ LotAt CL H p i x ∧ Q (.int (x.upto - max h x.from_ : Nat)) H
theorem sc_hleft : FnScope ["lot", "hour"] ["lot", "hour"] (defScope s_hours_left) := ⟨rfl, rfl, rfl, by decide +kernel, rfl, by decide +kernel, by decide +kernel⟩
theorem left_int (u h b : Nat) : (if (0 : Int) > (u : Int) - (if (h : Int) > (b : Int) then (h : Int) else (b : Int)) then (0 : Int) else (u : Int) - (if (h : Int) > (b : Int) then (h : Int) else (b : Int))) = ((u - max h b : Nat) : Int) := by
  by_cases c : (h : Int) > (b : Int)
  · rw [if_pos c]
    by_cases d : (0 : Int) > (u : Int) - (h : Int)
    · rw [if_pos d]; omega
    · rw [if_neg d]; omega
  · rw [if_neg c]
    by_cases d : (0 : Int) > (u : Int) - (b : Int)
    · rw [if_pos d]; omega
    · rw [if_neg d]; omega
theorem ok_hleft {f : Addr} {fd : FuncData} (F : Fun K "hours_left" "hours_left" s_hours_left f fd) (T : Txt K mg CL CH) : FnOk P w K mg base CX0 1 f fd ["lot", "hour"] (spLeft CL) := by
  refine F.ok sc_hleft (fun vs H Q E h => ?_) (fun cdv A outer s H vs Q E hr h => ?_)
  · obtain ⟨p, i, h', x, rfl, _⟩ := h
    rfl
  · obtain ⟨p, i, h, x, rfl, ⟨dx, hp⟩, q⟩ := h
    refine ⟨_, pss_one (ps_ret (pe_callB (call_max2 rfl) rfl T.max_ PyProof.Rows.boot_max (pa_cons (pe_op op_sub (pe_fld (pv 0) rfl) (pe_callB (call_max2 rfl) rfl T.max_ PyProof.Rows.boot_max (pa_cons (pe_fld (pv 0) rfl) (pa_cons (pv 1) pa_nil)))) (pa_cons pe_int pa_nil)))), ?_⟩
    refine ⟨_, rfl, p, CL, dx, _, _, rfl, hp, T.clL, T.lE, lf_e .., _, rfl, p, CL, dx, _, _, rfl, hp, T.clL, T.lB, lf_b .., _, rfl, _, _, rfl, _, _, rfl, rfl, _, _, rfl, ?_⟩
    rw [← left_int] at q
    exact q
/-! ### first_hour -/
def spFirst (K : PySem.W.Frag) (CL : Addr) : Sp := fun vs H Q _ => ∃ (l : Addr) (h n k : Nat) (a : Kv349.Abs) (adr : Nat → Addr), vs = [.ref l, .int h, .int n, .int k] ∧ SqL K H l (refs adr a.ids) ∧ a.ids.length ≤ 12 ∧ LL CL H a adr a.ids ∧ 1 ≤ n ∧ 1 ≤ k ∧
  ∀ (H' : Hp), Same H H' → Q (.int ((a.first k h n).getD 0 : Nat)) H'
theorem sc_first : FnScope ["lots", "hour", "count", "tanks", "asked", "lot", "begins"] ["lots", "hour", "count", "tanks"] (defScope s_first_hour) := ⟨rfl, rfl, rfl, by decide +kernel, rfl, by decide +kernel, by decide +kernel⟩
theorem first_least {a : Kv349.Abs} {h n k : Nat} {m : Int} (hn : 1 ≤ n) (hk : 1 ≤ k) (h1 : m ∈ ((cands a h).filter fun x => a.may k x n).map fun (x : Nat) => (x : Int)) (h2 : ∀ y, y ∈ (((cands a h).filter fun x => a.may k x n).map fun (x : Nat) => (x : Int)) → m ≤ y) : (((a.first k h n).getD 0 : Nat) : Int) = m := by
  obtain ⟨m', hm, rfl⟩ := List.mem_map.mp h1
  obtain ⟨m1, m2⟩ := List.mem_filter.mp hm
  obtain ⟨s, s1, s2, s3⟩ := first_exists (a := a) (h := h) (n := n) hk
  have hs := h2 (s : Int) (List.mem_map.mpr ⟨s, List.mem_filter.mpr ⟨first_cand hn s1 s2 s3, s2⟩, rfl⟩)
  rw [first_get hn s1 s2 s3]
  have : ¬ m' < s := fun z => by
    have := s3 m' (cand_ge m1) z
    rw [m2] at this; cases this
  omega
theorem first_some {a : Kv349.Abs} {h n k : Nat} (hn : 1 ≤ n) (hk : 1 ≤ k) : 0 < (((cands a h).filter fun x => a.may k x n).map fun (x : Nat) => (x : Int)).length := by
  obtain ⟨s, s1, s2, s3⟩ := first_exists (a := a) (h := h) (n := n) hk
  exact List.length_pos_of_mem (List.mem_map.mpr ⟨s, List.mem_filter.mpr ⟨first_cand hn s1 s2 s3, s2⟩, rfl⟩)
theorem cands_eq (a : Kv349.Abs) (h : Nat) : cands a h = h :: (a.ids.filter fun i => decide (h < (a.lot i).upto)).map fun i => (a.lot i).upto := by
  unfold cands
  rw [List.filter_map]; rfl
theorem cands_len (a : Kv349.Abs) (h : Nat) : (cands a h).length ≤ 1 + a.ids.length := by
  rw [cands_eq, List.length_cons, List.length_map]
  have := (List.filter_sublist (p := fun i => decide (h < (a.lot i).upto)) (l := a.ids)).length_le
  omega
theorem ok_first {f : Addr} {fd : FuncData} (F : Fun K "first_hour" "first_hour" s_first_hour f fd) (T : Txt K mg CL CH) (D1 : Def P w K mg base 3 "may_lie" ["lots", "hour", "count", "tanks"] (spMay K CL)) : FnOk P w K mg base CX0 4 f fd ["lots", "hour", "count", "tanks"] (spFirst K CL) := by
  refine F.ok sc_first (fun vs H Q E h => ?_) (fun cdv A outer s H vs Q E hr h => ?_)
  · obtain ⟨l, h', n, k, a, adr, rfl, _⟩ := h
    rfl
  · obtain ⟨l, h, n, k, a, adr, rfl, hl, hz, hL, hn, hk, q⟩ := h
    refine ⟨_, pss_cons (ps_set (i := 4) sc_first.nd rfl (Or.inl rfl) (pe_op op_cat (pe_lst (pa_cons (pv 1) pa_nil)) (pe_lc (own := [("lot", 5)]) rfl sc_first.nd (pi_list (pv 0)) (blkOk_by rfl) (fun _ _ _ _ _ => pg_name (i := 5) sc_first.nd rfl (Or.inl rfl))
        (fun _ _ _ _ _ => pts_one (pt_cmpR op_gt (fldK K (pv 5)) (pv 1) (nomark _))) (fun _ _ _ _ _ => fldK K (pv 5)))))
      (pss_one (ps_ret (pe_callB (cr_min rfl) rfl T.min_ PyProof.Rows.boot_min (pa_cons (pe_lc (own := [("begins", 6)]) rfl sc_first.nd (pi_list (pv 4)) (blkOk_by rfl) (fun _ _ _ _ _ => pg_name (i := 6) sc_first.nd rfl (Or.inl rfl))
        (fun _ _ _ _ _ => pts_one (pt_val (pe_def D1 hr rfl (pa_cons (pv 0) (pa_cons (pv 6) (pa_cons (pv 2) (pa_cons (pv 3) pa_nil))))))) (fun _ _ _ _ _ => pv 6)) pa_nil)))), ?_⟩
    refine ⟨_, rfl, (by show 1 ≤ sizeLine; decide), fun l1 n1 => ?_⟩
    have s1 : Same H (upd H l1 (.lst [.int h])) := same_new n1
    have h1 : upd H l1 (.lst [.int h]) l1 = some (.lst [.int h]) := upd_same
    generalize upd H l1 (.lst [.int h]) = H1 at s1 h1
    refine ⟨_, rfl, l, rfl, ⟨_, s1.seq hl⟩, fun D hD => lc_go (f := fun i => V.ref (adr i)) (keep := fun i => decide (h < (a.lot i).upto)) (val := fun i => V.int ((a.lot i).upto : Nat)) (s1.seq hl) (by omega) hD (fun i hi H' sm KT KF kt kf => ?_) (fun H2 s2 h2 => ?_)⟩
    · obtain ⟨dx, e⟩ := (hL i hi).keep (s1.trans sm)
      refine ⟨rfl, _, rfl, adr i, CL, dx, _, _, rfl, e, T.clL, T.lE, lf_e .., _, rfl, _, _, rfl, rfl, _, rfl, ite2 (fun c => ?_) (fun c => ?_)⟩
      · have c' := of_decide_eq_true c
        exact ⟨_, rfl, adr i, CL, dx, _, _, rfl, e, T.clL, T.lE, lf_e .., kt (decide_eq_true (by omega)) _ (Same.refl _)⟩
      · have c' := of_decide_eq_false (Bool.eq_false_iff.mpr c)
        exact kf (decide_eq_false (by omega)) _ (Same.refl _)
    · have hcl := cands_len a h
      have hfl : (a.ids.filter fun i => decide (h < (a.lot i).upto)).length ≤ a.ids.length := List.filter_sublist.length_le
      refine ⟨l1, D, _, _, rfl, rfl, s2 _ _ h1, h2, ?_, fun l2 n2 => ?_⟩
      · rw [List.length_map]
        exact Nat.le_of_lt (small_line (by show 1 + _ ≤ 1000; omega))
      have s3 := same_new (o := .lst ([.int h] ++ (a.ids.filter fun i => decide (h < (a.lot i).upto)).map fun i => V.int ((a.lot i).upto : Nat))) n2
      have hx : upd H2 l2 (.lst ([.int h] ++ (a.ids.filter fun i => decide (h < (a.lot i).upto)).map fun i => V.int ((a.lot i).upto : Nat))) l2 = some (.lst ((cands a h).map fun (x : Nat) => V.int x)) := by
        rw [upd_same, cands_eq, List.map_cons, List.map_map]; rfl
      generalize upd H2 l2 (.lst ([.int h] ++ (a.ids.filter fun i => decide (h < (a.lot i).upto)).map fun i => V.int ((a.lot i).upto : Nat))) = H3 at s3 hx
      have s03 := (s1.trans s2).trans s3
      refine ⟨_, rfl, l2, rfl, ⟨_, SqL.of hx⟩, fun D2 hD2 => lc_go (f := fun (x : Nat) => V.int x) (keep := fun x => a.may k x n) (val := fun (x : Nat) => V.int x) (SqL.of hx) (by omega) hD2 (fun x hx' H' sm KT KF kt kf => ?_) (fun H4 s4 h4 => ?_)⟩
      · refine ⟨rfl, _, rfl, _, rfl, _, rfl, _, rfl, l, x, n, k, a, adr, a.ids, rfl, (s03.trans sm).seq hl, by omega, hL.keep (s03.trans sm), fun H5 s5 => ⟨_, rfl, ?_⟩⟩
        rw [mayL_eq]
        exact ite2 (fun c2 => ⟨_, rfl, kt c2 _ s5⟩) (fun c2 => kf (Bool.eq_false_iff.mpr c2) _ s5)
      · refine ⟨D2, ((cands a h).filter fun x => a.may k x n).map fun (x : Nat) => (x : Int), rfl, SqL.of (by rw [h4, List.map_map]; rfl), first_some hn hk, fun m m1 m2 => ?_⟩
        have := q H4 (s03.trans s4)
        rw [first_least hn hk m1 m2] at this
        exact this
/-! ### lots_of -/
def spLotsOf (CL CH : Addr) : Sp := fun vs H Q _ => ∃ (p t : Addr) (a : Kv349.Abs) (dx d : Addr) (adr : Nat → Addr) (l : List Nat), vs = [.ref p, .ref t] ∧ HouseX CL CH H p a dx d adr ∧ H t = some (.lst (l.map fun (x : Nat) => V.int x)) ∧ l.length ≤ 100 ∧ (∀ i ∈ l, i ∈ a.ids) ∧
  ∀ (H' : Hp) (q : Addr), Same H H' → H q = none → H' q = some (.lst (refs adr l)) → Q (.ref q) H'
theorem sc_lotsof : FnScope ["house", "told", "number"] ["house", "told"] (defScope s_lots_of) := ⟨rfl, rfl, rfl, by decide +kernel, rfl, by decide +kernel, by decide +kernel⟩
theorem ok_lotsof {f : Addr} {fd : FuncData} (F : Fun K "lots_of" "lots_of" s_lots_of f fd) (T : Txt K mg CL CH) : FnOk P w K mg base CX0 1 f fd ["house", "told"] (spLotsOf CL CH) := by
  refine F.ok sc_lotsof (fun vs H Q E h => ?_) (fun cdv A outer s H vs Q E hr h => ?_)
  · obtain ⟨p, t, a, dx, d, adr, l, rfl, _⟩ := h
    rfl
  · obtain ⟨p, t, a, dx, d, adr, l, rfl, hX, ht, hz, b3, q⟩ := h
    refine ⟨_, pss_one (ps_ret (pe_lc (own := [("number", 2)]) rfl sc_lotsof.nd (pi_list (pv 1)) (blkOk_by rfl) (fun _ _ _ _ _ => pg_name (i := 2) sc_lotsof.nd rfl (Or.inl rfl)) (fun _ _ _ _ _ => pts_nil)
      (fun _ _ _ _ _ => pe_dget (hu_of hr) (fldK K (pv 0)) (pv 2) (fun _ _ => rfl)))), ?_⟩
    refine ⟨_, rfl, t, rfl, ⟨_, SqL.of ht⟩, fun D hD => lc_go (f := fun (x : Nat) => V.int x) (keep := fun _ => true) (val := fun i => V.ref (adr i)) (SqL.of ht) (by omega) hD (fun i hi H' sm KT KF kt _ => ?_) (fun H' sm h' => ?_)⟩
    · refine ⟨rfl, iteT (B := KF H') ⟨_, rfl, p, CH, dx, _, _, rfl, sm _ _ hX.obj, T.clH, T.hL, hf_l .., _, rfl, d, _, rfl, ?_, kt rfl _ (Same.refl _)⟩⟩
      have := DGet.k (k := (Sum.inl (i : Int) : Key)) (sm _ _ hX.dic)
      rw [kvs_val (b3 i hi)] at this
      exact this
    · rw [filter_yes] at h'
      exact q H' D sm hD h'
end
end Ct
end
section
set_option Elab.async false
set_option linter.all false
set_option maxRecDepth 100000
set_option maxHeartbeats 4000000
namespace Ct
open PySem PySem.Spec PyProof.Rows L2
open Kv349 (say okH okN)
def nums (ns : List Nat) : List V := ns.map fun (x : Nat) => V.int x
def rowV (x : Kv349.Ans) : List V := (Kv349Neutral.row x).map V.int
/-- what is told to a call -/
def Told (H : Hp) (t : Addr) (ns : List Nat) : Option (List Nat) → Prop
  | none => H t = some (.lst (nums ns))
  | some r => ∃ rt, H t = some (.lst (nums ns ++ [.ref rt])) ∧ H rt = some (.lst (nums r))
/-- an answering def's promise -/
def spAct (CL CH : Addr) (c : Kv349.Call) (ns : List Nat) (row : Option (List Nat)) : Sp := fun vs H Q _ => ∃ (p t : Addr) (a : Kv349.Abs), vs = [.ref p, .ref t] ∧ HouseAt CL CH H p (some a) ∧ Told H t ns row ∧
  ∀ (H' : Hp) (q : Addr), Keeps H H' → HouseAt CL CH H' p (some (a.does c).1) → H q = none → H' q = some (.lst (rowV (a.does c).2)) → Q (.ref q) H'
theorem act_len {CL CH : Addr} {c : Kv349.Call} {ns : List Nat} {row : Option (List Nat)} {vs : List V} {H : Hp} {Q : VK} {E : XK} (h : spAct CL CH c ns row vs H Q E) : vs.length = 2 := by
  obtain ⟨p, t, a, rfl, _⟩ := h
  rfl
/-- one number is answered, nothing has changed -/
theorem say_only {CL CH : Addr} {H H1 : Hp} {p l : Addr} {a : Kv349.Abs} {c : Kv349.Call} {Q : VK} {z : Int} (q : ∀ (H' : Hp) (q : Addr), Keeps H H' → HouseAt CL CH H' p (some (a.does c).1) → H q = none → H' q = some (.lst (rowV (a.does c).2)) → Q (.ref q) H')
    (e : a.does c = (a, say z)) (hX : HouseAt CL CH H p (some a)) (s : Same H H1) (nl : H1 l = none) : Q (.ref l) (upd H1 l (.lst [.int z])) := by
  rw [e] at q
  have s2 : Same H (upd H1 l (.lst [.int z])) := fun b o h => by rw [upd_ne (ne_of_none (s b o h) nl)]; exact s b o h
  exact q _ l (Same.keeps s2) (hX.keep s2) (s.free nl) upd_same
section
variable {P : Program} {w : World} {K : PySem.W.Frag} {mg : Str → Option Value} {base : Heap} {CL CH : Addr}
/-! ### tank -/
theorem sc_tank : FnScope ["house", "told"] ["house", "told"] (defScope s_answer_tank) := ⟨rfl, rfl, rfl, by decide +kernel, rfl, by decide +kernel, by decide +kernel⟩
theorem house_put {H H1 : Hp} {p dx d : Addr} {a b : Kv349.Abs} {adr : Nat → Addr} (hX : HouseX CL CH H p a dx d adr) (ho : H1 p = some (.ins CH dx (hf true b.tanks b.need b.hour b.lots.length d))) (ke : ∀ x o, H x = some o → x ≠ p → H1 x = some o) (hl : b.lots = a.lots) (ok : Ok b) : HouseX CL CH H1 p b dx d adr := by
  have ei : b.ids = a.ids := by unfold Kv349.Abs.ids Kv349.Abs.lot; rw [hl]
  have el : ∀ i, b.lot i = a.lot i := fun i => by unfold Kv349.Abs.lot; rw [hl]
  refine ⟨ho, ?_, fun i hi => ?_, ok⟩
  · rw [ei]
    exact ke _ _ hX.dic (fun z => by have := hX.dic; rw [z, hX.obj] at this; cases this)
  · rw [ei] at hi
    rw [el]
    obtain ⟨dy, e⟩ := hX.lots i hi
    refine ⟨dy, ke _ _ e fun z => ?_⟩
    rw [z, hX.obj] at e
    have e' := Option.some.inj e
    injection e' with _ _ e3
    have e4 := congrArg List.length e3
    exact absurd e4 (by show ¬ (6 = 4); decide)
theorem ok_tank {f : Addr} {fd : FuncData} (F : Fun K "answer_tank" "answer_tank" s_answer_tank f fd) (T : Txt K mg CL CH) (C : Cons mg) : FnOk P w K mg base CX0 1 f fd ["house", "told"] (spAct CL CH .tank [] none) := by
  refine F.ok sc_tank (fun vs H Q E h => act_len h) (fun cdv A outer s H vs Q E hr h => ?_)
  obtain ⟨p, t, a, rfl, hA, ht, q⟩ := h
  obtain ⟨dx, d, adr, hX⟩ := id hA
  refine ⟨_, pss_cons (ps_if (pt_cmpR op_ge (pe_fld (pv 0) rfl) (pcon C.mTanks) (nomark _)) (pss_one (ps_ret (pe_lst (pa_cons (pcon C.many) pa_nil)))) pss_nil)
    (pss_cons (ps_fld (pv 0) (pe_op op_add (pe_fld (pv 0) rfl) pe_int) rfl) (pss_one (ps_ret (pe_lst (pa_cons (pe_fld (pv 0) rfl) pa_nil))))), ?_⟩
  refine ⟨_, rfl, p, CH, dx, _, _, rfl, hX.obj, T.clH, T.hT, hf_t .., _, _, rfl, rfl, _, rfl, ite2 (fun c => ?_) (fun c => ?_)⟩
  · have c' := of_decide_eq_true c
    refine ⟨(by show 1 ≤ sizeLine; decide), fun l nl => say_only q ?_ hA (Same.refl _) nl⟩
    show (if 6 ≤ a.tanks then _ else _) = _
    rw [if_pos (by omega)]
  · have c' := of_decide_eq_false (Bool.eq_false_iff.mpr c)
    have e : a.does .tank = ({ a with tanks := a.tanks + 1 }, say (a.tanks + 1 : Nat)) := by
      show (if 6 ≤ a.tanks then _ else _) = _
      rw [if_neg (by omega)]
    refine ⟨_, rfl, p, CH, dx, _, _, rfl, hX.obj, T.clH, T.hT, hf_t .., _, _, rfl, rfl, _, rfl, p, CH, dx, _, rfl, hX.obj, T.clH, T.hT, (by show 6 < 1000; decide), ?_⟩
    refine ⟨_, rfl, p, CH, dx, _, _, rfl, upd_same, T.clH, T.hT, (hf_t ..), (by show 1 ≤ sizeLine; decide), fun l nl => ?_⟩
    rw [e] at q
    have kp : Keeps H (upd H p (.ins CH dx (hf true ((a.tanks : Int) + 1) a.need a.hour a.lots.length d))) := Keeps.upd (Same.keeps (Same.refl H)) hX.obj rfl
    have nl' : H l = none := by
      cases e2 : H l with
      | none => rfl
      | some o =>
        by_cases z : l = p
        · rw [z, upd_same] at nl; cases nl
        · rw [upd_ne z, e2] at nl; cases nl
    have hN : HouseX CL CH (upd H p (.ins CH dx (hf true ((a.tanks : Int) + 1) a.need a.hour a.lots.length d))) p { a with tanks := a.tanks + 1 } dx d adr := house_put hX (by rw [upd_same]; rfl) (fun x o h1 h2 => by rw [upd_ne h2]; exact h1) rfl (ok_tank_ hX.ok (by omega))
    have s2 := same_new (o := .lst [.int ((a.tanks : Int) + 1)]) nl
    exact q _ l (kp.trans (Same.keeps s2)) ⟨dx, d, adr, hN.keep s2⟩ nl' upd_same
end
end Ct
end
section
set_option Elab.async false
set_option linter.all false
set_option maxRecDepth 100000
set_option maxHeartbeats 4000000
namespace Ct
open PySem PySem.Spec PyProof.Rows L2
open Kv349 (say okH okN)
/-- a list is answered, nothing has changed -/
theorem tell_only {CL CH : Addr} {H H1 : Hp} {p l : Addr} {a : Kv349.Abs} {c : Kv349.Call} {Q : VK} {x : Kv349.Ans} (q : ∀ (H' : Hp) (q : Addr), Keeps H H' → HouseAt CL CH H' p (some (a.does c).1) → H q = none → H' q = some (.lst (rowV (a.does c).2)) → Q (.ref q) H')
    (e : a.does c = (a, x)) (hX : HouseAt CL CH H p (some a)) (s : Same H H1) (nl : H l = none) (hl : H1 l = some (.lst (rowV x))) : Q (.ref l) H1 := by
  rw [e] at q
  exact q _ l (Same.keeps s) (hX.keep s) nl hl
theorem rowV_list (l : List Nat) : rowV (Kv349.list l) = V.int l.length :: nums l := by
  show (((l.length : Nat) : Int) :: l.map Int.ofNat).map V.int = _
  rw [List.map_cons, List.map_map]; rfl
theorem nums_len {l : List Nat} : (nums l).length = l.length := List.length_map ..
section
variable {P : Program} {w : World} {K : PySem.W.Frag} {mg : Str → Option Value} {base : Heap} {CL CH : Addr}
abbrev DAll (P : Program) (w : World) (K : PySem.W.Frag) (mg : Str → Option Value) (base : Heap) (CL CH : Addr) : Prop := Def P w K mg base 1 "all_lots" ["house"] (spAll CL CH)
/-! ### fewest -/
theorem sc_fewest : FnScope ["house", "told"] ["house", "told"] (defScope s_answer_fewest) := ⟨rfl, rfl, rfl, by decide +kernel, rfl, by decide +kernel, by decide +kernel⟩
theorem ok_fewest {f : Addr} {fd : FuncData} (F : Fun K "answer_fewest" "answer_fewest" s_answer_fewest f fd) (D1 : DAll P w K mg base CL CH) (D2 : Def P w K mg base 3 "most_at_once" ["lots"] (spPeak K CL)) : FnOk P w K mg base CX0 4 f fd ["house", "told"] (spAct CL CH .fewest [] none) := by
  refine F.ok sc_fewest (fun vs H Q E h => act_len h) (fun cdv A outer s H vs Q E hr h => ?_)
  obtain ⟨p, t, a, rfl, hA, ht, q⟩ := h
  obtain ⟨dx, d, adr, hX⟩ := id hA
  have hr1 : Room 1 _ := hr.mono (by decide)
  refine ⟨_, pss_one (ps_ret (pe_lst (pa_cons (pe_def D2 hr rfl (pa_cons (pe_def D1 hr1 rfl (pa_cons (pv 0) pa_nil)) pa_nil)) pa_nil))), ?_⟩
  refine ⟨_, rfl, p, a, dx, d, adr, rfl, hX, fun H1 l1 s1 n1 h1 => ?_⟩
  refine ⟨l1, a, adr, a.ids, rfl, SqL.of h1, (by have := hX.few; omega), hX.lots.keep s1, fun H2 s2 => ?_⟩
  exact ⟨(by show 1 ≤ sizeLine; decide), fun l nl => say_only q rfl hA (s1.trans s2) nl⟩
/-! ### these, by rising numbers -/
theorem sorted_nats {l : List Nat} {ns : List Int} (hp : ns.Perm (l.map fun (x : Nat) => (x : Int))) (hs : ns.Pairwise (· ≤ ·)) : ns.map V.int = nums (Kv349.rise l) := by
  have h0 : ∀ z ∈ ns, ∃ x : Nat, z = (x : Int) := fun z hz => by
    obtain ⟨x, _, rfl⟩ := List.mem_map.mp (hp.mem_iff.mp hz)
    exact ⟨x, rfl⟩
  have e1 : ns = (ns.map Int.toNat).map fun (x : Nat) => (x : Int) := by
    rw [List.map_map]
    conv => lhs; rw [← List.map_id ns]
    refine List.map_congr_left fun z hz => ?_
    obtain ⟨x, rfl⟩ := h0 z hz
    rfl
  have e2 : ns.map Int.toNat = Kv349.rise l := by
    refine sorted_rise ?_ ?_
    · have := hp.map Int.toNat
      rw [List.map_map] at this
      have e3 : l.map (Int.toNat ∘ fun (x : Nat) => (x : Int)) = l := by
        conv => rhs; rw [← List.map_id l]
        exact List.map_congr_left fun x _ => rfl
      rw [e3] at this
      exact this
    · rw [List.pairwise_map]
      refine hs.imp_of_mem fun {x y} hx hy h => ?_
      obtain ⟨x', rfl⟩ := h0 x hx
      obtain ⟨y', rfl⟩ := h0 y hy
      show x' ≤ y'
      omega
  rw [e1, e2]
  unfold nums
  rw [List.map_map]; rfl
theorem most_sub (a : Kv349.Abs) (k : Nat) (l : List Nat) : ∀ i ∈ a.most k l, i ∈ l := fun i hi => by
  have h1 : i ∈ l.mergeSort a.ends := (take_sub a k (l.mergeSort a.ends) []).subset hi
  exact (List.mergeSort_perm l a.ends).mem_iff.mp h1
theorem most_len (a : Kv349.Abs) (k : Nat) (l : List Nat) : (a.most k l).length ≤ l.length := by
  have h1 := (take_sub a k (l.mergeSort a.ends) []).length_le
  have h2 := (List.mergeSort_perm l a.ends).length_eq
  show (a.take k (l.mergeSort a.ends) []).length ≤ _
  rw [List.nil_append] at h1
  omega
theorem rise_len (l : List Nat) : (Kv349.rise l).length = l.length := (List.mergeSort_perm l fun x y => decide (x ≤ y)).length_eq
theorem these_row (l : List Nat) : rowV (Kv349.list (Kv349.rise l)) = V.int (l.length : Nat) :: nums (Kv349.rise l) := by
  rw [rowV_list, rise_len]
theorem rise_ids (a : Kv349.Abs) (p : Nat → Bool) : a.ids.filter p = Kv349.rise (a.ids.filter p) := sorted_rise (List.Perm.refl _) (((ids_sorted a).sublist List.filter_sublist).imp fun h => Nat.le_of_lt h)
/-- some are answered by rising numbers, nothing has changed -/
theorem these_only {CL CH : Addr} {H H1 : Hp} {p l : Addr} {a : Kv349.Abs} {c : Kv349.Call} {Q : VK} {ids : List Nat} (q : ∀ (H' : Hp) (q : Addr), Keeps H H' → HouseAt CL CH H' p (some (a.does c).1) → H q = none → H' q = some (.lst (rowV (a.does c).2)) → Q (.ref q) H')
    (e : a.does c = (a, Kv349.list (Kv349.rise ids))) (hX : HouseAt CL CH H p (some a)) (s : Same H H1) (nl : H l = none) (hl : H1 l = some (.lst (V.int (ids.length : Nat) :: nums (Kv349.rise ids)))) : Q (.ref l) H1 :=
  tell_only q e hX s nl (by rw [hl, these_row])
def spThese (K : PySem.W.Frag) (CL : Addr) : Sp := fun vs H Q _ => ∃ (l : Addr) (a : Kv349.Abs) (adr : Nat → Addr) (ids : List Nat), vs = [.ref l] ∧ SqL K H l (refs adr ids) ∧ ids.length ≤ 12 ∧ LL CL H a adr ids ∧
  ∀ (H' : Hp) (q : Addr), Same H H' → H q = none → H' q = some (.lst (V.int (ids.length : Nat) :: nums (Kv349.rise ids))) → Q (.ref q) H'
theorem sc_these : FnScope ["lots"] ["lots"] (defScope s_count_and_these) := ⟨rfl, rfl, rfl, by decide +kernel, rfl, by decide +kernel, by decide +kernel⟩
theorem ok_these {f : Addr} {fd : FuncData} (F : Fun K "count_and_these" "count_and_these" s_count_and_these f fd) (T : Txt K mg CL CH) (D1 : Def P w K mg base 1 "numbers_of" ["lots"] (spNumbers K CL)) : FnOk P w K mg base CX0 2 f fd ["lots"] (spThese K CL) := by
  refine F.ok sc_these (fun vs H Q E h => ?_) (fun cdv A outer s H vs Q E hr h => ?_)
  · obtain ⟨l, a, adr, ids, rfl, _⟩ := h
    rfl
  · obtain ⟨l, a, adr, ids, rfl, hl, hz, hL, q⟩ := h
    refine ⟨_, pss_one (ps_ret (pe_op op_cat (pe_lst (pa_cons (lenK K T.len (pv 0)) pa_nil)) (pe_callB cr_sorted rfl T.srt boot_sorted (pa_cons (pe_def D1 hr rfl (pa_cons (pv 0) pa_nil)) pa_nil)))), ?_⟩
    refine ⟨_, rfl, l, _, rfl, hl, (by show 1 ≤ sizeLine; decide), fun l1 n1 => ?_⟩
    rw [refs_len]
    have s1 := same_new (o := .lst [.int (ids.length : Nat)]) n1
    have h1 : upd H l1 (.lst [.int (ids.length : Nat)]) l1 = some (.lst [.int (ids.length : Nat)]) := upd_same
    generalize upd H l1 (.lst [.int (ids.length : Nat)]) = H1 at s1 h1
    refine ⟨_, rfl, l, a, adr, ids, rfl, s1.seq hl, (by omega), hL.keep s1, fun H2 l2 s2 n2 h2 => ?_⟩
    refine ⟨l2, ids.map fun (x : Nat) => (x : Int), rfl, SqL.of (by rw [h2, List.map_map]; rfl), by rw [List.length_map]; omega, fun ns l3 hp hs n3 => ?_⟩
    have h3 : upd H2 l3 (.lst (ns.map V.int)) l3 = some (.lst (nums (Kv349.rise ids))) := by rw [upd_same, sorted_nats hp hs]
    have s3 := same_new (o := .lst (ns.map V.int)) n3
    generalize upd H2 l3 (.lst (ns.map V.int)) = H3 at h3 s3
    have hrl := rise_len ids
    refine ⟨l1, l3, _, _, rfl, rfl, s3 _ _ (s2 _ _ h1), h3, ?_, fun l4 n4 => ?_⟩
    · rw [nums_len]; exact Nat.le_of_lt (small_line (by show 1 + _ ≤ 1000; omega))
    · have s03 := (s1.trans s2).trans s3
      exact q _ l4 (s03.trans (same_new n4)) (s03.free n4) upd_same
abbrev DThese (P : Program) (w : World) (K : PySem.W.Frag) (mg : Str → Option Value) (base : Heap) (CL : Addr) : Prop := Def P w K mg base 2 "count_and_these" ["lots"] (spThese K CL)
/-! ### at -/
theorem sc_at : FnScope ["house", "told", "hour"] ["house", "told"] (defScope s_answer_at) := ⟨rfl, rfl, rfl, by decide +kernel, rfl, by decide +kernel, by decide +kernel⟩
theorem ok_at {f : Addr} {fd : FuncData} (F : Fun K "answer_at" "answer_at" s_answer_at f fd) (T : Txt K mg CL CH) (C : Cons mg) (D1 : DAll P w K mg base CL CH) (D2 : Def P w K mg base 2 "lying" ["lots", "hour"] (spLying K CL)) (D3 : DThese P w K mg base CL) (D4 : Def P w K mg base 2 "is_hour" ["number"] spHour) :
    FnOk P w K mg base CX0 3 f fd ["house", "told"] (fun vs H Q E => ∃ h, spAct CL CH (.at_ h) [h] none vs H Q E) := by
  refine F.ok sc_at (fun vs H Q E ⟨_, h⟩ => act_len h) (fun cdv A outer s H vs Q E hr h => ?_)
  obtain ⟨h, p, t, a, rfl, hA, ht, q⟩ := h
  obtain ⟨dx, d, adr, hX⟩ := id hA
  have hr1 : Room 1 _ := hr.mono (by decide)
  refine ⟨_, pss_cons (ps_set (i := 2) sc_at.nd rfl (Or.inl rfl) (pe_ix ix_list (pv 1) pe_int (fun _ _ => rfl)))
    (pss_cons (ps_if (pt_not (pt_val (pe_def D4 hr rfl (pa_cons (pv 2) pa_nil)))) (pss_one (ps_ret (pe_lst (pa_cons (pcon C.oor) pa_nil)))) pss_nil)
    (pss_one (ps_ret (pe_def D3 hr rfl (pa_cons (pe_def D2 hr rfl (pa_cons (pe_def D1 hr1 rfl (pa_cons (pv 0) pa_nil)) (pa_cons (pv 2) pa_nil))) pa_nil))))), ?_⟩
  refine ⟨_, rfl, t, _, _, _, rfl, rfl, SqL.of ht, atI_nat (j := 0) rfl, ?_⟩
  refine ⟨_, rfl, h, rfl, _, rfl, ?_⟩
  cases hc : okH h with
  | false =>
    refine iteT ⟨(by show 1 ≤ sizeLine; decide), fun l nl => say_only q ?_ hA (Same.refl _) nl⟩
    show (if okH h = false then _ else _) = _
    rw [if_pos hc]
  | true =>
    refine iteF ⟨_, rfl, p, a, dx, d, adr, rfl, hX, fun H1 l1 s1 n1 h1 => ?_⟩
    refine ⟨_, rfl, l1, h, a, adr, a.ids, rfl, SqL.of h1, (by have := hX.few; omega), hX.lots.keep s1, fun H2 l2 s2 n2 h2 => ?_⟩
    have hfl : (a.ids.filter fun i => (a.lot i).at_ h).length ≤ 12 := Nat.le_trans List.filter_sublist.length_le hX.few
    refine ⟨l2, a, adr, _, rfl, SqL.of h2, hfl, (hX.lots.sub fun i hi => (List.mem_filter.mp hi).1).keep (s1.trans s2), fun H3 l3 s3 n3 h3 => ?_⟩
    refine these_only q ?_ hA ((s1.trans s2).trans s3) ((s1.trans s2).free n3) h3
    show (if okH h = false then _ else _) = _
    rw [if_neg (by rw [hc]; decide), ← rise_ids]
/-! ### most -/
theorem sc_most : FnScope ["house", "told", "tanks"] ["house", "told"] (defScope s_answer_most) := ⟨rfl, rfl, rfl, by decide +kernel, rfl, by decide +kernel, by decide +kernel⟩
theorem ok_most {f : Addr} {fd : FuncData} (F : Fun K "answer_most" "answer_most" s_answer_most f fd) (T : Txt K mg CL CH) (C : Cons mg) (D1 : DAll P w K mg base CL CH) (D2 : Def P w K mg base 4 "taken_by" ["lots", "tanks"] (spTaken K CL)) (D3 : DThese P w K mg base CL) :
    FnOk P w K mg base CX0 5 f fd ["house", "told"] (fun vs H Q E => ∃ k, spAct CL CH (.most k) [k] none vs H Q E) := by
  refine F.ok sc_most (fun vs H Q E ⟨_, h⟩ => act_len h) (fun cdv A outer s H vs Q E hr h => ?_)
  obtain ⟨k, p, t, a, rfl, hA, ht, q⟩ := h
  obtain ⟨dx, d, adr, hX⟩ := id hA
  have hr1 : Room 1 _ := hr.mono (by decide)
  have hr2 : Room 2 _ := hr.mono (by decide)
  refine ⟨_, pss_cons (ps_set (i := 2) sc_most.nd rfl (Or.inl rfl) (pe_ix ix_list (pv 1) pe_int (fun _ _ => rfl)))
    (pss_cons (ps_if (pt_cmpR op_gt (pv 2) (pcon C.mTanks) (nomark _)) (pss_one (ps_ret (pe_lst (pa_cons (pcon C.oor) pa_nil)))) pss_nil)
    (pss_one (ps_ret (pe_def D3 hr2 rfl (pa_cons (pe_def D2 hr rfl (pa_cons (pe_def D1 hr1 rfl (pa_cons (pv 0) pa_nil)) (pa_cons (pv 2) pa_nil))) pa_nil))))), ?_⟩
  refine ⟨_, rfl, t, _, _, _, rfl, rfl, SqL.of ht, atI_nat (j := 0) rfl, ?_⟩
  refine ⟨_, rfl, _, _, rfl, rfl, _, rfl, ite2 (fun c => ?_) (fun c => ?_)⟩
  · have c' := of_decide_eq_true c
    refine ⟨(by show 1 ≤ sizeLine; decide), fun l nl => say_only q ?_ hA (Same.refl _) nl⟩
    show (if 6 < k then _ else _) = _
    rw [if_pos (by omega)]
  · have c' := of_decide_eq_false (Bool.eq_false_iff.mpr c)
    refine ⟨_, rfl, p, a, dx, d, adr, rfl, hX, fun H1 l1 s1 n1 h1 => ?_⟩
    refine ⟨_, rfl, l1, k, a, adr, a.ids, rfl, SqL.of h1, (by have := hX.few; omega), hX.lots.keep s1, fun H2 l2 s2 n2 h2 => ?_⟩
    have hml := most_len a k a.ids
    have hfew := hX.few
    refine ⟨l2, a, adr, _, rfl, SqL.of h2, (by omega), (hX.lots.sub (most_sub a k a.ids)).keep (s1.trans s2), fun H3 l3 s3 n3 h3 => ?_⟩
    refine these_only q ?_ hA ((s1.trans s2).trans s3) ((s1.trans s2).free n3) h3
    show (if 6 < k then _ else _) = _
    rw [if_neg (by omega)]
end
end Ct
end
section
set_option Elab.async false
set_option linter.all false
set_option maxRecDepth 100000
set_option maxHeartbeats 4000000
namespace Ct
open PySem PySem.Spec PyProof.Rows L2
open Kv349 (say okH okN)
/-! ### as many as differ -/
theorem ded_le : ∀ (l acc : List Int), (l.foldl step_dedup acc).length ≤ acc.length + l.length
  | [], acc => Nat.le_refl _
  | x :: l, acc => by
    rw [List.foldl_cons]
    have ih := ded_le l (step_dedup acc x)
    have h1 : (step_dedup acc x).length ≤ acc.length + 1 := by
      unfold step_dedup
      split
      · omega
      · rw [List.length_append]; exact Nat.le_refl _
    rw [List.length_cons]
    omega
theorem ded_eq : ∀ (l acc : List Int), l.Nodup → (∀ x ∈ l, x ∉ acc) → (l.foldl step_dedup acc).length = acc.length + l.length
  | [], acc, _, _ => rfl
  | x :: l, acc, nd, hd => by
    obtain ⟨n1, n2⟩ := List.nodup_cons.mp nd
    have hx : step_dedup acc x = acc ++ [x] := by
      unfold step_dedup
      rw [if_neg]
      intro h
      obtain ⟨y, hy, e⟩ := List.any_eq_true.mp h
      have e' : y = x := by simpa using e
      exact hd x List.mem_cons_self (e' ▸ hy)
    rw [List.foldl_cons, hx, ded_eq l (acc ++ [x]) n2 (fun y hy => ?_), List.length_append]
    · show acc.length + 1 + l.length = acc.length + (l.length + 1)
      omega
    · intro h
      rcases List.mem_append.mp h with h | h
      · exact hd y (List.mem_cons_of_mem _ hy) h
      · rw [List.mem_singleton.mp h] at hy
        exact n1 hy
theorem ded_lt : ∀ (l acc : List Int), ¬ (l.Nodup ∧ ∀ x ∈ l, x ∉ acc) → (l.foldl step_dedup acc).length < acc.length + l.length
  | [], acc, h => absurd ⟨List.nodup_nil, fun x hx => by cases hx⟩ h
  | x :: l, acc, h => by
    rw [List.foldl_cons, List.length_cons]
    by_cases hx : x ∈ acc
    · have e : step_dedup acc x = acc := by
        unfold step_dedup
        rw [if_pos (List.any_eq_true.mpr ⟨x, hx, by simp⟩)]
      rw [e]
      have := ded_le l acc
      omega
    · have e : step_dedup acc x = acc ++ [x] := by
        unfold step_dedup
        rw [if_neg]
        intro h
        obtain ⟨y, hy, e⟩ := List.any_eq_true.mp h
        have e' : y = x := by simpa using e
        exact hx (e' ▸ hy)
      rw [e]
      have ih := ded_lt l (acc ++ [x]) fun ⟨n, hd⟩ => h ⟨List.nodup_cons.mpr ⟨fun hm => hd x hm (List.mem_append_right _ (List.mem_singleton.mpr rfl)), n⟩, fun y hy => by
        rcases List.mem_cons.mp hy with rfl | hy
        · exact hx
        · exact fun z => hd y hy (List.mem_append_left _ z)⟩
      rw [List.length_append] at ih
      have : ([x] : List Int).length = 1 := rfl
      omega
theorem met_list (ns : List Int) : firstMet (fun i => ns.getD i 0) ns.length = ns.foldl step_dedup [] := by
  unfold firstMet
  congr 1
  refine List.ext_getElem? fun i => ?_
  rw [List.getElem?_map]
  by_cases h : i < ns.length
  · rw [List.getElem?_range h, List.getElem?_eq_getElem h]
    show some (ns.getD i 0) = _
    rw [List.getD_eq_getElem?_getD, List.getElem?_eq_getElem h]; rfl
  · rw [List.getElem?_eq_none (by rw [List.length_range]; omega), List.getElem?_eq_none (by omega)]; rfl
theorem differ {l : List Nat} : (firstMet (fun i => (l.map fun (x : Nat) => (x : Int)).getD i 0) (l.map fun (x : Nat) => (x : Int)).length).length < l.length ↔ ¬ l.Nodup := by
  have hn : (l.map fun (x : Nat) => (x : Int)).Nodup ↔ l.Nodup := by
    constructor
    · intro h
      exact (List.pairwise_map.mp h).imp fun h e => h (by rw [e])
    · intro h
      exact List.pairwise_map.mpr (h.imp fun h e => h (by omega))
  rw [met_list]
  constructor
  · intro h nd
    have := ded_eq _ [] (hn.mpr nd) (fun x _ z => by cases z)
    rw [List.length_map] at this
    have e0 : ([] : List Int).length = 0 := rfl
    omega
  · intro h
    have := ded_lt (l.map fun (x : Nat) => (x : Int)) [] fun z => h (hn.mp z.1)
    rw [List.length_map] at this
    have e0 : ([] : List Int).length = 0 := rfl
    omega
section
variable {P : Program} {w : World} {K : PySem.W.Frag} {mg : Str → Option Value} {base : Heap} {CL CH : Addr}
/-! ### refusal_of_lots -/
def spBad (CL CH : Addr) : Sp := fun vs H Q _ => ∃ (p t : Addr) (a : Kv349.Abs) (dx d : Addr) (adr : Nat → Addr) (l : List Nat), vs = [.ref p, .ref t] ∧ HouseX CL CH H p a dx d adr ∧ H t = some (.lst (nums l)) ∧ l.length ≤ 100 ∧ ∀ H' : Hp, Same H H' → Q (.int (a.bad l)) H'
theorem sc_bad : FnScope ["house", "told", "number"] ["house", "told"] (defScope s_refusal_of_lots) := ⟨rfl, rfl, rfl, by decide +kernel, rfl, by decide +kernel, by decide +kernel⟩
theorem bad_first {a : Kv349.Abs} {l : List Nat} (h : 12 < l.length ∨ ¬ l.Nodup) : a.bad l = -22 := by
  unfold Kv349.Abs.bad
  rw [if_pos]
  rcases h with h | h
  · exact .inl h
  · exact .inr (propext ⟨fun z => absurd z h, fun z => by cases z⟩)
theorem bad_second {a : Kv349.Abs} {l : List Nat} (h1 : ¬ 12 < l.length) (h2 : l.Nodup) {i : Nat} (hi : i ∈ l) (hn : i ∉ a.ids) : a.bad l = -2 := by
  unfold Kv349.Abs.bad
  rw [if_neg, if_pos]
  · refine List.any_eq_true.mpr ⟨i, hi, ?_⟩
    rw [Bool.not_eq_true', Bool.eq_false_iff]
    exact fun z => hn (has_iff.mp z)
  · rintro (h | h)
    · exact h1 h
    · rw [h] at h2
      cases h2
theorem bad_none {a : Kv349.Abs} {l : List Nat} (h1 : ¬ 12 < l.length) (h2 : l.Nodup) (h3 : ∀ i ∈ l, i ∈ a.ids) : a.bad l = 0 := by
  unfold Kv349.Abs.bad
  rw [if_neg, if_neg]
  · intro h
    obtain ⟨i, hi, e⟩ := List.any_eq_true.mp h
    rw [has_iff.mpr (h3 i hi)] at e
    cases e
  · rintro (h | h)
    · exact h1 h
    · rw [h] at h2
      cases h2
theorem bad_ok {a : Kv349.Abs} {l : List Nat} (h : a.bad l = 0) : l.length ≤ 12 ∧ l.Nodup ∧ ∀ i ∈ l, i ∈ a.ids := by
  have h1 : ¬ 12 < l.length := fun z => by rw [bad_first (.inl z)] at h; cases h
  have h2 : l.Nodup := Classical.byContradiction fun z => by rw [bad_first (.inr z)] at h; cases h
  exact ⟨by omega, h2, fun i hi => Classical.byContradiction fun z => by rw [bad_second h1 h2 hi z] at h; cases h⟩
theorem bad_neg {a : Kv349.Abs} {l : List Nat} (h : a.bad l ≠ 0) : a.bad l < 0 := by
  unfold Kv349.Abs.bad at h ⊢
  split
  · decide
  · split
    · decide
    · rename_i h1 h2
      rw [if_neg h1, if_neg h2] at h
      exact absurd rfl h
theorem ok_bad {f : Addr} {fd : FuncData} (F : Fun K "refusal_of_lots" "refusal_of_lots" s_refusal_of_lots f fd) (T : Txt K mg CL CH) (C : Cons mg) : FnOk P w K mg base CX0 1 f fd ["house", "told"] (spBad CL CH) := by
  refine F.ok sc_bad (fun vs H Q E h => ?_) (fun cdv A outer s H vs Q E hr h => ?_)
  · obtain ⟨p, t, a, dx, d, adr, l, rfl, _⟩ := h
    rfl
  obtain ⟨p, t, a, dx, d, adr, l, rfl, hX, ht, hz, q⟩ := h
  refine ⟨_, pss_cons (ps_if (PW.pt (pw_or (pt_cmpR op_gt (lenK K T.len (pv 1)) (pcon C.mLots) (nomark _))
      (pw_or1 (pt_cmpR op_lt (pe_callB call_len_sets rfl T.len PySem.boot_len (pa_cons (pe_callTy (call_set_ints rfl) rfl T.set_ PyProof.Rows.boot_set (pa_cons (pv 1) pa_nil)) pa_nil)) (lenK K T.len (pv 1)) (nomark _))))) (pss_one (ps_ret (pcon C.oor))) pss_nil)
    (pss_cons (ps_for PassesOwn.never rfl (pi_list (pv 1)) (pg_name (i := 2) sc_bad.nd rfl (Or.inl rfl))
      (pss_one (ps_if (pt_cmp (pc_dnotin (hu_of hr) (pv 2) (pe_fld (pv 0) rfl))) (pss_one (ps_ret (pcon C.none_))) pss_nil)))
    (pss_one (ps_ret pe_int))), ?_⟩
  refine ⟨_, rfl, t, _, rfl, SqL.of ht, _, _, rfl, rfl, _, rfl, ?_⟩
  have fin : ∀ z, a.bad l = z → ∀ H', Same H H' → Q (.int z) H' := fun z e H' s => by
    have := q H' s
    rw [e] at this; exact this
  refine ite2 (fun c => ?_) (fun c => ?_)
  · have c' := of_decide_eq_true c
    rw [nums_len] at c'
    refine iteT (fin _ (bad_first (.inl (by omega))) _ (Same.refl _))
  · have c' := of_decide_eq_false (Bool.eq_false_iff.mpr c)
    rw [nums_len] at c'
    have h1 : ¬ 12 < l.length := by omega
    refine ⟨_, rfl, t, l.map fun (x : Nat) => (x : Int), rfl, SqL.of (by rw [ht, List.map_map]; rfl), by rw [List.length_map]; omega, fun sa S ns => ?_⟩
    have s1 := same_new (o := .set S (firstMet (fun i => (l.map fun (x : Nat) => (x : Int)).getD i 0) (l.map fun (x : Nat) => (x : Int)).length).length) ns
    refine ⟨sa, S, _, rfl, upd_same, _, rfl, t, _, rfl, SqL.of (s1 _ _ ht), _, _, rfl, rfl, _, rfl, ite2 (fun c2 => ?_) (fun c2 => ?_)⟩
    · have c2' := of_decide_eq_true c2
      rw [nums_len] at c2'
      exact fin _ (bad_first (.inr (differ.mp (by omega)))) _ s1
    · have c2' := of_decide_eq_false (Bool.eq_false_iff.mpr c2)
      rw [nums_len] at c2'
      have h2 : l.Nodup := Classical.byContradiction fun z => c2' (by have := differ.mpr z; omega)
      generalize upd H sa _ = H1 at s1
      refine ⟨_, rfl, t, rfl, ⟨_, SqL.of (s1 _ _ ht)⟩, for_list (K := K) (a := t) (xs := nums l) (fun i σ H' => ∃ v : Option V, σ = [some (.ref p), some (.ref t), v] ∧ H' = H1 ∧ ∀ x ∈ l.take i, x ∈ a.ids)
        ⟨none, rfl, rfl, by simp⟩ (fun i σ H' _ ⟨_, _, e, _⟩ => by rw [e]; exact SqL.of (s1 _ _ ht)) ?_ ?_⟩
      · rintro i y σ H' hi ⟨v, rfl, rfl, hc⟩
        obtain ⟨x, hx, rfl⟩ : ∃ x, l[i]? = some x ∧ y = V.int (x : Nat) := by
          unfold nums at hi
          rw [List.getElem?_map] at hi
          cases e : l[i]? with
          | none => rw [e] at hi; cases hi
          | some x => rw [e] at hi; exact ⟨x, rfl, (Option.some.inj hi).symm⟩
        refine ⟨_, rfl, _, rfl, p, CH, dx, _, _, rfl, s1 _ _ hX.obj, T.clH, T.hL, hf_l .., d, _, rfl, DGet.k (k := Sum.inl (x : Int)) (s1 _ _ hX.dic), _, rfl, ?_⟩
        by_cases hm : x ∈ a.ids
        · rw [kvs_val hm]
          refine iteF ⟨_, rfl, rfl, fun z hz' => ?_⟩
          rw [List.take_add_one, hx] at hz'
          rcases List.mem_append.mp hz' with hz' | hz'
          · exact hc z hz'
          · have e : z = x := by simpa using hz'
            rw [e]; exact hm
        · rw [kvs_no hm]
          exact iteT (fin _ (bad_second h1 h2 (List.mem_of_getElem? hx) hm) _ s1)
      · rintro σ H' ⟨v, rfl, rfl, hc⟩
        rw [nums_len, List.take_length] at hc
        exact fin _ (bad_none h1 h2 hc) _ s1
/-! ### peak -/
abbrev DBad (P : Program) (w : World) (K : PySem.W.Frag) (mg : Str → Option Value) (base : Heap) (CL CH : Addr) : Prop := Def P w K mg base 1 "refusal_of_lots" ["house", "told"] (spBad CL CH)
abbrev DLotsOf (P : Program) (w : World) (K : PySem.W.Frag) (mg : Str → Option Value) (base : Heap) (CL CH : Addr) : Prop := Def P w K mg base 1 "lots_of" ["house", "told"] (spLotsOf CL CH)
theorem sc_peak_ : FnScope ["house", "told", "refusal"] ["house", "told"] (defScope s_answer_peak) := ⟨rfl, rfl, rfl, by decide +kernel, rfl, by decide +kernel, by decide +kernel⟩
theorem ok_peak_ {f : Addr} {fd : FuncData} (F : Fun K "answer_peak" "answer_peak" s_answer_peak f fd) (D1 : DBad P w K mg base CL CH) (D2 : Def P w K mg base 3 "most_at_once" ["lots"] (spPeak K CL)) (D3 : DLotsOf P w K mg base CL CH) :
    FnOk P w K mg base CX0 4 f fd ["house", "told"] (fun vs H Q E => ∃ l : List Nat, l.length ≤ 100 ∧ spAct CL CH (.peak l) [] (some l) vs H Q E) := by
  refine F.ok sc_peak_ (fun vs H Q E ⟨_, _, h⟩ => act_len h) (fun cdv A outer s H vs Q E hr h => ?_)
  obtain ⟨l, hz, p, t, a, rfl, hA, ⟨rt, ht, hrt⟩, q⟩ := h
  obtain ⟨dx, d, adr, hX⟩ := id hA
  have hr1 : Room 1 _ := hr.mono (by decide)
  refine ⟨_, pss_cons (ps_set (i := 2) sc_peak_.nd rfl (Or.inl rfl) (pe_def D1 hr1 rfl (pa_cons (pv 0) (pa_cons (pe_ix ix_list (pv 1) pe_int (fun _ _ => rfl)) pa_nil))))
    (pss_cons (ps_if (pt_cmpR op_lt (pv 2) pe_int (nomark _)) (pss_one (ps_ret (pe_lst (pa_cons (pv 2) pa_nil)))) pss_nil)
    (pss_one (ps_ret (pe_lst (pa_cons (pe_def D2 hr rfl (pa_cons (pe_def D3 hr1 rfl (pa_cons (pv 0) (pa_cons (pe_ix ix_list (pv 1) pe_int (fun _ _ => rfl)) pa_nil))) pa_nil)) pa_nil))))), ?_⟩
  refine ⟨_, rfl, _, rfl, t, _, _, _, rfl, rfl, SqL.of ht, atI_nat (j := 0) rfl, p, rt, a, dx, d, adr, l, rfl, hX, hrt, hz, fun H1 s1 => ?_⟩
  refine ⟨_, rfl, _, _, rfl, rfl, _, rfl, ite2 (fun c => ?_) (fun c => ?_)⟩
  · have c' := of_decide_eq_true c
    refine ⟨_, rfl, (by show 1 ≤ sizeLine; decide), fun l' nl => say_only q ?_ hA s1 nl⟩
    show (if a.bad l ≠ 0 then _ else _) = _
    rw [if_pos (by omega)]
  · have c' := of_decide_eq_false (Bool.eq_false_iff.mpr c)
    have hb : a.bad l = 0 := Classical.byContradiction fun z => c' (bad_neg z)
    obtain ⟨b1, b2, b3⟩ := bad_ok hb
    refine ⟨_, rfl, _, rfl, t, _, _, _, rfl, rfl, SqL.of (s1 _ _ ht), atI_nat (j := 0) rfl, p, rt, a, dx, d, adr, l, rfl, hX.keep s1, s1 _ _ hrt, hz, b3, fun H2 l2 s2 n2 h2 => ?_⟩
    refine ⟨l2, a, adr, l, rfl, SqL.of h2, by omega, (hX.lots.sub b3).keep (s1.trans s2), fun H3 s3 => ⟨(by show 1 ≤ sizeLine; decide), fun l' nl => say_only q ?_ hA ((s1.trans s2).trans s3) nl⟩⟩
    show (if a.bad l ≠ 0 then _ else _) = _
    rw [if_neg (by omega)]
/-! ### mostof -/
theorem sc_mostof : FnScope ["house", "told", "tanks", "refusal"] ["house", "told"] (defScope s_answer_mostof) := ⟨rfl, rfl, rfl, by decide +kernel, rfl, by decide +kernel, by decide +kernel⟩
theorem ok_mostof {f : Addr} {fd : FuncData} (F : Fun K "answer_mostof" "answer_mostof" s_answer_mostof f fd) (C : Cons mg) (D1 : DBad P w K mg base CL CH) (D2 : Def P w K mg base 4 "taken_by" ["lots", "tanks"] (spTaken K CL)) (D3 : DLotsOf P w K mg base CL CH) (D4 : DThese P w K mg base CL) :
    FnOk P w K mg base CX0 5 f fd ["house", "told"] (fun vs H Q E => ∃ (k : Nat) (l : List Nat), l.length ≤ 100 ∧ spAct CL CH (.mostOf k l) [k] (some l) vs H Q E) := by
  refine F.ok sc_mostof (fun vs H Q E ⟨_, _, _, h⟩ => act_len h) (fun cdv A outer s H vs Q E hr h => ?_)
  obtain ⟨k, l, hz, p, t, a, rfl, hA, ⟨rt, ht, hrt⟩, q⟩ := h
  obtain ⟨dx, d, adr, hX⟩ := id hA
  have hr1 : Room 1 _ := hr.mono (by decide)
  have hr2 : Room 2 _ := hr.mono (by decide)
  refine ⟨_, pss_cons (ps_set (i := 2) sc_mostof.nd rfl (Or.inl rfl) (pe_ix ix_list (pv 1) pe_int (fun _ _ => rfl)))
    (pss_cons (ps_if (pt_cmpR op_gt (pv 2) (pcon C.mTanks) (nomark _)) (pss_one (ps_ret (pe_lst (pa_cons (pcon C.oor) pa_nil)))) pss_nil)
    (pss_cons (ps_set (i := 3) sc_mostof.nd rfl (Or.inl rfl) (pe_def D1 hr1 rfl (pa_cons (pv 0) (pa_cons (pe_ix ix_list (pv 1) pe_int (fun _ _ => rfl)) pa_nil))))
    (pss_cons (ps_if (pt_cmpR op_lt (pv 3) pe_int (nomark _)) (pss_one (ps_ret (pe_lst (pa_cons (pv 3) pa_nil)))) pss_nil)
    (pss_one (ps_ret (pe_def D4 hr2 rfl (pa_cons (pe_def D2 hr rfl (pa_cons (pe_def D3 hr1 rfl (pa_cons (pv 0) (pa_cons (pe_ix ix_list (pv 1) pe_int (fun _ _ => rfl)) pa_nil))) (pa_cons (pv 2) pa_nil))) pa_nil))))))), ?_⟩
  refine ⟨_, rfl, t, _, _, _, rfl, rfl, SqL.of ht, atI_nat (j := 0) rfl, ?_⟩
  refine ⟨_, rfl, _, _, rfl, rfl, _, rfl, ite2 (fun c => ?_) (fun c => ?_)⟩
  · have c' := of_decide_eq_true c
    refine ⟨(by show 1 ≤ sizeLine; decide), fun l' nl => say_only q ?_ hA (Same.refl _) nl⟩
    show (if 6 < k then _ else _) = _
    rw [if_pos (by omega)]
  have c0 := of_decide_eq_false (Bool.eq_false_iff.mpr c)
  refine ⟨_, rfl, _, rfl, t, _, _, _, rfl, rfl, SqL.of ht, atI_nat (j := 1) rfl, p, rt, a, dx, d, adr, l, rfl, hX, hrt, hz, fun H1 s1 => ?_⟩
  refine ⟨_, rfl, _, _, rfl, rfl, _, rfl, ite2 (fun c => ?_) (fun c => ?_)⟩
  · have c' := of_decide_eq_true c
    refine ⟨_, rfl, (by show 1 ≤ sizeLine; decide), fun l' nl => say_only q ?_ hA s1 nl⟩
    show (if 6 < k then _ else if a.bad l ≠ 0 then _ else _) = _
    rw [if_neg (by omega), if_pos (by omega)]
  · have c' := of_decide_eq_false (Bool.eq_false_iff.mpr c)
    have hb : a.bad l = 0 := Classical.byContradiction fun z => c' (bad_neg z)
    obtain ⟨b1, b2, b3⟩ := bad_ok hb
    refine ⟨_, rfl, _, rfl, t, _, _, _, rfl, rfl, SqL.of (s1 _ _ ht), atI_nat (j := 1) rfl, p, rt, a, dx, d, adr, l, rfl, hX.keep s1, s1 _ _ hrt, hz, b3, fun H2 l2 s2 n2 h2 => ?_⟩
    have s12 := s1.trans s2
    have hLl : LL CL H a adr l := hX.lots.sub b3
    refine ⟨_, rfl, l2, k, a, adr, l, rfl, SqL.of h2, by omega, hLl.keep s12, fun H3 l3 s3 n3 h3 => ?_⟩
    have hml := most_len a k l
    refine ⟨l3, a, adr, _, rfl, SqL.of h3, (by omega), (hLl.sub (most_sub a k l)).keep (s12.trans s3), fun H4 l4 s4 n4 h4 => ?_⟩
    refine these_only q ?_ hA ((s12.trans s3).trans s4) ((s12.trans s3).free n4) h4
    show (if 6 < k then _ else if a.bad l ≠ 0 then _ else _) = _
    rw [if_neg (by omega), if_neg (by omega)]
/-! ### together -/
theorem sc_together : FnScope ["house", "told", "refusal"] ["house", "told"] (defScope s_answer_together) := ⟨rfl, rfl, rfl, by decide +kernel, rfl, by decide +kernel, by decide +kernel⟩
theorem ok_together {f : Addr} {fd : FuncData} (F : Fun K "answer_together" "answer_together" s_answer_together f fd) (D1 : DBad P w K mg base CL CH) (D2 : Def P w K mg base 3 "most_at_once" ["lots"] (spPeak K CL)) (D3 : DLotsOf P w K mg base CL CH) :
    FnOk P w K mg base CX0 4 f fd ["house", "told"] (fun vs H Q E => ∃ l : List Nat, l.length ≤ 100 ∧ spAct CL CH (.together l) [] (some l) vs H Q E) := by
  refine F.ok sc_together (fun vs H Q E ⟨_, _, h⟩ => act_len h) (fun cdv A outer s H vs Q E hr h => ?_)
  obtain ⟨l, hz, p, t, a, rfl, hA, ⟨rt, ht, hrt⟩, q⟩ := h
  obtain ⟨dx, d, adr, hX⟩ := id hA
  have hr1 : Room 1 _ := hr.mono (by decide)
  refine ⟨_, pss_cons (ps_set (i := 2) sc_together.nd rfl (Or.inl rfl) (pe_def D1 hr1 rfl (pa_cons (pv 0) (pa_cons (pe_ix ix_list (pv 1) pe_int (fun _ _ => rfl)) pa_nil))))
    (pss_cons (ps_if (pt_cmpR op_lt (pv 2) pe_int (nomark _)) (pss_one (ps_ret (pe_lst (pa_cons (pv 2) pa_nil)))) pss_nil)
    (pss_one (ps_ret (pe_lst (pa_cons (pe_ifExp (pt_cmpR op_le (pe_def D2 hr rfl (pa_cons (pe_def D3 hr1 rfl (pa_cons (pv 0) (pa_cons (pe_ix ix_list (pv 1) pe_int (fun _ _ => rfl)) pa_nil))) pa_nil)) pe_int (nomark _)) pe_int pe_int) pa_nil))))), ?_⟩
  refine ⟨_, rfl, _, rfl, t, _, _, _, rfl, rfl, SqL.of ht, atI_nat (j := 0) rfl, p, rt, a, dx, d, adr, l, rfl, hX, hrt, hz, fun H1 s1 => ?_⟩
  refine ⟨_, rfl, _, _, rfl, rfl, _, rfl, ite2 (fun c => ?_) (fun c => ?_)⟩
  · have c' := of_decide_eq_true c
    refine ⟨_, rfl, (by show 1 ≤ sizeLine; decide), fun l' nl => say_only q ?_ hA s1 nl⟩
    show (if a.bad l ≠ 0 then _ else _) = _
    rw [if_pos (by omega)]
  · have c' := of_decide_eq_false (Bool.eq_false_iff.mpr c)
    have hb : a.bad l = 0 := Classical.byContradiction fun z => c' (bad_neg z)
    obtain ⟨b1, b2, b3⟩ := bad_ok hb
    refine ⟨_, rfl, _, rfl, t, _, _, _, rfl, rfl, SqL.of (s1 _ _ ht), atI_nat (j := 0) rfl, p, rt, a, dx, d, adr, l, rfl, hX.keep s1, s1 _ _ hrt, hz, b3, fun H2 l2 s2 n2 h2 => ?_⟩
    refine ⟨l2, a, adr, l, rfl, SqL.of h2, by omega, (hX.lots.sub b3).keep (s1.trans s2), fun H3 s3 => ⟨_, _, rfl, rfl, _, rfl, ite2 (fun c2 => ?_) (fun c2 => ?_)⟩⟩
    · have c2' := of_decide_eq_true c2
      refine ⟨(by show 1 ≤ sizeLine; decide), fun l' nl => say_only q ?_ hA ((s1.trans s2).trans s3) nl⟩
      show (if a.bad l ≠ 0 then _ else (a, say (Kv349.bit (decide (a.peak l ≤ 1)) : Nat))) = _
      rw [if_neg (by omega), decide_eq_true (show a.peak l ≤ 1 by omega)]; rfl
    · have c2' := of_decide_eq_false (Bool.eq_false_iff.mpr c2)
      refine ⟨(by show 1 ≤ sizeLine; decide), fun l' nl => say_only q ?_ hA ((s1.trans s2).trans s3) nl⟩
      show (if a.bad l ≠ 0 then _ else (a, say (Kv349.bit (decide (a.peak l ≤ 1)) : Nat))) = _
      rw [if_neg (by omega), decide_eq_false (show ¬ a.peak l ≤ 1 by omega)]; rfl
end
end Ct
end
section
set_option Elab.async false
set_option linter.all false
set_option maxRecDepth 100000
set_option maxHeartbeats 4000000
namespace Ct
open PySem PySem.Spec PyProof.Rows L2
open Kv349 (say okH okN)
theorem plan_fst (a : Kv349.Abs) (ids : List Nat) : (a.plan ids).map (·.1) = ids.mergeSort a.sooner := by
  show (a.put (ids.mergeSort a.sooner) []).map (·.1) = _
  rw [put_fst]; rfl
theorem plan_mem {a : Kv349.Abs} {ids : List Nat} {x : Nat × Nat} (h : x ∈ a.plan ids) : x.1 ∈ ids := by
  have h1 : x.1 ∈ (a.plan ids).map (·.1) := List.mem_map.mpr ⟨x, h, rfl⟩
  rw [plan_fst] at h1
  exact (List.mergeSort_perm ids a.sooner).mem_iff.mp h1
theorem plan_len (a : Kv349.Abs) (ids : List Nat) : (a.plan ids).length = ids.length := by
  have h := congrArg List.length (plan_fst a ids)
  rw [List.length_map, (List.mergeSort_perm ids a.sooner).length_eq] at h
  exact h
theorem one_of {l : Nat} : ∀ {xs : List (Nat × Nat)}, (xs.map (·.1)).Nodup → l ∈ xs.map (·.1) → ∃ x, (xs.filter fun y => y.1 == l) = [x] ∧ (xs.find? fun y => y.1 == l) = some x
  | [], _, h => by cases h
  | y :: xs, nd, h => by
    obtain ⟨n1, n2⟩ := List.nodup_cons.mp (show (y.1 :: xs.map (·.1)).Nodup from nd)
    by_cases e : y.1 = l
    · refine ⟨y, ?_, ?_⟩
      · rw [List.filter_cons, if_pos (by simpa using e)]
        congr 1
        refine List.filter_eq_nil_iff.mpr fun z hz q => n1 ?_
        have q' : z.1 = l := by simpa using q
        rw [e, ← q']
        exact List.mem_map.mpr ⟨z, hz, rfl⟩
      · rw [List.find?_cons_of_pos (by simpa using e)]
    · have h' : l ∈ xs.map (·.1) := by
        rcases List.mem_cons.mp (show l ∈ y.1 :: xs.map (·.1) from h) with z | z
        · exact absurd z.symm e
        · exact z
      obtain ⟨x, h1, h2⟩ := one_of n2 h'
      refine ⟨x, ?_, ?_⟩
      · rw [List.filter_cons, if_neg (by simpa using e)]; exact h1
      · rw [List.find?_cons_of_neg (by simpa using e)]; exact h2
section
variable {P : Program} {w : World} {K : PySem.W.Frag} {mg : Str → Option Value} {base : Heap} {CL CH : Addr}
/-! ### plan -/
theorem sc_plan : FnScope ["house", "told", "answer", "lot", "tank"] ["house", "told"] (defScope s_answer_plan) := ⟨rfl, rfl, rfl, by decide +kernel, rfl, by decide +kernel, by decide +kernel⟩
theorem ok_plan {f : Addr} {fd : FuncData} (F : Fun K "answer_plan" "answer_plan" s_answer_plan f fd) (T : Txt K mg CL CH) (D1 : DAll P w K mg base CL CH) (D2 : Def P w K mg base 4 "plan_of" ["lots"] (spPlanOf K CL)) : FnOk P w K mg base CX0 5 f fd ["house", "told"] (spAct CL CH .plan [] none) := by
  refine F.ok sc_plan (fun vs H Q E h => act_len h) (fun cdv A outer s H vs Q E hr h => ?_)
  obtain ⟨p, t, a, rfl, hA, ht, q⟩ := h
  obtain ⟨dx, d, adr, hX⟩ := id hA
  have hr1 : Room 1 _ := hr.mono (by decide)
  have hfew := hX.few
  refine ⟨_, pss_cons (ps_set (i := 2) sc_plan.nd rfl (Or.inl rfl) (pe_lst (pa_cons (pe_callB call_lenD (by rfl) T.len PySem.boot_len (pa_cons (pe_fld (pv 0) rfl) pa_nil)) pa_nil)))
    (pss_cons (ps_for PassesOwn.never rfl (pi_list (pe_def D2 hr rfl (pa_cons (pe_def D1 hr1 rfl (pa_cons (pv 0) pa_nil)) pa_nil))) (pg_tupK K (n := 2) rfl (pgs_cons (pg_name (i := 3) sc_plan.nd rfl (Or.inl rfl)) (pgs_cons (pg_name (i := 4) sc_plan.nd rfl (Or.inl rfl)) pgs_nil)))
      (pss_cons (ps_expr (pe_bm PySem.F.plainAttrs_list PySem.F.slot_list_append PySem.F.type_list_append mt_append (pv 2) (pa_cons (pe_fld (pv 3) rfl) pa_nil)))
      (pss_one (ps_expr (pe_bm PySem.F.plainAttrs_list PySem.F.slot_list_append PySem.F.type_list_append mt_append (pv 2) (pa_cons (pv 4) pa_nil))))))
    (pss_one (ps_ret (pv 2)))), ?_⟩
  refine ⟨_, rfl, p, CH, dx, _, _, rfl, hX.obj, T.clH, T.hL, hf_l .., d, _, rfl, hX.dic, (by show 1 ≤ sizeLine; decide), fun an na => ?_⟩
  rw [kvs_len]
  have s0 := same_new (o := .lst [.int (a.ids.length : Nat)]) na
  have h0 : upd H an (.lst [.int (a.ids.length : Nat)]) an = some (.lst [.int (a.ids.length : Nat)]) := upd_same
  generalize upd H an (.lst [.int (a.ids.length : Nat)]) = H0 at s0 h0
  refine ⟨_, rfl, p, a, dx, d, adr, rfl, hX.keep s0, fun H1 l1 s1 n1 h1 => ?_⟩
  refine ⟨l1, a, adr, a.ids, rfl, SqL.of h1, (by omega), hX.lots.keep (s0.trans s1), fun H2 l2 ys s2 n2 hP ey => ?_⟩
  have s01 := s0.trans s1
  have s02 := s01.trans s2
  have nan : an ≠ l2 := ne_of_none (s1 _ _ h0) n2
  have hyl : ys.length = a.ids.length := by
    have := congrArg List.length ey
    rw [List.length_map, plan_len] at this; exact this
  refine ⟨l2, rfl, ⟨_, SqL.of hP.1⟩, for_list (K := K) (a := l2) (xs := ys.map fun y => V.ref y.1) (fun j σ H3 => ∃ v3 v4 : Option V, σ = [some (.ref p), some (.ref t), some (.ref an), v3, v4] ∧ Same H H3 ∧ PlAt H3 l2 adr ys ∧ H3 an = some (.lst (.int (a.ids.length : Nat) :: nums (((ys.take j).map (·.2)).flatMap fun x => [x.1, x.2]))))
    ⟨none, none, rfl, s02, hP, s2 _ _ (s1 _ _ h0)⟩ (fun j σ H3 _ ⟨_, _, _, _, h3, _⟩ => SqL.of h3.1) ?_ ?_⟩
  · rintro j v σ H3 hv ⟨v3, v4, rfl, s3, hP3, h3⟩
    obtain ⟨y, hy, rfl⟩ : ∃ y, ys[j]? = some y ∧ v = V.ref y.1 := by
      rw [List.getElem?_map] at hv
      cases e : ys[j]? with
      | none => rw [e] at hv; cases hv
      | some y => rw [e] at hv; exact ⟨y, rfl, (Option.some.inj hv).symm⟩
    have hym := List.mem_of_getElem? hy
    have hyi : y.2.1 ∈ a.ids := plan_mem (a := a) (x := y.2) (by rw [← ey]; exact List.mem_map.mpr ⟨y, hym, rfl⟩)
    obtain ⟨dy, hd⟩ := (hX.lots _ hyi).keep s3
    have hj : j < ys.length := (List.getElem?_eq_some_iff.mp hy).1
    have hfl : (((ys.take j).map (·.2)).flatMap fun x => [x.1, x.2]).length = 2 * j := by
      rw [List.length_flatMap, List.map_map]
      have : (ys.take j).map ((fun x : Nat × Nat => ([x.1, x.2] : List Nat).length) ∘ fun y : Addr × Nat × Nat => y.2) = List.replicate j 2 := by
        rw [List.eq_replicate_iff]
        refine ⟨by rw [List.length_map, List.length_take]; omega, fun b hb => ?_⟩
        obtain ⟨_, _, rfl⟩ := List.mem_map.mp hb
        rfl
      rw [this, List.sum_replicate_nat]
      omega
    have hz1 : (V.int (a.ids.length : Nat) :: nums (((ys.take j).map (·.2)).flatMap fun x => [x.1, x.2])).length < sizeLine := small_line (by rw [List.length_cons, nums_len, hfl]; omega)
    refine ⟨y.1, _, rfl, SqT.of (hP3.2 y hym), rfl, _, _, rfl, _, _, rfl, rfl, ?_⟩
    refine ⟨_, rfl, .inl ⟨rfl, _, SqL.of h3⟩, _, rfl, adr y.2.1, CL, dy, _, _, rfl, hd, T.clL, T.lN, lf_n .., an, _, _, rfl, rfl, h3, hz1, ?_⟩
    refine ⟨_, rfl, .inl ⟨rfl, _, SqL.of upd_same⟩, _, rfl, an, _, _, rfl, rfl, upd_same, small_line (by rw [List.length_append, List.length_cons, nums_len, hfl]; show _ + 1 ≤ 1000; omega), ?_⟩
    have kp : ∀ b o, H3 b = some o → b ≠ an → upd (upd H3 an (.lst ((V.int (a.ids.length : Nat) :: nums (((ys.take j).map (·.2)).flatMap fun x => [x.1, x.2])) ++ [V.int (y.2.1 : Nat)]))) an (.lst (((V.int (a.ids.length : Nat) :: nums (((ys.take j).map (·.2)).flatMap fun x => [x.1, x.2])) ++ [V.int (y.2.1 : Nat)]) ++ [V.int (y.2.2 : Nat)])) b = some o := fun b o e hb => by
      rw [upd_ne hb, upd_ne hb]; exact e
    refine ⟨_, _, rfl, fun b o e => kp b o (s3 _ _ e) (ne_of_none e na), ⟨kp _ _ hP3.1 (fun z => nan z.symm), fun z hz => kp _ _ (hP3.2 z hz) fun z' => ?_⟩, ?_⟩
    · have e := hP3.2 z hz
      rw [z', h3] at e
      cases e
    · rw [upd_same]
      have et : ys.take (j + 1) = ys.take j ++ [y] := by rw [List.take_add_one, hy]; rfl
      rw [et, List.map_append, List.flatMap_append]
      unfold nums
      rw [List.map_append]
      show some (HO.lst ((_ ++ [_]) ++ [_])) = some (HO.lst (_ :: (_ ++ [V.int (y.2.1 : Nat), V.int (y.2.2 : Nat)])))
      rw [List.append_assoc]; rfl
  · rintro σ H3 ⟨v3, v4, rfl, s3, hP3, h3⟩
    rw [List.length_map, List.take_length, ey] at h3
    refine ⟨_, rfl, tell_only q (show a.does .plan = (a, ⟨(a.ids.length : Nat), (a.plan a.ids).flatMap fun x => [x.1, x.2]⟩) from rfl) hA s3 na ?_⟩
    rw [h3]
    show some (HO.lst (_ :: nums _)) = some (HO.lst (V.int _ :: ((_ : List Nat).map Int.ofNat).map V.int))
    rw [List.map_map]; rfl
/-! ### tankof -/
theorem sc_tankof : FnScope ["house", "told", "number", "lot", "tank"] ["house", "told"] (defScope s_answer_tankof) := ⟨rfl, rfl, rfl, by decide +kernel, rfl, by decide +kernel, by decide +kernel⟩
theorem ok_tankof {f : Addr} {fd : FuncData} (F : Fun K "answer_tankof" "answer_tankof" s_answer_tankof f fd) (T : Txt K mg CL CH) (C : Cons mg) (D1 : DAll P w K mg base CL CH) (D2 : Def P w K mg base 4 "plan_of" ["lots"] (spPlanOf K CL)) :
    FnOk P w K mg base CX0 5 f fd ["house", "told"] (fun vs H Q E => ∃ l, spAct CL CH (.tankOf l) [l] none vs H Q E) := by
  refine F.ok sc_tankof (fun vs H Q E ⟨_, h⟩ => act_len h) (fun cdv A outer s H vs Q E hr h => ?_)
  obtain ⟨l, p, t, a, rfl, hA, ht, q⟩ := h
  obtain ⟨dx, d, adr, hX⟩ := id hA
  have hr1 : Room 1 _ := hr.mono (by decide)
  have hfew := hX.few
  refine ⟨_, pss_cons (ps_set (i := 2) sc_tankof.nd rfl (Or.inr rfl) (pe_ix ix_list (pv 1) pe_int (fun _ _ => rfl)))
    (pss_cons (ps_if (pt_cmp (pc_dnotin (hu_of hr) (pv 2) (pe_fld (pv 0) rfl))) (pss_one (ps_ret (pe_lst (pa_cons (pcon C.none_) pa_nil)))) pss_nil)
    (pss_one (ps_ret (pe_lc (own := [("lot", 3), ("tank", 4)]) rfl sc_tankof.nd (pi_list (pe_def D2 hr rfl (pa_cons (pe_def D1 hr1 rfl (pa_cons (pv 0) pa_nil)) pa_nil))) (blkOk_by rfl)
      (fun _ _ _ _ _ => pg_tupK K (n := 2) rfl (pgs_cons (pg_name (i := 3) sc_tankof.nd rfl (Or.inl rfl)) (pgs_cons (pg_name (i := 4) sc_tankof.nd rfl (Or.inl rfl)) pgs_nil)))
      (fun _ _ _ _ _ => pts_one (pt_cmpR op_eq (fldK K (pv 3)) (pv 2) (nomark _))) (fun _ _ _ _ _ => pv 4))))), ?_⟩
  refine ⟨_, rfl, t, _, _, _, rfl, rfl, SqL.of ht, atI_nat (j := 0) rfl, ?_⟩
  refine ⟨_, rfl, _, rfl, p, CH, dx, _, _, rfl, hX.obj, T.clH, T.hL, hf_l .., d, _, rfl, DGet.k (k := Sum.inl (l : Int)) hX.dic, _, rfl, ?_⟩
  by_cases hm : l ∈ a.ids
  · rw [kvs_val hm]
    refine iteF ⟨_, rfl, p, a, dx, d, adr, rfl, hX, fun H1 l1 s1 n1 h1 => ?_⟩
    refine ⟨l1, a, adr, a.ids, rfl, SqL.of h1, (by omega), hX.lots.keep s1, fun H2 l2 ys s2 n2 hP ey => ?_⟩
    have hyl : ys.length = a.ids.length := by
      have := congrArg List.length ey
      rw [List.length_map, plan_len] at this; exact this
    refine ⟨l2, rfl, ⟨_, SqL.of hP.1⟩, fun D hD => lc_go (f := fun y : Addr × Nat × Nat => V.ref y.1) (keep := fun y => y.2.1 == l) (val := fun y => V.int (y.2.2 : Nat)) (SqL.of hP.1) (by omega) hD (fun y hy H' sm KT KF kt kf => ?_) (fun H' sm h' => ?_)⟩
    · have hyi : y.2.1 ∈ a.ids := plan_mem (a := a) (x := y.2) (by rw [← ey]; exact List.mem_map.mpr ⟨y, hy, rfl⟩)
      obtain ⟨dy, hd⟩ := (hX.lots _ hyi).keep ((s1.trans s2).trans sm)
      refine ⟨y.1, _, rfl, SqT.of (sm _ _ (hP.2 y hy)), rfl, _, _, rfl, _, _, rfl, rfl, rfl, _, rfl, adr y.2.1, CL, dy, _, _, rfl, hd, T.clL, T.lN, lf_n .., _, rfl, rfl, _, rfl, ite2 (fun c => ?_) (fun c => ?_)⟩
      · have c' := V.int.inj (of_decide_eq_true c)
        exact ⟨_, rfl, kt (by rw [beq_iff_eq]; omega) _ (Same.refl _)⟩
      · have c' := of_decide_eq_false (Bool.eq_false_iff.mpr c)
        exact kf (by rw [beq_eq_false_iff_ne]; exact fun z => c' (by rw [z])) _ (Same.refl _)
    · have hpf : l ∈ (a.plan a.ids).map (·.1) := by rw [plan_fst]; exact (List.mergeSort_perm _ _).mem_iff.mpr hm
      have hpn : ((a.plan a.ids).map (·.1)).Nodup := by rw [plan_fst]; exact (List.mergeSort_perm _ _).nodup_iff.mpr (ids_nodup a)
      obtain ⟨x, e1, e2⟩ := one_of hpn hpf
      have e3 : (ys.filter fun y => y.2.1 == l).map (fun y => V.int (y.2.2 : Nat)) = [V.int (x.2 : Nat)] := by
        have : (ys.filter fun y => y.2.1 == l).map (·.2) = [x] := by
          rw [← e1, ← ey, List.filter_map]; rfl
        have h2 := congrArg (List.map fun z : Nat × Nat => V.int (z.2 : Nat)) this
        rw [List.map_map] at h2
        exact h2
      rw [e3] at h'
      have s3 := (s1.trans s2).trans sm
      refine tell_only q (show a.does (.tankOf l) = (a, say (x.2 : Nat)) from ?_) hA s3 ((s1.trans s2).free hD) h'
      show (if a.has l = false then _ else _) = _
      rw [if_neg (by rw [has_iff.mpr hm]; decide), e2]; rfl
  · rw [kvs_no hm]
    refine iteT ⟨(by show 1 ≤ sizeLine; decide), fun l' nl => say_only q ?_ hA (Same.refl _) nl⟩
    show (if a.has l = false then _ else _) = _
    rw [if_pos (Bool.eq_false_iff.mpr fun z => hm (has_iff.mp z))]
end
end Ct
end
section
set_option Elab.async false
set_option linter.all false
set_option maxRecDepth 100000
set_option maxHeartbeats 4000000
namespace Ct
open PySem PySem.Spec PyProof.Rows L2
open Kv349 (say okH okN)
theorem act_begin (st : Option Kv349.Abs) (t n : Nat) : Kv349.act st (.begin_ t n) = if t = 0 ∨ 6 < t ∨ okN n = false then (st, say (-22)) else (some (Kv349.begun t n), say 0) := by
  cases st with
  | none =>
    show (if ((Kv349.begun 1 1).does (.begin_ t n)).2.ret < 0 then _ else _) = _
    by_cases h : t = 0 ∨ 6 < t ∨ okN n = false
    · have e : (Kv349.begun 1 1).does (.begin_ t n) = (Kv349.begun 1 1, say (-22)) := by
        show (if t = 0 ∨ 6 < t ∨ okN n = false then _ else _) = _
        rw [if_pos h]
      rw [e, if_pos h]
      exact if_pos (show (-22 : Int) < 0 by decide)
    · have e : (Kv349.begun 1 1).does (.begin_ t n) = (Kv349.begun t n, say 0) := by
        show (if t = 0 ∨ 6 < t ∨ okN n = false then _ else _) = _
        rw [if_neg h]
      rw [e, if_neg h]
      exact if_neg (show ¬ (0 : Int) < 0 by decide)
  | some a =>
    show (some (a.does (.begin_ t n)).1, (a.does (.begin_ t n)).2) = _
    have e : a.does (.begin_ t n) = if t = 0 ∨ 6 < t ∨ okN n = false then (a, say (-22)) else (Kv349.begun t n, say 0) := rfl
    rw [e]
    split <;> rfl
theorem house_obj {CL CH : Addr} {H : Hp} {p : Addr} : ∀ {st : Option Kv349.Abs}, HouseAt CL CH H p st → ∃ (dx : Addr) (bg : Bool) (tk nd hr ev : Int) (d : Addr), H p = some (.ins CH dx (hf bg tk nd hr ev d))
  | none, ⟨dx, d, h⟩ => ⟨dx, false, 0, 0, 0, 0, d, h⟩
  | some a, ⟨dx, d, adr, h⟩ => ⟨dx, true, a.tanks, a.need, a.hour, a.lots.length, d, h.obj⟩
def spBegin (CL CH : Addr) : Sp := fun vs H Q _ => ∃ (p t : Addr) (st : Option Kv349.Abs) (tk nd : Nat), vs = [.ref p, .ref t] ∧ HouseAt CL CH H p st ∧ Told H t [tk, nd] none ∧
  ∀ (H' : Hp) (q : Addr), Keeps H H' → HouseAt CL CH H' p (Kv349.act st (.begin_ tk nd)).1 → H q = none → H' q = some (.lst (rowV (Kv349.act st (.begin_ tk nd)).2)) → Q (.ref q) H'
section
variable {P : Program} {w : World} {K : PySem.W.Frag} {mg : Str → Option Value} {base : Heap} {CL CH : Addr}
theorem sc_begin : FnScope ["house", "told", "tanks", "need"] ["house", "told"] (defScope s_answer_begin) := ⟨rfl, rfl, rfl, by decide +kernel, rfl, by decide +kernel, by decide +kernel⟩
theorem okN_int (n : Nat) : okN n = (decide ((1 : Int) ≤ (n : Int)) && decide ((n : Int) ≤ 500)) := by
  unfold Kv349.okN
  congr 1 <;> exact decide_eq_decide.mpr (by omega)
theorem ok_begin {f : Addr} {fd : FuncData} (F : Fun K "answer_begin" "answer_begin" s_answer_begin f fd) (T : Txt K mg CL CH) (C : Cons mg) (D1 : Def P w K mg base 1 "within" ["number", "least", "most"] spWithin) : FnOk P w K mg base CX0 2 f fd ["house", "told"] (spBegin CL CH) := by
  refine F.ok sc_begin (fun vs H Q E h => ?_) (fun cdv A outer s H vs Q E hr h => ?_)
  · obtain ⟨p, t, st, tk, nd, rfl, _⟩ := h
    rfl
  obtain ⟨p, t, st, tk, nd, rfl, hA, ht, q⟩ := h
  obtain ⟨dx, bg, tk0, nd0, hr0, ev0, d0, hp⟩ := house_obj hA
  rw [act_begin] at q
  refine ⟨_, pss_cons (ps_set (i := 2) sc_begin.nd rfl (Or.inl rfl) (pe_ix ix_list (pv 1) pe_int (fun _ _ => rfl))) (pss_cons (ps_set (i := 3) sc_begin.nd rfl (Or.inl rfl) (pe_ix ix_list (pv 1) pe_int (fun _ _ => rfl)))
    (pss_cons (ps_if (PW.pt (pw_or (pt_not (pt_val (pe_def D1 hr rfl (pa_cons (pv 2) (pa_cons pe_int (pa_cons (pcon C.mTanks) pa_nil)))))) (pw_or1 (pt_not (pt_val (pe_def D1 hr rfl (pa_cons (pv 3) (pa_cons pe_int (pa_cons (pcon C.mNeed) pa_nil))))))))) (pss_one (ps_ret (pe_lst (pa_cons (pcon C.oor) pa_nil)))) pss_nil)
    (pss_cons (ps_fld (pv 0) pe_bl rfl) (pss_cons (ps_fld (pv 0) (pv 2) rfl) (pss_cons (ps_fld (pv 0) (pv 3) rfl) (pss_cons (ps_fld (pv 0) pe_int rfl) (pss_cons (ps_fld (pv 0) pe_int rfl) (pss_cons (ps_fld (pv 0) pe_dnewK rfl)
    (pss_one (ps_ret (pe_lst (pa_cons pe_int pa_nil)))))))))))), ?_⟩
  refine ⟨_, rfl, t, _, _, _, rfl, rfl, SqL.of ht, atI_nat (j := 0) rfl, ?_⟩
  refine ⟨_, rfl, t, _, _, _, rfl, rfl, SqL.of ht, atI_nat (j := 1) rfl, ?_⟩
  have bad : (tk = 0 ∨ 6 < tk ∨ okN nd = false) → ∀ l, H l = none → Q (.ref l) (upd H l (.lst [.int (-22)])) := fun h l nl => by
    rw [if_pos h] at q
    have s2 := same_new (o := .lst [.int (-22)]) nl
    exact q _ l (Same.keeps s2) (hA.keep s2) nl upd_same
  refine ⟨_, rfl, _, _, _, rfl, _, rfl, ite2 (fun c => ?_) (fun c => ?_)⟩
  · refine iteT ⟨(by show 1 ≤ sizeLine; decide), bad ?_⟩
    rw [Bool.not_eq_true', Bool.and_eq_false_iff, decide_eq_false_iff_not, decide_eq_false_iff_not] at c
    omega
  · have c1 := Bool.eq_false_iff.mpr c
    rw [Bool.not_eq_false', Bool.and_eq_true, decide_eq_true_iff, decide_eq_true_iff] at c1
    refine ⟨_, rfl, _, _, _, rfl, _, rfl, ite2 (fun c2 => ?_) (fun c2 => ?_)⟩
    · refine ⟨(by show 1 ≤ sizeLine; decide), bad (.inr (.inr ?_))⟩
      rw [okN_int]
      rw [Bool.not_eq_true'] at c2
      exact c2
    · have c3 := Bool.eq_false_iff.mpr c2
      rw [Bool.not_eq_false'] at c3
      have ng : ¬ (tk = 0 ∨ 6 < tk ∨ okN nd = false) := by
        rintro (h | h | h)
        · omega
        · omega
        · rw [okN_int] at h
          rw [h] at c3; cases c3
      rw [if_neg ng] at q
      refine ⟨_, rfl, p, CH, dx, _, rfl, hp, T.clH, T.hB, (by show 6 < 1000; decide), ?_⟩
      refine ⟨_, rfl, _, rfl, p, CH, dx, _, rfl, upd_same, T.clH, T.hT, (by show 6 < 1000; decide), ?_⟩
      refine ⟨_, rfl, _, rfl, p, CH, dx, _, rfl, upd_same, T.clH, T.hN, (by show 6 < 1000; decide), ?_⟩
      refine ⟨_, rfl, p, CH, dx, _, rfl, upd_same, T.clH, T.hH, (by show 6 < 1000; decide), ?_⟩
      refine ⟨_, rfl, p, CH, dx, _, rfl, upd_same, T.clH, T.hE, (by show 6 < 1000; decide), ?_⟩
      intro d hd
      have np : p ≠ d := fun z => by rw [← z, upd_same] at hd; cases hd
      have nd' : ∀ x o, H x = some o → x ≠ p → x ≠ d := fun x o e hx z => by
        subst z
        rw [upd_ne hx, upd_ne hx, upd_ne hx, upd_ne hx, upd_ne hx, e] at hd
        cases hd
      refine ⟨_, rfl, p, CH, dx, _, rfl, (by rw [upd_ne np, upd_same]), T.clH, T.hL, (by show 6 < 1000; decide), ?_⟩
      refine ⟨(by show 1 ≤ sizeLine; decide), fun l nl => ?_⟩
      have hn : ∀ x o, H x = some o → x ≠ p → upd (upd (upd (upd (upd (upd (upd H p (.ins CH dx (hf true tk0 nd0 hr0 ev0 d0))) p (.ins CH dx (hf true tk nd0 hr0 ev0 d0))) p (.ins CH dx (hf true tk nd hr0 ev0 d0))) p (.ins CH dx (hf true tk nd 0 ev0 d0))) p (.ins CH dx (hf true tk nd 0 0 d0))) d (.dK [])) p (.ins CH dx (hf true tk nd 0 0 d)) x = some o := fun x o e hx => by
        rw [upd_ne hx, upd_ne (nd' x o e hx), upd_ne hx, upd_ne hx, upd_ne hx, upd_ne hx, upd_ne hx]
        exact e
      have hpn : upd (upd (upd (upd (upd (upd (upd H p (.ins CH dx (hf true tk0 nd0 hr0 ev0 d0))) p (.ins CH dx (hf true tk nd0 hr0 ev0 d0))) p (.ins CH dx (hf true tk nd hr0 ev0 d0))) p (.ins CH dx (hf true tk nd 0 ev0 d0))) p (.ins CH dx (hf true tk nd 0 0 d0))) d (.dK [])) p (.ins CH dx (hf true tk nd 0 0 d)) p = some (.ins CH dx (hf true tk nd 0 0 d)) := upd_same
      have hdn : upd (upd (upd (upd (upd (upd (upd H p (.ins CH dx (hf true tk0 nd0 hr0 ev0 d0))) p (.ins CH dx (hf true tk nd0 hr0 ev0 d0))) p (.ins CH dx (hf true tk nd hr0 ev0 d0))) p (.ins CH dx (hf true tk nd 0 ev0 d0))) p (.ins CH dx (hf true tk nd 0 0 d0))) d (.dK [])) p (.ins CH dx (hf true tk nd 0 0 d)) d = some (.dK []) := by rw [upd_ne (Ne.symm np), upd_same]
      have nl' : upd (upd (upd (upd (upd (upd (upd H p (.ins CH dx (hf true tk0 nd0 hr0 ev0 d0))) p (.ins CH dx (hf true tk nd0 hr0 ev0 d0))) p (.ins CH dx (hf true tk nd hr0 ev0 d0))) p (.ins CH dx (hf true tk nd 0 ev0 d0))) p (.ins CH dx (hf true tk nd 0 0 d0))) d (.dK [])) p (.ins CH dx (hf true tk nd 0 0 d)) l = none := nl
      show Q (.ref l) (upd (upd (upd (upd (upd (upd (upd (upd H p (.ins CH dx (hf true tk0 nd0 hr0 ev0 d0))) p (.ins CH dx (hf true tk nd0 hr0 ev0 d0))) p (.ins CH dx (hf true tk nd hr0 ev0 d0))) p (.ins CH dx (hf true tk nd 0 ev0 d0))) p (.ins CH dx (hf true tk nd 0 0 d0))) d (.dK [])) p (.ins CH dx (hf true tk nd 0 0 d))) l (.lst [.int 0]))
      generalize upd (upd (upd (upd (upd (upd (upd H p (.ins CH dx (hf true tk0 nd0 hr0 ev0 d0))) p (.ins CH dx (hf true tk nd0 hr0 ev0 d0))) p (.ins CH dx (hf true tk nd hr0 ev0 d0))) p (.ins CH dx (hf true tk nd 0 ev0 d0))) p (.ins CH dx (hf true tk nd 0 0 d0))) d (.dK [])) p (.ins CH dx (hf true tk nd 0 0 d)) = Hn at hn hpn hdn nl'
      have s2 := same_new (o := .lst [.int 0]) nl'
      have kp : Keeps H Hn := fun b o e st' => hn b o e fun z => by rw [z, hp] at e; cases e; cases st'
      have hN : HouseX CL CH Hn p (Kv349.begun tk nd) dx d (fun _ => 0) := ⟨hpn, hdn, fun i hi => (by cases hi), ok_begun (by omega) (by omega)⟩
      refine q _ l (kp.trans (Same.keeps s2)) ⟨dx, d, _, hN.keep s2⟩ ?_ upd_same
      cases e : H l with
      | none => rfl
      | some o =>
        by_cases z : l = p
        · rw [z, hpn] at nl'; cases nl'
        · rw [hn l o e z] at nl'; cases nl'
/-! ### hours -/
theorem sc_hours : FnScope ["house", "told", "count", "not_ended", "lot"] ["house", "told"] (defScope s_answer_hours) := ⟨rfl, rfl, rfl, by decide +kernel, rfl, by decide +kernel, by decide +kernel⟩
theorem ok_hours_ {f : Addr} {fd : FuncData} (F : Fun K "answer_hours" "answer_hours" s_answer_hours f fd) (T : Txt K mg CL CH) (C : Cons mg) (D1 : DAll P w K mg base CL CH) (D2 : Def P w K mg base 1 "has_ended" ["house", "lot"] (spEnded CL CH)) (D3 : Def P w K mg base 2 "is_count_of_hours" ["number"] spCount) :
    FnOk P w K mg base CX0 3 f fd ["house", "told"] (fun vs H Q E => ∃ n, spAct CL CH (.hours n) [n] none vs H Q E) := by
  refine F.ok sc_hours (fun vs H Q E ⟨_, h⟩ => act_len h) (fun cdv A outer s H vs Q E hr h => ?_)
  obtain ⟨n, p, t, a, rfl, hA, ht, q⟩ := h
  obtain ⟨dx, d, adr, hX⟩ := id hA
  have hr1 : Room 1 _ := hr.mono (by decide)
  have hfew := hX.few
  refine ⟨_, pss_cons (ps_set (i := 2) sc_hours.nd rfl (Or.inl rfl) (pe_ix ix_list (pv 1) pe_int (fun _ _ => rfl)))
    (pss_cons (ps_if (pt_not (pt_val (pe_def D3 hr rfl (pa_cons (pv 2) pa_nil)))) (pss_one (ps_ret (pe_lst (pa_cons (pcon C.oor) pa_nil)))) pss_nil)
    (pss_cons (ps_if (pt_cmpR op_gt (pe_op op_add (pe_fld (pv 0) rfl) (pv 2)) (pcon C.last) (nomark _)) (pss_one (ps_ret (pe_lst (pa_cons (pcon C.late) pa_nil)))) pss_nil)
    (pss_cons (ps_setLc (i := 3) (own := [("lot", 4)]) rfl sc_hours.nd rfl rfl (sw_true rfl rfl rfl rfl) (pi_list (pe_def D1 hr1 rfl (pa_cons (pv 0) pa_nil))) (blkOk_by rfl) (fun _ _ _ _ _ => pg_name (i := 4) sc_hours.nd rfl (Or.inl rfl))
      (fun _ _ _ _ _ => pts_one (pt_not (pt_val (pe_def D2 hr1 rfl (pa_cons (pv 0) (pa_cons (pv 4) pa_nil)))))) (fun _ _ _ _ _ => pv 4))
    (pss_cons (ps_fld (pv 0) (pe_op op_add (pe_fld (pv 0) rfl) (pv 2)) rfl)
    (pss_one (ps_ret (pe_lst (pa_cons (pe_fld (pv 0) rfl) (pa_cons (lenK K T.len (pe_lc (own := [("lot", 4)]) rfl sc_hours.nd (pi_list (pv 3)) (blkOk_by rfl) (fun _ _ _ _ _ => pg_name (i := 4) sc_hours.nd rfl (Or.inl rfl))
      (fun _ _ _ _ _ => pts_one (pt_val (pe_def D2 hr1 rfl (pa_cons (pv 0) (pa_cons (pv 4) pa_nil))))) (fun _ _ _ _ _ => pv 4))) pa_nil))))))))), ?_⟩
  refine ⟨_, rfl, t, _, _, _, rfl, rfl, SqL.of ht, atI_nat (j := 0) rfl, ?_⟩
  refine ⟨_, rfl, n, rfl, _, rfl, ?_⟩
  cases hc : okN n with
  | false =>
    refine iteT ⟨(by show 1 ≤ sizeLine; decide), fun l nl => say_only q ?_ hA (Same.refl _) nl⟩
    show (if okN n = false then _ else _) = _
    rw [if_pos hc]
  | true =>
    refine iteF ⟨_, rfl, p, CH, dx, _, _, rfl, hX.obj, T.clH, T.hH, hf_h .., _, rfl, _, _, rfl, rfl, _, _, rfl, rfl, _, rfl, ite2 (fun c => ?_) (fun c => ?_)⟩
    · have c' := of_decide_eq_true c
      refine ⟨(by show 1 ≤ sizeLine; decide), fun l nl => say_only q ?_ hA (Same.refl _) nl⟩
      show (if okN n = false then _ else if 10000 < a.hour + n then _ else _) = _
      rw [if_neg (by rw [hc]; decide), if_pos (by omega)]
    · have c' := of_decide_eq_false (Bool.eq_false_iff.mpr c)
      refine ⟨_, rfl, p, a, dx, d, adr, rfl, hX, fun H1 l1 s1 n1 h1 => ?_⟩
      refine ⟨l1, rfl, ⟨_, SqL.of h1⟩, fun D hD => lc_go (f := fun i => V.ref (adr i)) (keep := fun i => !decide ((a.lot i).upto ≤ a.hour)) (val := fun i => V.ref (adr i)) (SqL.of h1) (by omega) hD (fun i hi H' sm KT KF kt kf => ?_) (fun H2 s2 h2 => ?_)⟩
      · refine ⟨rfl, _, rfl, _, rfl, p, adr i, a, dx, d, i, a.lot i, rfl, sm _ _ (s1 _ _ hX.obj), (hX.lots i hi).keep (s1.trans sm), _, rfl, ?_⟩
        exact ite2 (fun c => ⟨_, rfl, kt c _ (Same.refl _)⟩) (fun c => kf (Bool.eq_false_iff.mpr c) _ (Same.refl _))
      · have s02 := s1.trans s2
        have hX2 := hX.keep s02
        have e : a.does (.hours n) = ({ a with hour := a.hour + n }, ⟨(a.hour + n : Nat), [(a.ids.filter fun i => decide (a.hour < (a.lot i).upto) && decide ((a.lot i).upto ≤ a.hour + n)).length]⟩) := by
          show (if okN n = false then _ else if 10000 < a.hour + n then _ else _) = _
          rw [if_neg (by rw [hc]; decide), if_neg (by omega)]
        rw [e] at q
        refine ⟨_, rfl, p, CH, dx, _, _, rfl, hX2.obj, T.clH, T.hH, hf_h .., _, rfl, _, _, rfl, rfl, _, rfl, p, CH, dx, _, rfl, hX2.obj, T.clH, T.hH, (by show 6 < 1000; decide), ?_⟩
        have h3p : upd H2 p (.ins CH dx (hf true a.tanks a.need ((a.hour : Int) + (n : Int)) a.lots.length d)) p = some (.ins CH dx (hf true a.tanks a.need ((a.hour + n : Nat) : Int) a.lots.length d)) := upd_same
        have h3k : ∀ x o, H2 x = some o → x ≠ p → upd H2 p (.ins CH dx (hf true a.tanks a.need ((a.hour : Int) + (n : Int)) a.lots.length d)) x = some o := fun x o e' hx => by rw [upd_ne hx]; exact e'
        have k3 : Keeps H (upd H2 p (.ins CH dx (hf true a.tanks a.need ((a.hour : Int) + (n : Int)) a.lots.length d))) := (Same.keeps s02).upd hX2.obj rfl
        have hX3 : HouseX CL CH (upd H2 p (.ins CH dx (hf true a.tanks a.need ((a.hour : Int) + (n : Int)) a.lots.length d))) p { a with hour := a.hour + n } dx d adr := house_put hX2 h3p h3k rfl (ok_hours hX.ok (by omega))
        have h3d : upd H2 p (.ins CH dx (hf true a.tanks a.need ((a.hour : Int) + (n : Int)) a.lots.length d)) D = some (.lst (refs adr (a.ids.filter fun i => !decide ((a.lot i).upto ≤ a.hour)))) := h3k _ _ h2 (fun z => by rw [z, hX2.obj] at h2; cases h2)
        have n3 : ∀ l, upd H2 p (.ins CH dx (hf true a.tanks a.need ((a.hour : Int) + (n : Int)) a.lots.length d)) l = none → H l = none := fun l nl => by
          cases e' : H l with
          | none => rfl
          | some o =>
            by_cases z : l = p
            · rw [z, upd_same] at nl; cases nl
            · rw [h3k l o (s02 _ _ e') z] at nl; cases nl
        refine ⟨_, rfl, p, CH, dx, _, _, rfl, h3p, T.clH, T.hH, hf_h .., _, rfl, D, rfl, ⟨_, SqL.of h3d⟩, fun D2 hD2 => lc_go (f := fun i => V.ref (adr i)) (keep := fun i => decide ((a.lot i).upto ≤ a.hour + n)) (val := fun i => V.ref (adr i)) (SqL.of h3d) (Nat.le_trans List.filter_sublist.length_le (by omega)) hD2 (fun i hi H' sm KT KF kt kf => ?_) (fun H4 s4 h4 => ?_)⟩
        · have hi' := (List.mem_filter.mp hi).1
          refine ⟨rfl, _, rfl, _, rfl, p, adr i, { a with hour := a.hour + n }, dx, d, i, a.lot i, rfl, sm _ _ h3p, (hX3.lots i hi').keep sm, _, rfl, ?_⟩
          exact ite2 (fun c => ⟨_, rfl, kt c _ (Same.refl _)⟩) (fun c => kf (Bool.eq_false_iff.mpr c) _ (Same.refl _))
        · refine ⟨D2, _, rfl, SqL.of h4, (by show 2 ≤ sizeLine; decide), fun l nl => ?_⟩
          have s5 := same_new (o := .lst [.int ((a.hour + n : Nat) : Int), .int (((((a.ids.filter fun i => !decide ((a.lot i).upto ≤ a.hour)).filter fun i => decide ((a.lot i).upto ≤ a.hour + n)).map fun i => V.ref (adr i)).length : Nat) : Int)]) nl
          have ec : (((a.ids.filter fun i => !decide ((a.lot i).upto ≤ a.hour)).filter fun i => decide ((a.lot i).upto ≤ a.hour + n)).map fun i => V.ref (adr i)).length = (a.ids.filter fun i => decide (a.hour < (a.lot i).upto) && decide ((a.lot i).upto ≤ a.hour + n)).length := by
            rw [List.length_map, List.filter_filter]
            refine congrArg List.length (List.filter_congr fun i _ => ?_)
            rw [Bool.and_comm]
            congr 1
            rw [← decide_not]
            exact decide_eq_decide.mpr (by omega)
          refine q _ l ((k3.trans (Same.keeps s4)).trans (Same.keeps s5)) ⟨dx, d, adr, (hX3.keep s4).keep s5⟩ (n3 l (s4.free nl)) ?_
          rw [upd_same]
          show some (HO.lst [_, V.int ((_ : Nat) : Int)]) = some (HO.lst [V.int _, V.int (Int.ofNat _)])
          rw [ec]; rfl
end
end Ct
end
section
set_option Elab.async false
set_option linter.all false
set_option maxRecDepth 100000
set_option maxHeartbeats 4000000
namespace Ct
open PySem PySem.Spec PyProof.Rows L2
open Kv349 (say okH okN)
/-- the refusal that's due for one more lot -/
def newBad (a : Kv349.Abs) (h n c : Nat) : Int := if okH h = false ∨ okN n = false ∨ c = 0 ∨ 1000 < c then -22 else if h < a.hour then -16 else if n < a.need then -12 else if 12 ≤ a.ids.length ∨ 60 ≤ a.lots.length then -28 else if a.may a.tanks h n = false then -33 else 0
theorem does_lot (a : Kv349.Abs) (h n c : Nat) : a.does (.lot h n c) = if newBad a h n c < 0 then (a, say (newBad a h n c)) else (withLot a ⟨h, h + n, c, true⟩, say (a.lots.length : Nat)) := by
  show (if okH h = false ∨ okN n = false ∨ c = 0 ∨ 1000 < c then (a, say (-22)) else if h < a.hour then (a, say (-16)) else if n < a.need then (a, say (-12)) else if 12 ≤ a.ids.length ∨ 60 ≤ a.lots.length then (a, say (-28)) else if a.may a.tanks h n = false then (a, say (-33)) else (withLot a ⟨h, h + n, c, true⟩, say (a.lots.length : Nat))) = _
  unfold newBad
  split
  · rw [if_pos (show (-22 : Int) < 0 by decide)]
  · split
    · rw [if_pos (show (-16 : Int) < 0 by decide)]
    · split
      · rw [if_pos (show (-12 : Int) < 0 by decide)]
      · split
        · rw [if_pos (show (-28 : Int) < 0 by decide)]
        · split
          · rw [if_pos (show (-33 : Int) < 0 by decide)]
          · rw [if_neg (show ¬ (0 : Int) < 0 by decide)]
theorem newBad_ok {a : Kv349.Abs} {h n c : Nat} (hb : ¬ newBad a h n c < 0) : a.ids.length < 12 ∧ a.lots.length < 60 ∧ 1 ≤ n ∧ a.may a.tanks h n = true := by
  unfold newBad at hb
  split at hb
  · exact absurd (by decide) hb
  · rename_i h1
    split at hb
    · exact absurd (by decide) hb
    · split at hb
      · exact absurd (by decide) hb
      · split at hb
        · exact absurd (by decide) hb
        · rename_i h4
          split at hb
          · exact absurd (by decide) hb
          · rename_i h5
            have hn : okN n = true := by
              cases e : okN n with
              | true => rfl
              | false => exact absurd (.inr (.inl e)) h1
            unfold Kv349.okN at hn
            rw [Bool.and_eq_true, decide_eq_true_iff, decide_eq_true_iff] at hn
            have hm : a.may a.tanks h n = true := by
              cases e : a.may a.tanks h n with
              | true => rfl
              | false => exact absurd e h5
            exact ⟨by omega, by omega, hn.1, hm⟩
section
variable {P : Program} {w : World} {K : PySem.W.Frag} {mg : Str → Option Value} {base : Heap} {CL CH : Addr}
def spNew (CL CH : Addr) : Sp := fun vs H Q _ => ∃ (p : Addr) (a : Kv349.Abs) (dx d : Addr) (adr : Nat → Addr) (h n c : Nat), vs = [.ref p, .int h, .int n, .int c] ∧ HouseX CL CH H p a dx d adr ∧ ∀ H' : Hp, Same H H' → Q (.int (newBad a h n c)) H'
theorem sc_new : FnScope ["house", "hour", "count", "crates"] ["house", "hour", "count", "crates"] (defScope s_refusal_of_new_lot) := ⟨rfl, rfl, rfl, by decide +kernel, rfl, by decide +kernel, by decide +kernel⟩
theorem ok_new {f : Addr} {fd : FuncData} (F : Fun K "refusal_of_new_lot" "refusal_of_new_lot" s_refusal_of_new_lot f fd) (T : Txt K mg CL CH) (C : Cons mg) (D1 : DAll P w K mg base CL CH) (D2 : Def P w K mg base 3 "may_lie" ["lots", "hour", "count", "tanks"] (spMay K CL))
    (D3 : Def P w K mg base 2 "is_hour" ["number"] spHour) (D4 : Def P w K mg base 2 "is_count_of_hours" ["number"] spCount) (D5 : Def P w K mg base 1 "within" ["number", "least", "most"] spWithin) : FnOk P w K mg base CX0 4 f fd ["house", "hour", "count", "crates"] (spNew CL CH) := by
  refine F.ok sc_new (fun vs H Q E h => ?_) (fun cdv A outer s H vs Q E hr h => ?_)
  · obtain ⟨p, a, dx, d, adr, h', n, c, rfl, _⟩ := h
    rfl
  obtain ⟨p, a, dx, d, adr, h, n, c, rfl, hX, q⟩ := h
  have hr1 : Room 1 _ := hr.mono (by decide)
  have hr2 : Room 2 _ := hr.mono (by decide)
  have hfew := hX.few
  refine ⟨_, pss_cons (ps_if (PW.pt (pw_or (pt_not (pt_val (pe_def D3 hr2 rfl (pa_cons (pv 1) pa_nil)))) (pw_or (pt_not (pt_val (pe_def D4 hr2 rfl (pa_cons (pv 2) pa_nil)))) (pw_or1 (pt_not (pt_val (pe_def D5 hr1 rfl (pa_cons (pv 3) (pa_cons pe_int (pa_cons (pcon C.mCr) pa_nil)))))))))) (pss_one (ps_ret (pcon C.oor))) pss_nil)
    (pss_cons (ps_if (pt_cmpR op_lt (pv 1) (pe_fld (pv 0) rfl) (nomark _)) (pss_one (ps_ret (pcon C.over))) pss_nil)
    (pss_cons (ps_if (pt_cmpR op_lt (pv 2) (pe_fld (pv 0) rfl) (nomark _)) (pss_one (ps_ret (pcon C.short))) pss_nil)
    (pss_cons (ps_if (PW.pt (pw_or (pt_cmpR op_ge (pe_callB call_lenD (by rfl) T.len PySem.boot_len (pa_cons (pe_fld (pv 0) rfl) pa_nil)) (pcon C.mLots) (nomark _)) (pw_or1 (pt_cmpR op_ge (pe_fld (pv 0) rfl) (pcon C.mEver) (nomark _))))) (pss_one (ps_ret (pcon C.many))) pss_nil)
    (pss_cons (ps_if (pt_not (pt_val (pe_def D2 hr rfl (pa_cons (pe_def D1 hr1 rfl (pa_cons (pv 0) pa_nil)) (pa_cons (pv 1) (pa_cons (pv 2) (pa_cons (pe_fld (pv 0) rfl) pa_nil))))))) (pss_one (ps_ret (pcon C.notank))) pss_nil)
    (pss_one (ps_ret pe_int)))))), ?_⟩
  have fin : ∀ z, newBad a h n c = z → ∀ H', Same H H' → Q (.int z) H' := fun z e H' s => by
    have := q H' s
    rw [e] at this; exact this
  have cr : (decide ((1 : Int) ≤ (c : Int)) && decide ((c : Int) ≤ 1000)) = true ↔ ¬ (c = 0 ∨ 1000 < c) := by
    rw [Bool.and_eq_true, decide_eq_true_iff, decide_eq_true_iff]
    omega
  refine ⟨_, rfl, h, rfl, _, rfl, ?_⟩
  cases e1 : okH h with
  | false => exact iteT (iteT (fin _ (if_pos (.inl e1)) _ (Same.refl _)))
  | true =>
    refine iteF ⟨_, rfl, n, rfl, _, rfl, ?_⟩
    cases e2 : okN n with
    | false => exact iteT (iteT (fin _ (if_pos (.inr (.inl e2))) _ (Same.refl _)))
    | true =>
      refine iteF ⟨_, rfl, _, _, _, rfl, _, rfl, ite2 (fun c1 => ?_) (fun c1 => ?_)⟩
      · rw [Bool.not_eq_true', Bool.eq_false_iff] at c1
        exact fin _ (if_pos (.inr (.inr (Classical.not_not.mp fun z => c1 (cr.mpr z))))) _ (Same.refl _)
      · have c1' := Bool.eq_false_iff.mpr c1
        rw [Bool.not_eq_false'] at c1'
        have g1 : ¬ (okH h = false ∨ okN n = false ∨ c = 0 ∨ 1000 < c) := by
          rintro (z | z | z)
          · rw [e1] at z; cases z
          · rw [e2] at z; cases z
          · exact cr.mp c1' z
        refine ⟨_, rfl, _, rfl, p, CH, dx, _, _, rfl, hX.obj, T.clH, T.hH, hf_h .., _, _, rfl, rfl, _, rfl, ite2 (fun c2 => ?_) (fun c2 => ?_)⟩
        · have c2' := of_decide_eq_true c2
          refine fin _ ?_ _ (Same.refl _)
          unfold newBad
          rw [if_neg g1, if_pos (by omega)]
        · have c2' := of_decide_eq_false (Bool.eq_false_iff.mpr c2)
          refine ⟨_, rfl, _, rfl, p, CH, dx, _, _, rfl, hX.obj, T.clH, T.hN, hf_n .., _, _, rfl, rfl, _, rfl, ite2 (fun c3 => ?_) (fun c3 => ?_)⟩
          · have c3' := of_decide_eq_true c3
            refine fin _ ?_ _ (Same.refl _)
            unfold newBad
            rw [if_neg g1, if_neg (by omega), if_pos (by omega)]
          · have c3' := of_decide_eq_false (Bool.eq_false_iff.mpr c3)
            have many : (12 ≤ a.ids.length ∨ 60 ≤ a.lots.length) → Q (.int (-28)) H := fun z => by
              refine fin _ ?_ _ (Same.refl _)
              unfold newBad
              rw [if_neg g1, if_neg (by omega), if_neg (by omega), if_pos z]
            refine ⟨_, rfl, p, CH, dx, _, _, rfl, hX.obj, T.clH, T.hL, hf_l .., d, _, rfl, hX.dic, _, _, rfl, rfl, _, rfl, ite2 (fun c4 => ?_) (fun c4 => ?_)⟩
            · have c4' := of_decide_eq_true c4
              rw [kvs_len] at c4'
              exact iteT (many (.inl (by omega)))
            · have c4' := of_decide_eq_false (Bool.eq_false_iff.mpr c4)
              rw [kvs_len] at c4'
              refine ⟨_, rfl, p, CH, dx, _, _, rfl, hX.obj, T.clH, T.hE, hf_e .., _, _, rfl, rfl, _, rfl, ite2 (fun c5 => ?_) (fun c5 => ?_)⟩
              · have c5' := of_decide_eq_true c5
                exact many (.inr (by omega))
              · have c5' := of_decide_eq_false (Bool.eq_false_iff.mpr c5)
                refine ⟨_, rfl, p, a, dx, d, adr, rfl, hX, fun H1 l1 s1 n1 h1 => ?_⟩
                refine ⟨_, rfl, _, rfl, _, rfl, p, CH, dx, _, _, rfl, s1 _ _ hX.obj, T.clH, T.hT, hf_t .., l1, h, n, a.tanks, a, adr, a.ids, rfl, SqL.of h1, by omega, hX.lots.keep s1, fun H2 s2 => ⟨_, rfl, ?_⟩⟩
                rw [mayL_eq]
                have g4 : ¬ (12 ≤ a.ids.length ∨ 60 ≤ a.lots.length) := by omega
                cases e5 : a.may a.tanks h n with
                | false =>
                  refine iteT (fin _ ?_ _ (s1.trans s2))
                  unfold newBad
                  rw [if_neg g1, if_neg (by omega), if_neg (by omega), if_neg g4, if_pos e5]
                | true =>
                  refine iteF (fin _ ?_ _ (s1.trans s2))
                  unfold newBad
                  rw [if_neg g1, if_neg (by omega), if_neg (by omega), if_neg g4, if_neg (by rw [e5]; decide)]
/-! ### lot -/
theorem kvs_snoc {adr : Nat → Addr} {ids : List Nat} {m : Nat} {x : Addr} (h : m ∉ ids) : putK (kvs adr ids) (Sum.inl (m : Int)) (.ref x) = kvs (fun i => if i = m then x else adr i) (ids ++ [m]) := by
  rw [putK_new _ (kvs_no h)]
  unfold kvs
  rw [List.map_append, List.map_cons, List.map_nil]
  dsimp only
  rw [if_pos rfl]
  congr 1
  refine List.map_congr_left fun i hi => ?_
  rw [if_neg (show ¬ i = m from fun z => h (by rw [← z]; exact hi))]
theorem sc_lot : FnScope ["house", "told", "hour", "count", "crates", "refusal", "number"] ["house", "told"] (defScope s_answer_lot) := ⟨rfl, rfl, rfl, by decide +kernel, rfl, by decide +kernel, by decide +kernel⟩
theorem lot_house_ne {H : Hp} {p q dx : Addr} {bg : Bool} {t n h e : Int} {d : Addr} {i : Nat} {x : Kv349.Lot} (hp : H p = some (.ins CH dx (hf bg t n h e d))) (hq : LotAt CL H q i x) : q ≠ p := fun z => by
  obtain ⟨dy, e'⟩ := hq
  rw [z, hp] at e'
  have e1 := Option.some.inj e'
  injection e1 with _ _ e3
  exact absurd (congrArg List.length e3) (by show ¬ (6 = 4); decide)
theorem ok_lot_ {f fI : Addr} {fd fdI : FuncData} (F : Fun K "answer_lot" "answer_lot" s_answer_lot f fd) (T : Txt K mg CL CH) (M : Mk K CL fI) (FI : FnOk P w K mg base CX0 1 fI fdI ["self", "number", "begins", "ends", "crates"] (spLotInit CL)) (bI : L2.Binds K fdI ["self", "number", "begins", "ends", "crates"] [])
    (D1 : Def P w K mg base 4 "refusal_of_new_lot" ["house", "hour", "count", "crates"] (spNew CL CH)) : FnOk P w K mg base CX0 5 f fd ["house", "told"] (fun vs H Q E => ∃ h n c, spAct CL CH (.lot h n c) [h, n, c] none vs H Q E) := by
  refine F.ok sc_lot (fun vs H Q E ⟨_, _, _, h⟩ => act_len h) (fun cdv A outer s H vs Q E hr h => ?_)
  obtain ⟨h, n, c, p, t, a, rfl, hA, ht, q⟩ := h
  obtain ⟨dx, d, adr, hX⟩ := id hA
  have hr2 : Room (1 + 1) _ := hr.mono (by decide)
  have hfew := hX.few
  rw [does_lot] at q
  refine ⟨_, pss_cons (ps_set (i := 2) sc_lot.nd rfl (Or.inl rfl) (pe_ix ix_list (pv 1) pe_int (fun _ _ => rfl))) (pss_cons (ps_set (i := 3) sc_lot.nd rfl (Or.inl rfl) (pe_ix ix_list (pv 1) pe_int (fun _ _ => rfl))) (pss_cons (ps_set (i := 4) sc_lot.nd rfl (Or.inl rfl) (pe_ix ix_list (pv 1) pe_int (fun _ _ => rfl)))
    (pss_cons (ps_set (i := 5) sc_lot.nd rfl (Or.inl rfl) (pe_def D1 hr rfl (pa_cons (pv 0) (pa_cons (pv 2) (pa_cons (pv 3) (pa_cons (pv 4) pa_nil))))))
    (pss_cons (ps_if (pt_cmpR op_lt (pv 5) pe_int (nomark _)) (pss_one (ps_ret (pe_lst (pa_cons (pv 5) pa_nil)))) pss_nil)
    (pss_cons (ps_set (i := 6) sc_lot.nd rfl (Or.inl rfl) (pe_fld (pv 0) rfl))
    (pss_cons (ps_dput (hu_of hr) (pe_fld (pv 0) rfl) (pv 6) (pe_make M FI hr2 rfl T.mgL bI .nil pass0 (pa_cons (pv 6) (pa_cons (pv 2) (pa_cons (pe_op op_add (pv 2) (pv 3)) (pa_cons (pv 4) pa_nil))))) rfl)
    (pss_cons (ps_fld (pv 0) (pe_op op_add (pv 6) pe_int) rfl)
    (pss_one (ps_ret (pe_lst (pa_cons (pv 6) pa_nil))))))))))), ?_⟩
  refine ⟨_, rfl, t, _, _, _, rfl, rfl, SqL.of ht, atI_nat (j := 0) rfl, ?_⟩
  refine ⟨_, rfl, t, _, _, _, rfl, rfl, SqL.of ht, atI_nat (j := 1) rfl, ?_⟩
  refine ⟨_, rfl, t, _, _, _, rfl, rfl, SqL.of ht, atI_nat (j := 2) rfl, ?_⟩
  refine ⟨_, rfl, _, rfl, _, rfl, _, rfl, p, a, dx, d, adr, h, n, c, rfl, hX, fun H1 s1 => ?_⟩
  refine ⟨_, rfl, _, _, rfl, rfl, _, rfl, ite2 (fun c1 => ?_) (fun c1 => ?_)⟩
  · have c1' := of_decide_eq_true c1
    rw [if_pos c1'] at q
    refine ⟨_, rfl, (by show 1 ≤ sizeLine; decide), fun l nl => ?_⟩
    have s2 : Same H (upd H1 l (.lst [.int (newBad a h n c)])) := s1.trans (same_new nl)
    exact q _ l (Same.keeps s2) (hA.keep s2) (s1.free nl) upd_same
  · have c1' := of_decide_eq_false (Bool.eq_false_iff.mpr c1)
    rw [if_neg c1'] at q
    obtain ⟨k1, k2, k3, k4⟩ := newBad_ok c1'
    have hX1 := hX.keep s1
    refine ⟨_, rfl, p, CH, dx, _, _, rfl, hX1.obj, T.clH, T.hE, hf_e .., ?_⟩
    refine ⟨_, rfl, _, rfl, _, rfl, _, rfl, _, _, rfl, rfl, _, rfl, fun x dy nx ny nxy => ?_⟩
    refine ⟨x, dy, _, _, _, _, rfl, upd_same, fun H2 h2 k2' => ⟨rfl, ?_⟩⟩
    have s2 : Same H1 H2 := Same.made nx ny k2'
    have s12 := s1.trans s2
    have hX2 := hX.keep s12
    have nd : d ≠ x := ne_of_none hX1.dic nx
    have npx : p ≠ x := ne_of_none hX1.obj nx
    have nm : a.lots.length ∉ a.ids := fun z => Nat.lt_irrefl _ (mem_ids.mp z).1
    refine ⟨_, rfl, p, CH, dx, _, _, rfl, hX2.obj, T.clH, T.hL, hf_l .., _, rfl, d, _, rfl, DPut.k (k := Sum.inl (a.lots.length : Int)) hX2.dic (by rw [kvs_len]; exact small_line (by omega)), ?_⟩
    rw [kvs_snoc nm]
    have ndp : d ≠ p := fun z => by have := hX2.dic; rw [z, hX2.obj] at this; cases this
    refine ⟨_, rfl, _, _, rfl, rfl, _, rfl, p, CH, dx, _, rfl, (by rw [upd_ne (Ne.symm ndp)]; exact hX2.obj), T.clH, T.hE, (by show 6 < 1000; decide), ?_⟩
    refine ⟨_, rfl, (by show 1 ≤ sizeLine; decide), fun l nl => ?_⟩
    have ei := withLot_ids (a := a) (x := ⟨h, h + n, c, true⟩) rfl
    have h4k : ∀ b o, H2 b = some o → b ≠ p → b ≠ d → upd (upd H2 d (.dK (kvs (fun i => if i = a.lots.length then x else adr i) (a.ids ++ [a.lots.length])))) p (.ins CH dx (hf true a.tanks a.need a.hour ((a.lots.length : Int) + 1) d)) b = some o := fun b o e hp hd => by rw [upd_ne hp, upd_ne hd]; exact e
    have hN : HouseX CL CH (upd (upd H2 d (.dK (kvs (fun i => if i = a.lots.length then x else adr i) (a.ids ++ [a.lots.length])))) p (.ins CH dx (hf true a.tanks a.need a.hour ((a.lots.length : Int) + 1) d))) p (withLot a ⟨h, h + n, c, true⟩) dx d (fun i => if i = a.lots.length then x else adr i) := by
      refine ⟨?_, ?_, fun i hi => ?_, ok_lot hX.ok k1 k2 k3 k4⟩
      · rw [upd_same]
        have el : (withLot a ⟨h, h + n, c, true⟩).lots.length = a.lots.length + 1 := by show (a.lots ++ [_]).length = _; rw [List.length_append]; rfl
        rw [el]; rfl
      · rw [upd_ne ndp, upd_same, ei]
      · rw [ei] at hi
        rcases List.mem_append.mp hi with hi | hi
        · have hil := (mem_ids.mp hi).1
          rw [withLot_old hil, if_neg (by omega)]
          have hq := hX2.lots i hi
          obtain ⟨dz, ez⟩ := id hq
          exact ⟨dz, h4k _ _ ez (lot_house_ne hX2.obj hq) fun z => by rw [z, hX2.dic] at ez; cases ez⟩
        · rw [List.mem_singleton.mp hi, withLot_new, if_pos rfl]
          exact ⟨dy, h4k _ _ h2 (Ne.symm npx) (Ne.symm nd)⟩
    have kp : Keeps H (upd (upd H2 d (.dK (kvs (fun i => if i = a.lots.length then x else adr i) (a.ids ++ [a.lots.length])))) p (.ins CH dx (hf true a.tanks a.need a.hour ((a.lots.length : Int) + 1) d))) :=
      ((Same.keeps s12).upd hX2.dic rfl).upd (by rw [upd_ne (Ne.symm ndp)]; exact hX2.obj) rfl
    have nl' : H l = none := by
      cases e : H l with
      | none => rfl
      | some o =>
        by_cases z : l = p
        · rw [z, upd_same] at nl; cases nl
        · rw [upd_ne z] at nl
          by_cases z2 : l = d
          · rw [z2, upd_same] at nl; cases nl
          · rw [upd_ne z2, s12 _ _ e] at nl; cases nl
    have s5 := same_new (o := .lst [.int (a.lots.length : Nat)]) nl
    exact q _ l (kp.trans (Same.keeps s5)) ⟨dx, d, _, hN.keep s5⟩ nl' upd_same
/-! ### drop -/
theorem sc_drop : FnScope ["house", "told", "number", "lot"] ["house", "told"] (defScope s_answer_drop) := ⟨rfl, rfl, rfl, by decide +kernel, rfl, by decide +kernel, by decide +kernel⟩
theorem ok_drop_ {f : Addr} {fd : FuncData} (F : Fun K "answer_drop" "answer_drop" s_answer_drop f fd) (T : Txt K mg CL CH) (C : Cons mg) (D1 : Def P w K mg base 1 "has_ended" ["house", "lot"] (spEnded CL CH)) : FnOk P w K mg base CX0 2 f fd ["house", "told"] (fun vs H Q E => ∃ l, spAct CL CH (.drop l) [l] none vs H Q E) := by
  refine F.ok sc_drop (fun vs H Q E ⟨_, h⟩ => act_len h) (fun cdv A outer s H vs Q E hr h => ?_)
  obtain ⟨l, p, t, a, rfl, hA, ht, q⟩ := h
  obtain ⟨dx, d, adr, hX⟩ := id hA
  refine ⟨_, pss_cons (ps_set (i := 2) sc_drop.nd rfl (Or.inl rfl) (pe_ix ix_list (pv 1) pe_int (fun _ _ => rfl)))
    (pss_cons (ps_if (pt_cmp (pc_dnotin (hu_of hr) (pv 2) (pe_fld (pv 0) rfl))) (pss_one (ps_ret (pe_lst (pa_cons (pcon C.none_) pa_nil)))) pss_nil)
    (pss_cons (ps_set (i := 3) sc_drop.nd rfl (Or.inl rfl) (pe_dpop1 (pe_fld (pv 0) rfl) (pv 2) ⟨rfl, rfl, rfl, rfl⟩))
    (pss_one (ps_ret (pe_lst (pa_cons (pe_fld (pv 3) rfl) (pa_cons (pe_ifExp (pt_val (pe_def D1 hr rfl (pa_cons (pv 0) (pa_cons (pv 3) pa_nil)))) pe_int pe_int) pa_nil))))))), ?_⟩
  refine ⟨_, rfl, t, _, _, _, rfl, rfl, SqL.of ht, atI_nat (j := 0) rfl, ?_⟩
  refine ⟨_, rfl, _, rfl, p, CH, dx, _, _, rfl, hX.obj, T.clH, T.hL, hf_l .., d, _, rfl, DGet.k (k := Sum.inl (l : Int)) hX.dic, _, rfl, ?_⟩
  by_cases hm : l ∈ a.ids
  · rw [kvs_val hm]
    refine iteF ⟨_, rfl, p, CH, dx, _, _, rfl, hX.obj, T.clH, T.hL, hf_l .., d, rfl, .inl ⟨_, .inl hX.dic⟩, _, rfl, _, Sum.inl (l : Int), _, hX.dic, rfl, kvs_val hm, ?_⟩
    rw [kvs_drop]
    have hql := hX.lots l hm
    have ndp : d ≠ p := fun z => by have := hX.dic; rw [z, hX.obj] at this; cases this
    have h1p : upd H d (.dK (kvs adr (a.ids.filter fun i => i != l))) p = some (.ins CH dx (hf true a.tanks a.need a.hour a.lots.length d)) := by rw [upd_ne (Ne.symm ndp)]; exact hX.obj
    have h1l : ∀ i, i ∈ a.ids → LotAt CL (upd H d (.dK (kvs adr (a.ids.filter fun i => i != l)))) (adr i) i (a.lot i) := fun i hi => by
      obtain ⟨dz, ez⟩ := hX.lots i hi
      exact ⟨dz, by rw [upd_ne (fun z => by rw [z, hX.dic] at ez; cases ez)]; exact ez⟩
    have e : a.does (.drop l) = (without a l, ⟨((a.lot l).crates : Nat), [Kv349.bit ((a.lot l).upto ≤ a.hour)]⟩) := by
      show (if a.has l = false then _ else _) = _
      rw [if_neg (by rw [has_iff.mpr hm]; decide)]; rfl
    rw [e] at q
    have hN : HouseX CL CH (upd H d (.dK (kvs adr (a.ids.filter fun i => i != l)))) p (without a l) dx d adr := by
      refine ⟨?_, ?_, fun i hi => ?_, ok_drop hX.ok⟩
      · rw [show (without a l).lots.length = a.lots.length from withAt_len]; exact h1p
      · rw [upd_same, without_ids]
      · rw [without_ids] at hi
        obtain ⟨hi1, hi2⟩ := List.mem_filter.mp hi
        rw [without_lot (by simpa using hi2)]
        exact h1l i hi1
    have kp : Keeps H (upd H d (.dK (kvs adr (a.ids.filter fun i => i != l)))) := (Same.keeps (Same.refl H)).upd hX.dic rfl
    obtain ⟨dz, ez⟩ := h1l l hm
    refine ⟨_, rfl, adr l, CL, dz, _, _, rfl, ez, T.clL, T.lC, lf_c .., _, rfl, _, rfl, p, adr l, a, dx, d, l, a.lot l, rfl, h1p, ⟨dz, ez⟩, _, rfl, ?_⟩
    have fin : ∀ z : Nat, Kv349.bit ((a.lot l).upto ≤ a.hour) = z → ∀ o, upd H d (.dK (kvs adr (a.ids.filter fun i => i != l))) o = none → Q (.ref o) (upd (upd H d (.dK (kvs adr (a.ids.filter fun i => i != l)))) o (.lst [.int ((a.lot l).crates : Nat), .int (z : Nat)])) := fun z ezz o no => by
      subst ezz
      have s5 := same_new (o := .lst [.int ((a.lot l).crates : Nat), .int (Kv349.bit ((a.lot l).upto ≤ a.hour) : Nat)]) no
      refine q _ o (kp.trans (Same.keeps s5)) ⟨dx, d, adr, hN.keep s5⟩ ?_ upd_same
      cases e' : H o with
      | none => rfl
      | some u =>
        by_cases zz : o = d
        · rw [zz, upd_same] at no; cases no
        · rw [upd_ne zz, e'] at no; cases no
    refine ite2 (fun c => ?_) (fun c => ?_)
    · refine ⟨(by show 2 ≤ sizeLine; decide), fin 1 ?_⟩
      unfold Kv349.bit
      rw [if_pos c]
    · refine ⟨(by show 2 ≤ sizeLine; decide), fin 0 ?_⟩
      unfold Kv349.bit
      rw [if_neg c]
  · rw [kvs_no hm]
    refine iteT ⟨(by show 1 ≤ sizeLine; decide), fun l' nl => say_only q ?_ hA (Same.refl _) nl⟩
    show (if a.has l = false then _ else _) = _
    rw [if_pos (Bool.eq_false_iff.mpr fun z => hm (has_iff.mp z))]
/-! ### longer -/
theorem sc_longer : FnScope ["house", "told", "number", "count", "lot"] ["house", "told"] (defScope s_answer_longer) := ⟨rfl, rfl, rfl, by decide +kernel, rfl, by decide +kernel, by decide +kernel⟩
theorem ok_longer_ {f : Addr} {fd : FuncData} (F : Fun K "answer_longer" "answer_longer" s_answer_longer f fd) (T : Txt K mg CL CH) (C : Cons mg) (D0 : DAll P w K mg base CL CH) (D1 : Def P w K mg base 1 "has_ended" ["house", "lot"] (spEnded CL CH)) (D2 : Def P w K mg base 2 "is_count_of_hours" ["number"] spCount)
    (D3 : Def P w K mg base 3 "may_lie" ["lots", "hour", "count", "tanks"] (spMay K CL)) : FnOk P w K mg base CX0 4 f fd ["house", "told"] (fun vs H Q E => ∃ l n, spAct CL CH (.longer l n) [l, n] none vs H Q E) := by
  refine F.ok sc_longer (fun vs H Q E ⟨_, _, h⟩ => act_len h) (fun cdv A outer s H vs Q E hr h => ?_)
  obtain ⟨l, n, p, t, a, rfl, hA, ht, q⟩ := h
  obtain ⟨dx, d, adr, hX⟩ := id hA
  have hr1 : Room 1 _ := hr.mono (by decide)
  have hr2 : Room 2 _ := hr.mono (by decide)
  have hfew := hX.few
  have ed : a.does (.longer l n) = if a.has l = false then (a, say (-2)) else if okN n = false then (a, say (-22)) else if (a.lot l).upto ≤ a.hour then (a, say (-17)) else if a.tanks < (withMore a l n).peak (withMore a l n).ids then (a, say (-33)) else (withMore a l n, say ((a.lot l).upto + n : Nat)) := rfl
  refine ⟨_, pss_cons (ps_set (i := 2) sc_longer.nd rfl (Or.inl rfl) (pe_ix ix_list (pv 1) pe_int (fun _ _ => rfl))) (pss_cons (ps_set (i := 3) sc_longer.nd rfl (Or.inl rfl) (pe_ix ix_list (pv 1) pe_int (fun _ _ => rfl)))
    (pss_cons (ps_if (pt_cmp (pc_dnotin (hu_of hr) (pv 2) (pe_fld (pv 0) rfl))) (pss_one (ps_ret (pe_lst (pa_cons (pcon C.none_) pa_nil)))) pss_nil)
    (pss_cons (ps_if (pt_not (pt_val (pe_def D2 hr2 rfl (pa_cons (pv 3) pa_nil)))) (pss_one (ps_ret (pe_lst (pa_cons (pcon C.oor) pa_nil)))) pss_nil)
    (pss_cons (ps_set (i := 4) sc_longer.nd rfl (Or.inl rfl) (pe_dget (hu_of hr) (pe_fld (pv 0) rfl) (pv 2) (fun _ _ => rfl)))
    (pss_cons (ps_if (pt_val (pe_def D1 hr1 rfl (pa_cons (pv 0) (pa_cons (pv 4) pa_nil)))) (pss_one (ps_ret (pe_lst (pa_cons (pcon C.ended) pa_nil)))) pss_nil)
    (pss_cons (ps_if (pt_not (pt_val (pe_def D3 hr rfl (pa_cons (pe_def D0 hr1 rfl (pa_cons (pv 0) pa_nil)) (pa_cons (pe_fld (pv 4) rfl) (pa_cons (pv 3) (pa_cons (pe_fld (pv 0) rfl) pa_nil))))))) (pss_one (ps_ret (pe_lst (pa_cons (pcon C.notank) pa_nil)))) pss_nil)
    (pss_cons (ps_fld (pv 4) (pe_op op_add (pe_fld (pv 4) rfl) (pv 3)) rfl)
    (pss_one (ps_ret (pe_lst (pa_cons (pe_fld (pv 4) rfl) pa_nil))))))))))), ?_⟩
  refine ⟨_, rfl, t, _, _, _, rfl, rfl, SqL.of ht, atI_nat (j := 0) rfl, ?_⟩
  refine ⟨_, rfl, t, _, _, _, rfl, rfl, SqL.of ht, atI_nat (j := 1) rfl, ?_⟩
  refine ⟨_, rfl, _, rfl, p, CH, dx, _, _, rfl, hX.obj, T.clH, T.hL, hf_l .., d, _, rfl, DGet.k (k := Sum.inl (l : Int)) hX.dic, _, rfl, ?_⟩
  by_cases hm : l ∈ a.ids
  · rw [kvs_val hm]
    have g1 : ¬ a.has l = false := by rw [has_iff.mpr hm]; decide
    rw [if_neg g1] at ed
    refine iteF ⟨_, rfl, n, rfl, _, rfl, ?_⟩
    cases e2 : okN n with
    | false =>
      rw [if_pos e2] at ed
      exact iteT ⟨(by show 1 ≤ sizeLine; decide), fun l' nl => say_only q ed hA (Same.refl _) nl⟩
    | true =>
      rw [if_neg (by rw [e2]; decide)] at ed
      have hn1 : 1 ≤ n := by
        unfold Kv349.okN at e2
        rw [Bool.and_eq_true, decide_eq_true_iff] at e2
        exact e2.1
      obtain ⟨dz, ez⟩ := hX.lots l hm
      have gl := DGet.k (k := (Sum.inl (l : Int) : Key)) hX.dic
      rw [kvs_val hm] at gl
      refine iteF ⟨_, rfl, p, CH, dx, _, _, rfl, hX.obj, T.clH, T.hL, hf_l .., _, rfl, d, _, rfl, gl, ?_⟩
      refine ⟨_, rfl, _, rfl, p, adr l, a, dx, d, l, a.lot l, rfl, hX.obj, ⟨dz, ez⟩, _, rfl, ite2 (fun c => ?_) (fun c => ?_)⟩
      · rw [if_pos (of_decide_eq_true c)] at ed
        exact ⟨(by show 1 ≤ sizeLine; decide), fun l' nl => say_only q ed hA (Same.refl _) nl⟩
      · rw [if_neg (of_decide_eq_false (Bool.eq_false_iff.mpr c))] at ed
        refine ⟨_, rfl, p, a, dx, d, adr, rfl, hX, fun H1 l1 s1 n1 h1 => ?_⟩
        have hX1 := hX.keep s1
        refine ⟨_, rfl, adr l, CL, dz, _, _, rfl, s1 _ _ ez, T.clL, T.lE, lf_e .., _, rfl, _, rfl, p, CH, dx, _, _, rfl, hX1.obj, T.clH, T.hT, hf_t .., l1, (a.lot l).upto, n, a.tanks, a, adr, a.ids, rfl, SqL.of h1, by omega, hX1.lots, fun H2 s2 => ⟨_, rfl, ?_⟩⟩
        rw [mayL_eq]
        have s12 := s1.trans s2
        have hX2 := hX.keep s12
        have hli := longer_iff (n := n) hX.ok hm hn1
        cases e5 : a.may a.tanks (a.lot l).upto n with
        | false =>
          have g5 : a.tanks < (withMore a l n).peak (withMore a l n).ids := Nat.lt_of_not_le fun z => by rw [hli.mp z] at e5; cases e5
          rw [if_pos g5] at ed
          exact iteT ⟨(by show 1 ≤ sizeLine; decide), fun l' nl => say_only q ed hA s12 nl⟩
        | true =>
          have g5 := hli.mpr e5
          rw [if_neg (by omega)] at ed
          rw [ed] at q
          refine iteF ⟨_, rfl, adr l, CL, dz, _, _, rfl, s12 _ _ ez, T.clL, T.lE, lf_e .., _, rfl, _, _, rfl, rfl, _, rfl, adr l, CL, dz, _, rfl, s12 _ _ ez, T.clL, T.lE, (by show 4 < 1000; decide), ?_⟩
          refine ⟨_, rfl, adr l, CL, dz, _, _, rfl, upd_same, T.clL, T.lE, (lf_e ..), (by show 1 ≤ sizeLine; decide), fun o no => ?_⟩
          have ezz := s12 _ _ ez
          have nep : adr l ≠ p := lot_house_ne hX2.obj ⟨dz, ezz⟩
          have ned : adr l ≠ d := fun z => by rw [z, hX2.dic] at ezz; cases ezz
          have h3 : ∀ b u, H2 b = some u → b ≠ adr l → upd H2 (adr l) (.ins CL dz (lf l (a.lot l).from_ (((a.lot l).upto : Int) + (n : Int)) (a.lot l).crates)) b = some u := fun b u e hb => by rw [upd_ne hb]; exact e
          have hN : HouseX CL CH (upd H2 (adr l) (.ins CL dz (lf l (a.lot l).from_ (((a.lot l).upto : Int) + (n : Int)) (a.lot l).crates))) p (withMore a l n) dx d adr := by
            refine ⟨?_, ?_, fun i hi => ?_, ok_longer hX.ok g5⟩
            · rw [show (withMore a l n).lots.length = a.lots.length from withAt_len]
              exact h3 _ _ hX2.obj (Ne.symm nep)
            · rw [withMore_ids]
              exact h3 _ _ hX2.dic (Ne.symm ned)
            · rw [withMore_ids] at hi
              by_cases eil : i = l
              · subst eil
                rw [show (withMore a i n).lot i = { a.lot i with upto := (a.lot i).upto + n } from withAt_same (mem_ids.mp hi).1]
                exact ⟨dz, by rw [upd_same]; rfl⟩
              · rw [show (withMore a l n).lot i = a.lot i from withAt_ne eil]
                obtain ⟨dw, ew⟩ := hX2.lots i hi
                refine ⟨dw, h3 _ _ ew fun z => eil ?_⟩
                rw [z, ezz] at ew
                have e6 := Option.some.inj ew
                injection e6 with _ _ e7
                have e8 := congrArg (List.lookup ("number" : Str)) e7
                rw [lf_n, lf_n] at e8
                have := V.int.inj (Option.some.inj e8)
                omega
          have kp : Keeps H (upd H2 (adr l) (.ins CL dz (lf l (a.lot l).from_ (((a.lot l).upto : Int) + (n : Int)) (a.lot l).crates))) := (Same.keeps s12).upd ezz rfl
          have no' : H o = none := by
            cases e' : H o with
            | none => rfl
            | some u =>
              by_cases zz : o = adr l
              · rw [zz, upd_same] at no; cases no
              · rw [upd_ne zz, s12 _ _ e'] at no; cases no
          have s5 := same_new (o := .lst [.int (((a.lot l).upto : Int) + (n : Int))]) no
          exact q _ o (kp.trans (Same.keeps s5)) ⟨dx, d, adr, hN.keep s5⟩ no' upd_same
  · rw [kvs_no hm]
    rw [if_pos (Bool.eq_false_iff.mpr fun z => hm (has_iff.mp z))] at ed
    exact iteT ⟨(by show 1 ≤ sizeLine; decide), fun l' nl => say_only q ed hA (Same.refl _) nl⟩
end
end Ct
end
section
set_option Elab.async false
set_option linter.all false
set_option maxRecDepth 100000
set_option maxHeartbeats 4000000
namespace Ct
open PySem PySem.Spec PyProof.Rows L2
open Kv349 (say okH okN)
/-! ### sums and the last hour -/
theorem sum_hours {a : Kv349.Abs} : ∀ {l : List Nat}, (∀ i ∈ l, (a.lot i).from_ ≤ (a.lot i).upto) → (l.map fun i => ((a.lot i).upto : Int) - ((a.lot i).from_ : Int)).sum = (((l.map fun i => (a.lot i).upto - (a.lot i).from_).sum : Nat) : Int)
  | [], _ => rfl
  | i :: l, h => by
    rw [List.map_cons, List.sum_cons, List.map_cons, List.sum_cons, sum_hours fun j hj => h j (List.mem_cons_of_mem _ hj)]
    have := h i List.mem_cons_self
    omega
theorem sum_nats (f : Nat → Nat) : ∀ (l : List Nat), (l.map fun i => (f i : Int)).sum = (((l.map f).sum : Nat) : Int)
  | [] => rfl
  | i :: l => by
    rw [List.map_cons, List.sum_cons, List.map_cons, List.sum_cons, sum_nats f l]
    omega
theorem last_is {f : Nat → Nat} {l : List Nat} {m : Int} (h1 : m ∈ l.map fun i => (f i : Int)) (h2 : ∀ y, y ∈ (l.map fun i => (f i : Int)) → y ≤ m) : (((l.map f).foldl max 0 : Nat) : Int) = m := by
  obtain ⟨i, hi, rfl⟩ := List.mem_map.mp h1
  have l1 : (l.map f).foldl max 0 ≤ f i := (foldl_max_le _ _ _).mpr ⟨Nat.zero_le _, fun x hx => by
    obtain ⟨j, hj, rfl⟩ := List.mem_map.mp hx
    have := h2 _ (List.mem_map.mpr ⟨j, hj, rfl⟩)
    omega⟩
  have l2 := ((foldl_max_le (l.map f) 0 _).mp (Nat.le_refl _)).2 (f i) (List.mem_map.mpr ⟨i, hi, rfl⟩)
  omega
theorem has_no {a : Kv349.Abs} {l : Nat} (h : l ∉ a.ids) : a.has l = false := Bool.eq_false_iff.mpr fun z => h (has_iff.mp z)
theorem has_yes {a : Kv349.Abs} {l : Nat} (h : l ∈ a.ids) : ¬ a.has l = false := by rw [has_iff.mpr h]; decide
theorem okN_pos {n : Nat} (h : okN n = true) : 1 ≤ n := by
  unfold Kv349.okN at h
  rw [Bool.and_eq_true, decide_eq_true_iff, decide_eq_true_iff] at h
  exact h.1
theorem Ok.lotpos {a : Kv349.Abs} (ok : Ok a) {i : Nat} (hi : i ∈ a.ids) : (a.lot i).from_ < (a.lot i).upto := by
  have h := (mem_ids.mp hi).1
  refine ok.pos _ ?_
  unfold Kv349.Abs.lot
  rw [List.getD_eq_getElem?_getD, List.getElem?_eq_getElem h]
  exact List.getElem_mem h
section
variable {P : Program} {w : World} {K : PySem.W.Frag} {mg : Str → Option Value} {base : Heap} {CL CH : Addr}
/-! ### meets -/
theorem sc_meets : FnScope ["house", "told", "number"] ["house", "told"] (defScope s_answer_meets) := ⟨rfl, rfl, rfl, by decide +kernel, rfl, by decide +kernel, by decide +kernel⟩
theorem ok_meets {f : Addr} {fd : FuncData} (F : Fun K "answer_meets" "answer_meets" s_answer_meets f fd) (T : Txt K mg CL CH) (C : Cons mg) (D1 : DAll P w K mg base CL CH) (D2 : Def P w K mg base 2 "meeting" ["lots", "lot"] (spMeeting K CL)) (D3 : DThese P w K mg base CL) :
    FnOk P w K mg base CX0 3 f fd ["house", "told"] (fun vs H Q E => ∃ l, spAct CL CH (.meets l) [l] none vs H Q E) := by
  refine F.ok sc_meets (fun vs H Q E ⟨_, h⟩ => act_len h) (fun cdv A outer s H vs Q E hr h => ?_)
  obtain ⟨l, p, t, a, rfl, hA, ht, q⟩ := h
  obtain ⟨dx, d, adr, hX⟩ := id hA
  have hr1 : Room 1 _ := hr.mono (by decide)
  have hfew := hX.few
  refine ⟨_, pss_cons (ps_set (i := 2) sc_meets.nd rfl (Or.inl rfl) (pe_ix ix_list (pv 1) pe_int (fun _ _ => rfl)))
    (pss_cons (ps_if (pt_cmp (pc_dnotin (hu_of hr) (pv 2) (pe_fld (pv 0) rfl))) (pss_one (ps_ret (pe_lst (pa_cons (pcon C.none_) pa_nil)))) pss_nil)
    (pss_one (ps_ret (pe_def D3 hr rfl (pa_cons (pe_def D2 hr rfl (pa_cons (pe_def D1 hr1 rfl (pa_cons (pv 0) pa_nil)) (pa_cons (pe_dget (hu_of hr) (pe_fld (pv 0) rfl) (pv 2) (fun _ _ => rfl)) pa_nil))) pa_nil))))), ?_⟩
  refine ⟨_, rfl, t, _, _, _, rfl, rfl, SqL.of ht, atI_nat (j := 0) rfl, ?_⟩
  refine ⟨_, rfl, _, rfl, p, CH, dx, _, _, rfl, hX.obj, T.clH, T.hL, hf_l .., d, _, rfl, DGet.k (k := Sum.inl (l : Int)) hX.dic, _, rfl, ?_⟩
  by_cases hm : l ∈ a.ids
  · rw [kvs_val hm]
    refine iteF ⟨_, rfl, p, a, dx, d, adr, rfl, hX, fun H1 l1 s1 n1 h1 => ?_⟩
    have g : DGet H1 d (.int (l : Nat)) (some (.ref (adr l))) := by
      have := DGet.k (k := (Sum.inl (l : Int) : Key)) (s1 _ _ hX.dic)
      rw [kvs_val hm] at this
      exact this
    refine ⟨_, rfl, p, CH, dx, _, _, rfl, s1 _ _ hX.obj, T.clH, T.hL, hf_l .., _, rfl, d, _, rfl, g, ?_⟩
    refine ⟨l1, adr l, l, a, adr, a.ids, rfl, SqL.of h1, by omega, hX.lots.keep s1, (hX.lots l hm).keep s1, fun H2 l2 s2 n2 h2 => ?_⟩
    have hfl : (a.ids.filter fun i => i != l && (a.lot i).meets (a.lot l)).length ≤ 12 := Nat.le_trans List.filter_sublist.length_le hfew
    refine ⟨l2, a, adr, _, rfl, SqL.of h2, hfl, (hX.lots.sub fun i hi => (List.mem_filter.mp hi).1).keep (s1.trans s2), fun H3 l3 s3 n3 h3 => ?_⟩
    refine these_only q ?_ hA ((s1.trans s2).trans s3) ((s1.trans s2).free n3) h3
    show (if a.has l = false then _ else _) = _
    rw [if_neg (has_yes hm), ← rise_ids]
  · rw [kvs_no hm]
    refine iteT ⟨(by show 1 ≤ sizeLine; decide), fun l' nl => say_only q ?_ hA (Same.refl _) nl⟩
    show (if a.has l = false then _ else _) = _
    rw [if_pos (has_no hm)]
/-! ### may -/
theorem sc_may_ : FnScope ["house", "told", "hour", "count"] ["house", "told"] (defScope s_answer_may) := ⟨rfl, rfl, rfl, by decide +kernel, rfl, by decide +kernel, by decide +kernel⟩
theorem ok_may_ {f : Addr} {fd : FuncData} (F : Fun K "answer_may" "answer_may" s_answer_may f fd) (T : Txt K mg CL CH) (C : Cons mg) (D1 : DAll P w K mg base CL CH) (D2 : Def P w K mg base 3 "may_lie" ["lots", "hour", "count", "tanks"] (spMay K CL))
    (D3 : Def P w K mg base 2 "is_hour" ["number"] spHour) (D4 : Def P w K mg base 2 "is_count_of_hours" ["number"] spCount) :
    FnOk P w K mg base CX0 4 f fd ["house", "told"] (fun vs H Q E => ∃ h n, spAct CL CH (.may h n) [h, n] none vs H Q E) := by
  refine F.ok sc_may_ (fun vs H Q E ⟨_, _, h⟩ => act_len h) (fun cdv A outer s H vs Q E hr h => ?_)
  obtain ⟨h, n, p, t, a, rfl, hA, ht, q⟩ := h
  obtain ⟨dx, d, adr, hX⟩ := id hA
  have hr1 : Room 1 _ := hr.mono (by decide)
  have hr2 : Room 2 _ := hr.mono (by decide)
  have hfew := hX.few
  refine ⟨_, pss_cons (ps_set (i := 2) sc_may_.nd rfl (Or.inl rfl) (pe_ix ix_list (pv 1) pe_int (fun _ _ => rfl)))
    (pss_cons (ps_set (i := 3) sc_may_.nd rfl (Or.inl rfl) (pe_ix ix_list (pv 1) pe_int (fun _ _ => rfl)))
    (pss_cons (ps_if (PW.pt (pw_or (pt_not (pt_val (pe_def D3 hr2 rfl (pa_cons (pv 2) pa_nil)))) (pw_or1 (pt_not (pt_val (pe_def D4 hr2 rfl (pa_cons (pv 3) pa_nil))))))) (pss_one (ps_ret (pe_lst (pa_cons (pcon C.oor) pa_nil)))) pss_nil)
    (pss_one (ps_ret (pe_lst (pa_cons (pe_ifExp (pt_val (pe_def D2 hr rfl (pa_cons (pe_def D1 hr1 rfl (pa_cons (pv 0) pa_nil)) (pa_cons (pv 2) (pa_cons (pv 3) (pa_cons (pe_fld (pv 0) rfl) pa_nil)))))) pe_int pe_int) pa_nil)))))), ?_⟩
  refine ⟨_, rfl, t, _, _, _, rfl, rfl, SqL.of ht, atI_nat (j := 0) rfl, ?_⟩
  refine ⟨_, rfl, t, _, _, _, rfl, rfl, SqL.of ht, atI_nat (j := 1) rfl, ?_⟩
  have bad : (okH h = false ∨ okN n = false) → 1 ≤ sizeLine ∧ ∀ l, H l = none → Q (.ref l) (upd H l (.lst [.int (-22)])) := fun z => ⟨by decide, fun l nl => say_only q (by
    show (if okH h = false ∨ okN n = false then _ else _) = _
    rw [if_pos z]) hA (Same.refl _) nl⟩
  refine ⟨_, rfl, h, rfl, _, rfl, ?_⟩
  cases e1 : okH h with
  | false => exact iteT (iteT (bad (.inl e1)))
  | true =>
    refine iteF ⟨_, rfl, n, rfl, _, rfl, ?_⟩
    cases e2 : okN n with
    | false => exact iteT (bad (.inr e2))
    | true =>
      have g : ¬ (okH h = false ∨ okN n = false) := by
        rintro (z | z)
        · rw [e1] at z; cases z
        · rw [e2] at z; cases z
      refine iteF ⟨_, rfl, p, a, dx, d, adr, rfl, hX, fun H1 l1 s1 n1 h1 => ?_⟩
      refine ⟨_, rfl, _, rfl, _, rfl, p, CH, dx, _, _, rfl, s1 _ _ hX.obj, T.clH, T.hT, hf_t .., l1, h, n, a.tanks, a, adr, a.ids, rfl, SqL.of h1, by omega, hX.lots.keep s1, fun H2 s2 => ⟨_, rfl, ?_⟩⟩
      rw [mayL_eq]
      cases e5 : a.may a.tanks h n with
      | false =>
        refine iteF ⟨(by show 1 ≤ sizeLine; decide), fun l' nl => say_only q ?_ hA (s1.trans s2) nl⟩
        show (if okH h = false ∨ okN n = false then _ else (a, say (Kv349.bit (a.may a.tanks h n) : Nat))) = _
        rw [if_neg g, e5]; rfl
      | true =>
        refine iteT ⟨(by show 1 ≤ sizeLine; decide), fun l' nl => say_only q ?_ hA (s1.trans s2) nl⟩
        show (if okH h = false ∨ okN n = false then _ else (a, say (Kv349.bit (a.may a.tanks h n) : Nat))) = _
        rw [if_neg g, e5]; rfl
/-! ### firstwith -/
theorem sc_fw : FnScope ["house", "told", "tanks", "hour", "count"] ["house", "told"] (defScope s_answer_firstwith) := ⟨rfl, rfl, rfl, by decide +kernel, rfl, by decide +kernel, by decide +kernel⟩
theorem ok_fw {f : Addr} {fd : FuncData} (F : Fun K "answer_firstwith" "answer_firstwith" s_answer_firstwith f fd) (C : Cons mg) (D1 : DAll P w K mg base CL CH) (D2 : Def P w K mg base 4 "first_hour" ["lots", "hour", "count", "tanks"] (spFirst K CL))
    (D3 : Def P w K mg base 2 "is_hour" ["number"] spHour) (D4 : Def P w K mg base 2 "is_count_of_hours" ["number"] spCount) (D5 : Def P w K mg base 1 "within" ["number", "least", "most"] spWithin) :
    FnOk P w K mg base CX0 5 f fd ["house", "told"] (fun vs H Q E => ∃ x y z, spAct CL CH (.firstWith x y z) [x, y, z] none vs H Q E) := by
  refine F.ok sc_fw (fun vs H Q E ⟨_, _, _, h⟩ => act_len h) (fun cdv A outer s H vs Q E hr h => ?_)
  obtain ⟨k, h, n, p, t, a, rfl, hA, ht, q⟩ := h
  obtain ⟨dx, d, adr, hX⟩ := id hA
  have hr1 : Room 1 _ := hr.mono (by decide)
  have hr2 : Room 2 _ := hr.mono (by decide)
  have hfew := hX.few
  refine ⟨_, pss_cons (ps_set (i := 2) sc_fw.nd rfl (Or.inl rfl) (pe_ix ix_list (pv 1) pe_int (fun _ _ => rfl)))
    (pss_cons (ps_set (i := 3) sc_fw.nd rfl (Or.inl rfl) (pe_ix ix_list (pv 1) pe_int (fun _ _ => rfl)))
    (pss_cons (ps_set (i := 4) sc_fw.nd rfl (Or.inl rfl) (pe_ix ix_list (pv 1) pe_int (fun _ _ => rfl)))
    (pss_cons (ps_if (PW.pt (pw_or (pt_not (pt_val (pe_def D5 hr1 rfl (pa_cons (pv 2) (pa_cons pe_int (pa_cons (pcon C.mTanks) pa_nil)))))) (pw_or (pt_not (pt_val (pe_def D3 hr2 rfl (pa_cons (pv 3) pa_nil)))) (pw_or1 (pt_not (pt_val (pe_def D4 hr2 rfl (pa_cons (pv 4) pa_nil)))))))) (pss_one (ps_ret (pe_lst (pa_cons (pcon C.oor) pa_nil)))) pss_nil)
    (pss_one (ps_ret (pe_lst (pa_cons (pe_def D2 hr rfl (pa_cons (pe_def D1 hr1 rfl (pa_cons (pv 0) pa_nil)) (pa_cons (pv 3) (pa_cons (pv 4) (pa_cons (pv 2) pa_nil))))) pa_nil))))))), ?_⟩
  refine ⟨_, rfl, t, _, _, _, rfl, rfl, SqL.of ht, atI_nat (j := 0) rfl, ?_⟩
  refine ⟨_, rfl, t, _, _, _, rfl, rfl, SqL.of ht, atI_nat (j := 1) rfl, ?_⟩
  refine ⟨_, rfl, t, _, _, _, rfl, rfl, SqL.of ht, atI_nat (j := 2) rfl, ?_⟩
  have bad : (k = 0 ∨ 6 < k ∨ okH h = false ∨ okN n = false) → 1 ≤ sizeLine ∧ ∀ l, H l = none → Q (.ref l) (upd H l (.lst [.int (-22)])) := fun z => ⟨by decide, fun l nl => say_only q (by
    show (if k = 0 ∨ 6 < k ∨ okH h = false ∨ okN n = false then _ else _) = _
    rw [if_pos z]) hA (Same.refl _) nl⟩
  refine ⟨_, rfl, _, _, _, rfl, _, rfl, ite2 (fun c => ?_) (fun c => ?_)⟩
  · rw [Bool.not_eq_true', Bool.eq_false_iff] at c
    refine iteT (bad ?_)
    have : ¬ (1 ≤ k ∧ k ≤ 6) := fun z => c (by rw [Bool.and_eq_true, decide_eq_true_iff, decide_eq_true_iff]; omega)
    omega
  have c1 := Bool.eq_false_iff.mpr c
  rw [Bool.not_eq_false', Bool.and_eq_true, decide_eq_true_iff, decide_eq_true_iff] at c1
  refine ⟨_, rfl, h, rfl, _, rfl, ?_⟩
  cases e1 : okH h with
  | false => exact iteT (iteT (bad (.inr (.inr (.inl e1)))))
  | true =>
    refine iteF ⟨_, rfl, n, rfl, _, rfl, ?_⟩
    cases e2 : okN n with
    | false => exact iteT (bad (.inr (.inr (.inr e2))))
    | true =>
      have g : ¬ (k = 0 ∨ 6 < k ∨ okH h = false ∨ okN n = false) := by
        rintro (z | z | z | z)
        · omega
        · omega
        · rw [e1] at z; cases z
        · rw [e2] at z; cases z
      refine iteF ⟨_, rfl, p, a, dx, d, adr, rfl, hX, fun H1 l1 s1 n1 h1 => ?_⟩
      refine ⟨_, rfl, _, rfl, _, rfl, l1, h, n, k, a, adr, rfl, SqL.of h1, hfew, hX.lots.keep s1, okN_pos e2, by omega, fun H2 s2 => ⟨(by show 1 ≤ sizeLine; decide), fun l' nl => say_only q ?_ hA (s1.trans s2) nl⟩⟩
      show (if k = 0 ∨ 6 < k ∨ okH h = false ∨ okN n = false then _ else _) = _
      rw [if_neg g]
/-! ### first -/
theorem sc_first_ : FnScope ["house", "told"] ["house", "told"] (defScope s_answer_first) := ⟨rfl, rfl, rfl, by decide +kernel, rfl, by decide +kernel, by decide +kernel⟩
theorem does_first {a : Kv349.Abs} (ok : Ok a) (h n : Nat) : a.does (.firstWith a.tanks h n) = a.does (.first h n) := by
  have t1 := ok.tk
  show (if a.tanks = 0 ∨ 6 < a.tanks ∨ okH h = false ∨ okN n = false then _ else _) = (if okH h = false ∨ okN n = false then _ else _)
  by_cases z : okH h = false ∨ okN n = false
  · rw [if_pos z, if_pos (.inr (.inr z))]
  · rw [if_neg z, if_neg]
    rintro (y | y | y)
    · omega
    · omega
    · exact z y
theorem ok_first_ {f : Addr} {fd : FuncData} (F : Fun K "answer_first" "answer_first" s_answer_first f fd) (T : Txt K mg CL CH) (D1 : Def P w K mg base 5 "answer_firstwith" ["house", "told"] (fun vs H Q E => ∃ x y z, spAct CL CH (.firstWith x y z) [x, y, z] none vs H Q E)) :
    FnOk P w K mg base CX0 6 f fd ["house", "told"] (fun vs H Q E => ∃ x y, spAct CL CH (.first x y) [x, y] none vs H Q E) := by
  refine F.ok sc_first_ (fun vs H Q E ⟨_, _, h⟩ => act_len h) (fun cdv A outer s H vs Q E hr h => ?_)
  obtain ⟨h, n, p, t, a, rfl, hA, ht, q⟩ := h
  obtain ⟨dx, d, adr, hX⟩ := id hA
  refine ⟨_, pss_one (ps_ret (pe_def D1 hr rfl (pa_cons (pv 0) (pa_cons (pe_op op_cat (pe_lst (pa_cons (pe_fld (pv 0) rfl) pa_nil)) (pv 1)) pa_nil)))), ?_⟩
  refine ⟨_, rfl, _, rfl, p, CH, dx, _, _, rfl, hX.obj, T.clH, T.hT, hf_t .., (by show 1 ≤ sizeLine; decide), fun l1 n1 => ?_⟩
  have s1 := same_new (o := .lst [.int (a.tanks : Nat)]) n1
  have h1 : upd H l1 (.lst [.int (a.tanks : Nat)]) l1 = some (.lst [.int (a.tanks : Nat)]) := upd_same
  generalize upd H l1 (.lst [.int (a.tanks : Nat)]) = H1 at s1 h1
  refine ⟨_, rfl, l1, t, _, _, rfl, rfl, h1, s1 _ _ ht, (by show 1 + 2 ≤ sizeLine; decide), fun l2 n2 => ?_⟩
  have s2 := same_new (o := .lst ([.int (a.tanks : Nat)] ++ nums [h, n])) n2
  have s12 := s1.trans s2
  refine ⟨a.tanks, h, n, p, l2, a, rfl, hA.keep s12, upd_same, fun H' qa kp hA' nq hq => ?_⟩
  rw [does_first hX.ok] at hA' hq
  exact q H' qa ((Same.keeps s12).trans kp) hA' (s12.free nq) hq
/-! ### ready -/
theorem sc_ready : FnScope ["house", "told", "lot"] ["house", "told"] (defScope s_answer_ready) := ⟨rfl, rfl, rfl, by decide +kernel, rfl, by decide +kernel, by decide +kernel⟩
theorem ok_ready {f : Addr} {fd : FuncData} (F : Fun K "answer_ready" "answer_ready" s_answer_ready f fd) (D1 : DAll P w K mg base CL CH) (D2 : Def P w K mg base 1 "has_ended" ["house", "lot"] (spEnded CL CH)) (D3 : DThese P w K mg base CL) :
    FnOk P w K mg base CX0 3 f fd ["house", "told"] (spAct CL CH .ready [] none) := by
  refine F.ok sc_ready (fun vs H Q E h => act_len h) (fun cdv A outer s H vs Q E hr h => ?_)
  obtain ⟨p, t, a, rfl, hA, ht, q⟩ := h
  obtain ⟨dx, d, adr, hX⟩ := id hA
  have hr1 : Room 1 _ := hr.mono (by decide)
  have hfew := hX.few
  refine ⟨_, pss_one (ps_ret (pe_def D3 hr rfl (pa_cons (pe_lc (own := [("lot", 2)]) rfl sc_ready.nd (pi_list (pe_def D1 hr1 rfl (pa_cons (pv 0) pa_nil))) (blkOk_by rfl) (fun _ _ _ _ _ => pg_name (i := 2) sc_ready.nd rfl (Or.inl rfl))
      (fun _ _ _ _ _ => pts_one (pt_val (pe_def D2 hr1 rfl (pa_cons (pv 0) (pa_cons (pv 2) pa_nil))))) (fun _ _ _ _ _ => pv 2)) pa_nil))), ?_⟩
  refine ⟨_, rfl, p, a, dx, d, adr, rfl, hX, fun H1 l1 s1 n1 h1 => ?_⟩
  refine ⟨l1, rfl, ⟨_, SqL.of h1⟩, fun D hD => lc_go (f := fun i => V.ref (adr i)) (keep := fun i => decide ((a.lot i).upto ≤ a.hour)) (val := fun i => V.ref (adr i)) (SqL.of h1) (by omega) hD (fun i hi H' sm KT KF kt kf => ?_) (fun H2 s2 h2 => ?_)⟩
  · refine ⟨rfl, _, rfl, _, rfl, p, adr i, a, dx, d, i, a.lot i, rfl, sm _ _ (s1 _ _ hX.obj), (hX.lots i hi).keep (s1.trans sm), _, rfl, ?_⟩
    exact ite2 (fun c => ⟨_, rfl, kt c _ (Same.refl _)⟩) (fun c => kf (Bool.eq_false_iff.mpr c) _ (Same.refl _))
  · have hfl : (a.ids.filter fun i => decide ((a.lot i).upto ≤ a.hour)).length ≤ 12 := Nat.le_trans List.filter_sublist.length_le hfew
    refine ⟨D, a, adr, _, rfl, SqL.of h2, hfl, (hX.lots.sub fun i hi => (List.mem_filter.mp hi).1).keep (s1.trans s2), fun H3 l3 s3 n3 h3 => ?_⟩
    refine these_only q ?_ hA ((s1.trans s2).trans s3) ((s1.trans s2).free n3) h3
    rw [← rise_ids]; rfl
/-! ### left -/
theorem sc_left : FnScope ["house", "told", "number"] ["house", "told"] (defScope s_answer_left) := ⟨rfl, rfl, rfl, by decide +kernel, rfl, by decide +kernel, by decide +kernel⟩
theorem ok_left {f : Addr} {fd : FuncData} (F : Fun K "answer_left" "answer_left" s_answer_left f fd) (T : Txt K mg CL CH) (C : Cons mg) (D1 : Def P w K mg base 1 "hours_left" ["lot", "hour"] (spLeft CL)) :
    FnOk P w K mg base CX0 2 f fd ["house", "told"] (fun vs H Q E => ∃ l, spAct CL CH (.left_ l) [l] none vs H Q E) := by
  refine F.ok sc_left (fun vs H Q E ⟨_, h⟩ => act_len h) (fun cdv A outer s H vs Q E hr h => ?_)
  obtain ⟨l, p, t, a, rfl, hA, ht, q⟩ := h
  obtain ⟨dx, d, adr, hX⟩ := id hA
  refine ⟨_, pss_cons (ps_set (i := 2) sc_left.nd rfl (Or.inl rfl) (pe_ix ix_list (pv 1) pe_int (fun _ _ => rfl)))
    (pss_cons (ps_if (pt_cmp (pc_dnotin (hu_of hr) (pv 2) (pe_fld (pv 0) rfl))) (pss_one (ps_ret (pe_lst (pa_cons (pcon C.none_) pa_nil)))) pss_nil)
    (pss_one (ps_ret (pe_lst (pa_cons (pe_def D1 hr rfl (pa_cons (pe_dget (hu_of hr) (pe_fld (pv 0) rfl) (pv 2) (fun _ _ => rfl)) (pa_cons (pe_fld (pv 0) rfl) pa_nil))) pa_nil))))), ?_⟩
  refine ⟨_, rfl, t, _, _, _, rfl, rfl, SqL.of ht, atI_nat (j := 0) rfl, ?_⟩
  refine ⟨_, rfl, _, rfl, p, CH, dx, _, _, rfl, hX.obj, T.clH, T.hL, hf_l .., d, _, rfl, DGet.k (k := Sum.inl (l : Int)) hX.dic, _, rfl, ?_⟩
  by_cases hm : l ∈ a.ids
  · rw [kvs_val hm]
    have g : DGet H d (.int (l : Nat)) (some (.ref (adr l))) := by
      have := DGet.k (k := (Sum.inl (l : Int) : Key)) hX.dic
      rw [kvs_val hm] at this
      exact this
    refine iteF ⟨_, rfl, p, CH, dx, _, _, rfl, hX.obj, T.clH, T.hL, hf_l .., _, rfl, d, _, rfl, g, _, rfl, p, CH, dx, _, _, rfl, hX.obj, T.clH, T.hH, hf_h .., adr l, l, a.hour, a.lot l, rfl, hX.lots l hm, (by show 1 ≤ sizeLine; decide), fun l' nl => say_only q ?_ hA (Same.refl _) nl⟩
    show (if a.has l = false then _ else _) = _
    rw [if_neg (has_yes hm)]
  · rw [kvs_no hm]
    refine iteT ⟨(by show 1 ≤ sizeLine; decide), fun l' nl => say_only q ?_ hA (Same.refl _) nl⟩
    show (if a.has l = false then _ else _) = _
    rw [if_pos (has_no hm)]
/-! ### busy -/
theorem sc_busy : FnScope ["house", "told", "lots", "lot"] ["house", "told"] (defScope s_answer_busy) := ⟨rfl, rfl, rfl, by decide +kernel, rfl, by decide +kernel, by decide +kernel⟩
theorem ok_busy {f : Addr} {fd : FuncData} (F : Fun K "answer_busy" "answer_busy" s_answer_busy f fd) (T : Txt K mg CL CH) (D1 : DAll P w K mg base CL CH) : FnOk P w K mg base CX0 2 f fd ["house", "told"] (spAct CL CH .busy [] none) := by
  refine F.ok sc_busy (fun vs H Q E h => act_len h) (fun cdv A outer s H vs Q E hr h => ?_)
  obtain ⟨p, t, a, rfl, hA, ht, q⟩ := h
  obtain ⟨dx, d, adr, hX⟩ := id hA
  have hfew := hX.few
  refine ⟨_, pss_cons (ps_set (i := 2) sc_busy.nd rfl (Or.inl rfl) (pe_def D1 hr rfl (pa_cons (pv 0) pa_nil)))
    (pss_one (ps_ret (pe_lst (pa_cons (pe_callB (cr_sum rfl) rfl T.sum_ PyProof.Rows.boot_sum (pa_cons (pe_lc (own := [("lot", 3)]) rfl sc_busy.nd (pi_list (pv 2)) (blkOk_by rfl) (fun _ _ _ _ _ => pg_name (i := 3) sc_busy.nd rfl (Or.inl rfl)) (fun _ _ _ _ _ => pts_nil) (fun _ _ _ _ _ => pe_op op_sub (fldK K (pv 3)) (fldK K (pv 3)))) pa_nil))
      (pa_cons (pe_maxd rfl rfl T.max_ (pe_lc (own := [("lot", 3)]) rfl sc_busy.nd (pi_list (pv 2)) (blkOk_by rfl) (fun _ _ _ _ _ => pg_name (i := 3) sc_busy.nd rfl (Or.inl rfl)) (fun _ _ _ _ _ => pts_nil) (fun _ _ _ _ _ => fldK K (pv 3)))) pa_nil))))), ?_⟩
  refine ⟨_, rfl, p, a, dx, d, adr, rfl, hX, fun H1 l1 s1 n1 h1 => ?_⟩
  refine ⟨_, rfl, l1, rfl, ⟨_, SqL.of h1⟩, fun D hD => lc_go (f := fun i => V.ref (adr i)) (keep := fun _ => true) (val := fun i => V.int (((a.lot i).upto : Int) - ((a.lot i).from_ : Int))) (SqL.of h1) (by omega) hD (fun i hi H' sm KT KF kt _ => ?_) (fun H2 s2 h2 => ?_)⟩
  · obtain ⟨dy, e⟩ := (hX.lots i hi).keep (s1.trans sm)
    exact ⟨rfl, iteT (B := KF H') ⟨_, rfl, adr i, CL, dy, _, _, rfl, e, T.clL, T.lE, lf_e .., _, rfl, adr i, CL, dy, _, _, rfl, e, T.clL, T.lB, lf_b .., _, _, rfl, rfl, kt rfl _ (Same.refl _)⟩⟩
  rw [filter_yes] at h2
  have s12 := s1.trans s2
  refine ⟨D, a.ids.map fun i => ((a.lot i).upto : Int) - ((a.lot i).from_ : Int), rfl, SqL.of (by rw [h2, List.map_map]; rfl), ?_⟩
  rw [sum_hours fun i hi => Nat.le_of_lt (hX.ok.lotpos hi)]
  have h1' := s2 _ _ h1
  refine ⟨_, rfl, l1, rfl, ⟨_, SqL.of h1'⟩, fun D2 hD2 => lc_go (f := fun i => V.ref (adr i)) (keep := fun _ => true) (val := fun i => V.int ((a.lot i).upto : Nat)) (SqL.of h1') (by omega) hD2 (fun i hi H' sm KT KF kt _ => ?_) (fun H3 s3 h3 => ?_)⟩
  · obtain ⟨dy, e⟩ := (hX.lots i hi).keep (s12.trans sm)
    exact ⟨rfl, iteT (B := KF H') ⟨_, rfl, adr i, CL, dy, _, _, rfl, e, T.clL, T.lE, lf_e .., kt rfl _ (Same.refl _)⟩⟩
  rw [filter_yes] at h3
  have s13 := s12.trans s3
  have fin : ∀ m : Int, (((a.ids.map fun i => (a.lot i).upto).foldl max 0 : Nat) : Int) = m → 2 ≤ sizeLine ∧ ∀ l, H3 l = none → Q (.ref l) (upd H3 l (.lst [.int ((a.ids.map fun i => (a.lot i).upto - (a.lot i).from_).sum : Nat), .int m])) := fun m em => ⟨by decide, fun l nl => by
    subst em
    refine tell_only q (show a.does .busy = (a, _) from rfl) hA (s13.trans (same_new nl)) (s13.free nl) ?_
    rw [upd_same]; rfl⟩
  refine ⟨D2, a.ids.map fun i => (((a.lot i).upto : Nat) : Int), rfl, SqL.of (by rw [h3, List.map_map]; rfl), fun e => ?_, fun m m1 m2 => ?_⟩
  · have e' : a.ids = [] := List.map_eq_nil_iff.mp e
    refine fin 0 ?_
    rw [e']; rfl
  · exact fin m (last_is (f := fun i => (a.lot i).upto) m1 m2)
/-! ### look -/
theorem sc_look : FnScope ["house", "told", "number", "lot"] ["house", "told"] (defScope s_answer_look) := ⟨rfl, rfl, rfl, by decide +kernel, rfl, by decide +kernel, by decide +kernel⟩
theorem ok_look {f : Addr} {fd : FuncData} (F : Fun K "answer_look" "answer_look" s_answer_look f fd) (T : Txt K mg CL CH) (C : Cons mg) (D1 : Def P w K mg base 1 "lies_in" ["lot", "hour"] (spLies CL)) :
    FnOk P w K mg base CX0 2 f fd ["house", "told"] (fun vs H Q E => ∃ l, spAct CL CH (.look l) [l] none vs H Q E) := by
  refine F.ok sc_look (fun vs H Q E ⟨_, h⟩ => act_len h) (fun cdv A outer s H vs Q E hr h => ?_)
  obtain ⟨l, p, t, a, rfl, hA, ht, q⟩ := h
  obtain ⟨dx, d, adr, hX⟩ := id hA
  refine ⟨_, pss_cons (ps_set (i := 2) sc_look.nd rfl (Or.inl rfl) (pe_ix ix_list (pv 1) pe_int (fun _ _ => rfl)))
    (pss_cons (ps_if (pt_cmp (pc_dnotin (hu_of hr) (pv 2) (pe_fld (pv 0) rfl))) (pss_one (ps_ret (pe_lst (pa_cons (pcon C.none_) pa_nil)))) pss_nil)
    (pss_cons (ps_set (i := 3) sc_look.nd rfl (Or.inl rfl) (pe_dget (hu_of hr) (pe_fld (pv 0) rfl) (pv 2) (fun _ _ => rfl)))
    (pss_one (ps_ret (pe_lst (pa_cons (pe_fld (pv 3) rfl) (pa_cons (pe_fld (pv 3) rfl) (pa_cons (pe_fld (pv 3) rfl) (pa_cons (pe_ifExp (pt_val (pe_def D1 hr rfl (pa_cons (pv 3) (pa_cons (pe_fld (pv 0) rfl) pa_nil)))) pe_int pe_int) pa_nil))))))))), ?_⟩
  refine ⟨_, rfl, t, _, _, _, rfl, rfl, SqL.of ht, atI_nat (j := 0) rfl, ?_⟩
  refine ⟨_, rfl, _, rfl, p, CH, dx, _, _, rfl, hX.obj, T.clH, T.hL, hf_l .., d, _, rfl, DGet.k (k := Sum.inl (l : Int)) hX.dic, _, rfl, ?_⟩
  by_cases hm : l ∈ a.ids
  · rw [kvs_val hm]
    have g : DGet H d (.int (l : Nat)) (some (.ref (adr l))) := by
      have := DGet.k (k := (Sum.inl (l : Int) : Key)) hX.dic
      rw [kvs_val hm] at this
      exact this
    obtain ⟨dy, e⟩ := hX.lots l hm
    refine iteF ⟨_, rfl, p, CH, dx, _, _, rfl, hX.obj, T.clH, T.hL, hf_l .., _, rfl, d, _, rfl, g, ?_⟩
    refine ⟨_, rfl, adr l, CL, dy, _, _, rfl, e, T.clL, T.lB, lf_b .., _, rfl, adr l, CL, dy, _, _, rfl, e, T.clL, T.lE, lf_e .., _, rfl, adr l, CL, dy, _, _, rfl, e, T.clL, T.lC, lf_c .., ?_⟩
    refine ⟨_, rfl, _, rfl, p, CH, dx, _, _, rfl, hX.obj, T.clH, T.hH, hf_h .., adr l, l, a.hour, a.lot l, rfl, ⟨dy, e⟩, _, rfl, ?_⟩
    have e1 : a.does (.look l) = (a, ⟨((a.lot l).from_ : Nat), [(a.lot l).upto, (a.lot l).crates, Kv349.bit ((a.lot l).at_ a.hour)]⟩) := by
      show (if a.has l = false then _ else _) = _
      rw [if_neg (has_yes hm)]
    have fin : ∀ z : Nat, Kv349.bit ((a.lot l).at_ a.hour) = z → 4 ≤ sizeLine ∧ ∀ o, H o = none → Q (.ref o) (upd H o (.lst [.int ((a.lot l).from_ : Nat), .int ((a.lot l).upto : Nat), .int ((a.lot l).crates : Nat), .int (z : Nat)])) := fun z ez => ⟨by decide, fun o no => by
      subst ez
      refine tell_only q e1 hA (same_new no) no ?_
      rw [upd_same]; rfl⟩
    cases e2 : (a.lot l).at_ a.hour with
    | true => exact iteT (fin 1 (by rw [e2]; rfl))
    | false => exact iteF (fin 0 (by rw [e2]; rfl))
  · rw [kvs_no hm]
    refine iteT ⟨(by show 1 ≤ sizeLine; decide), fun l' nl => say_only q ?_ hA (Same.refl _) nl⟩
    show (if a.has l = false then _ else _) = _
    rw [if_pos (has_no hm)]
/-! ### sums -/
theorem sc_sums : FnScope ["house", "told", "lots", "lot"] ["house", "told"] (defScope s_answer_sums) := ⟨rfl, rfl, rfl, by decide +kernel, rfl, by decide +kernel, by decide +kernel⟩
theorem ok_sums {f : Addr} {fd : FuncData} (F : Fun K "answer_sums" "answer_sums" s_answer_sums f fd) (T : Txt K mg CL CH) (D1 : DAll P w K mg base CL CH) (D2 : Def P w K mg base 2 "lying" ["lots", "hour"] (spLying K CL)) : FnOk P w K mg base CX0 3 f fd ["house", "told"] (spAct CL CH .sums [] none) := by
  refine F.ok sc_sums (fun vs H Q E h => act_len h) (fun cdv A outer s H vs Q E hr h => ?_)
  obtain ⟨p, t, a, rfl, hA, ht, q⟩ := h
  obtain ⟨dx, d, adr, hX⟩ := id hA
  have hr1 : Room 1 _ := hr.mono (by decide)
  have hfew := hX.few
  refine ⟨_, pss_cons (ps_set (i := 2) sc_sums.nd rfl (Or.inl rfl) (pe_def D1 hr1 rfl (pa_cons (pv 0) pa_nil)))
    (pss_one (ps_ret (pe_lst (pa_cons pe_int (pa_cons (lenK K T.len (pv 2)) (pa_cons (pe_callB (cr_sum rfl) rfl T.sum_ PyProof.Rows.boot_sum (pa_cons (pe_lc (own := [("lot", 3)]) rfl sc_sums.nd (pi_list (pv 2)) (blkOk_by rfl) (fun _ _ _ _ _ => pg_name (i := 3) sc_sums.nd rfl (Or.inl rfl)) (fun _ _ _ _ _ => pts_nil) (fun _ _ _ _ _ => fldK K (pv 3))) pa_nil))
      (pa_cons (lenK K T.len (pe_def D2 hr rfl (pa_cons (pv 2) (pa_cons (pe_fld (pv 0) rfl) pa_nil)))) pa_nil))))))), ?_⟩
  refine ⟨_, rfl, p, a, dx, d, adr, rfl, hX, fun H1 l1 s1 n1 h1 => ?_⟩
  refine ⟨_, rfl, l1, _, rfl, SqL.of h1, ?_⟩
  rw [refs_len]
  refine ⟨_, rfl, l1, rfl, ⟨_, SqL.of h1⟩, fun D hD => lc_go (f := fun i => V.ref (adr i)) (keep := fun _ => true) (val := fun i => V.int ((a.lot i).crates : Nat)) (SqL.of h1) (by omega) hD (fun i hi H' sm KT KF kt _ => ?_) (fun H2 s2 h2 => ?_)⟩
  · obtain ⟨dy, e⟩ := (hX.lots i hi).keep (s1.trans sm)
    exact ⟨rfl, iteT (B := KF H') ⟨_, rfl, adr i, CL, dy, _, _, rfl, e, T.clL, T.lC, lf_c .., kt rfl _ (Same.refl _)⟩⟩
  rw [filter_yes] at h2
  have s12 := s1.trans s2
  refine ⟨D, a.ids.map fun i => (((a.lot i).crates : Nat) : Int), rfl, SqL.of (by rw [h2, List.map_map]; rfl), ?_⟩
  rw [sum_nats (fun i => (a.lot i).crates)]
  refine ⟨_, rfl, _, rfl, p, CH, dx, _, _, rfl, s12 _ _ hX.obj, T.clH, T.hH, hf_h .., l1, a.hour, a, adr, a.ids, rfl, SqL.of (s2 _ _ h1), by omega, hX.lots.keep s12, fun H3 l3 s3 n3 h3 => ⟨l3, _, rfl, SqL.of h3, ?_⟩⟩
  rw [refs_len]
  have s13 := s12.trans s3
  refine ⟨(by show 4 ≤ sizeLine; decide), fun l nl => ?_⟩
  refine tell_only q (show a.does .sums = (a, _) from rfl) hA (s13.trans (same_new nl)) (s13.free nl) ?_
  rw [upd_same]; rfl
/-! ### state -/
theorem sc_state : FnScope ["house", "told"] ["house", "told"] (defScope s_answer_state) := ⟨rfl, rfl, rfl, by decide +kernel, rfl, by decide +kernel, by decide +kernel⟩
theorem ok_state {f : Addr} {fd : FuncData} (F : Fun K "answer_state" "answer_state" s_answer_state f fd) (T : Txt K mg CL CH) : FnOk P w K mg base CX0 1 f fd ["house", "told"] (spAct CL CH .state [] none) := by
  refine F.ok sc_state (fun vs H Q E h => act_len h) (fun cdv A outer s H vs Q E hr h => ?_)
  obtain ⟨p, t, a, rfl, hA, ht, q⟩ := h
  obtain ⟨dx, d, adr, hX⟩ := id hA
  refine ⟨_, pss_one (ps_ret (pe_lst (pa_cons pe_int (pa_cons (pe_fld (pv 0) rfl) (pa_cons (pe_fld (pv 0) rfl) (pa_cons (pe_fld (pv 0) rfl) (pa_cons (pe_fld (pv 0) rfl) pa_nil))))))), ?_⟩
  refine ⟨_, rfl, p, CH, dx, _, _, rfl, hX.obj, T.clH, T.hH, hf_h .., _, rfl, p, CH, dx, _, _, rfl, hX.obj, T.clH, T.hT, hf_t .., _, rfl, p, CH, dx, _, _, rfl, hX.obj, T.clH, T.hN, hf_n .., _, rfl, p, CH, dx, _, _, rfl, hX.obj, T.clH, T.hE, hf_e .., (by show 5 ≤ sizeLine; decide), fun l nl => ?_⟩
  refine tell_only q (show a.does .state = (a, _) from rfl) hA (same_new nl) nl ?_
  rw [upd_same]; rfl
end
end Ct
end
section
set_option Elab.async false
set_option linter.all false
set_option maxRecDepth 100000
set_option maxHeartbeats 4000000
namespace Ct
open PySem PySem.Spec PyProof.Rows L2
open Kv349 (say okH okN)
/-! ### the table of the calls -/
def KTup (K : PySem.W.Frag) (a : Addr) (xs : List V) : Prop := ∃ (o : Obj) (its : Array Value) (n : Nat), K.lookup a = some o ∧ o.cls = .type "tuple" ∧ o.data = .seq its n ∧ its.size ≤ sizeLine ∧ Vals xs its.toList
theorem KTup.sq {K : PySem.W.Frag} {a : Addr} {xs : List V} {H : Hp} (h : KTup K a xs) : SqT K H a xs := .inr h
structure Table (K : PySem.W.Frag) (mg : Str → Option Value) (at_ : Addr) (bs fs : List Addr) : Prop where
  con : Con1 mg "CALLS" (.ref at_)
  top : KTup K at_ (bs.map V.ref)
  row : ∀ (j : Nat) (z : Nat × Nat), tabN[j]? = some z → ∃ b f, bs[j]? = some b ∧ fs[j]? = some f ∧ KTup K b [.ref f, .int (z.1 : Nat), .bl (z.2 == 1)]
theorem nums_at {ms : List Nat} {i x : Nat} (h : ms[i]? = some x) : (nums ms)[i]? = some (.int (x : Nat)) := by
  unfold nums
  rw [List.getElem?_map, h]; rfl
theorem cut_nums {ms : List Nat} {lo hi : Nat} (h1 : lo ≤ hi) (h2 : hi ≤ ms.length) : cutV (nums ms) (some ((lo : Nat) : Int)) (some ((hi : Nat) : Int)) = nums ((ms.drop lo).take (hi - lo)) := by
  unfold cutV
  rw [HT.sIx_nat, HT.sIx_nat, nums_len, Nat.min_eq_left (show lo ≤ ms.length by omega), Nat.min_eq_left h2]
  unfold nums
  rw [List.map_take, List.map_drop]
section
variable {P : Program} {w : World} {K : PySem.W.Frag} {mg : Str → Option Value} {base : Heap} {CL CH at_ : Addr} {bs fs : List Addr}
/-! ### end_of_call -/
def spEnd (K : PySem.W.Frag) : Sp := fun vs H Q _ => ∃ (l : Addr) (ms : List Nat) (pl j : Nat) (args : List Nat) (row : Option (List Nat)) (en : Nat), vs = [.ref l, .int (pl : Nat)] ∧ SqL K H l (nums ms) ∧ CallAt ms pl j args row en ∧ Q (.int (en : Nat)) H
theorem sc_end : FnScope ["calls", "place", "form", "behind"] ["calls", "place"] (defScope s_end_of_call) := ⟨rfl, rfl, rfl, by decide +kernel, rfl, by decide +kernel, by decide +kernel⟩
theorem ok_end {f : Addr} {fd : FuncData} (F : Fun K "end_of_call" "end_of_call" s_end_of_call f fd) (B : Table K mg at_ bs fs) : FnOk P w K mg base CX0 1 f fd ["calls", "place"] (spEnd K) := by
  refine F.ok sc_end (fun vs H Q E h => ?_) (fun cdv A outer s H vs Q E hr h => ?_)
  · obtain ⟨l, ms, pl, j, args, row, en, rfl, _⟩ := h
    rfl
  obtain ⟨l, ms, pl, j, args, row, en, rfl, hl, hc, q⟩ := h
  obtain ⟨b, g, hb, hg, hk⟩ := B.row j _ hc.tab
  refine ⟨_, pss_cons (ps_set (i := 2) sc_end.nd rfl (Or.inl rfl) (pe_ix ix_tup (pcon B.con) (pe_ix ix_list (pv 0) (pv 1) (fun _ _ => rfl)) (fun _ _ => rfl)))
    (pss_cons (ps_set (i := 3) sc_end.nd rfl (Or.inl rfl) (pe_op op_add (pe_op op_add (pv 1) pe_int) (pe_ix ix_tup (pv 2) pe_int (fun _ _ => rfl))))
    (pss_cons (ps_if (pt_val (pe_ix ix_tup (pv 2) pe_int (fun _ _ => rfl))) (pss_one (ps_ret (pe_op op_add (pe_op op_add (pv 3) pe_int) (pe_ix ix_list (pv 0) (pv 3) (fun _ _ => rfl))))) pss_nil)
    (pss_one (ps_ret (pv 3))))), ?_⟩
  have hbt : (bs.map V.ref)[j]? = some (V.ref b) := by rw [List.getElem?_map, hb]; rfl
  refine ⟨_, rfl, _, rfl, l, _, _, _, rfl, rfl, hl, atI_nat (nums_at hc.at_), at_, _, _, _, rfl, rfl, B.top.sq, atI_nat hbt, ?_⟩
  refine ⟨_, rfl, _, _, rfl, rfl, _, rfl, b, _, _, _, rfl, rfl, hk.sq, atI_nat (j := 1) rfl, _, _, rfl, rfl, ?_⟩
  refine ⟨_, rfl, b, _, _, _, rfl, rfl, hk.sq, atI_nat (j := 2) rfl, _, rfl, ?_⟩
  cases row with
  | none =>
    refine iteF ⟨_, rfl, ?_⟩
    have e := hc.none_ rfl
    subst e
    exact q
  | some r =>
    obtain ⟨r1, r2, r3, r4⟩ := hc.some_ r rfl
    subst r4
    refine iteT ⟨_, rfl, _, _, rfl, rfl, _, rfl, _, rfl, l, _, _, _, rfl, rfl, hl, atI_nat (j := pl + 1 + args.length) (nums_at r1), _, _, rfl, rfl, q⟩
/-! ### told_to_call -/
def spTold (K : PySem.W.Frag) : Sp := fun vs H Q _ => ∃ (l : Addr) (ms : List Nat) (pl j : Nat) (args : List Nat) (row : Option (List Nat)) (en : Nat), vs = [.ref l, .int (pl : Nat)] ∧ SqL K H l (nums ms) ∧ CallAt ms pl j args row en ∧
  ∀ (H' : Hp) (t : Addr), Same H H' → H t = none → Told H' t args row → Q (.ref t) H'
theorem sc_told : FnScope ["calls", "place", "form", "behind", "told"] ["calls", "place"] (defScope s_told_to_call) := ⟨rfl, rfl, rfl, by decide +kernel, rfl, by decide +kernel, by decide +kernel⟩
theorem args_small {j : Nat} {args : List Nat} {k : Nat} (h : tabN[j]? = some (args.length, k)) : args.length ≤ 3 := by
  have all : tabN.all (fun z => decide (z.1 ≤ 3)) = true := by decide
  exact of_decide_eq_true (List.all_eq_true.mp all _ (List.mem_of_getElem? h))
theorem ok_told {f : Addr} {fd : FuncData} (F : Fun K "told_to_call" "told_to_call" s_told_to_call f fd) (B : Table K mg at_ bs fs) (D1 : Def P w K mg base 1 "end_of_call" ["calls", "place"] (spEnd K)) : FnOk P w K mg base CX0 2 f fd ["calls", "place"] (spTold K) := by
  refine F.ok sc_told (fun vs H Q E h => ?_) (fun cdv A outer s H vs Q E hr h => ?_)
  · obtain ⟨l, ms, pl, j, args, row, en, rfl, _⟩ := h
    rfl
  obtain ⟨l, ms, pl, j, args, row, en, rfl, hl, hc, q⟩ := h
  obtain ⟨b, g, hb, hg, hk⟩ := B.row j _ hc.tab
  have hsm := args_small hc.tab
  refine ⟨_, pss_cons (ps_set (i := 2) sc_told.nd rfl (Or.inl rfl) (pe_ix ix_tup (pcon B.con) (pe_ix ix_list (pv 0) (pv 1) (fun _ _ => rfl)) (fun _ _ => rfl)))
    (pss_cons (ps_set (i := 3) sc_told.nd rfl (Or.inl rfl) (pe_op op_add (pe_op op_add (pv 1) pe_int) (pe_ix ix_tup (pv 2) pe_int (fun _ _ => rfl))))
    (pss_cons (ps_set (i := 4) sc_told.nd rfl (Or.inl rfl) (pe_slice sl_list (pv 0) (po_some (pe_op op_add (pv 1) pe_int)) (po_some (pv 3))))
    (pss_cons (ps_if (pt_val (pe_ix ix_tup (pv 2) pe_int (fun _ _ => rfl))) (pss_one (ps_expr (pe_bm PySem.F.plainAttrs_list PySem.F.slot_list_append PySem.F.type_list_append mt_append (pv 4)
      (pa_cons (pe_slice sl_list (pv 0) (po_some (pe_op op_add (pv 3) pe_int)) (po_some (pe_def D1 hr rfl (pa_cons (pv 0) (pa_cons (pv 1) pa_nil))))) pa_nil)))) pss_nil)
    (pss_one (ps_ret (pv 4)))))), ?_⟩
  have hbt : (bs.map V.ref)[j]? = some (V.ref b) := by rw [List.getElem?_map, hb]; rfl
  refine ⟨_, rfl, _, rfl, l, _, _, _, rfl, rfl, hl, atI_nat (nums_at hc.at_), at_, _, _, _, rfl, rfl, B.top.sq, atI_nat hbt, ?_⟩
  refine ⟨_, rfl, _, _, rfl, rfl, _, rfl, b, _, _, _, rfl, rfl, hk.sq, atI_nat (j := 1) rfl, _, _, rfl, rfl, ?_⟩
  refine ⟨_, rfl, _, rfl, _, _, rfl, rfl, _, rfl, _, rfl, _, rfl, l, _, rfl, hl, fun t nt => ?_⟩
  have ec : cutV (nums ms) (some ((pl : Int) + 1)) (some ((pl : Int) + 1 + (args.length : Int))) = nums args := by
    have := cut_nums (ms := ms) (lo := pl + 1) (hi := pl + 1 + args.length) (by omega) hc.fits
    rw [Nat.add_sub_cancel_left, hc.cut] at this
    exact this
  have s1 := same_new (o := .lst (cutV (nums ms) (some ((pl : Int) + 1)) (some ((pl : Int) + 1 + (args.length : Int))))) nt
  have h1 : upd H t (.lst (cutV (nums ms) (some ((pl : Int) + 1)) (some ((pl : Int) + 1 + (args.length : Int))))) t = some (.lst (nums args)) := by rw [upd_same, ec]
  refine ⟨_, rfl, b, _, _, _, rfl, rfl, hk.sq, atI_nat (j := 2) rfl, _, rfl, ?_⟩
  cases row with
  | none => exact iteF ⟨_, rfl, q _ t s1 nt h1⟩
  | some r =>
    obtain ⟨r1, r2, r3, r4⟩ := hc.some_ r rfl
    refine iteT ⟨_, rfl, .inl ⟨rfl, _, SqL.of h1⟩, _, rfl, _, rfl, _, _, rfl, rfl, _, rfl, _, rfl, _, rfl, l, ms, pl, j, args, some r, en, rfl, s1.seq hl, hc, _, rfl, l, _, rfl, s1.seq hl, fun rt nrt => ?_⟩
    have er : cutV (nums ms) (some ((pl : Int) + 1 + (args.length : Int) + 1)) (some (en : Int)) = nums r := by
      have := cut_nums (ms := ms) (lo := pl + 1 + args.length + 1) (hi := pl + 1 + args.length + 1 + r.length) (by omega) r3
      rw [Nat.add_sub_cancel_left, r2] at this
      rw [r4]
      exact this
    have s2 := same_new (o := .lst (cutV (nums ms) (some ((pl : Int) + 1 + (args.length : Int) + 1)) (some (en : Int)))) nrt
    have ntr : rt ≠ t := fun z => by rw [z, h1] at nrt; cases nrt
    refine ⟨t, _, _, rfl, rfl, s2 _ _ h1, ?_, ?_⟩
    · rw [nums_len]; exact small_line (by omega)
    · refine ⟨_, rfl, q _ t (fun c o e => ?_) nt ⟨rt, upd_same, ?_⟩⟩
      · rw [upd_ne (ne_of_none e nt)]
        exact s2 _ _ (s1 _ _ e)
      · rw [upd_ne ntr, upd_same, er]
/-! ### answer_call -/
def spJ (CL CH : Addr) (j : Nat) : Sp := fun vs H Q E => ∃ (args : List Nat) (row : Option (List Nat)) (c : Kv349.Call), callJ j args row = some c ∧ (∀ r, row = some r → r.length ≤ 100) ∧ spAct CL CH c args row vs H Q E
structure Acts (P : Program) (w : World) (K : PySem.W.Frag) (mg : Str → Option Value) (base : Heap) (CL CH : Addr) (fs : List Addr) : Prop where
  beg : ∀ f, fs[0]? = some f → ∃ fd, FnOk P w K mg base CX0 7 f fd ["house", "told"] (spBegin CL CH) ∧ PySem.W.keepIn K (.ref f) = true ∧ L2.Binds K fd ["house", "told"] []
  oth : ∀ (j : Nat) f, 0 < j → fs[j]? = some f → ∃ fd, FnOk P w K mg base CX0 7 f fd ["house", "told"] (spJ CL CH j) ∧ PySem.W.keepIn K (.ref f) = true ∧ L2.Binds K fd ["house", "told"] []
theorem callJ_begin {args : List Nat} {row : Option (List Nat)} {c : Kv349.Call} (h : callJ 0 args row = some c) : ∃ t n, args = [t, n] ∧ row = none ∧ c = .begin_ t n := by
  match args, row, h with
  | [t, n], none, h => exact ⟨t, n, rfl, rfl, (Option.some.inj h).symm⟩
theorem act_none {j : Nat} {args : List Nat} {row : Option (List Nat)} {c : Kv349.Call} (hj : j ≠ 0) (h : callJ j args row = some c) : Kv349.act none c = (none, say (-11)) := by
  unfold callJ at h
  split at h <;> first | exact absurd rfl hj | (cases h; rfl) | cases h
def spCall (CL CH : Addr) : Sp := fun vs H Q _ => ∃ (p t : Addr) (j : Nat) (st : Option Kv349.Abs) (args : List Nat) (row : Option (List Nat)) (c : Kv349.Call) (k : Nat), vs = [.ref p, .int (j : Nat), .ref t] ∧ HouseAt CL CH H p st ∧ Told H t args row ∧ callJ j args row = some c ∧ tabN[j]? = some (args.length, k) ∧ (∀ r, row = some r → r.length ≤ 100) ∧
  ∀ (H' : Hp) (q : Addr), Keeps H H' → HouseAt CL CH H' p (Kv349.act st c).1 → H q = none → H' q = some (.lst (rowV (Kv349.act st c).2)) → Q (.ref q) H'
theorem sc_call : FnScope ["house", "number", "told", "act"] ["house", "number", "told"] (defScope s_answer_call) := ⟨rfl, rfl, rfl, by decide +kernel, rfl, by decide +kernel, by decide +kernel⟩
theorem ok_call {f : Addr} {fd : FuncData} (F : Fun K "answer_call" "answer_call" s_answer_call f fd) (T : Txt K mg CL CH) (C : Cons mg) (B : Table K mg at_ bs fs) (A0 : Acts P w K mg base CL CH fs) : FnOk P w K mg base CX0 8 f fd ["house", "number", "told"] (spCall CL CH) := by
  refine F.ok sc_call (fun vs H Q E h => ?_) (fun cdv A outer s H vs Q E hr h => ?_)
  · obtain ⟨p, t, j, st, args, row, c, k, rfl, _⟩ := h
    rfl
  obtain ⟨p, t, j, st, args, row, c, k, rfl, hA, ht, hc, htab, hrow, q⟩ := h
  obtain ⟨b, g, hb, hg, hk⟩ := B.row j _ htab
  obtain ⟨dx, bg, tk, nd, hr0, ev, d, hp⟩ := house_obj hA
  have hbt : (bs.map V.ref)[j]? = some (V.ref b) := by rw [List.getElem?_map, hb]; rfl
  refine ⟨_, pss_cons (ps_if (PW.pt (pw_and (pt_cmpR op_ne (pv 1) (pcon C.beg) (nomark _)) (pw_and1 (pt_not (pt_val (pe_fld (pv 0) rfl)))))) (pss_one (ps_ret (pe_lst (pa_cons (pcon C.notb) pa_nil)))) pss_nil)
    (pss_cons (ps_set (i := 3) sc_call.nd rfl (Or.inl rfl) (pe_ix ix_tup (pe_ix ix_tup (pcon B.con) (pv 1) (fun _ _ => rfl)) pe_int (fun _ _ => rfl)))
    (pss_one (ps_ret (pe_callV 3 rfl (Or.inl rfl) (pa_cons (pv 0) (pa_cons (pv 2) pa_nil)))))), ?_⟩
  refine ⟨_, rfl, rfl, _, rfl, ite2 (fun c1 => ?_) (fun c1 => ?_)⟩
  · have hj : j ≠ 0 := fun z => by
      subst z
      rw [Bool.not_eq_true', decide_eq_false_iff_not] at c1
      exact c1 rfl
    obtain ⟨fd2, G, kp, bn⟩ := A0.oth j g (by omega) hg
    refine ⟨_, rfl, p, CH, dx, _, _, rfl, hp, T.clH, T.hB, hf_b .., _, rfl, ?_⟩
    cases st with
    | none =>
      obtain ⟨dx', d', hp'⟩ := hA
      have e0 : bg = false := by
        rw [hp] at hp'
        have e1 := Option.some.inj hp'
        injection e1 with _ _ e3
        have e4 := congrArg (List.lookup ("begun" : Str)) e3
        rw [hf_b, hf_b] at e4
        exact V.bl.inj (Option.some.inj e4)
      subst e0
      refine iteT ⟨(by show 1 ≤ sizeLine; decide), fun l nl => ?_⟩
      rw [act_none hj hc] at q
      have s2 := same_new (o := .lst [.int (-11)]) nl
      exact q _ l (Same.keeps s2) ⟨dx', d', s2 _ _ hp'⟩ nl upd_same
    | some a =>
      obtain ⟨dx', d', adr, hX⟩ := id hA
      have e0 : bg = true := by
        have hp' := hX.obj
        rw [hp] at hp'
        have e1 := Option.some.inj hp'
        injection e1 with _ _ e3
        have e4 := congrArg (List.lookup ("begun" : Str)) e3
        rw [hf_b, hf_b] at e4
        exact V.bl.inj (Option.some.inj e4)
      subst e0
      refine iteF ⟨_, rfl, at_, _, _, _, rfl, rfl, B.top.sq, atI_nat hbt, b, _, _, _, rfl, rfl, hk.sq, atI_nat (j := 0) rfl, ?_⟩
      refine ⟨g, 7, fd2, ["house", "told"], spJ CL CH j, rfl, kp, G, hr, bn, _, rfl, _, rfl, args, row, c, hc, hrow, p, t, a, rfl, hA, ht, fun H' o k1 h1 n1 h2 => ?_⟩
      exact q H' o k1 h1 n1 h2
  · have hj : j = 0 := by
      have c1' := Bool.eq_false_iff.mpr c1
      rw [Bool.not_eq_false', decide_eq_true_iff] at c1'
      have := V.int.inj c1'
      omega
    subst hj
    obtain ⟨tk1, nd1, rfl, rfl, rfl⟩ := callJ_begin hc
    obtain ⟨fd2, G, kp, bn⟩ := A0.beg g hg
    refine iteF ⟨_, rfl, at_, _, _, _, rfl, rfl, B.top.sq, atI_nat hbt, b, _, _, _, rfl, rfl, hk.sq, atI_nat (j := 0) rfl, ?_⟩
    exact ⟨g, 7, fd2, ["house", "told"], spBegin CL CH, rfl, kp, G, hr, bn, _, rfl, _, rfl, p, t, st, tk1, nd1, rfl, hA, ht, q⟩
/-! ### answers -/
def spAns (K : PySem.W.Frag) : Sp := fun vs H Q _ => ∃ (l : Addr) (ms : List Nat), vs = [.ref l] ∧ SqL K H l (nums ms) ∧ PyKv349.answers_asked (intL ms) = true ∧ ∀ (H' : Hp) (q : Addr), H' q = some (.lst ((PyKv349.answers (intL ms)).map V.int)) → Q (.ref q) H'
theorem sc_answers : FnScope ["calls", "house", "given", "place", "answer"] ["calls"] (defScope s_answers) := ⟨rfl, rfl, rfl, by decide +kernel, rfl, by decide +kernel, by decide +kernel⟩
theorem ok_answers {f fI : Addr} {fd fdI : FuncData} (F : Fun K "answers" "answers" s_answers f fd) (T : Txt K mg CL CH) (M : Mk K CH fI) (FI : FnOk P w K mg base CX0 1 fI fdI ["self"] (spHouseInit CL CH)) (bI : L2.Binds K fdI ["self"] [])
    (D1 : Def P w K mg base 8 "answer_call" ["house", "number", "told"] (spCall CL CH)) (D2 : Def P w K mg base 2 "told_to_call" ["calls", "place"] (spTold K)) (D3 : Def P w K mg base 1 "end_of_call" ["calls", "place"] (spEnd K)) : FnOk P w K mg base CX0 9 f fd ["calls"] (spAns K) := by
  refine F.ok sc_answers (fun vs H Q E h => ?_) (fun cdv A outer s H vs Q E hr h => ?_)
  · obtain ⟨l, ms, rfl, _⟩ := h
    rfl
  obtain ⟨l, ms, rfl, hl, hask, q⟩ := h
  have hr2 : Room (1 + 1) _ := hr.mono (by decide)
  have hr1 : Room 1 _ := hr.mono (by decide)
  obtain ⟨raw, hraw, hin, hlen⟩ := asked_of hask
  have eans := answers_rest hraw
  refine ⟨_, pss_cons (ps_set (i := 1) sc_answers.nd rfl (Or.inl rfl) (pe_make0 M FI hr2 rfl T.mgH bI .nil pass0)) (pss_cons (ps_set (i := 2) sc_answers.nd rfl (Or.inl rfl) (pe_lst pa_nil)) (pss_cons (ps_set (i := 3) sc_answers.nd rfl (Or.inl rfl) pe_int)
    (pss_cons (ps_while PassesOwn.never (pt_cmpR op_lt (pv 3) (lenK K T.len (pv 0)) (nomark _))
      (pss_cons (ps_set (i := 4) sc_answers.nd rfl (Or.inl rfl) (pe_def D1 hr rfl (pa_cons (pv 1) (pa_cons (pe_ix ix_list (pv 0) (pv 3) (fun _ _ => rfl)) (pa_cons (pe_def D2 hr2 rfl (pa_cons (pv 0) (pa_cons (pv 3) pa_nil))) pa_nil)))))
      (pss_cons (ps_expr (pe_bm PySem.F.plainAttrs_list PySem.F.slot_list_append PySem.F.type_list_append mt_append (pv 2) (pa_cons (lenK K T.len (pv 4)) pa_nil)))
      (pss_cons (ps_expr (pe_bm PySem.F.plainAttrs_list PySem.F.slot_list_extend PySem.F.type_list_extend mt_extend (pv 2) (pa_cons (pv 4) pa_nil)))
      (pss_one (ps_set (i := 3) sc_answers.nd rfl (Or.inl rfl) (pe_def D3 hr1 rfl (pa_cons (pv 0) (pa_cons (pv 3) pa_nil)))))))))
    (pss_one (ps_ret (pv 2)))))), ?_⟩
  intro x dx nx ndx nxd
  refine ⟨x, dx, rfl, upd_same, fun H1 hA1 k1 => ⟨rfl, ?_⟩⟩
  have s1 : Same H H1 := Same.made nx ndx k1
  refine ⟨Nat.zero_le _, fun g ng => ?_⟩
  have s2 := same_new (o := .lst []) ng
  refine while_by (fun σ H2 => ∃ (pl f0 : Nat) (st : Option Kv349.Abs) (cs : List (List (List Int))) (dn : List Int) (v4 : Option V), σ = [some (.ref l), some (.ref x), some (.ref g), some (.int (pl : Nat)), v4] ∧ SqL K H2 l (nums ms) ∧ HouseAt CL CH H2 x st ∧ H2 g = some (.lst (dn.map V.int)) ∧
      PyFlat.calls PyKv349.shape f0 ((intL ms).drop pl) = some cs ∧ (∀ c ∈ cs, PyInside.call PyKv349.bound c = true) ∧ PyKv349.answers (intL ms) = dn ++ restOf st cs)
    (fun (σ : L2.St) _ => match σ[3]? with | some (some (V.int z)) => ms.length - z.toNat | _ => 0)
    ⟨0, _, none, raw, [], none, rfl, (s1.trans s2).seq hl, hA1.keep s2, upd_same, hraw, hin, eans⟩ ?_ ?_
  · rintro σ H2 ⟨pl, f0, st, cs, dn, v4, rfl, hl2, hA2, hg2, hcs, hin2, ea⟩
    refine ⟨_, rfl, _, rfl, l, _, rfl, hl2, _, _, rfl, rfl, _, rfl, ?_⟩
    rw [nums_len]
    refine ite2 (fun c => ?_) (fun c => ?_)
    · have c' := of_decide_eq_true c
      obtain ⟨j, args, row, en, f', cs', hc, ecs, hcs'⟩ := next_call hcs (by omega)
      subst ecs
      obtain ⟨cl, hj1, hj2, hj3⟩ := callJ_of hc.tab
      have hrow : ∀ r, row = some r → r.length ≤ 100 := fun r hr' => by
        subst hr'
        have := row_small hc.tab (hin2 _ List.mem_cons_self)
        omega
      have ea2 := ea
      rw [rest_cons hj2 hj3] at ea2
      have hrl : dn.length + 1 + (Kv349Neutral.row (Kv349.act st cl).2).length ≤ 10000000 := by
        have := congrArg List.length ea2
        rw [List.length_append, List.cons_append, List.length_cons, List.length_append] at this
        omega
      have hsz : sizeLine = 16777216 := sizeLine_eq
      refine ⟨_, rfl, _, rfl, _, rfl, l, _, _, _, rfl, rfl, hl2, atI_nat (nums_at hc.at_), _, rfl, _, rfl, l, ms, pl, j, args, row, en, rfl, hl2, hc, fun H3 t s3 nt hT => ?_⟩
      refine ⟨x, t, j, st, args, row, cl, _, rfl, hA2.keep s3, hT, hj1, hc.tab, hrow, fun H4 o k4 hA4 no h4 => ?_⟩
      have hg4 : H4 g = some (.lst (dn.map V.int)) := k4 _ _ (s3 _ _ hg2) rfl
      have hl4 : SqL K H4 l (nums ms) := k4.seq (s3.seq hl2)
      have ngo : g ≠ o := ne_of_none (s3 _ _ hg2) no
      refine ⟨_, rfl, .inl ⟨rfl, _, SqL.of hg4⟩, _, rfl, o, _, rfl, SqL.of h4, g, _, _, rfl, rfl, hg4, by rw [List.length_map]; omega, ?_⟩
      have h5o : upd H4 g (.lst (dn.map V.int ++ [.int ((rowV (Kv349.act st cl).2).length : Nat)])) o = some (.lst (rowV (Kv349.act st cl).2)) := by rw [upd_ne (Ne.symm ngo)]; exact h4
      have hrv : (rowV (Kv349.act st cl).2).length = (Kv349Neutral.row (Kv349.act st cl).2).length := List.length_map ..
      refine ⟨_, rfl, .inl ⟨rfl, _, SqL.of upd_same⟩, _, rfl, g, o, _, _, rfl, rfl, upd_same, h5o, ?_, ?_⟩
      · rw [List.length_append, List.length_map, hrv]
        show dn.length + 1 + _ ≤ _
        omega
      · have k6 : ∀ b u, H4 b = some u → b ≠ g → upd (upd H4 g (.lst (dn.map V.int ++ [.int ((rowV (Kv349.act st cl).2).length : Nat)]))) g (.lst ((dn.map V.int ++ [.int ((rowV (Kv349.act st cl).2).length : Nat)]) ++ rowV (Kv349.act st cl).2)) b = some u := fun b u e hb => by rw [upd_ne hb, upd_ne hb]; exact e
        have hgl : g ≠ l ∨ True := .inr trivial
        have hl6 : SqL K (upd (upd H4 g (.lst (dn.map V.int ++ [.int ((rowV (Kv349.act st cl).2).length : Nat)]))) g (.lst ((dn.map V.int ++ [.int ((rowV (Kv349.act st cl).2).length : Nat)]) ++ rowV (Kv349.act st cl).2))) l (nums ms) := by
          have hlg : l ≠ g ∨ ∃ o', K.lookup l = some o' := by
            rcases hl with (e | ⟨o', e⟩) | ⟨o', _, _, e, _⟩
            · exact .inl (ne_of_none (s1 _ _ e) ng)
            · exact .inl (ne_of_none (s1 _ _ e) ng)
            · exact .inr ⟨o', e⟩
          rcases hl4 with (e | ⟨o', e⟩) | e
          · rcases hlg with z | ⟨o', z⟩
            · exact .inl (.inl (k6 _ _ e z))
            · rcases hl with (e2 | ⟨o2, e2⟩) | e2
              · exact .inl (.inl (k6 _ _ e (ne_of_none (s1 _ _ e2) ng)))
              · exact .inl (.inl (k6 _ _ e (ne_of_none (s1 _ _ e2) ng)))
              · exact .inr e2
          · refine .inl (.inr ⟨o', k6 _ _ e fun z => ?_⟩)
            rw [z, hg4] at e; cases e
          · exact .inr e
        have hA6 : HouseAt CL CH (upd (upd H4 g (.lst (dn.map V.int ++ [.int ((rowV (Kv349.act st cl).2).length : Nat)]))) g (.lst ((dn.map V.int ++ [.int ((rowV (Kv349.act st cl).2).length : Nat)]) ++ rowV (Kv349.act st cl).2))) x (Kv349.act st cl).1 := by
          cases hst : (Kv349.act st cl).1 with
          | none =>
            rw [hst] at hA4
            obtain ⟨d1, d2, e⟩ := hA4
            exact ⟨d1, d2, k6 _ _ e fun z => by rw [z, hg4] at e; cases e⟩
          | some a' =>
            rw [hst] at hA4
            obtain ⟨d1, d2, adr, hX⟩ := hA4
            refine ⟨d1, d2, adr, k6 _ _ hX.obj (fun z => ?_), k6 _ _ hX.dic (fun z => ?_), fun i hi => ?_, hX.ok⟩
            · have := hX.obj; rw [z, hg4] at this; cases this
            · have := hX.dic; rw [z, hg4] at this; cases this
            · obtain ⟨dz, ez⟩ := hX.lots i hi
              exact ⟨dz, k6 _ _ ez fun z => by rw [z, hg4] at ez; cases ez⟩
        refine ⟨_, rfl, _, rfl, l, ms, pl, j, args, row, en, rfl, hl6, hc, ⟨en, f', (Kv349.act st cl).1, cs', dn ++ ((Kv349Neutral.row (Kv349.act st cl).2).length : Int) :: Kv349Neutral.row (Kv349.act st cl).2, _, rfl, hl6, hA6, ?_, hcs', fun c' hc' => hin2 c' (List.mem_cons_of_mem _ hc'), ?_⟩, ?_⟩
        · rw [upd_same, hrv, List.map_append, List.map_cons, List.append_assoc]; rfl
        · rw [ea2, List.append_assoc]
        · show ms.length - (en : Int).toNat < ms.length - (pl : Int).toNat
          have hen : pl < en := by
            cases row with
            | none => have := hc.none_ rfl; omega
            | some r => have := (hc.some_ r rfl).2.2.2; omega
          omega
    · have c' := of_decide_eq_false (Bool.eq_false_iff.mpr c)
      have e0 := no_call hcs (by omega)
      subst e0
      refine ⟨_, rfl, q H2 g ?_⟩
      rw [hg2, ea]
      show _ = some (HO.lst ((dn ++ []).map V.int))
      rw [List.append_nil]
  · rintro σ H2 Q1 Q2 hq ⟨a1, b1, a2, b2, a3, b3, c3, d3, i1, i2, e1, e2, v, ev, q1⟩
    exact ⟨a1, b1, a2, b2, a3, b3, c3, d3, i1, i2, e1, e2, v, ev, hq _ _ q1⟩
end
end Ct
end
section
set_option Elab.async false
set_option linter.all false
set_option maxRecDepth 100000
set_option maxHeartbeats 4000000
namespace Ct
open PySem PySem.Spec PyProof.Rows L2
/-! ### the module's objects, as its run leaves them, as far as the proof looks at them -/
def kE (P : Params) (k : Str) (t : Tok) (v : Value) : DictEntry := ⟨PyData.keyHash P k, .str k t, v⟩
def k_3 (P : Params) : Obj := ⟨(.type "dict"), none, .dict (List.toArray (kE P "__name__" 165 (.str "cleaningtanks.tanks" 323) :: kE P "__doc__" 166 .none :: kE P "__package__" 167 .none :: kE P "__loader__" 168 (.builtin "__main__.__loader__#opaque") :: kE P "__spec__" 169 .none :: kE P "__annotations__" 170 (.ref 6) :: kE P "__builtins__" 171 (.ref 4) :: kE P "__file__" 173 (.str "/claim/cut.py" 172) :: kE P "__cached__" 174 .none :: kE P "Lot" 223 (.ref 31) :: kE P "numbers_of" 229 (.ref 40) :: kE P "lies_in" 237 (.ref 47) :: kE P "lying" 243 (.ref 52) :: kE P "two_meet" 251 (.ref 59) :: kE P "meeting" 257 (.ref 64) :: kE P "most_at_once" 263 (.ref 69) :: kE P "may_lie" 269 (.ref 74) :: kE P "first_hour" 275 (.ref 79) :: kE P "hours_left" 283 (.ref 86) :: kE P "plan_order" 290 (.ref 93) :: kE P "end_order" 297 (.ref 100) :: kE P "least_free_tank" 303 (.ref 105) :: kE P "plan_of" 312 (.ref 112) :: kE P "taken_by" 322 (.ref 119) :: kE P "NONE_SUCH" 327 (.int (-2) 326) :: kE P "NOT_BEGUN" 330 (.int (-11) 329) :: kE P "TOO_SHORT" 333 (.int (-12) 332) :: kE P "OVER" 336 (.int (-16) 335) :: kE P "ENDED" 339 (.int (-17) 338) :: kE P "OUT_OF_RANGE" 342 (.int (-22) 341) :: kE P "TOO_MANY" 345 (.int (-28) 344) :: kE P "NO_TANK" 348 (.int (-33) 347) :: kE P "TOO_LATE" 351 (.int (-75) 350) :: kE P "MOST_TANKS" 353 (.int (6) 352) :: kE P "MOST_NEED" 355 (.int (500) 354) :: kE P "MOST_LOTS" 357 (.int (12) 356) :: kE P "MOST_LOTS_EVER" 359 (.int (60) 358) :: kE P "MOST_CRATES" 361 (.int (1000) 360) :: kE P "LAST_HOUR" 363 (.int (10000) 362) :: kE P "MOST_HOURS" 365 (.int (500) 364) :: kE P "BEGIN" 367 (.int (0) 366) :: kE P "House" 400 (.ref 136) :: kE P "all_lots" 407 (.ref 147) :: kE P "has_ended" 415 (.ref 154) :: kE P "within" 424 (.ref 161) :: kE P "is_hour" 431 (.ref 168) :: kE P "is_count_of_hours" 438 (.ref 175) :: kE P "refusal_of_lots" 447 (.ref 182) :: kE P "lots_of" 453 (.ref 187) :: kE P "count_and_these" 460 (.ref 194) :: kE P "answer_begin" 470 (.ref 201) :: kE P "refusal_of_new_lot" 480 (.ref 208) :: kE P "answer_lot" 493 (.ref 215) :: kE P "answer_drop" 503 (.ref 222) :: kE P "answer_longer" 514 (.ref 229) :: kE P "answer_tank" 522 (.ref 236) :: kE P "answer_hours" 528 (.ref 241) :: kE P "answer_fewest" 536 (.ref 248) :: kE P "answer_peak" 545 (.ref 255) :: kE P "answer_at" 554 (.ref 262) :: kE P "answer_plan" 565 (.ref 269) :: kE P "answer_tankof" 571 (.ref 274) :: kE P "answer_most" 580 (.ref 281) :: kE P "answer_mostof" 590 (.ref 288) :: kE P "answer_together" 599 (.ref 295) :: kE P "answer_meets" 608 (.ref 302) :: kE P "answer_may" 618 (.ref 309) :: kE P "answer_first" 626 (.ref 316) :: kE P "answer_firstwith" 637 (.ref 323) :: kE P "answer_ready" 643 (.ref 328) :: kE P "answer_left" 652 (.ref 335) :: kE P "answer_busy" 658 (.ref 340) :: kE P "answer_look" 668 (.ref 347) :: kE P "answer_sums" 674 (.ref 352) :: kE P "answer_state" 682 (.ref 359) :: kE P "CALLS" 707 (.ref 384) :: kE P "end_of_call" 717 (.ref 391) :: kE P "told_to_call" 728 (.ref 398) :: kE P "answer_call" 738 (.ref 405) :: kE P "answers" 749 (.ref 412) :: [])) 80, #[]⟩
def k_27 (P : Params) : Obj := ⟨(.type "code"), none, .fields #[(.str "__init__" 201), (.str "Lot.__init__" 202), (.str "/claim/cut.py" 203), (.int (4) 0), (.int (5) 0), (.int (0) 0), (.int (0) 0), (.int (3) 0), (.ref 22), (.bool true), (.int (181) 0), (.ref 23), .none, (.ref 24), (.ref 25), (.ref 26), (.int (209) 0), (.int (4) 0), (.str "/claim/cut.py" 210)], #[]⟩
def k_28 (P : Params) : Obj := ⟨(.type "function"), none, .func (PySem.W.fnOf "__init__" "Lot.__init__" (defArgs s_Lot_init) (defBody s_Lot_init) (defScope s_Lot_init) .none .none .none (.str "cleaningtanks.lots" 187) none (.ref 27) .none), #[]⟩
def k_30 (P : Params) : Obj := ⟨(.type "dict"), none, .dict (List.toArray (kE P "__module__" 196 (.str "cleaningtanks.lots" 187) :: kE P "__firstlineno__" 200 (.int (2) 199) :: kE P "__init__" 211 (.ref 28) :: kE P "__static_attributes__" 216 (.ref 29) :: kE P "__dict__" 218 (.ref 32) :: kE P "__weakref__" 220 (.ref 33) :: kE P "__doc__" 221 .none :: [])) 4, #[]⟩
def k_31 (P : Params) : Obj := ⟨(.type "type"), none, .cls ⟨"Lot", [(.type "object")], [(.ref 31), (.type "object")], 30, "Lot", true, [], [], false, none, false⟩, #[none, none, (some (.str "Lot" 189)), (some (.str "Lot" 197)), (some (.builtin "object.__new__")), (some (.bool true))]⟩
def k_39 (P : Params) : Obj := ⟨(.type "code"), none, .fields #[(.str "numbers_of" 224), (.str "numbers_of" 225), (.str "/claim/cut.py" 226), (.int (9) 0), (.int (1) 0), (.int (0) 0), (.int (0) 0), (.int (3) 0), (.ref 36), (.bool true), (.int (181) 0), (.ref 37), .none, .none, .none, (.ref 38), (.int (227) 0), (.int (9) 0), (.str "/claim/cut.py" 228)], #[]⟩
def k_40 (P : Params) : Obj := ⟨(.type "function"), none, .func (PySem.W.fnOf "numbers_of" "numbers_of" (defArgs s_numbers_of) (defBody s_numbers_of) (defScope s_numbers_of) .none .none .none (.str "cleaningtanks.lots" 187) none (.ref 39) .none), #[]⟩
def k_46 (P : Params) : Obj := ⟨(.type "code"), none, .fields #[(.str "lies_in" 230), (.str "lies_in" 231), (.str "/claim/cut.py" 232), (.int (11) 0), (.int (2) 0), (.int (0) 0), (.int (0) 0), (.int (3) 0), (.ref 41), (.bool true), (.int (181) 0), (.ref 42), .none, (.ref 43), (.ref 44), (.ref 45), (.int (235) 0), (.int (11) 0), (.str "/claim/cut.py" 236)], #[]⟩
def k_47 (P : Params) : Obj := ⟨(.type "function"), none, .func (PySem.W.fnOf "lies_in" "lies_in" (defArgs s_lies_in) (defBody s_lies_in) (defScope s_lies_in) .none .none .none (.str "cleaningtanks.lots" 187) none (.ref 46) .none), #[]⟩
def k_51 (P : Params) : Obj := ⟨(.type "code"), none, .fields #[(.str "lying" 238), (.str "lying" 239), (.str "/claim/cut.py" 240), (.int (13) 0), (.int (2) 0), (.int (0) 0), (.int (0) 0), (.int (3) 0), (.ref 48), (.bool true), (.int (181) 0), (.ref 49), .none, .none, .none, (.ref 50), (.int (241) 0), (.int (13) 0), (.str "/claim/cut.py" 242)], #[]⟩
def k_52 (P : Params) : Obj := ⟨(.type "function"), none, .func (PySem.W.fnOf "lying" "lying" (defArgs s_lying) (defBody s_lying) (defScope s_lying) .none .none .none (.str "cleaningtanks.lots" 187) none (.ref 51) .none), #[]⟩
def k_58 (P : Params) : Obj := ⟨(.type "code"), none, .fields #[(.str "two_meet" 244), (.str "two_meet" 245), (.str "/claim/cut.py" 246), (.int (15) 0), (.int (2) 0), (.int (0) 0), (.int (0) 0), (.int (3) 0), (.ref 53), (.bool true), (.int (181) 0), (.ref 54), .none, (.ref 55), (.ref 56), (.ref 57), (.int (249) 0), (.int (15) 0), (.str "/claim/cut.py" 250)], #[]⟩
def k_59 (P : Params) : Obj := ⟨(.type "function"), none, .func (PySem.W.fnOf "two_meet" "two_meet" (defArgs s_two_meet) (defBody s_two_meet) (defScope s_two_meet) .none .none .none (.str "cleaningtanks.lots" 187) none (.ref 58) .none), #[]⟩
def k_63 (P : Params) : Obj := ⟨(.type "code"), none, .fields #[(.str "meeting" 252), (.str "meeting" 253), (.str "/claim/cut.py" 254), (.int (17) 0), (.int (2) 0), (.int (0) 0), (.int (0) 0), (.int (3) 0), (.ref 60), (.bool true), (.int (181) 0), (.ref 61), .none, .none, .none, (.ref 62), (.int (255) 0), (.int (17) 0), (.str "/claim/cut.py" 256)], #[]⟩
def k_64 (P : Params) : Obj := ⟨(.type "function"), none, .func (PySem.W.fnOf "meeting" "meeting" (defArgs s_meeting) (defBody s_meeting) (defScope s_meeting) .none .none .none (.str "cleaningtanks.lots" 187) none (.ref 63) .none), #[]⟩
def k_68 (P : Params) : Obj := ⟨(.type "code"), none, .fields #[(.str "most_at_once" 258), (.str "most_at_once" 259), (.str "/claim/cut.py" 260), (.int (19) 0), (.int (1) 0), (.int (0) 0), (.int (0) 0), (.int (3) 0), (.ref 65), (.bool true), (.int (181) 0), (.ref 66), .none, .none, .none, (.ref 67), (.int (261) 0), (.int (19) 0), (.str "/claim/cut.py" 262)], #[]⟩
def k_69 (P : Params) : Obj := ⟨(.type "function"), none, .func (PySem.W.fnOf "most_at_once" "most_at_once" (defArgs s_most_at_once) (defBody s_most_at_once) (defScope s_most_at_once) .none .none .none (.str "cleaningtanks.lots" 187) none (.ref 68) .none), #[]⟩
def k_73 (P : Params) : Obj := ⟨(.type "code"), none, .fields #[(.str "may_lie" 264), (.str "may_lie" 265), (.str "/claim/cut.py" 266), (.int (21) 0), (.int (4) 0), (.int (0) 0), (.int (0) 0), (.int (3) 0), (.ref 70), (.bool true), (.int (181) 0), (.ref 71), .none, .none, .none, (.ref 72), (.int (267) 0), (.int (21) 0), (.str "/claim/cut.py" 268)], #[]⟩
def k_74 (P : Params) : Obj := ⟨(.type "function"), none, .func (PySem.W.fnOf "may_lie" "may_lie" (defArgs s_may_lie) (defBody s_may_lie) (defScope s_may_lie) .none .none .none (.str "cleaningtanks.lots" 187) none (.ref 73) .none), #[]⟩
def k_78 (P : Params) : Obj := ⟨(.type "code"), none, .fields #[(.str "first_hour" 270), (.str "first_hour" 271), (.str "/claim/cut.py" 272), (.int (27) 0), (.int (4) 0), (.int (0) 0), (.int (0) 0), (.int (3) 0), (.ref 75), (.bool true), (.int (181) 0), (.ref 76), .none, .none, .none, (.ref 77), (.int (273) 0), (.int (27) 0), (.str "/claim/cut.py" 274)], #[]⟩
def k_79 (P : Params) : Obj := ⟨(.type "function"), none, .func (PySem.W.fnOf "first_hour" "first_hour" (defArgs s_first_hour) (defBody s_first_hour) (defScope s_first_hour) .none .none .none (.str "cleaningtanks.lots" 187) none (.ref 78) .none), #[]⟩
def k_85 (P : Params) : Obj := ⟨(.type "code"), none, .fields #[(.str "hours_left" 276), (.str "hours_left" 277), (.str "/claim/cut.py" 278), (.int (30) 0), (.int (2) 0), (.int (0) 0), (.int (0) 0), (.int (3) 0), (.ref 80), (.bool true), (.int (181) 0), (.ref 81), .none, (.ref 82), (.ref 83), (.ref 84), (.int (281) 0), (.int (30) 0), (.str "/claim/cut.py" 282)], #[]⟩
def k_86 (P : Params) : Obj := ⟨(.type "function"), none, .func (PySem.W.fnOf "hours_left" "hours_left" (defArgs s_hours_left) (defBody s_hours_left) (defScope s_hours_left) .none .none .none (.str "cleaningtanks.lots" 187) none (.ref 85) .none), #[]⟩
def k_92 (P : Params) : Obj := ⟨(.type "code"), none, .fields #[(.str "plan_order" 284), (.str "plan_order" 285), (.str "/claim/cut.py" 286), (.int (32) 0), (.int (1) 0), (.int (0) 0), (.int (0) 0), (.int (3) 0), (.ref 87), (.bool true), (.int (181) 0), (.ref 88), .none, (.ref 89), (.ref 90), (.ref 91), (.int (288) 0), (.int (32) 0), (.str "/claim/cut.py" 289)], #[]⟩
def k_93 (P : Params) : Obj := ⟨(.type "function"), none, .func (PySem.W.fnOf "plan_order" "plan_order" (defArgs s_plan_order) (defBody s_plan_order) (defScope s_plan_order) .none .none .none (.str "cleaningtanks.lots" 187) none (.ref 92) .none), #[]⟩
def k_99 (P : Params) : Obj := ⟨(.type "code"), none, .fields #[(.str "end_order" 291), (.str "end_order" 292), (.str "/claim/cut.py" 293), (.int (34) 0), (.int (1) 0), (.int (0) 0), (.int (0) 0), (.int (3) 0), (.ref 94), (.bool true), (.int (181) 0), (.ref 95), .none, (.ref 96), (.ref 97), (.ref 98), (.int (295) 0), (.int (34) 0), (.str "/claim/cut.py" 296)], #[]⟩
def k_100 (P : Params) : Obj := ⟨(.type "function"), none, .func (PySem.W.fnOf "end_order" "end_order" (defArgs s_end_order) (defBody s_end_order) (defScope s_end_order) .none .none .none (.str "cleaningtanks.lots" 187) none (.ref 99) .none), #[]⟩
def k_104 (P : Params) : Obj := ⟨(.type "code"), none, .fields #[(.str "least_free_tank" 298), (.str "least_free_tank" 299), (.str "/claim/cut.py" 300), (.int (36) 0), (.int (2) 0), (.int (0) 0), (.int (0) 0), (.int (3) 0), (.ref 101), (.bool true), (.int (181) 0), (.ref 102), .none, .none, .none, (.ref 103), (.int (301) 0), (.int (36) 0), (.str "/claim/cut.py" 302)], #[]⟩
def k_105 (P : Params) : Obj := ⟨(.type "function"), none, .func (PySem.W.fnOf "least_free_tank" "least_free_tank" (defArgs s_least_free_tank) (defBody s_least_free_tank) (defScope s_least_free_tank) .none .none .none (.str "cleaningtanks.lots" 187) none (.ref 104) .none), #[]⟩
def k_111 (P : Params) : Obj := ⟨(.type "code"), none, .fields #[(.str "plan_of" 304), (.str "plan_of" 305), (.str "/claim/cut.py" 306), (.int (42) 0), (.int (1) 0), (.int (0) 0), (.int (0) 0), (.int (3) 0), (.ref 106), (.bool true), (.int (181) 0), (.ref 107), .none, (.ref 108), (.ref 109), (.ref 110), (.int (310) 0), (.int (42) 0), (.str "/claim/cut.py" 311)], #[]⟩
def k_112 (P : Params) : Obj := ⟨(.type "function"), none, .func (PySem.W.fnOf "plan_of" "plan_of" (defArgs s_plan_of) (defBody s_plan_of) (defScope s_plan_of) .none .none .none (.str "cleaningtanks.lots" 187) none (.ref 111) .none), #[]⟩
def k_118 (P : Params) : Obj := ⟨(.type "code"), none, .fields #[(.str "taken_by" 313), (.str "taken_by" 314), (.str "/claim/cut.py" 315), (.int (47) 0), (.int (2) 0), (.int (0) 0), (.int (0) 0), (.int (3) 0), (.ref 113), (.bool true), (.int (181) 0), (.ref 114), .none, (.ref 115), (.ref 116), (.ref 117), (.int (320) 0), (.int (47) 0), (.str "/claim/cut.py" 321)], #[]⟩
def k_119 (P : Params) : Obj := ⟨(.type "function"), none, .func (PySem.W.fnOf "taken_by" "taken_by" (defArgs s_taken_by) (defBody s_taken_by) (defScope s_taken_by) .none .none .none (.str "cleaningtanks.lots" 187) none (.ref 118) .none), #[]⟩
def k_132 (P : Params) : Obj := ⟨(.type "code"), none, .fields #[(.str "__init__" 380), (.str "House.__init__" 381), (.str "/claim/cut.py" 382), (.int (73) 0), (.int (1) 0), (.int (0) 0), (.int (0) 0), (.int (3) 0), (.ref 127), (.bool true), (.int (181) 0), (.ref 128), .none, (.ref 129), (.ref 130), (.ref 131), (.int (384) 0), (.int (73) 0), (.str "/claim/cut.py" 385)], #[]⟩
def k_133 (P : Params) : Obj := ⟨(.type "function"), none, .func (PySem.W.fnOf "__init__" "House.__init__" (defArgs s_House_init) (defBody s_House_init) (defScope s_House_init) .none .none .none (.str "cleaningtanks.tanks" 323) none (.ref 132) .none), #[]⟩
def k_135 (P : Params) : Obj := ⟨(.type "dict"), none, .dict (List.toArray (kE P "__module__" 375 (.str "cleaningtanks.tanks" 323) :: kE P "__firstlineno__" 379 (.int (71) 378) :: kE P "__init__" 386 (.ref 133) :: kE P "__static_attributes__" 393 (.ref 134) :: kE P "__dict__" 395 (.ref 137) :: kE P "__weakref__" 397 (.ref 138) :: kE P "__doc__" 398 .none :: [])) 4, #[]⟩
def k_136 (P : Params) : Obj := ⟨(.type "type"), none, .cls ⟨"House", [(.type "object")], [(.ref 136), (.type "object")], 135, "House", true, [], [], false, none, false⟩, #[none, none, (some (.str "House" 368)), (some (.str "House" 376)), (some (.builtin "object.__new__")), (some (.bool true))]⟩
def k_146 (P : Params) : Obj := ⟨(.type "code"), none, .fields #[(.str "all_lots" 401), (.str "all_lots" 402), (.str "/claim/cut.py" 403), (.int (80) 0), (.int (1) 0), (.int (0) 0), (.int (0) 0), (.int (3) 0), (.ref 141), (.bool true), (.int (181) 0), (.ref 142), .none, (.ref 143), (.ref 144), (.ref 145), (.int (405) 0), (.int (80) 0), (.str "/claim/cut.py" 406)], #[]⟩
def k_147 (P : Params) : Obj := ⟨(.type "function"), none, .func (PySem.W.fnOf "all_lots" "all_lots" (defArgs s_all_lots) (defBody s_all_lots) (defScope s_all_lots) .none .none .none (.str "cleaningtanks.tanks" 323) none (.ref 146) .none), #[]⟩
def k_153 (P : Params) : Obj := ⟨(.type "code"), none, .fields #[(.str "has_ended" 408), (.str "has_ended" 409), (.str "/claim/cut.py" 410), (.int (82) 0), (.int (2) 0), (.int (0) 0), (.int (0) 0), (.int (3) 0), (.ref 148), (.bool true), (.int (181) 0), (.ref 149), .none, (.ref 150), (.ref 151), (.ref 152), (.int (413) 0), (.int (82) 0), (.str "/claim/cut.py" 414)], #[]⟩
def k_154 (P : Params) : Obj := ⟨(.type "function"), none, .func (PySem.W.fnOf "has_ended" "has_ended" (defArgs s_has_ended) (defBody s_has_ended) (defScope s_has_ended) .none .none .none (.str "cleaningtanks.tanks" 323) none (.ref 153) .none), #[]⟩
def k_160 (P : Params) : Obj := ⟨(.type "code"), none, .fields #[(.str "within" 416), (.str "within" 417), (.str "/claim/cut.py" 418), (.int (84) 0), (.int (3) 0), (.int (0) 0), (.int (0) 0), (.int (3) 0), (.ref 155), (.bool true), (.int (181) 0), (.ref 156), .none, (.ref 157), (.ref 158), (.ref 159), (.int (422) 0), (.int (84) 0), (.str "/claim/cut.py" 423)], #[]⟩
def k_161 (P : Params) : Obj := ⟨(.type "function"), none, .func (PySem.W.fnOf "within" "within" (defArgs s_within) (defBody s_within) (defScope s_within) .none .none .none (.str "cleaningtanks.tanks" 323) none (.ref 160) .none), #[]⟩
def k_167 (P : Params) : Obj := ⟨(.type "code"), none, .fields #[(.str "is_hour" 425), (.str "is_hour" 426), (.str "/claim/cut.py" 427), (.int (86) 0), (.int (1) 0), (.int (0) 0), (.int (0) 0), (.int (3) 0), (.ref 162), (.bool true), (.int (181) 0), (.ref 163), .none, (.ref 164), (.ref 165), (.ref 166), (.int (429) 0), (.int (86) 0), (.str "/claim/cut.py" 430)], #[]⟩
def k_168 (P : Params) : Obj := ⟨(.type "function"), none, .func (PySem.W.fnOf "is_hour" "is_hour" (defArgs s_is_hour) (defBody s_is_hour) (defScope s_is_hour) .none .none .none (.str "cleaningtanks.tanks" 323) none (.ref 167) .none), #[]⟩
def k_174 (P : Params) : Obj := ⟨(.type "code"), none, .fields #[(.str "is_count_of_hours" 432), (.str "is_count_of_hours" 433), (.str "/claim/cut.py" 434), (.int (88) 0), (.int (1) 0), (.int (0) 0), (.int (0) 0), (.int (3) 0), (.ref 169), (.bool true), (.int (181) 0), (.ref 170), .none, (.ref 171), (.ref 172), (.ref 173), (.int (436) 0), (.int (88) 0), (.str "/claim/cut.py" 437)], #[]⟩
def k_175 (P : Params) : Obj := ⟨(.type "function"), none, .func (PySem.W.fnOf "is_count_of_hours" "is_count_of_hours" (defArgs s_is_count_of_hours) (defBody s_is_count_of_hours) (defScope s_is_count_of_hours) .none .none .none (.str "cleaningtanks.tanks" 323) none (.ref 174) .none), #[]⟩
def k_181 (P : Params) : Obj := ⟨(.type "code"), none, .fields #[(.str "refusal_of_lots" 439), (.str "refusal_of_lots" 440), (.str "/claim/cut.py" 441), (.int (90) 0), (.int (2) 0), (.int (0) 0), (.int (0) 0), (.int (3) 0), (.ref 176), (.bool true), (.int (181) 0), (.ref 177), .none, (.ref 178), (.ref 179), (.ref 180), (.int (445) 0), (.int (90) 0), (.str "/claim/cut.py" 446)], #[]⟩
def k_182 (P : Params) : Obj := ⟨(.type "function"), none, .func (PySem.W.fnOf "refusal_of_lots" "refusal_of_lots" (defArgs s_refusal_of_lots) (defBody s_refusal_of_lots) (defScope s_refusal_of_lots) .none .none .none (.str "cleaningtanks.tanks" 323) none (.ref 181) .none), #[]⟩
def k_186 (P : Params) : Obj := ⟨(.type "code"), none, .fields #[(.str "lots_of" 448), (.str "lots_of" 449), (.str "/claim/cut.py" 450), (.int (97) 0), (.int (2) 0), (.int (0) 0), (.int (0) 0), (.int (3) 0), (.ref 183), (.bool true), (.int (181) 0), (.ref 184), .none, .none, .none, (.ref 185), (.int (451) 0), (.int (97) 0), (.str "/claim/cut.py" 452)], #[]⟩
def k_187 (P : Params) : Obj := ⟨(.type "function"), none, .func (PySem.W.fnOf "lots_of" "lots_of" (defArgs s_lots_of) (defBody s_lots_of) (defScope s_lots_of) .none .none .none (.str "cleaningtanks.tanks" 323) none (.ref 186) .none), #[]⟩
def k_193 (P : Params) : Obj := ⟨(.type "code"), none, .fields #[(.str "count_and_these" 454), (.str "count_and_these" 455), (.str "/claim/cut.py" 456), (.int (99) 0), (.int (1) 0), (.int (0) 0), (.int (0) 0), (.int (3) 0), (.ref 188), (.bool true), (.int (181) 0), (.ref 189), .none, (.ref 190), (.ref 191), (.ref 192), (.int (458) 0), (.int (99) 0), (.str "/claim/cut.py" 459)], #[]⟩
def k_194 (P : Params) : Obj := ⟨(.type "function"), none, .func (PySem.W.fnOf "count_and_these" "count_and_these" (defArgs s_count_and_these) (defBody s_count_and_these) (defScope s_count_and_these) .none .none .none (.str "cleaningtanks.tanks" 323) none (.ref 193) .none), #[]⟩
def k_200 (P : Params) : Obj := ⟨(.type "code"), none, .fields #[(.str "answer_begin" 461), (.str "answer_begin" 462), (.str "/claim/cut.py" 463), (.int (101) 0), (.int (2) 0), (.int (0) 0), (.int (0) 0), (.int (3) 0), (.ref 195), (.bool true), (.int (181) 0), (.ref 196), .none, (.ref 197), (.ref 198), (.ref 199), (.int (468) 0), (.int (101) 0), (.str "/claim/cut.py" 469)], #[]⟩
def k_201 (P : Params) : Obj := ⟨(.type "function"), none, .func (PySem.W.fnOf "answer_begin" "answer_begin" (defArgs s_answer_begin) (defBody s_answer_begin) (defScope s_answer_begin) .none .none .none (.str "cleaningtanks.tanks" 323) none (.ref 200) .none), #[]⟩
def k_207 (P : Params) : Obj := ⟨(.type "code"), none, .fields #[(.str "refusal_of_new_lot" 471), (.str "refusal_of_new_lot" 472), (.str "/claim/cut.py" 473), (.int (113) 0), (.int (4) 0), (.int (0) 0), (.int (0) 0), (.int (3) 0), (.ref 202), (.bool true), (.int (181) 0), (.ref 203), .none, (.ref 204), (.ref 205), (.ref 206), (.int (478) 0), (.int (113) 0), (.str "/claim/cut.py" 479)], #[]⟩
def k_208 (P : Params) : Obj := ⟨(.type "function"), none, .func (PySem.W.fnOf "refusal_of_new_lot" "refusal_of_new_lot" (defArgs s_refusal_of_new_lot) (defBody s_refusal_of_new_lot) (defScope s_refusal_of_new_lot) .none .none .none (.str "cleaningtanks.tanks" 323) none (.ref 207) .none), #[]⟩
def k_214 (P : Params) : Obj := ⟨(.type "code"), none, .fields #[(.str "answer_lot" 481), (.str "answer_lot" 482), (.str "/claim/cut.py" 483), (.int (125) 0), (.int (2) 0), (.int (0) 0), (.int (0) 0), (.int (3) 0), (.ref 209), (.bool true), (.int (181) 0), (.ref 210), .none, (.ref 211), (.ref 212), (.ref 213), (.int (491) 0), (.int (125) 0), (.str "/claim/cut.py" 492)], #[]⟩
def k_215 (P : Params) : Obj := ⟨(.type "function"), none, .func (PySem.W.fnOf "answer_lot" "answer_lot" (defArgs s_answer_lot) (defBody s_answer_lot) (defScope s_answer_lot) .none .none .none (.str "cleaningtanks.tanks" 323) none (.ref 214) .none), #[]⟩
def k_221 (P : Params) : Obj := ⟨(.type "code"), none, .fields #[(.str "answer_drop" 494), (.str "answer_drop" 495), (.str "/claim/cut.py" 496), (.int (136) 0), (.int (2) 0), (.int (0) 0), (.int (0) 0), (.int (3) 0), (.ref 216), (.bool true), (.int (181) 0), (.ref 217), .none, (.ref 218), (.ref 219), (.ref 220), (.int (501) 0), (.int (136) 0), (.str "/claim/cut.py" 502)], #[]⟩
def k_222 (P : Params) : Obj := ⟨(.type "function"), none, .func (PySem.W.fnOf "answer_drop" "answer_drop" (defArgs s_answer_drop) (defBody s_answer_drop) (defScope s_answer_drop) .none .none .none (.str "cleaningtanks.tanks" 323) none (.ref 221) .none), #[]⟩
def k_228 (P : Params) : Obj := ⟨(.type "code"), none, .fields #[(.str "answer_longer" 504), (.str "answer_longer" 505), (.str "/claim/cut.py" 506), (.int (142) 0), (.int (2) 0), (.int (0) 0), (.int (0) 0), (.int (3) 0), (.ref 223), (.bool true), (.int (181) 0), (.ref 224), .none, (.ref 225), (.ref 226), (.ref 227), (.int (512) 0), (.int (142) 0), (.str "/claim/cut.py" 513)], #[]⟩
def k_229 (P : Params) : Obj := ⟨(.type "function"), none, .func (PySem.W.fnOf "answer_longer" "answer_longer" (defArgs s_answer_longer) (defBody s_answer_longer) (defScope s_answer_longer) .none .none .none (.str "cleaningtanks.tanks" 323) none (.ref 228) .none), #[]⟩
def k_235 (P : Params) : Obj := ⟨(.type "code"), none, .fields #[(.str "answer_tank" 515), (.str "answer_tank" 516), (.str "/claim/cut.py" 517), (.int (156) 0), (.int (2) 0), (.int (0) 0), (.int (0) 0), (.int (3) 0), (.ref 230), (.bool true), (.int (181) 0), (.ref 231), .none, (.ref 232), (.ref 233), (.ref 234), (.int (520) 0), (.int (156) 0), (.str "/claim/cut.py" 521)], #[]⟩
def k_236 (P : Params) : Obj := ⟨(.type "function"), none, .func (PySem.W.fnOf "answer_tank" "answer_tank" (defArgs s_answer_tank) (defBody s_answer_tank) (defScope s_answer_tank) .none .none .none (.str "cleaningtanks.tanks" 323) none (.ref 235) .none), #[]⟩
def k_240 (P : Params) : Obj := ⟨(.type "code"), none, .fields #[(.str "answer_hours" 523), (.str "answer_hours" 524), (.str "/claim/cut.py" 525), (.int (161) 0), (.int (2) 0), (.int (0) 0), (.int (0) 0), (.int (3) 0), (.ref 237), (.bool true), (.int (181) 0), (.ref 238), .none, .none, .none, (.ref 239), (.int (526) 0), (.int (161) 0), (.str "/claim/cut.py" 527)], #[]⟩
def k_241 (P : Params) : Obj := ⟨(.type "function"), none, .func (PySem.W.fnOf "answer_hours" "answer_hours" (defArgs s_answer_hours) (defBody s_answer_hours) (defScope s_answer_hours) .none .none .none (.str "cleaningtanks.tanks" 323) none (.ref 240) .none), #[]⟩
def k_247 (P : Params) : Obj := ⟨(.type "code"), none, .fields #[(.str "answer_fewest" 529), (.str "answer_fewest" 530), (.str "/claim/cut.py" 531), (.int (170) 0), (.int (2) 0), (.int (0) 0), (.int (0) 0), (.int (3) 0), (.ref 242), (.bool true), (.int (181) 0), (.ref 243), .none, (.ref 244), (.ref 245), (.ref 246), (.int (534) 0), (.int (170) 0), (.str "/claim/cut.py" 535)], #[]⟩
def k_248 (P : Params) : Obj := ⟨(.type "function"), none, .func (PySem.W.fnOf "answer_fewest" "answer_fewest" (defArgs s_answer_fewest) (defBody s_answer_fewest) (defScope s_answer_fewest) .none .none .none (.str "cleaningtanks.tanks" 323) none (.ref 247) .none), #[]⟩
def k_254 (P : Params) : Obj := ⟨(.type "code"), none, .fields #[(.str "answer_peak" 537), (.str "answer_peak" 538), (.str "/claim/cut.py" 539), (.int (172) 0), (.int (2) 0), (.int (0) 0), (.int (0) 0), (.int (3) 0), (.ref 249), (.bool true), (.int (181) 0), (.ref 250), .none, (.ref 251), (.ref 252), (.ref 253), (.int (543) 0), (.int (172) 0), (.str "/claim/cut.py" 544)], #[]⟩
def k_255 (P : Params) : Obj := ⟨(.type "function"), none, .func (PySem.W.fnOf "answer_peak" "answer_peak" (defArgs s_answer_peak) (defBody s_answer_peak) (defScope s_answer_peak) .none .none .none (.str "cleaningtanks.tanks" 323) none (.ref 254) .none), #[]⟩
def k_261 (P : Params) : Obj := ⟨(.type "code"), none, .fields #[(.str "answer_at" 546), (.str "answer_at" 547), (.str "/claim/cut.py" 548), (.int (177) 0), (.int (2) 0), (.int (0) 0), (.int (0) 0), (.int (3) 0), (.ref 256), (.bool true), (.int (181) 0), (.ref 257), .none, (.ref 258), (.ref 259), (.ref 260), (.int (552) 0), (.int (177) 0), (.str "/claim/cut.py" 553)], #[]⟩
def k_262 (P : Params) : Obj := ⟨(.type "function"), none, .func (PySem.W.fnOf "answer_at" "answer_at" (defArgs s_answer_at) (defBody s_answer_at) (defScope s_answer_at) .none .none .none (.str "cleaningtanks.tanks" 323) none (.ref 261) .none), #[]⟩
def k_268 (P : Params) : Obj := ⟨(.type "code"), none, .fields #[(.str "answer_plan" 555), (.str "answer_plan" 556), (.str "/claim/cut.py" 557), (.int (182) 0), (.int (2) 0), (.int (0) 0), (.int (0) 0), (.int (3) 0), (.ref 263), (.bool true), (.int (181) 0), (.ref 264), .none, (.ref 265), (.ref 266), (.ref 267), (.int (563) 0), (.int (182) 0), (.str "/claim/cut.py" 564)], #[]⟩
def k_269 (P : Params) : Obj := ⟨(.type "function"), none, .func (PySem.W.fnOf "answer_plan" "answer_plan" (defArgs s_answer_plan) (defBody s_answer_plan) (defScope s_answer_plan) .none .none .none (.str "cleaningtanks.tanks" 323) none (.ref 268) .none), #[]⟩
def k_273 (P : Params) : Obj := ⟨(.type "code"), none, .fields #[(.str "answer_tankof" 566), (.str "answer_tankof" 567), (.str "/claim/cut.py" 568), (.int (188) 0), (.int (2) 0), (.int (0) 0), (.int (0) 0), (.int (3) 0), (.ref 270), (.bool true), (.int (181) 0), (.ref 271), .none, .none, .none, (.ref 272), (.int (569) 0), (.int (188) 0), (.str "/claim/cut.py" 570)], #[]⟩
def k_274 (P : Params) : Obj := ⟨(.type "function"), none, .func (PySem.W.fnOf "answer_tankof" "answer_tankof" (defArgs s_answer_tankof) (defBody s_answer_tankof) (defScope s_answer_tankof) .none .none .none (.str "cleaningtanks.tanks" 323) none (.ref 273) .none), #[]⟩
def k_280 (P : Params) : Obj := ⟨(.type "code"), none, .fields #[(.str "answer_most" 572), (.str "answer_most" 573), (.str "/claim/cut.py" 574), (.int (193) 0), (.int (2) 0), (.int (0) 0), (.int (0) 0), (.int (3) 0), (.ref 275), (.bool true), (.int (181) 0), (.ref 276), .none, (.ref 277), (.ref 278), (.ref 279), (.int (578) 0), (.int (193) 0), (.str "/claim/cut.py" 579)], #[]⟩
def k_281 (P : Params) : Obj := ⟨(.type "function"), none, .func (PySem.W.fnOf "answer_most" "answer_most" (defArgs s_answer_most) (defBody s_answer_most) (defScope s_answer_most) .none .none .none (.str "cleaningtanks.tanks" 323) none (.ref 280) .none), #[]⟩
def k_287 (P : Params) : Obj := ⟨(.type "code"), none, .fields #[(.str "answer_mostof" 581), (.str "answer_mostof" 582), (.str "/claim/cut.py" 583), (.int (198) 0), (.int (2) 0), (.int (0) 0), (.int (0) 0), (.int (3) 0), (.ref 282), (.bool true), (.int (181) 0), (.ref 283), .none, (.ref 284), (.ref 285), (.ref 286), (.int (588) 0), (.int (198) 0), (.str "/claim/cut.py" 589)], #[]⟩
def k_288 (P : Params) : Obj := ⟨(.type "function"), none, .func (PySem.W.fnOf "answer_mostof" "answer_mostof" (defArgs s_answer_mostof) (defBody s_answer_mostof) (defScope s_answer_mostof) .none .none .none (.str "cleaningtanks.tanks" 323) none (.ref 287) .none), #[]⟩
def k_294 (P : Params) : Obj := ⟨(.type "code"), none, .fields #[(.str "answer_together" 591), (.str "answer_together" 592), (.str "/claim/cut.py" 593), (.int (206) 0), (.int (2) 0), (.int (0) 0), (.int (0) 0), (.int (3) 0), (.ref 289), (.bool true), (.int (181) 0), (.ref 290), .none, (.ref 291), (.ref 292), (.ref 293), (.int (597) 0), (.int (206) 0), (.str "/claim/cut.py" 598)], #[]⟩
def k_295 (P : Params) : Obj := ⟨(.type "function"), none, .func (PySem.W.fnOf "answer_together" "answer_together" (defArgs s_answer_together) (defBody s_answer_together) (defScope s_answer_together) .none .none .none (.str "cleaningtanks.tanks" 323) none (.ref 294) .none), #[]⟩
def k_301 (P : Params) : Obj := ⟨(.type "code"), none, .fields #[(.str "answer_meets" 600), (.str "answer_meets" 601), (.str "/claim/cut.py" 602), (.int (211) 0), (.int (2) 0), (.int (0) 0), (.int (0) 0), (.int (3) 0), (.ref 296), (.bool true), (.int (181) 0), (.ref 297), .none, (.ref 298), (.ref 299), (.ref 300), (.int (606) 0), (.int (211) 0), (.str "/claim/cut.py" 607)], #[]⟩
def k_302 (P : Params) : Obj := ⟨(.type "function"), none, .func (PySem.W.fnOf "answer_meets" "answer_meets" (defArgs s_answer_meets) (defBody s_answer_meets) (defScope s_answer_meets) .none .none .none (.str "cleaningtanks.tanks" 323) none (.ref 301) .none), #[]⟩
def k_308 (P : Params) : Obj := ⟨(.type "code"), none, .fields #[(.str "answer_may" 609), (.str "answer_may" 610), (.str "/claim/cut.py" 611), (.int (216) 0), (.int (2) 0), (.int (0) 0), (.int (0) 0), (.int (3) 0), (.ref 303), (.bool true), (.int (181) 0), (.ref 304), .none, (.ref 305), (.ref 306), (.ref 307), (.int (616) 0), (.int (216) 0), (.str "/claim/cut.py" 617)], #[]⟩
def k_309 (P : Params) : Obj := ⟨(.type "function"), none, .func (PySem.W.fnOf "answer_may" "answer_may" (defArgs s_answer_may) (defBody s_answer_may) (defScope s_answer_may) .none .none .none (.str "cleaningtanks.tanks" 323) none (.ref 308) .none), #[]⟩
def k_315 (P : Params) : Obj := ⟨(.type "code"), none, .fields #[(.str "answer_first" 619), (.str "answer_first" 620), (.str "/claim/cut.py" 621), (.int (222) 0), (.int (2) 0), (.int (0) 0), (.int (0) 0), (.int (3) 0), (.ref 310), (.bool true), (.int (181) 0), (.ref 311), .none, (.ref 312), (.ref 313), (.ref 314), (.int (624) 0), (.int (222) 0), (.str "/claim/cut.py" 625)], #[]⟩
def k_316 (P : Params) : Obj := ⟨(.type "function"), none, .func (PySem.W.fnOf "answer_first" "answer_first" (defArgs s_answer_first) (defBody s_answer_first) (defScope s_answer_first) .none .none .none (.str "cleaningtanks.tanks" 323) none (.ref 315) .none), #[]⟩
def k_322 (P : Params) : Obj := ⟨(.type "code"), none, .fields #[(.str "answer_firstwith" 627), (.str "answer_firstwith" 628), (.str "/claim/cut.py" 629), (.int (224) 0), (.int (2) 0), (.int (0) 0), (.int (0) 0), (.int (3) 0), (.ref 317), (.bool true), (.int (181) 0), (.ref 318), .none, (.ref 319), (.ref 320), (.ref 321), (.int (635) 0), (.int (224) 0), (.str "/claim/cut.py" 636)], #[]⟩
def k_323 (P : Params) : Obj := ⟨(.type "function"), none, .func (PySem.W.fnOf "answer_firstwith" "answer_firstwith" (defArgs s_answer_firstwith) (defBody s_answer_firstwith) (defScope s_answer_firstwith) .none .none .none (.str "cleaningtanks.tanks" 323) none (.ref 322) .none), #[]⟩
def k_327 (P : Params) : Obj := ⟨(.type "code"), none, .fields #[(.str "answer_ready" 638), (.str "answer_ready" 639), (.str "/claim/cut.py" 640), (.int (231) 0), (.int (2) 0), (.int (0) 0), (.int (0) 0), (.int (3) 0), (.ref 324), (.bool true), (.int (181) 0), (.ref 325), .none, .none, .none, (.ref 326), (.int (641) 0), (.int (231) 0), (.str "/claim/cut.py" 642)], #[]⟩
def k_328 (P : Params) : Obj := ⟨(.type "function"), none, .func (PySem.W.fnOf "answer_ready" "answer_ready" (defArgs s_answer_ready) (defBody s_answer_ready) (defScope s_answer_ready) .none .none .none (.str "cleaningtanks.tanks" 323) none (.ref 327) .none), #[]⟩
def k_334 (P : Params) : Obj := ⟨(.type "code"), none, .fields #[(.str "answer_left" 644), (.str "answer_left" 645), (.str "/claim/cut.py" 646), (.int (233) 0), (.int (2) 0), (.int (0) 0), (.int (0) 0), (.int (3) 0), (.ref 329), (.bool true), (.int (181) 0), (.ref 330), .none, (.ref 331), (.ref 332), (.ref 333), (.int (650) 0), (.int (233) 0), (.str "/claim/cut.py" 651)], #[]⟩
def k_335 (P : Params) : Obj := ⟨(.type "function"), none, .func (PySem.W.fnOf "answer_left" "answer_left" (defArgs s_answer_left) (defBody s_answer_left) (defScope s_answer_left) .none .none .none (.str "cleaningtanks.tanks" 323) none (.ref 334) .none), #[]⟩
def k_339 (P : Params) : Obj := ⟨(.type "code"), none, .fields #[(.str "answer_busy" 653), (.str "answer_busy" 654), (.str "/claim/cut.py" 655), (.int (238) 0), (.int (2) 0), (.int (0) 0), (.int (0) 0), (.int (3) 0), (.ref 336), (.bool true), (.int (181) 0), (.ref 337), .none, .none, .none, (.ref 338), (.int (656) 0), (.int (238) 0), (.str "/claim/cut.py" 657)], #[]⟩
def k_340 (P : Params) : Obj := ⟨(.type "function"), none, .func (PySem.W.fnOf "answer_busy" "answer_busy" (defArgs s_answer_busy) (defBody s_answer_busy) (defScope s_answer_busy) .none .none .none (.str "cleaningtanks.tanks" 323) none (.ref 339) .none), #[]⟩
def k_346 (P : Params) : Obj := ⟨(.type "code"), none, .fields #[(.str "answer_look" 659), (.str "answer_look" 660), (.str "/claim/cut.py" 661), (.int (241) 0), (.int (2) 0), (.int (0) 0), (.int (0) 0), (.int (3) 0), (.ref 341), (.bool true), (.int (181) 0), (.ref 342), .none, (.ref 343), (.ref 344), (.ref 345), (.int (666) 0), (.int (241) 0), (.str "/claim/cut.py" 667)], #[]⟩
def k_347 (P : Params) : Obj := ⟨(.type "function"), none, .func (PySem.W.fnOf "answer_look" "answer_look" (defArgs s_answer_look) (defBody s_answer_look) (defScope s_answer_look) .none .none .none (.str "cleaningtanks.tanks" 323) none (.ref 346) .none), #[]⟩
def k_351 (P : Params) : Obj := ⟨(.type "code"), none, .fields #[(.str "answer_sums" 669), (.str "answer_sums" 670), (.str "/claim/cut.py" 671), (.int (247) 0), (.int (2) 0), (.int (0) 0), (.int (0) 0), (.int (3) 0), (.ref 348), (.bool true), (.int (181) 0), (.ref 349), .none, .none, .none, (.ref 350), (.int (672) 0), (.int (247) 0), (.str "/claim/cut.py" 673)], #[]⟩
def k_352 (P : Params) : Obj := ⟨(.type "function"), none, .func (PySem.W.fnOf "answer_sums" "answer_sums" (defArgs s_answer_sums) (defBody s_answer_sums) (defScope s_answer_sums) .none .none .none (.str "cleaningtanks.tanks" 323) none (.ref 351) .none), #[]⟩
def k_358 (P : Params) : Obj := ⟨(.type "code"), none, .fields #[(.str "answer_state" 675), (.str "answer_state" 676), (.str "/claim/cut.py" 677), (.int (250) 0), (.int (2) 0), (.int (0) 0), (.int (0) 0), (.int (3) 0), (.ref 353), (.bool true), (.int (181) 0), (.ref 354), .none, (.ref 355), (.ref 356), (.ref 357), (.int (680) 0), (.int (250) 0), (.str "/claim/cut.py" 681)], #[]⟩
def k_359 (P : Params) : Obj := ⟨(.type "function"), none, .func (PySem.W.fnOf "answer_state" "answer_state" (defArgs s_answer_state) (defBody s_answer_state) (defScope s_answer_state) .none .none .none (.str "cleaningtanks.tanks" 323) none (.ref 358) .none), #[]⟩
def k_360 (P : Params) : Obj := ⟨(.type "tuple"), none, .seq #[(.ref 201), (.int (2) 683), (.bool false)] 0, #[]⟩
def k_361 (P : Params) : Obj := ⟨(.type "tuple"), none, .seq #[(.ref 215), (.int (3) 684), (.bool false)] 0, #[]⟩
def k_362 (P : Params) : Obj := ⟨(.type "tuple"), none, .seq #[(.ref 222), (.int (1) 685), (.bool false)] 0, #[]⟩
def k_363 (P : Params) : Obj := ⟨(.type "tuple"), none, .seq #[(.ref 229), (.int (2) 686), (.bool false)] 0, #[]⟩
def k_364 (P : Params) : Obj := ⟨(.type "tuple"), none, .seq #[(.ref 236), (.int (0) 687), (.bool false)] 0, #[]⟩
def k_365 (P : Params) : Obj := ⟨(.type "tuple"), none, .seq #[(.ref 241), (.int (1) 688), (.bool false)] 0, #[]⟩
def k_366 (P : Params) : Obj := ⟨(.type "tuple"), none, .seq #[(.ref 248), (.int (0) 689), (.bool false)] 0, #[]⟩
def k_367 (P : Params) : Obj := ⟨(.type "tuple"), none, .seq #[(.ref 255), (.int (0) 690), (.bool true)] 0, #[]⟩
def k_368 (P : Params) : Obj := ⟨(.type "tuple"), none, .seq #[(.ref 262), (.int (1) 691), (.bool false)] 0, #[]⟩
def k_369 (P : Params) : Obj := ⟨(.type "tuple"), none, .seq #[(.ref 269), (.int (0) 692), (.bool false)] 0, #[]⟩
def k_370 (P : Params) : Obj := ⟨(.type "tuple"), none, .seq #[(.ref 274), (.int (1) 693), (.bool false)] 0, #[]⟩
def k_371 (P : Params) : Obj := ⟨(.type "tuple"), none, .seq #[(.ref 281), (.int (1) 694), (.bool false)] 0, #[]⟩
def k_372 (P : Params) : Obj := ⟨(.type "tuple"), none, .seq #[(.ref 288), (.int (1) 695), (.bool true)] 0, #[]⟩
def k_373 (P : Params) : Obj := ⟨(.type "tuple"), none, .seq #[(.ref 295), (.int (0) 696), (.bool true)] 0, #[]⟩
def k_374 (P : Params) : Obj := ⟨(.type "tuple"), none, .seq #[(.ref 302), (.int (1) 697), (.bool false)] 0, #[]⟩
def k_375 (P : Params) : Obj := ⟨(.type "tuple"), none, .seq #[(.ref 309), (.int (2) 698), (.bool false)] 0, #[]⟩
def k_376 (P : Params) : Obj := ⟨(.type "tuple"), none, .seq #[(.ref 316), (.int (2) 699), (.bool false)] 0, #[]⟩
def k_377 (P : Params) : Obj := ⟨(.type "tuple"), none, .seq #[(.ref 323), (.int (3) 700), (.bool false)] 0, #[]⟩
def k_378 (P : Params) : Obj := ⟨(.type "tuple"), none, .seq #[(.ref 328), (.int (0) 701), (.bool false)] 0, #[]⟩
def k_379 (P : Params) : Obj := ⟨(.type "tuple"), none, .seq #[(.ref 335), (.int (1) 702), (.bool false)] 0, #[]⟩
def k_380 (P : Params) : Obj := ⟨(.type "tuple"), none, .seq #[(.ref 340), (.int (0) 703), (.bool false)] 0, #[]⟩
def k_381 (P : Params) : Obj := ⟨(.type "tuple"), none, .seq #[(.ref 347), (.int (1) 704), (.bool false)] 0, #[]⟩
def k_382 (P : Params) : Obj := ⟨(.type "tuple"), none, .seq #[(.ref 352), (.int (0) 705), (.bool false)] 0, #[]⟩
def k_383 (P : Params) : Obj := ⟨(.type "tuple"), none, .seq #[(.ref 359), (.int (0) 706), (.bool false)] 0, #[]⟩
def k_384 (P : Params) : Obj := ⟨(.type "tuple"), none, .seq #[(.ref 360), (.ref 361), (.ref 362), (.ref 363), (.ref 364), (.ref 365), (.ref 366), (.ref 367), (.ref 368), (.ref 369), (.ref 370), (.ref 371), (.ref 372), (.ref 373), (.ref 374), (.ref 375), (.ref 376), (.ref 377), (.ref 378), (.ref 379), (.ref 380), (.ref 381), (.ref 382), (.ref 383)] 0, #[]⟩
def k_390 (P : Params) : Obj := ⟨(.type "code"), none, .fields #[(.str "end_of_call" 708), (.str "end_of_call" 709), (.str "/claim/cut.py" 710), (.int (253) 0), (.int (2) 0), (.int (0) 0), (.int (0) 0), (.int (3) 0), (.ref 385), (.bool true), (.int (181) 0), (.ref 386), .none, (.ref 387), (.ref 388), (.ref 389), (.int (715) 0), (.int (253) 0), (.str "/claim/cut.py" 716)], #[]⟩
def k_391 (P : Params) : Obj := ⟨(.type "function"), none, .func (PySem.W.fnOf "end_of_call" "end_of_call" (defArgs s_end_of_call) (defBody s_end_of_call) (defScope s_end_of_call) .none .none .none (.str "cleaningtanks.tanks" 323) none (.ref 390) .none), #[]⟩
def k_397 (P : Params) : Obj := ⟨(.type "code"), none, .fields #[(.str "told_to_call" 718), (.str "told_to_call" 719), (.str "/claim/cut.py" 720), (.int (259) 0), (.int (2) 0), (.int (0) 0), (.int (0) 0), (.int (3) 0), (.ref 392), (.bool true), (.int (181) 0), (.ref 393), .none, (.ref 394), (.ref 395), (.ref 396), (.int (726) 0), (.int (259) 0), (.str "/claim/cut.py" 727)], #[]⟩
def k_398 (P : Params) : Obj := ⟨(.type "function"), none, .func (PySem.W.fnOf "told_to_call" "told_to_call" (defArgs s_told_to_call) (defBody s_told_to_call) (defScope s_told_to_call) .none .none .none (.str "cleaningtanks.tanks" 323) none (.ref 397) .none), #[]⟩
def k_404 (P : Params) : Obj := ⟨(.type "code"), none, .fields #[(.str "answer_call" 729), (.str "answer_call" 730), (.str "/claim/cut.py" 731), (.int (266) 0), (.int (3) 0), (.int (0) 0), (.int (0) 0), (.int (3) 0), (.ref 399), (.bool true), (.int (181) 0), (.ref 400), .none, (.ref 401), (.ref 402), (.ref 403), (.int (736) 0), (.int (266) 0), (.str "/claim/cut.py" 737)], #[]⟩
def k_405 (P : Params) : Obj := ⟨(.type "function"), none, .func (PySem.W.fnOf "answer_call" "answer_call" (defArgs s_answer_call) (defBody s_answer_call) (defScope s_answer_call) .none .none .none (.str "cleaningtanks.tanks" 323) none (.ref 404) .none), #[]⟩
def k_411 (P : Params) : Obj := ⟨(.type "code"), none, .fields #[(.str "answers" 739), (.str "answers" 740), (.str "/claim/cut.py" 741), (.int (271) 0), (.int (1) 0), (.int (0) 0), (.int (0) 0), (.int (3) 0), (.ref 406), (.bool true), (.int (181) 0), (.ref 407), .none, (.ref 408), (.ref 409), (.ref 410), (.int (747) 0), (.int (271) 0), (.str "/claim/cut.py" 748)], #[]⟩
def k_412 (P : Params) : Obj := ⟨(.type "function"), none, .func (PySem.W.fnOf "answers" "answers" (defArgs s_answers) (defBody s_answers) (defScope s_answers) .none .none .none (.str "cleaningtanks.tanks" 323) none (.ref 411) .none), #[]⟩
noncomputable def KK : Params → PySem.W.Frag := fun P => (nat_lit 3, k_3 P) :: (nat_lit 27, k_27 P) :: (nat_lit 28, k_28 P) :: (nat_lit 30, k_30 P) :: (nat_lit 31, k_31 P) :: (nat_lit 39, k_39 P) :: (nat_lit 40, k_40 P) :: (nat_lit 46, k_46 P) :: (nat_lit 47, k_47 P) :: (nat_lit 51, k_51 P) :: (nat_lit 52, k_52 P) :: (nat_lit 58, k_58 P) :: (nat_lit 59, k_59 P) :: (nat_lit 63, k_63 P) :: (nat_lit 64, k_64 P) :: (nat_lit 68, k_68 P) :: (nat_lit 69, k_69 P) :: (nat_lit 73, k_73 P) :: (nat_lit 74, k_74 P) :: (nat_lit 78, k_78 P) :: (nat_lit 79, k_79 P) :: (nat_lit 85, k_85 P) :: (nat_lit 86, k_86 P) :: (nat_lit 92, k_92 P) :: (nat_lit 93, k_93 P) :: (nat_lit 99, k_99 P) :: (nat_lit 100, k_100 P) :: (nat_lit 104, k_104 P) :: (nat_lit 105, k_105 P) :: (nat_lit 111, k_111 P) :: (nat_lit 112, k_112 P) :: (nat_lit 118, k_118 P) :: (nat_lit 119, k_119 P) :: (nat_lit 132, k_132 P) :: (nat_lit 133, k_133 P) :: (nat_lit 135, k_135 P) :: (nat_lit 136, k_136 P) :: (nat_lit 146, k_146 P) :: (nat_lit 147, k_147 P) :: (nat_lit 153, k_153 P) :: (nat_lit 154, k_154 P) :: (nat_lit 160, k_160 P) :: (nat_lit 161, k_161 P) :: (nat_lit 167, k_167 P) :: (nat_lit 168, k_168 P) :: (nat_lit 174, k_174 P) :: (nat_lit 175, k_175 P) :: (nat_lit 181, k_181 P) :: (nat_lit 182, k_182 P) :: (nat_lit 186, k_186 P) :: (nat_lit 187, k_187 P) :: (nat_lit 193, k_193 P) :: (nat_lit 194, k_194 P) :: (nat_lit 200, k_200 P) :: (nat_lit 201, k_201 P) :: (nat_lit 207, k_207 P) :: (nat_lit 208, k_208 P) :: (nat_lit 214, k_214 P) :: (nat_lit 215, k_215 P) :: (nat_lit 221, k_221 P) :: (nat_lit 222, k_222 P) :: (nat_lit 228, k_228 P) :: (nat_lit 229, k_229 P) :: (nat_lit 235, k_235 P) :: (nat_lit 236, k_236 P) :: (nat_lit 240, k_240 P) :: (nat_lit 241, k_241 P) :: (nat_lit 247, k_247 P) :: (nat_lit 248, k_248 P) :: (nat_lit 254, k_254 P) :: (nat_lit 255, k_255 P) :: (nat_lit 261, k_261 P) :: (nat_lit 262, k_262 P) :: (nat_lit 268, k_268 P) :: (nat_lit 269, k_269 P) :: (nat_lit 273, k_273 P) :: (nat_lit 274, k_274 P) :: (nat_lit 280, k_280 P) :: (nat_lit 281, k_281 P) :: (nat_lit 287, k_287 P) :: (nat_lit 288, k_288 P) :: (nat_lit 294, k_294 P) :: (nat_lit 295, k_295 P) :: (nat_lit 301, k_301 P) :: (nat_lit 302, k_302 P) :: (nat_lit 308, k_308 P) :: (nat_lit 309, k_309 P) :: (nat_lit 315, k_315 P) :: (nat_lit 316, k_316 P) :: (nat_lit 322, k_322 P) :: (nat_lit 323, k_323 P) :: (nat_lit 327, k_327 P) :: (nat_lit 328, k_328 P) :: (nat_lit 334, k_334 P) :: (nat_lit 335, k_335 P) :: (nat_lit 339, k_339 P) :: (nat_lit 340, k_340 P) :: (nat_lit 346, k_346 P) :: (nat_lit 347, k_347 P) :: (nat_lit 351, k_351 P) :: (nat_lit 352, k_352 P) :: (nat_lit 358, k_358 P) :: (nat_lit 359, k_359 P) :: (nat_lit 360, k_360 P) :: (nat_lit 361, k_361 P) :: (nat_lit 362, k_362 P) :: (nat_lit 363, k_363 P) :: (nat_lit 364, k_364 P) :: (nat_lit 365, k_365 P) :: (nat_lit 366, k_366 P) :: (nat_lit 367, k_367 P) :: (nat_lit 368, k_368 P) :: (nat_lit 369, k_369 P) :: (nat_lit 370, k_370 P) :: (nat_lit 371, k_371 P) :: (nat_lit 372, k_372 P) :: (nat_lit 373, k_373 P) :: (nat_lit 374, k_374 P) :: (nat_lit 375, k_375 P) :: (nat_lit 376, k_376 P) :: (nat_lit 377, k_377 P) :: (nat_lit 378, k_378 P) :: (nat_lit 379, k_379 P) :: (nat_lit 380, k_380 P) :: (nat_lit 381, k_381 P) :: (nat_lit 382, k_382 P) :: (nat_lit 383, k_383 P) :: (nat_lit 384, k_384 P) :: (nat_lit 390, k_390 P) :: (nat_lit 391, k_391 P) :: (nat_lit 397, k_397 P) :: (nat_lit 398, k_398 P) :: (nat_lit 404, k_404 P) :: (nat_lit 405, k_405 P) :: (nat_lit 411, k_411 P) :: (nat_lit 412, k_412 P) :: []
def KA : List Nat := 3 :: 27 :: 28 :: 30 :: 31 :: 39 :: 40 :: 46 :: 47 :: 51 :: 52 :: 58 :: 59 :: 63 :: 64 :: 68 :: 69 :: 73 :: 74 :: 78 :: 79 :: 85 :: 86 :: 92 :: 93 :: 99 :: 100 :: 104 :: 105 :: 111 :: 112 :: 118 :: 119 :: 132 :: 133 :: 135 :: 136 :: 146 :: 147 :: 153 :: 154 :: 160 :: 161 :: 167 :: 168 :: 174 :: 175 :: 181 :: 182 :: 186 :: 187 :: 193 :: 194 :: 200 :: 201 :: 207 :: 208 :: 214 :: 215 :: 221 :: 222 :: 228 :: 229 :: 235 :: 236 :: 240 :: 241 :: 247 :: 248 :: 254 :: 255 :: 261 :: 262 :: 268 :: 269 :: 273 :: 274 :: 280 :: 281 :: 287 :: 288 :: 294 :: 295 :: 301 :: 302 :: 308 :: 309 :: 315 :: 316 :: 322 :: 323 :: 327 :: 328 :: 334 :: 335 :: 339 :: 340 :: 346 :: 347 :: 351 :: 352 :: 358 :: 359 :: 360 :: 361 :: 362 :: 363 :: 364 :: 365 :: 366 :: 367 :: 368 :: 369 :: 370 :: 371 :: 372 :: 373 :: 374 :: 375 :: 376 :: 377 :: 378 :: 379 :: 380 :: 381 :: 382 :: 383 :: 384 :: 390 :: 391 :: 397 :: 398 :: 404 :: 405 :: 411 :: 412 :: []

noncomputable def HK : PySem.W.Hook := PySem.W.kHook KK KA (fun _ => by kernel_rfl)
abbrev pw : Program := PySem.Challenge.pw_cleaningtanks_s01_answers
/-- the one def that is called from without; the other names stay loose -/
def qv : Program := { pw with main := { pw.main with body := pw.main.body.drop 72 } }
def lv : List Str := ("Lot" : Str) :: "numbers_of" :: "lies_in" :: "lying" :: "two_meet" :: "meeting" :: "most_at_once" :: "may_lie" :: "first_hour" :: "hours_left" :: "plan_order" :: "end_order" :: "least_free_tank" :: "plan_of" :: "taken_by" :: "NONE_SUCH" :: "NOT_BEGUN" :: "TOO_SHORT" :: "OVER" :: "ENDED" :: "OUT_OF_RANGE" :: "TOO_MANY" :: "NO_TANK" :: "TOO_LATE" :: "MOST_TANKS" :: "MOST_NEED" :: "MOST_LOTS" :: "MOST_LOTS_EVER" :: "MOST_CRATES" :: "LAST_HOUR" :: "MOST_HOURS" :: "BEGIN" :: "House" :: "all_lots" :: "has_ended" :: "within" :: "is_hour" :: "is_count_of_hours" :: "refusal_of_lots" :: "lots_of" :: "count_and_these" :: "answer_begin" :: "refusal_of_new_lot" :: "answer_lot" :: "answer_drop" :: "answer_longer" :: "answer_tank" :: "answer_hours" :: "answer_fewest" :: "answer_peak" :: "answer_at" :: "answer_plan" :: "answer_tankof" :: "answer_most" :: "answer_mostof" :: "answer_together" :: "answer_meets" :: "answer_may" :: "answer_first" :: "answer_firstwith" :: "answer_ready" :: "answer_left" :: "answer_busy" :: "answer_look" :: "answer_sums" :: "answer_state" :: "CALLS" :: "end_of_call" :: "told_to_call" :: "answer_call" :: []
theorem pw_quick : (fun _ : Program => true) PySem.Challenge.pw_cleaningtanks_s01_answers = true := by k_qdec
theorem lft : PySem.W.LeftO PySem.Challenge.pw_cleaningtanks_s01_answers qv lv (fun s => PySem.W.xlAt qv [] s && PySem.W.recOk [] s) (PySem.W.Hook.obs HK) (PySem.W.Hook.val HK) 4764 := by
  intro w
  unfold PySem.W.openEnds PySem.W.fencedOpening PySem.W.topFrom
  rw [PySem.W.Fast.te14364793385576792824, PySem.W.Fast.te10274390034422433532, PySem.W.Fast.te14082659384304107361, PySem.W.Fast.te1435165496053646825, PySem.W.Fast.te14289696077712309145, PySem.W.Fast.te4187177175401517315, PySem.W.Fast.te5923862056798008813, PySem.W.Fast.te10954931685966473928]
  kernel_rfl
end Ct
end
set_option Elab.async false
set_option linter.all false
set_option maxRecDepth 100000
set_option maxHeartbeats 4000000
namespace Ct
open PySem PySem.Spec PyProof.Rows L2
theorem def_mk {P : Program} {w : World} {K : PySem.W.Frag} {h : Heap} {mg : Str → Option Value} {base : Heap} {x : Str} {st : Stmt} {f : Addr} {fd : FuncData} {ps : List Str} {k : Nat} {sp : Sp} (X : K.In h) (G : h.Ns mainGlobals mg) (F : Fun K x x st f fd) (a : PySem.W.nsIn K mainGlobals x = some (some (.ref f))) (b : L2.Binds K fd ps []) (ok : FnOk P w K mg base CX0 k f fd ps sp) : Def P w K mg base k x ps sp := ⟨f, fd, ok, PySem.W.mg_of X G a, F.kp, b⟩
theorem con_mk {K : PySem.W.Frag} {h : Heap} {mg : Str → Option Value} {x : Str} {i : Int} {t : Tok} (X : K.In h) (G : h.Ns mainGlobals mg) (a : PySem.W.nsIn K mainGlobals x = some (some (.int i t))) : Con1 mg x (.int i) := ⟨_, PySem.W.mg_of X G a, ⟨t, rfl⟩⟩
theorem row_mk {K : PySem.W.Frag} {b f : Addr} {n : Int} {t : Tok} {bl : Bool} {od : Option Addr} {m : Nat} {sl : Array (Option Value)} (l : K.lookup b = some ⟨.type "tuple", od, .seq #[.ref f, .int n t, .bool bl] m, sl⟩) : KTup K b [.ref f, .int n, .bl bl] := ⟨_, _, m, l, rfl, rfl, (by show 3 ≤ sizeLine; decide), .cons rfl (.cons ⟨t, rfl⟩ (.cons rfl .nil))⟩
theorem top_mk {K : PySem.W.Frag} {at_ b0 b1 b2 b3 b4 b5 b6 b7 b8 b9 b10 b11 b12 b13 b14 b15 b16 b17 b18 b19 b20 b21 b22 b23 : Addr} {od : Option Addr} {m : Nat} {sl : Array (Option Value)} (l : K.lookup at_ = some ⟨.type "tuple", od, .seq #[.ref b0, .ref b1, .ref b2, .ref b3, .ref b4, .ref b5, .ref b6, .ref b7, .ref b8, .ref b9, .ref b10, .ref b11, .ref b12, .ref b13, .ref b14, .ref b15, .ref b16, .ref b17, .ref b18, .ref b19, .ref b20, .ref b21, .ref b22, .ref b23] m, sl⟩) : KTup K at_ ([b0, b1, b2, b3, b4, b5, b6, b7, b8, b9, b10, b11, b12, b13, b14, b15, b16, b17, b18, b19, b20, b21, b22, b23].map V.ref) := ⟨_, _, m, l, rfl, rfl, (by show 24 ≤ sizeLine; decide), .cons rfl (.cons rfl (.cons rfl (.cons rfl (.cons rfl (.cons rfl (.cons rfl (.cons rfl (.cons rfl (.cons rfl (.cons rfl (.cons rfl (.cons rfl (.cons rfl (.cons rfl (.cons rfl (.cons rfl (.cons rfl (.cons rfl (.cons rfl (.cons rfl (.cons rfl (.cons rfl (.cons rfl (.nil))))))))))))))))))))))))⟩
theorem act_1 {P : Program} {w : World} {K : PySem.W.Frag} {mg : Str → Option Value} {base : Heap} {CL CH f : Addr} {fd : FuncData} {k : Nat} (hk : k ≤ 7) (G : FnOk P w K mg base CX0 k f fd ["house", "told"] (fun vs H Q E => ∃ x y z, spAct CL CH (.lot x y z) [x, y, z] none vs H Q E)) : FnOk P w K mg base CX0 7 f fd ["house", "told"] (spJ CL CH 1) := (G.imp fun vs H Q E ⟨args, row, c, hc, hr, h⟩ => by
  match args, row, hc with
  | [x, y, z], none, hc =>
    cases hc
    exact ⟨x, y, z, h⟩).mono hk
theorem act_2 {P : Program} {w : World} {K : PySem.W.Frag} {mg : Str → Option Value} {base : Heap} {CL CH f : Addr} {fd : FuncData} {k : Nat} (hk : k ≤ 7) (G : FnOk P w K mg base CX0 k f fd ["house", "told"] (fun vs H Q E => ∃ x, spAct CL CH (.drop x) [x] none vs H Q E)) : FnOk P w K mg base CX0 7 f fd ["house", "told"] (spJ CL CH 2) := (G.imp fun vs H Q E ⟨args, row, c, hc, hr, h⟩ => by
  match args, row, hc with
  | [x], none, hc =>
    cases hc
    exact ⟨x, h⟩).mono hk
theorem act_3 {P : Program} {w : World} {K : PySem.W.Frag} {mg : Str → Option Value} {base : Heap} {CL CH f : Addr} {fd : FuncData} {k : Nat} (hk : k ≤ 7) (G : FnOk P w K mg base CX0 k f fd ["house", "told"] (fun vs H Q E => ∃ x y, spAct CL CH (.longer x y) [x, y] none vs H Q E)) : FnOk P w K mg base CX0 7 f fd ["house", "told"] (spJ CL CH 3) := (G.imp fun vs H Q E ⟨args, row, c, hc, hr, h⟩ => by
  match args, row, hc with
  | [x, y], none, hc =>
    cases hc
    exact ⟨x, y, h⟩).mono hk
theorem act_4 {P : Program} {w : World} {K : PySem.W.Frag} {mg : Str → Option Value} {base : Heap} {CL CH f : Addr} {fd : FuncData} {k : Nat} (hk : k ≤ 7) (G : FnOk P w K mg base CX0 k f fd ["house", "told"] (spAct CL CH (.tank) [] none)) : FnOk P w K mg base CX0 7 f fd ["house", "told"] (spJ CL CH 4) := (G.imp fun vs H Q E ⟨args, row, c, hc, hr, h⟩ => by
  match args, row, hc with
  | [], none, hc =>
    cases hc
    exact h).mono hk
theorem act_5 {P : Program} {w : World} {K : PySem.W.Frag} {mg : Str → Option Value} {base : Heap} {CL CH f : Addr} {fd : FuncData} {k : Nat} (hk : k ≤ 7) (G : FnOk P w K mg base CX0 k f fd ["house", "told"] (fun vs H Q E => ∃ x, spAct CL CH (.hours x) [x] none vs H Q E)) : FnOk P w K mg base CX0 7 f fd ["house", "told"] (spJ CL CH 5) := (G.imp fun vs H Q E ⟨args, row, c, hc, hr, h⟩ => by
  match args, row, hc with
  | [x], none, hc =>
    cases hc
    exact ⟨x, h⟩).mono hk
theorem act_6 {P : Program} {w : World} {K : PySem.W.Frag} {mg : Str → Option Value} {base : Heap} {CL CH f : Addr} {fd : FuncData} {k : Nat} (hk : k ≤ 7) (G : FnOk P w K mg base CX0 k f fd ["house", "told"] (spAct CL CH (.fewest) [] none)) : FnOk P w K mg base CX0 7 f fd ["house", "told"] (spJ CL CH 6) := (G.imp fun vs H Q E ⟨args, row, c, hc, hr, h⟩ => by
  match args, row, hc with
  | [], none, hc =>
    cases hc
    exact h).mono hk
theorem act_7 {P : Program} {w : World} {K : PySem.W.Frag} {mg : Str → Option Value} {base : Heap} {CL CH f : Addr} {fd : FuncData} {k : Nat} (hk : k ≤ 7) (G : FnOk P w K mg base CX0 k f fd ["house", "told"] (fun vs H Q E => ∃ (l : List Nat), l.length ≤ 100 ∧ spAct CL CH (.peak l) [] (some l) vs H Q E)) : FnOk P w K mg base CX0 7 f fd ["house", "told"] (spJ CL CH 7) := (G.imp fun vs H Q E ⟨args, row, c, hc, hr, h⟩ => by
  match args, row, hc with
  | [], some l, hc =>
    cases hc
    exact ⟨l, hr l rfl, h⟩).mono hk
theorem act_8 {P : Program} {w : World} {K : PySem.W.Frag} {mg : Str → Option Value} {base : Heap} {CL CH f : Addr} {fd : FuncData} {k : Nat} (hk : k ≤ 7) (G : FnOk P w K mg base CX0 k f fd ["house", "told"] (fun vs H Q E => ∃ x, spAct CL CH (.at_ x) [x] none vs H Q E)) : FnOk P w K mg base CX0 7 f fd ["house", "told"] (spJ CL CH 8) := (G.imp fun vs H Q E ⟨args, row, c, hc, hr, h⟩ => by
  match args, row, hc with
  | [x], none, hc =>
    cases hc
    exact ⟨x, h⟩).mono hk
theorem act_9 {P : Program} {w : World} {K : PySem.W.Frag} {mg : Str → Option Value} {base : Heap} {CL CH f : Addr} {fd : FuncData} {k : Nat} (hk : k ≤ 7) (G : FnOk P w K mg base CX0 k f fd ["house", "told"] (spAct CL CH (.plan) [] none)) : FnOk P w K mg base CX0 7 f fd ["house", "told"] (spJ CL CH 9) := (G.imp fun vs H Q E ⟨args, row, c, hc, hr, h⟩ => by
  match args, row, hc with
  | [], none, hc =>
    cases hc
    exact h).mono hk
theorem act_10 {P : Program} {w : World} {K : PySem.W.Frag} {mg : Str → Option Value} {base : Heap} {CL CH f : Addr} {fd : FuncData} {k : Nat} (hk : k ≤ 7) (G : FnOk P w K mg base CX0 k f fd ["house", "told"] (fun vs H Q E => ∃ x, spAct CL CH (.tankOf x) [x] none vs H Q E)) : FnOk P w K mg base CX0 7 f fd ["house", "told"] (spJ CL CH 10) := (G.imp fun vs H Q E ⟨args, row, c, hc, hr, h⟩ => by
  match args, row, hc with
  | [x], none, hc =>
    cases hc
    exact ⟨x, h⟩).mono hk
theorem act_11 {P : Program} {w : World} {K : PySem.W.Frag} {mg : Str → Option Value} {base : Heap} {CL CH f : Addr} {fd : FuncData} {k : Nat} (hk : k ≤ 7) (G : FnOk P w K mg base CX0 k f fd ["house", "told"] (fun vs H Q E => ∃ x, spAct CL CH (.most x) [x] none vs H Q E)) : FnOk P w K mg base CX0 7 f fd ["house", "told"] (spJ CL CH 11) := (G.imp fun vs H Q E ⟨args, row, c, hc, hr, h⟩ => by
  match args, row, hc with
  | [x], none, hc =>
    cases hc
    exact ⟨x, h⟩).mono hk
theorem act_12 {P : Program} {w : World} {K : PySem.W.Frag} {mg : Str → Option Value} {base : Heap} {CL CH f : Addr} {fd : FuncData} {k : Nat} (hk : k ≤ 7) (G : FnOk P w K mg base CX0 k f fd ["house", "told"] (fun vs H Q E => ∃ (x : Nat) (l : List Nat), l.length ≤ 100 ∧ spAct CL CH (.mostOf x l) [x] (some l) vs H Q E)) : FnOk P w K mg base CX0 7 f fd ["house", "told"] (spJ CL CH 12) := (G.imp fun vs H Q E ⟨args, row, c, hc, hr, h⟩ => by
  match args, row, hc with
  | [x], some l, hc =>
    cases hc
    exact ⟨x, l, hr l rfl, h⟩).mono hk
theorem act_13 {P : Program} {w : World} {K : PySem.W.Frag} {mg : Str → Option Value} {base : Heap} {CL CH f : Addr} {fd : FuncData} {k : Nat} (hk : k ≤ 7) (G : FnOk P w K mg base CX0 k f fd ["house", "told"] (fun vs H Q E => ∃ (l : List Nat), l.length ≤ 100 ∧ spAct CL CH (.together l) [] (some l) vs H Q E)) : FnOk P w K mg base CX0 7 f fd ["house", "told"] (spJ CL CH 13) := (G.imp fun vs H Q E ⟨args, row, c, hc, hr, h⟩ => by
  match args, row, hc with
  | [], some l, hc =>
    cases hc
    exact ⟨l, hr l rfl, h⟩).mono hk
theorem act_14 {P : Program} {w : World} {K : PySem.W.Frag} {mg : Str → Option Value} {base : Heap} {CL CH f : Addr} {fd : FuncData} {k : Nat} (hk : k ≤ 7) (G : FnOk P w K mg base CX0 k f fd ["house", "told"] (fun vs H Q E => ∃ x, spAct CL CH (.meets x) [x] none vs H Q E)) : FnOk P w K mg base CX0 7 f fd ["house", "told"] (spJ CL CH 14) := (G.imp fun vs H Q E ⟨args, row, c, hc, hr, h⟩ => by
  match args, row, hc with
  | [x], none, hc =>
    cases hc
    exact ⟨x, h⟩).mono hk
theorem act_15 {P : Program} {w : World} {K : PySem.W.Frag} {mg : Str → Option Value} {base : Heap} {CL CH f : Addr} {fd : FuncData} {k : Nat} (hk : k ≤ 7) (G : FnOk P w K mg base CX0 k f fd ["house", "told"] (fun vs H Q E => ∃ x y, spAct CL CH (.may x y) [x, y] none vs H Q E)) : FnOk P w K mg base CX0 7 f fd ["house", "told"] (spJ CL CH 15) := (G.imp fun vs H Q E ⟨args, row, c, hc, hr, h⟩ => by
  match args, row, hc with
  | [x, y], none, hc =>
    cases hc
    exact ⟨x, y, h⟩).mono hk
theorem act_16 {P : Program} {w : World} {K : PySem.W.Frag} {mg : Str → Option Value} {base : Heap} {CL CH f : Addr} {fd : FuncData} {k : Nat} (hk : k ≤ 7) (G : FnOk P w K mg base CX0 k f fd ["house", "told"] (fun vs H Q E => ∃ x y, spAct CL CH (.first x y) [x, y] none vs H Q E)) : FnOk P w K mg base CX0 7 f fd ["house", "told"] (spJ CL CH 16) := (G.imp fun vs H Q E ⟨args, row, c, hc, hr, h⟩ => by
  match args, row, hc with
  | [x, y], none, hc =>
    cases hc
    exact ⟨x, y, h⟩).mono hk
theorem act_17 {P : Program} {w : World} {K : PySem.W.Frag} {mg : Str → Option Value} {base : Heap} {CL CH f : Addr} {fd : FuncData} {k : Nat} (hk : k ≤ 7) (G : FnOk P w K mg base CX0 k f fd ["house", "told"] (fun vs H Q E => ∃ x y z, spAct CL CH (.firstWith x y z) [x, y, z] none vs H Q E)) : FnOk P w K mg base CX0 7 f fd ["house", "told"] (spJ CL CH 17) := (G.imp fun vs H Q E ⟨args, row, c, hc, hr, h⟩ => by
  match args, row, hc with
  | [x, y, z], none, hc =>
    cases hc
    exact ⟨x, y, z, h⟩).mono hk
theorem act_18 {P : Program} {w : World} {K : PySem.W.Frag} {mg : Str → Option Value} {base : Heap} {CL CH f : Addr} {fd : FuncData} {k : Nat} (hk : k ≤ 7) (G : FnOk P w K mg base CX0 k f fd ["house", "told"] (spAct CL CH (.ready) [] none)) : FnOk P w K mg base CX0 7 f fd ["house", "told"] (spJ CL CH 18) := (G.imp fun vs H Q E ⟨args, row, c, hc, hr, h⟩ => by
  match args, row, hc with
  | [], none, hc =>
    cases hc
    exact h).mono hk
theorem act_19 {P : Program} {w : World} {K : PySem.W.Frag} {mg : Str → Option Value} {base : Heap} {CL CH f : Addr} {fd : FuncData} {k : Nat} (hk : k ≤ 7) (G : FnOk P w K mg base CX0 k f fd ["house", "told"] (fun vs H Q E => ∃ x, spAct CL CH (.left_ x) [x] none vs H Q E)) : FnOk P w K mg base CX0 7 f fd ["house", "told"] (spJ CL CH 19) := (G.imp fun vs H Q E ⟨args, row, c, hc, hr, h⟩ => by
  match args, row, hc with
  | [x], none, hc =>
    cases hc
    exact ⟨x, h⟩).mono hk
theorem act_20 {P : Program} {w : World} {K : PySem.W.Frag} {mg : Str → Option Value} {base : Heap} {CL CH f : Addr} {fd : FuncData} {k : Nat} (hk : k ≤ 7) (G : FnOk P w K mg base CX0 k f fd ["house", "told"] (spAct CL CH (.busy) [] none)) : FnOk P w K mg base CX0 7 f fd ["house", "told"] (spJ CL CH 20) := (G.imp fun vs H Q E ⟨args, row, c, hc, hr, h⟩ => by
  match args, row, hc with
  | [], none, hc =>
    cases hc
    exact h).mono hk
theorem act_21 {P : Program} {w : World} {K : PySem.W.Frag} {mg : Str → Option Value} {base : Heap} {CL CH f : Addr} {fd : FuncData} {k : Nat} (hk : k ≤ 7) (G : FnOk P w K mg base CX0 k f fd ["house", "told"] (fun vs H Q E => ∃ x, spAct CL CH (.look x) [x] none vs H Q E)) : FnOk P w K mg base CX0 7 f fd ["house", "told"] (spJ CL CH 21) := (G.imp fun vs H Q E ⟨args, row, c, hc, hr, h⟩ => by
  match args, row, hc with
  | [x], none, hc =>
    cases hc
    exact ⟨x, h⟩).mono hk
theorem act_22 {P : Program} {w : World} {K : PySem.W.Frag} {mg : Str → Option Value} {base : Heap} {CL CH f : Addr} {fd : FuncData} {k : Nat} (hk : k ≤ 7) (G : FnOk P w K mg base CX0 k f fd ["house", "told"] (spAct CL CH (.sums) [] none)) : FnOk P w K mg base CX0 7 f fd ["house", "told"] (spJ CL CH 22) := (G.imp fun vs H Q E ⟨args, row, c, hc, hr, h⟩ => by
  match args, row, hc with
  | [], none, hc =>
    cases hc
    exact h).mono hk
theorem act_23 {P : Program} {w : World} {K : PySem.W.Frag} {mg : Str → Option Value} {base : Heap} {CL CH f : Addr} {fd : FuncData} {k : Nat} (hk : k ≤ 7) (G : FnOk P w K mg base CX0 k f fd ["house", "told"] (spAct CL CH (.state) [] none)) : FnOk P w K mg base CX0 7 f fd ["house", "told"] (spJ CL CH 23) := (G.imp fun vs H Q E ⟨args, row, c, hc, hr, h⟩ => by
  match args, row, hc with
  | [], none, hc =>
    cases hc
    exact h).mono hk
theorem all_mk {P : Program} {w : World} {K : PySem.W.Frag} {h : Heap} {mg : Str → Option Value} {fa CL CH : Addr} (X : K.In h) (G : h.Ns mainGlobals mg) (hfa : mg "answers" = some (.ref fa))
    {fLot : Addr} {odLot anLot : Option Addr} {slLot : Array (Option Value)} {ocLot kVLot dcLot pmLot cdLot ctLot : Value}
    {fHouse : Addr} {odHouse anHouse : Option Addr} {slHouse : Array (Option Value)} {ocHouse kVHouse dcHouse pmHouse cdHouse ctHouse : Value}
    {f_numbers_of : Addr} {od_numbers_of an_numbers_of : Option Addr} {sl_numbers_of : Array (Option Value)} {oc_numbers_of kV_numbers_of dc_numbers_of pm_numbers_of cd_numbers_of ct_numbers_of : Value}
    {f_lies_in : Addr} {od_lies_in an_lies_in : Option Addr} {sl_lies_in : Array (Option Value)} {oc_lies_in kV_lies_in dc_lies_in pm_lies_in cd_lies_in ct_lies_in : Value}
    {f_lying : Addr} {od_lying an_lying : Option Addr} {sl_lying : Array (Option Value)} {oc_lying kV_lying dc_lying pm_lying cd_lying ct_lying : Value}
    {f_two_meet : Addr} {od_two_meet an_two_meet : Option Addr} {sl_two_meet : Array (Option Value)} {oc_two_meet kV_two_meet dc_two_meet pm_two_meet cd_two_meet ct_two_meet : Value}
    {f_meeting : Addr} {od_meeting an_meeting : Option Addr} {sl_meeting : Array (Option Value)} {oc_meeting kV_meeting dc_meeting pm_meeting cd_meeting ct_meeting : Value}
    {f_most_at_once : Addr} {od_most_at_once an_most_at_once : Option Addr} {sl_most_at_once : Array (Option Value)} {oc_most_at_once kV_most_at_once dc_most_at_once pm_most_at_once cd_most_at_once ct_most_at_once : Value}
    {f_may_lie : Addr} {od_may_lie an_may_lie : Option Addr} {sl_may_lie : Array (Option Value)} {oc_may_lie kV_may_lie dc_may_lie pm_may_lie cd_may_lie ct_may_lie : Value}
    {f_first_hour : Addr} {od_first_hour an_first_hour : Option Addr} {sl_first_hour : Array (Option Value)} {oc_first_hour kV_first_hour dc_first_hour pm_first_hour cd_first_hour ct_first_hour : Value}
    {f_hours_left : Addr} {od_hours_left an_hours_left : Option Addr} {sl_hours_left : Array (Option Value)} {oc_hours_left kV_hours_left dc_hours_left pm_hours_left cd_hours_left ct_hours_left : Value}
    {f_plan_order : Addr} {od_plan_order an_plan_order : Option Addr} {sl_plan_order : Array (Option Value)} {oc_plan_order kV_plan_order dc_plan_order pm_plan_order cd_plan_order ct_plan_order : Value}
    {f_end_order : Addr} {od_end_order an_end_order : Option Addr} {sl_end_order : Array (Option Value)} {oc_end_order kV_end_order dc_end_order pm_end_order cd_end_order ct_end_order : Value}
    {f_least_free_tank : Addr} {od_least_free_tank an_least_free_tank : Option Addr} {sl_least_free_tank : Array (Option Value)} {oc_least_free_tank kV_least_free_tank dc_least_free_tank pm_least_free_tank cd_least_free_tank ct_least_free_tank : Value}
    {f_plan_of : Addr} {od_plan_of an_plan_of : Option Addr} {sl_plan_of : Array (Option Value)} {oc_plan_of kV_plan_of dc_plan_of pm_plan_of cd_plan_of ct_plan_of : Value}
    {f_taken_by : Addr} {od_taken_by an_taken_by : Option Addr} {sl_taken_by : Array (Option Value)} {oc_taken_by kV_taken_by dc_taken_by pm_taken_by cd_taken_by ct_taken_by : Value}
    {f_all_lots : Addr} {od_all_lots an_all_lots : Option Addr} {sl_all_lots : Array (Option Value)} {oc_all_lots kV_all_lots dc_all_lots pm_all_lots cd_all_lots ct_all_lots : Value}
    {f_has_ended : Addr} {od_has_ended an_has_ended : Option Addr} {sl_has_ended : Array (Option Value)} {oc_has_ended kV_has_ended dc_has_ended pm_has_ended cd_has_ended ct_has_ended : Value}
    {f_within : Addr} {od_within an_within : Option Addr} {sl_within : Array (Option Value)} {oc_within kV_within dc_within pm_within cd_within ct_within : Value}
    {f_is_hour : Addr} {od_is_hour an_is_hour : Option Addr} {sl_is_hour : Array (Option Value)} {oc_is_hour kV_is_hour dc_is_hour pm_is_hour cd_is_hour ct_is_hour : Value}
    {f_is_count_of_hours : Addr} {od_is_count_of_hours an_is_count_of_hours : Option Addr} {sl_is_count_of_hours : Array (Option Value)} {oc_is_count_of_hours kV_is_count_of_hours dc_is_count_of_hours pm_is_count_of_hours cd_is_count_of_hours ct_is_count_of_hours : Value}
    {f_refusal_of_lots : Addr} {od_refusal_of_lots an_refusal_of_lots : Option Addr} {sl_refusal_of_lots : Array (Option Value)} {oc_refusal_of_lots kV_refusal_of_lots dc_refusal_of_lots pm_refusal_of_lots cd_refusal_of_lots ct_refusal_of_lots : Value}
    {f_lots_of : Addr} {od_lots_of an_lots_of : Option Addr} {sl_lots_of : Array (Option Value)} {oc_lots_of kV_lots_of dc_lots_of pm_lots_of cd_lots_of ct_lots_of : Value}
    {f_count_and_these : Addr} {od_count_and_these an_count_and_these : Option Addr} {sl_count_and_these : Array (Option Value)} {oc_count_and_these kV_count_and_these dc_count_and_these pm_count_and_these cd_count_and_these ct_count_and_these : Value}
    {f_answer_begin : Addr} {od_answer_begin an_answer_begin : Option Addr} {sl_answer_begin : Array (Option Value)} {oc_answer_begin kV_answer_begin dc_answer_begin pm_answer_begin cd_answer_begin ct_answer_begin : Value}
    {f_refusal_of_new_lot : Addr} {od_refusal_of_new_lot an_refusal_of_new_lot : Option Addr} {sl_refusal_of_new_lot : Array (Option Value)} {oc_refusal_of_new_lot kV_refusal_of_new_lot dc_refusal_of_new_lot pm_refusal_of_new_lot cd_refusal_of_new_lot ct_refusal_of_new_lot : Value}
    {f_answer_lot : Addr} {od_answer_lot an_answer_lot : Option Addr} {sl_answer_lot : Array (Option Value)} {oc_answer_lot kV_answer_lot dc_answer_lot pm_answer_lot cd_answer_lot ct_answer_lot : Value}
    {f_answer_drop : Addr} {od_answer_drop an_answer_drop : Option Addr} {sl_answer_drop : Array (Option Value)} {oc_answer_drop kV_answer_drop dc_answer_drop pm_answer_drop cd_answer_drop ct_answer_drop : Value}
    {f_answer_longer : Addr} {od_answer_longer an_answer_longer : Option Addr} {sl_answer_longer : Array (Option Value)} {oc_answer_longer kV_answer_longer dc_answer_longer pm_answer_longer cd_answer_longer ct_answer_longer : Value}
    {f_answer_tank : Addr} {od_answer_tank an_answer_tank : Option Addr} {sl_answer_tank : Array (Option Value)} {oc_answer_tank kV_answer_tank dc_answer_tank pm_answer_tank cd_answer_tank ct_answer_tank : Value}
    {f_answer_hours : Addr} {od_answer_hours an_answer_hours : Option Addr} {sl_answer_hours : Array (Option Value)} {oc_answer_hours kV_answer_hours dc_answer_hours pm_answer_hours cd_answer_hours ct_answer_hours : Value}
    {f_answer_fewest : Addr} {od_answer_fewest an_answer_fewest : Option Addr} {sl_answer_fewest : Array (Option Value)} {oc_answer_fewest kV_answer_fewest dc_answer_fewest pm_answer_fewest cd_answer_fewest ct_answer_fewest : Value}
    {f_answer_peak : Addr} {od_answer_peak an_answer_peak : Option Addr} {sl_answer_peak : Array (Option Value)} {oc_answer_peak kV_answer_peak dc_answer_peak pm_answer_peak cd_answer_peak ct_answer_peak : Value}
    {f_answer_at : Addr} {od_answer_at an_answer_at : Option Addr} {sl_answer_at : Array (Option Value)} {oc_answer_at kV_answer_at dc_answer_at pm_answer_at cd_answer_at ct_answer_at : Value}
    {f_answer_plan : Addr} {od_answer_plan an_answer_plan : Option Addr} {sl_answer_plan : Array (Option Value)} {oc_answer_plan kV_answer_plan dc_answer_plan pm_answer_plan cd_answer_plan ct_answer_plan : Value}
    {f_answer_tankof : Addr} {od_answer_tankof an_answer_tankof : Option Addr} {sl_answer_tankof : Array (Option Value)} {oc_answer_tankof kV_answer_tankof dc_answer_tankof pm_answer_tankof cd_answer_tankof ct_answer_tankof : Value}
    {f_answer_most : Addr} {od_answer_most an_answer_most : Option Addr} {sl_answer_most : Array (Option Value)} {oc_answer_most kV_answer_most dc_answer_most pm_answer_most cd_answer_most ct_answer_most : Value}
    {f_answer_mostof : Addr} {od_answer_mostof an_answer_mostof : Option Addr} {sl_answer_mostof : Array (Option Value)} {oc_answer_mostof kV_answer_mostof dc_answer_mostof pm_answer_mostof cd_answer_mostof ct_answer_mostof : Value}
    {f_answer_together : Addr} {od_answer_together an_answer_together : Option Addr} {sl_answer_together : Array (Option Value)} {oc_answer_together kV_answer_together dc_answer_together pm_answer_together cd_answer_together ct_answer_together : Value}
    {f_answer_meets : Addr} {od_answer_meets an_answer_meets : Option Addr} {sl_answer_meets : Array (Option Value)} {oc_answer_meets kV_answer_meets dc_answer_meets pm_answer_meets cd_answer_meets ct_answer_meets : Value}
    {f_answer_may : Addr} {od_answer_may an_answer_may : Option Addr} {sl_answer_may : Array (Option Value)} {oc_answer_may kV_answer_may dc_answer_may pm_answer_may cd_answer_may ct_answer_may : Value}
    {f_answer_first : Addr} {od_answer_first an_answer_first : Option Addr} {sl_answer_first : Array (Option Value)} {oc_answer_first kV_answer_first dc_answer_first pm_answer_first cd_answer_first ct_answer_first : Value}
    {f_answer_firstwith : Addr} {od_answer_firstwith an_answer_firstwith : Option Addr} {sl_answer_firstwith : Array (Option Value)} {oc_answer_firstwith kV_answer_firstwith dc_answer_firstwith pm_answer_firstwith cd_answer_firstwith ct_answer_firstwith : Value}
    {f_answer_ready : Addr} {od_answer_ready an_answer_ready : Option Addr} {sl_answer_ready : Array (Option Value)} {oc_answer_ready kV_answer_ready dc_answer_ready pm_answer_ready cd_answer_ready ct_answer_ready : Value}
    {f_answer_left : Addr} {od_answer_left an_answer_left : Option Addr} {sl_answer_left : Array (Option Value)} {oc_answer_left kV_answer_left dc_answer_left pm_answer_left cd_answer_left ct_answer_left : Value}
    {f_answer_busy : Addr} {od_answer_busy an_answer_busy : Option Addr} {sl_answer_busy : Array (Option Value)} {oc_answer_busy kV_answer_busy dc_answer_busy pm_answer_busy cd_answer_busy ct_answer_busy : Value}
    {f_answer_look : Addr} {od_answer_look an_answer_look : Option Addr} {sl_answer_look : Array (Option Value)} {oc_answer_look kV_answer_look dc_answer_look pm_answer_look cd_answer_look ct_answer_look : Value}
    {f_answer_sums : Addr} {od_answer_sums an_answer_sums : Option Addr} {sl_answer_sums : Array (Option Value)} {oc_answer_sums kV_answer_sums dc_answer_sums pm_answer_sums cd_answer_sums ct_answer_sums : Value}
    {f_answer_state : Addr} {od_answer_state an_answer_state : Option Addr} {sl_answer_state : Array (Option Value)} {oc_answer_state kV_answer_state dc_answer_state pm_answer_state cd_answer_state ct_answer_state : Value}
    {f_end_of_call : Addr} {od_end_of_call an_end_of_call : Option Addr} {sl_end_of_call : Array (Option Value)} {oc_end_of_call kV_end_of_call dc_end_of_call pm_end_of_call cd_end_of_call ct_end_of_call : Value}
    {f_told_to_call : Addr} {od_told_to_call an_told_to_call : Option Addr} {sl_told_to_call : Array (Option Value)} {oc_told_to_call kV_told_to_call dc_told_to_call pm_told_to_call cd_told_to_call ct_told_to_call : Value}
    {f_answer_call : Addr} {od_answer_call an_answer_call : Option Addr} {sl_answer_call : Array (Option Value)} {oc_answer_call kV_answer_call dc_answer_call pm_answer_call cd_answer_call ct_answer_call : Value}
    {f_answers : Addr} {od_answers an_answers : Option Addr} {sl_answers : Array (Option Value)} {oc_answers kV_answers dc_answers pm_answers cd_answers ct_answers : Value}
    {t_NONE_SUCH : Tok}
    {t_NOT_BEGUN : Tok}
    {t_TOO_SHORT : Tok}
    {t_OVER : Tok}
    {t_ENDED : Tok}
    {t_OUT_OF_RANGE : Tok}
    {t_TOO_MANY : Tok}
    {t_NO_TANK : Tok}
    {t_TOO_LATE : Tok}
    {t_MOST_TANKS : Tok}
    {t_MOST_NEED : Tok}
    {t_MOST_LOTS : Tok}
    {t_MOST_LOTS_EVER : Tok}
    {t_MOST_CRATES : Tok}
    {t_LAST_HOUR : Tok}
    {t_MOST_HOURS : Tok}
    {t_BEGIN : Tok}
    {at_ b0 b1 b2 b3 b4 b5 b6 b7 b8 b9 b10 b11 b12 b13 b14 b15 b16 b17 b18 b19 b20 b21 b22 b23 : Addr} {od_at : Option Addr} {m_at : Nat} {sl_at : Array (Option Value)}
    {t_r0 : Tok} {od_r0 : Option Addr} {m_r0 : Nat} {sl_r0 : Array (Option Value)}
    {t_r1 : Tok} {od_r1 : Option Addr} {m_r1 : Nat} {sl_r1 : Array (Option Value)}
    {t_r2 : Tok} {od_r2 : Option Addr} {m_r2 : Nat} {sl_r2 : Array (Option Value)}
    {t_r3 : Tok} {od_r3 : Option Addr} {m_r3 : Nat} {sl_r3 : Array (Option Value)}
    {t_r4 : Tok} {od_r4 : Option Addr} {m_r4 : Nat} {sl_r4 : Array (Option Value)}
    {t_r5 : Tok} {od_r5 : Option Addr} {m_r5 : Nat} {sl_r5 : Array (Option Value)}
    {t_r6 : Tok} {od_r6 : Option Addr} {m_r6 : Nat} {sl_r6 : Array (Option Value)}
    {t_r7 : Tok} {od_r7 : Option Addr} {m_r7 : Nat} {sl_r7 : Array (Option Value)}
    {t_r8 : Tok} {od_r8 : Option Addr} {m_r8 : Nat} {sl_r8 : Array (Option Value)}
    {t_r9 : Tok} {od_r9 : Option Addr} {m_r9 : Nat} {sl_r9 : Array (Option Value)}
    {t_r10 : Tok} {od_r10 : Option Addr} {m_r10 : Nat} {sl_r10 : Array (Option Value)}
    {t_r11 : Tok} {od_r11 : Option Addr} {m_r11 : Nat} {sl_r11 : Array (Option Value)}
    {t_r12 : Tok} {od_r12 : Option Addr} {m_r12 : Nat} {sl_r12 : Array (Option Value)}
    {t_r13 : Tok} {od_r13 : Option Addr} {m_r13 : Nat} {sl_r13 : Array (Option Value)}
    {t_r14 : Tok} {od_r14 : Option Addr} {m_r14 : Nat} {sl_r14 : Array (Option Value)}
    {t_r15 : Tok} {od_r15 : Option Addr} {m_r15 : Nat} {sl_r15 : Array (Option Value)}
    {t_r16 : Tok} {od_r16 : Option Addr} {m_r16 : Nat} {sl_r16 : Array (Option Value)}
    {t_r17 : Tok} {od_r17 : Option Addr} {m_r17 : Nat} {sl_r17 : Array (Option Value)}
    {t_r18 : Tok} {od_r18 : Option Addr} {m_r18 : Nat} {sl_r18 : Array (Option Value)}
    {t_r19 : Tok} {od_r19 : Option Addr} {m_r19 : Nat} {sl_r19 : Array (Option Value)}
    {t_r20 : Tok} {od_r20 : Option Addr} {m_r20 : Nat} {sl_r20 : Array (Option Value)}
    {t_r21 : Tok} {od_r21 : Option Addr} {m_r21 : Nat} {sl_r21 : Array (Option Value)}
    {t_r22 : Tok} {od_r22 : Option Addr} {m_r22 : Nat} {sl_r22 : Array (Option Value)}
    {t_r23 : Tok} {od_r23 : Option Addr} {m_r23 : Nat} {sl_r23 : Array (Option Value)}
    (aLot : PySem.W.nsIn K mainGlobals "Lot" = some (some (.ref CL)))
    (iLot : PySem.W.findIn K (.ref CL) "__init__" = some (some (.ref fLot)))
    (jLot : PySem.W.isFn K (.ref fLot) = true)
    (lLot : K.lookup fLot = some ⟨ocLot, odLot, .func (PySem.W.fnOf "__init__" "Lot.__init__" (defArgs s_Lot_init) (defBody s_Lot_init) (defScope s_Lot_init) .none kVLot dcLot pmLot anLot cdLot ctLot), slLot⟩)
    (cLot : PySem.W.codeIn K cdLot "Lot.__init__" = true)
    (kLot : PySem.W.keepIn K (.ref fLot) = true)
    (pgLot : PySem.W.plainGet K CL Str.empty = true)
    (hdLot : PySem.W.hasDictIn K CL = true)
    (poLot : PySem.W.plainOver K CL = true)
    (saLot : PySem.W.findIn K (.ref CL) "__setattr__" = some (some (.builtin "object.__setattr__")))
    (mkLot : PySem.W.makesIn K CL = true)
    (kcLot : PySem.W.keepIn K (.ref CL) = true)
    (aHouse : PySem.W.nsIn K mainGlobals "House" = some (some (.ref CH)))
    (iHouse : PySem.W.findIn K (.ref CH) "__init__" = some (some (.ref fHouse)))
    (jHouse : PySem.W.isFn K (.ref fHouse) = true)
    (lHouse : K.lookup fHouse = some ⟨ocHouse, odHouse, .func (PySem.W.fnOf "__init__" "House.__init__" (defArgs s_House_init) (defBody s_House_init) (defScope s_House_init) .none kVHouse dcHouse pmHouse anHouse cdHouse ctHouse), slHouse⟩)
    (cHouse : PySem.W.codeIn K cdHouse "House.__init__" = true)
    (kHouse : PySem.W.keepIn K (.ref fHouse) = true)
    (pgHouse : PySem.W.plainGet K CH Str.empty = true)
    (hdHouse : PySem.W.hasDictIn K CH = true)
    (poHouse : PySem.W.plainOver K CH = true)
    (saHouse : PySem.W.findIn K (.ref CH) "__setattr__" = some (some (.builtin "object.__setattr__")))
    (mkHouse : PySem.W.makesIn K CH = true)
    (kcHouse : PySem.W.keepIn K (.ref CH) = true)
    (nLot_number : PySem.W.findIn K (.ref CL) "number" = some none)
    (nLot_begins : PySem.W.findIn K (.ref CL) "begins" = some none)
    (nLot_ends : PySem.W.findIn K (.ref CL) "ends" = some none)
    (nLot_crates : PySem.W.findIn K (.ref CL) "crates" = some none)
    (nHouse_begun : PySem.W.findIn K (.ref CH) "begun" = some none)
    (nHouse_tanks : PySem.W.findIn K (.ref CH) "tanks" = some none)
    (nHouse_need : PySem.W.findIn K (.ref CH) "need" = some none)
    (nHouse_hour : PySem.W.findIn K (.ref CH) "hour" = some none)
    (nHouse_lots_ever : PySem.W.findIn K (.ref CH) "lots_ever" = some none)
    (nHouse_lots : PySem.W.findIn K (.ref CH) "lots" = some none)
    (a_numbers_of : PySem.W.nsIn K mainGlobals "numbers_of" = some (some (.ref f_numbers_of)))
    (l_numbers_of : K.lookup f_numbers_of = some ⟨oc_numbers_of, od_numbers_of, .func (PySem.W.fnOf "numbers_of" "numbers_of" (defArgs s_numbers_of) (defBody s_numbers_of) (defScope s_numbers_of) .none kV_numbers_of dc_numbers_of pm_numbers_of an_numbers_of cd_numbers_of ct_numbers_of), sl_numbers_of⟩)
    (c_numbers_of : PySem.W.codeIn K cd_numbers_of "numbers_of" = true)
    (k_numbers_of : PySem.W.keepIn K (.ref f_numbers_of) = true)
    (a_lies_in : PySem.W.nsIn K mainGlobals "lies_in" = some (some (.ref f_lies_in)))
    (l_lies_in : K.lookup f_lies_in = some ⟨oc_lies_in, od_lies_in, .func (PySem.W.fnOf "lies_in" "lies_in" (defArgs s_lies_in) (defBody s_lies_in) (defScope s_lies_in) .none kV_lies_in dc_lies_in pm_lies_in an_lies_in cd_lies_in ct_lies_in), sl_lies_in⟩)
    (c_lies_in : PySem.W.codeIn K cd_lies_in "lies_in" = true)
    (k_lies_in : PySem.W.keepIn K (.ref f_lies_in) = true)
    (a_lying : PySem.W.nsIn K mainGlobals "lying" = some (some (.ref f_lying)))
    (l_lying : K.lookup f_lying = some ⟨oc_lying, od_lying, .func (PySem.W.fnOf "lying" "lying" (defArgs s_lying) (defBody s_lying) (defScope s_lying) .none kV_lying dc_lying pm_lying an_lying cd_lying ct_lying), sl_lying⟩)
    (c_lying : PySem.W.codeIn K cd_lying "lying" = true)
    (k_lying : PySem.W.keepIn K (.ref f_lying) = true)
    (a_two_meet : PySem.W.nsIn K mainGlobals "two_meet" = some (some (.ref f_two_meet)))
    (l_two_meet : K.lookup f_two_meet = some ⟨oc_two_meet, od_two_meet, .func (PySem.W.fnOf "two_meet" "two_meet" (defArgs s_two_meet) (defBody s_two_meet) (defScope s_two_meet) .none kV_two_meet dc_two_meet pm_two_meet an_two_meet cd_two_meet ct_two_meet), sl_two_meet⟩)
    (c_two_meet : PySem.W.codeIn K cd_two_meet "two_meet" = true)
    (k_two_meet : PySem.W.keepIn K (.ref f_two_meet) = true)
    (a_meeting : PySem.W.nsIn K mainGlobals "meeting" = some (some (.ref f_meeting)))
    (l_meeting : K.lookup f_meeting = some ⟨oc_meeting, od_meeting, .func (PySem.W.fnOf "meeting" "meeting" (defArgs s_meeting) (defBody s_meeting) (defScope s_meeting) .none kV_meeting dc_meeting pm_meeting an_meeting cd_meeting ct_meeting), sl_meeting⟩)
    (c_meeting : PySem.W.codeIn K cd_meeting "meeting" = true)
    (k_meeting : PySem.W.keepIn K (.ref f_meeting) = true)
    (a_most_at_once : PySem.W.nsIn K mainGlobals "most_at_once" = some (some (.ref f_most_at_once)))
    (l_most_at_once : K.lookup f_most_at_once = some ⟨oc_most_at_once, od_most_at_once, .func (PySem.W.fnOf "most_at_once" "most_at_once" (defArgs s_most_at_once) (defBody s_most_at_once) (defScope s_most_at_once) .none kV_most_at_once dc_most_at_once pm_most_at_once an_most_at_once cd_most_at_once ct_most_at_once), sl_most_at_once⟩)
    (c_most_at_once : PySem.W.codeIn K cd_most_at_once "most_at_once" = true)
    (k_most_at_once : PySem.W.keepIn K (.ref f_most_at_once) = true)
    (a_may_lie : PySem.W.nsIn K mainGlobals "may_lie" = some (some (.ref f_may_lie)))
    (l_may_lie : K.lookup f_may_lie = some ⟨oc_may_lie, od_may_lie, .func (PySem.W.fnOf "may_lie" "may_lie" (defArgs s_may_lie) (defBody s_may_lie) (defScope s_may_lie) .none kV_may_lie dc_may_lie pm_may_lie an_may_lie cd_may_lie ct_may_lie), sl_may_lie⟩)
    (c_may_lie : PySem.W.codeIn K cd_may_lie "may_lie" = true)
    (k_may_lie : PySem.W.keepIn K (.ref f_may_lie) = true)
    (a_first_hour : PySem.W.nsIn K mainGlobals "first_hour" = some (some (.ref f_first_hour)))
    (l_first_hour : K.lookup f_first_hour = some ⟨oc_first_hour, od_first_hour, .func (PySem.W.fnOf "first_hour" "first_hour" (defArgs s_first_hour) (defBody s_first_hour) (defScope s_first_hour) .none kV_first_hour dc_first_hour pm_first_hour an_first_hour cd_first_hour ct_first_hour), sl_first_hour⟩)
    (c_first_hour : PySem.W.codeIn K cd_first_hour "first_hour" = true)
    (k_first_hour : PySem.W.keepIn K (.ref f_first_hour) = true)
    (a_hours_left : PySem.W.nsIn K mainGlobals "hours_left" = some (some (.ref f_hours_left)))
    (l_hours_left : K.lookup f_hours_left = some ⟨oc_hours_left, od_hours_left, .func (PySem.W.fnOf "hours_left" "hours_left" (defArgs s_hours_left) (defBody s_hours_left) (defScope s_hours_left) .none kV_hours_left dc_hours_left pm_hours_left an_hours_left cd_hours_left ct_hours_left), sl_hours_left⟩)
    (c_hours_left : PySem.W.codeIn K cd_hours_left "hours_left" = true)
    (k_hours_left : PySem.W.keepIn K (.ref f_hours_left) = true)
    (a_plan_order : PySem.W.nsIn K mainGlobals "plan_order" = some (some (.ref f_plan_order)))
    (l_plan_order : K.lookup f_plan_order = some ⟨oc_plan_order, od_plan_order, .func (PySem.W.fnOf "plan_order" "plan_order" (defArgs s_plan_order) (defBody s_plan_order) (defScope s_plan_order) .none kV_plan_order dc_plan_order pm_plan_order an_plan_order cd_plan_order ct_plan_order), sl_plan_order⟩)
    (c_plan_order : PySem.W.codeIn K cd_plan_order "plan_order" = true)
    (k_plan_order : PySem.W.keepIn K (.ref f_plan_order) = true)
    (a_end_order : PySem.W.nsIn K mainGlobals "end_order" = some (some (.ref f_end_order)))
    (l_end_order : K.lookup f_end_order = some ⟨oc_end_order, od_end_order, .func (PySem.W.fnOf "end_order" "end_order" (defArgs s_end_order) (defBody s_end_order) (defScope s_end_order) .none kV_end_order dc_end_order pm_end_order an_end_order cd_end_order ct_end_order), sl_end_order⟩)
    (c_end_order : PySem.W.codeIn K cd_end_order "end_order" = true)
    (k_end_order : PySem.W.keepIn K (.ref f_end_order) = true)
    (a_least_free_tank : PySem.W.nsIn K mainGlobals "least_free_tank" = some (some (.ref f_least_free_tank)))
    (l_least_free_tank : K.lookup f_least_free_tank = some ⟨oc_least_free_tank, od_least_free_tank, .func (PySem.W.fnOf "least_free_tank" "least_free_tank" (defArgs s_least_free_tank) (defBody s_least_free_tank) (defScope s_least_free_tank) .none kV_least_free_tank dc_least_free_tank pm_least_free_tank an_least_free_tank cd_least_free_tank ct_least_free_tank), sl_least_free_tank⟩)
    (c_least_free_tank : PySem.W.codeIn K cd_least_free_tank "least_free_tank" = true)
    (k_least_free_tank : PySem.W.keepIn K (.ref f_least_free_tank) = true)
    (a_plan_of : PySem.W.nsIn K mainGlobals "plan_of" = some (some (.ref f_plan_of)))
    (l_plan_of : K.lookup f_plan_of = some ⟨oc_plan_of, od_plan_of, .func (PySem.W.fnOf "plan_of" "plan_of" (defArgs s_plan_of) (defBody s_plan_of) (defScope s_plan_of) .none kV_plan_of dc_plan_of pm_plan_of an_plan_of cd_plan_of ct_plan_of), sl_plan_of⟩)
    (c_plan_of : PySem.W.codeIn K cd_plan_of "plan_of" = true)
    (k_plan_of : PySem.W.keepIn K (.ref f_plan_of) = true)
    (a_taken_by : PySem.W.nsIn K mainGlobals "taken_by" = some (some (.ref f_taken_by)))
    (l_taken_by : K.lookup f_taken_by = some ⟨oc_taken_by, od_taken_by, .func (PySem.W.fnOf "taken_by" "taken_by" (defArgs s_taken_by) (defBody s_taken_by) (defScope s_taken_by) .none kV_taken_by dc_taken_by pm_taken_by an_taken_by cd_taken_by ct_taken_by), sl_taken_by⟩)
    (c_taken_by : PySem.W.codeIn K cd_taken_by "taken_by" = true)
    (k_taken_by : PySem.W.keepIn K (.ref f_taken_by) = true)
    (a_all_lots : PySem.W.nsIn K mainGlobals "all_lots" = some (some (.ref f_all_lots)))
    (l_all_lots : K.lookup f_all_lots = some ⟨oc_all_lots, od_all_lots, .func (PySem.W.fnOf "all_lots" "all_lots" (defArgs s_all_lots) (defBody s_all_lots) (defScope s_all_lots) .none kV_all_lots dc_all_lots pm_all_lots an_all_lots cd_all_lots ct_all_lots), sl_all_lots⟩)
    (c_all_lots : PySem.W.codeIn K cd_all_lots "all_lots" = true)
    (k_all_lots : PySem.W.keepIn K (.ref f_all_lots) = true)
    (a_has_ended : PySem.W.nsIn K mainGlobals "has_ended" = some (some (.ref f_has_ended)))
    (l_has_ended : K.lookup f_has_ended = some ⟨oc_has_ended, od_has_ended, .func (PySem.W.fnOf "has_ended" "has_ended" (defArgs s_has_ended) (defBody s_has_ended) (defScope s_has_ended) .none kV_has_ended dc_has_ended pm_has_ended an_has_ended cd_has_ended ct_has_ended), sl_has_ended⟩)
    (c_has_ended : PySem.W.codeIn K cd_has_ended "has_ended" = true)
    (k_has_ended : PySem.W.keepIn K (.ref f_has_ended) = true)
    (a_within : PySem.W.nsIn K mainGlobals "within" = some (some (.ref f_within)))
    (l_within : K.lookup f_within = some ⟨oc_within, od_within, .func (PySem.W.fnOf "within" "within" (defArgs s_within) (defBody s_within) (defScope s_within) .none kV_within dc_within pm_within an_within cd_within ct_within), sl_within⟩)
    (c_within : PySem.W.codeIn K cd_within "within" = true)
    (k_within : PySem.W.keepIn K (.ref f_within) = true)
    (a_is_hour : PySem.W.nsIn K mainGlobals "is_hour" = some (some (.ref f_is_hour)))
    (l_is_hour : K.lookup f_is_hour = some ⟨oc_is_hour, od_is_hour, .func (PySem.W.fnOf "is_hour" "is_hour" (defArgs s_is_hour) (defBody s_is_hour) (defScope s_is_hour) .none kV_is_hour dc_is_hour pm_is_hour an_is_hour cd_is_hour ct_is_hour), sl_is_hour⟩)
    (c_is_hour : PySem.W.codeIn K cd_is_hour "is_hour" = true)
    (k_is_hour : PySem.W.keepIn K (.ref f_is_hour) = true)
    (a_is_count_of_hours : PySem.W.nsIn K mainGlobals "is_count_of_hours" = some (some (.ref f_is_count_of_hours)))
    (l_is_count_of_hours : K.lookup f_is_count_of_hours = some ⟨oc_is_count_of_hours, od_is_count_of_hours, .func (PySem.W.fnOf "is_count_of_hours" "is_count_of_hours" (defArgs s_is_count_of_hours) (defBody s_is_count_of_hours) (defScope s_is_count_of_hours) .none kV_is_count_of_hours dc_is_count_of_hours pm_is_count_of_hours an_is_count_of_hours cd_is_count_of_hours ct_is_count_of_hours), sl_is_count_of_hours⟩)
    (c_is_count_of_hours : PySem.W.codeIn K cd_is_count_of_hours "is_count_of_hours" = true)
    (k_is_count_of_hours : PySem.W.keepIn K (.ref f_is_count_of_hours) = true)
    (a_refusal_of_lots : PySem.W.nsIn K mainGlobals "refusal_of_lots" = some (some (.ref f_refusal_of_lots)))
    (l_refusal_of_lots : K.lookup f_refusal_of_lots = some ⟨oc_refusal_of_lots, od_refusal_of_lots, .func (PySem.W.fnOf "refusal_of_lots" "refusal_of_lots" (defArgs s_refusal_of_lots) (defBody s_refusal_of_lots) (defScope s_refusal_of_lots) .none kV_refusal_of_lots dc_refusal_of_lots pm_refusal_of_lots an_refusal_of_lots cd_refusal_of_lots ct_refusal_of_lots), sl_refusal_of_lots⟩)
    (c_refusal_of_lots : PySem.W.codeIn K cd_refusal_of_lots "refusal_of_lots" = true)
    (k_refusal_of_lots : PySem.W.keepIn K (.ref f_refusal_of_lots) = true)
    (a_lots_of : PySem.W.nsIn K mainGlobals "lots_of" = some (some (.ref f_lots_of)))
    (l_lots_of : K.lookup f_lots_of = some ⟨oc_lots_of, od_lots_of, .func (PySem.W.fnOf "lots_of" "lots_of" (defArgs s_lots_of) (defBody s_lots_of) (defScope s_lots_of) .none kV_lots_of dc_lots_of pm_lots_of an_lots_of cd_lots_of ct_lots_of), sl_lots_of⟩)
    (c_lots_of : PySem.W.codeIn K cd_lots_of "lots_of" = true)
    (k_lots_of : PySem.W.keepIn K (.ref f_lots_of) = true)
    (a_count_and_these : PySem.W.nsIn K mainGlobals "count_and_these" = some (some (.ref f_count_and_these)))
    (l_count_and_these : K.lookup f_count_and_these = some ⟨oc_count_and_these, od_count_and_these, .func (PySem.W.fnOf "count_and_these" "count_and_these" (defArgs s_count_and_these) (defBody s_count_and_these) (defScope s_count_and_these) .none kV_count_and_these dc_count_and_these pm_count_and_these an_count_and_these cd_count_and_these ct_count_and_these), sl_count_and_these⟩)
    (c_count_and_these : PySem.W.codeIn K cd_count_and_these "count_and_these" = true)
    (k_count_and_these : PySem.W.keepIn K (.ref f_count_and_these) = true)
    (a_answer_begin : PySem.W.nsIn K mainGlobals "answer_begin" = some (some (.ref f_answer_begin)))
    (l_answer_begin : K.lookup f_answer_begin = some ⟨oc_answer_begin, od_answer_begin, .func (PySem.W.fnOf "answer_begin" "answer_begin" (defArgs s_answer_begin) (defBody s_answer_begin) (defScope s_answer_begin) .none kV_answer_begin dc_answer_begin pm_answer_begin an_answer_begin cd_answer_begin ct_answer_begin), sl_answer_begin⟩)
    (c_answer_begin : PySem.W.codeIn K cd_answer_begin "answer_begin" = true)
    (k_answer_begin : PySem.W.keepIn K (.ref f_answer_begin) = true)
    (a_refusal_of_new_lot : PySem.W.nsIn K mainGlobals "refusal_of_new_lot" = some (some (.ref f_refusal_of_new_lot)))
    (l_refusal_of_new_lot : K.lookup f_refusal_of_new_lot = some ⟨oc_refusal_of_new_lot, od_refusal_of_new_lot, .func (PySem.W.fnOf "refusal_of_new_lot" "refusal_of_new_lot" (defArgs s_refusal_of_new_lot) (defBody s_refusal_of_new_lot) (defScope s_refusal_of_new_lot) .none kV_refusal_of_new_lot dc_refusal_of_new_lot pm_refusal_of_new_lot an_refusal_of_new_lot cd_refusal_of_new_lot ct_refusal_of_new_lot), sl_refusal_of_new_lot⟩)
    (c_refusal_of_new_lot : PySem.W.codeIn K cd_refusal_of_new_lot "refusal_of_new_lot" = true)
    (k_refusal_of_new_lot : PySem.W.keepIn K (.ref f_refusal_of_new_lot) = true)
    (a_answer_lot : PySem.W.nsIn K mainGlobals "answer_lot" = some (some (.ref f_answer_lot)))
    (l_answer_lot : K.lookup f_answer_lot = some ⟨oc_answer_lot, od_answer_lot, .func (PySem.W.fnOf "answer_lot" "answer_lot" (defArgs s_answer_lot) (defBody s_answer_lot) (defScope s_answer_lot) .none kV_answer_lot dc_answer_lot pm_answer_lot an_answer_lot cd_answer_lot ct_answer_lot), sl_answer_lot⟩)
    (c_answer_lot : PySem.W.codeIn K cd_answer_lot "answer_lot" = true)
    (k_answer_lot : PySem.W.keepIn K (.ref f_answer_lot) = true)
    (a_answer_drop : PySem.W.nsIn K mainGlobals "answer_drop" = some (some (.ref f_answer_drop)))
    (l_answer_drop : K.lookup f_answer_drop = some ⟨oc_answer_drop, od_answer_drop, .func (PySem.W.fnOf "answer_drop" "answer_drop" (defArgs s_answer_drop) (defBody s_answer_drop) (defScope s_answer_drop) .none kV_answer_drop dc_answer_drop pm_answer_drop an_answer_drop cd_answer_drop ct_answer_drop), sl_answer_drop⟩)
    (c_answer_drop : PySem.W.codeIn K cd_answer_drop "answer_drop" = true)
    (k_answer_drop : PySem.W.keepIn K (.ref f_answer_drop) = true)
    (a_answer_longer : PySem.W.nsIn K mainGlobals "answer_longer" = some (some (.ref f_answer_longer)))
    (l_answer_longer : K.lookup f_answer_longer = some ⟨oc_answer_longer, od_answer_longer, .func (PySem.W.fnOf "answer_longer" "answer_longer" (defArgs s_answer_longer) (defBody s_answer_longer) (defScope s_answer_longer) .none kV_answer_longer dc_answer_longer pm_answer_longer an_answer_longer cd_answer_longer ct_answer_longer), sl_answer_longer⟩)
    (c_answer_longer : PySem.W.codeIn K cd_answer_longer "answer_longer" = true)
    (k_answer_longer : PySem.W.keepIn K (.ref f_answer_longer) = true)
    (a_answer_tank : PySem.W.nsIn K mainGlobals "answer_tank" = some (some (.ref f_answer_tank)))
    (l_answer_tank : K.lookup f_answer_tank = some ⟨oc_answer_tank, od_answer_tank, .func (PySem.W.fnOf "answer_tank" "answer_tank" (defArgs s_answer_tank) (defBody s_answer_tank) (defScope s_answer_tank) .none kV_answer_tank dc_answer_tank pm_answer_tank an_answer_tank cd_answer_tank ct_answer_tank), sl_answer_tank⟩)
    (c_answer_tank : PySem.W.codeIn K cd_answer_tank "answer_tank" = true)
    (k_answer_tank : PySem.W.keepIn K (.ref f_answer_tank) = true)
    (a_answer_hours : PySem.W.nsIn K mainGlobals "answer_hours" = some (some (.ref f_answer_hours)))
    (l_answer_hours : K.lookup f_answer_hours = some ⟨oc_answer_hours, od_answer_hours, .func (PySem.W.fnOf "answer_hours" "answer_hours" (defArgs s_answer_hours) (defBody s_answer_hours) (defScope s_answer_hours) .none kV_answer_hours dc_answer_hours pm_answer_hours an_answer_hours cd_answer_hours ct_answer_hours), sl_answer_hours⟩)
    (c_answer_hours : PySem.W.codeIn K cd_answer_hours "answer_hours" = true)
    (k_answer_hours : PySem.W.keepIn K (.ref f_answer_hours) = true)
    (a_answer_fewest : PySem.W.nsIn K mainGlobals "answer_fewest" = some (some (.ref f_answer_fewest)))
    (l_answer_fewest : K.lookup f_answer_fewest = some ⟨oc_answer_fewest, od_answer_fewest, .func (PySem.W.fnOf "answer_fewest" "answer_fewest" (defArgs s_answer_fewest) (defBody s_answer_fewest) (defScope s_answer_fewest) .none kV_answer_fewest dc_answer_fewest pm_answer_fewest an_answer_fewest cd_answer_fewest ct_answer_fewest), sl_answer_fewest⟩)
    (c_answer_fewest : PySem.W.codeIn K cd_answer_fewest "answer_fewest" = true)
    (k_answer_fewest : PySem.W.keepIn K (.ref f_answer_fewest) = true)
    (a_answer_peak : PySem.W.nsIn K mainGlobals "answer_peak" = some (some (.ref f_answer_peak)))
    (l_answer_peak : K.lookup f_answer_peak = some ⟨oc_answer_peak, od_answer_peak, .func (PySem.W.fnOf "answer_peak" "answer_peak" (defArgs s_answer_peak) (defBody s_answer_peak) (defScope s_answer_peak) .none kV_answer_peak dc_answer_peak pm_answer_peak an_answer_peak cd_answer_peak ct_answer_peak), sl_answer_peak⟩)
    (c_answer_peak : PySem.W.codeIn K cd_answer_peak "answer_peak" = true)
    (k_answer_peak : PySem.W.keepIn K (.ref f_answer_peak) = true)
    (a_answer_at : PySem.W.nsIn K mainGlobals "answer_at" = some (some (.ref f_answer_at)))
    (l_answer_at : K.lookup f_answer_at = some ⟨oc_answer_at, od_answer_at, .func (PySem.W.fnOf "answer_at" "answer_at" (defArgs s_answer_at) (defBody s_answer_at) (defScope s_answer_at) .none kV_answer_at dc_answer_at pm_answer_at an_answer_at cd_answer_at ct_answer_at), sl_answer_at⟩)
    (c_answer_at : PySem.W.codeIn K cd_answer_at "answer_at" = true)
    (k_answer_at : PySem.W.keepIn K (.ref f_answer_at) = true)
    (a_answer_plan : PySem.W.nsIn K mainGlobals "answer_plan" = some (some (.ref f_answer_plan)))
    (l_answer_plan : K.lookup f_answer_plan = some ⟨oc_answer_plan, od_answer_plan, .func (PySem.W.fnOf "answer_plan" "answer_plan" (defArgs s_answer_plan) (defBody s_answer_plan) (defScope s_answer_plan) .none kV_answer_plan dc_answer_plan pm_answer_plan an_answer_plan cd_answer_plan ct_answer_plan), sl_answer_plan⟩)
    (c_answer_plan : PySem.W.codeIn K cd_answer_plan "answer_plan" = true)
    (k_answer_plan : PySem.W.keepIn K (.ref f_answer_plan) = true)
    (a_answer_tankof : PySem.W.nsIn K mainGlobals "answer_tankof" = some (some (.ref f_answer_tankof)))
    (l_answer_tankof : K.lookup f_answer_tankof = some ⟨oc_answer_tankof, od_answer_tankof, .func (PySem.W.fnOf "answer_tankof" "answer_tankof" (defArgs s_answer_tankof) (defBody s_answer_tankof) (defScope s_answer_tankof) .none kV_answer_tankof dc_answer_tankof pm_answer_tankof an_answer_tankof cd_answer_tankof ct_answer_tankof), sl_answer_tankof⟩)
    (c_answer_tankof : PySem.W.codeIn K cd_answer_tankof "answer_tankof" = true)
    (k_answer_tankof : PySem.W.keepIn K (.ref f_answer_tankof) = true)
    (a_answer_most : PySem.W.nsIn K mainGlobals "answer_most" = some (some (.ref f_answer_most)))
    (l_answer_most : K.lookup f_answer_most = some ⟨oc_answer_most, od_answer_most, .func (PySem.W.fnOf "answer_most" "answer_most" (defArgs s_answer_most) (defBody s_answer_most) (defScope s_answer_most) .none kV_answer_most dc_answer_most pm_answer_most an_answer_most cd_answer_most ct_answer_most), sl_answer_most⟩)
    (c_answer_most : PySem.W.codeIn K cd_answer_most "answer_most" = true)
    (k_answer_most : PySem.W.keepIn K (.ref f_answer_most) = true)
    (a_answer_mostof : PySem.W.nsIn K mainGlobals "answer_mostof" = some (some (.ref f_answer_mostof)))
    (l_answer_mostof : K.lookup f_answer_mostof = some ⟨oc_answer_mostof, od_answer_mostof, .func (PySem.W.fnOf "answer_mostof" "answer_mostof" (defArgs s_answer_mostof) (defBody s_answer_mostof) (defScope s_answer_mostof) .none kV_answer_mostof dc_answer_mostof pm_answer_mostof an_answer_mostof cd_answer_mostof ct_answer_mostof), sl_answer_mostof⟩)
    (c_answer_mostof : PySem.W.codeIn K cd_answer_mostof "answer_mostof" = true)
    (k_answer_mostof : PySem.W.keepIn K (.ref f_answer_mostof) = true)
    (a_answer_together : PySem.W.nsIn K mainGlobals "answer_together" = some (some (.ref f_answer_together)))
    (l_answer_together : K.lookup f_answer_together = some ⟨oc_answer_together, od_answer_together, .func (PySem.W.fnOf "answer_together" "answer_together" (defArgs s_answer_together) (defBody s_answer_together) (defScope s_answer_together) .none kV_answer_together dc_answer_together pm_answer_together an_answer_together cd_answer_together ct_answer_together), sl_answer_together⟩)
    (c_answer_together : PySem.W.codeIn K cd_answer_together "answer_together" = true)
    (k_answer_together : PySem.W.keepIn K (.ref f_answer_together) = true)
    (a_answer_meets : PySem.W.nsIn K mainGlobals "answer_meets" = some (some (.ref f_answer_meets)))
    (l_answer_meets : K.lookup f_answer_meets = some ⟨oc_answer_meets, od_answer_meets, .func (PySem.W.fnOf "answer_meets" "answer_meets" (defArgs s_answer_meets) (defBody s_answer_meets) (defScope s_answer_meets) .none kV_answer_meets dc_answer_meets pm_answer_meets an_answer_meets cd_answer_meets ct_answer_meets), sl_answer_meets⟩)
    (c_answer_meets : PySem.W.codeIn K cd_answer_meets "answer_meets" = true)
    (k_answer_meets : PySem.W.keepIn K (.ref f_answer_meets) = true)
    (a_answer_may : PySem.W.nsIn K mainGlobals "answer_may" = some (some (.ref f_answer_may)))
    (l_answer_may : K.lookup f_answer_may = some ⟨oc_answer_may, od_answer_may, .func (PySem.W.fnOf "answer_may" "answer_may" (defArgs s_answer_may) (defBody s_answer_may) (defScope s_answer_may) .none kV_answer_may dc_answer_may pm_answer_may an_answer_may cd_answer_may ct_answer_may), sl_answer_may⟩)
    (c_answer_may : PySem.W.codeIn K cd_answer_may "answer_may" = true)
    (k_answer_may : PySem.W.keepIn K (.ref f_answer_may) = true)
    (a_answer_first : PySem.W.nsIn K mainGlobals "answer_first" = some (some (.ref f_answer_first)))
    (l_answer_first : K.lookup f_answer_first = some ⟨oc_answer_first, od_answer_first, .func (PySem.W.fnOf "answer_first" "answer_first" (defArgs s_answer_first) (defBody s_answer_first) (defScope s_answer_first) .none kV_answer_first dc_answer_first pm_answer_first an_answer_first cd_answer_first ct_answer_first), sl_answer_first⟩)
    (c_answer_first : PySem.W.codeIn K cd_answer_first "answer_first" = true)
    (k_answer_first : PySem.W.keepIn K (.ref f_answer_first) = true)
    (a_answer_firstwith : PySem.W.nsIn K mainGlobals "answer_firstwith" = some (some (.ref f_answer_firstwith)))
    (l_answer_firstwith : K.lookup f_answer_firstwith = some ⟨oc_answer_firstwith, od_answer_firstwith, .func (PySem.W.fnOf "answer_firstwith" "answer_firstwith" (defArgs s_answer_firstwith) (defBody s_answer_firstwith) (defScope s_answer_firstwith) .none kV_answer_firstwith dc_answer_firstwith pm_answer_firstwith an_answer_firstwith cd_answer_firstwith ct_answer_firstwith), sl_answer_firstwith⟩)
    (c_answer_firstwith : PySem.W.codeIn K cd_answer_firstwith "answer_firstwith" = true)
    (k_answer_firstwith : PySem.W.keepIn K (.ref f_answer_firstwith) = true)
    (a_answer_ready : PySem.W.nsIn K mainGlobals "answer_ready" = some (some (.ref f_answer_ready)))
    (l_answer_ready : K.lookup f_answer_ready = some ⟨oc_answer_ready, od_answer_ready, .func (PySem.W.fnOf "answer_ready" "answer_ready" (defArgs s_answer_ready) (defBody s_answer_ready) (defScope s_answer_ready) .none kV_answer_ready dc_answer_ready pm_answer_ready an_answer_ready cd_answer_ready ct_answer_ready), sl_answer_ready⟩)
    (c_answer_ready : PySem.W.codeIn K cd_answer_ready "answer_ready" = true)
    (k_answer_ready : PySem.W.keepIn K (.ref f_answer_ready) = true)
    (a_answer_left : PySem.W.nsIn K mainGlobals "answer_left" = some (some (.ref f_answer_left)))
    (l_answer_left : K.lookup f_answer_left = some ⟨oc_answer_left, od_answer_left, .func (PySem.W.fnOf "answer_left" "answer_left" (defArgs s_answer_left) (defBody s_answer_left) (defScope s_answer_left) .none kV_answer_left dc_answer_left pm_answer_left an_answer_left cd_answer_left ct_answer_left), sl_answer_left⟩)
    (c_answer_left : PySem.W.codeIn K cd_answer_left "answer_left" = true)
    (k_answer_left : PySem.W.keepIn K (.ref f_answer_left) = true)
    (a_answer_busy : PySem.W.nsIn K mainGlobals "answer_busy" = some (some (.ref f_answer_busy)))
    (l_answer_busy : K.lookup f_answer_busy = some ⟨oc_answer_busy, od_answer_busy, .func (PySem.W.fnOf "answer_busy" "answer_busy" (defArgs s_answer_busy) (defBody s_answer_busy) (defScope s_answer_busy) .none kV_answer_busy dc_answer_busy pm_answer_busy an_answer_busy cd_answer_busy ct_answer_busy), sl_answer_busy⟩)
    (c_answer_busy : PySem.W.codeIn K cd_answer_busy "answer_busy" = true)
    (k_answer_busy : PySem.W.keepIn K (.ref f_answer_busy) = true)
    (a_answer_look : PySem.W.nsIn K mainGlobals "answer_look" = some (some (.ref f_answer_look)))
    (l_answer_look : K.lookup f_answer_look = some ⟨oc_answer_look, od_answer_look, .func (PySem.W.fnOf "answer_look" "answer_look" (defArgs s_answer_look) (defBody s_answer_look) (defScope s_answer_look) .none kV_answer_look dc_answer_look pm_answer_look an_answer_look cd_answer_look ct_answer_look), sl_answer_look⟩)
    (c_answer_look : PySem.W.codeIn K cd_answer_look "answer_look" = true)
    (k_answer_look : PySem.W.keepIn K (.ref f_answer_look) = true)
    (a_answer_sums : PySem.W.nsIn K mainGlobals "answer_sums" = some (some (.ref f_answer_sums)))
    (l_answer_sums : K.lookup f_answer_sums = some ⟨oc_answer_sums, od_answer_sums, .func (PySem.W.fnOf "answer_sums" "answer_sums" (defArgs s_answer_sums) (defBody s_answer_sums) (defScope s_answer_sums) .none kV_answer_sums dc_answer_sums pm_answer_sums an_answer_sums cd_answer_sums ct_answer_sums), sl_answer_sums⟩)
    (c_answer_sums : PySem.W.codeIn K cd_answer_sums "answer_sums" = true)
    (k_answer_sums : PySem.W.keepIn K (.ref f_answer_sums) = true)
    (a_answer_state : PySem.W.nsIn K mainGlobals "answer_state" = some (some (.ref f_answer_state)))
    (l_answer_state : K.lookup f_answer_state = some ⟨oc_answer_state, od_answer_state, .func (PySem.W.fnOf "answer_state" "answer_state" (defArgs s_answer_state) (defBody s_answer_state) (defScope s_answer_state) .none kV_answer_state dc_answer_state pm_answer_state an_answer_state cd_answer_state ct_answer_state), sl_answer_state⟩)
    (c_answer_state : PySem.W.codeIn K cd_answer_state "answer_state" = true)
    (k_answer_state : PySem.W.keepIn K (.ref f_answer_state) = true)
    (a_end_of_call : PySem.W.nsIn K mainGlobals "end_of_call" = some (some (.ref f_end_of_call)))
    (l_end_of_call : K.lookup f_end_of_call = some ⟨oc_end_of_call, od_end_of_call, .func (PySem.W.fnOf "end_of_call" "end_of_call" (defArgs s_end_of_call) (defBody s_end_of_call) (defScope s_end_of_call) .none kV_end_of_call dc_end_of_call pm_end_of_call an_end_of_call cd_end_of_call ct_end_of_call), sl_end_of_call⟩)
    (c_end_of_call : PySem.W.codeIn K cd_end_of_call "end_of_call" = true)
    (k_end_of_call : PySem.W.keepIn K (.ref f_end_of_call) = true)
    (a_told_to_call : PySem.W.nsIn K mainGlobals "told_to_call" = some (some (.ref f_told_to_call)))
    (l_told_to_call : K.lookup f_told_to_call = some ⟨oc_told_to_call, od_told_to_call, .func (PySem.W.fnOf "told_to_call" "told_to_call" (defArgs s_told_to_call) (defBody s_told_to_call) (defScope s_told_to_call) .none kV_told_to_call dc_told_to_call pm_told_to_call an_told_to_call cd_told_to_call ct_told_to_call), sl_told_to_call⟩)
    (c_told_to_call : PySem.W.codeIn K cd_told_to_call "told_to_call" = true)
    (k_told_to_call : PySem.W.keepIn K (.ref f_told_to_call) = true)
    (a_answer_call : PySem.W.nsIn K mainGlobals "answer_call" = some (some (.ref f_answer_call)))
    (l_answer_call : K.lookup f_answer_call = some ⟨oc_answer_call, od_answer_call, .func (PySem.W.fnOf "answer_call" "answer_call" (defArgs s_answer_call) (defBody s_answer_call) (defScope s_answer_call) .none kV_answer_call dc_answer_call pm_answer_call an_answer_call cd_answer_call ct_answer_call), sl_answer_call⟩)
    (c_answer_call : PySem.W.codeIn K cd_answer_call "answer_call" = true)
    (k_answer_call : PySem.W.keepIn K (.ref f_answer_call) = true)
    (a_answers : PySem.W.nsIn K mainGlobals "answers" = some (some (.ref f_answers)))
    (l_answers : K.lookup f_answers = some ⟨oc_answers, od_answers, .func (PySem.W.fnOf "answers" "answers" (defArgs s_answers) (defBody s_answers) (defScope s_answers) .none kV_answers dc_answers pm_answers an_answers cd_answers ct_answers), sl_answers⟩)
    (c_answers : PySem.W.codeIn K cd_answers "answers" = true)
    (k_answers : PySem.W.keepIn K (.ref f_answers) = true)
    (z_NONE_SUCH : PySem.W.nsIn K mainGlobals "NONE_SUCH" = some (some (.int (-2) t_NONE_SUCH)))
    (z_NOT_BEGUN : PySem.W.nsIn K mainGlobals "NOT_BEGUN" = some (some (.int (-11) t_NOT_BEGUN)))
    (z_TOO_SHORT : PySem.W.nsIn K mainGlobals "TOO_SHORT" = some (some (.int (-12) t_TOO_SHORT)))
    (z_OVER : PySem.W.nsIn K mainGlobals "OVER" = some (some (.int (-16) t_OVER)))
    (z_ENDED : PySem.W.nsIn K mainGlobals "ENDED" = some (some (.int (-17) t_ENDED)))
    (z_OUT_OF_RANGE : PySem.W.nsIn K mainGlobals "OUT_OF_RANGE" = some (some (.int (-22) t_OUT_OF_RANGE)))
    (z_TOO_MANY : PySem.W.nsIn K mainGlobals "TOO_MANY" = some (some (.int (-28) t_TOO_MANY)))
    (z_NO_TANK : PySem.W.nsIn K mainGlobals "NO_TANK" = some (some (.int (-33) t_NO_TANK)))
    (z_TOO_LATE : PySem.W.nsIn K mainGlobals "TOO_LATE" = some (some (.int (-75) t_TOO_LATE)))
    (z_MOST_TANKS : PySem.W.nsIn K mainGlobals "MOST_TANKS" = some (some (.int (6) t_MOST_TANKS)))
    (z_MOST_NEED : PySem.W.nsIn K mainGlobals "MOST_NEED" = some (some (.int (500) t_MOST_NEED)))
    (z_MOST_LOTS : PySem.W.nsIn K mainGlobals "MOST_LOTS" = some (some (.int (12) t_MOST_LOTS)))
    (z_MOST_LOTS_EVER : PySem.W.nsIn K mainGlobals "MOST_LOTS_EVER" = some (some (.int (60) t_MOST_LOTS_EVER)))
    (z_MOST_CRATES : PySem.W.nsIn K mainGlobals "MOST_CRATES" = some (some (.int (1000) t_MOST_CRATES)))
    (z_LAST_HOUR : PySem.W.nsIn K mainGlobals "LAST_HOUR" = some (some (.int (10000) t_LAST_HOUR)))
    (z_MOST_HOURS : PySem.W.nsIn K mainGlobals "MOST_HOURS" = some (some (.int (500) t_MOST_HOURS)))
    (z_BEGIN : PySem.W.nsIn K mainGlobals "BEGIN" = some (some (.int (0) t_BEGIN)))
    (u_len : PySem.W.nsIn K mainGlobals "len" = some none)
    (u_max : PySem.W.nsIn K mainGlobals "max" = some none)
    (u_sorted : PySem.W.nsIn K mainGlobals "sorted" = some none)
    (u_set : PySem.W.nsIn K mainGlobals "set" = some none)
    (u_list : PySem.W.nsIn K mainGlobals "list" = some none)
    (u_sum : PySem.W.nsIn K mainGlobals "sum" = some none)
    (u_min : PySem.W.nsIn K mainGlobals "min" = some none)
    (a_CALLS : PySem.W.nsIn K mainGlobals "CALLS" = some (some (.ref at_)))
    (l_CALLS : K.lookup at_ = some ⟨.type "tuple", od_at, .seq #[.ref b0, .ref b1, .ref b2, .ref b3, .ref b4, .ref b5, .ref b6, .ref b7, .ref b8, .ref b9, .ref b10, .ref b11, .ref b12, .ref b13, .ref b14, .ref b15, .ref b16, .ref b17, .ref b18, .ref b19, .ref b20, .ref b21, .ref b22, .ref b23] m_at, sl_at⟩)
    (r0 : K.lookup b0 = some ⟨.type "tuple", od_r0, .seq #[.ref f_answer_begin, .int 2 t_r0, .bool false] m_r0, sl_r0⟩)
    (r1 : K.lookup b1 = some ⟨.type "tuple", od_r1, .seq #[.ref f_answer_lot, .int 3 t_r1, .bool false] m_r1, sl_r1⟩)
    (r2 : K.lookup b2 = some ⟨.type "tuple", od_r2, .seq #[.ref f_answer_drop, .int 1 t_r2, .bool false] m_r2, sl_r2⟩)
    (r3 : K.lookup b3 = some ⟨.type "tuple", od_r3, .seq #[.ref f_answer_longer, .int 2 t_r3, .bool false] m_r3, sl_r3⟩)
    (r4 : K.lookup b4 = some ⟨.type "tuple", od_r4, .seq #[.ref f_answer_tank, .int 0 t_r4, .bool false] m_r4, sl_r4⟩)
    (r5 : K.lookup b5 = some ⟨.type "tuple", od_r5, .seq #[.ref f_answer_hours, .int 1 t_r5, .bool false] m_r5, sl_r5⟩)
    (r6 : K.lookup b6 = some ⟨.type "tuple", od_r6, .seq #[.ref f_answer_fewest, .int 0 t_r6, .bool false] m_r6, sl_r6⟩)
    (r7 : K.lookup b7 = some ⟨.type "tuple", od_r7, .seq #[.ref f_answer_peak, .int 0 t_r7, .bool true] m_r7, sl_r7⟩)
    (r8 : K.lookup b8 = some ⟨.type "tuple", od_r8, .seq #[.ref f_answer_at, .int 1 t_r8, .bool false] m_r8, sl_r8⟩)
    (r9 : K.lookup b9 = some ⟨.type "tuple", od_r9, .seq #[.ref f_answer_plan, .int 0 t_r9, .bool false] m_r9, sl_r9⟩)
    (r10 : K.lookup b10 = some ⟨.type "tuple", od_r10, .seq #[.ref f_answer_tankof, .int 1 t_r10, .bool false] m_r10, sl_r10⟩)
    (r11 : K.lookup b11 = some ⟨.type "tuple", od_r11, .seq #[.ref f_answer_most, .int 1 t_r11, .bool false] m_r11, sl_r11⟩)
    (r12 : K.lookup b12 = some ⟨.type "tuple", od_r12, .seq #[.ref f_answer_mostof, .int 1 t_r12, .bool true] m_r12, sl_r12⟩)
    (r13 : K.lookup b13 = some ⟨.type "tuple", od_r13, .seq #[.ref f_answer_together, .int 0 t_r13, .bool true] m_r13, sl_r13⟩)
    (r14 : K.lookup b14 = some ⟨.type "tuple", od_r14, .seq #[.ref f_answer_meets, .int 1 t_r14, .bool false] m_r14, sl_r14⟩)
    (r15 : K.lookup b15 = some ⟨.type "tuple", od_r15, .seq #[.ref f_answer_may, .int 2 t_r15, .bool false] m_r15, sl_r15⟩)
    (r16 : K.lookup b16 = some ⟨.type "tuple", od_r16, .seq #[.ref f_answer_first, .int 2 t_r16, .bool false] m_r16, sl_r16⟩)
    (r17 : K.lookup b17 = some ⟨.type "tuple", od_r17, .seq #[.ref f_answer_firstwith, .int 3 t_r17, .bool false] m_r17, sl_r17⟩)
    (r18 : K.lookup b18 = some ⟨.type "tuple", od_r18, .seq #[.ref f_answer_ready, .int 0 t_r18, .bool false] m_r18, sl_r18⟩)
    (r19 : K.lookup b19 = some ⟨.type "tuple", od_r19, .seq #[.ref f_answer_left, .int 1 t_r19, .bool false] m_r19, sl_r19⟩)
    (r20 : K.lookup b20 = some ⟨.type "tuple", od_r20, .seq #[.ref f_answer_busy, .int 0 t_r20, .bool false] m_r20, sl_r20⟩)
    (r21 : K.lookup b21 = some ⟨.type "tuple", od_r21, .seq #[.ref f_answer_look, .int 1 t_r21, .bool false] m_r21, sl_r21⟩)
    (r22 : K.lookup b22 = some ⟨.type "tuple", od_r22, .seq #[.ref f_answer_sums, .int 0 t_r22, .bool false] m_r22, sl_r22⟩)
    (r23 : K.lookup b23 = some ⟨.type "tuple", od_r23, .seq #[.ref f_answer_state, .int 0 t_r23, .bool false] m_r23, sl_r23⟩) :
    ∃ fd : FuncData, (∀ (s : Shared) (us : List Value), us.length = (["calls"] : List Str).length → BindsTo s fd ⟨us, []⟩ ((["calls"] : List Str).zip us)) ∧ ∀ base : Heap, K.In base → base.Ns mainGlobals mg → FnOk P w K mg base CX0 9 fa fd ["calls"] (spAns K) := by
  have e := hfa.symm.trans (PySem.W.mg_of X G a_answers)
  cases e
  have T : Txt K mg CL CH := ⟨⟨pgLot, hdLot, poLot, saLot⟩, ⟨pgHouse, hdHouse, poHouse, saHouse⟩, nLot_number, nLot_begins, nLot_ends, nLot_crates, nHouse_begun, nHouse_tanks, nHouse_need, nHouse_hour, nHouse_lots_ever, nHouse_lots, PySem.W.mg_of X G aLot, PySem.W.mg_of X G aHouse, PySem.W.mg_none_of X G u_len, PySem.W.mg_none_of X G u_max, PySem.W.mg_none_of X G u_sorted, PySem.W.mg_none_of X G u_set, PySem.W.mg_none_of X G u_list, PySem.W.mg_none_of X G u_sum, PySem.W.mg_none_of X G u_min⟩
  have C : Cons mg := ⟨con_mk X G z_NONE_SUCH, con_mk X G z_NOT_BEGUN, con_mk X G z_TOO_SHORT, con_mk X G z_OVER, con_mk X G z_ENDED, con_mk X G z_OUT_OF_RANGE, con_mk X G z_TOO_MANY, con_mk X G z_NO_TANK, con_mk X G z_TOO_LATE, con_mk X G z_MOST_TANKS, con_mk X G z_MOST_NEED, con_mk X G z_MOST_LOTS, con_mk X G z_MOST_LOTS_EVER, con_mk X G z_MOST_CRATES, con_mk X G z_LAST_HOUR, con_mk X G z_MOST_HOURS, con_mk X G z_BEGIN⟩
  have F_Lot := fun_mk (st := s_Lot_init) lLot cLot kLot
  have b_Lot := F_Lot.binds (ps := ["self", "number", "begins", "ends", "crates"]) fun _ _ _ _ _ _ us hl => match us, hl with | [_, _, _, _, _], _ => rfl
  have F_House := fun_mk (st := s_House_init) lHouse cHouse kHouse
  have b_House := F_House.binds (ps := ["self"]) fun _ _ _ _ _ _ us hl => match us, hl with | [_], _ => rfl
  have ML : Mk K CL fLot := ⟨mkLot, iLot, jLot, kcLot⟩
  have MH : Mk K CH fHouse := ⟨mkHouse, iHouse, jHouse, kcHouse⟩
  have F_numbers_of := fun_mk (st := s_numbers_of) l_numbers_of c_numbers_of k_numbers_of
  have b_numbers_of := F_numbers_of.binds (ps := ["lots"]) fun _ _ _ _ _ _ us hl => match us, hl with | [_], _ => rfl
  have F_lies_in := fun_mk (st := s_lies_in) l_lies_in c_lies_in k_lies_in
  have b_lies_in := F_lies_in.binds (ps := ["lot", "hour"]) fun _ _ _ _ _ _ us hl => match us, hl with | [_, _], _ => rfl
  have F_lying := fun_mk (st := s_lying) l_lying c_lying k_lying
  have b_lying := F_lying.binds (ps := ["lots", "hour"]) fun _ _ _ _ _ _ us hl => match us, hl with | [_, _], _ => rfl
  have F_two_meet := fun_mk (st := s_two_meet) l_two_meet c_two_meet k_two_meet
  have b_two_meet := F_two_meet.binds (ps := ["one", "other"]) fun _ _ _ _ _ _ us hl => match us, hl with | [_, _], _ => rfl
  have F_meeting := fun_mk (st := s_meeting) l_meeting c_meeting k_meeting
  have b_meeting := F_meeting.binds (ps := ["lots", "lot"]) fun _ _ _ _ _ _ us hl => match us, hl with | [_, _], _ => rfl
  have F_most_at_once := fun_mk (st := s_most_at_once) l_most_at_once c_most_at_once k_most_at_once
  have b_most_at_once := F_most_at_once.binds (ps := ["lots"]) fun _ _ _ _ _ _ us hl => match us, hl with | [_], _ => rfl
  have F_may_lie := fun_mk (st := s_may_lie) l_may_lie c_may_lie k_may_lie
  have b_may_lie := F_may_lie.binds (ps := ["lots", "hour", "count", "tanks"]) fun _ _ _ _ _ _ us hl => match us, hl with | [_, _, _, _], _ => rfl
  have F_first_hour := fun_mk (st := s_first_hour) l_first_hour c_first_hour k_first_hour
  have b_first_hour := F_first_hour.binds (ps := ["lots", "hour", "count", "tanks"]) fun _ _ _ _ _ _ us hl => match us, hl with | [_, _, _, _], _ => rfl
  have F_hours_left := fun_mk (st := s_hours_left) l_hours_left c_hours_left k_hours_left
  have b_hours_left := F_hours_left.binds (ps := ["lot", "hour"]) fun _ _ _ _ _ _ us hl => match us, hl with | [_, _], _ => rfl
  have F_plan_order := fun_mk (st := s_plan_order) l_plan_order c_plan_order k_plan_order
  have b_plan_order := F_plan_order.binds (ps := ["lot"]) fun _ _ _ _ _ _ us hl => match us, hl with | [_], _ => rfl
  have F_end_order := fun_mk (st := s_end_order) l_end_order c_end_order k_end_order
  have b_end_order := F_end_order.binds (ps := ["lot"]) fun _ _ _ _ _ _ us hl => match us, hl with | [_], _ => rfl
  have F_least_free_tank := fun_mk (st := s_least_free_tank) l_least_free_tank c_least_free_tank k_least_free_tank
  have b_least_free_tank := F_least_free_tank.binds (ps := ["placed", "lot"]) fun _ _ _ _ _ _ us hl => match us, hl with | [_, _], _ => rfl
  have F_plan_of := fun_mk (st := s_plan_of) l_plan_of c_plan_of k_plan_of
  have b_plan_of := F_plan_of.binds (ps := ["lots"]) fun _ _ _ _ _ _ us hl => match us, hl with | [_], _ => rfl
  have F_taken_by := fun_mk (st := s_taken_by) l_taken_by c_taken_by k_taken_by
  have b_taken_by := F_taken_by.binds (ps := ["lots", "tanks"]) fun _ _ _ _ _ _ us hl => match us, hl with | [_, _], _ => rfl
  have F_all_lots := fun_mk (st := s_all_lots) l_all_lots c_all_lots k_all_lots
  have b_all_lots := F_all_lots.binds (ps := ["house"]) fun _ _ _ _ _ _ us hl => match us, hl with | [_], _ => rfl
  have F_has_ended := fun_mk (st := s_has_ended) l_has_ended c_has_ended k_has_ended
  have b_has_ended := F_has_ended.binds (ps := ["house", "lot"]) fun _ _ _ _ _ _ us hl => match us, hl with | [_, _], _ => rfl
  have F_within := fun_mk (st := s_within) l_within c_within k_within
  have b_within := F_within.binds (ps := ["number", "least", "most"]) fun _ _ _ _ _ _ us hl => match us, hl with | [_, _, _], _ => rfl
  have F_is_hour := fun_mk (st := s_is_hour) l_is_hour c_is_hour k_is_hour
  have b_is_hour := F_is_hour.binds (ps := ["number"]) fun _ _ _ _ _ _ us hl => match us, hl with | [_], _ => rfl
  have F_is_count_of_hours := fun_mk (st := s_is_count_of_hours) l_is_count_of_hours c_is_count_of_hours k_is_count_of_hours
  have b_is_count_of_hours := F_is_count_of_hours.binds (ps := ["number"]) fun _ _ _ _ _ _ us hl => match us, hl with | [_], _ => rfl
  have F_refusal_of_lots := fun_mk (st := s_refusal_of_lots) l_refusal_of_lots c_refusal_of_lots k_refusal_of_lots
  have b_refusal_of_lots := F_refusal_of_lots.binds (ps := ["house", "told"]) fun _ _ _ _ _ _ us hl => match us, hl with | [_, _], _ => rfl
  have F_lots_of := fun_mk (st := s_lots_of) l_lots_of c_lots_of k_lots_of
  have b_lots_of := F_lots_of.binds (ps := ["house", "told"]) fun _ _ _ _ _ _ us hl => match us, hl with | [_, _], _ => rfl
  have F_count_and_these := fun_mk (st := s_count_and_these) l_count_and_these c_count_and_these k_count_and_these
  have b_count_and_these := F_count_and_these.binds (ps := ["lots"]) fun _ _ _ _ _ _ us hl => match us, hl with | [_], _ => rfl
  have F_answer_begin := fun_mk (st := s_answer_begin) l_answer_begin c_answer_begin k_answer_begin
  have b_answer_begin := F_answer_begin.binds (ps := ["house", "told"]) fun _ _ _ _ _ _ us hl => match us, hl with | [_, _], _ => rfl
  have F_refusal_of_new_lot := fun_mk (st := s_refusal_of_new_lot) l_refusal_of_new_lot c_refusal_of_new_lot k_refusal_of_new_lot
  have b_refusal_of_new_lot := F_refusal_of_new_lot.binds (ps := ["house", "hour", "count", "crates"]) fun _ _ _ _ _ _ us hl => match us, hl with | [_, _, _, _], _ => rfl
  have F_answer_lot := fun_mk (st := s_answer_lot) l_answer_lot c_answer_lot k_answer_lot
  have b_answer_lot := F_answer_lot.binds (ps := ["house", "told"]) fun _ _ _ _ _ _ us hl => match us, hl with | [_, _], _ => rfl
  have F_answer_drop := fun_mk (st := s_answer_drop) l_answer_drop c_answer_drop k_answer_drop
  have b_answer_drop := F_answer_drop.binds (ps := ["house", "told"]) fun _ _ _ _ _ _ us hl => match us, hl with | [_, _], _ => rfl
  have F_answer_longer := fun_mk (st := s_answer_longer) l_answer_longer c_answer_longer k_answer_longer
  have b_answer_longer := F_answer_longer.binds (ps := ["house", "told"]) fun _ _ _ _ _ _ us hl => match us, hl with | [_, _], _ => rfl
  have F_answer_tank := fun_mk (st := s_answer_tank) l_answer_tank c_answer_tank k_answer_tank
  have b_answer_tank := F_answer_tank.binds (ps := ["house", "told"]) fun _ _ _ _ _ _ us hl => match us, hl with | [_, _], _ => rfl
  have F_answer_hours := fun_mk (st := s_answer_hours) l_answer_hours c_answer_hours k_answer_hours
  have b_answer_hours := F_answer_hours.binds (ps := ["house", "told"]) fun _ _ _ _ _ _ us hl => match us, hl with | [_, _], _ => rfl
  have F_answer_fewest := fun_mk (st := s_answer_fewest) l_answer_fewest c_answer_fewest k_answer_fewest
  have b_answer_fewest := F_answer_fewest.binds (ps := ["house", "told"]) fun _ _ _ _ _ _ us hl => match us, hl with | [_, _], _ => rfl
  have F_answer_peak := fun_mk (st := s_answer_peak) l_answer_peak c_answer_peak k_answer_peak
  have b_answer_peak := F_answer_peak.binds (ps := ["house", "told"]) fun _ _ _ _ _ _ us hl => match us, hl with | [_, _], _ => rfl
  have F_answer_at := fun_mk (st := s_answer_at) l_answer_at c_answer_at k_answer_at
  have b_answer_at := F_answer_at.binds (ps := ["house", "told"]) fun _ _ _ _ _ _ us hl => match us, hl with | [_, _], _ => rfl
  have F_answer_plan := fun_mk (st := s_answer_plan) l_answer_plan c_answer_plan k_answer_plan
  have b_answer_plan := F_answer_plan.binds (ps := ["house", "told"]) fun _ _ _ _ _ _ us hl => match us, hl with | [_, _], _ => rfl
  have F_answer_tankof := fun_mk (st := s_answer_tankof) l_answer_tankof c_answer_tankof k_answer_tankof
  have b_answer_tankof := F_answer_tankof.binds (ps := ["house", "told"]) fun _ _ _ _ _ _ us hl => match us, hl with | [_, _], _ => rfl
  have F_answer_most := fun_mk (st := s_answer_most) l_answer_most c_answer_most k_answer_most
  have b_answer_most := F_answer_most.binds (ps := ["house", "told"]) fun _ _ _ _ _ _ us hl => match us, hl with | [_, _], _ => rfl
  have F_answer_mostof := fun_mk (st := s_answer_mostof) l_answer_mostof c_answer_mostof k_answer_mostof
  have b_answer_mostof := F_answer_mostof.binds (ps := ["house", "told"]) fun _ _ _ _ _ _ us hl => match us, hl with | [_, _], _ => rfl
  have F_answer_together := fun_mk (st := s_answer_together) l_answer_together c_answer_together k_answer_together
  have b_answer_together := F_answer_together.binds (ps := ["house", "told"]) fun _ _ _ _ _ _ us hl => match us, hl with | [_, _], _ => rfl
  have F_answer_meets := fun_mk (st := s_answer_meets) l_answer_meets c_answer_meets k_answer_meets
  have b_answer_meets := F_answer_meets.binds (ps := ["house", "told"]) fun _ _ _ _ _ _ us hl => match us, hl with | [_, _], _ => rfl
  have F_answer_may := fun_mk (st := s_answer_may) l_answer_may c_answer_may k_answer_may
  have b_answer_may := F_answer_may.binds (ps := ["house", "told"]) fun _ _ _ _ _ _ us hl => match us, hl with | [_, _], _ => rfl
  have F_answer_first := fun_mk (st := s_answer_first) l_answer_first c_answer_first k_answer_first
  have b_answer_first := F_answer_first.binds (ps := ["house", "told"]) fun _ _ _ _ _ _ us hl => match us, hl with | [_, _], _ => rfl
  have F_answer_firstwith := fun_mk (st := s_answer_firstwith) l_answer_firstwith c_answer_firstwith k_answer_firstwith
  have b_answer_firstwith := F_answer_firstwith.binds (ps := ["house", "told"]) fun _ _ _ _ _ _ us hl => match us, hl with | [_, _], _ => rfl
  have F_answer_ready := fun_mk (st := s_answer_ready) l_answer_ready c_answer_ready k_answer_ready
  have b_answer_ready := F_answer_ready.binds (ps := ["house", "told"]) fun _ _ _ _ _ _ us hl => match us, hl with | [_, _], _ => rfl
  have F_answer_left := fun_mk (st := s_answer_left) l_answer_left c_answer_left k_answer_left
  have b_answer_left := F_answer_left.binds (ps := ["house", "told"]) fun _ _ _ _ _ _ us hl => match us, hl with | [_, _], _ => rfl
  have F_answer_busy := fun_mk (st := s_answer_busy) l_answer_busy c_answer_busy k_answer_busy
  have b_answer_busy := F_answer_busy.binds (ps := ["house", "told"]) fun _ _ _ _ _ _ us hl => match us, hl with | [_, _], _ => rfl
  have F_answer_look := fun_mk (st := s_answer_look) l_answer_look c_answer_look k_answer_look
  have b_answer_look := F_answer_look.binds (ps := ["house", "told"]) fun _ _ _ _ _ _ us hl => match us, hl with | [_, _], _ => rfl
  have F_answer_sums := fun_mk (st := s_answer_sums) l_answer_sums c_answer_sums k_answer_sums
  have b_answer_sums := F_answer_sums.binds (ps := ["house", "told"]) fun _ _ _ _ _ _ us hl => match us, hl with | [_, _], _ => rfl
  have F_answer_state := fun_mk (st := s_answer_state) l_answer_state c_answer_state k_answer_state
  have b_answer_state := F_answer_state.binds (ps := ["house", "told"]) fun _ _ _ _ _ _ us hl => match us, hl with | [_, _], _ => rfl
  have F_end_of_call := fun_mk (st := s_end_of_call) l_end_of_call c_end_of_call k_end_of_call
  have b_end_of_call := F_end_of_call.binds (ps := ["calls", "place"]) fun _ _ _ _ _ _ us hl => match us, hl with | [_, _], _ => rfl
  have F_told_to_call := fun_mk (st := s_told_to_call) l_told_to_call c_told_to_call k_told_to_call
  have b_told_to_call := F_told_to_call.binds (ps := ["calls", "place"]) fun _ _ _ _ _ _ us hl => match us, hl with | [_, _], _ => rfl
  have F_answer_call := fun_mk (st := s_answer_call) l_answer_call c_answer_call k_answer_call
  have b_answer_call := F_answer_call.binds (ps := ["house", "number", "told"]) fun _ _ _ _ _ _ us hl => match us, hl with | [_, _, _], _ => rfl
  have F_answers := fun_mk (st := s_answers) l_answers c_answers k_answers
  have b_answers := F_answers.binds (ps := ["calls"]) fun _ _ _ _ _ _ us hl => match us, hl with | [_], _ => rfl
  have B : Table K mg at_ [b0, b1, b2, b3, b4, b5, b6, b7, b8, b9, b10, b11, b12, b13, b14, b15, b16, b17, b18, b19, b20, b21, b22, b23] [f_answer_begin, f_answer_lot, f_answer_drop, f_answer_longer, f_answer_tank, f_answer_hours, f_answer_fewest, f_answer_peak, f_answer_at, f_answer_plan, f_answer_tankof, f_answer_most, f_answer_mostof, f_answer_together, f_answer_meets, f_answer_may, f_answer_first, f_answer_firstwith, f_answer_ready, f_answer_left, f_answer_busy, f_answer_look, f_answer_sums, f_answer_state] := ⟨⟨_, PySem.W.mg_of X G a_CALLS, rfl⟩, top_mk l_CALLS, fun j z hz => by
    match j, hz with
    | 0, hz => cases hz; exact ⟨_, _, rfl, rfl, row_mk r0⟩
    | 1, hz => cases hz; exact ⟨_, _, rfl, rfl, row_mk r1⟩
    | 2, hz => cases hz; exact ⟨_, _, rfl, rfl, row_mk r2⟩
    | 3, hz => cases hz; exact ⟨_, _, rfl, rfl, row_mk r3⟩
    | 4, hz => cases hz; exact ⟨_, _, rfl, rfl, row_mk r4⟩
    | 5, hz => cases hz; exact ⟨_, _, rfl, rfl, row_mk r5⟩
    | 6, hz => cases hz; exact ⟨_, _, rfl, rfl, row_mk r6⟩
    | 7, hz => cases hz; exact ⟨_, _, rfl, rfl, row_mk r7⟩
    | 8, hz => cases hz; exact ⟨_, _, rfl, rfl, row_mk r8⟩
    | 9, hz => cases hz; exact ⟨_, _, rfl, rfl, row_mk r9⟩
    | 10, hz => cases hz; exact ⟨_, _, rfl, rfl, row_mk r10⟩
    | 11, hz => cases hz; exact ⟨_, _, rfl, rfl, row_mk r11⟩
    | 12, hz => cases hz; exact ⟨_, _, rfl, rfl, row_mk r12⟩
    | 13, hz => cases hz; exact ⟨_, _, rfl, rfl, row_mk r13⟩
    | 14, hz => cases hz; exact ⟨_, _, rfl, rfl, row_mk r14⟩
    | 15, hz => cases hz; exact ⟨_, _, rfl, rfl, row_mk r15⟩
    | 16, hz => cases hz; exact ⟨_, _, rfl, rfl, row_mk r16⟩
    | 17, hz => cases hz; exact ⟨_, _, rfl, rfl, row_mk r17⟩
    | 18, hz => cases hz; exact ⟨_, _, rfl, rfl, row_mk r18⟩
    | 19, hz => cases hz; exact ⟨_, _, rfl, rfl, row_mk r19⟩
    | 20, hz => cases hz; exact ⟨_, _, rfl, rfl, row_mk r20⟩
    | 21, hz => cases hz; exact ⟨_, _, rfl, rfl, row_mk r21⟩
    | 22, hz => cases hz; exact ⟨_, _, rfl, rfl, row_mk r22⟩
    | 23, hz => cases hz; exact ⟨_, _, rfl, rfl, row_mk r23⟩
    | j + 24, hz => cases hz⟩
  refine ⟨PySem.W.fnOf "answers" "answers" (defArgs s_answers) (defBody s_answers) (defScope s_answers) .none kV_answers dc_answers pm_answers an_answers cd_answers ct_answers, fun s us hu => match us, hu with | [_], _ => .of_eq rfl, fun base _ _ => ?_⟩
  have D_lies_in : Def P w K mg base 1 "lies_in" ["lot", "hour"] (spLies CL) := def_mk X G F_lies_in a_lies_in b_lies_in (ok_lies F_lies_in T)
  have D_numbers_of : Def P w K mg base 1 "numbers_of" ["lots"] (spNumbers K CL) := def_mk X G F_numbers_of a_numbers_of b_numbers_of (ok_numbers F_numbers_of T)
  have D_lying : Def P w K mg base 2 "lying" ["lots", "hour"] (spLying K CL) := def_mk X G F_lying a_lying b_lying (ok_lying F_lying D_lies_in)
  have D_two_meet : Def P w K mg base 1 "two_meet" ["one", "other"] (spMeet CL) := def_mk X G F_two_meet a_two_meet b_two_meet (ok_meet F_two_meet T)
  have D_most_at_once : Def P w K mg base 3 "most_at_once" ["lots"] (spPeak K CL) := def_mk X G F_most_at_once a_most_at_once b_most_at_once (ok_peak F_most_at_once T D_lying)
  have D_may_lie : Def P w K mg base 3 "may_lie" ["lots", "hour", "count", "tanks"] (spMay K CL) := def_mk X G F_may_lie a_may_lie b_may_lie (ok_may F_may_lie T D_lying)
  have D_plan_order : Def P w K mg base 1 "plan_order" ["lot"] (spKeyB CL) := def_mk X G F_plan_order a_plan_order b_plan_order (ok_keyB F_plan_order T)
  have D_end_order : Def P w K mg base 1 "end_order" ["lot"] (spKeyE CL) := def_mk X G F_end_order a_end_order b_end_order (ok_keyE F_end_order T)
  have D_least_free_tank : Def P w K mg base 2 "least_free_tank" ["placed", "lot"] (spLeast CL) := def_mk X G F_least_free_tank a_least_free_tank b_least_free_tank (ok_least F_least_free_tank D_two_meet)
  have D_plan_of : Def P w K mg base 4 "plan_of" ["lots"] (spPlanOf K CL) := def_mk X G F_plan_of a_plan_of b_plan_of (ok_planof F_plan_of T D_least_free_tank D_plan_order)
  have D_taken_by : Def P w K mg base 4 "taken_by" ["lots", "tanks"] (spTaken K CL) := def_mk X G F_taken_by a_taken_by b_taken_by (ok_taken F_taken_by T D_most_at_once D_end_order)
  have D_all_lots : Def P w K mg base 1 "all_lots" ["house"] (spAll CL CH) := def_mk X G F_all_lots a_all_lots b_all_lots (ok_all F_all_lots T)
  have D_has_ended : Def P w K mg base 1 "has_ended" ["house", "lot"] (spEnded CL CH) := def_mk X G F_has_ended a_has_ended b_has_ended (ok_ended F_has_ended T)
  have D_within : Def P w K mg base 1 "within" ["number", "least", "most"] (spWithin) := def_mk X G F_within a_within b_within (ok_within F_within)
  have D_is_hour : Def P w K mg base 2 "is_hour" ["number"] (spHour) := def_mk X G F_is_hour a_is_hour b_is_hour (ok_hour F_is_hour C D_within)
  have D_is_count_of_hours : Def P w K mg base 2 "is_count_of_hours" ["number"] (spCount) := def_mk X G F_is_count_of_hours a_is_count_of_hours b_is_count_of_hours (ok_count F_is_count_of_hours C D_within)
  have D_refusal_of_lots : Def P w K mg base 1 "refusal_of_lots" ["house", "told"] (spBad CL CH) := def_mk X G F_refusal_of_lots a_refusal_of_lots b_refusal_of_lots (ok_bad F_refusal_of_lots T C)
  have D_refusal_of_new_lot : Def P w K mg base 4 "refusal_of_new_lot" ["house", "hour", "count", "crates"] (spNew CL CH) := def_mk X G F_refusal_of_new_lot a_refusal_of_new_lot b_refusal_of_new_lot (ok_new F_refusal_of_new_lot T C D_all_lots D_may_lie D_is_hour D_is_count_of_hours D_within)
  have D_meeting : Def P w K mg base 2 "meeting" ["lots", "lot"] (spMeeting K CL) := def_mk X G F_meeting a_meeting b_meeting (ok_meeting F_meeting T D_two_meet)
  have D_first_hour : Def P w K mg base 4 "first_hour" ["lots", "hour", "count", "tanks"] (spFirst K CL) := def_mk X G F_first_hour a_first_hour b_first_hour (ok_first F_first_hour T D_may_lie)
  have D_hours_left : Def P w K mg base 1 "hours_left" ["lot", "hour"] (spLeft CL) := def_mk X G F_hours_left a_hours_left b_hours_left (ok_hleft F_hours_left T)
  have D_lots_of : Def P w K mg base 1 "lots_of" ["house", "told"] (spLotsOf CL CH) := def_mk X G F_lots_of a_lots_of b_lots_of (ok_lotsof F_lots_of T)
  have D_count_and_these : Def P w K mg base 2 "count_and_these" ["lots"] (spThese K CL) := def_mk X G F_count_and_these a_count_and_these b_count_and_these (ok_these F_count_and_these T D_numbers_of)
  have D_answer_firstwith : Def P w K mg base 5 "answer_firstwith" ["house", "told"] (fun vs H Q E => ∃ x y z, spAct CL CH (.firstWith x y z) [x, y, z] none vs H Q E) := def_mk X G F_answer_firstwith a_answer_firstwith b_answer_firstwith (ok_fw F_answer_firstwith C D_all_lots D_first_hour D_is_hour D_is_count_of_hours D_within)
  have D_end_of_call : Def P w K mg base 1 "end_of_call" ["calls", "place"] (spEnd K) := def_mk X G F_end_of_call a_end_of_call b_end_of_call (ok_end F_end_of_call B)
  have D_told_to_call : Def P w K mg base 2 "told_to_call" ["calls", "place"] (spTold K) := def_mk X G F_told_to_call a_told_to_call b_told_to_call (ok_told F_told_to_call B D_end_of_call)
  have A0 : Acts P w K mg base CL CH [f_answer_begin, f_answer_lot, f_answer_drop, f_answer_longer, f_answer_tank, f_answer_hours, f_answer_fewest, f_answer_peak, f_answer_at, f_answer_plan, f_answer_tankof, f_answer_most, f_answer_mostof, f_answer_together, f_answer_meets, f_answer_may, f_answer_first, f_answer_firstwith, f_answer_ready, f_answer_left, f_answer_busy, f_answer_look, f_answer_sums, f_answer_state] := ⟨fun f hf => by
    cases hf
    exact ⟨_, (ok_begin F_answer_begin T C D_within).mono (by decide), k_answer_begin, b_answer_begin⟩, fun j f hj hf => by
    match j, hj, hf with
    | 1, _, hf => cases hf; exact ⟨_, act_1 (by decide) (ok_lot_ F_answer_lot T ML (ok_Lot_init F_Lot T) b_Lot D_refusal_of_new_lot), k_answer_lot, b_answer_lot⟩
    | 2, _, hf => cases hf; exact ⟨_, act_2 (by decide) (ok_drop_ F_answer_drop T C D_has_ended), k_answer_drop, b_answer_drop⟩
    | 3, _, hf => cases hf; exact ⟨_, act_3 (by decide) (ok_longer_ F_answer_longer T C D_all_lots D_has_ended D_is_count_of_hours D_may_lie), k_answer_longer, b_answer_longer⟩
    | 4, _, hf => cases hf; exact ⟨_, act_4 (by decide) (ok_tank F_answer_tank T C), k_answer_tank, b_answer_tank⟩
    | 5, _, hf => cases hf; exact ⟨_, act_5 (by decide) (ok_hours_ F_answer_hours T C D_all_lots D_has_ended D_is_count_of_hours), k_answer_hours, b_answer_hours⟩
    | 6, _, hf => cases hf; exact ⟨_, act_6 (by decide) (ok_fewest F_answer_fewest D_all_lots D_most_at_once), k_answer_fewest, b_answer_fewest⟩
    | 7, _, hf => cases hf; exact ⟨_, act_7 (by decide) (ok_peak_ F_answer_peak D_refusal_of_lots D_most_at_once D_lots_of), k_answer_peak, b_answer_peak⟩
    | 8, _, hf => cases hf; exact ⟨_, act_8 (by decide) (ok_at F_answer_at T C D_all_lots D_lying D_count_and_these D_is_hour), k_answer_at, b_answer_at⟩
    | 9, _, hf => cases hf; exact ⟨_, act_9 (by decide) (ok_plan F_answer_plan T D_all_lots D_plan_of), k_answer_plan, b_answer_plan⟩
    | 10, _, hf => cases hf; exact ⟨_, act_10 (by decide) (ok_tankof F_answer_tankof T C D_all_lots D_plan_of), k_answer_tankof, b_answer_tankof⟩
    | 11, _, hf => cases hf; exact ⟨_, act_11 (by decide) (ok_most F_answer_most T C D_all_lots D_taken_by D_count_and_these), k_answer_most, b_answer_most⟩
    | 12, _, hf => cases hf; exact ⟨_, act_12 (by decide) (ok_mostof F_answer_mostof C D_refusal_of_lots D_taken_by D_lots_of D_count_and_these), k_answer_mostof, b_answer_mostof⟩
    | 13, _, hf => cases hf; exact ⟨_, act_13 (by decide) (ok_together F_answer_together D_refusal_of_lots D_most_at_once D_lots_of), k_answer_together, b_answer_together⟩
    | 14, _, hf => cases hf; exact ⟨_, act_14 (by decide) (ok_meets F_answer_meets T C D_all_lots D_meeting D_count_and_these), k_answer_meets, b_answer_meets⟩
    | 15, _, hf => cases hf; exact ⟨_, act_15 (by decide) (ok_may_ F_answer_may T C D_all_lots D_may_lie D_is_hour D_is_count_of_hours), k_answer_may, b_answer_may⟩
    | 16, _, hf => cases hf; exact ⟨_, act_16 (by decide) (ok_first_ F_answer_first T D_answer_firstwith), k_answer_first, b_answer_first⟩
    | 17, _, hf => cases hf; exact ⟨_, act_17 (by decide) (ok_fw F_answer_firstwith C D_all_lots D_first_hour D_is_hour D_is_count_of_hours D_within), k_answer_firstwith, b_answer_firstwith⟩
    | 18, _, hf => cases hf; exact ⟨_, act_18 (by decide) (ok_ready F_answer_ready D_all_lots D_has_ended D_count_and_these), k_answer_ready, b_answer_ready⟩
    | 19, _, hf => cases hf; exact ⟨_, act_19 (by decide) (ok_left F_answer_left T C D_hours_left), k_answer_left, b_answer_left⟩
    | 20, _, hf => cases hf; exact ⟨_, act_20 (by decide) (ok_busy F_answer_busy T D_all_lots), k_answer_busy, b_answer_busy⟩
    | 21, _, hf => cases hf; exact ⟨_, act_21 (by decide) (ok_look F_answer_look T C D_lies_in), k_answer_look, b_answer_look⟩
    | 22, _, hf => cases hf; exact ⟨_, act_22 (by decide) (ok_sums F_answer_sums T D_all_lots D_lying), k_answer_sums, b_answer_sums⟩
    | 23, _, hf => cases hf; exact ⟨_, act_23 (by decide) (ok_state F_answer_state T), k_answer_state, b_answer_state⟩
    | j + 24, _, hf => cases hf⟩
  have D_answer_call : Def P w K mg base 8 "answer_call" ["house", "number", "told"] (spCall CL CH) := def_mk X G F_answer_call a_answer_call b_answer_call (ok_call F_answer_call T C B A0)
  exact ok_answers F_answers T MH (ok_House_init F_House T) b_House D_answer_call D_told_to_call D_end_of_call
end Ct
open PySem PySem.W PyProof.Rows
set_option maxRecDepth 100000 in
set_option maxHeartbeats 0 in
theorem PySem.Challenge.cw_cleaningtanks_s01_answers_holds : PySem.Challenge.rw_cleaningtanks_s01_answers.Holds := by
  w_on
  refine holds_os (r := PySem.Challenge.rw_cleaningtanks_s01_answers) Ct.lft (Hook.of Ct.HK) (Hook.keeps Ct.HK) (XP := XL Ct.qv []) (YP := Hook.says Ct.HK) (fun s e => xl_of s (Bool.and_eq_true_iff.mp e).1) XL.keeps (by rfl) (by rfl) (by rfl) (fun s e => recFacts_of (Bool.and_eq_true_iff.mp e).2) os_shapes ?k1 ?ok ⟨rfl, rfl, rfl, rfl, rfl, by decide +kernel⟩ ?hw ?hc
  case k1 => decide +kernel
  case ok => decide +kernel
  case hw => exact ⟨[.list [.int 4]], by decide +kernel, by decide +kernel⟩
  unfold Ct.HK
  k_fillS
  refine L2.walk_specK (r := PySem.Challenge.rw_cleaningtanks_s01_answers) (k := 9) (CX := L2.CX0) (ps := ["calls"]) (sp := Ct.spAns) (by decide +kernel) rfl rfl ⟨rfl, by decide, by decide⟩ (fun w h Y => PySem.W.kIn_of Y) ?F ?S (fun _ _ _ _ z => z)
  case F =>
    intro w mg fa h Y KX G hmg
    refine' Ct.all_mk KX G hmg ?aLot ?iLot ?jLot ?lLot ?cLot ?kLot ?pgLot ?hdLot ?poLot ?saLot ?mkLot ?kcLot ?aHouse ?iHouse ?jHouse ?lHouse ?cHouse ?kHouse ?pgHouse ?hdHouse ?poHouse ?saHouse ?mkHouse ?kcHouse ?nLot_number ?nLot_begins ?nLot_ends ?nLot_crates ?nHouse_begun ?nHouse_tanks ?nHouse_need ?nHouse_hour ?nHouse_lots_ever ?nHouse_lots ?a_numbers_of ?l_numbers_of ?c_numbers_of ?k_numbers_of ?a_lies_in ?l_lies_in ?c_lies_in ?k_lies_in ?a_lying ?l_lying ?c_lying ?k_lying ?a_two_meet ?l_two_meet ?c_two_meet ?k_two_meet ?a_meeting ?l_meeting ?c_meeting ?k_meeting ?a_most_at_once ?l_most_at_once ?c_most_at_once ?k_most_at_once ?a_may_lie ?l_may_lie ?c_may_lie ?k_may_lie ?a_first_hour ?l_first_hour ?c_first_hour ?k_first_hour ?a_hours_left ?l_hours_left ?c_hours_left ?k_hours_left ?a_plan_order ?l_plan_order ?c_plan_order ?k_plan_order ?a_end_order ?l_end_order ?c_end_order ?k_end_order ?a_least_free_tank ?l_least_free_tank ?c_least_free_tank ?k_least_free_tank ?a_plan_of ?l_plan_of ?c_plan_of ?k_plan_of ?a_taken_by ?l_taken_by ?c_taken_by ?k_taken_by ?a_all_lots ?l_all_lots ?c_all_lots ?k_all_lots ?a_has_ended ?l_has_ended ?c_has_ended ?k_has_ended ?a_within ?l_within ?c_within ?k_within ?a_is_hour ?l_is_hour ?c_is_hour ?k_is_hour ?a_is_count_of_hours ?l_is_count_of_hours ?c_is_count_of_hours ?k_is_count_of_hours ?a_refusal_of_lots ?l_refusal_of_lots ?c_refusal_of_lots ?k_refusal_of_lots ?a_lots_of ?l_lots_of ?c_lots_of ?k_lots_of ?a_count_and_these ?l_count_and_these ?c_count_and_these ?k_count_and_these ?a_answer_begin ?l_answer_begin ?c_answer_begin ?k_answer_begin ?a_refusal_of_new_lot ?l_refusal_of_new_lot ?c_refusal_of_new_lot ?k_refusal_of_new_lot ?a_answer_lot ?l_answer_lot ?c_answer_lot ?k_answer_lot ?a_answer_drop ?l_answer_drop ?c_answer_drop ?k_answer_drop ?a_answer_longer ?l_answer_longer ?c_answer_longer ?k_answer_longer ?a_answer_tank ?l_answer_tank ?c_answer_tank ?k_answer_tank ?a_answer_hours ?l_answer_hours ?c_answer_hours ?k_answer_hours ?a_answer_fewest ?l_answer_fewest ?c_answer_fewest ?k_answer_fewest ?a_answer_peak ?l_answer_peak ?c_answer_peak ?k_answer_peak ?a_answer_at ?l_answer_at ?c_answer_at ?k_answer_at ?a_answer_plan ?l_answer_plan ?c_answer_plan ?k_answer_plan ?a_answer_tankof ?l_answer_tankof ?c_answer_tankof ?k_answer_tankof ?a_answer_most ?l_answer_most ?c_answer_most ?k_answer_most ?a_answer_mostof ?l_answer_mostof ?c_answer_mostof ?k_answer_mostof ?a_answer_together ?l_answer_together ?c_answer_together ?k_answer_together ?a_answer_meets ?l_answer_meets ?c_answer_meets ?k_answer_meets ?a_answer_may ?l_answer_may ?c_answer_may ?k_answer_may ?a_answer_first ?l_answer_first ?c_answer_first ?k_answer_first ?a_answer_firstwith ?l_answer_firstwith ?c_answer_firstwith ?k_answer_firstwith ?a_answer_ready ?l_answer_ready ?c_answer_ready ?k_answer_ready ?a_answer_left ?l_answer_left ?c_answer_left ?k_answer_left ?a_answer_busy ?l_answer_busy ?c_answer_busy ?k_answer_busy ?a_answer_look ?l_answer_look ?c_answer_look ?k_answer_look ?a_answer_sums ?l_answer_sums ?c_answer_sums ?k_answer_sums ?a_answer_state ?l_answer_state ?c_answer_state ?k_answer_state ?a_end_of_call ?l_end_of_call ?c_end_of_call ?k_end_of_call ?a_told_to_call ?l_told_to_call ?c_told_to_call ?k_told_to_call ?a_answer_call ?l_answer_call ?c_answer_call ?k_answer_call ?a_answers ?l_answers ?c_answers ?k_answers ?z_NONE_SUCH ?z_NOT_BEGUN ?z_TOO_SHORT ?z_OVER ?z_ENDED ?z_OUT_OF_RANGE ?z_TOO_MANY ?z_NO_TANK ?z_TOO_LATE ?z_MOST_TANKS ?z_MOST_NEED ?z_MOST_LOTS ?z_MOST_LOTS_EVER ?z_MOST_CRATES ?z_LAST_HOUR ?z_MOST_HOURS ?z_BEGIN ?u_len ?u_max ?u_sorted ?u_set ?u_list ?u_sum ?u_min ?a_CALLS ?l_CALLS ?r0 ?r1 ?r2 ?r3 ?r4 ?r5 ?r6 ?r7 ?r8 ?r9 ?r10 ?r11 ?r12 ?r13 ?r14 ?r15 ?r16 ?r17 ?r18 ?r19 ?r20 ?r21 ?r22 ?r23
    (case aLot => k_is)
    (case iLot => k_is)
    (case jLot => k_is)
    (case lLot => k_is)
    (case cLot => k_is)
    (case kLot => k_is)
    (case pgLot => k_is)
    (case hdLot => k_is)
    (case poLot => k_is)
    (case saLot => k_is)
    (case mkLot => k_is)
    (case kcLot => k_is)
    (case aHouse => k_is)
    (case iHouse => k_is)
    (case jHouse => k_is)
    (case lHouse => k_is)
    (case cHouse => k_is)
    (case kHouse => k_is)
    (case pgHouse => k_is)
    (case hdHouse => k_is)
    (case poHouse => k_is)
    (case saHouse => k_is)
    (case mkHouse => k_is)
    (case kcHouse => k_is)
    (case nLot_number => k_is)
    (case nLot_begins => k_is)
    (case nLot_ends => k_is)
    (case nLot_crates => k_is)
    (case nHouse_begun => k_is)
    (case nHouse_tanks => k_is)
    (case nHouse_need => k_is)
    (case nHouse_hour => k_is)
    (case nHouse_lots_ever => k_is)
    (case nHouse_lots => k_is)
    (case a_numbers_of => k_is)
    (case l_numbers_of => k_is)
    (case c_numbers_of => k_is)
    (case k_numbers_of => k_is)
    (case a_lies_in => k_is)
    (case l_lies_in => k_is)
    (case c_lies_in => k_is)
    (case k_lies_in => k_is)
    (case a_lying => k_is)
    (case l_lying => k_is)
    (case c_lying => k_is)
    (case k_lying => k_is)
    (case a_two_meet => k_is)
    (case l_two_meet => k_is)
    (case c_two_meet => k_is)
    (case k_two_meet => k_is)
    (case a_meeting => k_is)
    (case l_meeting => k_is)
    (case c_meeting => k_is)
    (case k_meeting => k_is)
    (case a_most_at_once => k_is)
    (case l_most_at_once => k_is)
    (case c_most_at_once => k_is)
    (case k_most_at_once => k_is)
    (case a_may_lie => k_is)
    (case l_may_lie => k_is)
    (case c_may_lie => k_is)
    (case k_may_lie => k_is)
    (case a_first_hour => k_is)
    (case l_first_hour => k_is)
    (case c_first_hour => k_is)
    (case k_first_hour => k_is)
    (case a_hours_left => k_is)
    (case l_hours_left => k_is)
    (case c_hours_left => k_is)
    (case k_hours_left => k_is)
    (case a_plan_order => k_is)
    (case l_plan_order => k_is)
    (case c_plan_order => k_is)
    (case k_plan_order => k_is)
    (case a_end_order => k_is)
    (case l_end_order => k_is)
    (case c_end_order => k_is)
    (case k_end_order => k_is)
    (case a_least_free_tank => k_is)
    (case l_least_free_tank => k_is)
    (case c_least_free_tank => k_is)
    (case k_least_free_tank => k_is)
    (case a_plan_of => k_is)
    (case l_plan_of => k_is)
    (case c_plan_of => k_is)
    (case k_plan_of => k_is)
    (case a_taken_by => k_is)
    (case l_taken_by => k_is)
    (case c_taken_by => k_is)
    (case k_taken_by => k_is)
    (case a_all_lots => k_is)
    (case l_all_lots => k_is)
    (case c_all_lots => k_is)
    (case k_all_lots => k_is)
    (case a_has_ended => k_is)
    (case l_has_ended => k_is)
    (case c_has_ended => k_is)
    (case k_has_ended => k_is)
    (case a_within => k_is)
    (case l_within => k_is)
    (case c_within => k_is)
    (case k_within => k_is)
    (case a_is_hour => k_is)
    (case l_is_hour => k_is)
    (case c_is_hour => k_is)
    (case k_is_hour => k_is)
    (case a_is_count_of_hours => k_is)
    (case l_is_count_of_hours => k_is)
    (case c_is_count_of_hours => k_is)
    (case k_is_count_of_hours => k_is)
    (case a_refusal_of_lots => k_is)
    (case l_refusal_of_lots => k_is)
    (case c_refusal_of_lots => k_is)
    (case k_refusal_of_lots => k_is)
    (case a_lots_of => k_is)
    (case l_lots_of => k_is)
    (case c_lots_of => k_is)
    (case k_lots_of => k_is)
    (case a_count_and_these => k_is)
    (case l_count_and_these => k_is)
    (case c_count_and_these => k_is)
    (case k_count_and_these => k_is)
    (case a_answer_begin => k_is)
    (case l_answer_begin => k_is)
    (case c_answer_begin => k_is)
    (case k_answer_begin => k_is)
    (case a_refusal_of_new_lot => k_is)
    (case l_refusal_of_new_lot => k_is)
    (case c_refusal_of_new_lot => k_is)
    (case k_refusal_of_new_lot => k_is)
    (case a_answer_lot => k_is)
    (case l_answer_lot => k_is)
    (case c_answer_lot => k_is)
    (case k_answer_lot => k_is)
    (case a_answer_drop => k_is)
    (case l_answer_drop => k_is)
    (case c_answer_drop => k_is)
    (case k_answer_drop => k_is)
    (case a_answer_longer => k_is)
    (case l_answer_longer => k_is)
    (case c_answer_longer => k_is)
    (case k_answer_longer => k_is)
    (case a_answer_tank => k_is)
    (case l_answer_tank => k_is)
    (case c_answer_tank => k_is)
    (case k_answer_tank => k_is)
    (case a_answer_hours => k_is)
    (case l_answer_hours => k_is)
    (case c_answer_hours => k_is)
    (case k_answer_hours => k_is)
    (case a_answer_fewest => k_is)
    (case l_answer_fewest => k_is)
    (case c_answer_fewest => k_is)
    (case k_answer_fewest => k_is)
    (case a_answer_peak => k_is)
    (case l_answer_peak => k_is)
    (case c_answer_peak => k_is)
    (case k_answer_peak => k_is)
    (case a_answer_at => k_is)
    (case l_answer_at => k_is)
    (case c_answer_at => k_is)
    (case k_answer_at => k_is)
    (case a_answer_plan => k_is)
    (case l_answer_plan => k_is)
    (case c_answer_plan => k_is)
    (case k_answer_plan => k_is)
    (case a_answer_tankof => k_is)
    (case l_answer_tankof => k_is)
    (case c_answer_tankof => k_is)
    (case k_answer_tankof => k_is)
    (case a_answer_most => k_is)
    (case l_answer_most => k_is)
    (case c_answer_most => k_is)
    (case k_answer_most => k_is)
    (case a_answer_mostof => k_is)
    (case l_answer_mostof => k_is)
    (case c_answer_mostof => k_is)
    (case k_answer_mostof => k_is)
    (case a_answer_together => k_is)
    (case l_answer_together => k_is)
    (case c_answer_together => k_is)
    (case k_answer_together => k_is)
    (case a_answer_meets => k_is)
    (case l_answer_meets => k_is)
    (case c_answer_meets => k_is)
    (case k_answer_meets => k_is)
    (case a_answer_may => k_is)
    (case l_answer_may => k_is)
    (case c_answer_may => k_is)
    (case k_answer_may => k_is)
    (case a_answer_first => k_is)
    (case l_answer_first => k_is)
    (case c_answer_first => k_is)
    (case k_answer_first => k_is)
    (case a_answer_firstwith => k_is)
    (case l_answer_firstwith => k_is)
    (case c_answer_firstwith => k_is)
    (case k_answer_firstwith => k_is)
    (case a_answer_ready => k_is)
    (case l_answer_ready => k_is)
    (case c_answer_ready => k_is)
    (case k_answer_ready => k_is)
    (case a_answer_left => k_is)
    (case l_answer_left => k_is)
    (case c_answer_left => k_is)
    (case k_answer_left => k_is)
    (case a_answer_busy => k_is)
    (case l_answer_busy => k_is)
    (case c_answer_busy => k_is)
    (case k_answer_busy => k_is)
    (case a_answer_look => k_is)
    (case l_answer_look => k_is)
    (case c_answer_look => k_is)
    (case k_answer_look => k_is)
    (case a_answer_sums => k_is)
    (case l_answer_sums => k_is)
    (case c_answer_sums => k_is)
    (case k_answer_sums => k_is)
    (case a_answer_state => k_is)
    (case l_answer_state => k_is)
    (case c_answer_state => k_is)
    (case k_answer_state => k_is)
    (case a_end_of_call => k_is)
    (case l_end_of_call => k_is)
    (case c_end_of_call => k_is)
    (case k_end_of_call => k_is)
    (case a_told_to_call => k_is)
    (case l_told_to_call => k_is)
    (case c_told_to_call => k_is)
    (case k_told_to_call => k_is)
    (case a_answer_call => k_is)
    (case l_answer_call => k_is)
    (case c_answer_call => k_is)
    (case k_answer_call => k_is)
    (case a_answers => k_is)
    (case l_answers => k_is)
    (case c_answers => k_is)
    (case k_answers => k_is)
    (case z_NONE_SUCH => k_is)
    (case z_NOT_BEGUN => k_is)
    (case z_TOO_SHORT => k_is)
    (case z_OVER => k_is)
    (case z_ENDED => k_is)
    (case z_OUT_OF_RANGE => k_is)
    (case z_TOO_MANY => k_is)
    (case z_NO_TANK => k_is)
    (case z_TOO_LATE => k_is)
    (case z_MOST_TANKS => k_is)
    (case z_MOST_NEED => k_is)
    (case z_MOST_LOTS => k_is)
    (case z_MOST_LOTS_EVER => k_is)
    (case z_MOST_CRATES => k_is)
    (case z_LAST_HOUR => k_is)
    (case z_MOST_HOURS => k_is)
    (case z_BEGIN => k_is)
    (case u_len => k_is)
    (case u_max => k_is)
    (case u_sorted => k_is)
    (case u_set => k_is)
    (case u_list => k_is)
    (case u_sum => k_is)
    (case u_min => k_is)
    (case a_CALLS => k_is)
    (case l_CALLS => k_is)
    (case r0 => k_is)
    (case r1 => k_is)
    (case r2 => k_is)
    (case r3 => k_is)
    (case r4 => k_is)
    (case r5 => k_is)
    (case r6 => k_is)
    (case r7 => k_is)
    (case r8 => k_is)
    (case r9 => k_is)
    (case r10 => k_is)
    (case r11 => k_is)
    (case r12 => k_is)
    (case r13 => k_is)
    (case r14 => k_is)
    (case r15 => k_is)
    (case r16 => k_is)
    (case r17 => k_is)
    (case r18 => k_is)
    (case r19 => k_is)
    (case r20 => k_is)
    (case r21 => k_is)
    (case r22 => k_is)
    (case r23 => k_is)
  case S =>
    intro K H xs a hO hwi hask hx
    cases hx with
    | cons h1 h2 =>
      cases h2
      cases h1 with
      | lst hs ha =>
        have e := L2.ints_dw a.1 _ ha
        subst e
        have q : ((Codec.inLen 0 12000 a.1 && a.1.all (Codec.inInt 0 4294967295)) && true) = true := hwi
        rw [Bool.and_eq_true, Bool.and_eq_true] at q
        have hn : ∃ ms : List Nat, Ct.intL ms = a.1 := ⟨a.1.map Int.toNat, by
          unfold Ct.intL
          rw [List.map_map]
          conv => rhs; rw [← List.map_id a.1]
          refine List.map_congr_left fun z hz => ?_
          have := Codec.inInt_iff.mp (List.all_eq_true.mp q.1.2 z hz)
          show ((z.toNat : Nat) : Int) = z
          omega⟩
        obtain ⟨ms, em⟩ := hn
        refine ⟨_, ms, rfl, ?_, ?_, fun H' p hp => ?_⟩
        · rw [← em] at hs
          unfold Ct.intL at hs
          rw [List.map_map] at hs
          exact hs
        · rw [em]
          exact hask
        · rw [em] at hp
          exact .lst (L2.SqL.of hp) (L2.dw_ints _)
