import PyProof.Rows.All
import Wide.All
import OpenK.AllK
import Wide.FinOn
import PyProof.EqAt
import PyProof.EqKinds
import PyProof.TupleCall
import KE.BitLaws
import Open.SpecLaws
import KE.OsHead
import KE.OsGo
import KE.KLam
import KE.KNestM
import KE.KSortKeyAny
import KE.KSortTupG
import PySem.Challenge.RW_shorewaters_s01_answers
set_option Elab.async false
set_option linter.all false
set_option maxRecDepth 100000
namespace L2
open PySem PySem.Spec PyProof.Rows

/-- a key: an int or a str -/
abbrev Key := Sum Int Str
def keyIs : Key → Value → Bool
  | .inl k, v => Value.isInt k v
  | .inr x, v => Value.isStrOf x v
def keyH (w : World) : Key → Int
  | .inl k => hashInt k
  | .inr x => hashStr w x
theorem keyIs_shape : ∀ {k : Key} {v : Value}, keyIs k v = true → (∃ i t, k = Sum.inl i ∧ v = Value.int i t) ∨ (∃ x t, k = Sum.inr x ∧ v = Value.str x t)
  | .inl i, v, h => by
    obtain ⟨t, e⟩ := Value.isInt_shape (k := i) (v := v) h
    exact .inl ⟨i, t, rfl, e⟩
  | .inr x, v, h => by
    obtain ⟨t, e⟩ := Value.isStrOf_shape (x := x) (v := v) h
    exact .inr ⟨x, t, rfl, e⟩
theorem key_ll (a b : Int) : decide ((Sum.inl a : Key) = Sum.inl b) = (a == b) := by
  by_cases e : a = b
  · subst e; simp
  · have h : ¬ (Sum.inl a : Key) = Sum.inl b := fun q => e (Sum.inl.inj q)
    rw [decide_eq_false h]
    exact (beq_eq_false_iff_ne.mpr e).symm
theorem key_rr (a b : Str) : decide ((Sum.inr a : Key) = Sum.inr b) = decide (a = b) := by
  by_cases e : a = b
  · subst e; simp
  · have h : ¬ (Sum.inr a : Key) = Sum.inr b := fun q => e (Sum.inr.inj q)
    rw [decide_eq_false h, decide_eq_false e]
theorem key_lr (a : Int) (b : Str) : decide ((Sum.inl a : Key) = Sum.inr b) = false := decide_eq_false (fun q => nomatch q)
theorem key_rl (a : Str) (b : Int) : decide ((Sum.inr a : Key) = Sum.inl b) = false := decide_eq_false (fun q => nomatch q)

def mixKind (prog : Program) (w : World) : PySem.KeyKind prog w Key where
  is := keyIs
  hash := keyH w
  inj := fun v a b ha hb => by
    rcases keyIs_shape ha with ⟨i, t, rfl, rfl⟩ | ⟨x, t, rfl, rfl⟩
    · rcases keyIs_shape hb with ⟨j, u, rfl, e⟩ | ⟨y, u, rfl, e⟩
      · injection e with e1 _; rw [e1]
      · exact nomatch e
    · rcases keyIs_shape hb with ⟨j, u, rfl, e⟩ | ⟨y, u, rfl, e⟩
      · exact nomatch e
      · injection e with e1 _; rw [e1]
  byValue := fun k v h => by
    rcases keyIs_shape h with ⟨i, t, rfl, rfl⟩ | ⟨x, t, rfl, rfl⟩ <;> rfl
  pyHash := fun hv h => by
    rcases keyIs_shape hv with ⟨i, t, rfl, rfl⟩ | ⟨x, t, rfl, rfl⟩
    · exact wpAny_pyHash_int h
    · exact wpAny_pyHash_str h
  eqBool := fun hu hv h => by
    rcases keyIs_shape hu with ⟨i, t, rfl, rfl⟩ | ⟨x, t, rfl, rfl⟩
    · rcases keyIs_shape hv with ⟨j, u, rfl, rfl⟩ | ⟨y, u, rfl, rfl⟩
      · rw [key_ll] at h; exact wpAny_eqBool_int h
      · rw [key_lr] at h; exact SeqAt.EqAt.int_str i t y u _ _ _ _ h
    · rcases keyIs_shape hv with ⟨j, u, rfl, rfl⟩ | ⟨y, u, rfl, rfl⟩
      · rw [key_rl] at h; exact SeqAt.EqAt.str_int x t j u _ _ _ _ h
      · rw [key_rr] at h; exact wpAny_eqBool_str h
  «strs» := fun k x t v h => by
    rcases keyIs_shape h with ⟨i, u, rfl, e⟩ | ⟨y, u, rfl, e⟩
    · exact nomatch e
    · injection e with e1 _
      subst e1
      cases v <;> rfl

end L2

namespace L2
open PySem PySem.Spec PyProof.Rows

/-- a value, without the heap -/
inductive V where
  | non | bl (b : Bool) | int (i : Int) | str (x : Str) | byt (b : Array UInt8) | flt (b : UInt64) | ref (a : Addr) | ty (n : String)
  deriving DecidableEq

def RelV : V → Value → Prop
  | .non, u => u = Value.none
  | .bl b, u => u = Value.bool b
  | .int i, u => ∃ t, u = Value.int i t
  | .str x, u => ∃ t, u = Value.str x t
  | .byt b, u => ∃ t, u = Value.bytes b t
  | .flt b, u => ∃ t, u = Value.float b t
  | .ref a, u => u = Value.ref a
  | .ty n, u => u = Value.type n

abbrev Vals : List V → List Value → Prop := Paired RelV
theorem Vals.length {xs : List V} {us : List Value} (r : Vals xs us) : xs.length = us.length := Paired.length r
theorem Vals.get : ∀ {xs : List V} {us : List Value} {i : Nat} {x : V}, Vals xs us → xs[i]? = some x → ∃ u, us[i]? = some u ∧ RelV x u
  | _, _, _, _, .nil, e => by simp at e
  | _, _, 0, _, .cons r _, e => by simp at e; subst e; exact ⟨_, rfl, r⟩
  | _, _, i + 1, x, .cons _ t, e => by
    obtain ⟨u, h1, h2⟩ := Vals.get (i := i) (x := x) t (by simpa using e)
    exact ⟨u, by simpa using h1, h2⟩
theorem Vals.set {x : V} {u : Value} (r : RelV x u) : ∀ {xs : List V} {us : List Value} (i : Nat), Vals xs us → Vals (xs.set i x) (us.set i u)
  | _, _, _, .nil => .nil
  | _, _, 0, .cons _ t => .cons r t
  | _, _, i + 1, .cons q t => .cons q (Vals.set r i t)
theorem Vals.append : ∀ {xs ys : List V} {us ws : List Value}, Vals xs us → Vals ys ws → Vals (xs ++ ys) (us ++ ws)
  | _, _, _, _, .nil, s => s
  | _, _, _, _, .cons r t, s => .cons r (Vals.append t s)
theorem Vals.take : ∀ {xs : List V} {us : List Value} (n : Nat), Vals xs us → Vals (xs.take n) (us.take n)
  | _, _, 0, _ => .nil
  | _, _, _ + 1, .nil => .nil
  | _, _, n + 1, .cons r t => .cons r (Vals.take n t)
theorem Vals.drop : ∀ {xs : List V} {us : List Value} (n : Nat), Vals xs us → Vals (xs.drop n) (us.drop n)
  | _, _, 0, r => r
  | _, _, _ + 1, .nil => .nil
  | _, _, n + 1, .cons _ t => Vals.drop n t
theorem Vals.none_of : ∀ {xs : List V} {us : List Value} {i : Nat}, Vals xs us → xs[i]? = none → us[i]? = none := fun {xs us i} r e => by
  have h1 := r.length
  have h2 : xs.length ≤ i := List.getElem?_eq_none_iff.mp e
  exact List.getElem?_eq_none_iff.mpr (by omega)

def RelO : Option V → Option Value → Prop
  | some v, some u => RelV v u
  | none, none => True
  | _, _ => False
def KV {κ : Type} : List (κ × V) → List (κ × Value) → Prop := Paired fun (p : κ × V) (q : κ × Value) => p.1 = q.1 ∧ RelV p.2 q.2

/-- a key of a dict (00_mix): an int or a text -/
def kV : Key → V
  | .inl i => .int i
  | .inr x => .str x

/-- what stands at a tracked address -/
inductive HO where
  /-- a list -/
  | lst (xs : List V)
  /-- a tuple (never changes) -/
  | tup (xs : List V)
  /-- a dict whose keys are ints and texts; one whose keys are tuples of ints and texts (the empty one is both) -/
  | dK (kvs : List (Key × V)) | dT (kvs : List (List Key × V))
  /-- a set of ints: its members, its size -/
  | set (S : Int → Bool) (n : Nat)
  /-- an instance of the class at C, its dict at dx, its attributes -/
  | ins (C dx : Addr) (fs : List (Str × V))
  /-- the dict of the instance at x -/
  | own (x : Addr)
  /-- the dict of an exception -/
  | xd (fs : List (Str × V))
  /-- a bound method, f of x -/
  | met (f x : Addr)
  /-- a range object lo, lo + 1, .. below hi -/
  | rng (lo hi : Int)
  /-- a thing that is known to the object (the script; a dict while a loop walks it): read, never written while it is so -/
  | frz (o : Obj) (u : HO)
  /-- a code object's table -/
  | tbl (ps : Array Value)
  /-- any other thing, by what is true of its one object (a def of one's own: SetO a S n := HO.ext fun h => ..) -/
  | ext (φ : Heap → Prop)

abbrev Hp := Addr → Option HO
def upd (H : Hp) (a : Addr) (o : HO) : Hp := fun b => if b = a then some o else H b
theorem upd_same {H : Hp} {a : Addr} {o : HO} : upd H a o a = some o := by unfold upd; rw [if_pos rfl]
theorem upd_ne {H : Hp} {a b : Addr} {o : HO} (h : b ≠ a) : upd H a o b = H b := by unfold upd; rw [if_neg h]
theorem upd_upd {H : Hp} {a : Addr} {o u : HO} : upd (upd H a o) a u = upd H a u := by
  funext b; unfold upd; split <;> rfl
/-- two objects of different content stand apart -/
theorem ne_of {H : Hp} {a b : Addr} {o u : HO} (h : H a = some o) (h' : H b = some u) (d : o ≠ u) : a ≠ b := by
  intro e; subst e; rw [h] at h'; exact d (Option.some.inj h')
theorem ne_of_none {H : Hp} {a b : Addr} {o : HO} (h : H a = some o) (h' : H b = none) : a ≠ b := by
  intro e; subst e; rw [h] at h'; cases h'

/-- the qualified name of the lambda in a row of the text -/
def lamQ (n : Nat) : Str := if n = 178 then "answer_greatest.<locals>.<lambda>" else if n = 93 then "measured_areas.<locals>.<lambda>" else if n = 64 then "mean_of.<locals>.<lambda>" else Str.empty
/-- a code table: whatever code stands in it is a record of its lambda's name, tracked as the table's own -/
def TabAt (H : Hp) (h : Heap) (a : Addr) : Prop := ∃ ps : Array Value, h.get? a = some { cls := .none, data := .fields ps } ∧ TriplesOk ps.toList ∧
  ∀ (pos : Pos) (c : Value), codeAmong pos ps.toList = some c → ∃ c' oc vs t, c = .ref c' ∧ H c' = some (.frz oc (.own c')) ∧ oc.data = .fields vs ∧ vs[1]? = some (.str (lamQ pos.line) t)
section
variable (P : Program) (w : World)
def ObjOk (H : Hp) (h : Heap) (a : Addr) : HO → Prop
  | .lst xs => xs.length ≤ sizeLine ∧ ∃ (its : List Value) (n : Nat), Vals xs its ∧ h.get? a = some { cls := .type "list", data := .seq its.toArray n }
  | .tup xs => xs.length ≤ sizeLine ∧ ∃ its : List Value, Vals xs its ∧ IsTup h a its.toArray
  | .dK kvs => kvs.length ≤ sizeLine ∧ (a == sysModules) = false ∧ ∃ vs, KV kvs vs ∧ h.DictOf (mixKind P w) a vs
  | .dT kvs => kvs.length ≤ sizeLine ∧ (a == sysModules) = false ∧ ∃ xs : List (List Key × Addr × Value),
      Paired (fun (p : List Key × V) (q : List Key × Addr × Value) => p.1 = q.1 ∧ H q.2.1 = some (.tup (p.1.map kV)) ∧ RelV p.2 q.2.2) kvs xs ∧
      ∃ o es ep, h.get? a = some o ∧ o.ExactDict ∧ o.data = .dict es ep ∧ es.toList = xs.map (entryOfKey (tupleKind (mixKind P w))) ∧ (xs.map (·.1)).Nodup
  | .set S n => h.SetOf (intKind P w) a S n
  | .ins C dx fs => H dx = some (.own a) ∧ fs.length ≤ 1000 ∧ dx ≠ a ∧ h.get? a = some (PySem.W.instObj C dx) ∧
      ∃ mA, h.Ns1 dx mA ∧ (∀ f, RelO (fs.lookup f) (mA f)) ∧ PySem.Within mA (fs.map (·.1))
  | .own _ => ∃ o, h.get? a = some o
  | .xd fs => ∃ mA, h.Ns1 a mA ∧ ∀ f, RelO (fs.lookup f) (mA f)
  | .rng lo hi => ∃ t u v, h.get? a = some { cls := .type "range", data := .fields #[.int lo t, .int hi u, .int 1 v] }
  | .frz o u => h.get? a = some o ∧ ObjOk H h a u
  | .tbl _ => TabAt H h a
  | .met f x => h.get? a = some (PySem.W.methodObj (.ref f) (.ref x))
  | .ext φ => φ h ∧ (∃ o, h.get? a = some o) ∧ ∀ h1 h2 : Heap, φ h1 → (∀ o, h1.get? a = some o → h2.get? a = some o) → φ h2
/-- the abstract heap is held -/
def HOk (H : Hp) (h : Heap) : Prop := ∀ a o, H a = some o → ObjOk P w H h a o
end

section
variable {P : Program} {w : World} {H H' : Hp} {h h' : Heap} {a : Addr} {o : HO}
theorem ObjOk.lt (x : ObjOk P w H h a o) : a < h.objs.size := by
  cases o with
  | lst xs => obtain ⟨_, _, _, _, e⟩ := x; exact Heap.lt_size e
  | tup xs => obtain ⟨_, _, _, p⟩ := x; exact p.lt
  | dK kvs => obtain ⟨_, _, _, _, o, _, _, e, _⟩ := x; exact Heap.lt_size e
  | dT kvs => obtain ⟨_, _, _, _, o, _, _, e, _⟩ := x; exact Heap.lt_size e
  | set S n => obtain ⟨o, _, _, _, e, _⟩ := x; exact Heap.lt_size e
  | ins C dx fs => obtain ⟨_, _, _, e, _⟩ := x; exact Heap.lt_size e
  | own y => obtain ⟨_, e⟩ := x; exact Heap.lt_size e
  | xd fs => obtain ⟨_, ⟨_, _, _, e, _⟩, _⟩ := x; exact Heap.lt_size e
  | rng lo hi => obtain ⟨_, _, _, e⟩ := x; exact Heap.lt_size e
  | frz ob u => obtain ⟨e, _⟩ := x; exact Heap.lt_size e
  | tbl ps => obtain ⟨_, e, _⟩ := x; exact Heap.lt_size e
  | met f y => exact Heap.lt_size (show h.get? a = some _ from x)
  | ext φ => obtain ⟨_, ⟨_, e⟩, _⟩ := x; exact Heap.lt_size e
theorem Paired.mapP {α β : Type} {F G : α → β → Prop} : ∀ {l₁ : List α} {l₂ : List β}, Paired F l₁ l₂ → (∀ a b, F a b → G a b) → Paired G l₁ l₂
  | _, _, .nil, _ => .nil
  | _, _, .cons r t, f => .cons (f _ _ r) (Paired.mapP t f)
/-- what an object's description leans on: its own object, its own dict, the tuples -/
theorem ObjOk.stay (x : ObjOk P w H h a o) (k : ∀ b u, (b = a ∨ H b = some (.own a)) → h.get? b = some u → h'.get? b = some u)
    (ho : ∀ b, H b = some (.own a) → H' b = some (.own a)) (ht : ∀ b xs, H b = some (.tup xs) → H' b = some (.tup xs))
    (hz : ∀ b o x, H b = some (.frz o (.own x)) → H' b = some (.frz o (.own x))) : ObjOk P w H' h' a o := by
  induction o with
  | lst xs => obtain ⟨z, its, n, r, e⟩ := x; exact ⟨z, its, n, r, k _ _ (.inl rfl) e⟩
  | tup xs => obtain ⟨z, its, r, ob, e, c⟩ := x; exact ⟨z, its, r, ob, k _ _ (.inl rfl) e, c⟩
  | dK kvs => obtain ⟨z, y, vs, r, ob, es, ep, e, c⟩ := x; exact ⟨z, y, vs, r, ob, es, ep, k _ _ (.inl rfl) e, c⟩
  | dT kvs =>
    obtain ⟨z, y, xs, r, ob, es, ep, e, c⟩ := x
    exact ⟨z, y, xs, Paired.mapP r fun p q z => ⟨z.1, ht _ _ z.2.1, z.2.2⟩, ob, es, ep, k _ _ (.inl rfl) e, c⟩
  | set S n => obtain ⟨ob, es, ep, t, e, c⟩ := x; exact ⟨ob, es, ep, t, k _ _ (.inl rfl) e, c⟩
  | ins C dx fs =>
    obtain ⟨d, z, ne, e, mA, ⟨od, es, ep, e2, c⟩, r⟩ := x
    exact ⟨ho _ d, z, ne, k _ _ (.inl rfl) e, mA, ⟨od, es, ep, k _ _ (.inr d) e2, c⟩, r⟩
  | own y => obtain ⟨ob, e⟩ := x; exact ⟨ob, k _ _ (.inl rfl) e⟩
  | xd fs => obtain ⟨mA, ⟨od, es, ep, e, c⟩, r⟩ := x; exact ⟨mA, ⟨od, es, ep, k _ _ (.inl rfl) e, c⟩, r⟩
  | rng lo hi => obtain ⟨t, u, v, e⟩ := x; exact ⟨t, u, v, k _ _ (.inl rfl) e⟩
  | frz ob u ih => obtain ⟨e, q⟩ := x; exact ⟨k _ _ (.inl rfl) e, ih q⟩
  | tbl ps =>
    obtain ⟨qs, e, tr, am⟩ := x
    refine ⟨qs, k _ _ (.inl rfl) e, tr, fun pos c q => ?_⟩
    obtain ⟨c', oc, vs, t, e1, e2, e3⟩ := am pos c q
    exact ⟨c', oc, vs, t, e1, hz _ _ _ e2, e3⟩
  | met f y =>
    have e : h.get? a = some (PySem.W.methodObj (.ref f) (.ref y)) := x
    show h'.get? a = some (PySem.W.methodObj (.ref f) (.ref y))
    exact k a _ (.inl rfl) e
  | ext φ => obtain ⟨p, ⟨o, e⟩, st⟩ := x; exact ⟨st _ _ p fun o q => k _ _ (.inl rfl) q, ⟨o, k _ _ (.inl rfl) e⟩, st⟩
theorem HOk.lt (x : HOk P w H h) (e : H a = some o) : a < h.objs.size := (x a o e).lt
theorem HOk.fresh (x : HOk P w H h) (e : h.objs.size ≤ a) : H a = none := by
  cases q : H a with
  | none => rfl
  | some u => exact absurd (Nat.lt_of_lt_of_le (x.lt q) e) (Nat.lt_irrefl _)
/-- every object of the heap is kept -/
theorem HOk.kept (x : HOk P w H h) (k : ∀ b u, h.get? b = some u → h'.get? b = some u) : HOk P w H h' := fun a o e =>
  (x a o e).stay (fun b u _ q => k b u q) (fun _ q => q) (fun _ _ q => q) fun _ _ _ q => q
/-- a new object is laid and tracked -/
theorem HOk.laid (x : HOk P w H h) (k : ∀ b u, h.get? b = some u → h'.get? b = some u) (hp : h.objs.size ≤ a) (new : ObjOk P w (upd H a o) h' a o) : HOk P w (upd H a o) h' := fun b u e => by
  have hn := x.fresh hp
  by_cases hb : b = a
  · subst hb; rw [upd_same] at e; cases e; exact new
  · rw [upd_ne hb] at e
    exact (x b u e).stay (fun c v _ q => k c v q) (fun c q => by rw [upd_ne (ne_of_none q hn)]; exact q) (fun c xs q => by rw [upd_ne (ne_of_none q hn)]; exact q) fun c o x q => by rw [upd_ne (ne_of_none q hn)]; exact q
end

/-- what may be read as u: it is u, or a known u -/
def Rd (H : Hp) (a : Addr) (u : HO) : Prop := H a = some u ∨ ∃ o, H a = some (.frz o u)
theorem Rd.of {H : Hp} {a : Addr} {u : HO} (h : H a = some u) : Rd H a u := .inl h
theorem Rd.ok {P : Program} {w : World} {H : Hp} {h : Heap} {a : Addr} {u : HO} (r : Rd H a u) (x : HOk P w H h) : ObjOk P w H h a u := by
  rcases r with r | ⟨o, r⟩
  · exact x a u r
  · obtain ⟨_, q⟩ := x a _ r
    exact q
/-- what may be written -/
def Mut : Option HO → Prop
  | some (.lst _) => True
  | some (.dK _) => True
  | some (.dT _) => True
  | some (.set _ _) => True
  | some (.ins _ _ _) => True
  | some (.ext _) => True
  | _ => False
section
variable {P : Program} {w : World} {H : Hp} {h h' : Heap} {x e : Addr} {o' : HO}
/-- the object at e is changed: x itself, or the dict of the instance x -/
theorem HOk.write (ok : HOk P w H h) (mu : Mut (H x)) (he : e = x ∨ H e = some (.own x)) (k : ∀ b u, b ≠ e → h.get? b = some u → h'.get? b = some u) (heo : ∃ u, h'.get? e = some u)
    (new : ObjOk P w (upd H x o') h' x o') : HOk P w (upd H x o') h' := fun b u q => by
  have nown : ∀ c y, H c = some (.own y) → c ≠ x := fun c y r z => by subst z; rw [r] at mu; exact mu
  have ntup : ∀ c xs, H c = some (.tup xs) → c ≠ x := fun c xs r z => by subst z; rw [r] at mu; exact mu
  have nfrz : ∀ c o y, H c = some (.frz o (.own y)) → c ≠ x := fun c o y r z => by subst z; rw [r] at mu; exact mu
  by_cases hb : b = x
  · subst hb; rw [upd_same] at q; cases q; exact new
  · rw [upd_ne hb] at q
    by_cases hbe : b = e
    · have q' : H b = some (.own x) := by
        rcases he with z | z
        · exact absurd (hbe.trans z) hb
        · rw [hbe]; exact z
      rw [q] at q'; cases q'
      obtain ⟨v, hv⟩ := heo
      exact ⟨v, by rw [hbe]; exact hv⟩
    · refine (ok b u q).stay (fun c v hc r => k c v ?_ r) (fun c r => by rw [upd_ne (nown c b r)]; exact r) (fun c xs r => by rw [upd_ne (ntup c xs r)]; exact r) fun c o y r => by rw [upd_ne (nfrz c o y r)]; exact r
      rcases hc with rfl | hc
      · exact hbe
      · rintro rfl
        rcases he with z | z
        · exact nown c b hc z
        · rw [hc] at z; cases z; exact hb rfl
end

structure Un (fs ex : List Addr) (H H' : Hp) (h h' : Heap) : Prop where
  keep : ∀ b o, h.get? b = some o → H b = none → b ∉ fs → b ∉ ex → h'.get? b = some o
  slot : ∀ b o, h.get? b = some o → H b = none → b ∈ fs → b ∉ ex → ∃ sl, h'.get? b = some { o with slots := sl }
  free : ∀ b o, h.get? b = some o → H b = none → b ∉ ex → H' b = none
  there : ∀ b o, h.get? b = some o → b ∉ ex → ∃ o', h'.get? b = some o'
  tups : ∀ b xs, H b = some (.tup xs) → H' b = some (.tup xs)
  frzs : ∀ b o u, H b = some (.frz o u) → H' b = some (.frz o u)
  tbls : ∀ b ps, H b = some (.tbl ps) → ∃ more, H' b = some (.tbl (ps ++ more))
section
variable {fs fs' ex ex' : List Addr} {H H1 H2 : Hp} {h h1 h2 h' : Heap} {a x e : Addr} {o : HO}
theorem Un.any (u : Un fs ex H H1 h h1) {b : Addr} {ob : Obj} (q : h.get? b = some ob) (n : H b = none) (hx : b ∉ ex) : ∃ sl, h1.get? b = some { ob with slots := sl } := by
  by_cases hb : b ∈ fs
  · exact u.slot b ob q n hb hx
  · exact ⟨ob.slots, u.keep b ob q n hb hx⟩
theorem Un.trans (a : Un fs ex H H1 h h1) (b : Un fs ex H1 H2 h1 h2) : Un fs ex H H2 h h2 where
  keep := fun c ob q n hc hx => b.keep c ob (a.keep c ob q n hc hx) (a.free c ob q n hx) hc hx
  slot := fun c ob q n hc hx => by
    obtain ⟨sl, e1⟩ := a.slot c ob q n hc hx
    obtain ⟨sl', e2⟩ := b.slot c _ e1 (a.free c ob q n hx) hc hx
    exact ⟨sl', e2⟩
  free := fun c ob q n hx => by
    obtain ⟨o', e1⟩ := a.there c ob q hx
    exact b.free c o' e1 (a.free c ob q n hx) hx
  there := fun c ob q hx => by
    obtain ⟨o', e1⟩ := a.there c ob q hx
    exact b.there c o' e1 hx
  tups := fun c xs q => b.tups c xs (a.tups c xs q)
  frzs := fun c ob xs q => b.frzs c ob xs (a.frzs c ob xs q)
  tbls := fun c ps q => by
    obtain ⟨m1, e1⟩ := a.tbls c ps q
    obtain ⟨m2, e2⟩ := b.tbls c _ e1
    exact ⟨m1 ++ m2, by rw [e2, Array.append_assoc]⟩
theorem Un.kept (k : ∀ b u, h.get? b = some u → h'.get? b = some u) : Un fs ex H H h h' :=
  ⟨fun b ob q _ _ _ => k b ob q, fun b ob q _ _ _ => ⟨ob.slots, k b ob q⟩, fun _ _ _ n _ => n, fun b ob q _ => ⟨ob, k b ob q⟩, fun _ _ q => q, fun _ _ _ q => q, fun _ ps q => ⟨#[], by rw [q]; simp⟩⟩
theorem Un.refl : Un fs ex H H h h := Un.kept fun _ _ q => q
theorem Un.laid (k : ∀ b u, h.get? b = some u → h'.get? b = some u) (hp : h.objs.size ≤ a) (hn : H a = none) : Un fs ex H (upd H a o) h h' where
  keep := fun b u q _ _ _ => k b u q
  slot := fun b u q _ _ _ => ⟨u.slots, k b u q⟩
  free := fun b u q n _ => by rw [upd_ne (Nat.ne_of_lt (Nat.lt_of_lt_of_le (Heap.lt_size q) hp))]; exact n
  there := fun b u q _ => ⟨u, k b u q⟩
  tups := fun b xs q => by rw [upd_ne (ne_of_none q hn)]; exact q
  frzs := fun b u xs q => by rw [upd_ne (ne_of_none q hn)]; exact q
  tbls := fun b ps q => ⟨#[], by rw [upd_ne (ne_of_none q hn), q]; simp⟩
theorem Un.write (mu : Mut (H x)) (he : e = x ∨ H e = some (.own x)) (k : ∀ b u, b ≠ e → h.get? b = some u → h'.get? b = some u) (heo : ∃ u, h'.get? e = some u) : Un fs ex H (upd H x o) h h' := by
  have hx : ∀ b, H b = none → b ≠ x := fun b n z => by subst z; rw [n] at mu; exact mu
  have hb : ∀ b, H b = none → b ≠ e := fun b n z => by
    subst z
    rcases he with r | r
    · exact hx b n r
    · rw [n] at r; cases r
  have hm : ∀ b u, H b = some u → ¬ Mut (some u) → b ≠ x := fun b u q nm z => by subst z; rw [q] at mu; exact nm mu
  refine ⟨fun b u q n _ _ => k b u (hb b n) q, fun b u q n _ _ => ⟨u.slots, k b u (hb b n) q⟩, fun b u q n _ => by rw [upd_ne (hx b n)]; exact n, fun b u q _ => ?_,
    fun b xs q => by rw [upd_ne (hm b _ q fun z => z)]; exact q, fun b u xs q => by rw [upd_ne (hm b _ q fun z => z)]; exact q, fun b ps q => ⟨#[], by rw [upd_ne (hm b _ q fun z => z), q]; simp⟩⟩
  by_cases hbe : b = e
  · subst hbe; exact heo
  · exact ⟨u, k b u hbe q⟩
theorem Un.mono (u : Un fs ex H H1 h h1) (hs : ∀ b ∈ fs, b ∈ fs') (hx : ∀ b ∈ ex, b ∈ ex') : Un fs' ex' H H1 h h1 :=
  ⟨fun b ob q n hb he => u.keep b ob q n (fun z => hb (hs b z)) fun z => he (hx b z), fun _ _ q n _ he => u.any q n fun z => he (hx _ z), fun b ob q n he => u.free b ob q n fun z => he (hx b z), fun b ob q he => u.there b ob q fun z => he (hx b z), u.tups, u.frzs, u.tbls⟩
end

def trk (h : Heap) (H : Hp) : List Addr := (List.range h.objs.size).filter fun a => (H a).isSome
def hidT (h : Heap) (H : Hp) : Heap := PySem.W.hideAll h (trk h H)
theorem hidT_size (h : Heap) (H : Hp) : (hidT h H).objs.size = h.objs.size := PySem.W.hideAll_size _ _
theorem hidT_get {h : Heap} {H : Hp} {b : Addr} {o : Obj} (e : h.get? b = some o) (n : H b = none) : (hidT h H).get? b = some o :=
  PySem.W.hideAll_get _ e fun hm => by
    have q : (H b).isSome = true := (List.mem_filter.mp hm).2
    rw [n] at q; simp at q
theorem of_hidT {h : Heap} {H : Hp} {b : Addr} {o : Obj} (e : (hidT h H).get? b = some o) : h.get? b = some o ∧ H b = none := by
  have e' : h.get? b = some o := PySem.W.of_hideAll (trk h H) e
  refine ⟨e', ?_⟩
  cases q : H b with
  | none => rfl
  | some x =>
    have hm : b ∈ trk h H := List.mem_filter.mpr ⟨List.mem_range.mpr (Heap.lt_size e'), by simp [q]⟩
    have z : (hidT h H).get? b = none := PySem.W.hideAll_none (trk h H) hm
    rw [z] at e; cases e

def allNews (g h : Heap) (L : Addr) : List (Addr × Obj) := (List.range h.objs.size).filterMap fun a => if a = L ∨ (g.get? a).isSome = true then none else (h.get? a).map fun o => (a, o)
def rest (g h : Heap) (L d : Addr) : List (Addr × Obj) := (allNews g h L).filter fun p => decide (p.1 ≠ d)
end L2

namespace L2
open PySem PySem.Spec PyProof.Rows

/-- the module's facts, over the base: the heap at the law's entry without what is tracked there -/
structure Mod (K : PySem.W.Frag) (mg : Str → Option Value) (base : Heap) : Prop where
  kin : K.In base
  glob : base.Ns mainGlobals mg
  blt : ∃ mb, base.Ns builtinsNs mb ∧ ∀ x : Str, x ≠ "__name__" → mb x = bootBuiltins x
  nolimit : base.NoLimit
  bm : ∃ bm o, mg "__builtins__" = some (.ref bm) ∧ bm ≠ builtinsNs ∧ base.get? bm = some o ∧ o.cls = .type "module" ∧ o.dict = some builtinsNs ∧ o.data = .plain

/-- the context: a def's body (or a comprehension's block) running. base: fixed through the whole law; s₀, H₀: the entry; outer: the frames whose slots others may change (a def's callers); stack: all frames that run;
   ex: iterators that were made ahead of the entry and are walked here (a comprehension's); fn: the names whose cells were made at the entry (a def: all; a comprehension's block: its own); calm: not within an except suite; pn: pins that every state bears; xe: what is wanted of an exception that leaves the code -/
structure Cx where
  prog : Program
  w : World
  K : PySem.W.Frag
  mg : Str → Option Value
  base : Heap
  A : Around
  N : List Str
  s_0 : Shared
  H_0 : Hp
  env : Env
  outer : List Env
  stack : List Env
  ex : List Addr
  fn : Str → Bool
  calm : Bool
  pn : List (Addr × Obj)
  xe : Value → Shared → Prop
/-- the callers' frames -/
def frs (l : List Env) : List Addr := l.filterMap (·.frame)
abbrev Cx.fs (X : Cx) : List Addr := frs X.outer

def Vis (sc : Scope) (x : Str) : Prop := sc.names.lookup x = some .local ∨ sc.names.lookup x = some .cell ∨ sc.names.lookup x = some .free
def Loc (sc : Scope) (x : Str) : Prop := sc.names.lookup x = some .local ∨ sc.names.lookup x = some .cell
def Look (env : Env) (h : Heap) (m : Str → Option Value) (x : Str) (u : Value) : Prop :=
  (env.kindOf x = some .local ∧ m x = some u) ∨ ((env.kindOf x = some .cell ∨ env.kindOf x = some .free) ∧ ∃ c, env.cells.lookup x = some c ∧ h.IsCell c (some u))

structure Cx.Ok (X : Cx) : Prop where
  mod : Mod X.K X.mg X.base
  kind : X.env.scope.kind = .function
  glob : X.env.globals = mainGlobals
  blt : X.env.builtins = builtinsNs
  above : X.s_0.heap.objs.size ≤ X.env.locals
  inj : ∀ x y c, X.env.cells.lookup x = some c → X.env.cells.lookup y = some c → x = y
  has : ∀ x, (X.env.kindOf x = some .cell ∨ X.env.kindOf x = some .free) → ∃ c, X.env.cells.lookup x = some c
  cab : ∀ x c, X.fn x = true → X.env.cells.lookup x = some c → X.s_0.heap.objs.size ≤ c
  hd : X.calm = true → X.A.handled = none
  frames : X.A.frames = some X.stack
  stk : X.stack = X.outer ∨ (X.stack = X.env :: X.outer ∧ X.env.frame = some X.env.locals)
  exf : ∀ b ∈ X.ex, b ≠ X.env.locals ∧ ∀ x c, X.env.cells.lookup x = some c → c ≠ b
  bs : ∀ b o, X.base.get? b = some o → X.s_0.heap.get? b = some o ∧ X.H_0 b = none
  bsz : X.base.objs.size ≤ X.s_0.heap.objs.size
  noex : ∀ b o, X.base.get? b = some o → b ∉ X.ex
  exfs : ∀ b ∈ X.ex, b ∉ X.fs
  funs : X.s_0.heap.FunFrames X.base X.outer
  frf : ∀ b ∈ X.fs, X.H_0 b = none
  tb : ∀ c P, PySem.W.codeHdIn X.K c P = true → X.base.get? P = none → ∃ ps, X.H_0 P = some (.tbl ps)

structure Inv (X : Cx) (pins : List (Addr × Obj)) (σ : List (Option V)) (H : Hp) (s : Shared) : Prop where
  ok : X.Ok
  os : s.os = X.s_0.os
  bare : AllBare s.gens
  base : Un X.fs X.ex X.H_0 H X.s_0.heap s.heap
  loc : ∃ m, s.heap.Ns X.env.locals m ∧ ∀ (i : Nat) (x : Str) (v : V), X.N[i]? = some x → σ[i]? = some (some v) → Vis X.env.scope x → ∃ u, RelV v u ∧ Look X.env s.heap m x u
  cell : ∀ x c, X.env.cells.lookup x = some c → ∃ v, s.heap.IsCell c v
  free : H X.env.locals = none
  freeC : ∀ x c, X.env.cells.lookup x = some c → H c = none
  pin : ∀ p ∈ X.pn ++ pins, s.heap.get? p.1 = some p.2 ∧ H p.1 = none ∧ p.1 ≠ X.env.locals ∧ p.1 ∉ X.fs ∧ ∀ v, p.2.data ≠ .cell v
  hok : HOk X.prog X.w H s.heap
  len : σ.length = X.N.length

section
variable {X : Cx} {pins : List (Addr × Obj)} {σ : List (Option V)} {H H' : Hp} {s : Shared} {h' : Heap}

theorem Inv.tb (I : Inv X pins σ H s) : ∀ c P, PySem.W.codeHdIn X.K c P = true → X.base.get? P = none → ∃ ps, H P = some (.tbl ps) := fun c P h1 h2 => by
  obtain ⟨ps, e⟩ := I.ok.tb c P h1 h2
  obtain ⟨more, e2⟩ := I.base.tbls P ps e
  exact ⟨_, e2⟩
theorem Cx.Ok.nofr (ok : X.Ok) {b : Addr} {o : Obj} (e : X.base.get? b = some o) : b ∉ X.fs := fun hb => by
  have := (ok.funs.mem hb).1
  rw [e] at this; cases this
theorem Inv.bs (I : Inv X pins σ H s) : ∀ b o, X.base.get? b = some o → s.heap.get? b = some o ∧ H b = none := fun b o e =>
  ⟨I.base.keep b o (I.ok.bs b o e).1 (I.ok.bs b o e).2 (I.ok.nofr e) (I.ok.noex b o e), I.base.free b o (I.ok.bs b o e).1 (I.ok.bs b o e).2 (I.ok.noex b o e)⟩
theorem Inv.bk (I : Inv X pins σ H s) : ∀ b o, X.base.get? b = some o → s.heap.get? b = some o := fun b o e => (I.bs b o e).1
theorem Inv.mod (I : Inv X pins σ H s) : Mod X.K X.mg X.base := I.ok.mod
theorem Inv.kIn (I : Inv X pins σ H s) : X.K.In s.heap := I.ok.mod.kin.keeps I.bk
theorem Inv.nolimit (I : Inv X pins σ H s) : s.heap.NoLimit := I.ok.mod.nolimit.keeps I.bk
/-- the frame over the base: for OpenK's rules (K.In X.base is I.mod.kin) -/
theorem Inv.fr (I : Inv X pins σ H s) : ∃ m, Fr X.base X.env.locals s.heap m :=
  let ⟨m, hn, _⟩ := I.loc
  ⟨m, hn, I.bk, Nat.le_trans I.ok.bsz I.ok.above⟩
theorem Inv.lt (I : Inv X pins σ H s) : X.env.locals < s.heap.objs.size := let ⟨_, hn, _⟩ := I.loc; hn.lt
theorem Inv.sz (I : Inv X pins σ H s) : X.s_0.heap.objs.size ≤ s.heap.objs.size := Nat.le_trans I.ok.above (Nat.le_of_lt I.lt)
theorem Inv.nofs (I : Inv X pins σ H s) {a : Addr} (h : s.heap.objs.size ≤ a) : a ∉ X.fs := fun hb => by
  obtain ⟨_, o, ho, _⟩ := I.ok.funs.mem hb
  exact absurd (Nat.lt_of_lt_of_le (Heap.lt_size ho) (Nat.le_trans I.sz h)) (Nat.lt_irrefl _)
theorem Inv.cne (I : Inv X pins σ H s) : ∀ x c, X.env.cells.lookup x = some c → c ≠ X.env.locals := fun x c e z => by
  obtain ⟨v, o, ho, hd⟩ := I.cell x c e
  obtain ⟨m, ⟨o', es, ep, ho', hd', _⟩, _⟩ := I.loc
  rw [z, ho'] at ho; cases ho; rw [hd'] at hd; cases hd
theorem Inv.funs (I : Inv X pins σ H s) : s.heap.FunFrames X.base X.outer := by
  have all : ∀ (l : List Env), (∀ b ∈ frs l, b ∈ X.fs) → X.s_0.heap.FunFrames X.base l → s.heap.FunFrames X.base l := by
    intro l
    induction l with
    | nil => intro _ _; trivial
    | cons env r ih =>
      intro hs hl
      obtain ⟨hk, ⟨L, o, hf, hn, ho, hd⟩, hr⟩ := hl
      have hL : L ∈ X.fs := hs L (by unfold frs; rw [List.filterMap_cons, hf]; exact List.mem_cons_self)
      obtain ⟨sl, e⟩ := I.base.slot L o ho (I.ok.frf L hL) hL fun z => I.ok.exfs L z hL
      exact ⟨hk, ⟨L, _, hf, hn, e, hd⟩, ih (fun b hb => hs b (by unfold frs; rw [List.filterMap_cons, hf]; exact List.mem_cons_of_mem _ hb)) hr⟩
  exact all X.outer (fun _ hb => hb) I.ok.funs

/-- the frames that run, for a call -/
theorem Inv.stack (I : Inv X pins σ H s) : s.heap.FunFrames X.base X.stack := by
  rcases I.ok.stk with e | ⟨e, hf⟩
  · rw [e]; exact I.funs
  · rw [e]
    obtain ⟨m, hn, _⟩ := I.loc
    refine .cons (by rw [I.ok.kind]; decide) hf hn ?_ I.funs
    exact Heap.get?_none_of_le (Nat.le_trans I.ok.bsz I.ok.above)
theorem Inv.stkSub (I : Inv X pins σ H s) : ∀ b ∈ frs X.stack, b ∈ X.env.locals :: X.fs := fun b hb => by
  rcases I.ok.stk with e | ⟨e, hf⟩
  · rw [e] at hb; exact List.mem_cons_of_mem _ hb
  · rw [e] at hb
    unfold frs at hb
    rw [List.filterMap_cons, hf] at hb
    exact hb
theorem Inv.stkFree (I : Inv X pins σ H s) : ∀ b ∈ frs X.stack, H b = none := fun b hb => by
  rcases List.mem_cons.mp (I.stkSub b hb) with e | hb
  · rw [e]; exact I.free
  · obtain ⟨_, o, ho, _⟩ := I.ok.funs.mem hb
    exact I.base.free b o ho (I.ok.frf b hb) fun z => I.ok.exfs b z hb

/-- THE STEP: the untracked objects but the frame and the records at ch are kept (the callers' frames up to slots), the frame's map is kept, the new abstract heap is held -/
theorem Inv.step {g' : Array GenState} {t' : Nat} {d' : Drawn} {ch : List Addr} (I : Inv X pins σ H s)
    (hch : ∀ b ∈ ch, (b ∈ X.ex ∨ X.s_0.heap.objs.size ≤ b) ∧ b ≠ X.env.locals ∧ (∀ x c, X.env.cells.lookup x = some c → c ≠ b) ∧ ∀ p ∈ X.pn ++ pins, p.1 ≠ b)
    (keep : ∀ b o, b ≠ X.env.locals → b ∉ X.fs → b ∉ ch → s.heap.get? b = some o → H b = none → h'.get? b = some o)
    (slot : ∀ b o, b ≠ X.env.locals → b ∈ X.fs → b ∉ ch → s.heap.get? b = some o → H b = none → ∃ sl, h'.get? b = some { o with slots := sl }) (free : ∀ b o, b ∉ ch → s.heap.get? b = some o → H b = none → H' b = none)
    (there : ∀ b o, b ∉ ch → s.heap.get? b = some o → ∃ o', h'.get? b = some o')
    (tups : ∀ b xs, H b = some (.tup xs) → H' b = some (.tup xs)) (frzs : ∀ b o u, H b = some (.frz o u) → H' b = some (.frz o u)) (tbls : ∀ b ps, H b = some (.tbl ps) → ∃ more, H' b = some (.tbl (ps ++ more)))
    (ns : ∀ m, s.heap.Ns X.env.locals m → h'.Ns X.env.locals m) (hok : HOk X.prog X.w H' h') (hg : AllBare g') :
    Inv X pins σ H' { s with heap := h', gens := g', drawn := d', toks := t' } := by
  have neL : ∀ b o, X.s_0.heap.get? b = some o → b ≠ X.env.locals := fun b o e => Nat.ne_of_lt (Nat.lt_of_lt_of_le (Heap.lt_size e) I.ok.above)
  have neC : ∀ b o, X.s_0.heap.get? b = some o → b ∉ X.ex → b ∉ ch := fun b o e hx hb => by
    rcases (hch b hb).1 with z | z
    · exact hx z
    · exact absurd (Nat.lt_of_lt_of_le (Heap.lt_size e) z) (Nat.lt_irrefl _)
  have cellK : ∀ x c, X.env.cells.lookup x = some c → ∀ v, s.heap.IsCell c v → h'.IsCell c v := fun x c e v ⟨o, ho, hd⟩ => by
    have nch : c ∉ ch := fun z => (hch c z).2.2.1 x c e rfl
    by_cases hc : c ∈ X.fs
    · obtain ⟨sl, q⟩ := slot c o (I.cne x c e) hc nch ho (I.freeC x c e)
      exact ⟨_, q, hd⟩
    · exact ⟨o, keep c o (I.cne x c e) hc nch ho (I.freeC x c e), hd⟩
  refine ⟨I.ok, I.os, hg, ⟨fun b o e n hb hx => ?_, fun b o e n hb hx => ?_, fun b o e n hx => ?_, fun b o e hx => ?_, fun b xs e => tups b xs (I.base.tups b xs e), fun b o xs e => frzs b o xs (I.base.frzs b o xs e), fun b ps e => ?_⟩, ?_, fun x c e => ?_, ?_, fun x c e => ?_, fun p hp => ?_, hok, I.len⟩
  · exact keep b o (neL b o e) hb (neC b o e hx) (I.base.keep b o e n hb hx) (I.base.free b o e n hx)
  · obtain ⟨sl, e1⟩ := I.base.slot b o e n hb hx
    obtain ⟨sl', e2⟩ := slot b _ (neL b o e) hb (neC b o e hx) e1 (I.base.free b o e n hx)
    exact ⟨sl', e2⟩
  · obtain ⟨o', e1⟩ := I.base.there b o e hx
    exact free b o' (neC b o e hx) e1 (I.base.free b o e n hx)
  · obtain ⟨o', e1⟩ := I.base.there b o e hx
    exact there b o' (neC b o e hx) e1
  · obtain ⟨m1, e1⟩ := I.base.tbls b ps e
    obtain ⟨m2, e2⟩ := tbls b _ e1
    exact ⟨m1 ++ m2, by rw [e2, Array.append_assoc]⟩
  · obtain ⟨m, hn, hl⟩ := I.loc
    refine ⟨m, ns m hn, fun i x v e1 e2 e3 => ?_⟩
    obtain ⟨u, r, l⟩ := hl i x v e1 e2 e3
    refine ⟨u, r, ?_⟩
    rcases l with l | ⟨k, c, e, z⟩
    · exact .inl l
    · exact .inr ⟨k, c, e, cellK x c e _ z⟩
  · obtain ⟨v, z⟩ := I.cell x c e
    exact ⟨v, cellK x c e v z⟩
  · obtain ⟨m, ⟨o, _, _, ho, _⟩, _⟩ := I.loc
    exact free _ o (fun z => (hch _ z).2.1 rfl) ho I.free
  · obtain ⟨v, o, ho, hd⟩ := I.cell x c e
    exact free c o (fun z => (hch c z).2.2.1 x c e rfl) ho (I.freeC x c e)
  · obtain ⟨e, n, ne, nf, d⟩ := I.pin p hp
    have nch : p.1 ∉ ch := fun z => (hch p.1 z).2.2.2 p hp rfl
    exact ⟨keep p.1 p.2 ne nf nch e n, free p.1 p.2 nch e n, ne, nf, d⟩
/-- .. where the frame's own object is kept too -/
theorem Inv.un {t' : Nat} (I : Inv X pins σ H s) (u : Un X.fs [] H H' s.heap h') (hok : HOk X.prog X.w H' h') : Inv X pins σ H' { s with heap := h', toks := t' } := by
  obtain ⟨m, ⟨o, es, ep, ho, r⟩, _⟩ := id I.loc
  obtain ⟨sl, hL⟩ := u.any ho I.free (by simp)
  exact I.step (g' := s.gens) (d' := s.drawn) (ch := []) (fun _ z => nomatch z) (fun b o _ hb _ e n => u.keep b o e n hb (by simp)) (fun b o _ hb _ e n => u.slot b o e n hb (by simp)) (fun b o _ e n => u.free b o e n (by simp)) (fun b o _ e => u.there b o e (by simp)) u.tups u.frzs u.tbls (fun m' hm => by
    obtain ⟨o', es', ep', ho', r'⟩ := hm
    rw [ho] at ho'; cases ho'
    exact ⟨_, es', ep', hL, r'⟩) hok I.bare
/-- behind a call (or a comprehension's block): the slots of this frame may have changed too, the records at ch may have turned -/
theorem Inv.call {g' : Array GenState} {t' : Nat} {d' : Drawn} {ch : List Addr} (I : Inv X pins σ H s) (u : Un (frs X.stack) ch H H' s.heap h') (hok : HOk X.prog X.w H' h') (hg : AllBare g')
    (hch : ∀ b ∈ ch, (b ∈ X.ex ∨ X.s_0.heap.objs.size ≤ b) ∧ b ≠ X.env.locals ∧ (∀ x c, X.env.cells.lookup x = some c → c ≠ b) ∧ ∀ p ∈ X.pn ++ pins, p.1 ≠ b) :
    Inv X pins σ H' { s with heap := h', gens := g', drawn := d', toks := t' } := by
  obtain ⟨m, ⟨o, es, ep, ho, r⟩, _⟩ := id I.loc
  obtain ⟨sl, hL⟩ := u.any ho I.free fun z => (hch _ z).2.1 rfl
  exact I.step (ch := ch) hch (fun b o hL hb hc e n => u.keep b o e n (fun z => (List.mem_cons.mp (I.stkSub b z)).elim hL hb) hc) (fun b o _ _ hc e n => u.any e n hc) (fun b o hc e n => u.free b o e n hc) (fun b o hc e => u.there b o e hc) u.tups u.frzs u.tbls (fun m' hm => by
    obtain ⟨o', es', ep', ho', r'⟩ := hm
    rw [ho] at ho'; cases ho'
    exact ⟨_, es', ep', hL, r'⟩) hok hg
/-- an untracked record of ours (an iterator) has turned -/
theorem Inv.turned {t' : Nat} {it : Addr} (I : Inv X pins σ H s) (k : ∀ b o, b ≠ it → s.heap.get? b = some o → h'.get? b = some o) (hn : H it = none) (hL : it ≠ X.env.locals)
    (h1 : it ∈ X.ex ∨ X.s_0.heap.objs.size ≤ it) (h2 : ∀ x c, X.env.cells.lookup x = some c → c ≠ it) (h3 : ∀ p ∈ X.pn ++ pins, p.1 ≠ it) : Inv X pins σ H { s with heap := h', toks := t' } := by
  have nit : ∀ b u, H b = some u → b ≠ it := fun b u e z => by rw [z, hn] at e; cases e
  refine I.step (g' := s.gens) (d' := s.drawn) (ch := [it]) (fun b hb => ?_) (fun b o _ _ hc e _ => k b o (fun z => hc (by simp [z])) e) (fun b o _ _ hc e _ => ⟨o.slots, k b o (fun z => hc (by simp [z])) e⟩) (fun _ _ _ _ n => n)
    (fun b o hc e => ⟨o, k b o (fun z => hc (by simp [z])) e⟩) (fun _ _ e => e) (fun _ _ _ e => e) (fun b ps e => ⟨#[], by rw [e]; simp⟩) (fun m hm => ?_) (fun b u e => ?_) I.bare
  · have e : b = it := by simpa using hb
    subst e
    exact ⟨h1, hL, h2, h3⟩
  · obtain ⟨o, es, ep, ho, r⟩ := hm
    exact ⟨o, es, ep, k _ o (Ne.symm hL) ho, r⟩
  · refine (I.hok b u e).stay (fun c v hc q => k c v ?_ q) (fun _ q => q) (fun _ _ q => q) fun _ _ _ q => q
    rcases hc with z | z
    · rw [z]; exact nit b u e
    · exact nit c _ z
theorem Inv.tok (I : Inv X pins σ H s) (t : Nat) : Inv X pins σ H { s with toks := t } := I.un (h' := s.heap) (t' := t) Un.refl I.hok
/-- all objects kept -/
theorem Inv.kept {t' : Nat} (I : Inv X pins σ H s) (k : ∀ b u, s.heap.get? b = some u → h'.get? b = some u) : Inv X pins σ H { s with heap := h', toks := t' } := I.un (Un.kept k) (I.hok.kept k)
/-- a new object laid and tracked -/
theorem Inv.laid {a : Addr} {o : HO} {t' : Nat} (I : Inv X pins σ H s) (k : ∀ b u, s.heap.get? b = some u → h'.get? b = some u) (hp : s.heap.objs.size ≤ a) (new : ObjOk X.prog X.w (upd H a o) h' a o) :
    Inv X pins σ (upd H a o) { s with heap := h', toks := t' } := I.un (Un.laid k hp (I.hok.fresh hp)) (I.hok.laid k hp new)
/-- an object written -/
theorem Inv.write {x e : Addr} {o : HO} {t' : Nat} (I : Inv X pins σ H s) (mu : Mut (H x)) (he : e = x ∨ H e = some (.own x)) (k : ∀ b u, b ≠ e → s.heap.get? b = some u → h'.get? b = some u) (heo : ∃ u, h'.get? e = some u)
    (new : ObjOk X.prog X.w (upd H x o) h' x o) : Inv X pins σ (upd H x o) { s with heap := h', toks := t' } := I.un (Un.write mu he k heo) (I.hok.write mu he k heo new)
/-- forgetting slots, pins -/
theorem Inv.weak {σ' : List (Option V)} (I : Inv X pins σ H s) (hl : σ'.length = σ.length) (w : ∀ (i : Nat) v, σ'[i]? = some (some v) → σ[i]? = some (some v)) : Inv X pins σ' H s :=
  ⟨I.ok, I.os, I.bare, I.base, let ⟨m, hn, hl'⟩ := I.loc; ⟨m, hn, fun i x v e1 e2 e3 => hl' i x v e1 (w i v e2) e3⟩, I.cell, I.free, I.freeC, I.pin, I.hok, hl.trans I.len⟩
theorem Inv.pins_of {pins' : List (Addr × Obj)} (I : Inv X pins σ H s) (h : ∀ p ∈ pins', s.heap.get? p.1 = some p.2 ∧ H p.1 = none ∧ p.1 ≠ X.env.locals ∧ p.1 ∉ X.fs ∧ ∀ v, p.2.data ≠ .cell v) : Inv X pins' σ H s :=
  ⟨I.ok, I.os, I.bare, I.base, I.loc, I.cell, I.free, I.freeC, fun p hp => (List.mem_append.mp hp).elim (fun z => I.pin p (List.mem_append_left _ z)) (h p), I.hok, I.len⟩

theorem nodup_ix {N : List Str} (hN : N.Nodup) {i j : Nat} {x : Str} (a : N[i]? = some x) (b : N[j]? = some x) : i = j := by
  obtain ⟨h1, e1⟩ := List.getElem?_eq_some_iff.mp a
  obtain ⟨h2, e2⟩ := List.getElem?_eq_some_iff.mp b
  exact (List.getElem_inj hN).mp (e1.trans e2.symm)

/-- a name is stored; what changed -/
theorem store_ok2 {M : Model} {A : Around} {E : Value → Shared → Prop} {i : Nat} {x : Str} {v : V} {u : Value} {Q : Unit → Shared → Prop} (I : Inv X pins σ H s) (hN : X.N.Nodup) (hi : X.N[i]? = some x) (hx : Loc X.env.scope x) (r : RelV v u)
    (h : ∀ s', Inv X pins (σ.set i (some v)) H s' → (∃ a, Heap.SameBut a s.heap s'.heap ∧ (a = X.env.locals ∨ X.env.cells.lookup x = some a)) → Q () s') (hf : X.fn x = true ∨ X.env.scope.names.lookup x = some .local := by first | exact .inl rfl | exact .inr rfl | assumption) : wpAny M A (storeName X.env x u) Q E s := by
  obtain ⟨m, hn, hl⟩ := id I.loc
  have hcls : (X.env.scope.kind == .class || (X.env.scope.kind == .module && X.env.locals != X.env.globals)) = false := by rw [I.ok.kind]; rfl
  have hiσ : i < σ.length := by rw [I.len]; exact (List.getElem?_eq_some_iff.mp hi).1
  have cne := I.cne
  have tracked : ∀ {a : Addr} {h' : Heap}, (∃ o, s.heap.get? a = some o ∧ H a = none) → Heap.SameBut a s.heap h' → HOk X.prog X.w H h' := fun {a h'} ha hs b ob e => by
    obtain ⟨_, _, hfree⟩ := ha
    refine (I.hok b ob e).stay (fun c w' hc q => (hs.2 c ?_).trans q) (fun _ q => q) (fun _ _ q => q) fun _ _ _ q => q
    rintro rfl
    rcases hc with rfl | hc
    · rw [hfree] at e; cases e
    · rw [hfree] at hc; cases hc
  rcases hx with hk | hk
  · refine wpAny_storeName_local hk hn (fun h' hn' hs => ?_) hcls
    obtain ⟨oL, _, _, hoL, _⟩ := id hn
    refine h _ ⟨I.ok, I.os, I.bare, ⟨fun b o e n hb hx => ?_, fun b o e n hb hx => ?_, I.base.free, fun b o e hx => ?_, I.base.tups, I.base.frzs, I.base.tbls⟩, ⟨_, hn', fun j y v' e1 e2 e3 => ?_⟩, fun y c e => ?_, I.free, I.freeC, fun p hp => ?_, tracked ⟨oL, hoL, I.free⟩ hs, by simpa using I.len⟩ ⟨_, hs, .inl rfl⟩
    · exact (hs.2 b (Nat.ne_of_lt (Nat.lt_of_lt_of_le (Heap.lt_size e) I.ok.above))).trans (I.base.keep b o e n hb hx)
    · obtain ⟨sl, e1⟩ := I.base.slot b o e n hb hx
      exact ⟨sl, (hs.2 b (Nat.ne_of_lt (Nat.lt_of_lt_of_le (Heap.lt_size e) I.ok.above))).trans e1⟩
    · obtain ⟨o', e1⟩ := I.base.there b o e hx
      exact ⟨o', (hs.2 b (Nat.ne_of_lt (Nat.lt_of_lt_of_le (Heap.lt_size e) I.ok.above))).trans e1⟩
    · by_cases hj : j = i
      · subst hj
        rw [hi] at e1; cases e1
        rw [List.getElem?_set_self hiσ] at e2
        cases e2
        exact ⟨u, r, .inl ⟨hk, by simp⟩⟩
      · rw [List.getElem?_set_ne (Ne.symm hj)] at e2
        obtain ⟨u', r', q⟩ := hl j y v' e1 e2 e3
        refine ⟨u', r', ?_⟩
        rcases q with ⟨k, e⟩ | ⟨k, c, e, z⟩
        · refine .inl ⟨k, ?_⟩
          have : y ≠ x := fun e => hj (nodup_ix hN e1 (e ▸ hi))
          simp [this, e]
        · exact .inr ⟨k, c, e, z.sameBut hs (cne y c e)⟩
    · obtain ⟨w', z⟩ := I.cell y c e
      exact ⟨w', z.sameBut hs (cne y c e)⟩
    · obtain ⟨e, n, ne, nf, d⟩ := I.pin p hp
      exact ⟨(hs.2 p.1 ne).trans e, n, ne, nf, d⟩
  · have hfn : X.fn x = true := by
      rcases hf with z | z
      · exact z
      · rw [z] at hk; cases hk
    obtain ⟨c, hc⟩ := I.ok.has x (.inl hk)
    obtain ⟨w', z⟩ := I.cell x c hc
    refine wpAny_storeName_cell I.ok.kind hk hc z (fun h' hc' hs => ?_)
    obtain ⟨oc, hoc, hocd⟩ := id z
    refine h { s with heap := h' } ⟨I.ok, I.os, I.bare, ⟨fun b o e n hb hx => ?_, fun b o e n hb hx => ?_, I.base.free, fun b o e hx => ?_, I.base.tups, I.base.frzs, I.base.tbls⟩, ⟨m, hn.sameBut hs (Ne.symm (cne x c hc)), fun j y v' e1 e2 e3 => ?_⟩, fun y c' e => ?_, I.free, I.freeC, fun p hp => ?_, tracked ⟨oc, hoc, I.freeC x c hc⟩ hs, by simpa using I.len⟩ ⟨c, hs, .inr hc⟩
    · exact (hs.2 b (Nat.ne_of_lt (Nat.lt_of_lt_of_le (Heap.lt_size e) (I.ok.cab x c hfn hc)))).trans (I.base.keep b o e n hb hx)
    · obtain ⟨sl, e1⟩ := I.base.slot b o e n hb hx
      exact ⟨sl, (hs.2 b (Nat.ne_of_lt (Nat.lt_of_lt_of_le (Heap.lt_size e) (I.ok.cab x c hfn hc)))).trans e1⟩
    · obtain ⟨o', e1⟩ := I.base.there b o e hx
      exact ⟨o', (hs.2 b (Nat.ne_of_lt (Nat.lt_of_lt_of_le (Heap.lt_size e) (I.ok.cab x c hfn hc)))).trans e1⟩
    · by_cases hj : j = i
      · subst hj
        rw [hi] at e1; cases e1
        rw [List.getElem?_set_self hiσ] at e2
        cases e2
        exact ⟨u, r, .inr ⟨.inl hk, c, hc, hc'⟩⟩
      · rw [List.getElem?_set_ne (Ne.symm hj)] at e2
        obtain ⟨u', r', q⟩ := hl j y v' e1 e2 e3
        refine ⟨u', r', ?_⟩
        rcases q with q | ⟨k, c', e, z'⟩
        · exact .inl q
        · refine .inr ⟨k, c', e, z'.sameBut hs ?_⟩
          rintro rfl
          exact hj (nodup_ix hN e1 (I.ok.inj _ _ _ e hc ▸ hi))
    · by_cases hcc : c' = c
      · subst hcc; exact ⟨_, hc'⟩
      · obtain ⟨w2, z2⟩ := I.cell y c' e
        exact ⟨w2, z2.sameBut hs hcc⟩
    · obtain ⟨e, n, ne, nf, d⟩ := I.pin p hp
      refine ⟨(hs.2 p.1 ?_).trans e, n, ne, nf, d⟩
      intro q
      rw [q, hoc] at e
      have q' : oc = p.2 := Option.some.inj e
      exact d w' (by rw [← q']; exact hocd)
theorem store_ok {M : Model} {A : Around} {E : Value → Shared → Prop} {i : Nat} {x : Str} {v : V} {u : Value} {Q : Unit → Shared → Prop} (I : Inv X pins σ H s) (hN : X.N.Nodup) (hi : X.N[i]? = some x) (hx : Loc X.env.scope x) (r : RelV v u)
    (h : ∀ s', Inv X pins (σ.set i (some v)) H s' → Q () s') (hf : X.fn x = true ∨ X.env.scope.names.lookup x = some .local := by first | exact .inl rfl | exact .inr rfl | assumption) : wpAny M A (storeName X.env x u) Q E s :=
  store_ok2 I hN hi hx r (fun s' I' _ => h s' I') hf
/-- behind a call or a block, the state as it is -/
theorem Inv.call' {s' : Shared} {ch : List Addr} (I : Inv X pins σ H s) (ho : s'.os = s.os) (u : Un (frs X.stack) ch H H' s.heap s'.heap) (hok : HOk X.prog X.w H' s'.heap) (hg : AllBare s'.gens)
    (hch : ∀ b ∈ ch, (b ∈ X.ex ∨ X.s_0.heap.objs.size ≤ b) ∧ b ≠ X.env.locals ∧ (∀ x c, X.env.cells.lookup x = some c → c ≠ b) ∧ ∀ p ∈ X.pn ++ pins, p.1 ≠ b) : Inv X pins σ H' s' := by
  obtain ⟨h', g', d', t', o'⟩ := s'
  have e : o' = s.os := ho
  subst e
  exact I.call (g' := g') (t' := t') (d' := d') u hok hg hch
end

/-- an exception: its class, its own dict's address (where it has one), the abstract heap behind it -/
abbrev XK := Value → Option Addr → Hp → Prop
abbrev St := List (Option V)
abbrev VK := V → Hp → Prop
/-- an expression's reading; a test's; an argument list's -/
abbrev TE := St → Hp → VK → Prop
abbrev TT := St → Hp → (Bool → Hp → Prop) → Prop
abbrev TA := St → Hp → (List V → Hp → Prop) → Prop
/-- what is wanted behind a statement -/
structure Ends where
  nx : St → Hp → Prop
  rt : VK
  bk : St → Hp → Prop := fun _ _ => False
  ct : St → Hp → Prop := fun _ _ => False
abbrev TS := Ends → St → Hp → Prop

def EP (X : Cx) (pins : List (Addr × Obj)) (σ : St) (Q : VK) (u : Value) (s' : Shared) : Prop := ∃ v H', Inv X pins σ H' s' ∧ RelV v u ∧ Q v H'
def TP (X : Cx) (pins : List (Addr × Obj)) (σ : St) (Q : Bool → Hp → Prop) (b : Bool) (s' : Shared) : Prop := ∃ H', Inv X pins σ H' s' ∧ Q b H'
def AP (X : Cx) (pins : List (Addr × Obj)) (σ : St) (Q : List V → Hp → Prop) (us : List Value) (s' : Shared) : Prop := ∃ vs H', Inv X pins σ H' s' ∧ Vals vs us ∧ Q vs H'
def SP (X : Cx) (pins : List (Addr × Obj)) (D : Ends) (f : Flow) (s' : Shared) : Prop :=
  match f with
  | .next => ∃ σ' H', Inv X pins σ' H' s' ∧ D.nx σ' H'
  | .brk => ∃ σ' H', Inv X pins σ' H' s' ∧ D.bk σ' H'
  | .cont => ∃ σ' H', Inv X pins σ' H' s' ∧ D.ct σ' H'
  | .ret u => ∃ v σ' H', Inv X pins σ' H' s' ∧ RelV v u ∧ D.rt v H'

def PE (X : Cx) (e : Expr) (t : TE) : Prop :=
  ∀ (pins : List (Addr × Obj)) (s : Shared) (σ : St) (H : Hp) (Q : VK), Inv X pins σ H s → t σ H Q → wpAny (model X.prog X.w) X.A (eval e X.env) (EP X pins σ Q) X.xe s
def PT (X : Cx) (e : Expr) (t : TT) : Prop :=
  ∀ (pins : List (Addr × Obj)) (s : Shared) (σ : St) (H : Hp) (Q : Bool → Hp → Prop), Inv X pins σ H s → t σ H Q → wpAny (model X.prog X.w) X.A (isTrue e X.env (eval e X.env)) (TP X pins σ Q) X.xe s
/-- a test whatever its 'whole' is (and, or) -/
def PW (X : Cx) (e : Expr) (t : TT) : Prop :=
  ∀ (whole : Sem Value) (pins : List (Addr × Obj)) (s : Shared) (σ : St) (H : Hp) (Q : Bool → Hp → Prop), Inv X pins σ H s → t σ H Q → wpAny (model X.prog X.w) X.A (isTrue e X.env whole) (TP X pins σ Q) X.xe s
theorem PW.pt {X : Cx} {e : Expr} {t : TT} (h : PW X e t) : PT X e t := h _
/-- an argument list (no star), from the left -/
def PA (X : Cx) (es : List Expr) (t : TA) : Prop :=
  ∀ (pos : Pos) (pins : List (Addr × Obj)) (s : Shared) (σ : St) (H : Hp) (Q : List V → Hp → Prop), Inv X pins σ H s → t σ H Q → wpAny (model X.prog X.w) X.A (spliced (backTo pos (starEach es X.env))) (AP X pins σ Q) X.xe s
def PS (X : Cx) (st : Stmt) (t : TS) : Prop :=
  ∀ (pins : List (Addr × Obj)) (s : Shared) (σ : St) (H : Hp) (D : Ends), Inv X pins σ H s → t D σ H → wpAny (model X.prog X.w) X.A (exec st X.env) (SP X pins D) X.xe s
def PSs (X : Cx) (st : List Stmt) (t : TS) : Prop :=
  ∀ (pins : List (Addr × Obj)) (s : Shared) (σ : St) (H : Hp) (D : Ends), Inv X pins σ H s → t D σ H → wpAny (model X.prog X.w) X.A (execs st X.env) (SP X pins D) X.xe s
/-- weaken the end -/
theorem thn {α : Type} {t : Sem α} {Q Q' : α → Shared → Prop} {M : Model} {A : Around} {E : Value → Shared → Prop} {s : Shared} (h : wpAny M A t Q E s) (hQ : ∀ a s, Q a s → Q' a s) : wpAny M A t Q' E s := wpAny_mono h hQ fun _ _ x => x
end L2

namespace L2
open PySem PySem.Spec PyProof.Rows
section
variable {X : Cx}

def tVar (i : Nat) : TE := fun σ H Q => ∃ v, σ[i]? = some (some v) ∧ Q v H
def tC (v : V) : TE := fun _ H Q => Q v H
theorem pe_var {i : Nat} {x : Str} {pos : Pos} (hN : X.N[i]? = some x) (hv : Vis X.env.scope x) (hd : (x == ("__debug__" : Str)) = false := by decide) (hcd : (x == ("__classdict__" : Str)) = false := by decide) : PE X (.Name x pos) (tVar i) := by
  intro pins s σ H Q I h
  obtain ⟨v, e, h⟩ := h
  obtain ⟨m, hn, hl⟩ := I.loc
  obtain ⟨u, r, l⟩ := hl i x v hN e hv
  have fin : EP X pins σ Q u s := ⟨v, H, I, r, h⟩
  rcases l with ⟨hk, hm⟩ | ⟨hk, c, hc, hcell⟩
  · exact wpAny_Name (wpAny_loadName_local I.ok.kind hk hn hm fin) hd
  · rcases hk with hk | hk
    · exact wpAny_Name (wpAny_loadName_cell I.ok.kind hk hc hcell fin) hd
    · exact wpAny_Name (wpAny_loadName_free I.ok.kind hk hc hcell fin hcd) hd
theorem pe_int {i j pos} : PE X (.Constant (.int i) j pos) (tC (.int i)) := fun _ _ _ H _ I h => wpAny_Constant_int ⟨.int i, H, I.tok _, ⟨_, rfl⟩, h⟩
theorem pe_bl {b j pos} : PE X (.Constant (.bool b) j pos) (tC (.bl b)) := fun _ _ _ H _ I h => Constant_bool ⟨.bl b, H, I, rfl, h⟩
/-- a global name of the def -/
def Gl (X : Cx) (x : Str) : Prop := X.env.kindOf x = some .globalImplicit
theorem ld_glob {E : Value → Shared → Prop} {pins : List (Addr × Obj)} {s : Shared} {σ : St} {H : Hp} {x : Str} {u : Value} {pos : Pos} {Q : Value → Shared → Prop} (I : Inv X pins σ H s) (hg : Gl X x) (hm : X.mg x = some u) (h : Q u s)
    (hd : (x == ("__debug__" : Str)) = false := by decide) : wpAny (model X.prog X.w) X.A (eval (.Name x pos) X.env) Q E s :=
  Calls.Name_function_global I.ok.kind hg (Calls.loadGlobal_global (by rw [I.ok.glob]; exact I.mod.glob.keeps I.bk) hm h) hd
theorem ld_blt {E : Value → Shared → Prop} {pins : List (Addr × Obj)} {s : Shared} {σ : St} {H : Hp} {x : Str} {u : Value} {pos : Pos} {Q : Value → Shared → Prop} (I : Inv X pins σ H s) (hg : Gl X x) (hm : X.mg x = none) (hv : bootBuiltins x = some u) (h : Q u s)
    (hn : x ≠ "__name__" := by decide) (hd : (x == ("__debug__" : Str)) = false := by decide) : wpAny (model X.prog X.w) X.A (eval (.Name x pos) X.env) Q E s := by
  obtain ⟨mb, h1, h2⟩ := I.mod.blt
  exact Calls.Name_function_global I.ok.kind hg (Calls.loadGlobal_builtin (by rw [I.ok.glob]; exact I.mod.glob.keeps I.bk) hm (by rw [I.ok.blt]; exact h1.keeps I.bk) ((h2 x hn).trans hv) h) hd
/-- a module's constant, a class, a function, as a value -/
theorem pe_glob {x : Str} {v : V} {u : Value} {pos : Pos} (hg : Gl X x) (hm : X.mg x = some u) (r : RelV v u) (hd : (x == ("__debug__" : Str)) = false := by decide) : PE X (.Name x pos) (tC v) :=
  fun _ _ _ H _ I h => ld_glob I hg hm ⟨v, H, I, r, h⟩ hd
variable {a b : Expr} {ta tb : TE} {pos : Pos}
/-- a comparison as a value, as a test -/
def tB (t : TE) : TT := fun σ H Q => t σ H fun x H1 => ∃ c, x = .bl c ∧ Q c H1
/-- an expression whose value is a bool, as a test -/
theorem pt_val {e : Expr} {t : TE} (h : PE X e t) (he : ∀ whole, isTrue e X.env whole = (do let v ← whole; standAt e.pos; holding [v] (truthy v)) := by intro _; rfl) : PT X e (tB t) := by
  intro pins s σ H Q I hw
  refine isTrue_plain (thn (h pins s σ H _ I hw) fun v s1 ⟨x, H1, I1, r1, q1⟩ => ?_) (he _)
  obtain ⟨d, rfl, q⟩ := q1
  cases r1
  exact wpAny_truthy_bool ⟨H1, I1, q⟩

variable {tA tB' : TT} {rest : List Expr}
def tAnd (t u : TT) : TT := fun σ H Q => t σ H fun c H1 => if c = true then u σ H1 Q else Q false H1
def tOr (t u : TT) : TT := fun σ H Q => t σ H fun c H1 => if c = true then Q true H1 else u σ H1 Q
def tNot (t : TT) : TT := fun σ H Q => t σ H fun c H1 => Q (!c) H1
theorem pw_and1 (ha : PT X a tA) : PW X (.BoolOp .And [a] pos) tA := by
  intro wh pins s σ H Q I h
  refine isTrue_and (thn (ha pins s σ H Q I h) fun c s1 e => ?_)
  cases c with
  | true => exact isTrue_and_nil e
  | false => exact e
theorem pw_or1 (ha : PT X a tA) : PW X (.BoolOp .Or [a] pos) tA := by
  intro wh pins s σ H Q I h
  refine isTrue_or (thn (ha pins s σ H Q I h) fun c s1 e => ?_)
  cases c with
  | false => exact isTrue_or_nil e
  | true => exact e
theorem pw_and (ha : PT X a tA) (hb : PW X (.BoolOp .And (b :: rest) pos) tB') : PW X (.BoolOp .And (a :: b :: rest) pos) (tAnd tA tB') := by
  intro wh pins s σ H Q I h
  refine isTrue_and (thn (ha pins s σ H _ I h) fun c s1 ⟨H1, I1, q1⟩ => ?_)
  cases c with
  | true => exact hb wh pins s1 σ H1 Q I1 q1
  | false => exact ⟨H1, I1, q1⟩
theorem pw_or (ha : PT X a tA) (hb : PW X (.BoolOp .Or (b :: rest) pos) tB') : PW X (.BoolOp .Or (a :: b :: rest) pos) (tOr tA tB') := by
  intro wh pins s σ H Q I h
  refine isTrue_or (thn (ha pins s σ H _ I h) fun c s1 ⟨H1, I1, q1⟩ => ?_)
  cases c with
  | true => exact ⟨H1, I1, q1⟩
  | false => exact hb wh pins s1 σ H1 Q I1 q1
theorem pt_not (ha : PT X a tA) : PT X (.UnaryOp .Not a pos) (tNot tA) := by
  intro pins s σ H Q I h
  exact isTrue_not (ha pins s σ H (fun c H1 => Q (!c) H1) I h)
/-- .. as values (bools) -/
def tAndV (ta tb : TE) : TE := fun σ H Q => ta σ H fun x H1 => ∃ c, x = .bl c ∧ if c = true then tb σ H1 Q else Q (.bl false) H1
def tNotV (ta : TE) : TE := fun σ H Q => ta σ H fun x H1 => ∃ c, x = .bl c ∧ Q (.bl (!c)) H1
theorem pe_one {op} {t : TE} (h : PE X a t) : PE X (.BoolOp op [a] pos) t := fun pins s σ H Q I hw => BoolOp_one (h pins s σ H Q I hw)
theorem pe_and (ha : PE X a ta) (hb : PE X (.BoolOp .And (b :: rest) pos) tb) : PE X (.BoolOp .And (a :: b :: rest) pos) (tAndV ta tb) := by
  intro pins s σ H Q I h
  refine BoolOp_and (thn (ha pins s σ H _ I h) fun v s1 ⟨x, H1, I1, r1, q1⟩ => ?_)
  obtain ⟨c, rfl, q1⟩ := q1
  cases r1
  refine wpAny_truthy_bool ?_
  cases c with
  | true => exact hb pins s1 σ H1 Q I1 q1
  | false => exact ⟨.bl false, H1, I1, rfl, q1⟩
theorem pe_not (ha : PE X a ta) : PE X (.UnaryOp .Not a pos) (tNotV ta) := by
  intro pins s σ H Q I h
  refine UnaryOp_ (thn (ha pins s σ H _ I h) fun v s1 ⟨x, H1, I1, r1, q1⟩ => ?_)
  obtain ⟨c, rfl, q1⟩ := q1
  cases r1
  exact not_of (wpAny_truthy_bool ⟨.bl (!c), H1, I1, rfl, q1⟩)
/-- a if t else b -/
def tIf (t : TT) (ta tb : TE) : TE := fun σ H Q => t σ H fun c H1 => if c = true then ta σ H1 Q else tb σ H1 Q
theorem pe_ifExp {c : Expr} (hc : PT X c tA) (ha : PE X a ta) (hb : PE X b tb) : PE X (.IfExp c a b pos) (tIf tA ta tb) := by
  intro pins s σ H Q I h
  refine wpAny_IfExp (thn (hc pins s σ H _ I h) fun d s1 ⟨H1, I1, q1⟩ => ?_)
  cases d with
  | true => exact ha pins s1 σ H1 Q I1 q1
  | false => exact hb pins s1 σ H1 Q I1 q1
end
end L2

namespace L2
open PySem PySem.Spec PyProof.Rows

def SqL (K : PySem.W.Frag) (H : Hp) (a : Addr) (xs : List V) : Prop :=
  Rd H a (.lst xs) ∨
    ∃ (o : Obj) (its : Array Value) (n : Nat), K.lookup a = some o ∧ o.cls = .type "list" ∧ o.dict = none ∧ o.data = .seq its n ∧ its.size ≤ sizeLine ∧ Vals xs its.toList
def SqT (K : PySem.W.Frag) (H : Hp) (a : Addr) (xs : List V) : Prop :=
  Rd H a (.tup xs) ∨
    ∃ (o : Obj) (its : Array Value) (n : Nat), K.lookup a = some o ∧ o.cls = .type "tuple" ∧ o.data = .seq its n ∧ its.size ≤ sizeLine ∧ Vals xs its.toList
def absV : Value → Option V
  | .none => some .non
  | .bool b => some (.bl b)
  | .int i _ => some (.int i)
  | .str x _ => some (.str x)
  | .bytes b _ => some (.byt b)
  | .float b _ => some (.flt b)
  | .ref a => some (.ref a)
  | .type n => some (.ty n)
  | _ => none
theorem RelV.abs {x : V} {u : Value} (r : RelV x u) : absV u = some x := by
  cases x with
  | non => cases r; rfl
  | bl _ => cases r; rfl
  | int _ => obtain ⟨t, rfl⟩ := r; rfl
  | str _ => obtain ⟨t, rfl⟩ := r; rfl
  | byt _ => obtain ⟨t, rfl⟩ := r; rfl
  | flt _ => obtain ⟨t, rfl⟩ := r; rfl
  | ref _ => cases r; rfl
  | ty _ => cases r; rfl
theorem RelV.inj {x y : V} {u : Value} (r : RelV x u) (q : RelV y u) : x = y := Option.some.inj (r.abs.symm.trans q.abs)
theorem Vals.inj : ∀ {xs ys : List V} {us : List Value}, Vals xs us → Vals ys us → xs = ys
  | _, _, _, .nil, .nil => rfl
  | _, _, _, .cons r t, .cons r' t' => by rw [r.inj r', Vals.inj t t']
section
variable {X : Cx} {pins : List (Addr × Obj)} {σ : St} {H : Hp} {s : Shared} {a : Addr} {xs ys : List V}
theorem SqL.of {K : PySem.W.Frag} (h : H a = some (.lst xs)) : SqL K H a xs := .inl (.inl h)
theorem SqT.of {K : PySem.W.Frag} (h : H a = some (.tup xs)) : SqT K H a xs := .inl (.inl h)
theorem Inv.list (I : Inv X pins σ H s) (h : SqL X.K H a xs) : ∃ its : List Value, Vals xs its ∧ PlainL s.heap a its.toArray ∧ xs.length ≤ sizeLine := by
  rcases h with h | ⟨o, its, n, hk, hc, hd, hs, hz, r⟩
  · obtain ⟨z, its, n, r, e⟩ := h.ok I.hok
    exact ⟨its, r, ⟨_, n, e, rfl, rfl, rfl⟩, z⟩
  · refine ⟨its.toList, r, ⟨o, n, I.kIn a o hk, hc, hd, by simpa using hs⟩, ?_⟩
    have e := r.length
    simp only [Array.length_toList] at e
    omega
theorem Inv.tuple (I : Inv X pins σ H s) (h : SqT X.K H a xs) : ∃ its : List Value, Vals xs its ∧ IsTup s.heap a its.toArray ∧ xs.length ≤ sizeLine := by
  rcases h with h | ⟨o, its, n, hk, hc, hs, hz, r⟩
  · obtain ⟨z, its, r, p⟩ := h.ok I.hok
    exact ⟨its, r, p, z⟩
  · refine ⟨its.toList, r, ⟨o, I.kIn a o hk, hc, n, by simpa using hs⟩, ?_⟩
    have e := r.length
    simp only [Array.length_toList] at e
    omega
theorem Inv.list_inj (I : Inv X pins σ H s) (h : SqL X.K H a xs) (h' : SqL X.K H a ys) : xs = ys := by
  obtain ⟨its, r, ⟨o, n, e, _, _, d⟩, _⟩ := I.list h
  obtain ⟨its', r', ⟨o', n', e', _, _, d'⟩, _⟩ := I.list h'
  rw [e] at e'; cases e'
  rw [d] at d'
  injection d' with d1 _
  have : its = its' := by simpa using congrArg Array.toList d1
  subst this
  exact r.inj r'
end

abbrev Cx.wish (X : Cx) (E : Value → Shared → Prop) : Cx := { X with xe := E }
/-- no exception leaves -/
abbrev Cx.nox (X : Cx) : Cx := X.wish fun _ _ => False
theorem Cx.Ok.wish {X : Cx} (ok : X.Ok) (E : Value → Shared → Prop) : (X.wish E).Ok :=
  ⟨ok.mod, ok.kind, ok.glob, ok.blt, ok.above, ok.inj, ok.has, ok.cab, ok.hd, ok.frames, ok.stk, ok.exf, ok.bs, ok.bsz, ok.noex, ok.exfs, ok.funs, ok.frf, ok.tb⟩
theorem Cx.Ok.unwish {X : Cx} {E : Value → Shared → Prop} (ok : (X.wish E).Ok) : X.Ok :=
  ⟨ok.mod, ok.kind, ok.glob, ok.blt, ok.above, ok.inj, ok.has, ok.cab, ok.hd, ok.frames, ok.stk, ok.exf, ok.bs, ok.bsz, ok.noex, ok.exfs, ok.funs, ok.frf, ok.tb⟩
section
variable {X : Cx} {pins : List (Addr × Obj)} {σ : St} {H : Hp} {s : Shared} {E : Value → Shared → Prop}
theorem Inv.wish (I : Inv X pins σ H s) (E : Value → Shared → Prop) : Inv (X.wish E) pins σ H s := ⟨I.ok.wish E, I.os, I.bare, I.base, I.loc, I.cell, I.free, I.freeC, I.pin, I.hok, I.len⟩
theorem Inv.unwish (I : Inv (X.wish E) pins σ H s) : Inv X pins σ H s := ⟨I.ok.unwish, I.os, I.bare, I.base, I.loc, I.cell, I.free, I.freeC, I.pin, I.hok, I.len⟩
theorem SP.unwish {D : Ends} {f : Flow} {s' : Shared} (h : SP (X.wish E) pins D f s') : SP X pins D f s' := by
  cases f with
  | next => obtain ⟨σ', H', I, q⟩ := h; exact ⟨σ', H', I.unwish, q⟩
  | brk => obtain ⟨σ', H', I, q⟩ := h; exact ⟨σ', H', I.unwish, q⟩
  | cont => obtain ⟨σ', H', I, q⟩ := h; exact ⟨σ', H', I.unwish, q⟩
  | ret u => obtain ⟨v, σ', H', I, r, q⟩ := h; exact ⟨v, σ', H', I.unwish, r, q⟩
theorem PE.nox {e : Expr} {t : TE} (h : PE X.nox e t) : PE X e t := fun pins s σ H Q I hw =>
  wpAny_mono (h pins s σ H Q (I.wish _) hw) (fun _ _ ⟨v, H', I', r, q⟩ => ⟨v, H', I'.unwish, r, q⟩) fun _ _ z => False.elim z
theorem PT.nox {e : Expr} {t : TT} (h : PT X.nox e t) : PT X e t := fun pins s σ H Q I hw =>
  wpAny_mono (h pins s σ H Q (I.wish _) hw) (fun _ _ ⟨H', I', q⟩ => ⟨H', I'.unwish, q⟩) fun _ _ z => False.elim z
theorem PSs.nox {st : List Stmt} {t : TS} (h : PSs X.nox st t) : PSs X st t := fun pins s σ H D I hw =>
  wpAny_mono (h pins s σ H D (I.wish _) hw) (fun _ _ q => q.unwish) fun _ _ z => False.elim z
end

section
variable {X : Cx} {st : Stmt} {rest : List Stmt} {t u : TS} {e : Expr} {te : TE} {pos : Pos}
def tNext : TS := fun D σ H => D.nx σ H
def tSeq (t u : TS) : TS := fun D σ H => t { D with nx := u D } σ H
theorem pss_nil : PSs X [] tNext := fun _ _ σ H _ I h => wpAny_execs_nil ⟨σ, H, I, h⟩
theorem pss_cons (h1 : PS X st t) (h2 : PSs X rest u) : PSs X (st :: rest) (tSeq t u) := by
  intro pins s σ H D I h
  refine wpAny_execs_cons (thn (h1 pins s σ H { D with nx := u D } I h) fun f s1 q => ?_)
  cases f with
  | next =>
    obtain ⟨σ', H', I', q⟩ := q
    exact h2 pins s1 σ' H' D I' q
  | ret v => exact q
  | brk => exact q
  | cont => exact q
theorem pss_one (h1 : PS X st t) : PSs X [st] t := by
  intro pins s σ H D I h
  refine wpAny_execs_cons (thn (h1 pins s σ H D I h) fun f s1 q => ?_)
  cases f with
  | next => exact wpAny_execs_nil q
  | ret v => exact q
  | brk => exact q
  | cont => exact q
/-- in a def's body nothing is shown -/
theorem Inv.quiet {pins : List (Addr × Obj)} {σ : St} {H : Hp} {s : Shared} (I : Inv X pins σ H s) : interactive X.env = false := by simp [interactive, I.ok.kind]
/-- an expression whose value is dropped -/
def tDrop (te : TE) : TS := fun D σ H => te σ H fun _ H1 => D.nx σ H1
theorem ps_expr (he : PE X e te) (hs : swapsWith e none pos.line X.env = pure false := by rfl) : PS X (.Expr e pos) (tDrop te) := by
  intro pins s σ H D I h
  exact wpAny_Expr_any (thn (he pins s σ H _ I h) fun v s1 ⟨x, H1, I1, r1, q1⟩ => ⟨σ, H1, I1, q1⟩) I.quiet hs
def tRet (te : TE) : TS := fun D σ H => te σ H D.rt
theorem ps_ret (he : PE X e te) : PS X (.Return (some e) pos) (tRet te) := by
  intro pins s σ H D I h
  exact wpAny_Return_some (thn (he pins s σ H _ I h) fun v s1 ⟨x, H1, I1, r1, q1⟩ => ⟨x, σ, H1, I1, r1, q1⟩)
def tIfS (c : TT) (t u : TS) : TS := fun D σ H => c σ H fun b H1 => if b = true then t D σ H1 else u D σ H1
theorem ps_if {c : Expr} {a b : List Stmt} {tc : TT} (hc : PT X c tc) (ha : PSs X a t) (hb : PSs X b u) : PS X (.If c a b pos) (tIfS tc t u) := by
  intro pins s σ H D I h
  refine wpAny_If (thn (hc pins s σ H _ I h) fun d s1 ⟨H1, I1, q1⟩ => ?_)
  cases d with
  | true => exact ha pins s1 σ H1 D I1 q1
  | false => exact hb pins s1 σ H1 D I1 q1
end

abbrev TG := V → St → Hp → (St → Hp → Prop) → Prop
abbrev TGs := List V → St → Hp → (St → Hp → Prop) → Prop
def PG (X : Cx) (target : Expr) (t : TG) : Prop :=
  ∀ (pins : List (Addr × Obj)) (s : Shared) (σ : St) (H : Hp) (v : V) (u : Value) (Q : St → Hp → Prop), Inv X pins σ H s → RelV v u → t v σ H Q →
    wpAny (model X.prog X.w) X.A (assign target X.env u) (fun _ s' => ∃ σ' H', Inv X pins σ' H' s' ∧ Q σ' H') X.xe s
/-- several targets, one after another -/
def PGs (X : Cx) (ts : List Expr) (t : TGs) : Prop :=
  ∀ (pins : List (Addr × Obj)) (s : Shared) (σ : St) (H : Hp) (vs : List V) (us : List Value) (Q : St → Hp → Prop), Inv X pins σ H s → Vals vs us → t vs σ H Q →
    wpAny (model X.prog X.w) X.A (assignInOrder ((assignEach ts X.env).map (·.2)) us) (fun _ s' => ∃ σ' H', Inv X pins σ' H' s' ∧ Q σ' H') X.xe s
section
variable {X : Cx} {pos : Pos}
def gName (i : Nat) : TG := fun v σ H Q => Q (σ.set i (some v)) H
theorem pg_name {i : Nat} {x : Str} (hN : X.N.Nodup) (hi : X.N[i]? = some x) (hx : Loc X.env.scope x) (hf : X.fn x = true ∨ X.env.scope.names.lookup x = some .local := by first | exact .inl rfl | exact .inr rfl | assumption) : PG X (.Name x pos) (gName i) := by
  intro pins s σ H v u Q I r h
  exact wpAny_assign_Name (store_ok I hN hi hx r (fun s' I' => ⟨_, H, I', h⟩) hf)
def gNil : TGs := fun vs σ H Q => vs = [] ∧ Q σ H
def gCons (t : TG) (u : TGs) : TGs := fun vs σ H Q => ∃ v r, vs = v :: r ∧ t v σ H fun σ' H' => u r σ' H' Q
theorem pgs_nil : PGs X [] gNil := by
  intro pins s σ H vs us Q I r h
  obtain ⟨e, h⟩ := h
  subst e
  cases r
  exact assignInOrder_nil ⟨σ, H, I, h⟩
theorem pgs_cons {e : Expr} {es : List Expr} {t : TG} {u : TGs} (h1 : PG X e t) (h2 : PGs X es u)
    (hs : (assignEach (e :: es) X.env).map (·.2) = assign e X.env :: (assignEach es X.env).map (·.2) := by rfl) : PGs X (e :: es) (gCons t u) := by
  intro pins s σ H vs us Q I r h
  obtain ⟨v, vr, e1, h⟩ := h
  subst e1
  cases r with
  | cons r rr =>
    rw [hs]
    refine assignInOrder_cons (thn (h1 pins s σ H _ _ _ I r h) fun _ s1 ⟨σ1, H1, I1, q1⟩ => ?_)
    exact h2 pins s1 σ1 H1 _ _ Q I1 rr q1
/-- (a, b, ..) = a tuple of that length -/
def gTup (K : PySem.W.Frag) (n : Nat) (t : TGs) : TG := fun v σ H Q => ∃ a xs, v = .ref a ∧ SqT K H a xs ∧ xs.length = n ∧ t xs σ H Q
theorem pg_tup {es : List Expr} {k : Nat} {t : TGs} {n : Nat} (hc : X.calm = true) (h : PGs X es t)
    (hn : (assignEach es X.env).length = n := by rfl) (hst : (assignEach es X.env).findIdx? (·.1) = none := by rfl) : PG X (.Tuple es k pos) (gTup X.K n t) := by
  intro pins s σ H v u Q I r hw
  obtain ⟨a, xs, e1, hq, hl, hw⟩ := hw
  subst e1
  cases r
  obtain ⟨its, rv, ht, hz⟩ := I.tuple hq
  refine assign_Tuple_tuple (I.ok.hd hc) ht (by simp [hn, ← hl, rv.length]) hst fun h' hx => ?_
  have I1 : Inv X pins σ H { s with heap := h' } := I.kept (t' := s.toks) fun b o e => hx b o (Nat.ne_of_lt (Heap.lt_size e)) e
  exact h pins _ σ H xs _ Q I1 (by simpa using rv) hw
/-- target = value -/
def tAsg (te : TE) (g : TG) : TS := fun D σ H => te σ H fun x H1 => g x σ H1 D.nx
/-- name = value -/
theorem ps_set {i : Nat} {x : Str} {e : Expr} {te : TE} {pos' : Pos} (hN : X.N.Nodup) (hi : X.N[i]? = some x) (hx : Loc X.env.scope x) (he : PE X e te) (hs : swapsWith e (some (.Name x pos')) pos.line X.env = pure false := by rfl) (hf : X.fn x = true ∨ X.env.scope.names.lookup x = some .local := by first | exact .inl rfl | exact .inr rfl | assumption) :
    PS X (.Assign [.Name x pos'] e pos) (tAsg te (gName i)) := by
  intro pins s σ H D I h
  refine wpAny_Assign_Name (thn (he pins s σ H _ I h) fun v s1 ⟨y, H1, I1, r1, q1⟩ => ?_) hs
  exact store_ok I1 hN hi hx r1 (fun s2 I2 => ⟨_, H1, I2, q1⟩) hf
end

section
variable {X : Cx} {pos : Pos}
/-- the invariant W with its measure -/
def tWhile (c : TT) (tb : TS) : TS := fun D σ H => ∃ W : Nat → St → Hp → Prop, (∃ m, W m σ H) ∧ ∀ m σ H, W m σ H →
  c σ H fun b H1 => if b = true then ∃ N : St → Hp → Prop, (∀ σ' H', N σ' H' → ∃ m', m' < m ∧ W m' σ' H') ∧ tb { D with nx := N, ct := N, bk := D.nx } σ H1 else D.nx σ H1
theorem ps_while {c : Expr} {body : List Stmt} {tc : TT} {tb : TS} (hp : PassesOwn (model X.prog X.w) X.A X.env X.xe) (hc : PT X c tc) (hb : PSs X body tb) : PS X (.While c body [] pos) (tWhile tc tb) := by
  intro pins s σ H D I h
  obtain ⟨W, ⟨m0, w0⟩, turn⟩ := h
  refine wpAny_While (codeAny_whileLoop (fun n s' => ∃ σ' H', Inv X pins σ' H' s' ∧ W n σ' H') ?_ m0 ⟨σ, H, I, w0⟩)
  rintro n s1 ⟨σ1, H1, I1, w1⟩
  refine wpAny_passesOwn hp (thn (hc pins s1 σ1 H1 _ I1 (turn n σ1 H1 w1)) fun b s2 ⟨H2, I2, q2⟩ => ?_)
  cases b with
  | true =>
    obtain ⟨N, hN, q2⟩ := q2
    rw [if_pos rfl]
    refine wpAny_passesOwn hp (thn (hb pins s2 σ1 H2 _ I2 q2) fun f s3 q3 => ?_)
    cases f with
    | next =>
      obtain ⟨σ3, H3, I3, n3⟩ := q3
      obtain ⟨m', hm, w3⟩ := hN σ3 H3 n3
      exact ⟨m', hm, σ3, H3, I3, w3⟩
    | cont =>
      obtain ⟨σ3, H3, I3, n3⟩ := q3
      obtain ⟨m', hm, w3⟩ := hN σ3 H3 n3
      exact ⟨m', hm, σ3, H3, I3, w3⟩
    | brk => exact q3
    | ret v => exact q3
  | false =>
    rw [if_neg Bool.false_ne_true]
    exact wpAny_execs_nil ⟨σ1, H2, I2, q2⟩
end

/-- at turn i: it yields x (the heap may grow), or it stops -/
structure It where
  go : Nat → Hp → Prop
  yld : Nat → Hp → V → Hp → Prop
  stop : Nat → Hp → Prop
/-- the iterator's own objects may turn: they are not the frame's, not pinned, younger than the entry (or a comprehension's own) -/
def FpOk (X : Cx) (pins : List (Addr × Obj)) (H : Hp) (b : Addr) : Prop :=
  H b = none ∧ b ≠ X.env.locals ∧ b ∉ X.fs ∧ (b ∈ X.ex ∨ X.s_0.heap.objs.size ≤ b) ∧ (∀ x c, X.env.cells.lookup x = some c → c ≠ b) ∧ ∀ p ∈ X.pn ++ pins, p.1 ≠ b
theorem Inv.fpOk {X : Cx} {pins : List (Addr × Obj)} {σ : St} {H H' : Hp} {s : Shared} {b : Addr} (I : Inv X pins σ H s) (hb : s.heap.objs.size ≤ b) (hn : H' b = none) : FpOk X pins H' b := by
  refine ⟨hn, Nat.ne_of_gt (Nat.lt_of_lt_of_le I.lt hb), I.nofs hb, .inr (Nat.le_trans I.sz hb), fun x c e z => ?_, fun p hp z => ?_⟩
  · obtain ⟨v, q⟩ := I.cell x c e
    exact absurd (Nat.lt_of_lt_of_le q.lt (by rw [z]; exact hb)) (Nat.lt_irrefl _)
  · exact absurd (Nat.lt_of_lt_of_le (Heap.lt_size (I.pin p hp).1) (by rw [z]; exact hb)) (Nat.lt_irrefl _)
structure Turn (P : Program) (w : World) (K : PySem.W.Frag) (tg : Expr) (J : It) (fp : List Addr) (it : Addr) (tn : Nat → Heap → Prop) : Prop where
  mem : it ∈ fp
  obj : ∀ i h, tn i h → ∀ b ∈ fp, ∃ o, h.get? b = some o ∧ ∀ v, o.data ≠ .cell v
  keep : ∀ i h h', tn i h → (∀ b ∈ fp, ∀ o, h.get? b = some o → h'.get? b = some o) → tn i h'
  item : ∀ (X : Cx), X.prog = P → X.w = w → X.K = K → X.calm = true → ∀ (i : Nat) (pins : List (Addr × Obj)) (s : Shared) (σ : St) (H : Hp) (E : Value → Shared → Prop), Inv X pins σ H s → (∀ b ∈ fp, FpOk X pins H b) → tn i s.heap → J.go i H →
    wpAny (model P w) X.A (pyNext (.ref it)) (fun r s1 => ∃ u, r = some u ∧
      wpAny (model P w) X.A (letOwnedTupleGo tg (.ref it) u) (fun _ s2 => ∃ x H', Inv X pins σ H' s2 ∧ RelV x u ∧ J.yld i H x H' ∧ tn (i + 1) s2.heap ∧ ∀ b ∈ fp, H' b = none) E s1) E s
  done : ∀ (X : Cx), X.prog = P → X.w = w → X.K = K → X.calm = true → ∀ (i : Nat) (pins : List (Addr × Obj)) (s : Shared) (σ : St) (H : Hp) (E : Value → Shared → Prop), Inv X pins σ H s → (∀ b ∈ fp, FpOk X pins H b) → tn i s.heap → J.stop i H →
    wpAny (model P w) X.A (pyNext (.ref it)) (fun r s1 => r = none ∧ Inv X pins σ H s1) E s
  self : ∀ (A : Around) (i : Nat) (s : Shared) (Q : Value → Shared → Prop) (E : Value → Shared → Prop), tn i s.heap → Q (.ref it) s → wpAny (model P w) A (pyIter (.ref it)) Q E s
abbrev TI := St → Hp → (It → Hp → Prop) → Prop
/-- an iterator has come -/
def PIE (X : Cx) (pins : List (Addr × Obj)) (σ : St) (tg : Expr) (R : It → Hp → Prop) (itv : Value) (s2 : Shared) : Prop :=
  ∃ (it : Addr) (fp : List Addr) (tn : Nat → Heap → Prop) (J : It) (H' : Hp), itv = .ref it ∧ Inv X pins σ H' s2 ∧ Turn X.prog X.w X.K tg J fp it tn ∧ tn 0 s2.heap ∧ (∀ b ∈ fp, FpOk X pins H' b) ∧ R J H'
def PI (X : Cx) (tg iter : Expr) (wi : TI) : Prop :=
  ∀ (pins : List (Addr × Obj)) (s : Shared) (σ : St) (H : Hp) (R : It → Hp → Prop), Inv X pins σ H s → wi σ H R →
    wpAny (model X.prog X.w) X.A (eval iter X.env) (fun v s1 => wpAny (model X.prog X.w) X.A (pyIter v) (PIE X pins σ tg R) X.xe s1) X.xe s

/-- the step ahead of the store is nothing for an iterator that keeps no tuple -/
theorem go_of {M : Model} {A : Around} {E : Value → Shared → Prop} {s : Shared} {tg : Expr} {it : Addr} {u : Value} {o : Obj} {n : String} {vs : Array Value} {Q : Unit → Shared → Prop} (ho : s.heap.get? it = some o) (hc : o.cls = .type n) (hd : o.data = .fields vs)
    (hn : ["enumerate", "zip", "dict_itemiterator", "dict_reverseitemiterator", "odict_iterator", "itertools.zip_longest", "itertools.pairwise"].contains n = false) (hQ : Q () s) : wpAny M A (letOwnedTupleGo tg (.ref it) u) Q E s := by
  unfold letOwnedTupleGo
  cases tg <;> first
    | exact wpAny_pure hQ
    | (cases u <;> first
        | exact wpAny_pure hQ
        | (refine wpAny_bind (wpAny_load ho ?_)
           rw [hc, hd]
           show wpAny M A (if (["enumerate", "zip", "dict_itemiterator", "dict_reverseitemiterator", "odict_iterator", "itertools.zip_longest", "itertools.pairwise"].contains n && vs[0]? == some (rawInt _)) = true then _ else _) Q E s
           rw [if_neg (by intro h; rw [hn, Bool.false_and] at h; cases h)]
           exact wpAny_pure hQ))

/-- the list at a, as it stands at each turn (a loop may append to it) -/
def Itl (K : PySem.W.Frag) (a : Addr) : It :=
  ⟨fun i H => ∃ xs x, SqL K H a xs ∧ xs[i]? = some x, fun i H x H' => H' = H ∧ ∀ xs, SqL K H a xs → xs[i]? = some x, fun i H => ∃ xs, SqL K H a xs ∧ xs.length ≤ i⟩
/-- lo, lo + 1, .. (n of them) -/
def Itr (lo : Int) (n : Nat) : It := ⟨fun i _ => i < n, fun i H x H' => H' = H ∧ x = .int (lo + i), fun i _ => n ≤ i⟩
theorem turn_list {P : Program} {w : World} {K : PySem.W.Frag} {tg : Expr} (a it : Addr) : Turn P w K tg (Itl K a) [it] it (fun i h => h.IsListIter it a i) where
  mem := by simp
  obj := fun i h st b hb => by
    have e : b = it := by simpa using hb
    subst e
    obtain ⟨o, e, c, d⟩ := st
    exact ⟨o, e, fun v z => by rw [d] at z; cases z⟩
  keep := fun i h h' st k => st.at fun o e => k it (by simp) o e
  item := by
    intro X hP hw hK hc i pins s σ H E I hf st hg
    subst hP hw hK
    obtain ⟨xs, x, hq, hx⟩ := hg
    obtain ⟨its, rv, p, hz⟩ := I.list hq
    obtain ⟨u, hu, ru⟩ := rv.get hx
    obtain ⟨f0, f1, f2, f3, f4, f5⟩ := hf it (by simp)
    refine wpAny_pyNext_list_item st p.isList (x := u) (by simpa using hu) fun h' st' sb => ?_
    have I1 : Inv X pins σ H { s with heap := h' } := I.turned (t' := s.toks) (fun b o hb e => (sb.2 b hb).trans e) f0 f1 f3 f4 f5
    obtain ⟨o, e, c, d⟩ := id st'
    exact ⟨u, rfl, go_of (s := { s with heap := h' }) e c d (by decide) ⟨x, H, I1, ru, ⟨rfl, fun ys hy => by rw [I.list_inj hy hq]; exact hx⟩, st', fun b hb => (hf b hb).1⟩⟩
  done := by
    intro X hP hw hK hc i pins s σ H E I hf st hg
    subst hP hw hK
    obtain ⟨xs, hq, hx⟩ := hg
    obtain ⟨its, rv, p, hz⟩ := I.list hq
    obtain ⟨f0, f1, f2, f3, f4, f5⟩ := hf it (by simp)
    have hl := rv.length
    exact wpAny_pyNext_list_end (I.ok.hd hc) st p.isList (by simp; omega) fun h' eb => ⟨rfl, I.turned (t' := s.toks) (fun b o hb e => eb b o hb e) f0 f1 f3 f4 f5⟩
  self := fun _ _ _ _ _ st h => wpAny_pyIter_listiter st h
theorem turn_range {P : Program} {w : World} {K : PySem.W.Frag} {tg : Expr} (it : Addr) (lo : Int) (n : Nat) : Turn P w K tg (Itr lo n) [it] it (fun i h => IsRangeIter h it (lo + (i : Nat) * 1) ((n : Int) - (i : Nat)) 1) where
  mem := by simp
  obj := fun i h st b hb => by
    have e : b = it := by simpa using hb
    subst e
    exact ⟨_, st, fun v z => by
      have z' : Data.fields _ = Data.cell v := z
      cases z'⟩
  keep := fun i h h' st k => k it (by simp) _ st
  item := by
    intro X hP hw hK hc i pins s σ H E I hf st hg
    subst hP hw hK
    obtain ⟨f0, f1, f2, f3, f4, f5⟩ := hf it (by simp)
    have W := Walks.range (prog := X.prog) (w := X.w) (I.ok.hd hc) it lo 1 n
    refine W.item i s _ _ hg st fun v h' tk hv st' kk => ?_
    obtain ⟨t, rfl⟩ := hv
    have I1 : Inv X pins σ H { s with heap := h', toks := tk } := I.turned (fun b o hb e => kk b o (by simpa using hb) e) f0 f1 f3 f4 f5
    refine ⟨_, rfl, go_of (s := { s with heap := h', toks := tk }) (n := "range_iterator") st' rfl rfl (by decide) ⟨.int (lo + i), H, I1, ⟨t, ?_⟩, ⟨rfl, rfl⟩, st', fun b hb => (hf b hb).1⟩⟩
    rw [Int.mul_one]
  done := by
    intro X hP hw hK hc i pins s σ H E I hf st hg
    subst hP hw hK
    obtain ⟨f0, f1, f2, f3, f4, f5⟩ := hf it (by simp)
    exact wpAny_pyNext_range_end (I.ok.hd hc) st (by have : n ≤ i := hg; omega) fun h' eb => ⟨rfl, I.turned (t' := s.toks) (fun b o hb e => eb b o hb e) f0 f1 f3 f4 f5⟩
  self := fun _ _ _ _ _ st h => wpAny_pyIter_rangeiter st h
end L2

namespace L2
open PySem PySem.Spec PyProof.Rows
section
variable {X : Cx} {tg : Expr}
def iList (K : PySem.W.Frag) (tl : TE) : TI := fun σ H R => tl σ H fun x H1 => ∃ a, x = .ref a ∧ (∃ xs, SqL K H1 a xs) ∧ R (Itl K a) H1
theorem pi_list {l : Expr} {tl : TE} (hl : PE X l tl) : PI X tg l (iList X.K tl) := by
  intro pins s σ H R I h
  refine thn (hl pins s σ H _ I h) fun v s1 ⟨x, H1, I1, r1, q1⟩ => ?_
  obtain ⟨a, e, ⟨xs, hq⟩, q⟩ := q1
  subst e
  cases r1
  obtain ⟨its, rv, p, hz⟩ := I1.list hq
  refine wpAny_pyIter_list p.isList ?_
  refine ⟨s1.heap.objs.size, [s1.heap.objs.size], _, _, H1, rfl, I1.kept (t' := s1.toks) fun b o e => Heap.get?_push_of_some _ e, turn_list a _, ⟨_, Heap.get?_push_size _ rfl, rfl, rfl⟩, fun b hb => ?_, q⟩
  have e : b = s1.heap.objs.size := by simpa using hb
  subst e
  exact I1.fpOk (Nat.le_refl _) (I1.hok.fresh (Nat.le_refl _))
/-- a range object just made, walked -/
theorem range_it {pins : List (Addr × Obj)} {σ : St} {H : Hp} {s : Shared} {R : It → Hp → Prop} {E : Value → Shared → Prop} {lo hi : Int} {t u v : Tok} {tk : Nat} (I : Inv X pins σ H s) (h1 : -(2 ^ 62) ≤ lo) (h2 : lo < 2 ^ 62) (h3 : -(2 ^ 62) ≤ hi) (h4 : hi < 2 ^ 62)
    (q : R (Itr lo (hi - lo).toNat) H) : wpAny (model X.prog X.w) X.A (pyIter (.ref s.heap.objs.size)) (PIE X pins σ tg R) E { s with heap := s.heap.push { cls := .type "range", data := .fields #[.int lo t, .int hi u, .int 1 v] }, toks := tk } := by
  refine wpAny_pyIter_range (IsRange.new ..) (small_one h1 h2 h3 h4) ?_
  have I1 : Inv X pins σ H { s with heap := s.heap.push { cls := .type "range", data := .fields #[.int lo t, .int hi u, .int 1 v] }, toks := tk } := I.kept fun b o e => Heap.get?_push_of_some _ e
  refine ⟨(s.heap.push { cls := .type "range", data := .fields #[.int lo t, .int hi u, .int 1 v] }).objs.size, [(s.heap.push { cls := .type "range", data := .fields #[.int lo t, .int hi u, .int 1 v] }).objs.size], _, _, H, rfl,
    I1.kept (t' := tk) fun b o e => Heap.get?_push_of_some _ e, turn_range _ lo (hi - lo).toNat, ?_, fun b hb => ?_, q⟩
  · have e1 : lo + ((0 : Nat) : Int) * 1 = lo := by simp
    have e2 : (((hi - lo).toNat : Nat) : Int) - ((0 : Nat) : Int) = Builtin.Range.rangeSize lo hi 1 := by rw [rangeSize_one]; split <;> omega
    show IsRangeIter _ _ (lo + ((0 : Nat) : Int) * 1) ((((hi - lo).toNat : Nat) : Int) - ((0 : Nat) : Int)) 1
    rw [e1, e2]
    exact Heap.get?_push_size _ rfl
  · have e : b = (s.heap.push { cls := .type "range", data := .fields #[.int lo t, .int hi u, .int 1 v] }).objs.size := by simpa using hb
    subst e
    exact I1.fpOk (Nat.le_refl _) (I1.hok.fresh (Nat.le_refl _))
def iRng1 (ta : TA) : TI := fun σ H R => ta σ H fun vs H1 => ∃ j : Int, vs = [.int j] ∧ -(2 ^ 62) ≤ j ∧ j < 2 ^ 62 ∧ R (Itr 0 j.toNat) H1
theorem pi_range1 {a : Expr} {ta : TA} {p pos : Pos} (hg : Gl X "range") (hm : X.mg "range" = none) (ha : PA X [a] ta) (hs : starEach [a] X.env = [(false, eval a X.env)] := by rfl) : PI X tg (.Call (.Name "range" p) [a] [] pos) (iRng1 ta) := by
  intro pins s σ H R I h
  refine Call_ (ld_blt I hg hm boot_range (PyProof.Rows.callWith_type1 (thn (ha pos pins s σ H _ I h) fun us s1 ⟨vs, H1, I1, r1, q1⟩ => ?_) hs rfl))
  obtain ⟨j, e, q1, q2, q⟩ := q1
  subst e
  cases r1 with
  | cons r rr =>
    cases rr
    obtain ⟨t, rfl⟩ := r
    exact call_range_1 (range_it I1 (by omega) (by omega) q1 q2 (by simpa using q))
/-- W: the invariant by the turn and a measure; N: what the body is to reach -/
def tFor (wi : TI) (g : TG) (tb : TS) : TS := fun D σ H => wi σ H fun J H1 => ∃ W : Nat → Nat → St → Hp → Prop, (∃ m, W 0 m σ H1) ∧ ∀ i m σ H, W i m σ H →
  (J.stop i H ∧ D.nx σ H) ∨ (J.go i H ∧ ∃ N : St → Hp → Prop, (∀ σ' H', N σ' H' → ∃ m', m' < m ∧ W (i + 1) m' σ' H') ∧ ∀ x H', J.yld i H x H' → g x σ H' fun σ2 H2 => tb { D with nx := N, ct := N, bk := D.nx } σ2 H2)
/-- the records at fp as they stand -/
def pinsAt (fp : List Addr) (h : Heap) : List (Addr × Obj) := fp.filterMap fun b => (h.get? b).map fun o => (b, o)
theorem mem_pinsAt {fp : List Addr} {h : Heap} {b : Addr} {o : Obj} (hb : b ∈ fp) (e : h.get? b = some o) : (b, o) ∈ pinsAt fp h := List.mem_filterMap.mpr ⟨b, hb, by rw [e]; rfl⟩
theorem of_pinsAt {fp : List Addr} {h : Heap} {p : Addr × Obj} (hp : p ∈ pinsAt fp h) : p.1 ∈ fp ∧ h.get? p.1 = some p.2 := by
  obtain ⟨b, hb, e⟩ := List.mem_filterMap.mp hp
  cases q : h.get? b with
  | none => rw [q] at e; cases e
  | some o =>
    rw [q] at e
    have e' : (b, o) = p := Option.some.inj e
    subst e'
    exact ⟨hb, q⟩
theorem Inv.pinned {pins : List (Addr × Obj)} {σ : St} {H : Hp} {s : Shared} {fp : List Addr} (I : Inv X pins σ H s) (hf : ∀ b ∈ fp, FpOk X pins H b) (ho : ∀ b ∈ fp, ∃ o, s.heap.get? b = some o ∧ ∀ v, o.data ≠ .cell v) : Inv X (pins ++ pinsAt fp s.heap) σ H s :=
  I.pins_of fun p hp => (List.mem_append.mp hp).elim (fun z => I.pin p (List.mem_append_right _ z)) fun z => by
    obtain ⟨hb, e⟩ := of_pinsAt z
    obtain ⟨f0, f1, f2, _⟩ := hf p.1 hb
    obtain ⟨o, e', d⟩ := ho p.1 hb
    rw [e] at e'; cases e'
    exact ⟨e, f0, f1, f2, d⟩
theorem Inv.unpinned {pins pl : List (Addr × Obj)} {σ : St} {H : Hp} {s : Shared} (I : Inv X (pins ++ pl) σ H s) : Inv X pins σ H s := I.pins_of fun p hp => I.pin p (List.mem_append_right _ (List.mem_append_left _ hp))
theorem ps_for {iter : Expr} {body : List Stmt} {wi : TI} {g : TG} {tb : TS} {pos : Pos} (hp : PassesOwn (model X.prog X.w) X.A X.env X.xe) (hc : X.calm = true) (hi : PI X tg iter wi) (hg : PG X tg g) (hb : PSs X body tb)
    (hs : ∀ x, foldedSetIterable iter X.env x = pure x := by intro _; rfl) : PS X (.For tg iter body [] pos) (tFor wi g tb) := by
  intro pins s σ H D I h
  refine wpAny_For (thn (hi pins s σ H _ I h) fun v s1 h1 => thn h1 fun itv s2 h2 => ?_) hs
  obtain ⟨it, fp, tn, J, H2, e, I2, T, st2, f2, W, ⟨m0, w0⟩, turn⟩ := h2
  subst e
  -- what stays true of the iterator's objects through the loop
  have stat : ∀ {H' : Hp}, (∀ b ∈ fp, H' b = none) → ∀ b ∈ fp, FpOk X pins H' b := fun hn b hb => ⟨hn b hb, (f2 b hb).2⟩
  refine codeAny_forLoop_any (fun n s' => ∃ i σ' H', Inv X pins σ' H' s' ∧ tn i s'.heap ∧ (∀ b ∈ fp, H' b = none) ∧ W i n σ' H') ?_ m0 ⟨0, σ, H2, I2, st2, fun b hb => (f2 b hb).1, w0⟩
  rintro n s3 ⟨i, σ3, H3, I3, st3, fr3, w3⟩
  rcases turn i n σ3 H3 w3 with ⟨stop, qn⟩ | ⟨go, N, hN, step⟩
  · refine wpAny_passesOwn hp (thn (T.done X rfl rfl rfl hc i pins s3 σ3 H3 X.xe I3 (stat fr3) st3 stop) fun r s4 ⟨hr, I4⟩ => ?_)
    subst hr
    exact wpAny_execs_nil ⟨σ3, H3, I4, qn⟩
  · refine wpAny_passesOwn hp (thn (T.item X rfl rfl rfl hc i pins s3 σ3 H3 X.xe I3 (stat fr3) st3 go) fun r s4 ⟨u, hr, h4⟩ => ?_)
    subst hr
    refine wpAny_passesOwn hp (thn h4 fun _ s5 ⟨x, H5, I5, r5, y5, st5, fr5⟩ => ?_)
    have I5' := I5.pinned (stat fr5) (T.obj _ _ st5)
    refine wpAny_passesOwn hp (thn (hg _ s5 σ3 H5 x u _ I5' r5 (step x H5 y5)) fun _ s6 ⟨σ6, H6, I6, q6⟩ => ?_)
    refine wpAny_passesOwn hp (thn (hb _ s6 σ6 H6 _ I6 q6) fun f s7 q7 => ?_)
    have again : ∀ {σ7 : St} {H7 : Hp}, Inv X (pins ++ pinsAt fp s5.heap) σ7 H7 s7 → N σ7 H7 → ∃ m, m < n ∧ ∃ i σ' H', Inv X pins σ' H' s7 ∧ tn i s7.heap ∧ (∀ b ∈ fp, H' b = none) ∧ W i m σ' H' := fun {σ7 H7} I7 n7 => by
      obtain ⟨m', hm, w7⟩ := hN σ7 H7 n7
      refine ⟨m', hm, i + 1, σ7, H7, I7.unpinned, T.keep _ _ _ st5 fun b hb o e => (I7.pin (b, o) (List.mem_append_right _ (List.mem_append_right _ (mem_pinsAt hb e)))).1, fun b hb => ?_, w7⟩
      obtain ⟨o, e, d⟩ := T.obj _ _ st5 b hb
      exact (I7.pin (b, o) (List.mem_append_right _ (List.mem_append_right _ (mem_pinsAt hb e)))).2.1
    cases f with
    | next => obtain ⟨σ7, H7, I7, n7⟩ := q7; exact again I7 n7
    | cont => obtain ⟨σ7, H7, I7, n7⟩ := q7; exact again I7 n7
    | brk => obtain ⟨σ7, H7, I7, q7⟩ := q7; exact ⟨σ7, H7, I7.unpinned, q7⟩
    | ret v => obtain ⟨x7, σ7, H7, I7, r7, q7⟩ := q7; exact ⟨x7, σ7, H7, I7.unpinned, r7, q7⟩
end

/-- over a list that the body leaves as it is -/
theorem for_list {K : PySem.W.Frag} {a : Addr} {xs : List V} {g : TG} {tb : TS} {D : Ends} {σ : St} {H : Hp} (Pv : Nat → St → Hp → Prop) (h0 : Pv 0 σ H) (hl : ∀ i σ H, i ≤ xs.length → Pv i σ H → SqL K H a xs)
    (hs : ∀ i x σ H, xs[i]? = some x → Pv i σ H → g x σ H fun σ2 H2 => tb { D with nx := Pv (i + 1), ct := Pv (i + 1), bk := D.nx } σ2 H2) (hd : ∀ σ H, Pv xs.length σ H → D.nx σ H) :
    ∃ W : Nat → Nat → St → Hp → Prop, (∃ m, W 0 m σ H) ∧ ∀ i m σ H, W i m σ H →
      ((Itl K a).stop i H ∧ D.nx σ H) ∨ ((Itl K a).go i H ∧ ∃ N : St → Hp → Prop, (∀ σ' H', N σ' H' → ∃ m', m' < m ∧ W (i + 1) m' σ' H') ∧ ∀ x H', (Itl K a).yld i H x H' → g x σ H' fun σ2 H2 => tb { D with nx := N, ct := N, bk := D.nx } σ2 H2) := by
  refine ⟨fun i m σ H => m = xs.length - i ∧ i ≤ xs.length ∧ Pv i σ H, ⟨xs.length, by simp, Nat.zero_le _, h0⟩, ?_⟩
  rintro i m σ H ⟨rfl, hi, p⟩
  have q := hl i σ H hi p
  by_cases hlt : i < xs.length
  · refine .inr ⟨⟨xs, xs[i], q, by simp [hlt]⟩, Pv (i + 1), fun σ' H' p' => ⟨xs.length - (i + 1), by omega, rfl, hlt, p'⟩, fun x H' y => ?_⟩
    obtain ⟨e, y⟩ := y
    subst e
    exact hs i x σ _ (y xs q) p
  · have e : i = xs.length := by omega
    subst e
    exact .inl ⟨⟨xs, q, Nat.le_refl _⟩, hd σ H p⟩
theorem for_range {lo : Int} {n : Nat} {g : TG} {tb : TS} {D : Ends} {σ : St} {H : Hp} (Pv : Nat → St → Hp → Prop) (h0 : Pv 0 σ H)
    (hs : ∀ i σ H, i < n → Pv i σ H → g (.int (lo + i)) σ H fun σ2 H2 => tb { D with nx := Pv (i + 1), ct := Pv (i + 1), bk := D.nx } σ2 H2) (hd : ∀ σ H, Pv n σ H → D.nx σ H) :
    ∃ W : Nat → Nat → St → Hp → Prop, (∃ m, W 0 m σ H) ∧ ∀ i m σ H, W i m σ H →
      ((Itr lo n).stop i H ∧ D.nx σ H) ∨ ((Itr lo n).go i H ∧ ∃ N : St → Hp → Prop, (∀ σ' H', N σ' H' → ∃ m', m' < m ∧ W (i + 1) m' σ' H') ∧ ∀ x H', (Itr lo n).yld i H x H' → g x σ H' fun σ2 H2 => tb { D with nx := N, ct := N, bk := D.nx } σ2 H2) := by
  refine ⟨fun i m σ H => m = n - i ∧ i ≤ n ∧ Pv i σ H, ⟨n, by simp, Nat.zero_le _, h0⟩, ?_⟩
  rintro i m σ H ⟨rfl, hi, p⟩
  by_cases hlt : i < n
  · refine .inr ⟨hlt, Pv (i + 1), fun σ' H' p' => ⟨n - (i + 1), by omega, rfl, hlt, p'⟩, fun x H' y => ?_⟩
    obtain ⟨e, y⟩ := y
    subst e y
    exact hs i σ _ hlt p
  · have e : i = n := by omega
    subst e
    exact .inl ⟨Nat.le_refl _, hd σ H p⟩
/-- while, by a word and a measure of the state -/
theorem while_by {c : TT} {tb : TS} {D : Ends} {σ : St} {H : Hp} (Pv : St → Hp → Prop) (μ : St → Hp → Nat) (h0 : Pv σ H)
    (hs : ∀ σ H, Pv σ H → c σ H fun b H1 => if b = true then tb { D with nx := fun σ' H' => Pv σ' H' ∧ μ σ' H' < μ σ H, ct := fun σ' H' => Pv σ' H' ∧ μ σ' H' < μ σ H, bk := D.nx } σ H1 else D.nx σ H1)
    (mono : ∀ σ H Q Q', (∀ b H1, Q b H1 → Q' b H1) → c σ H Q → c σ H Q') : tWhile c tb D σ H := by
  refine ⟨fun m σ H => m = μ σ H ∧ Pv σ H, ⟨_, rfl, h0⟩, ?_⟩
  rintro m σ H ⟨rfl, p⟩
  refine mono σ H _ _ (fun b H1 q => ?_) (hs σ H p)
  cases b with
  | true => exact ⟨_, fun σ' H' ⟨p', l⟩ => ⟨_, l, rfl, p'⟩, q⟩
  | false => exact q
end L2

namespace L2
open PySem PySem.Spec PyProof.Rows

abbrev R2 := V → V → Hp → VK → Prop
/-- a two-place operation on values: f is binaryOp op, inplaceOp op or compareOp op -/
def OpR (X : Cx) (f : Value → Value → Sem Value) (r : R2) : Prop :=
  ∀ (pins : List (Addr × Obj)) (s : Shared) (σ : St) (H : Hp) (x y : V) (v u : Value) (Q : VK), Inv X pins σ H s → RelV x v → RelV y u → r x y H Q →
    wpAny (model X.prog X.w) X.A (f v u) (EP X pins σ Q) X.xe s
/-- a one-place operation -/
def UnR (X : Cx) (f : Value → Sem Value) (r : V → Hp → VK → Prop) : Prop :=
  ∀ (pins : List (Addr × Obj)) (s : Shared) (σ : St) (H : Hp) (x : V) (v : Value) (Q : VK), Inv X pins σ H s → RelV x v → r x H Q →
    wpAny (model X.prog X.w) X.A (f v) (EP X pins σ Q) X.xe s
/-- a call of a value that is known (a builtin, a type) with values -/
def CallR (X : Cx) (f : Value) (r : List V → Hp → VK → Prop) : Prop :=
  ∀ (pins : List (Addr × Obj)) (s : Shared) (σ : St) (H : Hp) (xs : List V) (us : List Value) (Q : VK), Inv X pins σ H s → Vals xs us → r xs H Q →
    wpAny (model X.prog X.w) X.A (call f us) (EP X pins σ Q) X.xe s
def tOp (r : R2) (ta tb : TE) : TE := fun σ H Q => ta σ H fun x H1 => tb σ H1 fun y H2 => r x y H2 Q
def tUn (r : V → Hp → VK → Prop) (ta : TE) : TE := fun σ H Q => ta σ H fun x H1 => r x H1 Q
/-- ints in, under C, and a value out -/
def rI (C : Int → Int → Prop) (g : Int → Int → V) : R2 := fun x y H Q => ∃ i j, x = .int i ∧ y = .int j ∧ C i j ∧ Q (g i j) H
def rI0 (g : Int → Int → V) : R2 := fun x y H Q => ∃ i j, x = .int i ∧ y = .int j ∧ Q (g i j) H
def rU (g : Int → V) : V → Hp → VK → Prop := fun x H Q => ∃ i, x = .int i ∧ Q (g i) H

section
variable {X : Cx} {a b c : Expr} {ta tb tc : TE} {pos : Pos}

theorem binT (ha : PE X a ta) (hb : PE X b tb) {pins : List (Addr × Obj)} {s : Shared} {σ : St} {H : Hp} {R : V → V → Hp → Prop} (I : Inv X pins σ H s)
    (h : ta σ H fun x H1 => tb σ H1 fun y H2 => R x y H2) {Q : Value → Shared → Prop} {f : Value → Value → Sem Value}
    (hf : ∀ v u s2 x y H2, Inv X pins σ H2 s2 → RelV x v → RelV y u → R x y H2 → wpAny (model X.prog X.w) X.A (f v u) Q X.xe s2) :
    wpAny (model X.prog X.w) X.A (eval a X.env) (fun v s₁ => wpAny (model X.prog X.w) X.A (eval b X.env) (fun u s₂ => wpAny (model X.prog X.w) X.A (f v u) Q X.xe s₂) X.xe s₁) X.xe s := by
  refine thn (ha pins s σ H _ I h) fun v s1 ⟨x, H1, I1, r1, q1⟩ => ?_
  refine thn (hb pins s1 σ H1 _ I1 q1) fun u s2 ⟨y, H2, I2, r2, q2⟩ => ?_
  exact hf v u s2 x y H2 I2 r1 r2 q2

theorem pe_op {op : Operator} {r : R2} (ho : OpR X (binaryOp op) r) (ha : PE X a ta) (hb : PE X b tb) : PE X (.BinOp a op b pos) (tOp r ta tb) := by
  intro pins s σ H Q I h
  exact wpAny_BinOp (binT ha hb I h fun v u s2 x y H2 I2 rx ry q => ho pins s2 σ H2 x y v u Q I2 rx ry q)
theorem pe_un {op : UnaryOp} {r : V → Hp → VK → Prop} (ho : UnR X (unaryOp op) r) (ha : PE X a ta) : PE X (.UnaryOp op a pos) (tUn r ta) := by
  intro pins s σ H Q I h
  exact UnaryOp_ (thn (ha pins s σ H _ I h) fun v s1 ⟨x, H1, I1, r1, q1⟩ => ho pins s1 σ H1 x v Q I1 r1 q1)
theorem opI {f : Value → Value → Sem Value} {C : Int → Int → Prop} {g : Int → Int → Int}
    (rule : ∀ (i j : Int) (t u : Tok) (s : Shared) (Q : Value → Shared → Prop) (E : Value → Shared → Prop), C i j → Q (.int (g i j) s.toks) { s with toks := s.toks + 1 } → wpAny (model X.prog X.w) X.A (f (.int i t) (.int j u)) Q E s) :
    OpR X f (rI C fun i j => .int (g i j)) := by
  intro pins s σ H x y v u Q I rx ry h
  obtain ⟨i, j, rfl, rfl, hc, q⟩ := h
  obtain ⟨t, rfl⟩ := rx
  obtain ⟨t', rfl⟩ := ry
  exact rule i j t t' s _ _ hc ⟨.int (g i j), H, I.tok _, ⟨_, rfl⟩, q⟩
theorem opI0 {f : Value → Value → Sem Value} {g : Int → Int → Int}
    (rule : ∀ (i j : Int) (t u : Tok) (s : Shared) (Q : Value → Shared → Prop) (E : Value → Shared → Prop), Q (.int (g i j) s.toks) { s with toks := s.toks + 1 } → wpAny (model X.prog X.w) X.A (f (.int i t) (.int j u)) Q E s) :
    OpR X f (rI0 fun i j => .int (g i j)) := by
  intro pins s σ H x y v u Q I rx ry h
  obtain ⟨i, j, rfl, rfl, q⟩ := h
  obtain ⟨t, rfl⟩ := rx
  obtain ⟨t', rfl⟩ := ry
  exact rule i j t t' s _ _ ⟨.int (g i j), H, I.tok _, ⟨_, rfl⟩, q⟩
theorem opB0 {f : Value → Value → Sem Value} {g : Int → Int → Bool}
    (rule : ∀ (i j : Int) (t u : Tok) (s : Shared) (Q : Value → Shared → Prop) (E : Value → Shared → Prop), Q (.bool (g i j)) s → wpAny (model X.prog X.w) X.A (f (.int i t) (.int j u)) Q E s) :
    OpR X f (rI0 fun i j => .bl (g i j)) := by
  intro pins s σ H x y v u Q I rx ry h
  obtain ⟨i, j, rfl, rfl, q⟩ := h
  obtain ⟨t, rfl⟩ := rx
  obtain ⟨t', rfl⟩ := ry
  exact rule i j t t' s _ _ ⟨.bl (g i j), H, I, rfl, q⟩

def CDiv (i j : Int) : Prop := 0 < j ∧ j < 1073741824
def CPow (i j : Int) : Prop := 0 ≤ j ∧ j ≤ 1000000 ∧ i.natAbs < 2 ^ 64
def CMul (i j : Int) : Prop := (-(2 ^ 64) < i ∧ i < 2 ^ 64) ∨ (-(2 ^ 64) < j ∧ j < 2 ^ 64)
theorem CMul.ok {i j : Int} (h : CMul i j) : IntMulOk i j := by
  rcases h with ⟨h1, h2⟩ | ⟨h1, h2⟩
  · exact .of_left (intBits_le_64 h1 h2)
  · exact .of_right (intBits_le_64 h1 h2)
theorem op_add : OpR X (binaryOp .Add) (rI0 fun i j => .int (i + j)) := opI0 fun _ _ _ _ _ _ _ q => add_int q
theorem op_sub : OpR X (binaryOp .Sub) (rI0 fun i j => .int (i - j)) := opI0 fun _ _ _ _ _ _ _ q => sub_int q
theorem op_mul : OpR X (binaryOp .Mult) (rI CMul fun i j => .int (i * j)) := opI fun _ _ _ _ _ _ _ hc q => mul_int q hc.ok
/-- // by a positive divisor -/
theorem op_fdiv : OpR X (binaryOp .FloorDiv) (rI CDiv fun i j => .int (i / j)) := opI fun i j _ _ _ _ _ hc q => by
  have h1 : (0 : Int) < j := hc.1
  have h2 : j < 1073741824 := hc.2
  exact floordiv_int (by omega) (by rw [Int.fdiv_eq_ediv_of_nonneg i (by omega)]; exact q) (.inl (PyProof.noPylong_small (by omega)))
theorem op_pow : OpR X (binaryOp .Pow) (rI CPow fun i j => .int (i ^ j.toNat)) := opI fun _ _ _ _ _ _ _ hc q => pow_int_small hc.1 hc.2.1 hc.2.2 q
theorem unI {f : Value → Sem Value} {g : Int → Int}
    (rule : ∀ (i : Int) (t : Tok) (s : Shared) (Q : Value → Shared → Prop) (E : Value → Shared → Prop), Q (.int (g i) s.toks) { s with toks := s.toks + 1 } → wpAny (model X.prog X.w) X.A (f (.int i t)) Q E s) :
    UnR X f (rU fun i => .int (g i)) := by
  intro pins s σ H x v Q I rx h
  obtain ⟨i, rfl, q⟩ := h
  obtain ⟨t, rfl⟩ := rx
  exact rule i t s _ _ ⟨.int (g i), H, I.tok _, ⟨_, rfl⟩, q⟩
theorem un_neg : UnR X (unaryOp .USub) (rU fun i => .int (-i)) := unI fun _ _ _ _ _ q => neg_int q
end

/-- the scalars that == tells apart as data does -/
def scal : V → V → Bool
  | .non, .non => true | .non, .int _ => true | .int _, .non => true | .non, .bl _ => true | .bl _, .non => true | .non, .str _ => true | .str _, .non => true
  | .int _, .int _ => true | .bl _, .bl _ => true | .str _, .str _ => true | .byt _, .byt _ => true
  | .int _, .str _ => true | .str _, .int _ => true | .bl _, .str _ => true | .str _, .bl _ => true
  | _, _ => false
def rEq : R2 := fun x y H Q => scal x y = true ∧ Q (.bl (decide (x = y))) H
def rNe : R2 := fun x y H Q => scal x y = true ∧ Q (.bl (!decide (x = y))) H

theorem dec_int {i j : Int} : decide (V.int i = V.int j) = (i == j) := by
  rw [Bool.eq_iff_iff]
  simp
theorem dec_bl {i j : Bool} : decide (V.bl i = V.bl j) = (i == j) := by
  rw [Bool.eq_iff_iff]
  simp
theorem dec_str {i j : Str} : decide (V.str i = V.str j) = (i == j) := by
  rw [Bool.eq_iff_iff]
  simp
theorem dec_byt {i j : Array UInt8} : decide (V.byt i = V.byt j) = (i.toList == j.toList) := by
  rw [Bool.eq_iff_iff]
  cases i
  cases j
  simp

section
variable {X : Cx} {a b c : Expr} {ta tb tc : TE} {pos : Pos}
theorem fin_bl {pins : List (Addr × Obj)} {σ : St} {H : Hp} {s : Shared} {Q : VK} {k k' : Bool} (I : Inv X pins σ H s) (q : Q (.bl k) H) (e : k = k') : EP X pins σ Q (.bool k') s := by
  subst e
  exact ⟨.bl k, H, I, rfl, q⟩
theorem op_eq : OpR X (compareOp .Eq) rEq := by
  intro pins s σ H x y v u Q I rx ry h
  obtain ⟨hs, q⟩ := h
  cases x with
  | non =>
    cases rx
    cases y with
    | non => cases ry; exact PySem.EqNone.eq_none_none (fin_bl I q (by simp))
    | bl j => cases ry; exact PySem.EqNone.eq_none_bool (fin_bl I q (by simp))
    | int j => obtain ⟨t', rfl⟩ := ry; exact PySem.EqNone.eq_none_int (fin_bl I q (by simp))
    | str j => obtain ⟨t', rfl⟩ := ry; exact PySem.EqNone.eq_none_str (fin_bl I q (by simp))
    | _ => exact absurd (show false = true from hs) Bool.false_ne_true
  | bl i =>
    cases rx
    cases y with
    | non => cases ry; exact PySem.EqNone.eq_bool_none (fin_bl I q (by simp))
    | bl j => cases ry; exact eq_bool (fin_bl I q dec_bl)
    | str j => obtain ⟨t', rfl⟩ := ry; exact PySem.EqMixed.eq_bool_str (fin_bl I q (by simp))
    | _ => exact absurd (show false = true from hs) Bool.false_ne_true
  | int i =>
    obtain ⟨t, rfl⟩ := rx
    cases y with
    | non => cases ry; exact PySem.EqNone.eq_int_none (fin_bl I q (by simp))
    | int j => obtain ⟨t', rfl⟩ := ry; exact eq_int (fin_bl I q dec_int)
    | str j => obtain ⟨t', rfl⟩ := ry; exact PySem.EqMixed.eq_int_str (fin_bl I q (by simp))
    | _ => exact absurd (show false = true from hs) Bool.false_ne_true
  | str i =>
    obtain ⟨t, rfl⟩ := rx
    cases y with
    | non => cases ry; exact PySem.EqNone.eq_str_none (fin_bl I q (by simp))
    | bl j => cases ry; exact PySem.EqMixed.eq_str_bool (fin_bl I q (by simp))
    | int j => obtain ⟨t', rfl⟩ := ry; exact PySem.EqMixed.eq_str_int (fin_bl I q (by simp))
    | str j => obtain ⟨t', rfl⟩ := ry; exact eq_str (fin_bl I q dec_str)
    | _ => exact absurd (show false = true from hs) Bool.false_ne_true
  | byt i =>
    obtain ⟨t, rfl⟩ := rx
    cases y with
    | byt j => obtain ⟨t', rfl⟩ := ry; exact PySem.W.eq_bytes (fin_bl I q dec_byt)
    | _ => exact absurd (show false = true from hs) Bool.false_ne_true
  | _ => cases y <;> exact absurd (show false = true from hs) Bool.false_ne_true
theorem op_ne : OpR X (compareOp .NotEq) rNe := by
  intro pins s σ H x y v u Q I rx ry h
  obtain ⟨hs, q⟩ := h
  cases x with
  | non =>
    cases rx
    cases y with
    | non => cases ry; exact PySem.EqNone.ne_none_none (fin_bl I q (by simp))
    | bl j => cases ry; exact PySem.EqNone.ne_none_bool (fin_bl I q (by simp))
    | int j => obtain ⟨t', rfl⟩ := ry; exact PySem.EqNone.ne_none_int (fin_bl I q (by simp))
    | str j => obtain ⟨t', rfl⟩ := ry; exact PySem.EqNone.ne_none_str (fin_bl I q (by simp))
    | _ => exact absurd (show false = true from hs) Bool.false_ne_true
  | bl i =>
    cases rx
    cases y with
    | non => cases ry; exact PySem.EqNone.ne_bool_none (fin_bl I q (by simp))
    | bl j => cases ry; exact ne_bool (fin_bl I q (congrArg not dec_bl))
    | str j => obtain ⟨t', rfl⟩ := ry; exact PySem.EqMixed.ne_bool_str (fin_bl I q (by simp))
    | _ => exact absurd (show false = true from hs) Bool.false_ne_true
  | int i =>
    obtain ⟨t, rfl⟩ := rx
    cases y with
    | non => cases ry; exact PySem.EqNone.ne_int_none (fin_bl I q (by simp))
    | int j => obtain ⟨t', rfl⟩ := ry; exact ne_int (fin_bl I q (congrArg not dec_int))
    | str j => obtain ⟨t', rfl⟩ := ry; exact PySem.EqMixed.ne_int_str (fin_bl I q (by simp))
    | _ => exact absurd (show false = true from hs) Bool.false_ne_true
  | str i =>
    obtain ⟨t, rfl⟩ := rx
    cases y with
    | non => cases ry; exact PySem.EqNone.ne_str_none (fin_bl I q (by simp))
    | bl j => cases ry; exact PySem.EqMixed.ne_str_bool (fin_bl I q (by simp))
    | int j => obtain ⟨t', rfl⟩ := ry; exact PySem.EqMixed.ne_str_int (fin_bl I q (by simp))
    | str j => obtain ⟨t', rfl⟩ := ry; exact ne_str (fin_bl I q (congrArg not dec_str))
    | _ => exact absurd (show false = true from hs) Bool.false_ne_true
  | byt i =>
    obtain ⟨t, rfl⟩ := rx
    cases y with
    | byt j => obtain ⟨t', rfl⟩ := ry; exact PySem.W.ne_bytes (fin_bl I q (congrArg not dec_byt))
    | _ => exact absurd (show false = true from hs) Bool.false_ne_true
  | _ => cases y <;> exact absurd (show false = true from hs) Bool.false_ne_true

theorem op_lt : OpR X (compareOp .Lt) (rI0 fun i j => .bl (decide (i < j))) := opB0 fun _ _ _ _ _ _ _ q => lt_int q
theorem op_le : OpR X (compareOp .LtE) (rI0 fun i j => .bl (decide (i ≤ j))) := opB0 fun _ _ _ _ _ _ _ q => le_int q
theorem op_gt : OpR X (compareOp .Gt) (rI0 fun i j => .bl (decide (j < i))) := opB0 fun _ _ _ _ _ _ _ q => gt_int q
theorem op_ge : OpR X (compareOp .GtE) (rI0 fun i j => .bl (decide (j ≤ i))) := opB0 fun _ _ _ _ _ _ _ q => ge_int q
/-- two rules for one operation: by cases -/
theorem OpR.or {f : Value → Value → Sem Value} {r r' : R2} (h : OpR X f r) (h' : OpR X f r') : OpR X f (fun x y H Q => r x y H Q ∨ r' x y H Q) := by
  intro pins s σ H x y v u Q I rx ry q
  rcases q with q | q
  · exact h pins s σ H x y v u Q I rx ry q
  · exact h' pins s σ H x y v u Q I rx ry q

theorem nomark (b : Expr) {op : CmpOp} (h : op ≠ .In := by decide) (h2 : op ≠ .NotIn := by decide) : behindInMarks op b = false := by
  have e1 : (op == CmpOp.In) = false := by cases op <;> first | rfl | exact absurd rfl h
  have e2 : (op == CmpOp.NotIn) = false := by cases op <;> first | rfl | exact absurd rfl h2
  cases b <;> simp [behindInMarks, e1, e2]
/-- a comparison as a value; hm: nomark b, or (for in, not in) by with_unfolding_all rfl -/
theorem pe_cmpR {op : CmpOp} {r : R2} (ho : OpR X (compareOp op) r) (ha : PE X a ta) (hb : PE X b tb) (hm : behindInMarks op b = false) : PE X (.Compare a [op] [b] pos) (tOp r ta tb) := by
  intro pins s σ H Q I h
  exact wpAny_Compare1 (binT ha hb I h fun v u s2 x y H2 I2 rx ry q => ho pins s2 σ H2 x y v u Q I2 rx ry q) hm
/-- a reading of a value as a test -/
def tTest (t : TE) : TT := fun σ H Q => t σ H fun x H' => ∃ k, x = .bl k ∧ Q k H'
theorem pt_cmpR {op : CmpOp} {r : R2} (ho : OpR X (compareOp op) r) (ha : PE X a ta) (hb : PE X b tb) (hm : behindInMarks op b = false) : PT X (.Compare a [op] [b] pos) (tTest (tOp r ta tb)) := by
  intro pins s σ H Q I h
  refine wpAny_isTrue_Compare1 (thn (ha pins s σ H _ I h) fun v s1 ⟨x, H1, I1, r1, q1⟩ => thn (hb pins s1 σ H1 _ I1 q1) fun u s2 ⟨y, H2, I2, r2, q2⟩ =>
    thn (ho pins s2 σ H2 x y v u _ I2 r1 r2 q2) fun c s3 ⟨z, H3, I3, r3, k, e, q3⟩ => ?_) hm
  subst e
  cases r3
  exact wpAny_truthy_bool ⟨H3, I3, q3⟩
/-- a op1 b op2 c -/
def tChain (r r' : R2) (ta tb tc : TE) : TE := fun σ H Q => ta σ H fun x H1 => tb σ H1 fun y H2 => r x y H2 fun z H3 => ∃ k, z = .bl k ∧
  (if k = true then tc σ H3 fun w' H4 => r' y w' H4 Q else Q (.bl false) H3)
theorem pe_chain {op op' : CmpOp} {r r' : R2} (ho : OpR X (compareOp op) r) (ho' : OpR X (compareOp op') r') (ha : PE X a ta) (hb : PE X b tb) (hc : PE X c tc)
    (hm : lastMarks [op, op'] [b, c] = false := by with_unfolding_all rfl) : PE X (.Compare a [op, op'] [b, c] pos) (tChain r r' ta tb tc) := by
  intro pins s σ H Q I h
  refine Compare_chain (thn (ha pins s σ H _ I h) fun v s1 ⟨x, H1, I1, r1, q1⟩ => chain_link (thn (hb pins s1 σ H1 _ I1 q1) fun u s2 ⟨y, H2, I2, r2, q2⟩ =>
    thn (ho pins s2 σ H2 x y v u _ I2 r1 r2 q2) fun d s3 ⟨z, H3, I3, r3, k, e, q3⟩ => ?_)) hm
  subst e
  cases r3
  refine wpAny_truthy_bool ?_
  cases k with
  | false => exact ite_ff ⟨.bl false, H3, I3, rfl, q3⟩
  | true => exact ite_tt (chain_last (thn (hc pins s3 σ H3 _ I3 q3) fun w' s4 ⟨z', H4, I4, r4, q4⟩ => ho' pins s4 σ H4 y z' u w' Q I4 r2 r4 q4))
theorem line63 : (sizeLine : Nat) < 2 ^ 63 := by rw [sizeLine_eq]; decide
theorem vals1 {x : V} {us : List Value} (r : Vals [x] us) : ∃ u, us = [u] ∧ RelV x u := by
  cases r with
  | cons r1 r2 => cases r2; exact ⟨_, rfl, r1⟩
theorem vals2 {x y : V} {us : List Value} (r : Vals [x, y] us) : ∃ u w', us = [u, w'] ∧ RelV x u ∧ RelV y w' := by
  cases r with
  | cons r1 r2 =>
    cases r2 with
    | cons r3 r4 => cases r4; exact ⟨_, _, rfl, r1, r3⟩
theorem call_max2 (hc : X.calm = true) : CallR X (.builtin "max") (fun xs H Q => ∃ i j, xs = [.int i, .int j] ∧ Q (.int (if j > i then j else i)) H) := by
  intro pins s σ H xs us Q I r h
  obtain ⟨i, j, rfl, q⟩ := h
  obtain ⟨u, w', rfl, ⟨t, rfl⟩, ⟨t', rfl⟩⟩ := vals2 r
  refine max_two_ints (I.ok.hd hc) fun h' tk k => ⟨_, H, I.kept k, ?_, q⟩
  by_cases hj : j > i
  · rw [if_pos hj, if_pos hj]; exact ⟨_, rfl⟩
  · rw [if_neg hj, if_neg hj]; exact ⟨_, rfl⟩
end
end L2

namespace L2
open PySem PySem.Spec PyProof.Rows

structure ObjM (h : Heap) (x dx C : Addr) (mA : Str → Option Value) : Prop where
  obj : h.get? x = some (PySem.W.instObj C dx)
  ns : h.Ns1 dx mA
  ne : dx ≠ x

theorem lookIn_ns {h : Heap} {dx : Addr} {mA : Str → Option Value} (n : h.Ns1 dx mA) : ∃ od, h.get? dx = some od ∧ ∀ name, PySem.W.lookIn name od = some (mA name) := by
  obtain ⟨o, es, ep, ho, hd, hk, _, hm⟩ := n
  refine ⟨o, ho, fun name => ?_⟩
  have e := hm name
  unfold nsFind findBy at e
  rw [← Array.find?_toList] at e
  unfold PySem.W.lookIn
  rw [hd]
  dsimp only
  split
  · rename_i y q
    rw [q] at e
    exact congrArg some e
  · rename_i q
    rw [q] at e
    have a : es.toList.any (·.refKey) = false := by
      rw [List.any_eq_false]
      intro y hy
      obtain ⟨z, t, hkey⟩ := hk y (Array.mem_toList_iff.mp hy)
      simp [DictEntry.refKey, hkey]
    have a' : ¬ es.toList.any (·.refKey) = true := by rw [a]; exact Bool.false_ne_true
    rw [if_neg a']
    exact congrArg some e

theorem ObjM.look {h : Heap} {x dx C : Addr} {mA : Str → Option Value} (I : ObjM h x dx C mA) : ∃ od, PySem.W.InstAt h x (PySem.W.instObj C dx) C (some od) ∧ ∀ name, PySem.W.lookIn name od = some (mA name) :=
  let ⟨od, ho, hl⟩ := lookIn_ns I.ns
  ⟨od, ⟨I.obj, rfl, rfl, ho⟩, hl⟩

section
variable {prog : Program} {w : World} {A : Around} {E : Value → Shared → Prop} {s : Shared} {K : PySem.W.Frag} {x dx C f : Addr} {mA : Str → Option Value} {name : Str} {v : Value}

theorem get_map {expr : Bool} {Q : Value → Shared → Prop} (X : K.In s.heap) (I : ObjM s.heap x dx C mA) (hg : PySem.W.plainGet K C name = true) (hh : PySem.W.hasDictIn K C = true)
    (ha : PySem.W.findIn K (.ref C) name = some none) (hv : mA name = some v) (hv' : PySem.W.handedIn v = true) (h : Q v { s with toks := s.toks + 1 }) :
    wpAny (model prog w) A (getAttr (.ref x) name expr) Q E s := by
  obtain ⟨od, J, hl⟩ := I.look
  exact PySem.W.get_value X J (PySem.W.plainGet_of hg).1 (PySem.W.findObj_own hh ha rfl (by rw [hl, hv])) hv' h

theorem set_map {ns : List Str} {Q : Unit → Shared → Prop} (X : K.In s.heap) (I : ObjM s.heap x dx C mA)
    (hs : PySem.W.findIn K (.ref C) "__setattr__" = some (some (.builtin "object.__setattr__"))) (hp : PySem.W.plainOver K C = true) (ht : PySem.W.takerIn K C name = some none) (hh : PySem.W.hasDictIn K C = true)
    (hw : PySem.Within mA ns) (hsz : ns.length ≤ sizeLine)
    (h : ∀ h', ObjM h' x dx C (fun y => if y = name then some v else mA y) → Heap.SameBut dx s.heap h' → Q () { s with heap := h', toks := s.toks + 2 }) :
    wpAny (model prog w) A (setAttr (.ref x) name v) Q E s := by
  obtain ⟨od, J, hl⟩ := I.look
  refine PySem.W.set_plain X J hs (PySem.W.osa_open (s := { s with toks := s.toks + 1 }) (r := none) X J hp ht fun b => ?_)
  obtain ⟨cd, hc, hd'⟩ := PySem.W.any_some hh
  have hx : s.heap.get? x = some ⟨.ref C, some dx, .plain, #[]⟩ := I.obj
  refine wpAny_bind (wpAny_pure (wpAny_bind (wpAny_bind (wpAny_loadPart hx (wpAny_bind (PySem.W.Looks.here (s := { s with toks := s.toks + 1 }) (PySem.W.looks_clsIn X hc) ?_))))))
  rw [hd']
  refine wpAny_pure (a := some dx) (wpAny_bind (wpAny_pure (wpAny_bind ?_)))
  refine wpAny_nsSet1 (s := { s with toks := s.toks + 1 }) I.ns fun h' hn2 hs2 => ?_
  obtain ⟨oD, esD, epD, hoD, hdD, hcD⟩ := hn2.count (PySem.Within.cons name v hw)
  refine wpAny_bind (wpAny_lookBehind hoD (by rw [hdD]; exact pastItsLine_dict (Nat.le_trans hcD (by rw [List.length_cons]; omega))) ?_)
  exact wpAny_pure (h _ ⟨(hs2.2 _ (Ne.symm I.ne)).trans I.obj, hn2, I.ne⟩ hs2)

/-- C(..): the dict at the heap's end, the instance behind it; then its __init__ -/
theorem make_map {R : Result → Shared → Prop} {vs : List Value} {kw : List (Str × Value)} (X : K.In s.heap) (hm : PySem.W.makesIn K C = true)
    (hi : PySem.W.findIn K (.ref C) "__init__" = some (some (.ref f))) (hf : PySem.W.typeIn K (.ref f) = some (.type "function"))
    (h : codeAny (model prog w) (A.under (.builtin "type.__call__" ⟨.ref C :: vs, kw⟩)) (.call (.ref f) ⟨.ref (s.heap.objs.size + 1) :: vs, kw⟩) (PySem.W.InitBack (s.heap.objs.size + 1) R)
      { s with heap := (s.heap.push PySem.W.emptyDict).push (PySem.W.instObj C s.heap.objs.size) }) :
    codeAny (model prog w) A (.call (.ref C) ⟨vs, kw⟩) R s := by
  obtain ⟨hh, g, d, t, os⟩ := s
  exact PySem.W.make_core (PySem.W.makes_of X hm) (PySem.W.looks_findIn X hi) (fun self => PySem.W.bind_fn X self hf) (.inl rfl) h
end

def putF (f : Str) (v : V) : List (Str × V) → List (Str × V)
  | [] => [(f, v)]
  | (g, x) :: r => if g = f then (g, v) :: r else (g, x) :: putF f v r
theorem lookup_putF (f g : Str) (v : V) : ∀ fs : List (Str × V), (putF f v fs).lookup g = if g = f then some v else fs.lookup g
  | [] => by
    show List.lookup g [(f, v)] = _
    by_cases h : g = f
    · have hb : (g == f) = true := beq_iff_eq.mpr h
      simp only [List.lookup, hb, if_pos h]
    · have hb : (g == f) = false := beq_eq_false_iff_ne.mpr h
      simp only [List.lookup, hb, if_neg h]
  | (k, x) :: r => by
    have ih := lookup_putF f g v r
    rw [show putF f v ((k, x) :: r) = (if k = f then (k, v) :: r else (k, x) :: putF f v r) from rfl]
    by_cases hk : k = f
    · rw [if_pos hk]
      by_cases h : g = k
      · have hb : (g == k) = true := beq_iff_eq.mpr h
        simp only [List.lookup, hb, if_pos (h.trans hk)]
      · have hb : (g == k) = false := beq_eq_false_iff_ne.mpr h
        simp only [List.lookup, hb, if_neg (fun e : g = f => h (e.trans hk.symm))]
    · rw [if_neg hk]
      by_cases h : g = k
      · have hb : (g == k) = true := beq_iff_eq.mpr h
        simp only [List.lookup, hb, if_neg (fun e : g = f => hk (h.symm.trans e))]
      · have hb : (g == k) = false := beq_eq_false_iff_ne.mpr h
        simp only [List.lookup, hb]
        exact ih
theorem keys_putF (f : Str) (v : V) : ∀ fs : List (Str × V), f ∈ (putF f v fs).map (·.1) ∧ ∀ g, g ∈ fs.map (·.1) → g ∈ (putF f v fs).map (·.1)
  | [] => ⟨by simp [putF], fun g h => by simp at h⟩
  | (k, x) :: r => by
    obtain ⟨i1, i2⟩ := keys_putF f v r
    rw [show putF f v ((k, x) :: r) = (if k = f then (k, v) :: r else (k, x) :: putF f v r) from rfl]
    by_cases hk : k = f
    · rw [if_pos hk]
      subst hk
      exact ⟨by simp, fun g h => by simpa using h⟩
    · rw [if_neg hk]
      refine ⟨?_, fun g h => ?_⟩
      · rw [List.map_cons]
        exact List.mem_cons_of_mem _ i1
      · rw [List.map_cons] at h ⊢
        rcases List.mem_cons.mp h with e | e
        · exact List.mem_cons.mpr (.inl e)
        · exact List.mem_cons_of_mem _ (i2 g e)
theorem length_putF (f : Str) (v : V) : ∀ fs : List (Str × V), (putF f v fs).length ≤ fs.length + 1
  | [] => by simp [putF]
  | (k, x) :: r => by
    have ih := length_putF f v r
    rw [show putF f v ((k, x) :: r) = (if k = f then (k, v) :: r else (k, x) :: putF f v r) from rfl]
    by_cases hk : k = f
    · rw [if_pos hk, List.length_cons, List.length_cons]; omega
    · rw [if_neg hk, List.length_cons, List.length_cons]; omega

theorem RelO.some_of {v : V} {o : Option Value} (r : RelO (some v) o) : ∃ u, o = some u ∧ RelV v u := by
  cases o with
  | none => exact (show False from r).elim
  | some u => exact ⟨u, rfl, r⟩
theorem RelO.none_of {o : Option Value} (r : RelO none o) : o = none := by
  cases o with
  | none => rfl
  | some u => exact (show False from r).elim
theorem handed_of {v : V} {u : Value} (r : RelV v u) : PySem.W.handedIn u = true := by
  cases v with
  | non => cases (show u = Value.none from r); rfl
  | bl b => cases (show u = Value.bool b from r); rfl
  | int i => obtain ⟨t, e⟩ := (show ∃ t, u = Value.int i t from r); cases e; rfl
  | str x => obtain ⟨t, e⟩ := (show ∃ t, u = Value.str x t from r); cases e; rfl
  | byt b => obtain ⟨t, e⟩ := (show ∃ t, u = Value.bytes b t from r); cases e; rfl
  | flt b => obtain ⟨t, e⟩ := (show ∃ t, u = Value.float b t from r); cases e; rfl
  | ref a => cases (show u = Value.ref a from r); rfl
  | ty n => cases (show u = Value.type n from r); rfl

section
variable {P : Program} {w : World} {H H' : Hp} {h h' : Heap} {a C dx : Addr} {fs fs' : List (Str × V)}
theorem ins_get (hok : HOk P w H h) (e : H a = some (.ins C dx fs)) : ∃ mA, ObjM h a dx C mA ∧ (∀ f, RelO (fs.lookup f) (mA f)) ∧ PySem.Within mA (fs.map (·.1)) ∧ fs.length ≤ 1000 ∧ H dx = some (.own a) := by
  obtain ⟨d, z, ne, ob, mA, n, r, q⟩ := (show ObjOk P w H h a (.ins C dx fs) from hok a _ e)
  exact ⟨mA, ⟨ob, n, ne⟩, r, q, z, d⟩
end

structure Cls (K : PySem.W.Frag) (C : Addr) : Prop where
  pg : PySem.W.plainGet K C Str.empty = true
  hd : PySem.W.hasDictIn K C = true
  po : PySem.W.plainOver K C = true
  sa : PySem.W.findIn K (.ref C) "__setattr__" = some (some (.builtin "object.__setattr__"))
theorem Cls.get {K : PySem.W.Frag} {C : Addr} (c : Cls K C) (f : Str) : PySem.W.plainGet K C f = true := c.pg
/-- no class of it has the name -/
def NoAttr (K : PySem.W.Frag) (C : Addr) (f : Str) : Prop := PySem.W.findIn K (.ref C) f = some none
theorem NoAttr.taker {K : PySem.W.Frag} {C : Addr} {f : Str} (n : NoAttr K C f) : PySem.W.takerIn K C f = some none := by
  unfold PySem.W.takerIn
  rw [show PySem.W.findIn K (.ref C) f = some none from n]
  rfl
section
variable {X : Cx} {pins : List (Addr × Obj)} {σ : St} {H : Hp} {s : Shared} {a C dx : Addr} {fs : List (Str × V)} {f : Str} {v : V} {A : Around} {E : Value → Shared → Prop}

theorem getattr_ok {b : Bool} {Q : Value → Shared → Prop} (I : Inv X pins σ H s) (e : H a = some (.ins C dx fs)) (c : Cls X.K C) (n : NoAttr X.K C f) (l : fs.lookup f = some v)
    (h : ∀ u s', Inv X pins σ H s' → RelV v u → Q u s') : wpAny (model X.prog X.w) A (getAttr (.ref a) f b) Q E s := by
  obtain ⟨mA, O, r, _, _, _⟩ := ins_get I.hok e
  obtain ⟨u, hu, ru⟩ := RelO.some_of (v := v) (o := mA f) (by rw [← l]; exact r f)
  exact get_map I.kIn O (c.get f) c.hd n hu (handed_of ru) (h u _ (I.tok _) ru)

theorem setattr_ok {y : V} {u : Value} {Q : Unit → Shared → Prop} (I : Inv X pins σ H s) (e : H a = some (.ins C dx fs)) (c : Cls X.K C) (n : NoAttr X.K C f) (hl : fs.length < 1000) (ry : RelV y u)
    (h : ∀ s', Inv X pins σ (upd H a (.ins C dx (putF f y fs))) s' → Q () s') : wpAny (model X.prog X.w) A (setAttr (.ref a) f u) Q E s := by
  obtain ⟨mA, O, r, wi, _, ho⟩ := ins_get I.hok e
  have hz : (fs.map (·.1)).length ≤ sizeLine := by rw [List.length_map, sizeLine_eq]; omega
  refine set_map I.kIn O c.sa c.po n.taker c.hd wi hz fun h' O' sb => h _ ?_
  have hd : ∃ o, h'.get? dx = some o := let ⟨o, _, _, e', _⟩ := O'.ns; ⟨o, e'⟩
  refine I.write (x := a) (e := dx) (by rw [e]; exact True.intro) (.inr ho) (fun b q hb z => (sb.2 b hb).trans z) hd ?_
  refine ⟨by rw [upd_ne O.ne]; exact ho, ?_, O.ne, O'.obj, _, O'.ns, fun g => ?_, fun g hg => ?_⟩
  · have := length_putF f y fs; omega
  · show RelO ((putF f y fs).lookup g) (if g = f then some u else mA g)
    rw [lookup_putF]
    by_cases q : g = f
    · rw [if_pos q, if_pos q]; exact ry
    · rw [if_neg q, if_neg q]; exact r g
  · by_cases q : g = f
    · rw [q]; exact (keys_putF f y fs).1
    · refine (keys_putF f y fs).2 g (wi g fun z => hg ?_)
      show (if g = f then some u else mA g) = none
      rw [if_neg q]; exact z

/-- a new instance, tracked, without attributes -/
theorem Inv.made (I : Inv X pins σ H s) : Inv X pins σ (upd (upd H s.heap.objs.size (.own (s.heap.objs.size + 1))) (s.heap.objs.size + 1) (.ins C s.heap.objs.size []))
    { s with heap := (s.heap.push PySem.W.emptyDict).push (PySem.W.instObj C s.heap.objs.size) } := by
  have e1 : (s.heap.push PySem.W.emptyDict).get? s.heap.objs.size = some PySem.W.emptyDict := Heap.get?_push_size s.heap rfl
  have e2 : ((s.heap.push PySem.W.emptyDict).push (PySem.W.instObj C s.heap.objs.size)).get? (s.heap.objs.size + 1) = some (PySem.W.instObj C s.heap.objs.size) := by
    have := Heap.get?_push_size (s.heap.push PySem.W.emptyDict) (o := PySem.W.instObj C s.heap.objs.size) rfl
    rwa [Heap.size_push] at this
  have e3 : (s.heap.push PySem.W.emptyDict).Ns s.heap.objs.size (fun _ => none) := ⟨PySem.W.emptyDict, #[], _, e1, rfl, (fun e he => absurd he (by simp)), fun _ => rfl⟩
  have I1 := I.laid (a := s.heap.objs.size) (o := .own (s.heap.objs.size + 1)) (h' := s.heap.push PySem.W.emptyDict) (t' := s.toks) (fun b u q => Heap.get?_push_of_some _ q) (Nat.le_refl _) ⟨_, e1⟩
  refine I1.laid (a := s.heap.objs.size + 1) (o := .ins C s.heap.objs.size []) (t' := s.toks) (fun b u q => Heap.get?_push_of_some _ q) (Nat.le_of_eq (Heap.size_push _ _)) ?_
  have ne : s.heap.objs.size ≠ s.heap.objs.size + 1 := Nat.ne_of_lt (Nat.lt_succ_self _)
  refine ⟨by rw [upd_ne ne, upd_same], Nat.zero_le _, ne, e2, fun _ => none, (Heap.Ns1.of_empty e3).at fun o q => Heap.get?_push_of_some _ q, fun _ => True.intro, fun y hy => absurd rfl hy⟩

/-- e.f where nothing but the object is asked: through attributeBase (super) and the last hold -/
theorem attr_of {prog : Program} {w : World} {env : Env} {e : Expr} {f : Str} {pos : Pos} {s : Shared} {Q : Value → Shared → Prop} (hb : attributeBase e f env (eval e env) = eval e env)
    (h : wpAny (model prog w) A (eval e env) (fun o s₁ => wpAny (model prog w) A (getAttr o f true) Q E s₁) E s) : wpAny (model prog w) A (eval (.Attribute e f pos) env) Q E s :=
  Attribute_any_ h (by rw [arm_eval_Attribute, hb])
end

/-- e.f, an attribute of the instance -/
def tFld (K : PySem.W.Frag) (ta : TE) (f : Str) : TE := fun σ H Q => ta σ H fun x H1 => ∃ a C dx fs v, x = .ref a ∧ H1 a = some (.ins C dx fs) ∧ Cls K C ∧ NoAttr K C f ∧ fs.lookup f = some v ∧ Q v H1
/-- e.f = value -/
def sFld (K : PySem.W.Frag) (ta tv : TE) (f : Str) : TS := fun D σ H => tv σ H fun y H1 => ta σ H1 fun x H2 => ∃ a C dx fs, x = .ref a ∧ H2 a = some (.ins C dx fs) ∧ Cls K C ∧ NoAttr K C f ∧ fs.length < 1000 ∧
  D.nx σ (upd H2 a (.ins C dx (putF f y fs)))
section
variable {X : Cx} {o e value : Expr} {f : Str} {pos pos' tpos : Pos} {ta tv : TE}
theorem pe_fld (he : PE X e ta) (hb : attributeBase e f X.env (eval e X.env) = eval e X.env) : PE X (.Attribute e f pos) (tFld X.K ta f) := by
  intro pins s σ H Q I h
  refine attr_of hb (thn (he pins s σ H _ I h) fun u s1 ⟨x, H1, I1, rx, a, C, dx, fs, v, ex, ea, c, n, l, q⟩ => ?_)
  subst ex
  obtain rfl : u = Value.ref a := rx
  exact getattr_ok I1 ea c n l fun u' s2 I2 ru => ⟨v, H1, I2, ru, q⟩
theorem ps_fld (ha : PE X o ta) (hv : PE X value tv) (hs : swapsWith value (some (.Attribute o f pos')) pos.line X.env = pure false) : PS X (.Assign [.Attribute o f pos'] value pos) (sFld X.K ta tv f) := by
  intro pins s σ H D I h
  refine plainObj_wpAny_Assign_Attribute (thn (hv pins s σ H _ I h) fun u s1 ⟨y, H1, I1, ry, q⟩ => thn (ha pins s1 σ H1 _ I1 q) fun ov s2 ⟨x, H2, I2, rx, a, C, dx, fs, ex, ea, c, n, l, q2⟩ => ?_) hs
  subst ex
  obtain rfl : ov = Value.ref a := rx
  exact setattr_ok I2 ea c n l ry fun s3 I3 => ⟨σ, _, I3, q2⟩
end

section
variable {X : Cx} {pins : List (Addr × Obj)} {σ : St} {H : Hp} {s : Shared} {A : Around} {E : Value → Shared → Prop} {Q : Value → Shared → Prop} {c : Value} {b : Bool}
end
end L2

namespace L2
open PySem PySem.Spec PyProof.Rows

structure Room (k : Nat) (A : Around) : Prop where
  hd : A.handled = none
  dp : A.depth + 3 * k + 5 < recursionLimit
  un : A.units + 16 * k + 200 < cLine
theorem Room.mono {j k : Nat} {A : Around} (r : Room k A) (h : j ≤ k) : Room j A := ⟨r.hd, by have := r.dp; omega, by have := r.un; omega⟩
theorem Room.deeper {k : Nat} {A : Around} (r : Room (k + 1) A) (env : Env) : Room k (A.deeper env) :=
  ⟨r.hd, by have := r.dp; show A.depth + 1 + 3 * k + 5 < _; omega, by have := r.un; show A.units + 3 + 16 * k + 200 < _; omega⟩
theorem Room.in1 {k : Nat} {A : Around} (r : Room (k + 1) A) : Room k A.in1 :=
  ⟨r.hd, by have := r.dp; show A.depth + 3 * k + 5 < _; omega, by have := r.un; show A.units + 1 + 16 * k + 200 < _; omega⟩
theorem make_depth {A : Around} {C : Addr} {us : List Value} {kw : List (Str × Value)} : (A.under (.builtin "type.__call__" ⟨.ref C :: us, kw⟩)).depth = A.depth + 1 := by
  first | rfl | simp [Around.under, Code.weight, Code.isCreation, Code.isGuard, Code.isCaller, Code.frames, Code.isFrame, guardIds]
theorem make_units {A : Around} {C : Addr} {us : List Value} {kw : List (Str × Value)} : (A.under (.builtin "type.__call__" ⟨.ref C :: us, kw⟩)).units = A.units + 1 := by
  first | rfl | simp [Around.under, Code.cUnits, Code.frames, Code.isFrame]
theorem Room.make {k : Nat} {A : Around} (r : Room (k + 1) A) (C : Addr) (us : List Value) (kw : List (Str × Value)) : Room k (A.under (.builtin "type.__call__" ⟨.ref C :: us, kw⟩)) :=
  ⟨r.hd, by have := r.dp; rw [make_depth]; omega, by have := r.un; rw [make_units]; omega⟩
theorem Room.depth {k : Nat} {A : Around} (r : Room k A) : A.depth < recursionLimit := by have := r.dp; omega
theorem Room.units {k : Nat} {A : Around} (r : Room k A) : A.units + 64 < cLine := by have := r.un; omega
def tNil : TA := fun _ H Q => Q [] H
def tCons (ta : TE) (tr : TA) : TA := fun σ H Q => ta σ H fun x H1 => tr σ H1 fun xs H2 => Q (x :: xs) H2
section
variable {X : Cx} {e : Expr} {es : List Expr} {te : TE} {t : TA} {pos : Pos}
theorem pa_nil : PA X [] tNil := fun _ _ _ _ H Q I h => Calls.spliced_nil ⟨[], H, I, .nil, h⟩
theorem pa_cons (ha : PE X e te) (hr : PA X es t) (hs : starEach (e :: es) X.env = (false, eval e X.env) :: starEach es X.env := by rfl) : PA X (e :: es) (tCons te t) := by
  intro pos pins s σ H Q I h
  rw [hs]
  show wpAny _ _ (spliced ((false, eval e X.env) :: backTo pos (starEach es X.env))) _ _ s
  refine Calls.spliced_cons (thn (ha pins s σ H _ I h) fun u s1 ⟨x, H1, I1, r1, q1⟩ => ?_)
  exact thn (hr pos pins s1 σ H1 _ I1 q1) fun us s2 ⟨xs, H2, I2, r2, q2⟩ => ⟨x :: xs, H2, I2, .cons r1 r2, q2⟩

/-- a tuple, a list of written items -/
def tTup (t : TA) : TE := fun σ H Q => t σ H fun xs H1 => xs.length ≤ sizeLine ∧ ∀ p, H1 p = none → Q (.ref p) (upd H1 p (.tup xs))
def tLst (t : TA) : TE := fun σ H Q => t σ H fun xs H1 => xs.length ≤ sizeLine ∧ ∀ p, H1 p = none → Q (.ref p) (upd H1 p (.lst xs))
theorem pe_tup {x1} (h : PA X es t) : PE X (.Tuple es x1 pos) (tTup t) := by
  intro pins s σ H Q I hq
  refine wpAny_Tuple_spliced (thn (h pos pins s σ H _ I hq) fun us s1 ⟨xs, H1, I1, r, z, q⟩ => ⟨by rw [← r.length]; exact z, ?_⟩)
  have hf : H1 s1.heap.objs.size = none := I1.hok.fresh (Nat.le_refl _)
  refine ⟨.ref s1.heap.objs.size, upd H1 s1.heap.objs.size (.tup xs), I1.laid (t' := s1.toks) (fun b u e => Heap.get?_push_of_some _ e) (Nat.le_refl _) ?_, rfl, q _ hf⟩
  exact ⟨z, us, r, ⟨_, Heap.get?_push_size _ rfl, rfl, _, rfl⟩⟩
theorem pe_lst (h : PA X es t) : PE X (.List es pos) (tLst t) := by
  intro pins s σ H Q I hq
  refine wpAny_List_spliced (thn (h pos pins s σ H _ I hq) fun us s1 ⟨xs, H1, I1, r, z, q⟩ => ⟨by rw [← r.length]; exact z, ?_⟩)
  have hf : H1 s1.heap.objs.size = none := I1.hok.fresh (Nat.le_refl _)
  refine ⟨.ref s1.heap.objs.size, upd H1 s1.heap.objs.size (.lst xs), I1.laid (t' := s1.toks) (fun b u e => Heap.get?_push_of_some _ e) (Nat.le_refl _) ?_, rfl, q _ hf⟩
  exact ⟨z, us, 0, r, Heap.get?_push_size _ rfl⟩
end

/-- a def's promise: the bound arguments in the parameters' order, the heap, the wanted end, the wanted exception -/
abbrev Sp := List V → Hp → VK → XK → Prop
/-- how an exception lies behind a call (file 08 gives it): the callers' frames, abstract heap and state ahead of the call, the wish, the exception, the state -/
abbrev CXT := List Env → Hp → Shared → XK → Value → Shared → Prop

/-- the state at a call -/
structure Env0 (P : Program) (w : World) (K : PySem.W.Frag) (mg : Str → Option Value) (base : Heap) (A : Around) (outer : List Env) (s : Shared) (H : Hp) : Prop where
  frames : A.frames = some outer
  mod : Mod K mg base
  bs : ∀ b o, base.get? b = some o → s.heap.get? b = some o ∧ H b = none
  bsz : base.objs.size ≤ s.heap.objs.size
  funs : s.heap.FunFrames base outer
  frf : ∀ b ∈ frs outer, H b = none
  hok : HOk P w H s.heap
  bare : AllBare s.gens
  tb : ∀ c P, PySem.W.codeHdIn K c P = true → base.get? P = none → ∃ ps, H P = some (.tbl ps)
/-- a call's end -/
def CE (outer : List Env) (P : Program) (w : World) (H : Hp) (s : Shared) (Q : VK) (u : Value) (s' : Shared) : Prop :=
  ∃ v H', s'.os = s.os ∧ AllBare s'.gens ∧ Un (frs outer) [] H H' s.heap s'.heap ∧ HOk P w H' s'.heap ∧ RelV v u ∧ Q v H'
def CR (CX : CXT) (outer : List Env) (P : Program) (w : World) (H : Hp) (s : Shared) (Q : VK) (E : XK) (r : Result) (s' : Shared) : Prop :=
  match r with
  | .ok (.ret u) => CE outer P w H s Q u s'
  | .ok _ => False
  | .error e => CX outer H s E e s'
structure FnOk (P : Program) (w : World) (K : PySem.W.Frag) (mg : Str → Option Value) (base : Heap) (CX : CXT) (k : Nat) (f : Addr) (fd : FuncData) (ps : List Str) (sp : Sp) : Prop where
  len : ∀ vs H Q E, sp vs H Q E → vs.length = ps.length
  run : ∀ (A : Around) (outer : List Env) (s : Shared) (H : Hp) (args : Args) (us : List Value) (vs : List V) (Q : VK) (E : XK), Room k A → Env0 P w K mg base A outer s H → BindsTo s fd args (ps.zip us) → Vals vs us → sp vs H Q E →
    codeAny (model P w) A (.call (.ref f) args) (CR CX outer P w H s Q E) s
theorem FnOk.mono {P : Program} {w : World} {K : PySem.W.Frag} {mg : Str → Option Value} {base : Heap} {CX : CXT} {j k : Nat} {f : Addr} {fd : FuncData} {ps : List Str} {sp : Sp} (F : FnOk P w K mg base CX j f fd ps sp) (h : j ≤ k) :
    FnOk P w K mg base CX k f fd ps sp := ⟨F.len, fun A outer s H args us vs Q E hr => F.run A outer s H args us vs Q E (hr.mono h)⟩
/-- a weaker promise -/
theorem FnOk.imp {P : Program} {w : World} {K : PySem.W.Frag} {mg : Str → Option Value} {base : Heap} {CX : CXT} {k : Nat} {f : Addr} {fd : FuncData} {ps : List Str} {sp sp' : Sp} (F : FnOk P w K mg base CX k f fd ps sp)
    (h : ∀ vs H Q E, sp' vs H Q E → sp vs H Q E) : FnOk P w K mg base CX k f fd ps sp' :=
  ⟨fun vs H Q E q => F.len vs H Q E (h _ _ _ _ q), fun A outer s H args us vs Q E hr he hb hv hs => F.run A outer s H args us vs Q E hr he hb hv (h _ _ _ _ hs)⟩

theorem Env0.make {P : Program} {w : World} {K : PySem.W.Frag} {mg : Str → Option Value} {base : Heap} {A : Around} {outer : List Env} {s : Shared} {H : Hp} (e : Env0 P w K mg base A outer s H) (C : Addr) (us : List Value) (kw : List (Str × Value)) :
    Env0 P w K mg base (A.under (.builtin "type.__call__" ⟨.ref C :: us, kw⟩)) outer s H := ⟨by first | exact e.frames | (simpa [Around.under, Code.envs, Code.isFrame, pushEnvs] using e.frames), e.mod, e.bs, e.bsz, e.funs, e.frf, e.hok, e.bare, e.tb⟩
theorem Env0.in1 {P : Program} {w : World} {K : PySem.W.Frag} {mg : Str → Option Value} {base : Heap} {A : Around} {outer : List Env} {s : Shared} {H : Hp} (e : Env0 P w K mg base A outer s H) :
    Env0 P w K mg base A.in1 outer s H := ⟨e.frames, e.mod, e.bs, e.bsz, e.funs, e.frf, e.hok, e.bare, e.tb⟩

section
variable {X : Cx} {pins : List (Addr × Obj)} {σ : St} {H : Hp} {s s' : Shared}
/-- from a body: what a callee wants -/
theorem Inv.env0 (I : Inv X pins σ H s) : Env0 X.prog X.w X.K X.mg X.base X.A X.stack s H :=
  ⟨I.ok.frames, I.ok.mod, I.bs, Nat.le_trans I.ok.bsz I.sz, I.stack, I.stkFree, I.hok, I.bare, I.tb⟩
/-- behind a call -/
theorem Inv.after {Q : VK} {u : Value} (I : Inv X pins σ H s) (h : CE X.stack X.prog X.w H s Q u s') : EP X pins σ Q u s' := by
  obtain ⟨v, H', os, bare, un, hok, r, q⟩ := h
  obtain ⟨hh, g, d, t, os'⟩ := s'
  obtain rfl : os' = s.os := os
  exact ⟨v, H', I.call (h' := hh) (g' := g) (d' := d) (t' := t) (ch := []) un hok bare (fun b z => absurd z (by simp)), r, q⟩
end

/-- f(..): the written arguments, then the defaults dvs; E: what is wanted of an exception -/
def tCall (sp : Sp) (dvs : List V) (E : XK) (t : TA) : TE := fun σ H Q => t σ H fun vs H1 => sp (vs ++ dvs) H1 Q E
/-- C(..): a new instance and its dict, then __init__ -/
def tMake (C : Addr) (sp : Sp) (dvs : List V) (E : XK) (t : TA) : TE := fun σ H Q => t σ H fun vs H1 => ∀ x dx, H1 x = none → H1 dx = none → dx ≠ x →
  sp (.ref x :: (vs ++ dvs)) (upd (upd H1 dx (.own x)) x (.ins C dx [])) (fun v H2 => v = .non ∧ Q (.ref x) H2) E

/-- how the parameters are bound: us the positional arguments, kw the keywords' values by name, ds the defaults that fill up -/
def Binds (K : PySem.W.Frag) (fd : FuncData) (ps : List Str) (ds : List Value) : Prop :=
  ∀ (s : Shared) (us : List Value), K.In s.heap → (us ++ ds).length = ps.length → BindsTo s fd ⟨us, []⟩ (ps.zip (us ++ ds))
/-- every parameter is given -/
theorem Binds.all {K : PySem.W.Frag} {fd : FuncData} {ps : List Str} (h : ∀ us : List Value, us.length = ps.length → bindArgs fd ⟨us, []⟩ = pure (ps.zip us)) : Binds K fd ps [] := fun s us _ hl => by
  rw [List.append_nil] at hl ⊢
  exact .of_eq (h us hl)

/-- an exception of a callee reaches what this body wants of exceptions -/
def Passes (CX : CXT) (X : Cx) (E : XK) : Prop := ∀ (pins : List (Addr × Obj)) (σ : St) (H : Hp) (s : Shared) (e : Value) (s' : Shared), Inv X pins σ H s → CX X.stack H s E e s' → X.xe e s'

section
variable {X : Cx} {CX : CXT} {k : Nat} {f C : Addr} {fd : FuncData} {ps : List Str} {sp : Sp} {dvs : List V} {ds : List Value} {E : XK} {x m : Str} {p pos apos : Pos} {e o : Expr} {es : List Expr} {ta : TE} {t : TA}

/-- the callee runs -/
theorem run_fn {pins : List (Addr × Obj)} {σ : St} {H : Hp} {s : Shared} {Q : VK} {us : List Value} {vs : List V} (F : FnOk X.prog X.w X.K X.mg X.base CX k f fd ps sp) (hr : Room k X.A) (hb : Binds X.K fd ps ds) (hd : Vals dvs ds) (hx : Passes CX X E)
    (I : Inv X pins σ H s) (r : Vals vs us) (h : sp (vs ++ dvs) H Q E) : wpAny (model X.prog X.w) X.A (call (.ref f) us) (EP X pins σ Q) X.xe s := by
  have r2 : Vals (vs ++ dvs) (us ++ ds) := r.append hd
  have hl : (us ++ ds).length = ps.length := by rw [← r2.length]; exact F.len _ _ _ _ h
  refine wpAny_call (codeAny_mono (F.run X.A X.stack s H ⟨us, []⟩ (us ++ ds) (vs ++ dvs) Q E hr I.env0 (hb s us I.kIn hl) r2 h) fun r s' hq => ?_)
  cases r with
  | error e => exact hx pins σ H s e s' I hq
  | ok fl =>
    cases fl with
    | ret u => exact I.after hq
    | next => exact False.elim hq
    | brk => exact False.elim hq
    | cont => exact False.elim hq

theorem pe_call (F : FnOk X.prog X.w X.K X.mg X.base CX k f fd ps sp) (hr : Room k X.A) (hg : Gl X x) (hm : X.mg x = some (.ref f)) (hk : PySem.W.keepIn X.K (.ref f) = true) (hb : Binds X.K fd ps ds) (hd : Vals dvs ds) (hx : Passes CX X E)
    (ha : PA X (e :: es) t) (hdb : (x == ("__debug__" : Str)) = false := by decide) (he : starEach (e :: es) X.env = (false, eval e X.env) :: starEach es X.env := by rfl) (hpl : (backTo pos (starEach es X.env)).any (·.1) = false := by rfl) :
    PE X (.Call (.Name x p) (e :: es) [] pos) (tCall sp dvs E t) := by
  intro pins s σ H Q I h
  refine wpAny_Call_Name_kw (ld_glob I hg hm ?_ hdb)
  refine PySem.W.callWith_K (h₀ := X.base) I.ok.mod.kin hk (thn (ha pos pins s σ H _ I h) fun us s1 ⟨vs, H1, I1, r, q⟩ => ⟨I1.kIn, ?_⟩) he hpl
  exact run_fn F hr hb hd hx I1 r q
/-- what a class must have to be made -/
structure Mk (K : PySem.W.Frag) (C f : Addr) : Prop where
  makes : PySem.W.makesIn K C = true
  init : PySem.W.findIn K (.ref C) "__init__" = some (some (.ref f))
  fn : PySem.W.isFn K (.ref f) = true
  kp : PySem.W.keepIn K (.ref C) = true

theorem run_make {pins : List (Addr × Obj)} {σ : St} {H : Hp} {s : Shared} {Q : VK} {us : List Value} {vs : List V} (M : Mk X.K C f) (F : FnOk X.prog X.w X.K X.mg X.base CX k f fd ps sp) (hr : Room (k + 1) X.A) (hb : Binds X.K fd ps ds) (hd : Vals dvs ds)
    (hx : Passes CX X E) (I : Inv X pins σ H s) (r : Vals vs us)
    (h : ∀ x dx, H x = none → H dx = none → dx ≠ x → sp (.ref x :: (vs ++ dvs)) (upd (upd H dx (.own x)) x (.ins C dx [])) (fun v H2 => v = .non ∧ Q (.ref x) H2) E) :
    wpAny (model X.prog X.w) X.A (call (.ref C) us) (EP X pins σ Q) X.xe s := by
  have hq := h (s.heap.objs.size + 1) s.heap.objs.size (I.hok.fresh (Nat.le_succ _)) (I.hok.fresh (Nat.le_refl _)) (Nat.ne_of_lt (Nat.lt_succ_self _))
  have I2 := Inv.made (C := C) I
  have r2 : Vals (V.ref (s.heap.objs.size + 1) :: (vs ++ dvs)) (Value.ref (s.heap.objs.size + 1) :: (us ++ ds)) := .cons rfl (r.append hd)
  have hl : (Value.ref (s.heap.objs.size + 1) :: us ++ ds).length = ps.length := by
    have e := r2.length
    rw [F.len _ _ _ _ hq] at e
    exact e.symm
  refine wpAny_call (make_map (f := f) I.kIn M.makes M.init (beq_iff_eq.mp M.fn) (codeAny_mono (F.run _ X.stack _ _ ⟨Value.ref (s.heap.objs.size + 1) :: us, []⟩ (Value.ref (s.heap.objs.size + 1) :: (us ++ ds)) _ _ E (hr.make C us [])
    (I2.env0.make C us []) (hb _ (Value.ref (s.heap.objs.size + 1) :: us) I2.kIn hl) r2 hq) fun r s' hq' => ?_))
  cases r with
  | error e => exact hx pins σ _ _ e s' I2 hq'
  | ok fl =>
    cases fl with
    | ret u =>
      obtain ⟨v, H', I3, rv, ev, q3⟩ := I2.after hq'
      subst ev
      exact ⟨rv, ⟨V.ref (s.heap.objs.size + 1), H', I3, rfl, q3⟩⟩
    | next => exact False.elim hq'
    | brk => exact False.elim hq'
    | cont => exact False.elim hq'
theorem pe_make0 (M : Mk X.K C f) (F : FnOk X.prog X.w X.K X.mg X.base CX k f fd ps sp) (hr : Room (k + 1) X.A) (hg : Gl X x) (hm : X.mg x = some (.ref C)) (hb : Binds X.K fd ps ds) (hd : Vals dvs ds) (hx : Passes CX X E)
    (hdb : (x == ("__debug__" : Str)) = false := by decide) : PE X (.Call (.Name x p) [] [] pos) (tMake C sp dvs E tNil) := by
  intro pins s σ H Q I h
  refine wpAny_Call_Name_kw (ld_glob I hg hm ?_ hdb)
  exact PySem.W.callWith_K0 I.kIn M.kp (run_make (us := []) M F hr hb hd hx I .nil h)
end

/-- the values of the keywords, from the left -/
def PK (X : Cx) (kws : List Keyword) (t : TA) : Prop :=
  ∀ (pos : Pos) (pins : List (Addr × Obj)) (s : Shared) (σ : St) (H : Hp) (Q : List V → Hp → Prop), Inv X pins σ H s → t σ H Q → wpAny (model X.prog X.w) X.A (evalAll ((backToKw pos (keywordEach kws X.env)).map (·.2))) (AP X pins σ Q) X.xe s
section
variable {X : Cx} {CX : CXT} {k : Nat} {f C : Addr} {fd : FuncData} {ps ks : List Str} {sp : Sp} {E : XK} {x m : Str} {p pos apos kpos : Pos} {e o : Expr} {es : List Expr} {kws : List Keyword} {te ta : TE} {t tk : TA} {nm : Option Str}
theorem pk_nil : PK X [] tNil := fun _ _ _ _ H Q I h => wpAny_evalAll_nil ⟨[], H, I, .nil, h⟩
theorem pk_cons (ha : PE X e te) (hr : PK X kws t) : PK X (⟨nm, e, kpos⟩ :: kws) (tCons te t) := by
  intro pos pins s σ H Q I h
  show wpAny _ _ (evalAll ((do let v ← eval e X.env; standAt pos; pure v) :: (backToKw pos (keywordEach kws X.env)).map (·.2))) _ _ s
  refine wpAny_evalAll_cons (wpAny_bind (thn (ha pins s σ H _ I h) fun u s1 ⟨x, H1, I1, r1, q1⟩ => wpAny_bind (wpAny_standAt (wpAny_pure ?_))))
  exact thn (hr pos pins s1 σ H1 _ I1 q1) fun us s2 ⟨xs, H2, I2, r2, q2⟩ => ⟨x :: xs, H2, I2, .cons r1 r2, q2⟩

variable {g : List Value → List Value → List Value} {gV : List V → List V → List V}
end

/-- names: the parameters first -/
structure FnScope (N P : List Str) (sc : Scope) : Prop where
  kind : sc.kind = .function
  co : sc.isCoroutine = false
  gen : sc.isGenerator = false
  nd : N.Nodup
  pre : N.take P.length = P
  par : ∀ x ∈ P, sc.names.lookup x = some .local ∨ sc.names.lookup x = some .cell
  nofree : ∀ y ∈ sc.names, y.2 ≠ .free

theorem bindL_out {kindOf : Str → Option NameKind} {x : Str} : ∀ {binds : List (Str × Value)} {m : Str → Option Value}, (∀ v, (x, v) ∉ binds) → bindL kindOf binds m x = m x
  | [], _, _ => rfl
  | (n, v) :: r, m, h => by
    unfold bindL
    rw [bindL_out fun w hw => h w (List.mem_cons_of_mem _ hw)]
    split
    · have : x ≠ n := by rintro rfl; exact h v List.mem_cons_self
      simp [this]
    · rfl
theorem bindC_out {kindOf : Str → Option NameKind} {x : Str} : ∀ {binds : List (Str × Value)} {m : Str → Option Value}, (∀ v, (x, v) ∉ binds) → bindC kindOf binds m x = m x
  | [], _, _ => rfl
  | (n, v) :: r, m, h => by
    unfold bindC
    rw [bindC_out fun w hw => h w (List.mem_cons_of_mem _ hw)]
    split
    · rfl
    · have : x ≠ n := by rintro rfl; exact h v List.mem_cons_self
      simp [this]
theorem bindL_get {kindOf : Str → Option NameKind} {x : Str} {v : Value} : ∀ {P : List Str} {vs : List Value} {i : Nat} {m : Str → Option Value}, P.Nodup → P[i]? = some x → vs[i]? = some v → kindOf x = some .local →
    bindL kindOf (P.zip vs) m x = some v
  | [], _, _, _, _, h, _, _ => by simp at h
  | _ :: _, [], _, _, _, _, h, _ => by simp at h
  | p :: P, w :: vs, 0, m, nd, h1, h2, hk => by
    simp at h1 h2; subst h1; subst h2
    show bindL kindOf ((p, w) :: P.zip vs) m p = _
    unfold bindL
    rw [bindL_out fun v hv => (List.nodup_cons.mp nd).1 (List.of_mem_zip hv).1, if_pos hk]
    simp
  | p :: P, w :: vs, i + 1, m, nd, h1, h2, hk => by
    show bindL kindOf ((p, w) :: P.zip vs) m x = _
    unfold bindL
    exact bindL_get (i := i) (List.nodup_cons.mp nd).2 (by simpa using h1) (by simpa using h2) hk
theorem bindC_get {kindOf : Str → Option NameKind} {x : Str} {v : Value} : ∀ {P : List Str} {vs : List Value} {i : Nat} {m : Str → Option Value}, P.Nodup → P[i]? = some x → vs[i]? = some v → kindOf x ≠ some .local →
    bindC kindOf (P.zip vs) m x = some v
  | [], _, _, _, _, h, _, _ => by simp at h
  | _ :: _, [], _, _, _, _, h, _ => by simp at h
  | p :: P, w :: vs, 0, m, nd, h1, h2, hk => by
    simp at h1 h2; subst h1; subst h2
    show bindC kindOf ((p, w) :: P.zip vs) m p = _
    unfold bindC
    rw [bindC_out fun v hv => (List.nodup_cons.mp nd).1 (List.of_mem_zip hv).1, if_neg hk]
    simp
  | p :: P, w :: vs, i + 1, m, nd, h1, h2, hk => by
    show bindC kindOf ((p, w) :: P.zip vs) m x = _
    unfold bindC
    exact bindC_get (i := i) (List.nodup_cons.mp nd).2 (by simpa using h1) (by simpa using h2) hk

/-- the names' values at the entry -/
def start (N : List Str) (vs : List V) : St := vs.map some ++ List.replicate (N.length - vs.length) none

/-- the context of a def's body, at its entry; an exception leaves the frame, then lies as CX says -/
def cxOf (CX : CXT) (P : Program) (w : World) (K : PySem.W.Frag) (mg : Str → Option Value) (base : Heap) (N : List Str) (qual : Str) (scope : Scope) (f : Addr) (cd : Value) (A : Around) (outer : List Env) (s : Shared) (H : Hp) (E : XK) : Cx where
  prog := P
  w := w
  K := K
  mg := mg
  base := base
  A := A.deeper (envOfC qual scope s.heap.objs.size f cd)
  N := N
  s_0 := s
  H_0 := H
  env := envOfC qual scope s.heap.objs.size f cd
  outer := outer
  stack := envOfC qual scope s.heap.objs.size f cd :: outer
  ex := []
  calm := true
  fn := fun _ => true
  pn := []
  xe := fun e s' => wpAny (model P w) (A.deeper (envOfC qual scope s.heap.objs.size f cd)) (leaving (envOfC qual scope s.heap.objs.size f cd) e) (fun _ s'' => CX outer H s E e s'') (fun e' s'' => CX outer H s E e' s'') s'

theorem cell_has {sc : Scope} {n : Nat} {x : Str} (h : sc.names.lookup x = some .cell) : ∃ c, (cellsFrom n sc.names []).lookup x = some c := by
  have q := PySem.W.cellsFrom_some sc.names n [] (.inl h)
  exact Option.isSome_iff_exists.mp q

theorem inv_start {CX : CXT} {P : Program} {w : World} {K : PySem.W.Frag} {mg : Str → Option Value} {base : Heap} {N ps : List Str} {qual : Str} {scope : Scope} {f : Addr} {cd : Value} {A : Around} {outer : List Env} {s s1 : Shared} {H : Hp} {E : XK} {us : List Value} {vs : List V}
    (S : FnScope N ps scope) (hd : A.handled = none) (e0 : Env0 P w K mg base A outer s H) (hl : vs.length = ps.length) (r : Vals vs us)
    (x : InCallC s s.heap.objs.size (bindL (envOfC qual scope s.heap.objs.size f cd).kindOf (ps.zip us) fun _ => none) (cellsFrom (s.heap.objs.size + 1) scope.names []) (bindC (envOfC qual scope s.heap.objs.size f cd).kindOf (ps.zip us) fun _ => none) s1) :
    Inv (cxOf CX P w K mg base N qual scope f cd A outer s H E) [] (start N vs) H s1 := by
  have hpl : ps.length ≤ N.length := by have := congrArg List.length S.pre; rw [List.length_take] at this; omega
  obtain ⟨h1, tk, rfl, hk⟩ := x.done
  have noA : ∀ b : Addr, b ∉ (cxOf CX P w K mg base N qual scope f cd A outer s H E).ex := fun b z => absurd (show b ∈ ([] : List Addr) from z) (by simp)
  refine ⟨⟨e0.mod, S.kind, rfl, rfl, Nat.le_refl _, fun y z c h1 h2 => ?_, fun y hy => ?_, fun y c _ h => ?_, fun _ => hd, Around.frames_deeper e0.frames, .inr ⟨rfl, rfl⟩, fun b z => absurd z (noA b), e0.bs, e0.bsz, fun b _ _ => noA b, fun b z => absurd z (noA b), e0.funs, e0.frf, e0.tb⟩,
    rfl, e0.bare, Un.kept hk, ⟨_, x.toInCall.ns, fun i y v h1 h2 h3 => ?_⟩, fun y c h => ⟨_, x.cell y c h⟩, e0.hok.fresh (Nat.le_refl _), fun y c h => ?_, fun p hp => absurd (show p ∈ ([] : List (Addr × Obj)) from hp) (by simp), e0.hok.kept hk, ?_⟩
  · exact name_of_addr x.apart (PySem.mem_of_lookup h1) (PySem.mem_of_lookup h2)
  · have hy : scope.names.lookup y = some .cell ∨ scope.names.lookup y = some .free := hy
    rcases hy with hy | hy
    · exact cell_has hy
    · exact absurd rfl (S.nofree _ (PySem.mem_of_lookup hy))
  · exact Nat.le_of_lt (x.above y c (PySem.mem_of_lookup h))
  · have hi : i < vs.length := by
      unfold start at h2
      by_cases hi : i < vs.length
      · exact hi
      · rw [List.getElem?_append_right (by simpa using hi)] at h2
        rw [List.getElem?_replicate] at h2
        split at h2 <;> cases h2
    have ha : vs[i]? = some v := by
      unfold start at h2
      rw [List.getElem?_append_left (by simpa using hi), List.getElem?_map] at h2
      cases e : vs[i]? with
      | none => rw [e] at h2; cases h2
      | some a => rw [e] at h2; cases h2; rfl
    obtain ⟨u, hu, rv⟩ := r.get ha
    have hp : ps[i]? = some y := by
      rw [← S.pre, List.getElem?_take_of_lt (by omega)]; exact h1
    have ndP : ps.Nodup := by rw [← S.pre]; exact S.nd.sublist (List.take_sublist _ _)
    refine ⟨u, rv, ?_⟩
    rcases S.par y (List.mem_of_getElem? hp) with k | k
    · exact .inl ⟨k, bindL_get ndP hp hu k⟩
    · obtain ⟨c, e⟩ := cell_has (n := s.heap.objs.size + 1) k
      refine .inr ⟨.inl k, c, e, ?_⟩
      have q := x.cell y c e
      rw [bindC_get ndP hp hu (by show scope.names.lookup y ≠ _; rw [k]; decide)] at q
      exact q
  · exact e0.hok.fresh (Nat.le_of_lt (x.above y c (PySem.mem_of_lookup h)))
  · unfold start
    show _ = N.length
    rw [List.length_append, List.length_map, List.length_replicate]
    omega

/-- THE RULE: a def (or a method) of the text, by its body. The body's reading t is chosen for each entry; it is run at the parameters' values -/
theorem fn_of {CX : CXT} {P : Program} {w : World} {K : PySem.W.Frag} {mg : Str → Option Value} {base : Heap} {k : Nat} {f : Addr} {name qual : Str} {params : Arguments} {body : List Stmt} {scope : Scope} {dV kV doc pm cdv ct oc : Value} {an od : Option Addr}
    {osl : Array (Option Value)} {N ps : List Str} {sp : Sp} (lk : K.lookup f = some ⟨oc, od, .func (PySem.W.fnOf name qual params body scope dV kV doc pm an cdv ct), osl⟩) (hcd : PySem.W.codeIn K cdv qual = true) (S : FnScope N ps scope)
    (len : ∀ vs H Q E, sp vs H Q E → vs.length = ps.length)
    (hbody : ∀ (A : Around) (outer : List Env) (s : Shared) (H : Hp) (vs : List V) (Q : VK) (E : XK), Room k (A.deeper (envOfC qual scope s.heap.objs.size f cdv)) → sp vs H Q E →
      ∃ t, PSs (cxOf CX P w K mg base N qual scope f cdv A outer s H E) body t ∧ t { nx := fun _ H' => Q .non H', rt := Q } (start N vs) H) :
    FnOk P w K mg base CX (k + 1) f (PySem.W.fnOf name qual params body scope dV kV doc pm an cdv ct) ps sp := by
  refine ⟨len, fun A outer s H args us vs Q E hr e0 hb r hsp => ?_⟩
  have hl := len _ _ _ _ hsp
  have KX : K.In s.heap := e0.mod.kin.keeps fun b o e => (e0.bs b o e).1
  have lim : s.heap.NoLimit := e0.mod.nolimit.keeps fun b o e => (e0.bs b o e).1
  have hkind : ∀ y ∈ ps.zip us, scope.names.lookup y.1 = some .local ∨ (scope.names.lookup y.1 = some .cell ∧ ((cellsFrom (s.heap.objs.size + 1) scope.names []).lookup y.1).isSome = true) := fun ⟨n, v⟩ hy => by
    rcases S.par n (List.of_mem_zip hy).1 with q | q
    · exact .inl q
    · exact .inr ⟨q, PySem.W.cellsFrom_some _ _ _ (.inl q)⟩
  refine codeAny_call_function hr.depth (KX _ _ lk) rfl S.co S.gen rfl (PySem.W.codeRec_of KX hcd) (hb _ _ _ _ ?_)
  refine wpAny_newFunctionEnv_cells S.kind hkind fun env he s1 x => ?_
  subst he
  refine ⟨lim.keeps x.toInCall.keep, codeAny_func ?_⟩
  obtain ⟨t, ht, hq⟩ := hbody A outer s H vs Q E (hr.deeper _) hsp
  have I : Inv (cxOf CX P w K mg base N qual scope f cdv A outer s H E) [] (start N vs) H s1 := inv_start S hr.hd e0 hl r x
  refine wpAny_mono (ht [] s1 (start N vs) H _ I hq) (fun fl s' hs => ?_) fun e s' hs => hs
  have fin : ∀ {σ' : St} {H' : Hp} {v : V} {u : Value}, Inv (cxOf CX P w K mg base N qual scope f cdv A outer s H E) [] σ' H' s' → RelV v u → Q v H' → CE outer P w H s Q u s' :=
    fun {σ' H' v u} J rv q => ⟨v, H', J.os, J.bare, J.base, J.hok, rv, q⟩
  cases fl with
  | ret u =>
    obtain ⟨v, σ', H', J, rv, q⟩ := hs
    exact fin J rv q
  | next =>
    obtain ⟨σ', H', J, q⟩ := hs
    exact fin (v := V.non) (u := Value.none) J rfl q
  | brk =>
    obtain ⟨_, _, _, q⟩ := hs
    exact False.elim q
  | cont =>
    obtain ⟨_, _, _, q⟩ := hs
    exact False.elim q
end L2

namespace L2
open PySem PySem.Spec PyProof.Rows
section
variable {X : Cx} {x : Str} {p pos : Pos} {e : Expr} {es : List Expr} {t : TA} {id T : String} {r : List V → Hp → VK → Prop}

def tCB (r : List V → Hp → VK → Prop) (t : TA) : TE := fun σ H Q => t σ H fun vs H1 => r vs H1 Q
/-- f(e, ..), f a built-in function -/
theorem pe_callB (hc : CallR X (.builtin id) r) (hg : Gl X x) (hm : X.mg x = none) (hv : bootBuiltins x = some (.builtin id)) (ha : PA X (e :: es) t) (hn : x ≠ "__name__" := by decide) (hdb : (x == ("__debug__" : Str)) = false := by decide)
    (he : starEach (e :: es) X.env = (false, eval e X.env) :: starEach es X.env := by rfl) (hpl : (backTo pos (starEach es X.env)).any (·.1) = false := by rfl) : PE X (.Call (.Name x p) (e :: es) [] pos) (tCB r t) := by
  intro pins s σ H Q I h
  refine wpAny_Call_Name_kw (ld_blt I hg hm hv ?_ hn hdb)
  exact PyProof.Rows.callWith_builtin1 (thn (ha pos pins s σ H _ I h) fun us s1 ⟨vs, H1, I1, r1, q1⟩ => hc pins s1 σ H1 vs us Q I1 r1 q1) he hpl
end
end L2

namespace HT
open PySem PyProof.Rows

/-- t < u of tuples of ints -/
def lexLt : List Int → List Int → Bool
  | [], [] => false
  | [], _ :: _ => true
  | _ :: _, [] => false
  | x :: xs, y :: ys => if x = y then lexLt xs ys else decide (x < y)
section
open PySem.SeqAt
open PySem.AutoSeq1 (wpAny_loadPart')
open PySem.MeetsSeq PySem.MeetsSeq2 PySem.MeetsSeq3

end

section
variable {prog : Program} {w : World} {A : Around} {E : Value → Shared → Prop} {s : Shared}

/-- a slice's bound as a place among n (d where it is left out) -/
def sIx (n d : Nat) : Option Int → Nat
  | none => d
  | some v => if v < 0 then (v + (n : Int)).toNat else min v.toNat n
theorem sIx_none (n d : Nat) : sIx n d none = d := rfl
theorem sIx_nat (n d k : Nat) : sIx n d (some (k : Int)) = min k n := by
  show (if (k : Int) < 0 then ((k : Int) + (n : Int)).toNat else min (k : Int).toNat n) = min k n
  rw [if_neg (by omega), Int.toNat_natCast]
end
end HT

namespace L2
open PySem PySem.Spec PyProof.Rows

abbrev TO := St → Hp → (Option Int → Hp → Prop) → Prop
/-- a slice's part (left out, or an int) -/
def PO (X : Cx) (e : Option Expr) (t : TO) : Prop :=
  ∀ (pins : List (Addr × Obj)) (s : Shared) (σ : St) (H : Hp) (Q : Option Int → Hp → Prop), Inv X pins σ H s → t σ H Q →
    wpAny (model X.prog X.w) X.A (evalPart e X.env) (fun u s' => ∃ o H', Inv X pins σ H' s' ∧ IsPart u o ∧ Q o H') X.xe s
def tNoPart : TO := fun _ H Q => Q none H
def tPart (t : TE) : TO := fun σ H Q => t σ H fun x H1 => ∃ i, x = .int i ∧ Q (some i) H1

section
variable {X : Cx} {e : Expr} {te : TE} {lo hi : Option Expr} {tl th : TO} {pos p2 : Pos}

theorem po_none : PO X none tNoPart := by
  intro pins s σ H Q I h
  rw [evalPart_none]
  exact wpAny_pure ⟨none, H, I, .none, h⟩
theorem po_some (h : PE X e te) : PO X (some e) (tPart te) := by
  intro pins s σ H Q I hw
  rw [evalPart_some]
  refine thn (h pins s σ H _ I hw) fun u s1 ⟨x, H1, I1, r1, q1⟩ => ?_
  obtain ⟨i, rfl, q⟩ := q1
  obtain ⟨t, rfl⟩ := r1
  exact ⟨some i, H1, I1, .int i t, q⟩

/-- what a slice of a value is, by values: the slice object stands at sl -/
def SlR (X : Cx) (r : V → Option Int → Option Int → Hp → VK → Prop) : Prop :=
  ∀ (pins : List (Addr × Obj)) (s : Shared) (σ : St) (H : Hp) (x : V) (v vl vu : Value) (lo hi : Option Int) (sl : Addr) (Q : VK), Inv X pins σ H s → RelV x v → s.heap.IsSliceOf sl vl vu .none → IsPart vl lo → IsPart vu hi → r x lo hi H Q →
    ∃ T id, typeLookup (.type T) "__getitem__" = pure (some (.builtin id)) ∧ s.TypeIs v T ∧ wpAny (model X.prog X.w) X.A (getItem v (.ref sl)) (EP X pins σ Q) X.xe s
theorem SlR.or {r r' : V → Option Int → Option Int → Hp → VK → Prop} (h : SlR X r) (h' : SlR X r') : SlR X (fun x lo hi H Q => r x lo hi H Q ∨ r' x lo hi H Q) := by
  intro pins s σ H x v vl vu lo hi sl Q I rx hs pl pu q
  rcases q with q | q
  · exact h pins s σ H x v vl vu lo hi sl Q I rx hs pl pu q
  · exact h' pins s σ H x v vl vu lo hi sl Q I rx hs pl pu q
def tSl (r : V → Option Int → Option Int → Hp → VK → Prop) (te : TE) (tl th : TO) : TE := fun σ H Q => te σ H fun x H1 => tl σ H1 fun l H2 => th σ H2 fun u H3 => r x l u H3 Q
/-- a[lo:hi], any a -/
theorem pe_slice {r : V → Option Int → Option Int → Hp → VK → Prop} (hr : SlR X r) (he : PE X e te) (hl : PO X lo tl) (hu : PO X hi th) : PE X (.Subscript e (.Slice lo hi none p2) pos) (tSl r te tl th) := by
  intro pins s σ H Q I h
  refine Subscript_ (thn (he pins s σ H _ I h) fun v s1 ⟨x, H1, I1, r1, q1⟩ => ?_)
  refine wpAny_Slice (thn (hl pins s1 σ H1 _ I1 q1) fun vl s2 ⟨l, H2, I2, pl, q2⟩ => thn (hu pins s2 σ H2 _ I2 q2) fun vu s3 ⟨u, H3, I3, pu, q3⟩ => ?_)
  rw [evalPart_none]
  refine wpAny_pure ?_
  have I4 : Inv X pins σ H3 { s3 with heap := s3.heap.push { cls := .type "slice", data := .fields #[vl, vu, .none] } } := I3.kept (t' := s3.toks) fun b ob q => Heap.get?_push_of_some _ q
  obtain ⟨T, id, hT, ht, hg⟩ := hr pins { s3 with heap := s3.heap.push { cls := .type "slice", data := .fields #[vl, vu, .none] } } σ H3 x v vl vu l u s3.heap.objs.size Q I4 r1 (Heap.IsSliceOf.new ..) pl pu q3
  show wpAny (model X.prog X.w) X.A (subscriptTail e (.Slice lo hi none p2) v (.ref s3.heap.objs.size)) (EP X pins σ Q) X.xe { s3 with heap := s3.heap.push { cls := .type "slice", data := .fields #[vl, vu, .none] } }
  exact tail_any (ops := [.ref s3.heap.objs.size, v]) ht hT hg (by with_unfolding_all rfl)

/-- the items of xs[lo:hi] -/
def cutV (xs : List V) (lo hi : Option Int) : List V := (xs.drop (HT.sIx xs.length 0 lo)).take (HT.sIx xs.length xs.length hi - HT.sIx xs.length 0 lo)
theorem cutV_length (xs : List V) (lo hi : Option Int) : (cutV xs lo hi).length ≤ xs.length := by
  unfold cutV
  rw [List.length_take, List.length_drop]
  omega
end
end L2

namespace L2
open PySem PySem.Spec PyProof.Rows

/-- the place that an index of any sign means -/
def ixN (n : Nat) (i : Int) : Option Nat := if 0 ≤ i then (if i < n then some i.toNat else none) else if -(n : Int) ≤ i then some (i + n).toNat else none
def atI {α : Type} (xs : List α) (i : Int) : Option α := (ixN xs.length i).bind fun j => xs[j]?
theorem ixN_seq {n : Nat} {i : Int} {j : Nat} (h : ixN n i = some j) : seqIndex? i n = some j ∧ j < n ∧ -(n : Int) ≤ i ∧ i < n := by
  unfold ixN at h
  by_cases h0 : 0 ≤ i
  · rw [if_pos h0] at h
    by_cases h1 : i < n
    · rw [if_pos h1] at h
      have e : i.toNat = j := Option.some.inj h
      exact ⟨by rw [seqIndex_of h0 h1, e], by omega, by omega, h1⟩
    · rw [if_neg h1] at h; cases h
  · rw [if_neg h0] at h
    by_cases h1 : -(n : Int) ≤ i
    · rw [if_pos h1] at h
      have e : (i + n).toNat = j := Option.some.inj h
      exact ⟨by rw [seqIndex_neg (by omega) h1, e], by omega, h1, by omega⟩
    · rw [if_neg h1] at h; cases h
theorem atI_get {α : Type} {xs : List α} {i : Int} {v : α} (h : atI xs i = some v) : ∃ j, seqIndex? i xs.length = some j ∧ xs[j]? = some v ∧ j < xs.length ∧ -(xs.length : Int) ≤ i ∧ i < xs.length := by
  unfold atI at h
  cases e : ixN xs.length i with
  | none => rw [e] at h; cases h
  | some j =>
    rw [e] at h
    obtain ⟨h1, h2, h3, h4⟩ := ixN_seq e
    exact ⟨j, h1, h, h2, h3, h4⟩
theorem atI_nat {α : Type} {xs : List α} {j : Nat} {v : α} (h : xs[j]? = some v) : atI xs (j : Int) = some v := by
  have hj : j < xs.length := (List.getElem?_eq_some_iff.mp h).1
  have e : ixN xs.length (j : Int) = some j := by
    unfold ixN
    rw [if_pos (by omega), if_pos (by omega)]; simp
  unfold atI; rw [e]; exact h
/-- what stands as an index of a plain subscript -/
def PlainIx (b : Expr) : Prop := ∀ o i, subscripted b false o i = operate [o, i] (getItem o i)
/-- a subscript by values -/
def IxR (X : Cx) (r : R2) : Prop :=
  ∀ (value slice : Expr) (pins : List (Addr × Obj)) (s : Shared) (σ : St) (H : Hp) (x y : V) (v u : Value) (Q : VK), Inv X pins σ H s → RelV x v → RelV y u → r x y H Q →
    subscripted slice false v u = operate [v, u] (getItem v u) → wpAny (model X.prog X.w) X.A (subscriptTail value slice v u) (EP X pins σ Q) X.xe s
/-- a call of a builtin's method by values: the receiver, the arguments -/
def MtR (X : Cx) (id : String) (r : V → List V → Hp → VK → Prop) : Prop :=
  ∀ (pins : List (Addr × Obj)) (s : Shared) (σ : St) (H : Hp) (x : V) (xs : List V) (v : Value) (us : List Value) (Q : VK), Inv X pins σ H s → RelV x v → Vals xs us → r x xs H Q →
    wpAny (model X.prog X.w) X.A (call (.builtin id) (v :: us)) (EP X pins σ Q) X.xe s
section
variable {X : Cx} {a b : Expr} {ta tb : TE} {pos : Pos}
theorem IxR.or {r r' : R2} (h : IxR X r) (h' : IxR X r') : IxR X (fun x y H Q => r x y H Q ∨ r' x y H Q) := by
  intro value slice pins s σ H x y v u Q I rx ry q hs
  rcases q with q | q
  · exact h value slice pins s σ H x y v u Q I rx ry q hs
  · exact h' value slice pins s σ H x y v u Q I rx ry q hs
theorem MtR.or {id : String} {r r' : V → List V → Hp → VK → Prop} (h : MtR X id r) (h' : MtR X id r') : MtR X id (fun x xs H Q => r x xs H Q ∨ r' x xs H Q) := by
  intro pins s σ H x xs v us Q I rx rs q
  rcases q with q | q
  · exact h pins s σ H x xs v us Q I rx rs q
  · exact h' pins s σ H x xs v us Q I rx rs q
/-- a[b] -/
theorem pe_ix {r : R2} (hr : IxR X r) (ha : PE X a ta) (hb : PE X b tb) (hs : PlainIx b) : PE X (.Subscript a b pos) (tOp r ta tb) := by
  intro pins s σ H Q I h
  exact Subscript_ (binT ha hb I h fun v u s2 x y H2 I2 rx ry q => hr a b pins s2 σ H2 x y v u Q I2 rx ry q (hs _ _))

def rIxL (K : PySem.W.Frag) : R2 := fun x y H Q => ∃ p xs i v, x = .ref p ∧ y = .int i ∧ SqL K H p xs ∧ atI xs i = some v ∧ Q v H
def rIxT (K : PySem.W.Frag) : R2 := fun x y H Q => ∃ p xs i v, x = .ref p ∧ y = .int i ∧ SqT K H p xs ∧ atI xs i = some v ∧ Q v H
theorem ix_list : IxR X (rIxL X.K) := by
  intro value slice pins s σ H x y v u Q I rx ry h hs
  obtain ⟨p, xs, i, z, rfl, rfl, hq, he, q⟩ := h
  cases rx
  obtain ⟨t, rfl⟩ := ry
  obtain ⟨its, r, pl, hz⟩ := I.list hq
  obtain ⟨j, h1, h2, h3, h4, h5⟩ := atI_get he
  obtain ⟨w, ew, rw'⟩ := r.get h2
  have hl := r.length
  have hn := line63
  have fin : EP X pins σ Q w s := ⟨z, H, I, rw', q⟩
  by_cases h0 : 0 ≤ i
  · have hj : i.toNat = j := by
      rw [seqIndex_of h0 h5] at h1
      exact Option.some.inj h1
    exact item_listR pl.isList h0 (by omega) (by rw [hj]; simpa using ew) fin hs
  · have hj : (i + (its.toArray.size : Int)).toNat = j := by
      rw [seqIndex_neg (by omega) h4] at h1
      rw [List.size_toArray, ← hl]
      exact Option.some.inj h1
    exact subscriptTail_builtinR (x := w) pl.isList.typeIs slot_list_getitem.lookup
      (wpAny_getItem_list_neg (Q := fun r s' => r = w ∧ EP X pins σ Q r s') pl.isList (by omega) (by rw [List.size_toArray] <;> omega) (by omega) (by rw [hj]; simpa using ew) ⟨rfl, fin⟩) hs
theorem ix_tup : IxR X (rIxT X.K) := by
  intro value slice pins s σ H x y v u Q I rx ry h hs
  obtain ⟨p, xs, i, z, rfl, rfl, hq, he, q⟩ := h
  cases rx
  obtain ⟨t, rfl⟩ := ry
  obtain ⟨its, r, pl, hz⟩ := I.tuple hq
  obtain ⟨j, h1, h2, h3, h4, h5⟩ := atI_get he
  obtain ⟨w, ew, rw'⟩ := r.get h2
  have hl := r.length
  have hn := line63
  have fin : EP X pins σ Q w s := ⟨z, H, I, rw', q⟩
  exact subscriptTail_builtinR (x := w) pl.typeIs slot_tuple_getitem.lookup
    (getItem_tuple (j := j) (Q := fun r s' => r = w ∧ EP X pins σ Q r s') pl (by omega) (by omega) (by rw [List.size_toArray, ← hl]; exact h1) (by simpa using ew) ⟨rfl, fin⟩) hs
theorem Inv.lst {pins : List (Addr × Obj)} {σ : St} {H : Hp} {s : Shared} {p : Addr} {xs : List V} (I : Inv X pins σ H s) (h : H p = some (.lst xs)) :
    ∃ (its : List Value) (n : Nat), Vals xs its ∧ s.heap.get? p = some { cls := .type "list", data := .seq its.toArray n } ∧ xs.length ≤ sizeLine := by
  obtain ⟨z, its, n, r, e⟩ := I.hok p _ h
  exact ⟨its, n, r, e, z⟩
theorem slice_bounds (lo hi : Option Int) (n : Nat) : (sliceBounds lo hi none n).1 = ((HT.sIx n 0 lo : Nat) : Int) ∧ (sliceBounds lo hi none n).2.1 = ((HT.sIx n n hi : Nat) : Int) ∧ (sliceBounds lo hi none n).2.2 = 1 := by
  refine ⟨?_, ?_, rfl⟩
  · cases lo with
    | none => simp [sliceBounds, HT.sIx]
    | some i =>
      simp only [sliceBounds, HT.sIx, Option.getD_none, show (1 : Int) > 0 by decide, if_true]
      by_cases h : i < 0
      · simp only [h, if_true] <;> omega
      · simp only [h, if_false] <;> omega
  · cases hi with
    | none => simp [sliceBounds, HT.sIx]
    | some i =>
      simp only [sliceBounds, HT.sIx, Option.getD_none, show (1 : Int) > 0 by decide, if_true]
      by_cases h : i < 0
      · simp only [h, if_true] <;> omega
      · simp only [h, if_false] <;> omega
theorem slicePick_cut (its : List Value) (lo hi : Option Int) : slicePick its.toArray lo hi none = ((its.drop (HT.sIx its.length 0 lo)).take (HT.sIx its.length its.length hi - HT.sIx its.length 0 lo)).toArray := by
  obtain ⟨h1, h2, h3⟩ := slice_bounds lo hi its.toArray.size
  unfold slicePick
  rw [h1, h2, h3]
  simp only [sliceRange_one, pick_run, List.size_toArray] <;> rfl
/-- xs[lo:hi] of a list: a new list -/
def rSlL (K : PySem.W.Frag) : V → Option Int → Option Int → Hp → VK → Prop := fun x lo hi H Q => ∃ a xs, x = .ref a ∧ SqL K H a xs ∧ ∀ p, H p = none → Q (.ref p) (upd H p (.lst (cutV xs lo hi)))
theorem sl_list : SlR X (rSlL X.K) := by
  intro pins s σ H x v vl vu lo hi sl Q I rx hs pl pu h
  obtain ⟨a, xs, rfl, hx, q⟩ := h
  cases rx
  obtain ⟨its, r, ht, hz⟩ := I.list hx
  have hlen := r.length
  refine ⟨"list", _, slot_list_getitem.lookup, ht.isList.typeIs, ?_⟩
  refine wpAny_getItem_list_slice ht.isList hs pl pu .none (by simp) ?_ (by rw [List.size_toArray] <;> omega)
  rw [slicePick_cut, ← hlen]
  refine ⟨.ref s.heap.objs.size, _, I.laid (t' := s.toks) (o := .lst (cutV xs lo hi)) (fun b ob q => Heap.get?_push_of_some _ q) (Nat.le_refl _) ?_, rfl, q _ (I.hok.fresh (Nat.le_refl _))⟩
  exact ⟨Nat.le_trans (cutV_length xs lo hi) hz, _, 0, (r.drop (HT.sIx xs.length 0 lo)).take (HT.sIx xs.length xs.length hi - HT.sIx xs.length 0 lo), Heap.get?_push_size _ rfl⟩

/-- == of flat values -/
def eqV : V → V → Bool
  | .non, .non => true
  | .bl a, .bl b => a == b
  | .bl a, .int b => (if a then 1 else 0) == b
  | .int a, .bl b => a == (if b then 1 else 0)
  | .int a, .int b => a == b
  | .str a, .str b => a == b
  | _, _ => false
def inV (x : V) (xs : List V) : Bool := xs.any fun y => eqV y x
theorem call_len_seq : CallR X (.builtin "len") (fun xs H Q => ∃ p ys, xs = [.ref p] ∧ (SqL X.K H p ys ∨ SqT X.K H p ys) ∧ Q (.int ys.length) H) := by
  intro pins s σ H xs us Q I r h
  obtain ⟨p, ys, rfl, hq, q⟩ := h
  obtain ⟨u, rfl, rx⟩ := vals1 r
  cases rx
  have hn := line63
  rcases hq with hq | hq
  · obtain ⟨its, r', pl, hz⟩ := I.list hq
    have hlen := r'.length
    exact Calls.call_len_list pl.isList (by simp only [List.size_toArray] <;> omega) ⟨.int ys.length, H, I.tok _, ⟨s.toks + 1, by rw [List.size_toArray, hlen]⟩, q⟩
  · obtain ⟨its, r', pl, hz⟩ := I.tuple hq
    have hlen := r'.length
    exact len_tuple pl (by simp only [List.size_toArray] <;> omega) ⟨.int ys.length, H, I.tok _, ⟨s.toks + 1, by rw [List.size_toArray, hlen]⟩, q⟩
theorem CallR.or {f : Value} {r r' : List V → Hp → VK → Prop} (h : CallR X f r) (h' : CallR X f r') : CallR X f (fun xs H Q => r xs H Q ∨ r' xs H Q) := by
  intro pins s σ H xs us Q I rs q
  rcases q with q | q
  · exact h pins s σ H xs us Q I rs q
  · exact h' pins s σ H xs us Q I rs q
/-- the value is of that builtin type -/
def tyV (K : PySem.W.Frag) (T : String) (x : V) (H : Hp) : Prop := match x with
  | .str _ => T = "str"
  | .int _ => T = "int"
  | .ref p => (T = "list" ∧ ∃ xs, SqL K H p xs) ∨ (T = "tuple" ∧ ∃ o, K.lookup p = some o ∧ o.cls = .type "tuple" ∧ o.dict = none) ∨
      (T = "dict" ∧ ((∃ kvs, H p = some (.dK kvs)) ∨ ∃ kvs, H p = some (.dT kvs))) ∨ (T = "set" ∧ ∃ S n, H p = some (.set S n))
  | _ => False
theorem tyV_is {pins : List (Addr × Obj)} {σ : St} {H : Hp} {s : Shared} {T : String} {x : V} {v : Value} (I : Inv X pins σ H s) (r : RelV x v) (ty : tyV X.K T x H) :
    s.TypeIs v T ∧ ∀ a, v = .ref a → ∃ ob, s.heap.get? a = some ob ∧ ob.dict = none := by
  cases x with
  | str z =>
    obtain ⟨t, rfl⟩ := r
    cases (show T = "str" from ty)
    exact ⟨typeIs_str s z t, fun _ e => nomatch e⟩
  | int i =>
    obtain ⟨t, rfl⟩ := r
    cases (show T = "int" from ty)
    exact ⟨typeIs_int s i t, fun _ e => nomatch e⟩
  | ref p =>
    cases r
    rcases ty with ⟨rfl, xs, hq⟩ | ⟨rfl, o, hk, hc, hd⟩ | ⟨rfl, hk⟩ | ⟨rfl, S, n, hk⟩
    · obtain ⟨its, _, pl, _⟩ := I.list hq
      refine ⟨pl.isList.typeIs, fun a e => ?_⟩
      cases e
      obtain ⟨o, n, e, c, hd, _⟩ := pl
      exact ⟨o, e, hd⟩
    · refine ⟨⟨o, I.kIn p o hk, hc⟩, fun a e => ?_⟩
      cases e
      exact ⟨o, I.kIn _ o hk, hd⟩
    · have z : ∃ o, s.heap.get? p = some o ∧ o.ExactDict := by
        rcases hk with ⟨kvs, hk⟩ | ⟨kvs, hk⟩
        · obtain ⟨_, _, _, _, o, _, _, e, ex, _⟩ := I.hok p _ hk
          exact ⟨o, e, ex⟩
        · obtain ⟨_, _, _, _, o, _, _, e, ex, _⟩ := I.hok p _ hk
          exact ⟨o, e, ex⟩
      obtain ⟨o, e, ex⟩ := z
      refine ⟨⟨o, e, ex.1⟩, fun a e2 => ?_⟩
      cases e2
      exact ⟨o, e, ex.2.1⟩
    · obtain ⟨o, _, _, _, e, ex, _⟩ := I.hok p _ hk
      refine ⟨⟨o, e, ex.1⟩, fun a e2 => ?_⟩
      cases e2
      exact ⟨o, e, ex.2.1⟩
  | _ => exact False.elim ty
def tBM0 (K : PySem.W.Frag) (T : String) (r : V → List V → Hp → VK → Prop) (to : TE) : TE := fun σ H Q => to σ H fun x H1 => tyV K T x H1 ∧ r x [] H1 Q
def tBM (K : PySem.W.Frag) (T : String) (r : V → List V → Hp → VK → Prop) (to : TE) (t : TA) : TE := fun σ H Q => to σ H fun x H1 => tyV K T x H1 ∧ t σ H1 fun xs H2 => r x xs H2 Q
variable {o e : Expr} {es : List Expr} {to : TE} {t : TA} {name : Str} {apos cpos : Pos} {T id : String} {r : V → List V → Hp → VK → Prop}
theorem pe_bm0 (pa : PlainAttrs T) (slot : Slot T name id) (hty : typeOf (.builtin id) = pure (.type "method_descriptor")) (hm : MtR X id r) (ho : PE X o to)
    (hbase : attributeBase o name X.env (eval o X.env) = eval o X.env := by rfl) (hline : (apos.endLine == cpos.line) = true := by rfl) : PE X (.Call (.Attribute o name apos) [] [] cpos) (tBM0 X.K T r to) := by
  intro pins s σ H Q I h
  refine wpAny_Call_method0_late hbase hline (thn (ho pins s σ H _ I h) fun v s1 ⟨x, H1, I1, r1, ty, q1⟩ => ?_)
  obtain ⟨h1, h2⟩ := tyV_is I1 r1 ty
  exact ⟨T, id, pa, slot, hty, h1, h2, Calls.callWith_builtin rfl (PySem.evalArgs_none (hm pins s1 σ H1 x [] v [] Q I1 r1 .nil q1))⟩
theorem pe_bm (pa : PlainAttrs T) (slot : Slot T name id) (hty : typeOf (.builtin id) = pure (.type "method_descriptor")) (hm : MtR X id r) (ho : PE X o to) (ha : PA X (e :: es) t)
    (hbase : attributeBase o name X.env (eval o X.env) = eval o X.env := by rfl)
    (hfew : ((backTo cpos (starEach (e :: es) X.env)).all (fun x => !x.1) && (backToKw cpos (keywordEach [] X.env)).all (fun x => x.1.isSome)
      && decide ((e :: es).length + ([] : List Keyword).length + (if ([] : List Keyword).isEmpty then 0 else 1) < 30)) = true := by rfl)
    (hline : (apos.endLine == cpos.line) = true := by rfl) (hs : starEach (e :: es) X.env = (false, eval e X.env) :: starEach es X.env := by rfl) (hplain : (backTo cpos (starEach es X.env)).any (·.1) = false := by rfl) :
    PE X (.Call (.Attribute o name apos) (e :: es) [] cpos) (tBM X.K T r to t) := by
  intro pins s σ H Q I h
  refine wpAny_Call_method_late hbase hfew hline rfl (thn (ho pins s σ H _ I h) fun v s1 ⟨x, H1, I1, r1, ty, q1⟩ => ?_)
  obtain ⟨h1, h2⟩ := tyV_is I1 r1 ty
  refine ⟨T, id, pa, slot, hty, h1, h2, ?_⟩
  have hA := ha cpos pins s1 σ H1 _ I1 q1
  rw [hs] at hA ⊢
  refine Calls.callWith_builtin (by show (false || (backTo cpos (starEach es X.env)).any (·.1)) = false; rw [hplain] <;> rfl) (Calls.evalArgs_plain ?_)
  exact thn hA fun us s2 ⟨vs, H2, I2, r2, q2⟩ => hm pins s2 σ H2 x vs v us Q I2 r1 r2 q2
end
end L2

namespace L2
open PySem PySem.Spec PyProof.Rows

def MtM (X : Cx) (id : String) (r : V → List V → Hp → VK → Prop) : Prop :=
  ∀ (pins : List (Addr × Obj)) (s : Shared) (σ : St) (H : Hp) (x : V) (xs : List V) (v : Value) (us : List Value) (Q : VK), Inv X pins σ H s → RelV x v → Vals xs us → r x xs H Q →
    wpAny (model X.prog X.w) X.A (call (.builtin id) (v :: us)) (EP X pins σ Q) X.xe s

theorem Vals.one : ∀ {x : V} {us : List Value}, Vals [x] us → ∃ u, us = [u] ∧ RelV x u
  | _, _, .cons r .nil => ⟨_, rfl, r⟩
theorem Vals.two : ∀ {x y : V} {us : List Value}, Vals [x, y] us → ∃ u v, us = [u, v] ∧ RelV x u ∧ RelV y v
  | _, _, _, .cons r (.cons q .nil) => ⟨_, _, rfl, r, q⟩
theorem Vals.zero : ∀ {us : List Value}, Vals [] us → us = []
  | _, .nil => rfl
theorem Vals.dropLast {xs : List V} {us : List Value} (h : Vals xs us) : Vals xs.dropLast us.dropLast := by
  induction h with
  | nil => exact .nil
  | cons r t ih =>
    cases t with
    | nil => exact .nil
    | cons q t' => exact .cons r ih
theorem Vals.eraseIdx : ∀ {xs : List V} {us : List Value} (i : Nat), Vals xs us → Vals (xs.eraseIdx i) (us.eraseIdx i)
  | _, _, _, .nil => .nil
  | _, _, 0, .cons _ t => t
  | _, _, i + 1, .cons r t => .cons r (Vals.eraseIdx i t)
theorem Vals.reverse {xs : List V} {us : List Value} (h : Vals xs us) : Vals xs.reverse us.reverse := by
  induction h with
  | nil => exact .nil
  | cons r t ih => rw [List.reverse_cons, List.reverse_cons]; exact Vals.append ih (.cons r .nil)
theorem Vals.rep {xs : List V} {us : List Value} (h : Vals xs us) : ∀ k : Nat, Vals (List.replicate k xs).flatten (List.replicate k us).flatten
  | 0 => .nil
  | k + 1 => by
    rw [List.replicate_succ, List.replicate_succ, List.flatten_cons, List.flatten_cons]
    exact Vals.append h (Vals.rep h k)
theorem erase_last {α : Type} (l : List α) : l.eraseIdx (l.length - 1) = l.dropLast := by
  induction l with
  | nil => rfl
  | cons a r ih =>
    cases r with
    | nil => rfl
    | cons b r =>
      have e : (a :: b :: r).length - 1 = ((b :: r).length - 1) + 1 := by
        have h1 : (a :: b :: r).length = r.length + 2 := rfl
        have h2 : (b :: r).length = r.length + 1 := rfl
        omega
      rw [e, List.eraseIdx_cons_succ, ih]
      all_goals rfl
theorem foldl_rep (its : List Value) : ∀ (k : Nat) (acc : List Value),
    List.foldl (fun x1 x2 => x1 ++ x2) acc.toArray (List.replicate k its.toArray) = (acc ++ (List.replicate k its).flatten).toArray
  | 0, acc => by simp
  | k + 1, acc => by
    have e : acc.toArray ++ its.toArray = (acc ++ its).toArray := by simp
    have e2 : (acc ++ its) ++ (List.replicate k its).flatten = acc ++ (List.replicate (k + 1) its).flatten := by
      rw [List.replicate_succ, List.flatten_cons, List.append_assoc]
    rw [← e2, ← foldl_rep its k (acc ++ its), ← e, List.replicate_succ, List.foldl_cons]

section
variable {X : Cx} {pins : List (Addr × Obj)} {σ : St} {H : Hp} {s : Shared} {l b : Addr} {xs ys zs : List V}

theorem Inv.lset {its its' : List Value} {n : Nat} {f : Array Value → Array Value} {t' : Nat} (I : Inv X pins σ H s) (hH : H l = some (.lst xs))
    (e : s.heap.get? l = some { cls := .type "list", data := .seq its.toArray n }) (hf : f its.toArray = its'.toArray) (hv : Vals ys its') (hz : ys.length ≤ sizeLine) :
    Inv X pins σ (upd H l (.lst ys)) { s with heap := s.heap.update l (Obj.mapSeq f), toks := t' } := by
  have q := PySem.IsL.update e f
  rw [hf] at q
  refine I.write (x := l) (e := l) (by rw [hH]; exact trivial) (.inl rfl) (fun b' u hb hu => (Heap.get?_update_other s.heap (Obj.mapSeq f) (Ne.symm hb)).trans hu) ⟨_, q⟩ ?_
  exact ⟨hz, its', _, hv, q⟩
theorem Inv.lnew {its : List Value} {t' : Nat} (I : Inv X pins σ H s) (hv : Vals ys its) (hz : ys.length ≤ sizeLine) :
    Inv X pins σ (upd H s.heap.objs.size (.lst ys)) { s with heap := s.heap.push { cls := .type "list", data := .seq its.toArray }, toks := t' } :=
  I.laid (fun _ _ q => Heap.get?_push_of_some _ q) (Nat.le_refl _) ⟨hz, its, 0, hv, Heap.get?_push_size _ rfl⟩
theorem Inv.fresh (I : Inv X pins σ H s) : H s.heap.objs.size = none := I.hok.fresh (Nat.le_refl _)
theorem Inv.lstM (I : Inv X pins σ H s) (hH : H l = some (.lst xs)) : xs.length ≤ sizeLine ∧ ∃ (its : List Value) (n : Nat), Vals xs its ∧ xs.length = its.length ∧ s.heap.get? l = some { cls := .type "list", data := .seq its.toArray n } := by
  obtain ⟨z, its, n, r, e⟩ := I.hok l _ hH
  exact ⟨z, its, n, r, r.length, e⟩

theorem notLongL {n : Nat} (h : n ≤ sizeLine) : Builtin.List.listTooLong n = false := by
  unfold Builtin.List.listTooLong
  exact decide_eq_false (by omega)
end

section
variable {X : Cx}

def rAppend : V → List V → Hp → VK → Prop := fun x vs H Q => ∃ l xs y, x = .ref l ∧ vs = [y] ∧ H l = some (.lst xs) ∧ xs.length < sizeLine ∧ Q .non (upd H l (.lst (xs ++ [y])))
theorem mt_append : MtM X "list.append" rAppend := by
  intro pins s σ H x vs v us Q I rx rv h
  obtain ⟨l, xs, y, rfl, rfl, hH, hz, q⟩ := h
  cases rx
  obtain ⟨u, rfl, ru⟩ := rv.one
  obtain ⟨z, its, n, r, hl, e⟩ := I.lstM hH
  refine call_meets F.slot_list_append ⟨_, e, rfl⟩ F.entry_list_append (F.args_list_append_2 _ _) (PySem.list_append l its.toArray n u (by rw [List.size_toArray]; omega)) ⟨e, ?_⟩
  refine ⟨.non, _, I.lset (its' := its ++ [u]) hH e (by simp) (r.append (.cons ru .nil)) ?_, rfl, q⟩
  rw [List.length_append, List.length_singleton]
  omega

def rExtend : V → List V → Hp → VK → Prop := fun x vs H Q => ∃ l b xs zs, x = .ref l ∧ vs = [.ref b] ∧ H l = some (.lst xs) ∧ H b = some (.lst zs) ∧ xs.length + zs.length ≤ sizeLine ∧ Q .non (upd H l (.lst (xs ++ zs)))
theorem mt_extend : MtM X "list.extend" rExtend := by
  intro pins s σ H x vs v us Q I rx rv h
  obtain ⟨l, b, xs, zs, rfl, rfl, hH, hB, hz, q⟩ := h
  cases rx
  obtain ⟨u, rfl, ru⟩ := rv.one
  cases ru
  obtain ⟨z, its, n, r, hl, e⟩ := I.lstM hH
  obtain ⟨z2, its2, n2, r2, hl2, e2⟩ := I.lstM hB
  have hsz : its.toArray.size + its2.toArray.size ≤ sizeLine := by rw [List.size_toArray, List.size_toArray]; omega
  have hlong : ¬ (!its.toArray.isEmpty && Builtin.List.listTooLong (its.toArray.size + its2.toArray.size)) = true := by
    rw [notLongL hsz, Bool.and_false]
    exact Bool.false_ne_true
  refine call_meets F.slot_list_extend ⟨_, e, rfl⟩ F.entry_list_extend (F.args_list_extend_2 _ _)
    (AutoSeq1.list_extend_list_list_0 l its.toArray n b its2.toArray n2 hlong (by rw [List.size_toArray]; omega) (by omega)) ⟨e, e2, ?_⟩
  refine ⟨.non, _, I.lset (its' := its ++ its2) hH e (by simp) (r.append r2) ?_, rfl, q⟩
  rw [List.length_append]
  omega

def rPop : V → List V → Hp → VK → Prop := fun x vs H Q => ∃ l xs y, x = .ref l ∧ vs = [] ∧ H l = some (.lst xs) ∧ xs[xs.length - 1]? = some y ∧ Q y (upd H l (.lst xs.dropLast))
theorem mt_pop : MtM X "list.pop" rPop := by
  intro pins s σ H x vs v us Q I rx rv h
  obtain ⟨l, xs, y, rfl, rfl, hH, hy, q⟩ := h
  cases rx
  have hus := rv.zero
  subst hus
  obtain ⟨z, its, n, r, hl, e⟩ := I.lstM hH
  obtain ⟨u, hu, ru⟩ := r.get hy
  have hy' : its.toArray[its.toArray.size - 1]? = some u := by
    show its.toArray[its.length - 1]? = some u
    rw [← Array.getElem?_toList, ← hl]
    exact hu
  refine call_meets F.slot_list_pop ⟨_, e, rfl⟩ F.entry_list_pop (F.args_list_pop_1 _) (MeetsSeq.list_pop_last l its.toArray n u hy' (by rw [List.size_toArray]; omega)) ⟨e, ?_⟩
  refine ⟨y, _, I.lset (its' := its.dropLast) hH e ?_ r.dropLast ?_, ru, q⟩
  · show its.toArray.eraseIdxIfInBounds (its.toArray.size - 1) = its.dropLast.toArray
    rw [List.size_toArray, List.eraseIdxIfInBounds_toArray, erase_last]
  · rw [List.length_dropLast]
    omega

def rCat : R2 := fun x y H Q => ∃ l b xs zs, x = .ref l ∧ y = .ref b ∧ H l = some (.lst xs) ∧ H b = some (.lst zs) ∧ xs.length + zs.length ≤ sizeLine ∧ ∀ p, H p = none → Q (.ref p) (upd H p (.lst (xs ++ zs)))
theorem op_cat : OpR X (binaryOp .Add) rCat := by
  intro pins s σ H x y v u Q I rx ry h
  obtain ⟨l, b, xs, zs, rfl, rfl, hH, hB, hz, q⟩ := h
  cases rx
  cases ry
  obtain ⟨z, its, n, r, hl, e⟩ := I.lstM hH
  obtain ⟨z2, its2, n2, r2, hl2, e2⟩ := I.lstM hB
  refine PySem.P.add_list e e2 ?_ (by rw [List.size_toArray, List.size_toArray]; omega)
  have ea : its.toArray ++ its2.toArray = (its ++ its2).toArray := by simp
  rw [ea]
  exact ⟨.ref _, _, I.lnew (t' := s.toks) (r.append r2) (by rw [List.length_append]; omega), rfl, q _ I.fresh⟩
/-- a list times an int (a negative one is nothing) -/
def rRep : R2 := fun x y H Q => ∃ l k xs, x = .ref l ∧ y = .int k ∧ H l = some (.lst xs) ∧ -(2 ^ 63) ≤ k ∧ k < 2 ^ 63 ∧ xs.length * k.toNat ≤ sizeLine ∧
  ∀ p, H p = none → Q (.ref p) (upd H p (.lst (List.replicate k.toNat xs).flatten))
theorem len_rep {α : Type} (xs : List α) (k : Nat) : (List.replicate k xs).flatten.length = k * xs.length := by
  induction k with
  | zero => simp
  | succ k ih => rw [List.replicate_succ, List.flatten_cons, List.length_append, ih, Nat.succ_mul, Nat.add_comm]
theorem op_rep : OpR X (binaryOp .Mult) rRep := by
  intro pins s σ H x y v u Q I rx ry h
  obtain ⟨l, k, xs, rfl, rfl, hH, h1, h2, hz, q⟩ := h
  cases rx
  obtain ⟨t, rfl⟩ := ry
  obtain ⟨z, its, n, r, hl, e⟩ := I.lstM hH
  have hlen : its.toArray.size * k.toNat ≤ sizeLine := by rw [List.size_toArray, ← hl]; exact hz
  have hcap : ¬ its.toArray.size * k.toNat > (2 ^ 63 - 1) / 8 := by
    have : (sizeLine : Nat) ≤ (2 ^ 63 - 1) / 8 := by decide
    omega
  have hfit : ¬ (!Builtin.List.listFitsIndex k) = true := by
    rw [fitsIndex_both h1 h2]
    exact Bool.false_ne_true
  have hlong : ¬ Builtin.List.listTooLong (its.toArray.size * k.toNat) = true := by
    rw [notLongL hlen]
    exact Bool.false_ne_true
  have hnew : List.foldl (fun x1 x2 => x1 ++ x2) #[] (List.replicate (if its.toArray.isEmpty = true then 0 else k.toNat) its.toArray) = (List.replicate k.toNat its).flatten.toArray := by
    have f0 : ∀ m : Nat, List.foldl (fun x1 x2 => x1 ++ x2) #[] (List.replicate m its.toArray) = (List.replicate m its).flatten.toArray := fun m => by
      have := foldl_rep its m []
      rw [List.nil_append] at this
      exact this
    rw [f0]
    cases its with
    | nil => simp
    | cons a r' => rw [if_neg (by simp)]
  refine wpAny_binaryOp_repeat_ref (T := "list") (U := "int") (by decide) ⟨_, e, rfl⟩ (fun s' => typeIs_int s' k t) noFill_list_mul F.fills_int_mul F.slot_int_rmul repeat_list F.slot_int_index.lookup
    (call_meets F.slot_int_rmul (typeIs_int s k t) F.entry_int_rmul (F.args_int_rmul_2 _ _) (int___rmul___int_list k t l its.toArray n)
      ⟨e, rfl, ⟨_, e, rfl⟩, call_meets F.slot_list_mul ⟨_, e, rfl⟩ F.entry_list_mul (F.args_list_mul_2 _ _) (AutoListH.list___mul___list_int_3 l its.toArray n k t hfit hcap hlong) ⟨e, ?_⟩⟩)
  rw [hnew]
  exact ⟨.ref _, _, I.lnew (t' := s.toks) (r.rep k.toNat) (by rw [len_rep, Nat.mul_comm]; exact hz), rfl, q _ I.fresh⟩

end

section
variable {prog : Program} {w : World} {A : Around} {E : Value → Shared → Prop} {s : Shared}
end

section
variable {X : Cx}
end
end L2

namespace L2
open PySem PySem.Spec PyProof.Rows

theorem Vals.ints : ∀ {ns : List Int} {us : List Value}, Vals (ns.map V.int) us → IntsAre us ns
  | [], us, h => by
    rw [List.map_nil] at h
    cases h
    exact IntsAre.nil
  | n :: ns, us, h => by
    rw [List.map_cons] at h
    cases h with
    | cons r t =>
      obtain ⟨k, rfl⟩ := r
      exact IntsAre.cons n k (Vals.ints t)
theorem Vals.strs : ∀ {xs : List Str} {us : List Value}, Vals (xs.map V.str) us → StrsAre us xs
  | [], us, h => by
    rw [List.map_nil] at h
    cases h
    exact StrsAre.nil
  | x :: xs, us, h => by
    rw [List.map_cons] at h
    cases h with
    | cons r t =>
      obtain ⟨k, rfl⟩ := r
      exact StrsAre.cons x k (Vals.strs t)
theorem Vals.ref1 {a : Addr} {us : List Value} (r : Vals [V.ref a] us) : us = [Value.ref a] := by
  cases r with
  | cons r t =>
    cases t
    cases r
    rfl
theorem Vals.int2 {i j : Int} {us : List Value} (r : Vals [V.int i, V.int j] us) : ∃ t u, us = [Value.int i t, Value.int j u] := by
  cases r with
  | cons r t =>
    cases t with
    | cons r2 t2 =>
      cases t2
      obtain ⟨t, rfl⟩ := r
      obtain ⟨u, rfl⟩ := r2
      exact ⟨t, u, rfl⟩

section
variable {prog : Program} {w : World} {A : Around} {E : Value → Shared → Prop} {s : Shared} {l : Addr} {its : List Value} {ns : List Int} {Q : Value → Shared → Prop}
theorem sum_raw (hh : A.handled = none) (hl : s.heap.IsList l its.toArray) (hi : IntsAre its ns)
    (h : ∀ h' tk t', (∀ b o, s.heap.get? b = some o → h'.get? b = some o) → Q (.int ns.sum t') { s with heap := h', toks := tk }) : wpAny (model prog w) A (call (.builtin "sum") [.ref l]) Q E s := by
  obtain ⟨xs, e⟩ := hi.allInts.items
  have hn : numsOf (intItems xs).toList = ns := by rw [← e]; exact hi.numsOf
  rw [nums_intItems] at hn
  rw [e] at hl
  refine PySem.sum_intListG hh hl fun h' tk t' hk => ?_
  have := h h' tk t' hk
  rw [preSum_eq, List.take_of_length_le (by simp), hn]; exact this
end

section
variable {X : Cx}
/-- sum(xs) of a list of ints -/
def rSum (K : PySem.W.Frag) : List V → Hp → VK → Prop := fun vs H Q => ∃ (a : Addr) (ns : List Int), vs = [V.ref a] ∧ SqL K H a (ns.map V.int) ∧ Q (.int ns.sum) H
theorem cr_sum (hc : X.calm = true) : CallR X (.builtin "sum") (rSum X.K) := by
  intro pins s σ H vs us Q I r h
  obtain ⟨a, ns, rfl, hs, q⟩ := h
  obtain ⟨its, rv, hl, _⟩ := I.list hs
  rw [Vals.ref1 r]
  exact sum_raw (I.ok.hd hc) hl.isList rv.ints fun h' tk t' hk => ⟨.int _, H, I.kept hk, ⟨_, rfl⟩, q⟩
end

section
variable {X : Cx}
end

section
variable {X : Cx}
end

section
variable {X : Cx}
end

mutual
inductive Dp (K : PySem.W.Frag) (H : Hp) : V → PyData → Prop
  | non : Dp K H .non .none
  | bl (b : Bool) : Dp K H (.bl b) (.bool b)
  | int (i : Int) : Dp K H (.int i) (.int i)
  | str (x : Str) : Dp K H (.str x) (.str x)
  | lst {a : Addr} {xs : List V} {ds : List PyData} : SqL K H a xs → DpAll K H xs ds → Dp K H (.ref a) (.list ds)
  | tup {a : Addr} {xs : List V} {ds : List PyData} : SqT K H a xs → DpAll K H xs ds → Dp K H (.ref a) (.tuple ds)
inductive DpAll (K : PySem.W.Frag) (H : Hp) : List V → List PyData → Prop
  | nil : DpAll K H [] []
  | cons {v : V} {vs : List V} {d : PyData} {ds : List PyData} : Dp K H v d → DpAll K H vs ds → DpAll K H (v :: vs) (d :: ds)
end
section
variable {X : Cx} {pins : List (Addr × Obj)} {σ : St} {H : Hp} {s : Shared}
mutual
theorem Dp.reads (I : Inv X pins σ H s) : ∀ (d : PyData) (v : V) (u : Value), Dp X.K H v d → RelV v u → ∃ as, Reads s.heap u d as
  | .none, _, _, h, r => by
    cases h
    cases r
    exact ⟨_, Reads.none⟩
  | .bool b, _, _, h, r => by
    cases h
    cases r
    exact ⟨_, Reads.bool b⟩
  | .int i, _, _, h, r => by
    cases h
    obtain ⟨t, rfl⟩ := r
    exact ⟨_, Reads.int i t⟩
  | .str x, _, _, h, r => by
    cases h
    obtain ⟨t, rfl⟩ := r
    exact ⟨_, Reads.str x t⟩
  | .list ds, _, _, h, r => by
    cases h with
    | lst hs ha =>
      cases r
      obtain ⟨its, rv, ⟨o, n, ho, hc, _, hd⟩, _⟩ := I.list hs
      obtain ⟨as, hr⟩ := Dp.readsAll I ds _ its ha rv
      exact ⟨_, Reads.list ho hc hd hr⟩
  | .tuple ds, _, _, h, r => by
    cases h with
    | tup hs ha =>
      cases r
      obtain ⟨its, rv, ⟨o, ho, hc, n, hd⟩, _⟩ := I.tuple hs
      obtain ⟨as, hr⟩ := Dp.readsAll I ds _ its ha rv
      exact ⟨_, Reads.tuple ho hc hd hr⟩
  | .dict _, _, _, h, _ => by cases h
theorem Dp.readsAll (I : Inv X pins σ H s) : ∀ (ds : List PyData) (vs : List V) (us : List Value), DpAll X.K H vs ds → Vals vs us → ∃ as, ReadsAll s.heap us ds as
  | [], _, _, h, r => by
    cases h
    cases r
    exact ⟨_, ReadsAll.nil⟩
  | d :: ds, _, _, h, r => by
    cases h with
    | cons h1 h2 =>
      cases r with
      | cons r1 r2 =>
        obtain ⟨as, q1⟩ := Dp.reads I d _ _ h1 r1
        obtain ⟨bs, q2⟩ := Dp.readsAll I ds _ _ h2 r2
        exact ⟨_, ReadsAll.cons q1 q2⟩
end
end
section
variable {X : Cx}
end
end L2

namespace L2
open PySem PySem.Spec PyProof.Rows
abbrev CellAt (h : Heap) (c : Addr) (v : Option Value) : Prop := h.IsCell c v
def relS (scope sc : Scope) : Scope :=
  { scope with names := scope.names.map fun (n, k) => if (k == .free && sc.kind == .function && sc.names.lookup n == some .cell) then (n, .cell) else (n, k) }

def cloFrom (cells : List (Str × Addr)) : List (Str × NameKind) → List (Str × Addr) → List (Str × Addr)
  | [], acc => acc
  | (n, k) :: r, acc => if k == .free then cloFrom cells r ((n, (cells.lookup n).getD 0) :: acc) else cloFrom cells r acc

theorem closure_loop (env : Env) (f : Str × NameKind → List (Str × Addr) → Sem (ForInStep (List (Str × Addr))))
    (hf : ∀ n k c, f (n, k) c = if k == .free then (do let a ← cellOf env n; pure (.yield ((n, a) :: c))) else pure (.yield c)) :
    ∀ (names : List (Str × NameKind)) (acc : List (Str × Addr)), (∀ y ∈ names, y.2 = .free → ∃ c, env.cells.lookup y.1 = some c) → forIn names acc f = pure (cloFrom env.cells names acc)
  | [], acc, _ => by rw [List.forIn_nil]; rfl
  | (n, k) :: r, acc, h => by
    rw [List.forIn_cons, hf]
    have ih := fun acc => closure_loop env f hf r acc fun y hy => h y (List.mem_cons_of_mem _ hy)
    unfold cloFrom
    by_cases hk : (k == NameKind.free) = true
    · rw [if_pos hk, if_pos hk]
      obtain ⟨c, hc⟩ := h (n, k) List.mem_cons_self (by simpa using hk)
      have e : cellOf env n = pure c := by unfold cellOf; rw [hc]
      rw [e]
      have e2 : (env.cells.lookup n).getD 0 = c := by rw [hc]; rfl
      rw [e2]
      exact ih _
    · rw [if_neg hk, if_neg hk]
      exact ih _
theorem closure_ok {scope : Scope} {env : Env} (h : ∀ y ∈ scope.names, y.2 = .free → ∃ c, env.cells.lookup y.1 = some c) : closureFor scope env = pure (cloFrom env.cells scope.names []) := by
  simp only [closureFor]
  rw [closure_loop env _ (fun n k c => rfl) scope.names [] h]
  rfl

theorem mem_lookup {α : Type} : ∀ {l : List (Str × α)} {n : Str} {c : α}, (n, c) ∈ l → ∃ c', l.lookup n = some c'
  | (k, v) :: r, n, c, h => by
    rw [List.lookup_cons]
    cases hb : n == k with
    | true => exact ⟨_, rfl⟩
    | false =>
      rcases List.mem_cons.mp h with e | h
      · cases e; simp at hb
      · exact mem_lookup h

theorem cloFrom_mem {cells : List (Str × Addr)} : ∀ {names : List (Str × NameKind)} {acc : List (Str × Addr)} {n : Str} {c : Addr}, (n, c) ∈ cloFrom cells names acc → (n, c) ∈ acc ∨ ((n, .free) ∈ names ∧ c = (cells.lookup n).getD 0)
  | [], _, _, _, h => .inl h
  | (m, k) :: r, acc, n, c, h => by
    unfold cloFrom at h
    split at h
    · rename_i hk
      have hk : k = .free := by simpa using hk
      rcases cloFrom_mem h with h | ⟨h1, h2⟩
      · rcases List.mem_cons.mp h with e | h
        · cases e; exact .inr ⟨hk ▸ List.mem_cons_self, rfl⟩
        · exact .inl h
      · exact .inr ⟨List.mem_cons_of_mem _ h1, h2⟩
    · rcases cloFrom_mem h with h | ⟨h1, h2⟩
      · exact .inl h
      · exact .inr ⟨List.mem_cons_of_mem _ h1, h2⟩
theorem cloFrom_acc {cells : List (Str × Addr)} : ∀ {names : List (Str × NameKind)} {acc : List (Str × Addr)} {p : Str × Addr}, p ∈ acc → p ∈ cloFrom cells names acc
  | [], _, _, h => h
  | (m, k) :: r, acc, p, h => by
    unfold cloFrom
    split
    · exact cloFrom_acc (List.mem_cons_of_mem _ h)
    · exact cloFrom_acc h
theorem cloFrom_has {cells : List (Str × Addr)} : ∀ {names : List (Str × NameKind)} {acc : List (Str × Addr)} {n : Str}, (n, .free) ∈ names → (n, (cells.lookup n).getD 0) ∈ cloFrom cells names acc
  | (m, k) :: r, acc, n, h => by
    unfold cloFrom
    rcases List.mem_cons.mp h with e | h
    · cases e
      exact cloFrom_acc List.mem_cons_self
    · split
      · exact cloFrom_has h
      · exact cloFrom_has h

theorem cells_mem : ∀ {names : List (Str × NameKind)} {h : Heap} {acc : List (Str × Addr)} {x : Str} {c : Addr}, (x, c) ∈ cellsFrom h.objs.size names acc →
    (x, c) ∈ acc ∨ ((x, .cell) ∈ names ∧ h.objs.size ≤ c ∧ CellAt (pushCells h names) c none)
  | [], _, _, _, _, h => .inl h
  | (n, k) :: r, h, acc, x, c, hm => by
    unfold cellsFrom at hm
    unfold pushCells
    split at hm
    · rename_i hk
      rw [if_pos hk]
      have hk : k = .cell := by simpa using hk
      rw [← Heap.size_push h { cls := .type "cell", data := .cell none }] at hm
      rcases cells_mem hm with hm | ⟨h1, h2, h3⟩
      · rcases List.mem_cons.mp hm with e | hm
        · cases e
          exact .inr ⟨hk ▸ List.mem_cons_self, Nat.le_refl _, _, pushCells_keeps r _ _ _ (Heap.get?_push_size _ rfl), rfl⟩
        · exact .inl hm
      · rw [Heap.size_push] at h2
        exact .inr ⟨List.mem_cons_of_mem _ h1, Nat.le_of_succ_le h2, h3⟩
    · rename_i hk
      rw [if_neg hk]
      rcases cells_mem hm with hm | ⟨h1, h2, h3⟩
      · exact .inl hm
      · exact .inr ⟨List.mem_cons_of_mem _ h1, h2, h3⟩
theorem cells_acc : ∀ {names : List (Str × NameKind)} {n : Nat} {acc : List (Str × Addr)} {p : Str × Addr}, p ∈ acc → p ∈ cellsFrom n names acc
  | [], _, _, _, h => h
  | (m, k) :: r, n, acc, p, h => by
    unfold cellsFrom
    split
    · exact cells_acc (List.mem_cons_of_mem _ h)
    · exact cells_acc h
theorem cells_has : ∀ {names : List (Str × NameKind)} {n : Nat} {acc : List (Str × Addr)} {x : Str}, (x, .cell) ∈ names → ∃ c, (x, c) ∈ cellsFrom n names acc
  | (m, k) :: r, n, acc, x, h => by
    unfold cellsFrom
    rcases List.mem_cons.mp h with e | h
    · cases e
      exact ⟨n, cells_acc List.mem_cons_self⟩
    · split
      · exact cells_has h
      · exact cells_has h
theorem cells_inj : ∀ {names : List (Str × NameKind)} {h : Heap} {acc : List (Str × Addr)} {x y : Str} {c : Addr}, (∀ p ∈ acc, p.2 < h.objs.size) → (∀ x y c, (x, c) ∈ acc → (y, c) ∈ acc → x = y) →
    (x, c) ∈ cellsFrom h.objs.size names acc → (y, c) ∈ cellsFrom h.objs.size names acc → x = y
  | [], _, _, _, _, _, _, hi, h1, h2 => hi _ _ _ h1 h2
  | (n, k) :: r, h, acc, x, y, c, hl, hi, h1, h2 => by
    unfold cellsFrom at h1 h2
    split at h1
    · rename_i hk
      rw [if_pos hk] at h2
      rw [← Heap.size_push h { cls := .type "cell", data := .cell none }] at h1 h2
      refine cells_inj (h := h.push _) (fun p hp => ?_) (fun x y c a b => ?_) h1 h2
      · rw [Heap.size_push]
        rcases List.mem_cons.mp hp with rfl | hp
        · exact Nat.lt_succ_self _
        · exact Nat.lt_succ_of_lt (hl p hp)
      · rcases List.mem_cons.mp a with e | a <;> rcases List.mem_cons.mp b with e' | b
        · cases e; cases e'; rfl
        · cases e; exact absurd (hl _ b) (Nat.lt_irrefl _)
        · cases e'; exact absurd (hl _ a) (Nat.lt_irrefl _)
        · exact hi _ _ _ a b
    · rename_i hk
      rw [if_neg hk] at h2
      exact cells_inj hl hi h1 h2

theorem newEnv_comp {M : Model} {A : Around} {E : Value → Shared → Prop} {s : Shared} {scope : Scope} {globals : Addr} {closure : List (Str × Addr)} {qual : Str} {func : Option Addr} {code : Value} {around : Env} {builtins : Addr} {Q : Env → Shared → Prop}
    (h : Q (newEnv scope s.heap.objs.size globals (cellsFrom (s.heap.objs.size + 1) scope.names closure) qual func code (some around) builtins)
      { s with heap := pushCells (s.heap.push { cls := .type "dict", data := .dict #[] }) scope.names }) :
    wpAny M A (newFunctionEnv scope globals closure [] qual func code (some around) builtins) Q E s := by
  simp only [newFunctionEnv, Option.isSome_some, if_true]
  refine wpAny_bind (wpAny_alloc ?_)
  refine wpAny_bind (wpAny_layCells _ (fun n k c => rfl) scope.names closure _ _ ?_)
  rw [show ({ s with heap := s.heap.push { cls := .type "dict", data := .dict #[] } } : Shared).heap.objs.size = s.heap.objs.size + 1 from Heap.size_push ..]
  rw [List.forIn_nil]
  exact wpAny_bind (wpAny_pure (wpAny_pure h))

/-- every name of the written scope, in the scope that runs -/
theorem lookup_relS {sc : Scope} : ∀ {names : List (Str × NameKind)} {x : Str} {k : NameKind},
    (names.map fun (n, k) => if (k == NameKind.free && sc.kind == .function && sc.names.lookup n == some .cell) then (n, NameKind.cell) else (n, k)).lookup x = some k →
    ∃ k', names.lookup x = some k' ∧ (k = k' ∨ (k' = .free ∧ k = .cell))
  | [], _, _, h => by simp at h
  | (n, k₀) :: r, x, k, h => by
    have ih := @lookup_relS sc r x k
    have h' : List.lookup x ((if (k₀ == NameKind.free && sc.kind == .function && sc.names.lookup n == some .cell) = true then (n, NameKind.cell) else (n, k₀)) :: (r.map _)) = some k := h
    cases hx : x == n with
    | true =>
      simp only [List.lookup_cons, hx]
      by_cases hc : (k₀ == NameKind.free && sc.kind == .function && sc.names.lookup n == some .cell) = true
      · rw [if_pos hc] at h'
        simp only [List.lookup_cons, hx] at h'
        cases h'
        simp only [Bool.and_eq_true, beq_iff_eq] at hc
        exact ⟨k₀, rfl, .inr ⟨hc.1.1, rfl⟩⟩
      · rw [if_neg hc] at h'
        simp only [List.lookup_cons, hx] at h'
        cases h'
        exact ⟨_, rfl, .inl rfl⟩
    | false =>
      simp only [List.lookup_cons, hx]
      by_cases hc : (k₀ == NameKind.free && sc.kind == .function && sc.names.lookup n == some .cell) = true
      · rw [if_pos hc] at h'
        simp only [List.lookup_cons, hx] at h'
        exact ih h'
      · rw [if_neg hc] at h'
        simp only [List.lookup_cons, hx] at h'
        exact ih h'
/-- the names of a comprehension's block: its own (with their places in N), or captured -/
structure BlkOk (N : List Str) (sc scope : Scope) (own : List (Str × Nat)) : Prop where
  kind : scope.kind = .function
  uniq : ∀ y ∈ scope.names, scope.names.lookup y.1 = some y.2
  ix : ∀ p ∈ own, N[p.2]? = some p.1
  free : ∀ y ∈ scope.names, y.2 = .free → sc.names.lookup y.1 = some .cell ∨ sc.names.lookup y.1 = some .free
  own : ∀ y ∈ scope.names, y.2 = .local ∨ y.2 = .cell → y.1 ∈ own.map (·.1) ∨ y.1 ∉ N
/-- the slots of the block's own names forgotten -/
def wipe (σ : St) : List Nat → St
  | [] => σ
  | v :: vs => (wipe σ vs).set v none
theorem wipe_length (σ : St) : ∀ vs : List Nat, (wipe σ vs).length = σ.length
  | [] => rfl
  | v :: vs => by unfold wipe; rw [List.length_set, wipe_length σ vs]
theorem wipe_some {σ : St} {i : Nat} {x : V} : ∀ {vs : List Nat}, (wipe σ vs)[i]? = some (some x) → σ[i]? = some (some x) ∧ i ∉ vs
  | [], h => ⟨h, by simp⟩
  | v :: vs, h => by
    unfold wipe at h
    by_cases hi : v = i
    · subst hi
      by_cases hv : v < (wipe σ vs).length
      · rw [List.getElem?_set_self hv] at h; cases h
      · rw [List.getElem?_eq_none (by simpa using hv)] at h; cases h
    · rw [List.getElem?_set_ne hi] at h
      obtain ⟨h1, h2⟩ := wipe_some h
      exact ⟨h1, by simp only [List.mem_cons, not_or]; exact ⟨fun e => hi e.symm, h2⟩⟩

/-- the context of a block that starts at s, its iterator's objects at fp -/
abbrev Cx.blk (X : Cx) (s : Shared) (H : Hp) (scope : Scope) (cenv : Env) (fp : List Addr) : Cx := { X with s_0 := s, H_0 := H, env := cenv, outer := X.stack, ex := fp, fn := fun x => scope.names.lookup x == some .cell, pn := [], xe := fun _ _ => False }
section
variable {X : Cx} {pins : List (Addr × Obj)} {σ : St} {H : Hp} {s : Shared}
theorem block_start {scope : Scope} {own : List (Str × Nat)} {fp : List Addr} (I : Inv X pins σ H s) (ok : BlkOk X.N X.env.scope scope own) (hN : X.N.Nodup) (hfp : ∀ b ∈ fp, FpOk X pins H b ∧ b < s.heap.objs.size) :
    Inv (X.blk s H scope (compEnvC scope (cellsFrom (s.heap.objs.size + 1) scope.names (cloFrom X.env.cells scope.names [])) s.heap.objs.size X.env) fp) [] (wipe σ (own.map (·.2))) H { s with heap := pushCells (s.heap.push { cls := .type "dict", data := .dict #[] }) scope.names } := by
  have hfree : ∀ y ∈ scope.names, y.2 = .free → ∃ c, X.env.cells.lookup y.1 = some c := fun y hy e => by
    rcases ok.free y hy e with k | k
    · exact I.ok.has _ (.inl k)
    · exact I.ok.has _ (.inr k)
  generalize hcenv : compEnvC scope (cellsFrom (s.heap.objs.size + 1) scope.names (cloFrom X.env.cells scope.names [])) s.heap.objs.size X.env = cenv
  have kp : ∀ b o, s.heap.get? b = some o → (pushCells (s.heap.push { cls := .type "dict", data := .dict #[] }) scope.names).get? b = some o := fun b o e => pushCells_keeps _ _ _ _ (Heap.get?_push_of_some _ e)
  have hL : cenv.locals = s.heap.objs.size := by rw [← hcenv]; rfl
  have hcl : cenv.cells = cellsFrom (s.heap.objs.size + 1) scope.names (cloFrom X.env.cells scope.names []) := by rw [← hcenv]; rfl
  have hsc : cenv.scope = relS scope X.env.scope := by rw [← hcenv]; rfl
  rw [← Heap.size_push s.heap { cls := .type "dict", data := .dict #[] }] at hcl
  have cm : ∀ {y c}, (y, c) ∈ cloFrom X.env.cells scope.names [] → X.env.cells.lookup y = some c ∧ c < s.heap.objs.size := fun {y c} hm => by
    rcases cloFrom_mem hm with hm | ⟨h1, rfl⟩
    · cases hm
    · obtain ⟨c, hc⟩ := hfree _ h1 rfl
      rw [hc]
      obtain ⟨w, z⟩ := I.cell _ _ hc
      exact ⟨rfl, z.lt⟩
  have mem : ∀ {y c}, cenv.cells.lookup y = some c → (X.env.cells.lookup y = some c ∧ c < s.heap.objs.size) ∨ (s.heap.objs.size + 1 ≤ c ∧ CellAt (pushCells (s.heap.push { cls := .type "dict", data := .dict #[] }) scope.names) c none) := fun {y c} e => by
    rw [hcl] at e
    rcases cells_mem (PySem.mem_of_lookup e) with hm | ⟨_, h2, h3⟩
    · exact .inl (cm hm)
    · rw [Heap.size_push] at h2; exact .inr ⟨h2, h3⟩
  have look : ∀ {y}, scope.names.lookup y = some .free → ∃ c, cenv.cells.lookup y = some c ∧ X.env.cells.lookup y = some c := fun {y} hl => by
    have hy : (y, NameKind.free) ∈ scope.names := PySem.mem_of_lookup hl
    obtain ⟨c', e'⟩ := mem_lookup (cells_acc (names := scope.names) (n := (s.heap.push { cls := .type "dict", data := .dict #[] }).objs.size) (cloFrom_has (cells := X.env.cells) (acc := []) hy))
    rw [← hcl] at e'
    refine ⟨c', e', ?_⟩
    rw [hcl] at e'
    rcases cells_mem (PySem.mem_of_lookup e') with hm | ⟨h1, _, _⟩
    · exact (cm hm).1
    · have := ok.uniq _ h1
      rw [hl] at this; cases this
  have okB : (X.blk s H scope cenv fp).Ok := by
    refine ⟨I.ok.mod, by show cenv.scope.kind = _; rw [hsc]; exact ok.kind, by show cenv.globals = _; rw [← hcenv]; exact I.ok.glob, by show cenv.builtins = _; rw [← hcenv]; exact I.ok.blt, by show s.heap.objs.size ≤ cenv.locals; rw [hL]; exact Nat.le_refl _,
      fun y z c e1 e2 => ?_, fun y hy => ?_, fun y c z e => ?_, I.ok.hd, I.ok.frames, .inl rfl, fun b hb => ⟨?_, fun y c e z => ?_⟩, I.bs, Nat.le_trans I.ok.bsz I.sz, fun b o e hb => ?_, fun b hb z => ?_, I.stack, I.stkFree, I.tb⟩
    · have e1 : cenv.cells.lookup y = some c := e1
      have e2 : cenv.cells.lookup z = some c := e2
      rw [hcl] at e1 e2
      refine cells_inj (fun p hp => ?_) (fun y z c a b => I.ok.inj y z c (cm a).1 (cm b).1) (PySem.mem_of_lookup e1) (PySem.mem_of_lookup e2)
      rw [Heap.size_push]
      exact Nat.lt_succ_of_lt (cm (y := p.1) (c := p.2) hp).2
    · show ∃ c, cenv.cells.lookup y = some c
      have key : ∀ k, cenv.kindOf y = some k → (k = .cell ∨ k = .free) → ∃ c, cenv.cells.lookup y = some c := fun k hk hk' => by
        unfold Env.kindOf at hk
        rw [hsc] at hk
        obtain ⟨k', e, r⟩ := lookup_relS hk
        have : k' = .cell ∨ k' = .free := by
          rcases r with rfl | ⟨rfl, _⟩
          · exact hk'
          · exact .inr rfl
        rcases this with rfl | rfl
        · obtain ⟨c, hm⟩ := cells_has (n := (s.heap.push { cls := .type "dict", data := .dict #[] }).objs.size) (acc := cloFrom X.env.cells scope.names []) (PySem.mem_of_lookup e)
          obtain ⟨c', e'⟩ := mem_lookup hm
          exact ⟨c', by rw [hcl]; exact e'⟩
        · obtain ⟨c, h1, _⟩ := look e
          exact ⟨c, h1⟩
      rcases hy with hy | hy
      · exact key _ hy (.inl rfl)
      · exact key _ hy (.inr rfl)
    · have z : (scope.names.lookup y == some NameKind.cell) = true := z
      have z : scope.names.lookup y = some .cell := by simpa using z
      have e : cenv.cells.lookup y = some c := e
      rw [hcl] at e
      rcases cells_mem (PySem.mem_of_lookup e) with hm | ⟨_, h2, _⟩
      · rcases cloFrom_mem hm with hm | ⟨h1, _⟩
        · cases hm
        · have q := ok.uniq _ h1
          rw [z] at q; cases q
      · rw [Heap.size_push] at h2
        exact Nat.le_of_succ_le h2
    · show b ≠ cenv.locals
      rw [hL]; exact Nat.ne_of_lt (hfp b hb).2
    · have e : cenv.cells.lookup y = some c := e
      rcases mem e with ⟨h1, _⟩ | ⟨h1, _⟩
      · exact (hfp b hb).1.2.2.2.2.1 y c h1 z
      · have h2 : s.heap.objs.size + 1 ≤ b := by rw [← z]; exact h1
        exact absurd (Nat.lt_of_lt_of_le (hfp b hb).2 (Nat.le_of_succ_le h2)) (Nat.lt_irrefl _)
    · rcases (hfp b hb).1.2.2.2.1 with z | z
      · exact I.ok.noex b o e z
      · exact absurd (Nat.lt_of_lt_of_le (Heap.lt_size e) (Nat.le_trans I.ok.bsz z)) (Nat.lt_irrefl _)
    · rcases List.mem_cons.mp (I.stkSub b z) with z | z
      · exact (hfp b hb).1.2.1 z
      · exact (hfp b hb).1.2.2.1 z
  refine ⟨okB, rfl, I.bare, Un.kept kp, ⟨fun _ => none, ?_, fun i y av e1 e2 e3 => ?_⟩, fun y c e => ?_, ?_, fun y c e => ?_, fun p hp => ?_, I.hok.kept kp, by rw [wipe_length]; exact I.len⟩
  · show Heap.Ns _ cenv.locals _
    rw [hL]
    exact Heap.Ns.keeps (Heap.Ns.new ..) fun b o e => pushCells_keeps _ _ _ _ e
  · obtain ⟨e2, hne⟩ := wipe_some e2
    have hfr : scope.names.lookup y = some .free ∧ (cenv.kindOf y = some .cell ∨ cenv.kindOf y = some .free) := by
      have key : ∀ k, cenv.scope.names.lookup y = some k → k = .local ∨ k = .cell ∨ k = .free → scope.names.lookup y = some .free ∧ (cenv.kindOf y = some .cell ∨ cenv.kindOf y = some .free) := fun k hk hk' => by
        have hk0 := hk
        rw [hsc] at hk
        obtain ⟨k', e, r⟩ := lookup_relS hk
        have no : ¬ (k' = .local ∨ k' = .cell) := fun hh => by
          rcases ok.own _ (PySem.mem_of_lookup e) hh with e' | e'
          · obtain ⟨p, hp, hpy⟩ := List.mem_map.mp e'
            have e3 := ok.ix p hp
            have : p.1 = y := hpy
            rw [this] at e3
            exact hne (List.mem_map.mpr ⟨p, hp, nodup_ix hN e3 e1⟩)
          · exact e' (List.mem_of_getElem? e1)
        rcases r with rfl | ⟨rfl, rfl⟩
        · rcases hk' with rfl | rfl | rfl
          · exact absurd (.inl rfl) no
          · exact absurd (.inr rfl) no
          · exact ⟨e, .inr hk0⟩
        · exact ⟨e, .inl hk0⟩
      have e3 : Vis cenv.scope y := e3
      rcases e3 with e3 | e3 | e3
      · exact key _ e3 (.inl rfl)
      · exact key _ e3 (.inr (.inl rfl))
      · exact key _ e3 (.inr (.inr rfl))
    obtain ⟨m, hn, hl⟩ := I.loc
    have hvis : Vis X.env.scope y := (ok.free _ (PySem.mem_of_lookup hfr.1) rfl).elim (fun k => .inr (.inl k)) (fun k => .inr (.inr k))
    obtain ⟨w, r, q⟩ := hl i y av e1 e2 hvis
    refine ⟨w, r, .inr ⟨hfr.2, ?_⟩⟩
    obtain ⟨c, h1, h2⟩ := look hfr.1
    rcases q with ⟨k, _⟩ | ⟨_, c', e', z⟩
    · have k : X.env.scope.names.lookup y = some .local := k
      rcases ok.free _ (PySem.mem_of_lookup hfr.1) rfl with k' | k' <;> rw [show X.env.scope.names.lookup y = _ from k'] at k <;> cases k
    · rw [h2] at e'; cases e'
      exact ⟨c, h1, z.keeps kp⟩
  · have e : cenv.cells.lookup y = some c := e
    rcases mem e with ⟨h1, _⟩ | ⟨_, z⟩
    · obtain ⟨w, z⟩ := I.cell y c h1
      exact ⟨w, z.keeps kp⟩
    · exact ⟨_, z⟩
  · show H cenv.locals = none
    rw [hL]; exact I.hok.fresh (Nat.le_refl _)
  · have e : cenv.cells.lookup y = some c := e
    rcases mem e with ⟨h1, _⟩ | ⟨h1, _⟩
    · exact I.freeC y c h1
    · exact I.hok.fresh (Nat.le_of_succ_le h1)
  · exact absurd (show p ∈ ([] : List (Addr × Obj)) ++ [] from hp) (by simp)

/-- an item appended to a tracked list -/
theorem app_ok {E : Value → Shared → Prop} {D : Addr} {xs : List V} {y : V} {v : Value} {Q : Value → Shared → Prop} (I : Inv X pins σ H s) (hD : H D = some (.lst xs)) (hz : xs.length < sizeLine) (r : RelV y v)
    (h : ∀ s', Inv X pins σ (upd H D (.lst (xs ++ [y]))) s' → Q .none s') : wpAny (model X.prog X.w) X.A (call (.builtin "list.append") [.ref D, v]) Q E s := by
  obtain ⟨hz', its, n, ri, e⟩ := I.hok D _ hD
  have hl := ri.length
  refine append_at (hsz := by rw [List.size_toArray]; omega) e fun h' sb ho' => ?_
  refine h { s with heap := h' } (I.write (t' := s.toks) (by rw [hD]; trivial) (.inl rfl) (fun b u hb q => (sb.2 b hb).trans q) ⟨_, ho'⟩ ⟨by rw [List.length_append]; exact hz, its ++ [v], n + 1, ri.append (.cons r .nil), ?_⟩)
  rw [ho']
  simp

/-- a clause's tests -/
def PTs (X : Cx) (ifs : List Expr) (t : TT) : Prop :=
  ∀ (pins : List (Addr × Obj)) (s : Shared) (σ : St) (H : Hp) (Q : Bool → Hp → Prop), Inv X pins σ H s → t σ H Q →
    wpAny (model X.prog X.w) X.A (forIn ifs true fun c r => if r = true then do let ok ← isTrue c X.env (eval c X.env); pure (ForInStep.yield ok) else pure (ForInStep.yield r)) (TP X pins σ Q) X.xe s
theorem pts_one {c : Expr} {t : TT} (h : PT X c t) : PTs X [c] t := fun pins s σ H Q I hw => wpAny_tests_one (h pins s σ H Q I hw)
end

theorem thnF {α : Type} {t : Sem α} {Q Q' : α → Shared → Prop} {M : Model} {A : Around} {E : Value → Shared → Prop} {s : Shared} (h : wpAny M A t Q (fun _ _ => False) s) (hQ : ∀ a s, Q a s → Q' a s) : wpAny M A t Q' E s := wpAny_mono h hQ fun _ _ z => False.elim z

/-- the loop of a list comprehension's block, the target of any form (codeAny_compLoop_tests asks a target that no tuple goes to; statement and proof follow it, PyProof/CompMap.lean:41-61, with the step letOwnedTupleGo kept) -/
theorem compLoop_any {prog : Program} {w : World} {A : Around} {R : Result → Shared → Prop} {s : Shared} {elt target iter : Expr} {ifs : List Expr} {scope : Scope} {pos : Pos} {it acc : Value} {env : Env} (I : Nat → Shared → Prop)
    (turn : ∀ n s, I n s → wpAny (model prog w) A (pyNext it) (fun r s₁ => match r with
      | none => R (.ok .next) s₁
      | some v => wpAny (model prog w) A (letOwnedTupleGo target it v) (fun _ s₁' => wpAny (model prog w) A (assign target env v) (fun _ s₂ =>
          wpAny (model prog w) A (forIn ifs true fun c r => if r = true then do let ok ← isTrue c env (eval c env); pure (ForInStep.yield ok) else pure (ForInStep.yield r)) (fun ok s₃ =>
            if ok = true then wpAny (model prog w) A (eval elt env) (fun x s₄ =>
              wpAny (model prog w) A (call (.builtin "list.append") [acc, x]) (fun _ s₅ => ∃ m, m < n ∧ I m s₅) (notedBy (model prog w) A env fun e s' => R (.error e) s') s₄) (notedBy (model prog w) A env fun e s' => R (.error e) s') s₃
            else ∃ m, m < n ∧ I m s₃) (notedBy (model prog w) A env fun e s' => R (.error e) s') s₂) (notedBy (model prog w) A env fun e s' => R (.error e) s') s₁') (notedBy (model prog w) A env fun e s' => R (.error e) s') s₁) (notedBy (model prog w) A env fun e s' => R (.error e) s') s)
    (n : Nat) (h : I n s) :
    codeAny (model prog w) A (.compLoop (.ListComp elt [⟨target, iter, ifs, 0⟩] scope pos) 0 it acc env) R s := by
  refine codeAny_loop rfl I (fun n s hI => ?_) n h
  show wpAny _ A ((compTurn (.ListComp elt [⟨target, iter, ifs, 0⟩] scope pos) 0 it acc env).onRaise (fun x => do noteFrame x env; theTreesLotGoes x)) _ _ s
  refine wpAny_noted ?_
  rw [compTurn_list]
  refine wpAny_bind (wpAny_standAt (wpAny_bind (wpAny_mono (turn n s hI) (fun r s₁ h₁ => ?_) fun _ _ h' => h')))
  cases r with
  | none => exact wpAny_pure h₁
  | some v =>
    refine wpAny_bind (wpAny_mono h₁ (fun _ s₁' h₁' => ?_) fun _ _ h' => h')
    refine wpAny_bind (wpAny_mono h₁' (fun _ s₂ h₂ => wpAny_bind (wpAny_mono h₂ (fun ok s₃ h₃ => ?_) fun _ _ h' => h')) fun _ _ h' => h')
    cases ok with
    | false => exact wpAny_pure ⟨rfl, h₃⟩
    | true =>
      exact wpAny_bind (wpAny_bind (wpAny_mono h₃ (fun x s₄ h₄ => wpAny_bind (wpAny_mono h₄ (fun _ s₅ h₅ => wpAny_pure (wpAny_pure ⟨rfl, h₅⟩)) fun _ _ h' => h')) fun _ _ h' => h'))

section
variable {X : Cx}
/-- [elt for target in iter if ..]: D the new list; W by the turn and a measure, Nx what a turn is to reach -/
def tLc (wi : TI) (g : TG) (tt : TT) (te : TE) (vs : List Nat) : TE := fun σ H Q => wi σ H fun J H1 => ∀ D, H1 D = none → ∃ W : Nat → Nat → Hp → Prop, (∃ m, W 0 m (upd H1 D (.lst []))) ∧ ∀ i m H, W i m H →
  (J.stop i H ∧ Q (.ref D) H) ∨ (J.go i H ∧ ∃ Nx : Hp → Prop, (∀ H', Nx H' → ∃ m', m' < m ∧ W (i + 1) m' H') ∧ ∀ x H', J.yld i H x H' → g x (wipe σ vs) H' fun σ2 H2 => wipe σ2 vs = wipe σ vs ∧ tt σ2 H2 fun b H3 =>
    if b = true then te σ2 H3 fun y H4 => ∃ acc, H4 D = some (.lst acc) ∧ acc.length < sizeLine ∧ Nx (upd H4 D (.lst (acc ++ [y]))) else Nx H3)
theorem lc_core {pins : List (Addr × Obj)} {s : Shared} {σ : St} {H : Hp} {Q : VK} {elt tg iter : Expr} {ifs : List Expr} {scope : Scope} {own : List (Str × Nat)} {pos pos' : Pos} {wi : TI} {g : TG} {tt : TT} {te : TE} {use : Option (Value → Sem Unit)} {Qf : Value → Shared → Prop}
    (hc : X.calm = true) (hN : X.N.Nodup) (I : Inv X pins σ H s) (hi : PI X tg iter wi) (ok : BlkOk X.N X.env.scope scope own)
    (hg : ∀ (s : Shared) (H : Hp) (C : Addr) (cl : List (Str × Addr)) (fp : List Addr), PG (X.blk s H scope (compEnvC scope cl C X.env) fp) tg g) (ht : ∀ (s : Shared) (H : Hp) (C : Addr) (cl : List (Str × Addr)) (fp : List Addr), PTs (X.blk s H scope (compEnvC scope cl C X.env) fp) ifs tt)
    (he : ∀ (s : Shared) (H : Hp) (C : Addr) (cl : List (Str × Addr)) (fp : List Addr), PE (X.blk s H scope (compEnvC scope cl C X.env) fp) elt te) (hs : ∀ x, foldedSetIterable iter X.env x = pure x)
    (h : tLc wi g tt te (own.map (·.2)) σ H Q)
    (hRR : ∀ D C s' m H', Inv X pins σ H' s' → Q (.ref D) H' → s'.heap.Ns C m → FpOk X pins H' C → compPost (model X.prog X.w) X.A X.xe use Qf (.ref D) C (.ok .next) s') :
    wpAny (model X.prog X.w) X.A (comprehension (.ListComp elt [⟨tg, iter, ifs, 0⟩] scope pos) scope X.env pos' (newList []) false (eval iter X.env) use) Qf X.xe s := by
  have hfree : ∀ y ∈ scope.names, y.2 = .free → ∃ c, X.env.cells.lookup y.1 = some c := fun y hy e => by
    rcases ok.free y hy e with k | k
    · exact I.ok.has _ (.inl k)
    · exact I.ok.has _ (.inr k)
  refine wpAny_comprehension_free (use := use) rfl hs (closure_ok hfree) ok.kind (fun y hy e => by rw [ok.uniq y hy, e])
    (thn (hi pins s σ H _ I h) fun xv s1 hx => thn hx fun itv s2 h2 => ?_)
  obtain ⟨it, fp, tn, J, H2, e, I2, T, st2, f2, q⟩ := h2
  subst e
  refine wpAny_newObj_type (newEnv_comp ?_) (by show 0 ≤ sizeLine; decide)
  generalize hD : s2.heap.objs.size = D
  have hDn : H2 D = none := I2.hok.fresh (Nat.le_of_eq hD)
  obtain ⟨W, ⟨m0, w0⟩, turn⟩ := q D hDn
  -- the new list
  generalize hs3 : ({ s2 with heap := s2.heap.push { cls := .type "list", data := .seq ([] : List Value).toArray } } : Shared) = s3
  have I3 : Inv X pins σ (upd H2 D (.lst [])) s3 := by
    rw [← hs3]
    refine I2.laid (t' := s2.toks) (fun b o e => Heap.get?_push_of_some _ e) (Nat.le_of_eq hD) ⟨Nat.zero_le _, [], 0, .nil, ?_⟩
    rw [← hD]
    exact Heap.get?_push_size _ rfl
  have h3 : s3.heap = s2.heap.push { cls := .type "list", data := .seq ([] : List Value).toArray } := by rw [← hs3]
  have sz : ∀ b ∈ fp, b < s2.heap.objs.size := fun b hb => by
    obtain ⟨o, e, _⟩ := T.obj _ _ st2 b hb
    exact Heap.lt_size e
  have f3 : ∀ b ∈ fp, FpOk X pins (upd H2 D (.lst [])) b ∧ b < s3.heap.objs.size := fun b hb => by
    have hlt := sz b hb
    refine ⟨⟨?_, (f2 b hb).2⟩, by rw [h3, Heap.size_push]; exact Nat.lt_succ_of_lt hlt⟩
    rw [upd_ne (by rw [← hD]; exact Nat.ne_of_lt hlt)]
    exact (f2 b hb).1
  have st3 : tn 0 s3.heap := T.keep _ _ _ st2 fun b _ o e => by rw [h3]; exact Heap.get?_push_of_some _ e
  have I4 := block_start I3 ok hN f3
  have pg := hg s3 (upd H2 D (.lst [])) s3.heap.objs.size (cellsFrom (s3.heap.objs.size + 1) scope.names (cloFrom X.env.cells scope.names [])) fp
  have pt := ht s3 (upd H2 D (.lst [])) s3.heap.objs.size (cellsFrom (s3.heap.objs.size + 1) scope.names (cloFrom X.env.cells scope.names [])) fp
  have pe := he s3 (upd H2 D (.lst [])) s3.heap.objs.size (cellsFrom (s3.heap.objs.size + 1) scope.names (cloFrom X.env.cells scope.names [])) fp
  show codeAny _ _ (.compStart (.ListComp elt [⟨tg, iter, ifs, 0⟩] scope pos) 0 (.ref it) (.ref D) (compEnvC scope (cellsFrom (s3.heap.objs.size + 1) scope.names (cloFrom X.env.cells scope.names [])) s3.heap.objs.size X.env)) (compPost (model X.prog X.w) X.A X.xe use Qf (.ref D) s3.heap.objs.size) { s3 with heap := pushCells (s3.heap.push { cls := .type "dict", data := .dict #[] }) scope.names }
  have nfp : ∀ b ∈ fp, (upd H2 D (.lst [])) b = none := fun b hb => (f3 b hb).1.1
  generalize hce : compEnvC scope (cellsFrom (s3.heap.objs.size + 1) scope.names (cloFrom X.env.cells scope.names [])) s3.heap.objs.size X.env = ce at I4 pg pt pe ⊢
  have cL : ce.locals = s3.heap.objs.size := by subst hce; rfl
  generalize hH3 : upd H2 D (.lst []) = H3 at I3 I4 pg pt pe w0 nfp f3
  generalize hs4 : ({ s3 with heap := pushCells (s3.heap.push { cls := .type "dict", data := .dict #[] }) scope.names } : Shared) = s4 at I4 ⊢
  have st4 : tn 0 s4.heap := T.keep _ _ _ st3 fun b _ o e => by rw [← hs4]; exact pushCells_keeps _ _ _ _ (Heap.get?_push_of_some _ e)
  have stat : ∀ {σ' : St} {H' : Hp} {s' : Shared}, Inv (X.blk s3 H3 scope ce fp) [] σ' H' s' → (∀ b ∈ fp, H' b = none) → ∀ b ∈ fp, FpOk (X.blk s3 H3 scope ce fp) [] H' b := fun {σ' H' s'} I' hn b hb =>
    ⟨hn b hb, (I'.ok.exf b hb).1, I'.ok.exfs b hb, .inl hb, fun x c e => (I'.ok.exf b hb).2 x c e, fun p hp => absurd (show p ∈ ([] : List (Addr × Obj)) ++ [] from hp) (by simp)⟩
  have loop : codeAny (model X.prog X.w) X.A (.compLoop (.ListComp elt [⟨tg, iter, ifs, 0⟩] scope pos) 0 (.ref it) (.ref D) ce) (compPost (model X.prog X.w) X.A X.xe use Qf (.ref D) s3.heap.objs.size) s4 := by
    refine compLoop_any (fun n s' => ∃ i H', Inv (X.blk s3 H3 scope ce fp) [] (wipe σ (own.map (·.2))) H' s' ∧ tn i s'.heap ∧ (∀ b ∈ fp, H' b = none) ∧ W i n H') ?_ m0 ⟨0, H3, I4, st4, nfp, w0⟩
    rintro n s5 ⟨i, H5, I5, st5, n5, w5⟩
    rcases turn i n H5 w5 with ⟨stop, qq⟩ | ⟨go, Nx, hNx, step⟩
    · have td := T.done (X.blk s3 H3 scope ce fp) rfl rfl rfl hc i [] s5 _ H5 (fun _ _ => False) I5 (stat I5 n5) st5 stop
      refine thnF td fun r s6 ⟨hr, I6⟩ => ?_
      subst hr
      -- back in the def's context
      have I7 : Inv X pins σ H5 s6 := I3.call' (ch := fp) I6.os I6.base I6.hok I6.bare fun b hb => ⟨(f3 b hb).1.2.2.2.1, (f3 b hb).1.2.1, (f3 b hb).1.2.2.2.2.1, (f3 b hb).1.2.2.2.2.2⟩
      have nC : H5 s3.heap.objs.size = none := by
        have z : H5 ce.locals = none := I6.free
        rw [cL] at z
        exact z
      obtain ⟨m, hn, _⟩ := I6.loc
      have hn : s6.heap.Ns ce.locals m := hn
      rw [cL] at hn
      exact hRR D s3.heap.objs.size s6 m H5 I7 qq hn (I3.fpOk (Nat.le_refl _) nC)
    · have ti := T.item (X.blk s3 H3 scope ce fp) rfl rfl rfl hc i [] s5 _ H5 (fun _ _ => False) I5 (stat I5 n5) st5 go
      refine thnF ti fun r s6 ⟨u, hr, h6⟩ => ?_
      subst hr
      refine thnF h6 fun _ s7 ⟨x, H7, I7, r7, y7, st7, n7⟩ => ?_
      have I7' := I7.pinned (stat I7 n7) (T.obj _ _ st7)
      refine thnF (pg _ s7 _ H7 x u _ I7' r7 (step x H7 y7)) fun _ s8 ⟨σ8, H8, I8, hw8, q8⟩ => ?_
      refine thnF (pt _ s8 σ8 H8 _ I8 q8) fun b s9 ⟨H9, I9, q9⟩ => ?_
      -- the turn's end
      have fin : ∀ {s' : Shared} {H' : Hp}, Inv (X.blk s3 H3 scope ce fp) ([] ++ pinsAt fp s7.heap) σ8 H' s' → Nx H' → ∃ m, m < n ∧ ∃ i H', Inv (X.blk s3 H3 scope ce fp) [] (wipe σ (own.map (·.2))) H' s' ∧ tn i s'.heap ∧ (∀ b ∈ fp, H' b = none) ∧ W i m H' := fun {s' H'} I' nx => by
        obtain ⟨m', hm, w'⟩ := hNx H' nx
        have pin' : ∀ b ∈ fp, ∀ o, s7.heap.get? b = some o → s'.heap.get? b = some o ∧ H' b = none := fun b hb o e =>
          let z := I'.pin (b, o) (List.mem_append_right _ (List.mem_append_right _ (mem_pinsAt hb e)))
          ⟨z.1, z.2.1⟩
        have hl : (wipe σ (own.map (·.2))).length = σ8.length := by rw [← hw8, wipe_length]
        refine ⟨m', hm, i + 1, H', (I'.unpinned (pins := [])).weak hl (fun j v e => ?_), T.keep _ _ _ st7 fun b hb o e => (pin' b hb o e).1, fun b hb => ?_, w'⟩
        · rw [← hw8] at e
          exact (wipe_some e).1
        · obtain ⟨o, e, _⟩ := T.obj _ _ st7 b hb
          exact (pin' b hb o e).2
      cases b with
      | false =>
        simp only [Bool.false_eq_true, if_false] at q9 ⊢
        exact fin I9 q9
      | true =>
        simp only [if_true] at q9 ⊢
        refine thnF (pe _ s9 σ8 H9 _ I9 q9) fun z s10 ⟨yv, H10, I10, r10, acc, hD10, hz10, nx⟩ => ?_
        exact app_ok (X := X.blk s3 H3 scope ce fp) I10 hD10 hz10 r10 fun s11 I11 => fin I11 nx
  exact codeAny_compStart_list loop (T.self X.A 0 _ _ _ st4 loop)
/-- as a value -/
theorem pe_lc {elt tg iter : Expr} {ifs : List Expr} {scope : Scope} {own : List (Str × Nat)} {pos : Pos} {wi : TI} {g : TG} {tt : TT} {te : TE} (hc : X.calm = true) (hN : X.N.Nodup) (hi : PI X tg iter wi) (ok : BlkOk X.N X.env.scope scope own)
    (hg : ∀ (s : Shared) (H : Hp) (C : Addr) (cl : List (Str × Addr)) (fp : List Addr), PG (X.blk s H scope (compEnvC scope cl C X.env) fp) tg g) (ht : ∀ (s : Shared) (H : Hp) (C : Addr) (cl : List (Str × Addr)) (fp : List Addr), PTs (X.blk s H scope (compEnvC scope cl C X.env) fp) ifs tt)
    (he : ∀ (s : Shared) (H : Hp) (C : Addr) (cl : List (Str × Addr)) (fp : List Addr), PE (X.blk s H scope (compEnvC scope cl C X.env) fp) elt te) (hs : ∀ x, foldedSetIterable iter X.env x = pure x := by intro _; rfl) :
    PE X (.ListComp elt [⟨tg, iter, ifs, 0⟩] scope pos) (tLc wi g tt te (own.map (·.2))) := by
  intro pins s σ H Q I h
  rw [eval_ListComp]
  refine lc_core hc hN I hi ok hg ht he hs h fun D C s' m H' I' q hn f => ⟨m, hn, fun h'' sb => ?_⟩
  obtain ⟨f0, f1, f2, f3, f4, f5⟩ := f
  exact ⟨.ref D, H', I'.turned (t' := s'.toks) (fun b o hb e => (sb.2 b hb).trans e) f0 f1 f3 f4 f5, rfl, q⟩
/-- name = [..] on one line, the name a local -/
theorem ps_setLc {i : Nat} {y : Str} {py : Pos} {elt tg iter : Expr} {ifs : List Expr} {scope : Scope} {own : List (Str × Nat)} {pos spos : Pos} {wi : TI} {g : TG} {tt : TT} {te : TE} (hc : X.calm = true) (hN : X.N.Nodup) (hy : X.N[i]? = some y) (hyl : X.env.scope.names.lookup y = some .local)
    (hsw : swapsWith (.ListComp elt [⟨tg, iter, ifs, 0⟩] scope pos) (some (.Name y py)) spos.line X.env = pure true) (hi : PI X tg iter wi) (ok : BlkOk X.N X.env.scope scope own)
    (hg : ∀ (s : Shared) (H : Hp) (C : Addr) (cl : List (Str × Addr)) (fp : List Addr), PG (X.blk s H scope (compEnvC scope cl C X.env) fp) tg g) (ht : ∀ (s : Shared) (H : Hp) (C : Addr) (cl : List (Str × Addr)) (fp : List Addr), PTs (X.blk s H scope (compEnvC scope cl C X.env) fp) ifs tt)
    (he : ∀ (s : Shared) (H : Hp) (C : Addr) (cl : List (Str × Addr)) (fp : List Addr), PE (X.blk s H scope (compEnvC scope cl C X.env) fp) elt te) (hs : ∀ x, foldedSetIterable iter X.env x = pure x := by intro _; rfl) :
    PS X (.Assign [.Name y py] (.ListComp elt [⟨tg, iter, ifs, 0⟩] scope pos) spos) (tAsg (tLc wi g tt te (own.map (·.2))) (gName i)) := by
  intro pins s σ H D I h
  rw [exec_Assign_Name_used _ _ _ _ hsw]
  refine wpAny_bind (wpAny_standAt (wpAny_bind ?_))
  show wpAny _ X.A (do let _ ← comprehension (.ListComp elt [⟨tg, iter, ifs, 0⟩] scope pos) scope X.env (firstIterPos [⟨tg, iter, ifs, 0⟩] pos) (newList []) false (eval iter X.env) (some (assign (.Name y py) X.env))) _ _ s
  have h : tLc wi g tt te (own.map (·.2)) σ H (fun x H1 => gName i x σ H1 D.nx) := h
  refine wpAny_bind (thn (lc_core (Qf := fun _ s' => SP X pins D .next s') hc hN I hi ok hg ht he hs h fun L C s' m H' I' q hn f => ?_) fun _ s' hq => wpAny_pure (wpAny_pure hq))
  show wpAny _ _ (assign (.Name y py) X.env (.ref L)) _ _ _
  refine wpAny_assign_Name (store_ok2 (v := V.ref L) I' hN hy (.inl hyl) rfl (fun s2 I2 ⟨a, sb, ha⟩ => ?_) (.inr hyl))
  obtain ⟨f0, f1, f2, f3, f4, f5⟩ := f
  have haC : C ≠ a := by
    rcases ha with z | z
    · rw [z]; exact f1
    · exact fun e => f4 y a z e.symm
  refine ⟨m, hn.sameBut sb haC, fun h3 sb3 => ?_⟩
  exact ⟨_, H', I2.turned (t' := s2.toks) (fun b o hb e => (sb3.2 b hb).trans e) f0 f1 f3 f4 f5, q⟩
theorem sw_true {elt : Expr} {gs : List Comprehension} {scope : Scope} {pos py : Pos} {y : Str} {l : Nat} {env : Env} (hk : env.scope.kind = .function) (hy : env.scope.names.lookup y = some .local) (hl : (py.line == pos.line) = true)
    (ha : (scope.names.any fun (n, k) => n == y && (k == .local || k == .cell)) = false) : swapsWith (.ListComp elt gs scope pos) (some (.Name y py)) l env = pure true := by
  have ky : env.kindOf y = some .local := hy
  have hb : env.blockKind = .function := by unfold Env.blockKind; rw [hk]; rfl
  unfold swapsWith
  simp only [hb, ky, ha, Expr.pos, hl]
  rfl
end

/-- over a list that the block leaves as it is -/
theorem lc_list {K : PySem.W.Frag} {a : Addr} {xs : List V} {g : TG} {tt : TT} {te : TE} {vs : List Nat} {σ : St} {H1 : Hp} {D : Addr} {Qd : Hp → Prop} (Pv : Nat → Hp → Prop) (h0 : Pv 0 (upd H1 D (.lst []))) (hl : ∀ i H, i ≤ xs.length → Pv i H → SqL K H a xs)
    (hs : ∀ i x H, xs[i]? = some x → Pv i H → g x (wipe σ vs) H fun σ2 H2 => wipe σ2 vs = wipe σ vs ∧ tt σ2 H2 fun b H3 =>
      if b = true then te σ2 H3 fun y H4 => ∃ acc, H4 D = some (.lst acc) ∧ acc.length < sizeLine ∧ Pv (i + 1) (upd H4 D (.lst (acc ++ [y]))) else Pv (i + 1) H3) (hd : ∀ H, Pv xs.length H → Qd H) :
    ∃ W : Nat → Nat → Hp → Prop, (∃ m, W 0 m (upd H1 D (.lst []))) ∧ ∀ i m H, W i m H →
      ((Itl K a).stop i H ∧ Qd H) ∨ ((Itl K a).go i H ∧ ∃ Nx : Hp → Prop, (∀ H', Nx H' → ∃ m', m' < m ∧ W (i + 1) m' H') ∧ ∀ x H', (Itl K a).yld i H x H' → g x (wipe σ vs) H' fun σ2 H2 => wipe σ2 vs = wipe σ vs ∧ tt σ2 H2 fun b H3 =>
        if b = true then te σ2 H3 fun y H4 => ∃ acc, H4 D = some (.lst acc) ∧ acc.length < sizeLine ∧ Nx (upd H4 D (.lst (acc ++ [y]))) else Nx H3) := by
  refine ⟨fun i m H => m = xs.length - i ∧ i ≤ xs.length ∧ Pv i H, ⟨xs.length, by simp, Nat.zero_le _, h0⟩, ?_⟩
  rintro i m H ⟨rfl, hi, p⟩
  have q := hl i H hi p
  by_cases hlt : i < xs.length
  · refine .inr ⟨⟨xs, xs[i], q, by simp [hlt]⟩, Pv (i + 1), fun H' p' => ⟨xs.length - (i + 1), by omega, rfl, hlt, p'⟩, fun x H' y => ?_⟩
    obtain ⟨e, y⟩ := y
    subst e
    exact hs i x _ (y xs q) p
  · have e : i = xs.length := by omega
    subst e
    exact .inl ⟨⟨xs, q, Nat.le_refl _⟩, hd H p⟩
def blkC (N : List Str) (sc scope : Scope) (own : List (Str × Nat)) : Bool :=
  (match scope.kind with | .function => true | _ => false) && (scope.names.all fun y => decide (scope.names.lookup y.1 = some y.2)) && (own.all fun p => decide (N[p.2]? = some p.1)) &&
    (scope.names.all fun y => match y.2 with
      | .free => (match sc.names.lookup y.1 with | some .cell => true | some .free => true | _ => false)
      | .local => decide (y.1 ∈ own.map (·.1)) || decide (y.1 ∉ N)
      | .cell => decide (y.1 ∈ own.map (·.1)) || decide (y.1 ∉ N)
      | _ => true)
theorem blkOk_by {N : List Str} {sc scope : Scope} {own : List (Str × Nat)} (h : blkC N sc scope own = true) : BlkOk N sc scope own := by
  unfold blkC at h
  simp only [Bool.and_eq_true, List.all_eq_true, decide_eq_true_eq] at h
  obtain ⟨⟨⟨h1, h2⟩, h3⟩, h4⟩ := h
  refine ⟨?_, h2, h3, fun y hy e => ?_, fun y hy e => ?_⟩
  · split at h1
    · assumption
    · cases h1
  · have q := h4 y hy
    simp only [e] at q
    split at q <;> first | exact .inl (by assumption) | exact .inr (by assumption) | cases q
  · have q := h4 y hy
    rcases e with e | e <;> (simp only [e, Bool.or_eq_true, decide_eq_true_eq] at q; exact q)
end L2

namespace L2
open PySem PySem.Spec PyProof.Rows

section
variable {prog : Program} {w : World} {A : Around} {R : Result → Shared → Prop} {s : Shared} {elt t0 i0 t1 i1 : Expr} {ifs0 ifs1 : List Expr} {scope : Scope} {pos : Pos} {it acc : Value} {env : Env}
end

section
variable {X : Cx}
end
end L2

namespace L2
open PySem PySem.Spec PyProof.Rows

section
variable {κ : Type} [DecidableEq κ]
def valV (kvs : List (κ × V)) (k : κ) : Option V := (kvs.find? fun kv => decide (kv.1 = k)).map (·.2)
/-- in its place, or at the end -/
def putK (kvs : List (κ × V)) (k : κ) (v : V) : List (κ × V) :=
  if (kvs.any fun kv => decide (kv.1 = k)) = true then kvs.map (fun kv => if kv.1 = k then (kv.1, v) else kv) else kvs ++ [(k, v)]
def dropK (kvs : List (κ × V)) (k : κ) : List (κ × V) := kvs.filter fun kv => decide (kv.1 ≠ k)

theorem valV_pos {p : κ × V} {r : List (κ × V)} {k : κ} (e : p.1 = k) : valV (p :: r) k = some p.2 := by simp [valV, List.find?_cons, e]
theorem valV_neg {p : κ × V} {r : List (κ × V)} {k : κ} (e : ¬ p.1 = k) : valV (p :: r) k = valV r k := by simp [valV, List.find?_cons, e]
theorem valV_any (k : κ) : ∀ kvs : List (κ × V), (kvs.any fun kv => decide (kv.1 = k)) = (valV kvs k).isSome
  | [] => rfl
  | p :: r => by
    rw [List.any_cons]
    by_cases e : p.1 = k
    · simp only [valV_pos e, decide_eq_true e, Bool.true_or, Option.isSome_some]
    · rw [valV_neg e, decide_eq_false e, Bool.false_or]; exact valV_any k r
theorem RelO.isSome_eq {o : Option V} {u : Option Value} (r : RelO o u) : o.isSome = u.isSome := by
  cases o with
  | none => cases u with
    | none => rfl
    | some _ => exact (show False from r).elim
  | some _ => cases u with
    | none => exact (show False from r).elim
    | some _ => rfl
theorem RelO.getD {o : Option V} {u : Option Value} {d : V} {d' : Value} (r : RelO o u) (rd : RelV d d') : RelV (o.getD d) (u.getD d') := by
  cases o with
  | none => cases u with
    | none => exact rd
    | some _ => exact (show False from r).elim
  | some _ => cases u with
    | none => exact (show False from r).elim
    | some _ => exact r

/-- raw tables of the same keys -/
theorem KV.val {kvs : List (κ × V)} {vs : List (κ × Value)} (r : KV kvs vs) (k : κ) : RelO (valV kvs k) (valueAt vs k) := by
  unfold KV at r
  induction r with
  | nil => exact True.intro
  | @cons p q ps qs h t ih =>
    obtain ⟨h1, h2⟩ := h
    by_cases e : p.1 = k
    · have e' : q.1 = k := h1.symm.trans e
      have b : valueAt (q :: qs) k = some q.2 := by simp [valueAt, List.find?_cons, e']
      rw [valV_pos e, b]; exact h2
    · have e' : ¬ q.1 = k := fun z => e (h1.trans z)
      have b : valueAt (q :: qs) k = valueAt qs k := by simp [valueAt, List.find?_cons, e']
      rw [valV_neg e, b]; exact ih
theorem KV.any {kvs : List (κ × V)} {vs : List (κ × Value)} (r : KV kvs vs) (k : κ) : (kvs.any fun kv => decide (kv.1 = k)) = vs.any fun kv => decide (kv.1 = k) := by
  unfold KV at r
  induction r with
  | nil => rfl
  | cons h t ih => rw [List.any_cons, List.any_cons, ih, h.1]
theorem KV.repl {kvs : List (κ × V)} {vs : List (κ × Value)} (r : KV kvs vs) (k : κ) {y : V} {u : Value} (ry : RelV y u) :
    KV (kvs.map fun kv => if kv.1 = k then (kv.1, y) else kv) (vs.map fun kv => if kv.1 = k then (kv.1, u) else kv) := by
  unfold KV at r ⊢
  induction r with
  | nil => exact .nil
  | @cons p q ps qs h t ih =>
    rw [List.map_cons, List.map_cons]
    refine .cons ?_ ih
    obtain ⟨h1, h2⟩ := h
    by_cases e : p.1 = k
    · rw [if_pos e, if_pos (h1.symm.trans e)]; exact ⟨h1, ry⟩
    · rw [if_neg e, if_neg (fun z => e (h1.trans z))]; exact ⟨h1, h2⟩
theorem KV.put {kvs : List (κ × V)} {vs : List (κ × Value)} (r : KV kvs vs) (k : κ) {y : V} {u : Value} (ry : RelV y u) : KV (putK kvs k y) (stored vs k u) := by
  unfold putK stored
  rw [r.any k]
  by_cases e : (vs.any fun kv => decide (kv.1 = k)) = true
  · rw [if_pos e, if_pos e]; exact r.repl k ry
  · rw [if_neg e, if_neg e]; exact Paired.snoc r ⟨rfl, ry⟩
theorem KV.drop {kvs : List (κ × V)} {vs : List (κ × Value)} (r : KV kvs vs) (k : κ) : KV (dropK kvs k) (without vs k) := by
  unfold KV at r ⊢
  unfold dropK without
  induction r with
  | nil => exact .nil
  | @cons p q ps qs h t ih =>
    obtain ⟨h1, h2⟩ := h
    rw [List.filter_cons, List.filter_cons]
    by_cases e : p.1 = k
    · have a : ¬ decide (p.1 ≠ k) = true := by simp [e]
      have b : ¬ decide (q.1 ≠ k) = true := by simp [h1.symm.trans e]
      rw [if_neg a, if_neg b]; exact ih
    · have e' : ¬ q.1 = k := fun z => e (h1.trans z)
      have a : decide (p.1 ≠ k) = true := by simp [e]
      have b : decide (q.1 ≠ k) = true := by simp [e']
      rw [if_pos a, if_pos b]; exact .cons ⟨h1, h2⟩ ih
theorem KV.keys {kvs : List (κ × V)} {vs : List (κ × Value)} (r : KV kvs vs) : kvs.map (·.1) = vs.map (·.1) := by
  unfold KV at r
  induction r with
  | nil => rfl
  | cons h t ih => rw [List.map_cons, List.map_cons, ih, h.1]
theorem KV.length {kvs : List (κ × V)} {vs : List (κ × Value)} (r : KV kvs vs) : kvs.length = vs.length := Paired.length r
end


/-- raw entries of a dict with tuple keys -/
abbrev KT (H : Hp) : List (List Key × V) → List (List Key × Addr × Value) → Prop := Paired fun p q => p.1 = q.1 ∧ H q.2.1 = some (.tup (p.1.map kV)) ∧ RelV p.2 q.2.2
theorem KT.val {H : Hp} {kvs : List (List Key × V)} {xs : List (List Key × Addr × Value)} (r : KT H kvs xs) (k : List Key) : RelO (valV kvs k) ((atKey xs k).map (·.2)) := by
  induction r with
  | nil => exact True.intro
  | @cons p q ps qs h t ih =>
    obtain ⟨h1, _, h2⟩ := h
    by_cases e : p.1 = k
    · have e' : q.1 = k := h1.symm.trans e
      have b : atKey (q :: qs) k = some q.2 := by simp [atKey, List.find?_cons, e']
      rw [valV_pos e, b]; exact h2
    · have e' : ¬ q.1 = k := fun z => e (h1.trans z)
      have b : atKey (q :: qs) k = atKey qs k := by simp [atKey, List.find?_cons, e']
      rw [valV_neg e, b]; exact ih
theorem KT.repl {H : Hp} {kvs : List (List Key × V)} {xs : List (List Key × Addr × Value)} (r : KT H kvs xs) (k : List Key) {y : V} {u : Value} (ry : RelV y u) :
    KT H (kvs.map fun kv => if kv.1 = k then (kv.1, y) else kv) (xs.map (putAt k u)) := by
  induction r with
  | nil => exact .nil
  | @cons p q ps qs h t ih =>
    rw [List.map_cons, List.map_cons]
    refine .cons ?_ ih
    obtain ⟨h1, h2, h3⟩ := h
    unfold putAt
    by_cases e : p.1 = k
    · rw [if_pos e, if_pos (h1.symm.trans e)]; exact ⟨h1, h2, ry⟩
    · rw [if_neg e, if_neg (fun z => e (h1.trans z))]; exact ⟨h1, h2, h3⟩
theorem KT.put {H : Hp} {kvs : List (List Key × V)} {xs : List (List Key × Addr × Value)} (r : KT H kvs xs) (k : List Key) {b : Addr} {y : V} {u : Value} (hb : H b = some (.tup (k.map kV))) (ry : RelV y u) :
    KT H (putK kvs k y) (storedH xs k b u) := by
  have e : (kvs.any fun kv => decide (kv.1 = k)) = (atKey xs k).isSome := by
    rw [valV_any, (r.val k).isSome_eq, Option.isSome_map]
  unfold putK storedH
  rw [e]
  by_cases q : (atKey xs k).isSome = true
  · rw [if_pos q, if_pos q]; exact r.repl k ry
  · rw [if_neg q, if_neg q]; exact Paired.snoc r ⟨rfl, hb, ry⟩
theorem KT.keeps {H H' : Hp} {kvs : List (List Key × V)} {xs : List (List Key × Addr × Value)} (r : KT H kvs xs) (ht : ∀ b ys, H b = some (.tup ys) → H' b = some (.tup ys)) : KT H' kvs xs :=
  Paired.mapP r fun _ _ z => ⟨z.1, ht _ _ z.2.1, z.2.2⟩

section
variable {P : Program} {w : World} {H : Hp} {h : Heap} {a : Addr}
end

/-- what the dict at a holds at the key y -/
def DGet (H : Hp) (a : Addr) (y : V) (r : Option V) : Prop :=
  (∃ kvs k, Rd H a (.dK kvs) ∧ y = kV k ∧ r = valV kvs k) ∨ ∃ kvs k b, Rd H a (.dT kvs) ∧ y = .ref b ∧ H b = some (.tup (k.map kV)) ∧ r = valV kvs k
/-- the heap behind a[y] = v -/
def DPut (H : Hp) (a : Addr) (y v : V) (H' : Hp) : Prop :=
  (∃ kvs k, H a = some (.dK kvs) ∧ y = kV k ∧ kvs.length < sizeLine ∧ H' = upd H a (.dK (putK kvs k v))) ∨
  ∃ kvs k b, H a = some (.dT kvs) ∧ y = .ref b ∧ H b = some (.tup (k.map kV)) ∧ kvs.length < sizeLine ∧ H' = upd H a (.dT (putK kvs k v))
theorem DGet.k {H : Hp} {a : Addr} {kvs : List (Key × V)} {k : Key} (e : H a = some (.dK kvs)) : DGet H a (kV k) (valV kvs k) := .inl ⟨kvs, k, .inl e, rfl, rfl⟩
theorem DGet.t {H : Hp} {a b : Addr} {kvs : List (List Key × V)} {k : List Key} (e : H a = some (.dT kvs)) (eb : H b = some (.tup (k.map kV))) : DGet H a (.ref b) (valV kvs k) := .inr ⟨kvs, k, b, .inl e, rfl, eb, rfl⟩
theorem DPut.k {H : Hp} {a : Addr} {kvs : List (Key × V)} {k : Key} {v : V} (e : H a = some (.dK kvs)) (hl : kvs.length < sizeLine) : DPut H a (kV k) v (upd H a (.dK (putK kvs k v))) := .inl ⟨kvs, k, e, rfl, hl, rfl⟩
theorem DPut.t {H : Hp} {a b : Addr} {kvs : List (List Key × V)} {k : List Key} {v : V} (e : H a = some (.dT kvs)) (eb : H b = some (.tup (k.map kV))) (hl : kvs.length < sizeLine) :
    DPut H a (.ref b) v (upd H a (.dT (putK kvs k v))) := .inr ⟨kvs, k, b, e, rfl, eb, hl, rfl⟩


section
variable {X : Cx} {pins : List (Addr × Obj)} {σ : St} {H : Hp} {s : Shared} {a : Addr} {y v : V} {u r : Value} {o : Option V} {A : Around} {E : Value → Shared → Prop}

end

section
variable {X : Cx} {pins : List (Addr × Obj)} {σ : St} {H : Hp} {s : Shared} {a : Addr} {kvs : List (Key × V)} {k : Key} {u : Value} {A : Around} {E : Value → Shared → Prop}
end


section
variable {X : Cx} {o i e value : Expr} {pos pos' tpos : Pos} {td ty tv : TE}
end


section
variable {X : Cx} {pos : Pos}
end

section
variable {X : Cx} {pins : List (Addr × Obj)} {σ : St} {H : Hp} {s : Shared} {a : Addr} {y d : V} {u r : Value} {o : Option V} {A : Around} {E : Value → Shared → Prop}
end

section
variable {X : Cx} {o e f : Expr} {apos cpos : Pos} {td ty tx : TE}
end

section
variable {X : Cx} {pins : List (Addr × Obj)} {σ : St} {H : Hp} {s : Shared} {a : Addr} {kvs : List (Key × V)} {A : Around} {E : Value → Shared → Prop}
end


section
variable {X : Cx} {pins : List (Addr × Obj)} {σ : St} {H : Hp} {s : Shared} {a : Addr} {y : V} {u : Value} {A : Around} {E : Value → Shared → Prop}
end
end L2

namespace L2
open PySem PySem.Spec PyProof.Rows

section
variable {prog : Program} {w : World} {A : Around} {E : Value → Shared → Prop}
end

section
variable {X : Cx}
end
end L2

namespace L2
open PySem PySem.Spec PyProof.Rows

theorem boot_reversed5 : bootBuiltins "reversed" = some (.type "reversed") := by decide +kernel

section
variable {X : Cx} {pins : List (Addr × Obj)} {σ : St} {H : Hp} {s : Shared} {h' : Heap}
/-- .. and one new object is laid -/
theorem Inv.turnedNew {t' : Nat} {ch : List Addr} {T : Addr} {ob : HO} (I : Inv X pins σ H s) (k : ∀ b o, b ∉ ch → s.heap.get? b = some o → h'.get? b = some o) (hf : ∀ b ∈ ch, FpOk X pins H b) (hT : s.heap.objs.size ≤ T)
    (new : ObjOk X.prog X.w (upd H T ob) h' T ob) : Inv X pins σ (upd H T ob) { s with heap := h', toks := t' } := by
  have hn : H T = none := I.hok.fresh hT
  have nit : ∀ b u, H b = some u → b ∉ ch := fun b u e z => by
    have q := (hf b z).1
    rw [q] at e; cases e
  refine I.step (g' := s.gens) (d' := s.drawn) (ch := ch) (fun b hb => ⟨(hf b hb).2.2.2.1, (hf b hb).2.1, (hf b hb).2.2.2.2.1, (hf b hb).2.2.2.2.2⟩) (fun b o _ _ hc e _ => k b o hc e) (fun b o _ _ hc e _ => ⟨o.slots, k b o hc e⟩)
    (fun b o _ e n => ?_) (fun b o hc e => ⟨o, k b o hc e⟩) (fun b xs e => ?_) (fun b o u e => ?_) (fun b ps e => ⟨#[], ?_⟩) (fun m hm => ?_) (fun b u e => ?_) I.bare
  · rw [upd_ne (Nat.ne_of_lt (Nat.lt_of_lt_of_le (Heap.lt_size e) hT))]; exact n
  · rw [upd_ne (ne_of_none e hn)]; exact e
  · rw [upd_ne (ne_of_none e hn)]; exact e
  · rw [upd_ne (ne_of_none e hn), e]; simp
  · obtain ⟨o, es, ep, ho, r⟩ := hm
    exact ⟨o, es, ep, k _ o (fun z => (hf _ z).2.1 rfl) ho, r⟩
  · by_cases hb : b = T
    · subst hb
      rw [upd_same] at e
      cases e
      exact new
    · rw [upd_ne hb] at e
      refine (I.hok b u e).stay (fun c v hc q => k c v ?_ q) (fun c q => by rw [upd_ne (ne_of_none q hn)]; exact q) (fun c xs q => by rw [upd_ne (ne_of_none q hn)]; exact q) fun c o x q => by rw [upd_ne (ne_of_none q hn)]; exact q
      rcases hc with z | z
      · rw [z]; exact nit b u e
      · exact nit c _ z

end
section
variable {X : Cx}
end

/-- range(i, j, c): small bounds, n items -/
def RgC (i j c : Int) (n : Nat) : Prop := c ≠ 0 ∧ c.natAbs < 1073741824 ∧ Builtin.Range.small i j c = true ∧ Builtin.Range.rangeSize i j c = n
theorem RgC.neg {i j : Int} (ha : -(2 ^ 62) ≤ i) (ha' : i < 2 ^ 62) (hb : -(2 ^ 62) ≤ j) (hb' : j < 2 ^ 62) : RgC i j (-1) (i - j).toNat :=
  ⟨by decide, by decide, PySem.W.small_down ha ha' hb hb', PySem.W.rangeSize_downNat i j⟩
section
variable {X : Cx} {tg : Expr}
end
section
variable {X : Cx} {tg : Expr}
end

section
variable {prog : Program} {w : World} {A : Around} {E : Value → Shared → Prop} {s : Shared}
end

section
variable {X : Cx} {pins : List (Addr × Obj)} {σ : St} {H : Hp} {s : Shared} {d : Addr} {o : Obj}
end

section
variable {P : Program} {w : World} {K : PySem.W.Frag} {tg : Expr} {d : Addr} {o : Obj} {es : Array DictEntry} {ep : Nat}
end

section
variable {X : Cx} {tg e : Expr} {td : TE} {apos cpos : Pos}
end

/-- the list at a as it stands at each turn, each item in a new pair -/
def Ite (K : PySem.W.Frag) (a : Addr) : It :=
  ⟨fun i H => ∃ (xs : List V) (x : V), SqL K H a xs ∧ xs[i]? = some x, fun i H v H' => ∃ T x, v = .ref T ∧ H T = none ∧ H' = upd H T (.tup [.int (i : Nat), x]) ∧ ∀ xs, SqL K H a xs → xs[i]? = some x, fun i H => ∃ xs : List V, SqL K H a xs ∧ xs.length ≤ i⟩
theorem turn_enum {P : Program} {w : World} {K : PySem.W.Frag} {elts : List Expr} {kk : Nat} {tpos : Pos} (a e it : Addr) :
    Turn P w K (.Tuple elts kk tpos) (Ite K a) [e, it] e (fun i h => (∃ old, IsEnum h e it ((i : Nat) : Int) old) ∧ h.IsListIter it a i ∧ e ≠ it) where
  mem := by simp
  obj := fun i h st b hb => by
    obtain ⟨⟨old, he⟩, ⟨o, ho, hc, hd⟩, _⟩ := st
    have e' : b = e ∨ b = it := by simpa using hb
    rcases e' with z | z
    · rw [z]; exact ⟨_, he, fun v q => nomatch q⟩
    · rw [z]; exact ⟨o, ho, fun v q => by rw [hd] at q; cases q⟩
  keep := fun i h h' st k => let ⟨⟨old, he⟩, hi, hne⟩ := st; ⟨⟨old, k e (by simp) _ he⟩, hi.at fun o q => k it (by simp) o q, hne⟩
  item := by
    intro X hP hw hK hc i pins s σ H E I hf st hg
    subst hP hw hK
    obtain ⟨⟨old, he⟩, hit, hne⟩ := st
    obtain ⟨xs, x, hq, hx⟩ := hg
    obtain ⟨its, rv, p, hz⟩ := I.list hq
    obtain ⟨u, hu, ru⟩ := rv.get hx
    have hel : e < s.heap.objs.size := Heap.lt_size he
    have hil : it < s.heap.objs.size := by obtain ⟨_, q, _⟩ := hit; exact Heap.lt_size q
    refine wpAny_pyNext_enum_item he hit p.isList (x := u) (by simpa using hu) hne fun h' ho hit' hT hsz hk => ?_
    refine ⟨_, rfl, wpAny_letOwnedTupleGo_enum (s := { s with heap := h', toks := s.toks + 1 }) ho fun h'' he' sb => ?_⟩
    have hT2 : h''.get? s.heap.objs.size = some { cls := .type "tuple", data := .seq #[.int i s.toks, u] } := (sb.2 _ (Nat.ne_of_gt hel)).trans hT
    have new : ObjOk X.prog X.w (upd H s.heap.objs.size (.tup [.int (i : Nat), x])) h'' s.heap.objs.size (.tup [.int (i : Nat), x]) :=
      ⟨by show 2 ≤ sizeLine; decide, [.int i s.toks, u], .cons ⟨_, rfl⟩ (.cons ru .nil), ⟨_, hT2, rfl, _, rfl⟩⟩
    have I1 : Inv X pins σ (upd H s.heap.objs.size (.tup [.int (i : Nat), x])) { s with heap := h'', toks := s.toks + 1 } :=
      I.turnedNew (ch := [e, it]) (fun b ob hb q => (sb.2 b (fun z => hb (by simp [z]))).trans (hk b ob (fun z => hb (by simp [z])) (fun z => hb (by simp [z])) q)) hf (Nat.le_refl _) new
    refine ⟨.ref s.heap.objs.size, _, I1, rfl, ⟨_, x, rfl, I.hok.fresh (Nat.le_refl _), rfl, fun ys hy => by rw [I.list_inj hy hq]; exact hx⟩, ⟨⟨u, ?_⟩, hit'.at fun o q => (sb.2 it (Ne.symm hne)).trans q, hne⟩, fun b hb => ?_⟩
    · have e1 : ((i + 1 : Nat) : Int) = (i : Int) + 1 := by omega
      rw [e1]; exact he'
    · have hb' : b < s.heap.objs.size := by
        have e' : b = e ∨ b = it := by simpa using hb
        rcases e' with z | z
        · rw [z]; exact hel
        · rw [z]; exact hil
      rw [upd_ne (Nat.ne_of_lt hb')]
      exact (hf b hb).1
  done := by
    intro X hP hw hK hc i pins s σ H E I hf st hg
    subst hP hw hK
    obtain ⟨⟨old, he⟩, hit, hne⟩ := st
    obtain ⟨xs, hq, hx⟩ := hg
    obtain ⟨its, rv, p, hz⟩ := I.list hq
    obtain ⟨f0, f1, f2, f3, f4, f5⟩ := hf it (by simp)
    have hl := rv.length
    exact wpAny_pyNext_enum_end (I.ok.hd hc) he hit p.isList (by simp; omega) fun h' eb => ⟨rfl, I.turned (t' := s.toks) (fun b o hb q => eb b o hb q) f0 f1 f3 f4 f5⟩
  self := fun A i s Q E st h => let ⟨⟨_, he⟩, _⟩ := st; wpAny_pyIter_enum he h
def iEnum (K : PySem.W.Frag) (ta : TA) : TI := fun σ H R => ta σ H fun vs H1 => ∃ a xs, vs = [.ref a] ∧ SqL K H1 a xs ∧ R (Ite K a) H1
theorem pi_enum {X : Cx} {e : Expr} {ta : TA} {p pos tpos : Pos} {elts : List Expr} {kk : Nat} (hg : Gl X "enumerate") (hm : X.mg "enumerate" = none) (ha : PA X [e] ta) (hs : starEach [e] X.env = [(false, eval e X.env)] := by rfl) :
    PI X (.Tuple elts kk tpos) (.Call (.Name "enumerate" p) [e] [] pos) (iEnum X.K ta) := by
  intro pins s σ H R I h
  refine Call_ (ld_blt I hg hm boot_enumerate (PyProof.Rows.callWith_type1 (thn (ha pos pins s σ H _ I h) fun us s1 ⟨vs, H1, I1, r1, q1⟩ => ?_) hs rfl))
  obtain ⟨a, xs, ex, hq, q⟩ := q1
  subst ex
  cases r1 with
  | cons r rr =>
    cases rr
    cases r
    obtain ⟨its, rv, p', hz⟩ := I1.list hq
    refine call_enumerate_list p'.isList fun h' he hit hsz hk => wpAny_pyIter_enum he ?_
    have I2 : Inv X pins σ H1 { s1 with heap := h' } := I1.kept (t' := s1.toks) hk
    refine ⟨s1.heap.objs.size + 1, [s1.heap.objs.size + 1, s1.heap.objs.size], _, _, H1, rfl, I2, turn_enum a (s1.heap.objs.size + 1) s1.heap.objs.size, ⟨⟨.none, he⟩, hit, Nat.succ_ne_self _⟩, fun b hb => ?_, q⟩
    have e' : b = s1.heap.objs.size + 1 ∨ b = s1.heap.objs.size := by simpa using hb
    have hle : s1.heap.objs.size ≤ b := by
      rcases e' with z | z
      · rw [z]; exact Nat.le_add_right _ _
      · rw [z]; exact Nat.le_refl _
    exact I1.fpOk hle (I1.hok.fresh hle)
end L2

section 
namespace Bits
open PySem PyProof.Rows

end Bits
end 

section 
namespace TL
open PySem PySem.Builtin PySem.Builtin.Str PySem.StrLaws

abbrev tl (x : Str) : List Nat := x.cps.toList
theorem len_tl (x : Str) : x.length = (tl x).length := by simp [tl, Str.length]
/-- S stands at the head of l -/
def pre (S l : List Nat) : Bool := l.take S.length == S
/-- what stands before the first S, and behind it -/
def par (S : List Nat) : List Nat → List Nat → Option (List Nat × List Nat)
  | _, [] => none
  | acc, c :: r => if pre S (c :: r) = true then some (acc, (c :: r).drop S.length) else par S (acc ++ [c]) r

theorem len1 {y : Str} (hy : tl y ≠ []) : 1 ≤ y.length := by
  have e2 : 0 < (tl y).length := List.length_pos_iff.mpr hy
  rw [len_tl y]
  exact e2
end TL
end 

namespace L2
open PySem PySem.Spec PyProof.Rows

section
variable {X : Cx} {pins : List (Addr × Obj)} {σ : St} {H : Hp} {s : Shared} {Q : VK}
end

section
variable {X : Cx}

end

section
variable {X : Cx} {o e : Expr} {to te : TE}
end
end L2

namespace L2
open PySem PySem.Spec PyProof.Rows

section
variable {X : Cx}
end

theorem IsPart.raw {v : Value} {o : Option Int} (p : IsPart v o) : ∃ l : Option (Int × Tok), v = partValue l ∧ l.map (·.1) = o := by
  cases p with
  | none => exact ⟨none, rfl, rfl⟩
  | int i t => exact ⟨some (i, t), rfl, rfl⟩

end L2

namespace Att
open PySem PySem.W PySem.Calls PyProof.Rows

section
variable {prog : Program} {w : World} {A : Around} {E : Value → Shared → Prop} {s : Shared} {K : Frag}

end
end Att

namespace L2
open PySem PySem.Spec PyProof.Rows

abbrev KOf {K : PySem.W.Frag} {h : Heap} (_ : K.In h) : PySem.W.Frag := K

end L2


namespace L2
open PySem PySem.Spec PyProof.Rows

/-- the j-th statement of a class's body -/
def inClass (s : Stmt) (j : Nat) : Stmt := match s with
  | .ClassDef _ _ _ body _ _ _ _ _ _ _ => body.getD j (.Pass ⟨0, 0, 0, 0⟩)
  | _ => .Pass ⟨0, 0, 0, 0⟩
def defArgs (s : Stmt) : Arguments := match s with
  | .FunctionDef _ a _ _ _ _ _ _ _ _ => a
  | _ => { posonlyargs := [], args := [], vararg := none, kwonlyargs := [], kw_defaults := [], kwarg := none, defaults := [] }
def defBody (s : Stmt) : List Stmt := match s with
  | .FunctionDef _ _ b _ _ _ _ _ _ _ => b
  | _ => []
def defScope (s : Stmt) : Scope := match s with
  | .FunctionDef _ _ _ _ _ _ sc _ _ _ => sc
  | _ => { kind := .function, names := [], isGenerator := false, isCoroutine := false }

abbrev CX0 : CXT := fun _ _ _ _ _ _ => False
abbrev E0 : XK := fun _ _ _ => False
theorem pass0 {X : Cx} : Passes CX0 X E0 := fun _ _ _ _ _ _ _ h => h.elim

structure Fun (K : PySem.W.Frag) (x qual : Str) (st : Stmt) (f : Addr) (fd : FuncData) : Prop where
  ex : ∃ (oc : Value) (od : Option Addr) (kV doc pm : Value) (an : Option Addr) (cdv ct : Value) (osl : Array (Option Value)),
    fd = PySem.W.fnOf x qual (defArgs st) (defBody st) (defScope st) .none kV doc pm an cdv ct ∧ K.lookup f = some ⟨oc, od, .func fd, osl⟩ ∧ PySem.W.codeIn K cdv qual = true
  kp : PySem.W.keepIn K (.ref f) = true
section
variable {P : Program} {w : World} {K : PySem.W.Frag} {mg : Str → Option Value} {base : Heap}
/-- THE RULE for a def: its body as a term of rules, and the reading of that term -/
theorem Fun.ok {x qual : Str} {st : Stmt} {f : Addr} {fd : FuncData} {N ps : List Str} {k : Nat} {sp : Sp} (F : Fun K x qual st f fd) (S : FnScope N ps (defScope st)) (len : ∀ vs H Q E, sp vs H Q E → vs.length = ps.length)
    (hbody : ∀ (cdv : Value) (A : Around) (outer : List Env) (s : Shared) (H : Hp) (vs : List V) (Q : VK) (E : XK), Room k (A.deeper (envOfC qual (defScope st) s.heap.objs.size f cdv)) → sp vs H Q E →
      ∃ t, PSs (cxOf CX0 P w K mg base N qual (defScope st) f cdv A outer s H E).nox (defBody st) t ∧ t { nx := fun _ H' => Q .non H', rt := Q } (start N vs) H) : FnOk P w K mg base CX0 (k + 1) f fd ps sp := by
  obtain ⟨oc, od, kV, doc, pm, an, cdv, ct, osl, rfl, lk, hcd⟩ := F.ex
  refine fn_of lk hcd S len fun A outer s H vs Q E hr hsp => ?_
  obtain ⟨t, h, q⟩ := hbody cdv A outer s H vs Q E hr hsp
  exact ⟨t, h.nox, q⟩
/-- how its arguments bind (no defaults): h is «fun _ _ _ _ _ _ us hl => match us, hl with | [_, _], _ => rfl», one _ a parameter -/
theorem Fun.binds {x qual : Str} {st : Stmt} {f : Addr} {fd : FuncData} {ps : List Str} (F : Fun K x qual st f fd)
    (h : ∀ (kV doc pm : Value) (an : Option Addr) (cdv ct : Value) (us : List Value), us.length = ps.length → bindArgs (PySem.W.fnOf x qual (defArgs st) (defBody st) (defScope st) .none kV doc pm an cdv ct) ⟨us, []⟩ = pure (ps.zip us)) : Binds K fd ps [] := by
  obtain ⟨oc, od, kV, doc, pm, an, cdv, ct, osl, rfl, lk, hcd⟩ := F.ex
  exact .all (h kV doc pm an cdv ct)
theorem fun_mk {x qual : Str} {st : Stmt} {f : Addr} {oc : Value} {od an : Option Addr} {osl : Array (Option Value)} {kV doc pm cdv ct : Value} (l : K.lookup f = some ⟨oc, od, .func (PySem.W.fnOf x qual (defArgs st) (defBody st) (defScope st) .none kV doc pm an cdv ct), osl⟩)
    (c : PySem.W.codeIn K cdv qual = true) (k : PySem.W.keepIn K (.ref f) = true) : Fun K x qual st f (PySem.W.fnOf x qual (defArgs st) (defBody st) (defScope st) .none kV doc pm an cdv ct) := ⟨⟨oc, od, kV, doc, pm, an, cdv, ct, osl, rfl, l, c⟩, k⟩
end
section
variable {X : Cx}
theorem pv (i : Nat) {x : Str} {pos : Pos} (hN : X.N[i]? = some x := by rfl) (hv : Vis X.env.scope x := by first | exact Or.inl rfl | exact Or.inr (Or.inl rfl) | exact Or.inr (Or.inr rfl)) (hd : (x == ("__debug__" : Str)) = false := by decide)
    (hcd : (x == ("__classdict__" : Str)) = false := by decide) : PE X (.Name x pos) (tVar i) := pe_var hN hv hd hcd
end

theorem iteF {A B : Prop} (h : B) : if false = true then A else B := by
  rw [if_neg Bool.false_ne_true]
  exact h
theorem iteT {A B : Prop} (h : A) : if true = true then A else B := by
  rw [if_pos rfl]
  exact h
theorem ite2 {c A B : Prop} [Decidable c] (h1 : c → A) (h2 : ¬ c → B) : if c then A else B := by
  by_cases h : c
  · rw [if_pos h]
    exact h1 h
  · rw [if_neg h]
    exact h2 h
/-- all that was tracked is as it was -/
def Same (H H' : Hp) : Prop := ∀ b o, H b = some o → H' b = some o
theorem Same.refl (H : Hp) : Same H H := fun _ _ h => h
theorem Same.trans {H H1 H2 : Hp} (a : Same H H1) (b : Same H1 H2) : Same H H2 := fun c o h => b c o (a c o h)
theorem Same.free {H H' : Hp} (e : Same H H') {l : Addr} (h : H' l = Option.none) : H l = Option.none := by
  cases q : H l with
  | none => rfl
  | some o =>
    rw [e l o q] at h
    cases h
theorem Same.seq {K : PySem.W.Frag} {H H' : Hp} {a : Addr} {xs : List V} (e : Same H H') (h : SqL K H a xs) : SqL K H' a xs := by
  rcases h with (h | ⟨o, h⟩) | h
  · exact .inl (.inl (e _ _ h))
  · exact .inl (.inr ⟨o, e _ _ h⟩)
  · exact .inr h

section
variable {κ : Type} [DecidableEq κ]
theorem nd_snoc : ∀ {l : List κ} {k : κ}, l.Nodup → ¬ k ∈ l → (l ++ [k]).Nodup
  | [], k, _, _ => by simp
  | a :: r, k, h, hk => by
    obtain ⟨h1, h2⟩ := List.nodup_cons.mp h
    show (a :: (r ++ [k])).Nodup
    refine List.nodup_cons.mpr ⟨fun m => ?_, nd_snoc h2 fun m => hk (List.mem_cons.mpr (Or.inr m))⟩
    rcases List.mem_append.mp m with q | q
    · exact h1 q
    · exact hk (List.mem_cons.mpr (Or.inl (List.mem_singleton.mp q).symm))
end
theorem at_of {xs : List V} {z : Int} {j : Nat} {v : V} (e : z = (j : Int)) (h : xs[j]? = some v) : atI xs z = some v := by
  rw [e]
  exact atI_nat h
theorem nd_ix {α : Type} {l : List α} (hN : l.Nodup) {i j : Nat} {x : α} (a : l[i]? = some x) (b : l[j]? = some x) : i = j := by
  obtain ⟨h1, e1⟩ := List.getElem?_eq_some_iff.mp a
  obtain ⟨h2, e2⟩ := List.getElem?_eq_some_iff.mp b
  exact (List.getElem_inj hN).mp (e1.trans e2.symm)
/-- a new instance and its __init__ leave all that was tracked as it was -/
theorem Same.made {H H1 : Hp} {x dx C : Addr} (nx : H x = Option.none) (nd : H dx = Option.none) (k : ∀ b o, (upd (upd H dx (.own x)) x (.ins C dx [])) b = some o → b ≠ x → H1 b = some o) : Same H H1 := fun b o e =>
  k b o (by rw [upd_ne (ne_of_none e nx), upd_ne (ne_of_none e nd)]; exact e) (ne_of_none e nx)
end L2

section
set_option Elab.async false
set_option linter.all false
set_option maxRecDepth 100000
set_option maxHeartbeats 2000000
namespace L2
open PySem PySem.Spec PyProof.Rows
open PySem.W (WData Codec OpenSpec Well WellAll ReadsW ReadsAllW)
mutual
/-- x stands for the datum d, lists and tuples all the way -/
inductive Dw (K : PySem.W.Frag) (H : Hp) : V → WData → Prop
  | non : Dw K H .non .none
  | bl (b : Bool) : Dw K H (.bl b) (.bool b)
  | int (i : Int) : Dw K H (.int i) (.int i)
  | str (x : Str) : Dw K H (.str x) (.str x)
  | byt (b : Array UInt8) : Dw K H (.byt b) (.bytes b.toList)
  | lst {a : Addr} {xs : List V} {ds : List WData} : SqL K H a xs → DwAll K H xs ds → Dw K H (.ref a) (.list ds)
  | tup {a : Addr} {xs : List V} {ds : List WData} : SqT K H a xs → DwAll K H xs ds → Dw K H (.ref a) (.tuple ds)
inductive DwAll (K : PySem.W.Frag) (H : Hp) : List V → List WData → Prop
  | nil : DwAll K H [] []
  | cons {v : V} {vs : List V} {d : WData} {ds : List WData} : Dw K H v d → DwAll K H vs ds → DwAll K H (v :: vs) (d :: ds)
end
theorem dw_ints {K : PySem.W.Frag} {H : Hp} : ∀ ns : List Int, DwAll K H (ns.map V.int) (ns.map WData.int)
  | [] => .nil
  | n :: r => .cons (.int n) (dw_ints r)
theorem ints_dw {K : PySem.W.Frag} {H : Hp} : ∀ (ns : List Int) (xs : List V), DwAll K H xs (ns.map WData.int) → xs = ns.map V.int
  | [], xs, h => by
    cases h
    rfl
  | n :: r, xs, h => by
    cases h with
    | cons h1 h2 =>
      cases h1
      rw [ints_dw r _ h2] <;> rfl
section
variable {P : Program} {w : World} {K : PySem.W.Frag} {H : Hp} {h : Heap} {R : PySem.W.WRecords} {cl : Str → Option Addr}
theorem sqL_at {a : Addr} {xs : List V} (hok : HOk P w H h) (KX : K.In h) (q : SqL K H a xs) : ∃ (its : List Value) (o : Obj) (n : Nat), Vals xs its ∧ h.get? a = some o ∧ o.cls = .type "list" ∧ o.data = .seq its.toArray n := by
  rcases q with q | ⟨o, its, n, e, hc, _, hd, _, hv⟩
  · obtain ⟨_, its, n, hv, e⟩ := (show ObjOk P w H h a (.lst xs) from q.ok hok)
    exact ⟨its, _, n, hv, e, rfl, rfl⟩
  · exact ⟨its.toList, o, n, hv, KX _ _ e, hc, by simp [hd]⟩
theorem sqT_at {a : Addr} {xs : List V} (hok : HOk P w H h) (KX : K.In h) (q : SqT K H a xs) : ∃ (its : List Value) (o : Obj) (n : Nat), Vals xs its ∧ h.get? a = some o ∧ o.cls = .type "tuple" ∧ o.data = .seq its.toArray n := by
  rcases q with q | ⟨o, its, n, e, hc, hd, _, hv⟩
  · obtain ⟨_, its, hv, o, e, hc, n, hd⟩ := (show ObjOk P w H h a (.tup xs) from q.ok hok)
    exact ⟨its, o, n, hv, e, hc, hd⟩
  · exact ⟨its.toList, o, n, hv, KX _ _ e, hc, by simp [hd]⟩
mutual
theorem Dw.reads (hok : HOk P w H h) (KX : K.In h) : ∀ (d : WData) (v : V) (u : Value), Dw K H v d → RelV v u → ∃ as, ReadsW R cl h u d as
  | .none, _, _, x, r => by
    cases x
    cases r
    exact ⟨_, ReadsW.none⟩
  | .bool b, _, _, x, r => by
    cases x
    cases r
    exact ⟨_, ReadsW.bool b⟩
  | .int i, _, _, x, r => by
    cases x
    obtain ⟨t, rfl⟩ := r
    exact ⟨_, ReadsW.int i t⟩
  | .str s, _, _, x, r => by
    cases x
    obtain ⟨t, rfl⟩ := r
    exact ⟨_, ReadsW.str s t⟩
  | .bytes b, _, _, x, r => by
    cases x
    obtain ⟨t, rfl⟩ := r
    exact ⟨_, ReadsW.bytes _ t⟩
  | .list ds, _, _, x, r => by
    cases x with
    | lst hs ha =>
      cases r
      obtain ⟨its, o, n, rv, ho, hc, hd⟩ := sqL_at hok KX hs
      obtain ⟨as, hr⟩ := Dw.readsAll hok KX ds _ its ha rv
      exact ⟨_, ReadsW.list ho hc hd hr⟩
  | .tuple ds, _, _, x, r => by
    cases x with
    | tup hs ha =>
      cases r
      obtain ⟨its, o, n, rv, ho, hc, hd⟩ := sqT_at hok KX hs
      obtain ⟨as, hr⟩ := Dw.readsAll hok KX ds _ its ha rv
      exact ⟨_, ReadsW.tuple ho hc hd hr⟩
  | .float _, _, _, x, _ => by cases x
  | .dict _, _, _, x, _ => by cases x
  | .bytearray _, _, _, x, _ => by cases x
  | .set _, _, _, x, _ => by cases x
  | .frozenset _, _, _, x, _ => by cases x
  | .obj _ _, _, _, x, _ => by cases x
theorem Dw.readsAll (hok : HOk P w H h) (KX : K.In h) : ∀ (ds : List WData) (vs : List V) (us : List Value), DwAll K H vs ds → Vals vs us → ∃ as, ReadsAllW R cl h us ds as
  | [], _, _, x, r => by
    cases x
    cases r
    exact ⟨_, ReadsAllW.nil⟩
  | d :: ds, _, _, x, r => by
    cases x with
    | cons h1 h2 =>
      cases r with
      | cons r1 r2 =>
        obtain ⟨as, q1⟩ := Dw.reads hok KX d _ _ h1 r1
        obtain ⟨bs, q2⟩ := Dw.readsAll hok KX ds _ _ h2 r2
        exact ⟨_, ReadsAllW.cons q1 q2⟩
end
end
mutual
/-- data that a codec tells -/
def plW : WData → Bool
  | .none => true
  | .bool _ => true
  | .int _ => true
  | .str _ => true
  | .bytes _ => true
  | .list xs => plWs xs
  | .tuple xs => plWs xs
  | _ => false
def plWs : List WData → Bool
  | [] => true
  | x :: r => plW x && plWs r
end
theorem plWs_map {α : Type} {f : α → WData} (h : ∀ a, plW (f a) = true) : ∀ l : List α, plWs (l.map f) = true
  | [] => rfl
  | x :: r => by
    show (plW (f x) && plWs (r.map f)) = true
    rw [h x, plWs_map h r] <;> rfl
theorem pl_enc : ∀ (c : Codec) (a : c.denote), plW (c.enc a) = true
  | .unit, _ => rfl
  | .bool, _ => rfl
  | .int _ _, _ => rfl
  | .nat _ _, _ => rfl
  | .u8, _ => rfl
  | .bytes _ _, _ => rfl
  | .text _ _ _ _, _ => rfl
  | .list _ _ c, a => plWs_map (fun x => pl_enc c x) a
  | .pair c d, a => by
    show (plW (c.enc a.1) && (plW (d.enc a.2) && true)) = true
    rw [pl_enc c a.1, pl_enc d a.2] <;> rfl
  | .triple c d e, a => by
    show (plW (c.enc a.1) && (plW (d.enc a.2.1) && (plW (e.enc a.2.2) && true))) = true
    rw [pl_enc c a.1, pl_enc d a.2.1, pl_enc e a.2.2] <;> rfl
  | .option c, none => rfl
  | .option c, some x => pl_enc c x
theorem pl_encAll : ∀ (cs : List Codec) (a : Codec.denoteAll cs), plWs (Codec.encAll cs a) = true
  | [], _ => rfl
  | c :: cs, a => by
    show (plW (c.enc a.1) && plWs (Codec.encAll cs a.2)) = true
    rw [pl_enc c a.1, pl_encAll cs a.2] <;> rfl
theorem weight_mem : ∀ {xs : List WData} {d : WData}, d ∈ xs → d.weight ≤ WData.weightAll xs
  | [], d, h => absurd h (by simp)
  | x :: r, d, h => by
    show d.weight ≤ x.weight + 1 + WData.weightAll r
    rcases List.mem_cons.mp h with e | m
    · rw [e]
      omega
    · have z := weight_mem m
      omega
def toV : Value → V
  | .none => .non
  | .bool b => .bl b
  | .int i _ => .int i
  | .str x _ => .str x
  | .bytes b _ => .byt b
  | .ref a => .ref a
  | _ => .non
/-- a value of the arguments, its objects among A -/
def OkU (A : List Addr) : Value → Prop
  | .none => True
  | .bool _ => True
  | .int _ _ => True
  | .str _ _ => True
  | .bytes _ _ => True
  | .ref a => a ∈ A
  | _ => False
theorem OkU.mono {A B : List Addr} (h : ∀ a ∈ A, a ∈ B) : ∀ {u : Value}, OkU A u → OkU B u := fun {u} x => by
  cases u with
  | ref a => exact h a x
  | none => trivial
  | bool b => trivial
  | int i t => trivial
  | str s t => trivial
  | bytes b t => trivial
  | _ => exact False.elim x
theorem relV_toV {A : List Addr} {u : Value} (x : OkU A u) : RelV (toV u) u := by
  cases u with
  | ref a => rfl
  | none => rfl
  | bool b => rfl
  | int i t => exact ⟨t, rfl⟩
  | str s t => exact ⟨t, rfl⟩
  | bytes b t => exact ⟨t, rfl⟩
  | _ => exact False.elim x
theorem vals_toV {A : List Addr} : ∀ {vs : List Value}, (∀ u ∈ vs, OkU A u) → Vals (vs.map toV) vs
  | [], _ => .nil
  | u :: r, h => .cons (relV_toV (h u (List.mem_cons_self ..))) (vals_toV fun x hx => h x (List.mem_cons_of_mem _ hx))
/-- an object of the arguments -/
def ArgOb (h : Heap) (A : List Addr) (a : Addr) : Prop := ∃ vs : List Value, vs.length ≤ sizeLine ∧ (∀ u ∈ vs, OkU A u) ∧
  (h.get? a = some { cls := .type "list", data := .seq vs.toArray } ∨ h.get? a = some { cls := .type "tuple", data := .seq vs.toArray })
theorem ArgOb.mono {h : Heap} {A B : List Addr} {a : Addr} (k : ∀ a ∈ A, a ∈ B) (x : ArgOb h A a) : ArgOb h B a := by
  obtain ⟨vs, h1, h2, h3⟩ := x
  exact ⟨vs, h1, fun u hu => (h2 u hu).mono k, h3⟩
theorem wellAll_len {P : Params} {h : Heap} : ∀ {vs : List Value} {ds : List WData}, WellAll P h vs ds → vs.length = ds.length
  | _, _, .nil => rfl
  | _, _, .cons _ b => by
    show _ + 1 = _ + 1
    rw [wellAll_len b]
theorem well_list {P : Params} {h : Heap} {v : Value} {ds : List WData} (x : Well P h v (.list ds)) : ∃ (a : Addr) (vs : List Value), v = .ref a ∧ h.get? a = some { cls := .type "list", data := .seq vs.toArray } ∧ WellAll P h vs ds := by
  cases x with
  | list ho hall => exact ⟨_, _, rfl, ho, hall⟩
theorem well_tuple {P : Params} {h : Heap} {v : Value} {ds : List WData} (x : Well P h v (.tuple ds)) : ∃ (a : Addr) (vs : List Value), v = .ref a ∧ h.get? a = some { cls := .type "tuple", data := .seq vs.toArray } ∧ WellAll P h vs ds := by
  cases x with
  | tuple ho hall => exact ⟨_, _, rfl, ho, hall⟩
theorem well_cons {P : Params} {h : Heap} {us : List Value} {d : WData} {ds : List WData} (x : WellAll P h us (d :: ds)) : ∃ (v : Value) (vs : List Value), us = v :: vs ∧ Well P h v d ∧ WellAll P h vs ds := by
  cases x with
  | cons a b => exact ⟨_, _, rfl, a, b⟩
theorem line_of {n : Nat} (h : n ≤ 1048576) : n ≤ sizeLine := Nat.le_trans h (by decide)
section
variable {P : Params} {h : Heap}
mutual
theorem area_one : ∀ (d : WData) (v : Value), Well P h v d → plW d = true → d.weight ≤ 1048576 → ∃ A : List Addr, OkU A v ∧ ∀ a ∈ A, ArgOb h A a
  | .none, _, x, _, _ => by
    cases x
    exact ⟨[], trivial, fun a m => absurd m (by simp)⟩
  | .bool b, _, x, _, _ => by
    cases x
    exact ⟨[], trivial, fun a m => absurd m (by simp)⟩
  | .int i, _, x, _, _ => by
    cases x
    exact ⟨[], trivial, fun a m => absurd m (by simp)⟩
  | .str s, _, x, _, _ => by
    cases x
    exact ⟨[], trivial, fun a m => absurd m (by simp)⟩
  | .bytes b, _, x, _, _ => by
    cases x
    exact ⟨[], trivial, fun a m => absurd m (by simp)⟩
  | .list ds, _, x, p, z => by
    obtain ⟨a, vs, rfl, ho, hall⟩ := well_list x
    have z2 : WData.weightAll ds ≤ 1048576 := z
    obtain ⟨A, h1, h2⟩ := area_all ds _ hall p fun d hd => Nat.le_trans (weight_mem hd) z2
    have k : ∀ b ∈ A, b ∈ a :: A := fun b hb => List.mem_cons_of_mem _ hb
    refine ⟨a :: A, List.mem_cons_self .., fun b hb => ?_⟩
    rcases List.mem_cons.mp hb with e | m
    · rw [e]
      exact ⟨vs, line_of (by rw [wellAll_len hall]; exact Nat.le_trans (PySem.W.length_le_weightAllW ds) z2), fun u hu => (h1 u hu).mono k, .inl ho⟩
    · exact (h2 b m).mono k
  | .tuple ds, _, x, p, z => by
    obtain ⟨a, vs, rfl, ho, hall⟩ := well_tuple x
    have z2 : WData.weightAll ds ≤ 1048576 := z
    obtain ⟨A, h1, h2⟩ := area_all ds _ hall p fun d hd => Nat.le_trans (weight_mem hd) z2
    have k : ∀ b ∈ A, b ∈ a :: A := fun b hb => List.mem_cons_of_mem _ hb
    refine ⟨a :: A, List.mem_cons_self .., fun b hb => ?_⟩
    rcases List.mem_cons.mp hb with e | m
    · rw [e]
      exact ⟨vs, line_of (by rw [wellAll_len hall]; exact Nat.le_trans (PySem.W.length_le_weightAllW ds) z2), fun u hu => (h1 u hu).mono k, .inr ho⟩
    · exact (h2 b m).mono k
  | .float _, _, _, p, _ => Bool.noConfusion (show false = true from p)
  | .dict _, _, _, p, _ => Bool.noConfusion (show false = true from p)
  | .bytearray _, _, _, p, _ => Bool.noConfusion (show false = true from p)
  | .set _, _, _, p, _ => Bool.noConfusion (show false = true from p)
  | .frozenset _, _, _, p, _ => Bool.noConfusion (show false = true from p)
  | .obj _ _, _, _, p, _ => Bool.noConfusion (show false = true from p)
theorem area_all : ∀ (ds : List WData) (vs : List Value), WellAll P h vs ds → plWs ds = true → (∀ d ∈ ds, d.weight ≤ 1048576) → ∃ A : List Addr, (∀ u ∈ vs, OkU A u) ∧ ∀ a ∈ A, ArgOb h A a
  | [], _, x, _, _ => by
    cases x
    exact ⟨[], fun u m => absurd m (by simp), fun a m => absurd m (by simp)⟩
  | d :: ds, _, x, p, z => by
    obtain ⟨v, vs, rfl, x1, x2⟩ := well_cons x
    have q : plW d = true ∧ plWs ds = true := Bool.and_eq_true_iff.mp p
    obtain ⟨A, a1, a2⟩ := area_one d v x1 q.1 (z d (List.mem_cons_self ..))
    obtain ⟨B, b1, b2⟩ := area_all ds vs x2 q.2 fun e he => z e (List.mem_cons_of_mem _ he)
    have kA : ∀ b ∈ A, b ∈ A ++ B := fun b hb => List.mem_append.mpr (.inl hb)
    have kB : ∀ b ∈ B, b ∈ A ++ B := fun b hb => List.mem_append.mpr (.inr hb)
    refine ⟨A ++ B, fun u hu => ?_, fun b hb => ?_⟩
    · rcases List.mem_cons.mp hu with e | m
      · rw [e]
        exact a1.mono kA
      · exact (b1 u m).mono kB
    · rcases List.mem_append.mp hb with m | m
      · exact (a2 b m).mono kA
      · exact (b2 b m).mono kB
end
end
/-- what is tracked of an argument's object -/
def hoOf (o : Obj) : Option HO := match o.data with
  | .seq vs _ => if (o.cls == Value.type "list") = true then some (.frz o (.lst (vs.toList.map toV))) else some (.frz o (.tup (vs.toList.map toV)))
  | _ => none
def argH (K : PySem.W.Frag) (h : Heap) (A : List Addr) : Hp := fun b => if b ∈ A then (if (K.lookup b).isNone = true then (h.get? b).bind hoOf else none) else none
/-- nothing is tracked but what is known to the object -/
def OnlyF (H : Hp) : Prop := ∀ b, H b = none ∨ ∃ o u, H b = some (.frz o u)
theorem hoOf_lst (vs : List Value) : hoOf { cls := .type "list", data := .seq vs.toArray } = some (.frz { cls := .type "list", data := .seq vs.toArray } (.lst (vs.map toV))) := by
  show (if (Value.type "list" == Value.type "list") = true then some (HO.frz { cls := .type "list", data := .seq vs.toArray } (.lst (vs.toArray.toList.map toV))) else some (HO.frz { cls := .type "list", data := .seq vs.toArray } (.tup (vs.toArray.toList.map toV)))) = _
  rw [if_pos (beq_self_eq_true _)]
theorem hoOf_tup (vs : List Value) : hoOf { cls := .type "tuple", data := .seq vs.toArray } = some (.frz { cls := .type "tuple", data := .seq vs.toArray } (.tup (vs.map toV))) := by
  show (if (Value.type "tuple" == Value.type "list") = true then some (HO.frz { cls := .type "tuple", data := .seq vs.toArray } (.lst (vs.toArray.toList.map toV))) else some (HO.frz { cls := .type "tuple", data := .seq vs.toArray } (.tup (vs.toArray.toList.map toV)))) = _
  rw [if_neg (by decide)]
section
variable {P : Program} {w : World} {K : PySem.W.Frag} {h : Heap} {A : List Addr}
theorem argH_at {b : Addr} {o : Obj} (hb : b ∈ A) (hk : K.lookup b = none) (e : h.get? b = some o) : argH K h A b = hoOf o := by
  unfold argH
  rw [if_pos hb, hk, if_pos (show (none : Option Obj).isNone = true from rfl), e] <;> rfl
theorem of_argH {b : Addr} {u : HO} (q : argH K h A b = some u) : b ∈ A ∧ K.lookup b = none := by
  unfold argH at q
  by_cases hb : b ∈ A
  · rw [if_pos hb] at q
    cases hk : K.lookup b with
    | none => exact ⟨hb, rfl⟩
    | some o =>
      rw [hk, if_neg (by simp)] at q
      cases q
  · rw [if_neg hb] at q
    cases q
/-- what stands tracked -/
theorem argH_is (ar : ∀ a ∈ A, ArgOb h A a) {b : Addr} {u : HO} (q : argH K h A b = some u) : K.lookup b = none ∧ ∃ vs : List Value, vs.length ≤ sizeLine ∧ (∀ u ∈ vs, OkU A u) ∧
    ((h.get? b = some { cls := .type "list", data := .seq vs.toArray } ∧ u = .frz { cls := .type "list", data := .seq vs.toArray } (.lst (vs.map toV))) ∨
     (h.get? b = some { cls := .type "tuple", data := .seq vs.toArray } ∧ u = .frz { cls := .type "tuple", data := .seq vs.toArray } (.tup (vs.map toV)))) := by
  obtain ⟨hb, hk⟩ := of_argH q
  obtain ⟨vs, h1, h2, h3⟩ := ar b hb
  refine ⟨hk, vs, h1, h2, ?_⟩
  rcases h3 with e | e
  · rw [argH_at hb hk e, hoOf_lst] at q
    exact .inl ⟨e, (Option.some.inj q).symm⟩
  · rw [argH_at hb hk e, hoOf_tup] at q
    exact .inr ⟨e, (Option.some.inj q).symm⟩
theorem argH_only (ar : ∀ a ∈ A, ArgOb h A a) : OnlyF (argH K h A) := fun b => by
  cases q : argH K h A b with
  | none => exact .inl rfl
  | some u =>
    obtain ⟨_, vs, _, _, ⟨_, e⟩ | ⟨_, e⟩⟩ := argH_is ar q
    · exact .inr ⟨_, _, by rw [e]⟩
    · exact .inr ⟨_, _, by rw [e]⟩
theorem argH_ok (ar : ∀ a ∈ A, ArgOb h A a) : HOk P w (argH K h A) h := fun b u q => by
  obtain ⟨_, vs, h1, h2, ⟨e, rfl⟩ | ⟨e, rfl⟩⟩ := argH_is ar q
  · exact ⟨e, by rw [List.length_map]; exact h1, vs, _, vals_toV h2, e⟩
  · exact ⟨e, by rw [List.length_map]; exact h1, vs, vals_toV h2, _, e, rfl, _, rfl⟩
theorem seq_inj {c c' : Value} {vs us : List Value} (e : (some { cls := c, data := .seq vs.toArray } : Option Obj) = some { cls := c', data := .seq us.toArray }) : c = c' ∧ vs = us := by
  have e1 := Option.some.inj e
  have e2 : c = c' := congrArg Obj.cls e1
  have e3 : Data.seq vs.toArray = Data.seq us.toArray := congrArg Obj.data e1
  injection e3 with e4
  refine ⟨e2, ?_⟩
  have e5 := congrArg Array.toList e4
  simpa using e5
/-- a list argument -/
theorem argL (KX : K.In h) (ar : ∀ a ∈ A, ArgOb h A a) {a : Addr} {vs : List Value} (ha : a ∈ A) (e : h.get? a = some { cls := .type "list", data := .seq vs.toArray }) : (∀ u ∈ vs, OkU A u) ∧ SqL K (argH K h A) a (vs.map toV) := by
  obtain ⟨us, h1, h2, h3⟩ := ar a ha
  have hu : us = vs := by
    rcases h3 with q | q
    · rw [e] at q
      exact (seq_inj q).2.symm
    · rw [e] at q
      exact absurd (Value.type.inj (seq_inj q).1) (by decide)
  subst hu
  refine ⟨h2, ?_⟩
  cases hk : K.lookup a with
  | none => exact .inl (.inr ⟨_, by rw [argH_at ha hk e, hoOf_lst]⟩)
  | some o =>
    have e2 := KX a o hk
    rw [e] at e2
    obtain rfl := Option.some.inj e2
    exact .inr ⟨_, us.toArray, _, hk, rfl, rfl, rfl, by rw [List.size_toArray]; exact h1, by simpa using vals_toV h2⟩
theorem argT (KX : K.In h) (ar : ∀ a ∈ A, ArgOb h A a) {a : Addr} {vs : List Value} (ha : a ∈ A) (e : h.get? a = some { cls := .type "tuple", data := .seq vs.toArray }) : (∀ u ∈ vs, OkU A u) ∧ SqT K (argH K h A) a (vs.map toV) := by
  obtain ⟨us, h1, h2, h3⟩ := ar a ha
  have hu : us = vs := by
    rcases h3 with q | q
    · rw [e] at q
      exact absurd (Value.type.inj (seq_inj q).1) (by decide)
    · rw [e] at q
      exact (seq_inj q).2.symm
  subst hu
  refine ⟨h2, ?_⟩
  cases hk : K.lookup a with
  | none => exact .inl (.inr ⟨_, by rw [argH_at ha hk e, hoOf_tup]⟩)
  | some o =>
    have e2 := KX a o hk
    rw [e] at e2
    obtain rfl := Option.some.inj e2
    exact .inr ⟨_, us.toArray, _, hk, rfl, rfl, by rw [List.size_toArray]; exact h1, by simpa using vals_toV h2⟩
mutual
theorem dw_one {Pm : Params} (KX : K.In h) (ar : ∀ a ∈ A, ArgOb h A a) : ∀ (d : WData) (v : Value), Well Pm h v d → plW d = true → OkU A v → Dw K (argH K h A) (toV v) d
  | .none, _, x, _, _ => by
    cases x
    exact .non
  | .bool b, _, x, _, _ => by
    cases x
    exact .bl b
  | .int i, _, x, _, _ => by
    cases x
    exact .int i
  | .str s, _, x, _, _ => by
    cases x
    exact .str s
  | .bytes b, _, x, _, _ => by
    cases x
    have z := Dw.byt (K := K) (H := argH K h A) b.toArray
    exact z
  | .list ds, _, x, p, hu => by
    obtain ⟨a, vs, rfl, ho, hall⟩ := well_list x
    obtain ⟨h2, hs⟩ := argL KX ar hu ho
    exact .lst hs (dw_all KX ar ds _ hall p h2)
  | .tuple ds, _, x, p, hu => by
    obtain ⟨a, vs, rfl, ho, hall⟩ := well_tuple x
    obtain ⟨h2, hs⟩ := argT KX ar hu ho
    exact .tup hs (dw_all KX ar ds _ hall p h2)
  | .float _, _, _, p, _ => Bool.noConfusion (show false = true from p)
  | .dict _, _, _, p, _ => Bool.noConfusion (show false = true from p)
  | .bytearray _, _, _, p, _ => Bool.noConfusion (show false = true from p)
  | .set _, _, _, p, _ => Bool.noConfusion (show false = true from p)
  | .frozenset _, _, _, p, _ => Bool.noConfusion (show false = true from p)
  | .obj _ _, _, _, p, _ => Bool.noConfusion (show false = true from p)
theorem dw_all {Pm : Params} (KX : K.In h) (ar : ∀ a ∈ A, ArgOb h A a) : ∀ (ds : List WData) (vs : List Value), WellAll Pm h vs ds → plWs ds = true → (∀ u ∈ vs, OkU A u) → DwAll K (argH K h A) (vs.map toV) ds
  | [], _, x, _, _ => by
    cases x
    exact .nil
  | d :: ds, _, x, p, hu => by
    obtain ⟨v, vs, rfl, x1, x2⟩ := well_cons x
    have q : plW d = true ∧ plWs ds = true := Bool.and_eq_true_iff.mp p
    exact .cons (dw_one KX ar d v x1 q.1 (hu _ (List.mem_cons_self ..))) (dw_all KX ar ds vs x2 q.2 fun u m => hu u (List.mem_cons_of_mem _ m))
end
end
end L2
end

set_option Elab.async false
set_option maxRecDepth 100000
set_option maxHeartbeats 2000000
/-! Lambdas over the hand layer: the frame's cells are known for good while a function that closes over them is handed on; a lambda is made; it is called. -/
namespace L2
open PySem PySem.Spec PyProof.Rows
/-! ### things known for good, for a while -/
def kn : HO := .ext fun _ => True
def frzC (H : Hp) (O : Addr → Option Obj) : Hp := fun b => match O b with | some o => some (.frz o kn) | none => H b
def thaw (H : Hp) (O : Addr → Option Obj) : Hp := fun b => match O b with | some _ => none | none => H b
section
variable {H H' H2 : Hp} {O : Addr → Option Obj} {b : Addr} {o : Obj}
theorem frzC_at (e : O b = some o) : frzC H O b = some (.frz o kn) := by unfold frzC; rw [e]
theorem frzC_ne (e : O b = none) : frzC H O b = H b := by unfold frzC; rw [e]
theorem thaw_at (e : O b = some o) : thaw H O b = none := by unfold thaw; rw [e]
theorem thaw_ne (e : O b = none) : thaw H O b = H b := by unfold thaw; rw [e]
theorem same_frzC (h : ∀ b o, O b = some o → H b = none) : Same H (frzC H O) := fun b u e => by
  cases q : O b with
  | none => rw [frzC_ne q]; exact e
  | some o => rw [h b o q] at e; cases e
theorem same_thaw (h : ∀ b o, O b = some o → H b = none) (s : Same (frzC H O) H2) : Same H (thaw H2 O) := fun b u e => by
  cases q : O b with
  | none => rw [thaw_ne q]; exact s b u (by rw [frzC_ne q]; exact e)
  | some o => rw [h b o q] at e; cases e
theorem same_back (h : ∀ b o, O b = some o → H b = some (.frz o kn)) (s : Same (thaw H O) H2) : Same H (frzC H2 O) := fun b u e => by
  cases q : O b with
  | none => rw [frzC_ne q]; exact s b u (by rw [thaw_ne q]; exact e)
  | some o => rw [frzC_at q, ← h b o q]; exact e
theorem ObjOk.put {P : Program} {w : World} {h : Heap} {a : Addr} {u : HO} (x : ObjOk P w H h a u) (k : ∀ b v, H b = some v → H' b = some v) : ObjOk P w H' h a u :=
  x.stay (fun _ _ _ q => q) (fun b q => k b _ q) (fun b xs q => k b _ q) fun b o x q => k b _ q
theorem hok_frzC {P : Program} {w : World} {h : Heap} (x : HOk P w H h) (hn : ∀ b o, O b = some o → H b = none) (hg : ∀ b o, O b = some o → h.get? b = some o) : HOk P w (frzC H O) h := fun b u e => by
  cases q : O b with
  | none =>
    rw [frzC_ne q] at e
    exact (x b u e).put (same_frzC hn)
  | some o =>
    rw [frzC_at q] at e
    cases e
    exact ⟨hg b o q, trivial, ⟨o, hg b o q⟩, fun _ _ _ _ => trivial⟩
theorem hok_thaw {P : Program} {w : World} {h : Heap} (x : HOk P w H h) (hn : ∀ b o, O b = some o → H b = some (.frz o kn)) : HOk P w (thaw H O) h := fun b u e => by
  cases q : O b with
  | some o => rw [thaw_at q] at e; cases e
  | none =>
    rw [thaw_ne q] at e
    have keep : ∀ c v, H c = some v → (∀ o, v ≠ .frz o kn) → thaw H O c = some v := fun c v q2 n => by
      cases r : O c with
      | none => rw [thaw_ne r]; exact q2
      | some o => rw [hn c o r] at q2; cases q2; exact absurd rfl (n o)
    exact (x b u e).stay (fun _ _ _ q => q) (fun c q => keep c _ q fun _ z => nomatch z) (fun c xs q => keep c _ q fun _ z => nomatch z) fun c o x q => keep c _ q fun o z => by
      unfold kn at z
      injection z with _ z
      cases z
/-- what is frozen ahead of a call, and thawed behind it -/
theorem CE.thaw {outer : List Env} {P : Program} {w : World} {s s' : Shared} {Q : VK} {u : Value} (hn : ∀ b o, O b = some o → H b = none) (hg : ∀ b o, O b = some o → s.heap.get? b = some o) (hf : ∀ b o, O b = some o → b ∉ frs outer)
    (h : CE outer P w (frzC H O) s (fun v H2 => Q v (L2.thaw H2 O)) u s') : CE outer P w H s Q u s' := by
  obtain ⟨v, H2, os, bare, un, hok, r, q⟩ := h
  have at2 : ∀ b o, O b = some o → H2 b = some (.frz o kn) := fun b o e => un.frzs b o kn (frzC_at e)
  have none_of : ∀ b u, H b = some u → O b = none := fun b u e => by
    cases r : O b with
    | none => rfl
    | some o => rw [hn b o r] at e; cases e
  refine ⟨v, L2.thaw H2 O, os, bare, ⟨fun b o e n h1 h2 => ?_, fun b o e n h1 h2 => ?_, fun b o e n h1 => ?_, un.there, fun b xs e => ?_, fun b o u e => ?_, fun b ps e => ?_⟩, hok_thaw hok at2, r, q⟩
  · cases z : O b with
    | none => exact un.keep b o e (by rw [frzC_ne z]; exact n) h1 h2
    | some ob =>
      obtain ⟨e2, _⟩ := hok b _ (at2 b ob z)
      rw [hg b ob z] at e
      cases e
      exact e2
  · cases z : O b with
    | none => exact un.slot b o e (by rw [frzC_ne z]; exact n) h1 h2
    | some ob => exact absurd h1 (hf b ob z)
  · cases z : O b with
    | none => rw [thaw_ne z]; exact un.free b o e (by rw [frzC_ne z]; exact n) h1
    | some ob => exact thaw_at z
  · rw [thaw_ne (none_of b _ e)]
    exact un.tups b xs (by rw [frzC_ne (none_of b _ e)]; exact e)
  · rw [thaw_ne (none_of b _ e)]
    exact un.frzs b o u (by rw [frzC_ne (none_of b _ e)]; exact e)
  · rw [thaw_ne (none_of b _ e)]
    exact un.tbls b ps (by rw [frzC_ne (none_of b _ e)]; exact e)
theorem Env0.frz {P : Program} {w : World} {K : PySem.W.Frag} {mg : Str → Option Value} {base : Heap} {A : Around} {outer : List Env} {s : Shared} (e : Env0 P w K mg base A outer s H) (hn : ∀ b o, O b = some o → H b = none) (hg : ∀ b o, O b = some o → s.heap.get? b = some o)
    (hf : ∀ b o, O b = some o → b ∉ frs outer) (hb : ∀ b o, O b = some o → base.get? b = none) : Env0 P w K mg base A outer s (frzC H O) := by
  refine ⟨e.frames, e.mod, fun b o q => ⟨(e.bs b o q).1, ?_⟩, e.bsz, e.funs, fun b q => ?_, hok_frzC e.hok hn hg, e.bare, fun c P h1 h2 => ?_⟩
  · cases z : O b with
    | none => rw [frzC_ne z]; exact (e.bs b o q).2
    | some ob => rw [hb b ob z] at q; cases q
  · cases z : O b with
    | none => rw [frzC_ne z]; exact e.frf b q
    | some ob => exact absurd q (hf b ob z)
  · obtain ⟨ps, q⟩ := e.tb c P h1 h2
    exact ⟨ps, same_frzC hn P _ q⟩
end
/-! ### the frame's cells -/
/-- the cells of this frame as they stand -/
structure Froz (X : Cx) (σ : St) (H : Hp) (O : Addr → Option Obj) : Prop where
  cel : ∀ b o, O b = some o → ∃ x, X.env.cells.lookup x = some b
  val : ∀ x c, X.env.cells.lookup x = some c → ∃ o v, O c = some o ∧ o.data = .cell v
  is_ : ∀ (x : Str) (c : Addr) (i : Nat) (v : V), X.env.cells.lookup x = some c → X.N[i]? = some x → σ[i]? = some (some v) → (X.env.kindOf x = some .cell ∨ X.env.kindOf x = some .free) → ∃ o u, O c = some o ∧ o.data = .cell (some u) ∧ RelV v u
  off : ∀ b o, O b = some o → H b = none
  inj : ∀ x y c, X.env.cells.lookup x = some c → X.env.cells.lookup y = some c → x = y
  has : ∀ x, (X.env.kindOf x = some .cell ∨ X.env.kindOf x = some .free) → ∃ c, X.env.cells.lookup x = some c
def cellO (X : Cx) (h : Heap) : Addr → Option Obj := fun b => if (X.env.cells.any fun p => decide (X.env.cells.lookup p.1 = some b)) = true then h.get? b else none
section
variable {X : Cx} {pins : List (Addr × Obj)} {σ : St} {H : Hp} {s s' : Shared}
theorem cellO_at {x : Str} {c : Addr} {h : Heap} (e : X.env.cells.lookup x = some c) : cellO X h c = h.get? c := by
  unfold cellO
  have m := PySem.mem_of_lookup e
  exact if_pos (List.any_eq_true.mpr ⟨(x, c), m, decide_eq_true e⟩)
theorem of_cellO {b : Addr} {h : Heap} {o : Obj} (e : cellO X h b = some o) : (∃ x, X.env.cells.lookup x = some b) ∧ h.get? b = some o := by
  unfold cellO at e
  split at e
  · rename_i q
    obtain ⟨p, _, q2⟩ := List.any_eq_true.mp q
    exact ⟨⟨p.1, of_decide_eq_true q2⟩, e⟩
  · cases e
theorem Inv.froz (I : Inv X pins σ H s) : Froz X σ H (cellO X s.heap) where
  cel := fun b o e => (of_cellO e).1
  val := fun x c e => by
    obtain ⟨v, o, ho, hd⟩ := I.cell x c e
    exact ⟨o, v, by rw [cellO_at e]; exact ho, hd⟩
  is_ := fun x c i v e hN hs hk => by
    obtain ⟨m, hn, hl⟩ := I.loc
    obtain ⟨u, r, l⟩ := hl i x v hN hs (.inr hk)
    rcases l with ⟨h1, _⟩ | ⟨_, c', h2, o, ho, hd⟩
    · rcases hk with hk | hk <;> (rw [hk] at h1; cases h1)
    · rw [e] at h2
      cases h2
      exact ⟨o, u, by rw [cellO_at e]; exact ho, hd, r⟩
  off := fun b o e => by
    obtain ⟨⟨x, h1⟩, _⟩ := of_cellO e
    exact I.freeC x b h1
  inj := I.ok.inj
  has := I.ok.has
theorem Inv.cellNot (I : Inv X pins σ H s) (hfn : ∀ x, X.fn x = true) {b : Addr} {x : Str} (e : X.env.cells.lookup x = some b) : b ∉ frs X.stack ∧ X.base.get? b = none := by
  have h1 := I.ok.cab x b (hfn x) e
  refine ⟨fun m => ?_, Heap.get?_none_of_le (Nat.le_trans I.ok.bsz h1)⟩
  rcases List.mem_cons.mp (I.stkSub b m) with q | q
  · exact I.cne x b e q
  · obtain ⟨_, o, ho, _⟩ := I.ok.funs.mem q
    exact absurd (Nat.lt_of_lt_of_le (Heap.lt_size ho) h1) (Nat.lt_irrefl _)
theorem Inv.env0F (I : Inv X pins σ H s) (hfn : ∀ x, X.fn x = true) : Env0 X.prog X.w X.K X.mg X.base X.A X.stack s (frzC H (cellO X s.heap)) :=
  I.env0.frz I.froz.off (fun b o e => (of_cellO e).2) (fun b o e => let ⟨⟨x, h1⟩, _⟩ := of_cellO e; (I.cellNot hfn h1).1) fun b o e => let ⟨⟨x, h1⟩, _⟩ := of_cellO e; (I.cellNot hfn h1).2
theorem Inv.afterF {Q : VK} {u : Value} (I : Inv X pins σ H s) (hfn : ∀ x, X.fn x = true) (h : CE X.stack X.prog X.w (frzC H (cellO X s.heap)) s (fun v H2 => Q v (thaw H2 (cellO X s.heap))) u s') : EP X pins σ Q u s' :=
  I.after (CE.thaw I.froz.off (fun b o e => (of_cellO e).2) (fun b o e => let ⟨⟨x, h1⟩, _⟩ := of_cellO e; (I.cellNot hfn h1).1) h)
end
/-- f(..), the frame's cells known for good while f runs -/
def tCallF (X : Cx) (sp : Sp) (t : TA) : TE := fun σ H Q => t σ H fun vs H1 => ∀ O, Froz X σ H1 O → sp vs (frzC H1 O) (fun v H2 => Q v (thaw H2 O)) E0
section
variable {X : Cx} {k : Nat} {f : Addr} {fd : FuncData} {ps : List Str} {sp : Sp} {x : Str} {p pos : Pos} {e : Expr} {es : List Expr} {t : TA}
theorem run_fnF {pins : List (Addr × Obj)} {σ : St} {H : Hp} {s : Shared} {Q : VK} {us : List Value} {vs : List V} (F : FnOk X.prog X.w X.K X.mg X.base CX0 k f fd ps sp) (hr : Room k X.A) (hb : Binds X.K fd ps []) (hfn : ∀ x, X.fn x = true)
    (I : Inv X pins σ H s) (r : Vals vs us) (h : ∀ O, Froz X σ H O → sp vs (frzC H O) (fun v H2 => Q v (thaw H2 O)) E0) : wpAny (model X.prog X.w) X.A (call (.ref f) us) (EP X pins σ Q) X.xe s := by
  have z := h _ I.froz
  have hl : us.length = ps.length := by rw [← r.length]; exact F.len _ _ _ _ z
  have hb' := hb s us I.kIn (by rw [List.append_nil]; exact hl)
  rw [List.append_nil] at hb'
  refine wpAny_call (codeAny_mono (F.run X.A X.stack s _ ⟨us, []⟩ us vs _ E0 hr (I.env0F hfn) hb' r z) fun r s' hq => ?_)
  cases r with
  | error e => exact hq.elim
  | ok fl =>
    cases fl with
    | ret u => exact I.afterF hfn hq
    | next => exact False.elim hq
    | brk => exact False.elim hq
    | cont => exact False.elim hq
theorem pe_callF (F : FnOk X.prog X.w X.K X.mg X.base CX0 k f fd ps sp) (hr : Room k X.A) (hfn : ∀ x, X.fn x = true) (hg : Gl X x) (hm : X.mg x = some (.ref f)) (hk : PySem.W.keepIn X.K (.ref f) = true) (hb : Binds X.K fd ps [])
    (ha : PA X (e :: es) t) (hdb : (x == ("__debug__" : Str)) = false := by decide) (he : starEach (e :: es) X.env = (false, eval e X.env) :: starEach es X.env := by rfl) (hpl : (backTo pos (starEach es X.env)).any (·.1) = false := by rfl) :
    PE X (.Call (.Name x p) (e :: es) [] pos) (tCallF X sp t) := by
  intro pins s σ H Q I h
  refine wpAny_Call_Name_kw (ld_glob I hg hm ?_ hdb)
  refine PySem.W.callWith_K (h₀ := X.base) I.ok.mod.kin hk (thn (ha pos pins s σ H _ I h) fun us s1 ⟨vs, H1, I1, r, q⟩ => ⟨I1.kIn, ?_⟩) he hpl
  exact run_fnF F hr hb hfn I1 r q
end
/-! ### a lambda is made -/
theorem codeAmong_grown {pos pos' : Pos} {c c2 : Value} (l : List Value) (h : TriplesOk l) (e : codeAmong pos' (l ++ [rawInt pos.line, rawInt pos.col, c]) = some c2) : codeAmong pos' l = some c2 ∨ (pos'.line = pos.line ∧ c2 = c) := by
  fun_induction TriplesOk l with
  | case1 =>
    simp only [List.nil_append, codeAmong, rawInt] at e
    split at e
    · rename_i q
      rw [Bool.and_eq_true] at q
      have q1 := beq_iff_eq.mp q.1
      cases e
      exact .inr ⟨by have : ((pos.line : Nat) : Int) = ((pos'.line : Nat) : Int) := q1; omega, rfl⟩
    · cases e
  | case2 a t b u x rest ih =>
    simp only [List.cons_append, codeAmong] at e ⊢
    split at e
    · rename_i q
      rw [if_pos q]
      exact .inl e
    · rename_i q
      rw [if_neg q]
      exact ih h e
  | case3 l h1 h2 => exact h.elim
abbrev lamO (qual : Str) (params : Arguments) (body : Expr) (scope : Scope) (cl : List (Str × Addr)) (pm : Value) (c' : Addr) (ctv : Value) : Obj := PySem.W.kla_obj "<lambda>" qual params body scope cl pm c' ctv
/-- the function that a lambda makes: its object, its code -/
structure LamO (H : Hp) (qual : Str) (params : Arguments) (body : Expr) (scope : Scope) (cl : List (Str × Addr)) (f : Addr) : Prop where
  ex : ∃ pm c' ctv oc vs t, H f = some (.frz (lamO qual params body scope cl pm c' ctv) kn) ∧ H c' = some (.frz oc (.own c')) ∧ oc.data = .fields vs ∧ vs[1]? = some (.str qual t)
theorem LamO.mono {H H' : Hp} {qual : Str} {params : Arguments} {body : Expr} {scope : Scope} {cl : List (Str × Addr)} {f : Addr} (x : LamO H qual params body scope cl f) (s : Same H H') : LamO H' qual params body scope cl f := by
  obtain ⟨pm, c', ctv, oc, vs, t, h1, h2, h3⟩ := x.ex
  exact ⟨pm, c', ctv, oc, vs, t, s _ _ h1, s _ _ h2, h3⟩
def tLam (X : Cx) (params : Arguments) (body : Expr) (scope : Scope) : TE := fun σ H Q => ∀ f H', Same H H' → LamO H' (X.env.qual ++ "<lambda>") params body scope (cloFrom X.env.cells scope.names []) f → Q (.ref f) H'
theorem pe_lam {X : Cx} {params : Arguments} {body : Expr} {scope : Scope} {lpos : Pos} {c P : Addr} (hK : PySem.W.codeHdIn X.K c P = true) (hP : X.base.get? P = none) (hcode : X.env.code = .ref c) (hq : X.env.qual ++ "<lambda>" = lamQ lpos.line)
    (hfree : ∀ y ∈ scope.names, y.2 = .free → X.env.kindOf y.1 = some .cell ∨ X.env.kindOf y.1 = some .free) (hdef : PySem.defaultsOf params X.env = ([], []) := by rfl) : PE X (.Lambda params body scope lpos) (tLam X params body scope) := by
  intro pins s σ H Q I h
  refine PySem.W.kla_eval hdef ?_
  obtain ⟨ps0, eP⟩ := I.tb c P hK hP
  obtain ⟨ps, hPo, tr, am⟩ := I.hok P _ eP
  have C := PySem.W.codeHd_of_K I.kIn hK
  have hcl : closureFor scope X.env = pure (cloFrom X.env.cells scope.names []) := closure_ok fun y m e => I.ok.has y.1 (hfree y m e)
  have hns : s.heap.Ns mainGlobals X.mg := I.ok.mod.glob.keeps I.bk
  obtain ⟨bm, ob, b1, b2, b3, b4, b5, b6⟩ := I.ok.mod.bm
  have nP : ∀ b, H b = none → b ≠ P := fun b n z => by rw [z, eP] at n; cases n
  have bgl : H mainGlobals = none := by
    obtain ⟨o, es, ep, e, _⟩ := I.ok.mod.glob
    exact (I.bs _ _ e).2
  have bbm : H bm = none := (I.bs _ _ b3).2
  have hbG : bm ≠ mainGlobals := fun q => by
    obtain ⟨o, es, ep, e, hd, _⟩ := I.ok.mod.glob
    rw [q, e] at b3; cases b3; rw [hd] at b6; cases b6
  have hbt : s.heap.BuiltinsAt X.mg P := ⟨bm, ob, b1, b2, hbG, nP bm bbm, I.bk _ _ b3, b4, b5, b6⟩
  cases hf : codeAmong lpos ps.toList with
  | some cv =>
    obtain ⟨c', oc, vs, t, rfl, e1, e2, e3⟩ := am lpos cv hf
    refine PySem.W.kla_makeFunctionHit (mg := X.mg) hcl I.ok.glob hns hcode C hPo tr hf hbt fun ctv h' tk hk hsz => ?_
    have hpu : ∀ b o, s.heap.get? b = some o → (h'.push (lamO (X.env.qual ++ "<lambda>") params body scope (cloFrom X.env.cells scope.names []) ((X.mg "__name__").getD .none) c' ctv)).get? b = some o := fun b o e => Heap.get?_push_of_some _ (hk b o e)
    have hn : H h'.objs.size = none := I.hok.fresh hsz
    have I2 := I.laid (a := h'.objs.size) (o := .frz (lamO (X.env.qual ++ "<lambda>") params body scope (cloFrom X.env.cells scope.names []) ((X.mg "__name__").getD .none) c' ctv) kn) (t' := tk) hpu hsz
      ⟨Heap.get?_push_size _ rfl, trivial, ⟨_, Heap.get?_push_size _ rfl⟩, fun _ _ _ _ => trivial⟩
    refine ⟨.ref h'.objs.size, _, I2, rfl, h _ _ (fun b u e => by rw [upd_ne (ne_of_none e hn)]; exact e) ⟨_, c', ctv, oc, vs, t, upd_same, ?_, e2, ?_⟩⟩
    · rw [upd_ne (ne_of_none e1 hn)]; exact e1
    · rw [hq]; exact e3
  | none =>
    refine PySem.W.kla_makeFunction (mg := X.mg) hcl I.ok.glob hns hcode C hPo tr hf (nP _ bgl) hbt fun c' ctv h' tk hx hge hlt hrec htb => ?_
    obtain ⟨c2, oc, vs, t, e0, hoc, hd, hv⟩ := hrec
    cases e0
    have hsz : s.heap.objs.size ≤ h'.objs.size := Nat.le_trans hge (Nat.le_of_lt hlt)
    have hnf : H h'.objs.size = none := I.hok.fresh hsz
    have hnc : H c' = none := I.hok.fresh hge
    have ncf : c' ≠ h'.objs.size := Nat.ne_of_lt hlt
    have hfr : (lamO (X.env.qual ++ "<lambda>") params body scope (cloFrom X.env.cells scope.names []) ((X.mg "__name__").getD .none) c' ctv).isFreed = false := rfl
    generalize hfo : lamO (X.env.qual ++ "<lambda>") params body scope (cloFrom X.env.cells scope.names []) ((X.mg "__name__").getD .none) c' ctv = fo at hfr
    have S : Same H (upd (upd H c' (.frz oc (.own c'))) h'.objs.size (.frz fo kn)) := fun b u e => by rw [upd_ne (ne_of_none e hnf), upd_ne (ne_of_none e hnc)]; exact e
    have hc1 : (upd (upd H c' (.frz oc (.own c'))) h'.objs.size (.frz fo kn)) c' = some (.frz oc (.own c')) := by rw [upd_ne ncf, upd_same]
    have kp : ∀ b o, b ≠ P → s.heap.get? b = some o → (h'.push fo).get? b = some o := fun b o n e => Heap.get?_push_of_some _ (hx b o n e)
    have I2 : Inv X pins σ (upd (upd H c' (.frz oc (.own c'))) h'.objs.size (.frz fo kn)) { s with heap := h'.push fo, toks := tk } := by
      refine I.step (g' := s.gens) (d' := s.drawn) (ch := []) (fun _ z => nomatch z) (fun b o _ _ _ e n => kp b o (nP b n) e) (fun b o _ _ _ e n => ⟨o.slots, kp b o (nP b n) e⟩) (fun b o _ e n => ?_) (fun b o _ e => ?_) (fun b xs e => S _ _ e) (fun b o u e => S _ _ e) (fun b qs e => ⟨#[], by rw [S _ _ e]; simp⟩) (fun m hm => ?_) (fun b u e => ?_) I.bare
      · have l1 := Heap.lt_size e
        rw [upd_ne (Nat.ne_of_lt (Nat.lt_of_lt_of_le l1 hsz)), upd_ne (Nat.ne_of_lt (Nat.lt_of_lt_of_le l1 hge))]; exact n
      · by_cases hb : b = P
        · rw [hb]; exact ⟨_, Heap.get?_push_of_some _ htb⟩
        · exact ⟨o, kp b o hb e⟩
      · obtain ⟨o, es, ep, ho, r⟩ := hm
        exact ⟨o, es, ep, kp _ o (nP _ I.free) ho, r⟩
      · by_cases b1 : b = h'.objs.size
        · rw [b1, upd_same] at e
          cases e
          rw [b1]
          exact ⟨Heap.get?_push_size _ hfr, trivial, ⟨_, Heap.get?_push_size _ hfr⟩, fun _ _ _ _ => trivial⟩
        · rw [upd_ne b1] at e
          by_cases b2 : b = c'
          · rw [b2, upd_same] at e
            cases e
            rw [b2]
            exact ⟨Heap.get?_push_of_some _ hoc, oc, Heap.get?_push_of_some _ hoc⟩
          · rw [upd_ne b2] at e
            by_cases b3 : b = P
            · rw [b3, eP] at e
              cases e
              rw [b3]
              refine ⟨_, Heap.get?_push_of_some _ htb, ?_, fun pos' c2 e2 => ?_⟩
              · have z := TriplesOk_snoc (lpos.line : Nat) (lpos.col : Nat) (.ref c') ps.toList tr
                simpa using z
              · have e2 : codeAmong pos' (ps.toList ++ [rawInt lpos.line, rawInt lpos.col, .ref c']) = some c2 := by simpa using e2
                rcases codeAmong_grown ps.toList tr e2 with q | ⟨q, rfl⟩
                · obtain ⟨c3, oc3, vs3, t3, g1, g2, g3⟩ := am pos' c2 q
                  exact ⟨c3, oc3, vs3, t3, g1, S _ _ g2, g3⟩
                · exact ⟨c', oc, vs, t, rfl, hc1, hd, by rw [q, ← hq]; exact hv⟩
            · refine (I.hok b u e).stay (fun c3 v hc q => kp c3 v ?_ q) (fun c q => S _ _ q) (fun c xs q => S _ _ q) fun c o x q => S _ _ q
              rcases hc with rfl | hc
              · exact b3
              · intro z
                rw [z, eP] at hc
                cases hc
    subst hfo
    exact ⟨.ref h'.objs.size, _, I2, rfl, h _ _ S ⟨_, c', ctv, oc, vs, t, upd_same, hc1, hd, hv⟩⟩
/-! ### a lambda is called -/
def lamCx (P : Program) (w : World) (K : PySem.W.Frag) (mg : Str → Option Value) (base : Heap) (N : List Str) (qual : Str) (scope : Scope) (f : Addr) (cd : Value) (cl : List (Str × Addr)) (A : Around) (outer : List Env) (s : Shared) (H : Hp) : Cx where
  prog := P
  w := w
  K := K
  mg := mg
  base := base
  A := A.deeper (PySem.W.envX qual scope s.heap.objs.size f cd cl)
  N := N
  s_0 := s
  H_0 := H
  env := PySem.W.envX qual scope s.heap.objs.size f cd cl
  outer := outer
  stack := PySem.W.envX qual scope s.heap.objs.size f cd cl :: outer
  ex := []
  calm := true
  fn := fun _ => false
  pn := []
  xe := fun _ _ => False
/-- a lambda's scope: one parameter, no cells of its own -/
structure LamSc (y : Str) (scope : Scope) : Prop where
  kind : scope.kind = .function
  co : scope.isCoroutine = false
  gen : scope.isGenerator = false
  nc : ∀ x ∈ scope.names, x.2 ≠ .cell
  par : scope.names.lookup y = some .local
/-- what the names stand for that a lambda closes over -/
structure Clos (O : Addr → Option Obj) (scope : Scope) (cl : List (Str × Addr)) (fs : List Str) (vals : List V) : Prop where
  len : vals.length = fs.length
  val : ∀ (j : Nat) (x : Str) (v : V), fs[j]? = some x → vals[j]? = some v → scope.names.lookup x = some .free ∧ ∃ c o u, cl.lookup x = some c ∧ O c = some o ∧ o.data = .cell (some u) ∧ RelV v u
  cel : ∀ x c, cl.lookup x = some c → ∃ o v, O c = some o ∧ o.data = .cell v
  inj : ∀ x z c, cl.lookup x = some c → cl.lookup z = some c → x = z
  has : ∀ x, scope.names.lookup x = some .free → ∃ c, cl.lookup x = some c
theorem lam_run {P : Program} {w : World} {K : PySem.W.Frag} {mg : Str → Option Value} {base : Heap} {k : Nat} {qual : Str} {params : Arguments} {body : Expr} {scope : Scope} {cl : List (Str × Addr)} {y : Str} {fs : List Str} {vals : List V} {f : Addr} {H : Hp} {O : Addr → Option Obj}
    {A : Around} {outer : List Env} {s : Shared} {v : V} {u : Value} {Q : VK} (L : LamO H qual params body scope cl f) (hO : ∀ b o, O b = some o → H b = some (.frz o kn)) (C : Clos O scope cl fs vals) (S : LamSc y scope)
    (hbind : ∀ pm c' ctv u, bindArgs (PySem.W.kla_fn "<lambda>" qual params body scope cl pm (.ref c') ctv) ⟨[u], []⟩ = pure [(y, u)]) (hr : Room (k + 1) A) (e0 : Env0 P w K mg base A outer s H) (rv : RelV v u)
    (hbody : ∀ cd, Room k (A.deeper (PySem.W.envX qual scope s.heap.objs.size f cd cl)) → ∃ t, PE (lamCx P w K mg base (y :: fs) qual scope f cd cl A outer s (thaw H O)) body t ∧ t (some v :: vals.map some) (thaw H O) (fun r H2 => (∀ b o, O b = some o → H2 b = none) → Q r (frzC H2 O))) :
    codeAny (model P w) A (.call (.ref f) ⟨[u], []⟩) (CR CX0 outer P w H s Q E0) s := by
  obtain ⟨pm, c', ctv, oc, vs, t, h1, h2, h3, h4⟩ := L.ex
  have g1 := (e0.hok f _ h1).1
  have g2 := (e0.hok c' _ h2).1
  have lim : s.heap.NoLimit := e0.mod.nolimit.keeps fun b o e => (e0.bs b o e).1
  refine PySem.W.kla_callFunE hr.depth g1 rfl S.co S.gen rfl ⟨c', oc, vs, t, rfl, g2, h3, h4⟩ ?_
  show wpAny (model P w) A.in1 (bindArgs (PySem.W.kla_fn "<lambda>" qual params body scope cl pm (.ref c') ctv) ⟨[u], []⟩) _ _ s
  rw [hbind]
  refine wpAny_pure (wpAny_newFunctionEnv S.nc (fun x hx => by rw [List.mem_singleton.mp hx]; exact S.par) (fun h₁ hns hsb => ⟨lim.fresh _ hsb, ?_⟩) S.kind)
  show codeAny _ _ (.expr body (PySem.W.envX qual scope s.heap.objs.size f (.ref c') cl)) _ _
  obtain ⟨t, ht, hq⟩ := hbody (.ref c') (hr.deeper _)
  have hk₁ : ∀ b o, s.heap.get? b = some o → h₁.get? b = some o := fun b o e => hsb.extBut b o (Nat.ne_of_lt (Heap.lt_size e)) (Heap.get?_push_of_some _ e)
  have hgO : ∀ b o, O b = some o → s.heap.get? b = some o := fun b o e => (e0.hok b _ (hO b o e)).1
  have tn : ∀ b, H b = none → thaw H O b = none := fun b n => by
    cases z : O b with
    | none => rw [thaw_ne z]; exact n
    | some o => exact thaw_at z
  have nO : ∀ b, H b = none → O b = none := fun b n => by
    cases z : O b with
    | none => rfl
    | some o => rw [hO b o z] at n; cases n
  have I : Inv (lamCx P w K mg base (y :: fs) qual scope f (.ref c') cl A outer s (thaw H O)) [] (some v :: vals.map some) (thaw H O) { s with heap := h₁, toks := s.toks + [(y, u)].length } := by
    have noA : ∀ b : Addr, b ∉ (lamCx P w K mg base (y :: fs) qual scope f (.ref c') cl A outer s (thaw H O)).ex := fun b z => absurd (show b ∈ ([] : List Addr) from z) (by simp)
    refine ⟨⟨e0.mod, S.kind, rfl, rfl, Nat.le_refl _, fun x z c => C.inj x z c, fun x hx => ?_, fun x c z => absurd z (by show ¬ (false = true); simp), fun _ => hr.hd, Around.frames_deeper e0.frames, .inr ⟨rfl, rfl⟩, fun b z => absurd z (noA b), fun b o e => ⟨(e0.bs b o e).1, tn b (e0.bs b o e).2⟩, e0.bsz, fun b _ _ => noA b, fun b z => absurd z (noA b), e0.funs, fun b z => tn b (e0.frf b z), fun c P q1 q2 => ?_⟩,
      rfl, e0.bare, Un.kept hk₁, ⟨_, hns, fun i x w' q1 q2 q3 => ?_⟩, fun x c e => ?_, tn _ (e0.hok.fresh (Nat.le_refl _)), fun x c e => ?_, fun p hp => absurd (show p ∈ ([] : List (Addr × Obj)) from hp) (by simp), (hok_thaw e0.hok hO).kept hk₁, ?_⟩
    · have hx : scope.names.lookup x = some .cell ∨ scope.names.lookup x = some .free := hx
      rcases hx with hx | hx
      · exact absurd rfl (S.nc _ (PySem.mem_of_lookup hx))
      · exact C.has x hx
    · obtain ⟨ps, e⟩ := e0.tb c P q1 q2
      refine ⟨ps, ?_⟩
      cases z : O P with
      | none => exact (thaw_ne z).trans e
      | some o => rw [hO P o z] at e; cases e
    · cases i with
      | zero =>
        have q1 : y = x := Option.some.inj q1
        have q2 : v = w' := Option.some.inj (Option.some.inj q2)
        subst q1 q2
        exact ⟨u, rv, .inl ⟨S.par, by simp⟩⟩
      | succ j =>
        have q1 : fs[j]? = some x := q1
        have q2 : (vals.map some)[j]? = some (some w') := q2
        rw [List.getElem?_map] at q2
        cases e : vals[j]? with
        | none => rw [e] at q2; cases q2
        | some w2 =>
          rw [e] at q2
          cases q2
          obtain ⟨hf, c, o, u2, d1, d2, d3, d4⟩ := C.val j x w' q1 e
          exact ⟨u2, d4, .inr ⟨.inr hf, c, d1, o, hk₁ _ _ (hgO c o d2), d3⟩⟩
    · obtain ⟨o, v', d1, d2⟩ := C.cel x c e
      exact ⟨v', o, hk₁ _ _ (hgO c o d1), d2⟩
    · obtain ⟨o, v', d1, d2⟩ := C.cel x c e
      exact thaw_at d1
    · show (some v :: vals.map some).length = (y :: fs).length
      rw [List.length_cons, List.length_cons, List.length_map, C.len]
  refine PySem.W.kla_codeExpr (wpAny_mono (ht [] _ _ _ _ I hq) (fun r s' hs => ?_) fun e s' hs => False.elim hs)
  obtain ⟨r', H', J, rr, q⟩ := hs
  have J0 : Un (frs outer) [] (thaw H O) H' s.heap s'.heap := J.base
  have fO : ∀ b o, O b = some o → b ∉ frs outer := fun b o e m => by
    have z := e0.frf b m
    rw [hO b o e] at z
    cases z
  have gO : ∀ b o, O b = some o → s'.heap.get? b = some o := fun b o e => J0.keep b o (hgO b o e) (thaw_at e) (fO b o e) (by simp)
  have zO : ∀ b o, O b = some o → H' b = none := fun b o e => J0.free b o (hgO b o e) (thaw_at e) (by simp)
  have back : ∀ b u, H b = some u → O b = none → thaw H O b = some u := fun b u e z => (thaw_ne z).trans e
  refine ⟨r', frzC H' O, J.os, J.bare, ⟨fun b o e n h5 h6 => J0.keep b o e (tn b n) h5 h6, fun b o e n h5 h6 => J0.slot b o e (tn b n) h5 h6, fun b o e n h5 => ?_, J0.there, fun b xs e => ?_, fun b o w' e => ?_, fun b ps e => ?_⟩, hok_frzC J.hok zO gO, rr, q zO⟩
  · rw [frzC_ne (nO b n)]; exact J0.free b o e (tn b n) h5
  · cases z : O b with
    | none => rw [frzC_ne z]; exact J0.tups b xs (back b _ e z)
    | some o => rw [hO b o z] at e; cases e
  · cases z : O b with
    | none => rw [frzC_ne z]; exact J0.frzs b o w' (back b _ e z)
    | some o2 => rw [hO b o2 z] at e; cases e; exact frzC_at z
  · cases z : O b with
    | none => rw [frzC_ne z]; exact J0.tbls b ps (back b _ e z)
    | some o => rw [hO b o z] at e; cases e
/-- the function at f gives, for what D lets, what R tells -/
def LamAt (P : Program) (w : World) (K : PySem.W.Frag) (mg : Str → Option Value) (base : Heap) (k : Nat) (f : Addr) (D : V → Prop) (R : V → V → Hp → Prop) (H : Hp) : Prop :=
  (∃ o fd, H f = some (.frz o kn) ∧ o.data = .func fd) ∧ ∀ (A : Around) (outer : List Env) (s : Shared) (v : V) (u : Value) (Q : VK), Room k A → Env0 P w K mg base A outer s H → RelV v u → D v → (∀ r H2, Same H H2 → R v r H2 → Q r H2) →
    codeAny (model P w) A (.call (.ref f) ⟨[u], []⟩) (CR CX0 outer P w H s Q E0) s
theorem lam_at {P : Program} {w : World} {K : PySem.W.Frag} {mg : Str → Option Value} {base : Heap} {k : Nat} {qual : Str} {params : Arguments} {body : Expr} {scope : Scope} {cl : List (Str × Addr)} {y : Str} {fs : List Str} {vals : List V} {f : Addr} {H : Hp} {O : Addr → Option Obj} {D : V → Prop} {R : V → V → Hp → Prop}
    (L : LamO H qual params body scope cl f) (hO : ∀ b o, O b = some o → H b = some (.frz o kn)) (C : Clos O scope cl fs vals) (S : LamSc y scope)
    (hbind : ∀ pm c' ctv u, bindArgs (PySem.W.kla_fn "<lambda>" qual params body scope cl pm (.ref c') ctv) ⟨[u], []⟩ = pure [(y, u)])
    (hbody : ∀ (A : Around) (outer : List Env) (s : Shared) (v : V) (cd : Value) (Q : VK), Room k (A.deeper (PySem.W.envX qual scope s.heap.objs.size f cd cl)) → D v → (∀ r H2, Same (thaw H O) H2 → ((∀ b o, O b = some o → H2 b = none) → R v r (frzC H2 O)) → Q r H2) →
      ∃ t, PE (lamCx P w K mg base (y :: fs) qual scope f cd cl A outer s (thaw H O)) body t ∧ t (some v :: vals.map some) (thaw H O) Q) : LamAt P w K mg base (k + 1) f D R H := by
  refine ⟨?_, fun A outer s v u Q hr e0 rv d q => lam_run L hO C S hbind hr e0 rv fun cd hr2 => hbody A outer s v cd _ hr2 d fun r H2 s2 r2 z => q r _ (same_back hO s2) (r2 z)⟩
  obtain ⟨pm, c', ctv, oc, vs, t, h1, _⟩ := L.ex
  exact ⟨_, _, h1, rfl⟩
/-- f(e), f at a local name -/
theorem pe_lamV {X : Cx} {k : Nat} {x : Str} {e : Expr} {te' : TA} {p pos : Pos} (i : Nat) (hr : Room k X.A) (ha : PA X [e] te') (hN : X.N[i]? = some x := by rfl)
    (hv : Vis X.env.scope x := by first | exact Or.inl rfl | exact Or.inr (Or.inl rfl) | exact Or.inr (Or.inr rfl)) (hdb : (x == ("__debug__" : Str)) = false := by decide) (hcd : (x == ("__classdict__" : Str)) = false := by decide)
    (he : starEach [e] X.env = (false, eval e X.env) :: starEach [] X.env := by rfl) (hpl : (backTo pos (starEach [] X.env)).any (·.1) = false := by rfl) :
    PE X (.Call (.Name x p) [e] [] pos) (fun σ H Q => ∃ f, σ[i]? = some (some (.ref f)) ∧ te' σ H fun vs H1 => ∃ v D R, vs = [v] ∧ LamAt X.prog X.w X.K X.mg X.base k f D R H1 ∧ D v ∧ ∀ r H2, Same H1 H2 → R v r H2 → Q r H2) := by
  intro pins s σ H Q I h
  obtain ⟨f, h1, h2⟩ := h
  have hv := pe_var (X := X) (i := i) (pos := p) hN hv hdb hcd pins s σ H (fun v H' => v = .ref f ∧ te' σ H' fun vs H1 => ∃ v D R, vs = [v] ∧ LamAt X.prog X.w X.K X.mg X.base k f D R H1 ∧ D v ∧ ∀ r H2, Same H1 H2 → R v r H2 → Q r H2) I ⟨_, h1, rfl, h2⟩
  refine Call_ (thn hv fun u s1 ⟨v, H1, I1, r1, e1, q1⟩ => ?_)
  subst e1
  cases r1
  have main : wpAny (model X.prog X.w) X.A (spliced (backTo pos (starEach [e] X.env))) (fun vs s₁ => PySem.W.FnAt f s₁.heap ∧ wpAny (model X.prog X.w) X.A (call (.ref f) ([] ++ vs)) (EP X pins σ Q) X.xe s₁) X.xe s1 := by
    refine thn (ha pos pins s1 σ H1 _ I1 q1) fun us s2 ⟨vs, H2, I2, r, v, D, R, ev, lam, d, q⟩ => ?_
    subst ev
    obtain ⟨u, rfl, rv⟩ := Vals.one r
    obtain ⟨⟨o, fd, hf, hd⟩, run⟩ := lam
    obtain ⟨oc, od, da, sl⟩ := o
    have hd : da = .func fd := hd
    subst hd
    refine ⟨⟨oc, od, fd, sl, (I2.hok f _ hf).1⟩, ?_⟩
    refine wpAny_call (codeAny_mono (run X.A X.stack s2 v u Q hr I2.env0 rv d q) fun r s' hq => ?_)
    cases r with
    | error e => exact hq.elim
    | ok fl =>
      cases fl with
      | ret u => exact I2.after hq
      | next => exact False.elim hq
      | brk => exact False.elim hq
      | cont => exact False.elim hq
  rw [he] at main ⊢
  exact PySem.W.callWith_of (by show ((false || (backTo pos (starEach [] X.env)).any (·.1)) || false) = false; rw [hpl]; rfl) PySem.W.keeps_F (PySem.Calls.evalArgs_plain main)
/-! ### what a lambda closes over, from the frame it was made in -/
theorem cl_lookup {cells : List (Str × Addr)} {scope : Scope} {x : Str} {c : Addr} (h : (cloFrom cells scope.names []).lookup x = some c) (hf : ∀ y ∈ scope.names, y.2 = .free → ∃ c, cells.lookup y.1 = some c) : cells.lookup x = some c := by
  rcases cloFrom_mem (PySem.mem_of_lookup h) with m | ⟨m, e⟩
  · cases m
  · obtain ⟨c', e'⟩ := hf _ m rfl
    have e' : cells.lookup x = some c' := e'
    rw [e'] at e ⊢
    rw [e]
    rfl
theorem clos_of {X : Cx} {σ : St} {H : Hp} {O : Addr → Option Obj} {scope : Scope} {fs : List Str} {vals : List V} (Z : Froz X σ H O) (hfree : ∀ y ∈ scope.names, y.2 = .free → X.env.kindOf y.1 = some .cell ∨ X.env.kindOf y.1 = some .free) (len : vals.length = fs.length)
    (hv : ∀ (j : Nat) (x : Str) (v : V), fs[j]? = some x → vals[j]? = some v → scope.names.lookup x = some .free ∧ ∃ i : Nat, X.N[i]? = some x ∧ σ[i]? = some (some v)) : Clos O scope (cloFrom X.env.cells scope.names []) fs vals := by
  have hf : ∀ y ∈ scope.names, y.2 = .free → ∃ c, X.env.cells.lookup y.1 = some c := fun y m e => Z.has y.1 (hfree y m e)
  have hs : ∀ x, scope.names.lookup x = some .free → ∃ c, (cloFrom X.env.cells scope.names []).lookup x = some c := fun x e => mem_lookup (cloFrom_has (PySem.mem_of_lookup e))
  refine ⟨len, fun j x v h1 h2 => ?_, fun x c e => Z.val x c (cl_lookup e hf), fun x z c e1 e2 => Z.inj x z c (cl_lookup e1 hf) (cl_lookup e2 hf), hs⟩
  obtain ⟨e, i, h3, h4⟩ := hv j x v h1 h2
  obtain ⟨c, e2⟩ := hs x e
  obtain ⟨o, u, q1, q2, q3⟩ := Z.is_ x c i v (cl_lookup e2 hf) h3 h4 (hfree (x, .free) (PySem.mem_of_lookup e) rfl)
  exact ⟨e, c, o, u, e2, q1, q2, q3⟩
theorem lamFree {X : Cx} {sc scope : Scope} (h : ∀ y ∈ scope.names, y.2 = .free → sc.names.lookup y.1 = some .cell ∨ sc.names.lookup y.1 = some .free) (e : X.env.scope = sc := by rfl) : ∀ y ∈ scope.names, y.2 = .free → X.env.kindOf y.1 = some .cell ∨ X.env.kindOf y.1 = some .free := by
  subst e
  exact h
end L2

set_option Elab.async false
set_option maxRecDepth 100000
set_option maxHeartbeats 2000000
/-! list(reversed(a list)) -/
namespace L2
open PySem PySem.Spec PyProof.Rows
theorem rv_nolen : typeLookup (.type "list_reverseiterator") "__len__" = pure none := by
  rw [typeLookup_type, builtinLookup_eq_fast]; kernel_rfl
theorem rv_hint : typeLookup (.type "list_reverseiterator") "__length_hint__" = pure (some (.builtin "list_reverseiterator.__length_hint__")) := by
  rw [typeLookup_type, builtinLookup_eq_fast]; kernel_rfl
section
variable {prog : Program} {w : World} {A : Around} {E : Value → Shared → Prop} {s : Shared} {R : Result → Shared → Prop}
variable {it : Addr} {fp wr : List Addr} {Gn : Array GenState → Array GenState → Prop} {n : Nat} {Pi : Nat → Value → Prop} {Sa : Nat → Shared → Prop}
theorem rv_extend (W : WalksS prog w A.in1 it fp wr Gn n Pi Sa) (ty : ∀ i s, Sa i s → s.TypeIs (.ref it) "list_reverseiterator") (D : Addr) (res : Value) (c0 : Nat) (st : Sa 0 s) (off : D ∉ fp) (mem : it ∈ fp)
    (hD : s.heap.get? D = some { cls := .type "list", data := .seq #[] c0 })
    (fin : ∀ s' acc c, Moved (D :: wr) Gn s s' → s'.heap.get? D = some { cls := .type "list", dict := none, data := .seq acc c, slots := #[] } → ItemsOf Pi acc n → R (.ok (.ret res)) s') (hn : n ≤ sizeLine) :
    wpAny (model prog w) A.in1 (Builtin.List.listExtendWith (.ref D) (.ref it) res)
      (fun f s' => match f with | .done g => R (.ok g) s' | .again c => c.quiet = true ∧ codeAny (model prog w) A c R s') (fun e s' => R (.error e) s') s := by
  have ne : D ≠ it := fun e => off (e ▸ mem)
  have q1 : Builtin.List.listSameRef (.ref D) (.ref it) = false := by simp [Builtin.List.listSameRef, ne]
  unfold Builtin.List.listExtendWith
  refine wpAny_bind (wpAny_typeOf (ty 0 _ st) ?_)
  rw [if_neg (by rw [q1]; decide)]
  refine wpAny_bind (W.self 0 _ _ _ st ?_)
  refine wpAny_bind (wpAny_holding ?_)
  unfold Builtin.List.listLengthHint
  refine wpAny_bind (wpAny_specialOf (ty 0 _ st) rv_nolen ?_)
  show wpAny _ A.in1 (specialOf (.ref it) (Str.ofString "__length_hint__") >>= _) _ _ _
  refine wpAny_bind (wpAny_specialOf (ty 0 _ st) rv_hint ?_)
  (generalize hid : ("list_reverseiterator.__length_hint__" : String) = id0; (fail_if_success (clear hid id0)); wp_delta; rw [show splitId id0 = some ("list_reverseiterator", "__length_hint__") from by subst hid; decide +kernel]; subst hid)
  refine wpAny_bind (wpAny_isInstance (b := true) (ty 0 _ st) (by rw [isSubtype_type]; kernel_rfl) ?_)
  refine wpAny_pure ?_
  rw [if_neg (by decide)]
  exact wpAny_pure ⟨plainId_quiet F.plain_extend_loop _, codeAny_extend_loopS W hn _ off _ n 0 _ _ _ rfl (Nat.zero_le _) st hD (ItemsOf.nil Pi) fun s' acc c hm h1 h2 => fin s' acc c hm h1 h2⟩
theorem rv_list {Q : Value → Shared → Prop} (W : WalksS prog w A.in1.in1 it fp wr Gn n Pi Sa) (ty : ∀ i s, Sa i s → s.TypeIs (.ref it) "list_reverseiterator") (st : Sa 0 s) (hfp : ∀ b ∈ fp, b < s.heap.objs.size) (mem : it ∈ fp)
    (hQ : ∀ s' acc c, Moved (s.heap.objs.size :: wr) Gn { s with heap := s.heap.push { cls := .type "list", data := .seq #[] } } s' → s'.heap.get? s.heap.objs.size = some { cls := .type "list", dict := none, data := .seq acc c, slots := #[] } → ItemsOf Pi acc n → Q (.ref s.heap.objs.size) s') (hn : n ≤ sizeLine) :
    wpAny (model prog w) A (call (.type "list") [.ref it]) Q E s := by
  have off : s.heap.objs.size ∉ fp := fun hm => Nat.lt_irrefl _ (hfp _ hm)
  refine callType_codes (Q₁ := fun ob s1 => ob = .ref s.heap.objs.size ∧ s1 = { s with heap := s.heap.push { cls := .type "list", data := .seq #[] } }) F.called_list (F.typeCall_list_1 _) F.entry_list_init (code_list_new _ ⟨rfl, rfl⟩) fun ob s1 h1 => ?_
  obtain ⟨rfl, rfl⟩ := h1
  have hD : (s.heap.push { cls := .type "list", data := .seq #[] }).get? s.heap.objs.size = some { cls := .type "list", data := .seq #[] } := Heap.get?_push_size _ rfl
  refine ⟨⟨_, hD, rfl⟩, F.args_list_init_2 _ _, ?_⟩
  show wpAny _ A.in1.in1 (do let old ← Builtin.List.listItems (.ref s.heap.objs.size); Builtin.List.listUpdate (.ref s.heap.objs.size) (fun _ => #[]); letGo old.toList.reverse; Builtin.List.listExtendWith (.ref s.heap.objs.size) (.ref it) .none) _ _ _
  refine wpAny_bind ?_
  unfold Builtin.List.listItems
  refine wpAny_bind (wpAny_seqItems hD rfl (wpAny_pure ?_))
  show wpAny _ A.in1.in1 (updateSeq s.heap.objs.size (fun _ => #[]) >>= fun _ => letGo (#[] : Array Value).toList.reverse >>= fun _ => Builtin.List.listExtendWith (.ref s.heap.objs.size) (.ref it) .none) _ _ _
  refine wpAny_bind (wpAny_updateSeq hD rfl ?_)
  have hD2 := Heap.get?_update_self (Obj.mapSeq (fun _ => (#[] : Array Value))) hD rfl
  have oth : ∀ b o, b ≠ s.heap.objs.size → (s.heap.push { cls := .type "list", data := .seq #[] }).get? b = some o → ((s.heap.push { cls := .type "list", data := .seq #[] }).update s.heap.objs.size (Obj.mapSeq (fun _ => (#[] : Array Value)))).get? b = some o := fun b o hb e => (Heap.get?_update_other _ _ (Ne.symm hb)).trans e
  refine wpAny_bind (wpAny_letGo ?_)
  refine rv_extend (A := A.in1) W ty _ .none _ (W.frame 0 s _ s.toks st (Nat.le_refl _) fun b hb o e => oth b o (fun q => off (q ▸ hb)) (Heap.get?_push_of_some _ e)) off mem hD2 (fun s' acc c hm h1 h2 => ?_) hn
  exact ⟨rfl, hQ s' acc c (Moved.trans W.gtrans ((Moved.refl W.grefl).then_heap (Nat.le_refl _) fun b o hb e => oth b o (fun q => hb (q ▸ List.mem_cons_self)) e) hm) h1 h2⟩
end
theorem acc_rev {its : List Value} {acc : Array Value} (h : ItemsOf (fun i v => its.toArray[its.toArray.size - 1 - i]? = some v) acc its.toArray.size) : acc.toList = its.reverse := by
  obtain ⟨h1, h2⟩ := h
  have hl : acc.toList.length = its.length := by simpa using h1
  refine List.ext_getElem? fun j => ?_
  by_cases hj : j < its.length
  · rw [List.getElem?_reverse hj]
    have e1 : acc[j]? = some (acc[j]'(by simp at h1; omega)) := Array.getElem?_eq_getElem (by simp at h1; omega)
    have q := h2 j _ e1
    have e2 : acc.toList[j]? = acc[j]? := by simp
    rw [e2, e1, ← q]
    simp
  · rw [List.getElem?_eq_none (by omega), List.getElem?_eq_none (by rw [List.length_reverse]; omega)]
def tLrev (K : PySem.W.Frag) (ta : TA) : TE := fun σ H Q => ta σ H fun vs H1 => ∃ a ys, vs = [.ref a] ∧ SqL K H1 a ys ∧ ∀ l, H1 l = none → Q (.ref l) (upd H1 l (.lst ys.reverse))
theorem pe_lrev {X : Cx} {e : Expr} {ta : TA} {p p2 pos pos2 : Pos} (hc : X.calm = true) (hg : Gl X "list") (hm : X.mg "list" = none) (hg2 : Gl X "reversed") (hm2 : X.mg "reversed" = none) (ha : PA X [e] ta)
    (hs1 : starEach [.Call (.Name "reversed" p2) [e] [] pos2] X.env = [(false, eval (.Call (.Name "reversed" p2) [e] [] pos2) X.env)] := by rfl) (hs2 : starEach [e] X.env = [(false, eval e X.env)] := by rfl) :
    PE X (.Call (.Name "list" p) [.Call (.Name "reversed" p2) [e] [] pos2] [] pos) (tLrev X.K ta) := by
  intro pins s σ H Q I h
  refine wpAny_Call_Name_kw (ld_blt I hg hm PyProof.Rows.boot_list ?_)
  refine PyProof.Rows.callWith_type1 ?_ hs1 rfl
  rw [hs1]
  show wpAny _ _ (spliced ((false, eval (.Call (.Name "reversed" p2) [e] [] pos2) X.env) :: backTo pos [])) _ _ s
  refine Calls.spliced_cons ?_
  refine wpAny_Call_Name_kw (ld_blt I hg2 hm2 boot_reversed5 ?_)
  refine PyProof.Rows.callWith_type1 (thn (ha pos2 pins s σ H _ I h) fun us s1 ⟨vs, H1, I1, r1, a, ys, ev, hq, q⟩ => ?_) hs2 rfl
  subst ev
  obtain ⟨u, rfl, ru⟩ := Vals.one r1
  cases ru
  obtain ⟨its, rv, pl, hz⟩ := I1.list hq
  have hl := rv.length
  refine call_reversed_list pl.isList ?_
  refine Calls.spliced_nil ?_
  have hal : a < s1.heap.objs.size := by
    obtain ⟨o, ho, _⟩ := pl.isList
    exact Heap.lt_size ho
  generalize hro : PySem.revObj a ((its.toArray.size : Nat) - 1 : Int) = ro
  have hfr : ro.isFreed = false := by rw [← hro]; rfl
  have kp : ∀ b o, s1.heap.get? b = some o → (s1.heap.push ro).get? b = some o := fun b o e => Heap.get?_push_of_some _ e
  refine rv_list (A := X.A) (Walks.listRev (prog := X.prog) (w := X.w) (A := X.A.in1.in1) (I1.ok.hd hc) s1.heap.objs.size a (Nat.ne_of_lt hal) its.toArray).toS (fun i s st => st.2.1.typeIs) ⟨Nat.zero_le _, ?_, ?_⟩ ?_ (by simp) (fun s' acc c hmv hD hit => ?_) (by simp only [List.size_toArray]; omega)
  · have e1 : (its.toArray.size : Int) - 1 - ((0 : Nat) : Int) = (its.toArray.size : Int) - 1 := by omega
    rw [e1]
    exact ⟨_, Heap.get?_push_size _ hfr, by rw [← hro]; rfl, by rw [← hro]; rfl⟩
  · exact pl.isList.at fun o e => kp _ _ e
  · intro b hb
    rw [Heap.size_push]
    rcases List.mem_cons.mp hb with e | hb
    · rw [e]; exact Nat.lt_succ_self _
    · rw [List.mem_singleton.mp hb]; exact Nat.lt_succ_of_lt hal
  · have hz2 : (s1.heap.push ro).objs.size = s1.heap.objs.size + 1 := Heap.size_push ..
    obtain ⟨h', g', d', t', os'⟩ := s'
    obtain ⟨m1, m2, m3, m4, m5⟩ := hmv
    have m2 : g' = s1.gens := m2
    have m3 : d' = s1.drawn := m3
    have m4 : os' = s1.os := m4
    subst m2 m3 m4
    have kp2 : ∀ b o, s1.heap.get? b = some o → h'.get? b = some o := fun b o e => by
      have l1 := Heap.lt_size e
      refine m1 b o (fun hb => ?_) (Heap.get?_push_of_some _ (kp b o e))
      rcases List.mem_cons.mp hb with q | q
      · exact absurd (q.trans hz2) (Nat.ne_of_lt (Nat.lt_succ_of_lt l1))
      · exact absurd (List.mem_singleton.mp q) (Nat.ne_of_lt l1)
    have new : ObjOk X.prog X.w (upd H1 (s1.heap.push ro).objs.size (.lst ys.reverse)) h' (s1.heap.push ro).objs.size (.lst ys.reverse) := by
      refine ⟨by rw [List.length_reverse]; exact hz, its.reverse, c, rv.reverse, ?_⟩
      rw [← acc_rev hit]
      simpa using hD
    have I2 := I1.laid (t' := t') (h' := h') kp2 (by rw [hz2]; exact Nat.le_succ _) new
    exact ⟨.ref _, _, I2, rfl, q _ (I1.hok.fresh (by rw [hz2]; exact Nat.le_succ _))⟩
end L2

set_option Elab.async false
set_option maxRecDepth 100000
set_option maxHeartbeats 2000000
/-! sorted(a list, key=a lambda whose keys are pairs of ints) -/
namespace L2
open PySem PySem.Spec PyProof.Rows
/-! ### from one state to a later one, seen from outside -/
structure Rel (outer : List Env) (P : Program) (w : World) (H : Hp) (s : Shared) (H' : Hp) (s' : Shared) : Prop where
  os : s'.os = s.os
  bare : AllBare s'.gens
  un : Un (frs outer) [] H H' s.heap s'.heap
  hok : HOk P w H' s'.heap
  sm : Same H H'
  sz : s.heap.objs.size ≤ s'.heap.objs.size
section
variable {outer : List Env} {P : Program} {w : World} {K : PySem.W.Frag} {mg : Str → Option Value} {base : Heap} {A : Around} {s s' : Shared} {H H' : Hp}
theorem Rel.env (R : Rel outer P w H s H' s') (e : Env0 P w K mg base A outer s H) : Env0 P w K mg base A outer s' H' := by
  have all : ∀ (l : List Env), (∀ b ∈ frs l, b ∈ frs outer) → s.heap.FunFrames base l → s'.heap.FunFrames base l := by
    intro l
    induction l with
    | nil => intro _ _; trivial
    | cons env r ih =>
      intro hs hl
      obtain ⟨hk, ⟨L, o, hf, hn, ho, hd⟩, hr⟩ := hl
      have hL : L ∈ frs outer := hs L (by unfold frs; rw [List.filterMap_cons, hf]; exact List.mem_cons_self)
      obtain ⟨sl, e2⟩ := R.un.slot L o ho (e.frf L hL) hL (by simp)
      exact ⟨hk, ⟨L, _, hf, hn, e2, hd⟩, ih (fun b hb => hs b (by unfold frs; rw [List.filterMap_cons, hf]; exact List.mem_cons_of_mem _ hb)) hr⟩
  refine ⟨e.frames, e.mod, fun b o q => ?_, Nat.le_trans e.bsz R.sz, all outer (fun _ h => h) e.funs, fun b hb => ?_, R.hok, R.bare, fun c Pt h1 h2 => ?_⟩
  · obtain ⟨q1, q2⟩ := e.bs b o q
    have nf : b ∉ frs outer := fun hb => by
      have z := (e.funs.mem hb).1
      rw [q] at z; cases z
    exact ⟨R.un.keep b o q1 q2 nf (by simp), R.un.free b o q1 q2 (by simp)⟩
  · obtain ⟨_, o, ho, _⟩ := e.funs.mem hb
    exact R.un.free b o ho (e.frf b hb) (by simp)
  · obtain ⟨ps, q⟩ := e.tb c Pt h1 h2
    obtain ⟨more, q2⟩ := R.un.tbls Pt ps q
    exact ⟨_, q2⟩
/-- objects of ours, that nobody tracks, are laid or changed -/
theorem Rel.own {h' : Heap} {t' : Nat} {own : List Addr} (R : Rel outer P w H s H' s') (k : ∀ b o, b ∉ own → s'.heap.get? b = some o → h'.get? b = some o) (hn : ∀ b ∈ own, s.heap.objs.size ≤ b ∧ H' b = none) (sz : s'.heap.objs.size ≤ h'.objs.size) :
    Rel outer P w H s H' { s' with heap := h', toks := t' } := by
  have no : ∀ b o, s.heap.get? b = some o → b ∉ own := fun b o e hb => absurd (Nat.lt_of_lt_of_le (Heap.lt_size e) (hn b hb).1) (Nat.lt_irrefl _)
  have nt : ∀ b u, H' b = some u → b ∉ own := fun b u e hb => by rw [(hn b hb).2] at e; cases e
  refine ⟨R.os, R.bare, ⟨fun b o e n h1 h2 => k b o (no b o e) (R.un.keep b o e n h1 h2), fun b o e n h1 h2 => ?_, R.un.free, fun b o e h1 => ?_, R.un.tups, R.un.frzs, R.un.tbls⟩, fun b u e => ?_, R.sm, Nat.le_trans R.sz sz⟩
  · obtain ⟨sl, q⟩ := R.un.slot b o e n h1 h2
    exact ⟨sl, k b _ (no b o e) q⟩
  · obtain ⟨o', q⟩ := R.un.there b o e h1
    exact ⟨o', k b _ (no b o e) q⟩
  · refine (R.hok b u e).stay (fun c v hc q => k c v ?_ q) (fun _ q => q) (fun _ _ q => q) fun _ _ _ q => q
    rcases hc with rfl | hc
    · exact nt c u e
    · exact nt c _ hc
theorem Rel.tk {t' : Nat} (R : Rel outer P w H s H' s') : Rel outer P w H s H' { s' with toks := t' } := ⟨R.os, R.bare, R.un, R.hok, R.sm, R.sz⟩
/-- behind a call -/
theorem Rel.call {H2 : Hp} {s2 : Shared} {Q : VK} {u : Value} {own : Addr} {oo : Obj} (R : Rel outer P w H s H' s') (h1 : s2.os = s'.os) (h2 : AllBare s2.gens) (h3 : Un (frs outer) [] H' H2 s'.heap s2.heap) (h4 : HOk P w H2 s2.heap) (h5 : Same H' H2)
    (ho : s'.heap.get? own = some oo) (hs : s.heap.objs.size ≤ own) (hn : H' own = none) (hf : own ∉ frs outer) : Rel outer P w H s H2 s2 :=
  ⟨h1.trans R.os, h2, R.un.trans h3, h4, R.sm.trans h5, Nat.le_trans hs (Nat.le_of_lt (Heap.lt_size (h3.keep own oo ho hn hf (by simp))))⟩
end
/-! ### keys that are pairs of ints -/
def KeyT (H : Hp) (g : V → Int × Int) (u : Value) (v : V) : Prop := ∃ t, u = .ref t ∧ H t = some (.tup [.int (g v).1, .int (g v).2])
def lexLe (p q : Int × Int) : Prop := p.1 < q.1 ∨ (p.1 = q.1 ∧ p.2 ≤ q.2)
theorem perm_lift {α β : Type} (φ : α → β) {m k : List β} (h : m.Perm k) : ∀ {l : List α}, l.map φ = k → ∃ l' : List α, l'.Perm l ∧ l'.map φ = m := by
  induction h with
  | nil =>
    intro l e
    have : l = [] := List.map_eq_nil_iff.mp e
    subst this
    exact ⟨[], .refl _, rfl⟩
  | cons x p ih =>
    intro l e
    cases l with
    | nil => cases e
    | cons a l0 =>
      rw [List.map_cons] at e
      injection e with e1 e2
      obtain ⟨l', h1, h2⟩ := ih e2
      exact ⟨a :: l', h1.cons a, by rw [List.map_cons, e1, h2]⟩
  | swap x y l2 =>
    intro l e
    match l, e with
    | a :: b :: l0, e =>
      rw [List.map_cons, List.map_cons] at e
      injection e with e1 e2
      injection e2 with e2 e3
      exact ⟨b :: a :: l0, .swap a b l0, by rw [List.map_cons, List.map_cons, e1, e2, e3]⟩
  | trans p1 p2 ih1 ih2 =>
    intro l e
    obtain ⟨l2, h1, h2⟩ := ih2 e
    obtain ⟨l3, h3, h4⟩ := ih1 h2
    exact ⟨l3, h3.trans h1, h4⟩
theorem zip3 {H : Hp} {g : V → Int × Int} : ∀ {ks its : List Value} {xs : List V}, Paired (KeyT H g) ks xs → Vals xs its → ∃ L : List ((Value × Value) × V), L.map (·.1) = ks.zip its ∧ L.map (·.2) = xs ∧ ∀ p ∈ L, RelV p.2 p.1.2 ∧ KeyT H g p.1.1 p.2
  | _, _, _, .nil, .nil => ⟨[], rfl, rfl, fun p hp => by cases hp⟩
  | _, _, _, .cons (a := u) (b := v) h t, .cons (b := x) r t2 => by
    obtain ⟨L, h1, h2, h3⟩ := zip3 t t2
    refine ⟨((u, x), v) :: L, by rw [List.map_cons, h1]; rfl, by rw [List.map_cons, h2], fun p hp => ?_⟩
    rcases List.mem_cons.mp hp with rfl | hp
    · exact ⟨r, h⟩
    · exact h3 p hp
section
variable {P : Program} {w : World} {H : Hp} {h : Heap} {g : V → Int × Int} {u : Value} {v : V}
theorem key_tup (ok : HOk P w H h) (k : KeyT H g u v) : ∃ t o x1 x2 n, u = .ref t ∧ h.get? t = some o ∧ o.cls = .type "tuple" ∧ o.data = .seq #[.int (g v).1 x1, .int (g v).2 x2] n := by
  obtain ⟨t, rfl, e⟩ := k
  obtain ⟨_, its, r, o, ho, hc, n, hd⟩ := ok t _ e
  obtain ⟨x1, x2, rfl⟩ := Vals.int2 r
  exact ⟨t, o, x1, x2, n, rfl, ho, hc, by rw [hd]⟩
abbrev noText : Nat → Bool := fun _ => false
theorem key_is (ok : HOk P w H h) (k : KeyT H g u v) : G.tupKeyC h noText u = some [.inl (g v).1, .inl (g v).2] := by
  obtain ⟨t, o, x1, x2, n, rfl, ho, hc, hd⟩ := key_tup ok k
  unfold G.tupKeyC
  rw [if_pos (by simp [G.isTupObj, ho, hc])]
  simp [tupKey, ho, hd, tupItems, noText]
theorem key_tups (ok : HOk P w H h) : ∀ {ks : List Value} {xs : List V}, Paired (KeyT H g) ks xs → ∃ fs, TupsOf h noText ks fs
  | _, _, .nil => ⟨[], .nil⟩
  | _, _, .cons k t => by
    obtain ⟨fs, r⟩ := key_tups ok t
    obtain ⟨t, o, x1, x2, n, rfl, ho, hc, hd⟩ := key_tup ok k
    exact ⟨_, .cons ⟨t, o, _, n, rfl, ho, hc, hd, rfl, fun _ => ⟨_, _, rfl⟩, fun z => by cases z⟩ r⟩
theorem kle_lex {a b c d : Int} (z : (G.tupKindC h noText).kle [.inl a, .inl b] [.inl c, .inl d]) : lexLe (a, b) (c, d) := by
  have z : PyProof.Rows.lexLt itemOrd [.inl c, .inl d] [.inl a, .inl b] = false := z
  obtain ⟨z1, z2⟩ := lex_false.mp z
  have z1 : ¬ c < a := of_decide_eq_false (show decide (c < a) = false from z1)
  rcases z2 with z2 | z2
  · exact .inl (of_decide_eq_true (show decide (a < c) = true from z2))
  · obtain ⟨z3, _⟩ := lex_false.mp z2
    have z3 : ¬ d < b := of_decide_eq_false (show decide (d < b) = false from z3)
    show a < c ∨ (a = c ∧ b ≤ d)
    omega
/-- what the sort leaves -/
theorem sort_out {ks its : List Value} {xs : List V} {arr : Array Keyed} (ok : HOk P w H h) (k : Paired (KeyT H g) ks xs) (rv : Vals xs its) (hp : arr.toList.Perm (ks.zip its)) (hs : SortedToK (G.tupKindC h noText) arr arr.size) :
    ∃ out : List V, Vals out (arr.toList.map (·.2)) ∧ out.Perm xs ∧ out.Pairwise fun p q => lexLe (g p) (g q) := by
  obtain ⟨L, h1, h2, h3⟩ := zip3 k rv
  obtain ⟨L', p1, p2⟩ := perm_lift Prod.fst hp h1
  have h3 : ∀ p ∈ L', RelV p.2 p.1.2 ∧ KeyT H g p.1.1 p.2 := fun p hp => h3 p (p1.mem_iff.mp hp)
  refine ⟨L'.map (·.2), ?_, ?_, ?_⟩
  · rw [← p2, List.map_map]
    have all : ∀ (M : List ((Value × Value) × V)), (∀ p ∈ M, RelV p.2 p.1.2) → Vals (M.map (·.2)) (M.map ((fun x : Value × Value => x.2) ∘ Prod.fst)) := by
      intro M
      induction M with
      | nil => intro _; exact .nil
      | cons a M ih => intro hm; exact .cons (hm a List.mem_cons_self) (ih fun p hp => hm p (List.mem_cons_of_mem _ hp))
    exact all L' fun p hp => (h3 p hp).1
  · rw [← h2]
    exact p1.map _
  · rw [List.pairwise_map, List.pairwise_iff_getElem]
    intro i j hi hj hij
    have len : L'.length = arr.size := by rw [← Array.length_toList, ← p2, List.length_map]
    have kk : ∀ (m : Nat) (hm : m < L'.length), KK (G.tupKindC h noText) arr m = [.inl (g L'[m].2).1, .inl (g L'[m].2).2] := fun m hm => by
      have e : arr[m]? = some L'[m].1 := by
        have e1 : arr.toList[m]? = (L'.map Prod.fst)[m]? := by rw [p2]
        rw [List.getElem?_map, List.getElem?_eq_getElem hm] at e1
        simpa using e1
      unfold KK
      rw [e]
      show ((G.tupKeyC h noText L'[m].1.1).getD []) = _
      rw [key_is ok (h3 _ (List.getElem_mem hm)).2]
      rfl
    have z := hs i j (Nat.le_of_lt hij) (by rw [← len]; exact hj)
    rw [kk i hi, kk j hj] at z
    exact kle_lex z
end
/-! ### the sort itself -/
theorem Paired.snoc {α β : Type} {R : α → β → Prop} {x : α} {y : β} (h : R x y) : ∀ {l : List α} {m : List β}, Paired R l m → Paired R (l ++ [x]) (m ++ [y])
  | _, _, .nil => .cons h .nil
  | _, _, .cons r t => .cons r (Paired.snoc h t)
section
variable {outer : List Env} {P : Program} {w : World} {K : PySem.W.Frag} {mg : Str → Option Value} {base : Heap} {A : Around} {E : Value → Shared → Prop} {s : Shared} {H : Hp} {D kS f : Addr} {its : List Value} {xs : List V} {g : V → Int × Int} {k : Nat} {R : PySem.Fin → Shared → Prop}
/-- what is wanted behind the sort -/
def SortFin (outer : List Env) (P : Program) (w : World) (H : Hp) (s : Shared) (D : Addr) (xs : List V) (g : V → Int × Int) (R : PySem.Fin → Shared → Prop) : Prop :=
  ∀ (H3 : Hp) (s3 : Shared) (out : List V) (outs : Array Value) (c : Nat), Rel outer P w H s H3 s3 → s3.heap.get? D = some (seqObj "list" outs c) → H3 D = none → Vals out outs.toList → out.Perm xs → out.Pairwise (fun p q => lexLe (g p) (g q)) → R (.done (.ret .none)) s3
theorem srt_tail {H' : Hp} {s' : Shared} {st : SortSt} {ks : Array Value} {c1 c2 : Nat} {out : List V} (Rl : Rel outer P w H s H' s') (nk : s'.heap.get? kS = some (seqObj "list" ks c1)) (nd : s'.heap.get? D = some (seqObj "list" #[] c2)) (ne : kS ≠ D)
    (fk : s.heap.objs.size ≤ kS ∧ H' kS = none) (fd : s.heap.objs.size ≤ D ∧ H' D = none) (hk : ks.size ≤ 64) (ho : (arrOf st).size ≤ 64) (hfl : failedOf st = none) (v : Vals out ((arrOf st).toList.map (·.2))) (pm : out.Perm xs) (pw : out.Pairwise fun p q => lexLe (g p) (g q))
    (fin : SortFin outer P w H s D xs g R) : wpAny (model P w) A (PyProof.Rows.ksk_tail D false c2 (.ref kS) st) R E s' := by
  have sl : 64 ≤ sizeLine := by decide
  have u1 := Heap.SameBut.update s'.heap kS (Obj.mapSeq fun _ => (#[] : Array Value))
  have nd1 : (s'.heap.update kS (Obj.mapSeq fun _ => (#[] : Array Value))).get? D = some (seqObj "list" #[] c2) := (u1.2 D ne.symm).trans nd
  have u2 := Heap.SameBut.update (s'.heap.update kS (Obj.mapSeq fun _ => (#[] : Array Value))) D (Obj.mapSeq fun _ => (arrOf st).map (·.2))
  obtain ⟨c3, hc3⟩ : ∃ c3, ((s'.heap.update kS (Obj.mapSeq fun _ => (#[] : Array Value))).update D (Obj.mapSeq fun _ => (arrOf st).map (·.2))).get? D = some (seqObj "list" ((arrOf st).map (·.2)) c3) := ⟨_, get?_update_seq nd1 fun _ => (arrOf st).map (·.2)⟩
  unfold PyProof.Rows.ksk_tail
  try dsimp only
  refine wpAny_bind (listUpdate_at nk rfl ?_ (Nat.le_trans hk sl) (Nat.zero_le _))
  refine wpAny_bind (wpAny_letGo ?_)
  refine wpAny_bind (seqEpoch_at nd1 rfl ?_)
  refine wpAny_bind (listUpdate_at nd1 rfl ?_ (Nat.zero_le _) (by rw [if_neg Bool.false_ne_true, Array.size_map]; exact Nat.le_succ_of_le (Nat.le_trans ho sl)))
  rw [hfl]
  simp only [bne_self_eq_false, Bool.false_eq_true, if_false]
  refine wpAny_pure (fin H' _ out _ c3 (Rl.own (own := [kS, D]) (fun b o hb e => ?_) (fun b hb => ?_) ?_) hc3 fd.2 (by simpa using v) pm pw)
  · exact (u2.2 b fun z => hb (by simp [z])).trans ((u1.2 b fun z => hb (by simp [z])).trans e)
  · rcases List.mem_cons.mp hb with z | z
    · rw [z]; exact fk
    · rw [List.mem_singleton.mp z]; exact fd
  · rw [Heap.size_update, Heap.size_update]; exact Nat.le_refl _
theorem srt_end {H' : Hp} {s' : Shared} {ks : Array Value} {c1 c2 : Nat} (Rl : Rel outer P w H s H' s') (nk : s'.heap.get? kS = some (seqObj "list" ks c1)) (nd : s'.heap.get? D = some (seqObj "list" #[] c2)) (ne : kS ≠ D)
    (fk : s.heap.objs.size ≤ kS ∧ H' kS = none) (fd : s.heap.objs.size ≤ D ∧ H' D = none) (hz : its.length < 64) (kp : Paired (KeyT H' g) ks.toList xs) (rv : Vals xs its)
    (fin : SortFin outer P w H s D xs g R) : wpAny (model P w) A (PyProof.Rows.ksk_end D false its.toArray c2 (.ref kS) ks) R E s' := by
  have hl : ks.size = its.length := by
    rw [← Array.length_toList, Paired.length kp, rv.length]
  have hzp : (ks.zip its.toArray).size = its.length := by rw [Array.size_zip, hl, List.size_toArray, Nat.min_self]
  unfold PyProof.Rows.ksk_end
  try dsimp only
  simp only [Bool.false_eq_true, if_false]
  have done : ∀ st : SortSt, (arrOf st).Perm (ks.zip its.toArray) → SortedToK (G.tupKindC s'.heap noText) (arrOf st) (arrOf st).size → failedOf st = none → wpAny (model P w) A (PyProof.Rows.ksk_tail D false c2 (.ref kS) st) R E s' := by
    intro st hp hs hf
    have hp2 : (arrOf st).toList.Perm (ks.toList.zip its) := by
      rw [← PyProof.Rows.ksk_zip]
      exact Array.perm_iff_toList_perm.mp hp
    obtain ⟨out, v, pm, pw⟩ := sort_out Rl.hok kp rv hp2 hs
    exact srt_tail Rl nk nd ne fk fd (by omega) (by rw [hp.size_eq, hzp]; omega) hf v pm pw fin
  by_cases h2 : its.toArray.size < 2
  · rw [if_pos h2, if_pos h2]
    refine wpAny_bind (wpAny_pure ?_)
    rw [StateT.run_pure]
    refine wpAny_bind (wpAny_pure ?_)
    try dsimp only
    refine done (SortSt.mk' general' (ks.zip its.toArray) #[] 7 none) (Array.Perm.refl _) ?_ rfl
    intro i j hij hj
    have hj2 : j < (ks.zip its.toArray).size := hj
    rw [hzp] at hj2
    rw [List.size_toArray] at h2
    have e : i = j := by omega
    subst e
    exact KeyOrd.kle_refl _
  · rw [if_neg h2, if_neg h2]
    rw [List.size_toArray] at h2
    obtain ⟨fs, tf⟩ := key_tups Rl.hok kp
    have lf : 0 < fs.length := by
      rw [G.TupsOf.length tf, Array.length_toList]
      omega
    have ek : ks = ks.toList.toArray := by simp
    refine wpAny_bind ?_
    rw [show keyKind' ks = keyKind' ks.toList.toArray from congrArg keyKind' ek]
    refine tup_kind lf tf ?_
    try dsimp only
    refine wpAny_bind (wpAny_mono (G.wpS_sortRunsSt (κ := G.tupKindC s'.heap noText) (kd := tuples' true) (a₀ := ks.zip its.toArray) (st := SortSt.mk' (tuples' true) (ks.zip its.toArray) #[] 7 none)
      (Q := fun _ st' => (arrOf st').Perm (ks.zip its.toArray) ∧ failedOf st' = none ∧ SortedToK (G.tupKindC s'.heap noText) (arrOf st') (ks.zip its.toArray).size)
      (G.tupC_ltAt true (G.KeepsTups.refl _)) ?_ ⟨Array.Perm.refl _, rfl, rfl⟩ rfl (Stable.refl _) (by rw [hzp]; omega) fun st' a1 a2 a3 _ => ⟨a1, a2, a3⟩) ?_ fun _ _ e => e)
    · intro p hp
      rw [PyProof.Rows.ksk_zip] at hp
      obtain ⟨L, h1, _, h3⟩ := zip3 kp rv
      rw [← h1] at hp
      obtain ⟨q, hq, rfl⟩ := List.mem_map.mp hp
      exact ⟨_, key_is Rl.hok (h3 q hq).2⟩
    · rintro ⟨⟨⟩, st'⟩ s2 ⟨rfl, hp, hf, hs⟩
      try dsimp only
      exact done st' hp (by rw [hp.size_eq]; exact hs) hf
/-- the key function at f -/
abbrev KeyLam (P : Program) (w : World) (K : PySem.W.Frag) (mg : Str → Option Value) (base : Heap) (k : Nat) (f : Addr) (xs : List V) (g : V → Int × Int) (H : Hp) : Prop :=
  ∀ H3, Same H H3 → LamAt P w K mg base k f (fun v => v ∈ xs) (fun v r H4 => ∃ t, r = .ref t ∧ H4 t = some (.tup [.int (g v).1, .int (g v).2])) H3
theorem srt_rest {H' : Hp} {s' : Shared} {c2 : Nat} (e0 : Env0 P w K mg base A outer s H) (hr : Room k A) (Rl : Rel outer P w H s H' s') (nk : s'.heap.get? kS = some (seqObj "list" #[] 0)) (nd : s'.heap.get? D = some (seqObj "list" #[] c2)) (ne : kS ≠ D)
    (fk : s.heap.objs.size ≤ kS ∧ H' kS = none) (fd : s.heap.objs.size ≤ D ∧ H' D = none) (hz : its.length < 64) (rv : Vals xs its) (lam : KeyLam P w K mg base k f xs g H)
    (fin : SortFin outer P w H s D xs g R) : wpAny (model P w) A (PyProof.Rows.ksk_rest D (.ref f) false its.toArray c2 (.ref kS)) R E s' := by
  have sl : 64 ≤ sizeLine := by decide
  have nf : ∀ b, s.heap.objs.size ≤ b → b ∉ frs outer := fun b hb m => by
    obtain ⟨_, o, ho, _⟩ := e0.funs.mem m
    exact absurd (Nat.lt_of_lt_of_le (Heap.lt_size ho) hb) (Nat.lt_irrefl _)
  have hlx : xs.length = its.length := rv.length
  unfold PyProof.Rows.ksk_rest
  refine wpAny_bind (wpAny_rule ?_)
  rw [List.forIn_toArray]
  refine wpAny_bind (PyProof.Rows.ksk_fold (fun i s2 => ∃ (H2 : Hp) (kA : Array Value) (c : Nat), Rel outer P w H s H2 s2 ∧ s2.heap.get? kS = some (seqObj "list" kA c) ∧ s2.heap.get? D = some (seqObj "list" #[] c2) ∧ H2 kS = none ∧ H2 D = none ∧ Paired (KeyT H2 g) kA.toList (xs.take i)) its 0 s'
    ⟨H', #[], 0, Rl, nk, nd, fk.2, fd.2, .nil⟩ ?step ?done)
  case step =>
    rintro j x s2 hx ⟨H2, kA, c, R2, nk2, nd2, fk2, fd2, kp⟩
    simp only [Nat.zero_add] at kp ⊢
    have hj : j < its.length := (List.getElem?_eq_some_iff.mp hx).1
    obtain ⟨v, hv⟩ : ∃ v, xs[j]? = some v := ⟨_, List.getElem?_eq_getElem (by omega)⟩
    obtain ⟨x', hx', rx⟩ := rv.get hv
    rw [hx] at hx'
    cases hx'
    have hkz : kA.size ≤ 64 := by
      rw [← Array.length_toList, Paired.length kp, List.length_take]
      omega
    obtain ⟨_, run⟩ := lam H2 R2.sm
    refine wpAny_bind (wpAny_attempt ?_)
    refine wpAny_call (codeAny_mono (run A outer s2 v x (fun r H3 => ∃ t, r = .ref t ∧ H3 t = some (.tup [.int (g v).1, .int (g v).2]) ∧ Same H2 H3) hr (R2.env e0) rx (List.mem_of_getElem? hv) fun r H3 s3 ⟨t, h1, h2⟩ => ⟨t, h1, h2, s3⟩) fun r s3 hq => ?_)
    cases r with
    | error e => exact False.elim hq
    | ok fl =>
      cases fl with
      | next => exact False.elim hq
      | brk => exact False.elim hq
      | cont => exact False.elim hq
      | ret u =>
        obtain ⟨r, H3, os, bare, un, hok, rr, t, er, et, s3'⟩ := hq
        subst er
        cases rr
        have nk3 := un.keep kS _ nk2 fk2 (nf kS fk.1) (by simp)
        have nd3 := un.keep D _ nd2 fd2 (nf D fd.1) (by simp)
        have fk3 := un.free kS _ nk2 fk2 (by simp)
        have fd3 := un.free D _ nd2 fd2 (by simp)
        have R3 : Rel outer P w H s H3 s3 := R2.call (Q := fun _ _ => True) (u := .none) os bare un hok s3' nk2 fk.1 fk2 (nf kS fk.1)
        have u1 := Heap.SameBut.update s3.heap kS (Obj.mapSeq (·.push (.ref t)))
        obtain ⟨c3, hc3⟩ : ∃ c3, (s3.heap.update kS (Obj.mapSeq (·.push (.ref t)))).get? kS = some (seqObj "list" (kA.push (.ref t)) c3) := ⟨_, get?_update_seq nk3 (·.push (.ref t))⟩
        try dsimp only
        refine wpAny_bind (listUpdate_at nk3 rfl ?_ (Nat.le_trans hkz sl) (by rw [Array.size_push]; exact Nat.succ_le_succ (Nat.le_trans hkz sl)))
        refine wpAny_pure ⟨rfl, H3, kA.push (.ref t), c3, R3.own (own := [kS]) (t' := s3.toks) (fun b o hb e => (u1.2 b fun z => hb (by simp [z])).trans e) (fun b hb => ?_) ?_, hc3, (u1.2 D ne.symm).trans nd3, fk3, fd3, ?_⟩
        · rw [List.mem_singleton.mp hb]; exact ⟨fk.1, fk3⟩
        · rw [Heap.size_update]; exact Nat.le_refl _
        · have e1 : xs.take (j + 1) = xs.take j ++ [v] := by rw [List.take_add_one, hv]; rfl
          have e2 : (kA.push (Value.ref t)).toList = kA.toList ++ [Value.ref t] := by simp
          rw [e1, e2]
          exact Paired.snoc ⟨t, rfl, et⟩ (Paired.mapP kp fun u v ⟨t, h1, h2⟩ => ⟨t, h1, s3' _ _ h2⟩)
  case done =>
    rintro s2 ⟨H2, kA, c, R2, nk2, nd2, fk2, fd2, kp⟩
    have e1 : xs.take (0 + its.length) = xs := List.take_of_length_le (by omega)
    rw [e1] at kp
    try dsimp only
    refine wpAny_bind (listItems_at nk2 rfl ?_)
    exact srt_end R2 nk2 nd2 ne ⟨fk.1, fk2⟩ ⟨fd.1, fd2⟩ hz kp rv fin
theorem srt_tree {s' : Shared} {n : Nat} (e0 : Env0 P w K mg base A outer s H) (hr : Room k A) (Rl : Rel outer P w H s H s') (nd : s'.heap.get? D = some (seqObj "list" its.toArray n)) (fd : s.heap.objs.size ≤ D) (hz : its.length < 64) (rv : Vals xs its) (lam : KeyLam P w K mg base k f xs g H)
    (fin : SortFin outer P w H s D xs g R) : wpAny (model P w) A (PyProof.Rows.ksk_tree D (.ref f) false) R E s' := by
  have sl : 64 ≤ sizeLine := by decide
  have hD : H D = none := e0.hok.fresh fd
  have ltD := Heap.lt_size nd
  have u1 := Heap.SameBut.update s'.heap D (Obj.mapSeq fun _ => (#[] : Array Value))
  obtain ⟨c2, nd1⟩ : ∃ c2, (s'.heap.update D (Obj.mapSeq fun _ => (#[] : Array Value))).get? D = some (seqObj "list" #[] c2) := ⟨_, get?_update_seq nd fun _ => #[]⟩
  unfold PyProof.Rows.ksk_tree
  refine wpAny_bind (listItems_at nd rfl ?_)
  refine wpAny_bind (listUpdate_at nd rfl ?_ (by rw [List.size_toArray]; exact Nat.le_trans (Nat.le_of_lt hz) sl) (Nat.zero_le _))
  refine wpAny_bind (seqEpoch_at nd1 rfl ?_)
  refine wpAny_bind (wpAny_newTuple ?_ (by show its.length ≤ _; exact Nat.le_trans (Nat.le_of_lt hz) sl))
  refine wpAny_bind (wpAny_newList ?_ (Nat.zero_le _))
  refine wpAny_holding ?_
  have z1 : (s'.heap.update D (Obj.mapSeq fun _ => (#[] : Array Value))).objs.size = s'.heap.objs.size := Heap.size_update ..
  have z2 : ((s'.heap.update D (Obj.mapSeq fun _ => (#[] : Array Value))).push (seqObj "tuple" its.toArray 0)).objs.size = s'.heap.objs.size + 1 := by rw [size_push', z1]
  have z3 : (((s'.heap.update D (Obj.mapSeq fun _ => (#[] : Array Value))).push (seqObj "tuple" its.toArray 0)).push (seqObj "list" #[] 0)).objs.size = s'.heap.objs.size + 1 + 1 := by rw [size_push', z2]
  have fr1 : s.heap.objs.size ≤ s'.heap.objs.size + 1 := Nat.le_succ_of_le Rl.sz
  refine srt_rest (s' := { s' with heap := ((s'.heap.update D (Obj.mapSeq fun _ => (#[] : Array Value))).push (seqObj "tuple" its.toArray 0)).push (seqObj "list" #[] 0) }) (kS := ((s'.heap.update D (Obj.mapSeq fun _ => (#[] : Array Value))).push (seqObj "tuple" its.toArray 0)).objs.size) e0 hr
    (Rl.own (own := [D]) (t' := s'.toks) (fun b o hb e => ?_) (fun b hb => by rw [List.mem_singleton.mp hb]; exact ⟨fd, hD⟩) (by rw [z3]; exact Nat.le_succ_of_le (Nat.le_succ _))) (Heap.get?_push_size _ rfl) (Heap.get?_push_of_some _ (Heap.get?_push_of_some _ nd1)) ?_ ?_ ⟨fd, hD⟩ hz rv lam fin
  · exact Heap.get?_push_of_some _ (Heap.get?_push_of_some _ ((u1.2 b fun z => hb (by simp [z])).trans e))
  · rw [z2]; exact Nat.ne_of_gt (Nat.lt_succ_of_lt ltD)
  · rw [z2]; exact ⟨fr1, e0.hok.fresh fr1⟩
/-- sorted(l, key=f) -/
theorem srt_call {l : Addr} {Q : VK} (e0 : Env0 P w K mg base A outer s H) (hr : Room (k + 2) A) (hl : s.heap.IsList l its.toArray) (hz : its.length < 64) (rv : Vals xs its) (lam : KeyLam P w K mg base k f xs g H)
    (fin : ∀ (H3 : Hp) (out : List V) (D : Addr), Same H H3 → out.Perm xs → out.Pairwise (fun p q => lexLe (g p) (g q)) → H3 D = none → Q (.ref D) (upd H3 D (.lst out))) :
    wpAny (model P w) A (call (.builtin "sorted") [.ref l] [(Str.ofString "key", .ref f)]) (CE outer P w H s Q) E s := by
  have sl : 64 ≤ sizeLine := by decide
  have zi : its.toArray.size ≤ sizeLine := by rw [List.size_toArray]; exact Nat.le_trans (Nat.le_of_lt hz) sl
  refine call_function_entry_kw kind_sorted plain_sorted entry_sorted (PyProof.Rows.ksk_s1 _ _) ?_
  unfold Builtin.«sorted»
  refine wpAny_bind (m := checkCount "sorted" 1 1 _) (wpAny_pure ?_)
  refine wpAny_bind (collect_list hl ?_ zi)
  refine wpAny_bind (wpAny_newList ?_ zi)
  generalize hh1 : (s.heap.push (seqObj "list" #[] 0)).update s.heap.objs.size (Obj.mapSeq (· ++ its.toArray)) = h1
  have z1 : h1.objs.size = s.heap.objs.size + 1 := by rw [← hh1, Heap.size_update, size_push']
  have k1 : ∀ b o, s.heap.get? b = some o → h1.get? b = some o := fun b o e => by
    have lt := Heap.lt_size e
    rw [← hh1, Heap.get?_update_ne _ _ _ _ (Nat.ne_of_lt lt)]
    exact Heap.get?_push_of_some _ e
  show wpAny _ _ _ _ _ { s with heap := h1.push (seqObj "list" its.toArray 0) }
  have nd : (h1.push (seqObj "list" its.toArray 0)).get? (s.heap.objs.size + 1) = some (seqObj "list" its.toArray 0) := by rw [← z1]; exact Heap.get?_push_size _ rfl
  have R0 : Rel outer P w H s H { s with heap := h1.push (seqObj "list" its.toArray 0) } := by
    have kk : ∀ b o, s.heap.get? b = some o → (h1.push (seqObj "list" its.toArray 0)).get? b = some o := fun b o e => Heap.get?_push_of_some _ (k1 b o e)
    exact ⟨rfl, e0.bare, Un.kept kk, e0.hok.kept kk, Same.refl H, by rw [size_push', z1]; exact Nat.le_succ_of_le (Nat.le_succ _)⟩
  rw [z1]
  refine wpAny_bind (wpAny_holding (wpAny_call_entry_kw slot_list_sort ⟨_, nd, rfl⟩ entry_list_sort ?body (PyProof.Rows.ksk_l1 _ _)))
  case body =>
    show wpAny (model P w) A.in1.in1 (Builtin.«list.sort» ⟨[.ref (s.heap.objs.size + 1)], [(Str.ofString "key", .ref f)]⟩) _ _ _
    rw [PyProof.Rows.ksk_t1]
    refine srt_tree e0.in1.in1 hr.in1.in1 R0 nd (Nat.le_succ _) hz rv lam fun H3 s3 out outs c R3 n3 f3 v pm pw => ⟨_, rfl, ?_⟩
    refine wpAny_pure ⟨_, rfl, .ref (s.heap.objs.size + 1), upd H3 (s.heap.objs.size + 1) (.lst out), R3.os, R3.bare, ?_, ?_, rfl, fin H3 out _ R3.sm pm pw f3⟩
    · have nD : ∀ b o, s.heap.get? b = some o → b ≠ s.heap.objs.size + 1 := fun b o e => Nat.ne_of_lt (Nat.lt_succ_of_lt (Heap.lt_size e))
      refine ⟨R3.un.keep, R3.un.slot, fun b o e n h => by rw [upd_ne (nD b o e)]; exact R3.un.free b o e n h, R3.un.there, fun b xs e => ?_, fun b o u e => ?_, fun b ps e => ?_⟩
      · rw [upd_ne (ne_of_none (R3.un.tups b xs e) f3)]; exact R3.un.tups b xs e
      · rw [upd_ne (ne_of_none (R3.un.frzs b o u e) f3)]; exact R3.un.frzs b o u e
      · obtain ⟨m, q⟩ := R3.un.tbls b ps e
        exact ⟨m, by rw [upd_ne (ne_of_none q f3)]; exact q⟩
    · have hlo : out.length ≤ sizeLine := by
        rw [pm.length_eq, rv.length]
        exact Nat.le_trans (Nat.le_of_lt hz) sl
      intro b u e
      by_cases hb : b = s.heap.objs.size + 1
      · rw [hb, upd_same] at e
        cases e
        rw [hb]
        exact ⟨hlo, outs.toList, c, v, by simpa using n3⟩
      · rw [upd_ne hb] at e
        exact (R3.hok b u e).put fun c v q => by rw [upd_ne (ne_of_none q f3)]; exact q
end
end L2

set_option Elab.async false
set_option maxRecDepth 100000
set_option maxHeartbeats 2000000
namespace L2
open PySem PySem.Spec PyProof.Rows
def SortQ (X : Cx) (k : Nat) (σ : St) (Q : VK) (vs : List V) (fv : V) (H2 : Hp) : Prop := ∃ (a f : Addr) (xs : List V) (g : V → Int × Int), vs = [.ref a] ∧ fv = .ref f ∧ SqL X.K H2 a xs ∧ xs.length < 64 ∧
  (∀ O, Froz X σ H2 O → KeyLam X.prog X.w X.K X.mg X.base k f xs g (frzC H2 O)) ∧ ∀ H3 out D, Same H2 H3 → List.Perm out xs → List.Pairwise (fun p q => lexLe (g p) (g q)) out → H3 D = none → Q (.ref D) (upd H3 D (.lst out))
def tSortK (X : Cx) (k : Nat) (ta : TA) (tl : TE) : TE := fun σ H Q => ta σ H fun vs H1 => tl σ H1 fun fv H2 => SortQ X k σ Q vs fv H2
theorem thaw_upd {H : Hp} {O : Addr → Option Obj} {D : Addr} {o : HO} (h : O D = none) : thaw (upd H D o) O = upd (thaw H O) D o := by
  funext b
  by_cases hb : b = D
  · rw [hb, thaw_ne h, upd_same, upd_same]
  · rw [upd_ne hb]
    cases q : O b with
    | none => rw [thaw_ne q, thaw_ne q, upd_ne hb]
    | some o => rw [thaw_at q, thaw_at q]
theorem pe_sortK {X : Cx} {k : Nat} {e el : Expr} {ta : TA} {tl : TE} {p pos kpos : Pos} (hr : Room (k + 2) X.A) (hfn : ∀ x, X.fn x = true) (hg : Gl X "sorted") (hm : X.mg "sorted" = none) (ha : PA X [e] ta) (hl : PE X el tl)
    (he : starEach [e] X.env = (false, eval e X.env) :: starEach [] X.env := by rfl) (h1 : (backTo pos (starEach [e] X.env)).any (·.1) = false := by rfl) (h2 : (backToKw pos (keywordEach [⟨some "key", el, kpos⟩] X.env)).any (·.1.isNone) = false := by rfl)
    (hall : (backToKw pos (keywordEach [⟨some "key", el, kpos⟩] X.env)).all (·.1.isSome) = true := by rfl) (hks : (backToKw pos (keywordEach [⟨some "key", el, kpos⟩] X.env)).filterMap (·.1) = [Str.ofString "key"] := by rfl) :
    PE X (.Call (.Name "sorted" p) [e] [⟨some "key", el, kpos⟩] pos) (tSortK X k ta tl) := by
  intro pins s σ H Q I h
  refine wpAny_Call_Name_kw (ld_blt I hg hm PyProof.Rows.boot_sorted ?_)
  refine callWith_builtin_kwB h1 h2 (evalArgs_kw2 hall ?_ he)
  refine thn (ha pos pins s σ H _ I h) fun us s1 ⟨vs, H1, I1, r, hw⟩ => ?_
  refine thn (pk_cons hl pk_nil pos pins s1 σ H1 (fun zs H2 => match zs with
    | [fv] => SortQ X k σ Q vs fv H2
    | _ => False) I1 hw) fun ws s2 ⟨zs, H2, I2, rz, hz⟩ => ?_
  match zs, rz, hz with
  | [fv], rz1, hz1 =>
    obtain ⟨a, f, xs, g, ev, ef, hq, hlt, lam, fin⟩ := hz1
    subst ev ef
    obtain ⟨u, rfl, ru⟩ := Vals.one r
    cases ru
    obtain ⟨z, rfl, rz2⟩ := Vals.one rz1
    have rz2 : z = Value.ref f := rz2
    subst rz2
    rw [hks]
    show wpAny (model X.prog X.w) X.A (call (.builtin "sorted") [.ref a] [(Str.ofString "key", .ref f)]) _ _ _
    obtain ⟨its, rv, pl, _⟩ := I2.list hq
    have hO := I2.froz
    have gO : ∀ b o, cellO X s2.heap b = some o → s2.heap.get? b = some o := fun b o e => (of_cellO e).2
    refine wpAny_mono (srt_call (E := X.xe) (I2.env0F hfn) hr pl.isList (by rw [← rv.length]; exact hlt) rv (lam _ hO) (Q := fun v H4 => Q v (thaw H4 (cellO X s2.heap))) fun H3 out D sm pm pw hD => ?_) (fun v s3 hc => I2.afterF hfn hc) fun _ _ h => h
    have nO : cellO X s2.heap D = none := by
      cases q : cellO X s2.heap D with
      | none => rfl
      | some o =>
        rw [sm D _ (frzC_at q)] at hD
        cases hD
    rw [thaw_upd nO]
    exact fin _ out D (same_thaw hO.off sm) pm pw (by rw [thaw_ne nO]; exact hD)
end L2

set_option Elab.async false
set_option maxRecDepth 100000
set_option maxHeartbeats 2000000
/-! The row's call, the code tables of its defs tracked from the start -/
namespace L2
open PySem PySem.W PyProof.Rows
theorem mem_at {α : Type} : ∀ {l : List (Addr × α)} {c : Addr} {o : α}, l.lookup c = some o → (c, o) ∈ l
  | [], _, _, h => by cases h
  | (b, x) :: l, c, o, h => by
    rw [List.lookup_cons] at h
    split at h
    · rename_i q
      have q := beq_iff_eq.mp q
      cases h
      subst q
      exact List.mem_cons_self
    · exact List.mem_cons_of_mem _ (mem_at h)
/-- whatever code stands in K, its table is among ts -/
def tabsIn (K : PySem.W.Frag) (ts : List Addr) : Bool := K.all fun p => match p.2.data with
  | .fields vs => (match (vs[11]? : Option Value) with | some (.ref t) => ts.contains t | _ => true)
  | _ => true
def tabsOff (K : PySem.W.Frag) (ts : List Addr) : Bool := ts.all fun t => (K.lookup t).isNone && K.any fun p => PySem.W.codeHdIn K p.1 t
theorem tabsIn_mem {K : PySem.W.Frag} {ts : List Addr} (h : tabsIn K ts = true) {c t : Addr} (e : PySem.W.codeHdIn K c t = true) : t ∈ ts := by
  unfold PySem.W.codeHdIn at e
  split at e
  · rename_i vs _ hk
    have m := List.all_eq_true.mp h _ (mem_at hk)
    simp only [Bool.and_eq_true] at e
    obtain ⟨⟨⟨⟨⟨e1, _⟩, _⟩, _⟩, _⟩, _⟩ := e
    dsimp only at m
    split at e1
    · rename_i t' h11
      rw [h11] at m
      have q : t' = t := beq_iff_eq.mp e1
      subst q
      exact List.contains_iff_mem.mp m
    · cases e1
  · cases e
theorem tabsOff_at {K : PySem.W.Frag} {ts : List Addr} (h : tabsOff K ts = true) {t : Addr} (m : t ∈ ts) : K.lookup t = none ∧ ∃ c, PySem.W.codeHdIn K c t = true := by
  have q := List.all_eq_true.mp h t m
  rw [Bool.and_eq_true] at q
  obtain ⟨p, _, e⟩ := List.any_eq_true.mp q.2
  exact ⟨Option.isNone_iff_eq_none.mp q.1, p.1, e⟩
/-- the arguments and the tables -/
def tabH (H : Hp) (ts : List Addr) : Hp := fun b => if b ∈ ts then some (.tbl #[]) else H b
theorem spec_callT {P : Program} {w : World} {K : PySem.W.Frag} {mg mb : Str → Option Value} {CX : CXT} {k : Nat} {fa : Addr} {fd : FuncData} {ps : List Str} {sp : Sp} {s₁ : Shared} {vals : List Value} {ds : List WData} {R : PySem.W.WRecords} {cl : Str → Option Addr} {d0 : WData} {ts : List Addr}
    (KX : K.In s₁.heap) (hns : s₁.heap.Ns mainGlobals mg) (hb : s₁.heap.Ns builtinsNs mb) (hbb : ∀ x : Str, x ≠ "__name__" → mb x = bootBuiltins x) (hlim : s₁.heap.NoLimit) (hg : s₁.gens = #[])
    (hbm : ∃ bm o, mg "__builtins__" = some (.ref bm) ∧ bm ≠ builtinsNs ∧ s₁.heap.get? bm = some o ∧ o.cls = .type "module" ∧ o.dict = some builtinsNs ∧ o.data = .plain)
    (hts : ∀ t ∈ ts, s₁.heap.get? t = some (PySem.W.tabObj #[])) (ht1 : tabsIn K ts = true) (ht2 : tabsOff K ts = true)
    (hwl : WellAll w.params s₁.heap vals ds) (hpl : plWs ds = true) (hwt : ∀ d ∈ ds, d.weight ≤ 1048576) (hr : Room k callerA)
    (F : ∀ base : Heap, K.In base → base.Ns mainGlobals mg → (∀ c t, PySem.W.codeHdIn K c t = true → base.get? t = none) → FnOk P w K mg base CX k fa fd ps sp) (hbind : ∀ (s : Shared) (us : List Value), us.length = ps.length → BindsTo s fd ⟨us, []⟩ (ps.zip us)) (hlen : ds.length = ps.length)
    (hsp : ∀ (H H0 : Hp) (xs : List V), Same H0 H → DwAll K H0 xs ds → sp xs H (fun v H' => Dw K H' v d0) fun _ _ _ => False)
    (hCX : ∀ H e s', CX [] H s₁ (fun _ _ _ => False) e s' → False) :
    codeAny (model P w) callerA (.call (.ref fa) ⟨vals, []⟩) (fun r s' => ∃ u as, r = .ok (.ret u) ∧ ReadsW R cl s'.heap u d0 as ∧ OldK s₁.heap s'.heap ∧ s'.os = s₁.os ∧ AllBare s'.gens) s₁ := by
  obtain ⟨A, ho, ar⟩ := area_all ds vals hwl hpl hwt
  have hO : OnlyF (argH K s₁.heap A) := argH_only ar
  have hok0 : HOk P w (argH K s₁.heap A) s₁.heap := argH_ok ar
  have hS := dw_all KX ar ds vals hwl hpl ho
  have hV := vals_toV ho
  have hKa : ∀ b u, argH K s₁.heap A b = some u → K.lookup b = none := fun b u q => (argH_is ar q).1
  -- what is tracked is a list, a tuple or a table
  have isl : ∀ b u, argH K s₁.heap A b = some u → ∃ n vs, s₁.heap.get? b = some { cls := .type n, data := .seq vs } ∧ (n = "list" ∨ n = "tuple") := fun b u q => by
    obtain ⟨_, vs, _, _, ⟨e, _⟩ | ⟨e, _⟩⟩ := argH_is ar q
    · exact ⟨_, _, e, .inl rfl⟩
    · exact ⟨_, _, e, .inr rfl⟩
  have sm : Same (argH K s₁.heap A) (tabH (argH K s₁.heap A) ts) := fun b u q => by
    unfold tabH
    rw [if_neg]
    · exact q
    · intro m
      obtain ⟨n, vs, e, _⟩ := isl b u q
      rw [hts b m] at e
      cases e
  have noT : ∀ {b : Addr} {o : Obj}, s₁.heap.get? b = some o → o.cls ≠ .none → (∀ vs n, o.data ≠ .seq vs n) → tabH (argH K s₁.heap A) ts b = none := fun {b o} e h1 h2 => by
    unfold tabH
    split
    · rename_i m
      rw [hts b m] at e
      cases e
      exact absurd rfl h1
    · cases q : argH K s₁.heap A b with
      | none => rfl
      | some u =>
        obtain ⟨n, vs, e2, _⟩ := isl b u q
        rw [e] at e2
        cases e2
        exact absurd rfl (h2 _ _)
  have noD : ∀ {b : Addr} {o : Obj} {es : Array DictEntry} {ep : Nat}, s₁.heap.get? b = some o → o.data = .dict es ep → tabH (argH K s₁.heap A) ts b = none := fun {b o es ep} e d => by
    unfold tabH
    split
    · rename_i m
      rw [hts b m] at e
      cases e
      have d' : Data.fields #[] = Data.dict es ep := d
      cases d'
    · cases q : argH K s₁.heap A b with
      | none => rfl
      | some u =>
        obtain ⟨n, vs, e2, _⟩ := isl b u q
        rw [e] at e2
        cases e2
        have d' : Data.seq vs _ = Data.dict es ep := d
        cases d'
  have hok : HOk P w (tabH (argH K s₁.heap A) ts) s₁.heap := fun b u q => by
    by_cases m : b ∈ ts
    · have q2 : tabH (argH K s₁.heap A) ts b = some (.tbl #[]) := if_pos m
      rw [q2] at q
      cases q
      exact ⟨#[], hts b m, trivial, fun pos c z => by cases z⟩
    · have q2 : tabH (argH K s₁.heap A) ts b = argH K s₁.heap A b := if_neg m
      rw [q2] at q
      exact (hok0 b u q).put sm
  have hK : ∀ b u, tabH (argH K s₁.heap A) ts b = some u → K.lookup b = none := fun b u q => by
    by_cases m : b ∈ ts
    · exact (tabsOff_at ht2 m).1
    · have q2 : tabH (argH K s₁.heap A) ts b = argH K s₁.heap A b := if_neg m
      rw [q2] at q
      exact hKa b u q
  have hT : ∀ t ∈ ts, tabH (argH K s₁.heap A) ts t = some (.tbl #[]) := fun t m => if_pos m
  have only : ∀ b u, tabH (argH K s₁.heap A) ts b = some u → (∃ o x, u = .frz o x) ∨ (b ∈ ts ∧ u = .tbl #[]) := fun b u q => by
    by_cases m : b ∈ ts
    · rw [hT b m] at q
      cases q
      exact .inr ⟨m, rfl⟩
    · have q2 : tabH (argH K s₁.heap A) ts b = argH K s₁.heap A b := if_neg m
      rw [q2] at q
      rcases hO b with z | ⟨o, x, z⟩
      · rw [z] at q; cases q
      · rw [z] at q; cases q; exact .inl ⟨o, x, rfl⟩
  generalize tabH (argH K s₁.heap A) ts = H at sm noT noD hok hK hT only
  have base_of : ∀ {b : Addr} {o : Obj}, s₁.heap.get? b = some o → H b = none → (hidT s₁.heap H).get? b = some o := fun e n => hidT_get e n
  have nsK : ∀ {b : Addr} {m : Str → Option Value}, s₁.heap.Ns b m → (hidT s₁.heap H).Ns b m := fun {b m} ⟨o, es, ep, e, d, r⟩ => ⟨o, es, ep, base_of e (noD e d), d, r⟩
  have nK : ∀ b o, K.lookup b = some o → H b = none := fun b o e => by
    cases q : H b with
    | none => rfl
    | some u =>
      rw [hK b u q] at e
      cases e
  have hKb : K.In (hidT s₁.heap H) := fun b o e => base_of (KX b o e) (nK b o e)
  have hbm2 : ∃ bm o, mg "__builtins__" = some (.ref bm) ∧ bm ≠ builtinsNs ∧ (hidT s₁.heap H).get? bm = some o ∧ o.cls = .type "module" ∧ o.dict = some builtinsNs ∧ o.data = .plain := by
    obtain ⟨bm, o, b1, b2, b3, b4, b5, b6⟩ := hbm
    exact ⟨bm, o, b1, b2, base_of b3 (noT b3 (by rw [b4]; exact fun z => nomatch z) fun vs n z => by rw [b6] at z; cases z), b4, b5, b6⟩
  have hM : Mod K mg (hidT s₁.heap H) := ⟨hKb, nsK hns, ⟨mb, nsK hb, hbb⟩, (let ⟨mc, h1, h2⟩ := hlim; ⟨mc, nsK h1, h2⟩), hbm2⟩
  have hid : ∀ c t, PySem.W.codeHdIn K c t = true → (hidT s₁.heap H).get? t = none := fun c t e => by
    cases q : (hidT s₁.heap H).get? t with
    | none => rfl
    | some o =>
      have z := (of_hidT q).2
      rw [hT t (tabsIn_mem ht1 e)] at z
      cases z
  have e0 : Env0 P w K mg (hidT s₁.heap H) callerA [] s₁ H := ⟨rfl, hM, fun b o e => of_hidT e, Nat.le_of_eq (hidT_size _ _), trivial, fun b hb => absurd (show b ∈ ([] : List Addr) from hb) (by simp), hok, .of_eq hg, fun c t e _ => ⟨_, hT t (tabsIn_mem ht1 e)⟩⟩
  have hl : vals.length = ps.length := by rw [wellAll_len hwl]; exact hlen
  refine codeAny_mono ((F _ hKb (nsK hns) hid).run callerA [] s₁ H ⟨vals, []⟩ vals (vals.map toV) _ _ hr e0 (hbind s₁ vals hl) hV (hsp H _ _ sm hS)) fun r s' x => ?_
  cases r with
  | error e => exact (hCX H e s' x).elim
  | ok fl =>
    cases fl with
    | next => exact False.elim x
    | brk => exact False.elim x
    | cont => exact False.elim x
    | ret u =>
      obtain ⟨v, H', os, bare, un, hok', r', q⟩ := x
      have keep : ∀ b o, s₁.heap.get? b = some o → b ∉ ts → s'.heap.get? b = some o := fun b o e nt => by
        cases q2 : H b with
        | none => exact un.keep b o e q2 (by intro z; exact absurd (show b ∈ ([] : List Addr) from z) (by simp)) (by simp)
        | some u2 =>
          rcases only b u2 q2 with ⟨ob, x, rfl⟩ | ⟨m, _⟩
          · have z2 := un.frzs b ob _ q2
            obtain ⟨e1, _⟩ := hok b _ q2
            obtain ⟨e2, _⟩ := hok' b _ z2
            rw [e] at e1
            cases e1
            exact e2
          · exact absurd m nt
      have tabs : ∀ t ∈ ts, ∃ qs, s'.heap.get? t = some (PySem.W.tabObj qs) := fun t m => by
        obtain ⟨more, z⟩ := un.tbls t _ (hT t m)
        obtain ⟨qs, e, _⟩ := hok' t _ z
        exact ⟨qs, e⟩
      have old : OldK s₁.heap s'.heap := by
        refine ⟨fun b o e => ?_, fun b o e => ?_⟩
        · by_cases m : b ∈ ts
          · obtain ⟨qs, e2⟩ := tabs b m
            obtain ⟨_, c, hc⟩ := tabsOff_at ht2 m
            have tb := (PySem.W.codeHd_of_K KX hc).tab (hts b m)
            rw [hts b m] at e
            cases e
            exact .inr (.inl ⟨tb.isCodeTable, rfl, #[], qs, rfl, by rw [e2]; simp⟩)
          · exact .inl (keep b o e m)
        · by_cases m : b ∈ ts
          · obtain ⟨qs, e2⟩ := tabs b m
            exact ⟨_, e2⟩
          · exact ⟨o, keep b o e m⟩
      have KX' : K.In s'.heap := fun b o e => keep b o (KX b o e) fun m => by
        rw [(tabsOff_at ht2 m).1] at e
        cases e
      obtain ⟨as, hrd⟩ := Dw.reads (R := R) (cl := cl) hok' KX' d0 v u q r'
      exact ⟨u, as, rfl, hrd, old, os, bare⟩
theorem layable_weight {ds : List WData} (h : WData.layableAll ds = true) : ∀ d ∈ ds, d.weight ≤ 1048576 := fun d hd =>
  (PySem.W.layableW_iff.mp (List.all_eq_true.mp h d hd)).2.2
theorem encAll_len : ∀ (cs : List Codec) (a : Codec.denoteAll cs), (Codec.encAll cs a).length = cs.length
  | [], _ => rfl
  | c :: cs, a => by
    show (Codec.encAll cs a.2).length + 1 = cs.length + 1
    rw [encAll_len cs a.2]
theorem walk_specT {r : OpenSpec} {k : Nat} {q : Program} {loose : List Str} {XP : (Str → Option Value) → Heap → Prop} {YP : World → Heap → Prop} {d : DefRec} {K : Params → PySem.W.Frag} {CX : CXT} {ps : List Str} {sp : PySem.W.Frag → Sp} {ts : List Addr}
    (hwell : r.wellSaid = true) (hdf : d.params.defaults = []) (hlen : r.args.length = ps.length) (hr : Room k callerA)
    (hY : ∀ (w : World) (h : Heap), YP w h → (K w.params).In h ∧ ∀ t ∈ ts, h.get? t = some (PySem.W.tabObj #[]))
    (ht : ∀ w : World, tabsIn (K w.params) ts = true ∧ tabsOff (K w.params) ts = true)
    (F : ∀ (w : World) (mg : Str → Option Value) (fa : Addr) (h : Heap), YP w h → (K w.params).In h → h.Ns mainGlobals mg → mg d.name = some (.ref fa) →
      ∃ fd : FuncData, (∀ (s : Shared) (us : List Value), us.length = ps.length → BindsTo s fd ⟨us, []⟩ (ps.zip us)) ∧
        ∀ base : Heap, (K w.params).In base → base.Ns mainGlobals mg → (∀ c t, PySem.W.codeHdIn (K w.params) c t = true → base.get? t = none) → FnOk r.prog w (K w.params) mg base CX k fa fd ps (sp (K w.params)))
    (hsp : ∀ (K : PySem.W.Frag) (H H0 : Hp) (xs : List V) (a : Codec.denoteAll r.args), Same H0 H → Codec.withinAll r.args a = true → Codec.app r.args r.asked a = true → DwAll K H0 xs (Codec.encAll r.args a) →
      sp K xs H (fun v H' => Dw K H' v (r.ret.enc (Codec.app r.args r.f a))) fun _ _ _ => False)
    (hCX : ∀ (H : Hp) (s : Shared) (e : Value) (s' : Shared), CX [] H s (fun _ _ _ => False) e s' → False) :
    PySem.W.WalkOS q loose XP YP r d [] (fun f vs => PySem.call f vs) := by
  intro w s_0 s₁ mg mb G Y fa o pm cd doc dV kV ho hd hcd hD hmg hg args vals as hpre hlay hrd hwl hlo
  obtain ⟨a, e1, e2⟩ := PySem.W.os_pre_some hpre
  obtain ⟨e3, hwi⟩ := Codec.encAll_of_decAll r.args args a e1
  subst e3
  obtain ⟨KX, TX⟩ := hY w _ Y
  obtain ⟨fd, hb, hF⟩ := F w mg fa _ Y KX G.T.g hmg
  refine PySem.W.enter_call (codeAny_mono (spec_callT (R := []) (cl := classAt s_0.heap) (d0 := r.ret.enc (Codec.app r.args r.f a)) KX G.T.g G.T.b G.T.builtins G.T.nolimit hg G.T.bmain TX (ht w).1 (ht w).2 hwl (pl_encAll _ _) (layable_weight hlay) hr hF hb (by rw [encAll_len]; exact hlen)
    (fun H H0 xs hO hS => hsp _ H H0 xs a hO hwi e2 hS) fun H e s' => hCX H s₁ e s') fun r' s' hq => ?_)
  obtain ⟨u, as', rfl, h1, h2, h3, h4⟩ := hq
  exact ⟨.inl ⟨u, _, as', rfl, fun _ => rfl, h1, (OpenSpec.post_iff hwell hwi _ _).mpr rfl, fun z => Bool.noConfusion (show false = true from z)⟩, h2, h3, h4⟩
end L2

set_option Elab.async false
set_option maxRecDepth 100000
set_option maxHeartbeats 2000000
/-! The mathematics: plain lists and numbers. Readings stand in the program the last at the end, in the specification the last first. -/
namespace Sh
open PySem PySem.Spec PyProof.Rows L2
/-- the program's list of the readings l (the last first in l) -/
def rl (l : List Nat) : List V := l.reverse.map fun (n : Nat) => V.int (n : Int)
/-- a list of ints -/
def il (l : List Int) : List V := l.map V.int
theorem rl_nil : rl [] = [] := rfl
theorem rl_cons (x : Nat) (l : List Nat) : rl (x :: l) = rl l ++ [V.int (x : Int)] := by
  unfold rl
  rw [List.reverse_cons, List.map_append]
  rfl
theorem rl_len (l : List Nat) : (rl l).length = l.length := by
  unfold rl
  rw [List.length_map, List.length_reverse]
theorem il_len (l : List Int) : (il l).length = l.length := List.length_map ..
theorem rl_last (x : Nat) (l : List Nat) : (rl (x :: l))[(rl (x :: l)).length - 1]? = some (V.int (x : Int)) := by
  rw [rl_cons, List.length_append]
  simp
theorem rl_drop (x : Nat) (l : List Nat) : (rl (x :: l)).dropLast = rl l := by
  rw [rl_cons, List.dropLast_concat]
/-- xs[-k:] -/
theorem cut_last (l : List Nat) (k : Nat) (hk : 0 < k) : cutV (rl l) (some (-(k : Int))) none = rl (l.take k) := by
  have e1 : HT.sIx (rl l).length 0 (some (-(k : Int))) = l.length - k := by
    rw [rl_len]
    show (if (-(k : Int)) < 0 then (-(k : Int) + (l.length : Int)).toNat else _) = _
    rw [if_pos (by omega)]
    omega
  unfold cutV
  rw [e1, HT.sIx_none, rl_len, List.take_of_length_le (by rw [List.length_drop, rl_len]; omega)]
  unfold rl
  rw [← List.map_drop, List.drop_reverse]
  congr 2
  by_cases h : k ≤ l.length
  · rw [show l.length - (l.length - k) = k by omega]
  · rw [List.take_of_length_le (show l.length ≤ l.length - (l.length - k) by omega), List.take_of_length_le (by omega)]
theorem prod_append : ∀ a b : List Nat, Kv348.prod (a ++ b) = Kv348.prod a * Kv348.prod b
  | [], b => by show Kv348.prod b = 1 * _; omega
  | x :: a, b => by
    show x * Kv348.prod (a ++ b) = x * Kv348.prod a * Kv348.prod b
    rw [prod_append a b, Nat.mul_assoc]
theorem prod_one (x : Nat) : Kv348.prod [x] = x := by show x * 1 = x; omega
theorem prod_rev : ∀ a : List Nat, Kv348.prod a.reverse = Kv348.prod a
  | [] => rfl
  | x :: a => by
    rw [List.reverse_cons, prod_append, prod_rev a, prod_one]
    show Kv348.prod a * x = x * Kv348.prod a
    exact Nat.mul_comm _ _
theorem take_snoc {α : Type} {l : List α} {i : Nat} {x : α} (h : l[i]? = some x) : l.take (i + 1) = l.take i ++ [x] := by
  rw [List.take_succ, h]
  rfl
theorem get_map {α β : Type} {f : α → β} {l : List α} {i : Nat} {y : β} (h : (l.map f)[i]? = some y) : ∃ x, l[i]? = some x ∧ f x = y := by
  rw [List.getElem?_map] at h
  cases e : l[i]? with
  | none => rw [e] at h; cases h
  | some x => rw [e] at h; exact ⟨x, rfl, Option.some.inj h⟩
/-- readings as they may be -/
def Rds (l : List Nat) : Prop := ∀ x ∈ l, 1 ≤ x ∧ x ≤ 1000
theorem Rds.take {l : List Nat} (h : Rds l) (k : Nat) : Rds (l.take k) := fun x hx => h x (List.mem_of_mem_take hx)
theorem Rds.cons {l : List Nat} {x : Nat} (h : Rds l) (h1 : 1 ≤ x) (h2 : x ≤ 1000) : Rds (x :: l) := fun y hy => by
  rcases List.mem_cons.mp hy with rfl | hy
  · exact ⟨h1, h2⟩
  · exact h y hy
theorem prod_bounds : ∀ {l : List Nat}, Rds l → 1 ≤ Kv348.prod l ∧ Kv348.prod l ≤ 1000 ^ l.length
  | [], _ => ⟨Nat.le_refl _, Nat.le_refl _⟩
  | x :: l, h => by
    have h1 := h x List.mem_cons_self
    have h2 := prod_bounds (l := l) fun y hy => h y (List.mem_cons_of_mem _ hy)
    constructor
    · show 1 ≤ x * Kv348.prod l
      exact Nat.le_trans (by omega) (Nat.mul_le_mul h1.1 h2.1)
    · show x * Kv348.prod l ≤ 1000 ^ (l.length + 1)
      rw [Nat.pow_succ, Nat.mul_comm (1000 ^ l.length)]
      exact Nat.mul_le_mul h1.2 h2.2
theorem five_len (l : List Nat) : (Kv348.five l).length ≤ 5 := by
  unfold Kv348.five
  rw [List.length_take]
  omega
theorem five_bounds {l : List Nat} (h : Rds l) : 1 ≤ Kv348.prod (Kv348.five l) ∧ Kv348.prod (Kv348.five l) ≤ 1000 ^ 5 := by
  have q := prod_bounds (h.take 5)
  exact ⟨q.1, Nat.le_trans q.2 (Nat.pow_le_pow_right (by omega) (five_len l))⟩
/-! the fifth root -/
theorem filter_le : ∀ (n r : Nat), ((List.range n).filter fun m => decide (m ≤ r)) = List.range (min n (r + 1))
  | 0, r => by rw [Nat.zero_min]; rfl
  | n + 1, r => by
    rw [List.range_succ, List.filter_append, filter_le n r]
    by_cases h : n ≤ r
    · rw [List.filter_cons, if_pos (by simpa using h), List.filter_nil, show min n (r + 1) = n by omega, show min (n + 1) (r + 1) = n + 1 by omega, List.range_succ]
    · rw [List.filter_cons, if_neg (by simpa using h), List.filter_nil, List.append_nil, show min n (r + 1) = min (n + 1) (r + 1) by omega]
theorem root_is {n r : Nat} (h1 : r ^ 5 ≤ n) (h2 : n < (r + 1) ^ 5) (h3 : r ≤ 1000) : Kv348.root n = r := by
  unfold Kv348.root
  have e : (fun m => decide (m ^ 5 ≤ n)) = fun m => decide (m ≤ r) := by
    funext m
    by_cases h : m ≤ r
    · rw [decide_eq_true h, decide_eq_true (Nat.le_trans (Nat.pow_le_pow_left h 5) h1)]
    · rw [decide_eq_false h, decide_eq_false]
      intro q
      exact absurd (Nat.lt_of_lt_of_le h2 (Nat.le_trans (Nat.pow_le_pow_left (show r + 1 ≤ m by omega) 5) q)) (Nat.lt_irrefl _)
  rw [e, filter_le, show min 1001 (r + 1) = r + 1 by omega, List.range_succ]
  simp
theorem above_rev (l : List Nat) (m : Nat) : ((l.take 10).reverse.filter fun x => decide (m < x)).length = Kv348.above l m := by
  unfold Kv348.above
  rw [List.filter_reverse, List.length_reverse]
theorem cast_pow5 (m : Nat) : ((m : Int)) ^ 5 = ((m ^ 5 : Nat) : Int) := by
  rw [Int.natCast_pow]
end Sh

set_option Elab.async false
set_option maxRecDepth 100000
set_option maxHeartbeats 2000000
/-! The mathematics of the calls greatest, needs, lasts, order, best -/
namespace Sh
/-! ### the greatest number of a range -/
theorem last_filter {p : Nat → Bool} {x : Nat} (hp : p x = true) : ∀ {N : Nat}, x < N → (∀ y, x < y → y < N → p y = false) → ((List.range N).filter p).getLast? = some x
  | 0, h, _ => absurd h (by omega)
  | N + 1, h, hm => by
    rw [List.range_succ, List.filter_append, List.filter_cons, List.filter_nil]
    by_cases e : x = N
    · subst e
      rw [if_pos hp, List.getLast?_append]
      rfl
    · rw [if_neg (by rw [hm N (by omega) (by omega)]; exact Bool.false_ne_true), List.append_nil]
      exact last_filter hp (by omega) fun y h1 h2 => hm y h1 (by omega)
theorem filter_none {p : Nat → Bool} {N : Nat} (h : ∀ y, y < N → p y = false) : (List.range N).filter p = [] := by
  rw [List.filter_eq_nil_iff]
  intro y hy q
  rw [h y (List.mem_range.mp hy)] at q
  cases q
theorem last_none {p : Nat → Bool} {N : Nat} (h : ∀ y, y < N → p y = false) : ((List.range N).filter p).getLast? = none := by
  rw [filter_none h]
  rfl
/-! ### the first number of a range -/
theorem find_first {p : Nat → Bool} {n : Nat} (hp : p n = true) (hm : ∀ m, m < n → p m = false) : ∀ {N : Nat}, n < N → (List.range N).find? p = some n
  | 0, h => absurd h (by omega)
  | N + 1, h => by
    rw [List.range_succ, List.find?_append]
    by_cases e : n = N
    · subst e
      have q : (List.range n).find? p = none := by
        rw [List.find?_eq_none]
        intro m hq
        rw [hm m (List.mem_range.mp hq)]
        exact Bool.false_ne_true
      rw [q, List.find?_cons, hp]
      rfl
    · rw [find_first hp hm (show n < N by omega)]
      rfl
theorem find_none {p : Nat → Bool} {N : Nat} (h : ∀ m, m < N → p m = false) : (List.range N).find? p = none := by
  rw [List.find?_eq_none]
  intro m hq
  rw [h m (List.mem_range.mp hq)]
  exact Bool.false_ne_true
/-! ### so many readings more -/
theorem more_succ : ∀ (n x : Nat) (l : List Nat), Kv348.more (n + 1) x l = x :: Kv348.more n x l
  | 0, x, l => rfl
  | n + 1, x, l => by
    show Kv348.more (n + 1) x (x :: l) = x :: Kv348.more n x (x :: l)
    exact more_succ n x (x :: l)
theorem more_len : ∀ (n x : Nat) (l : List Nat), (Kv348.more n x l).length = n + l.length
  | 0, x, l => by show l.length = 0 + l.length; omega
  | n + 1, x, l => by
    rw [more_succ, List.length_cons, more_len n x l]
    omega
theorem more_rds {x : Nat} {l : List Nat} (h : Rds l) (h1 : 1 ≤ x) (h2 : x ≤ 1000) : ∀ n, Rds (Kv348.more n x l)
  | 0 => h
  | n + 1 => by
    rw [more_succ]
    exact (more_rds h h1 h2 n).cons h1 h2
/-! ### a lesser reading makes no class worse -/
def okc (a : Kv348.Abs) (c : Nat) (l : List Nat) : Bool := a.classOf l != 0 && decide (a.classOf l ≤ c)
theorem prod_mono {x y : Nat} (h : x ≤ y) (l : List Nat) : Kv348.prod (Kv348.five (x :: l)) ≤ Kv348.prod (Kv348.five (y :: l)) := by
  show x * Kv348.prod (l.take 4) ≤ y * Kv348.prod (l.take 4)
  exact Nat.mul_le_mul_right _ h
theorem within_mono {x y m : Nat} (h : x ≤ y) {l : List Nat} (w : Kv348.within (y :: l) m = true) : Kv348.within (x :: l) m = true := by
  unfold Kv348.within at w ⊢
  exact decide_eq_true (Nat.le_trans (prod_mono h l) (of_decide_eq_true w))
theorem above_cons (x : Nat) (l : List Nat) (m : Nat) : Kv348.above (x :: l) m = (if m < x then 1 else 0) + ((l.take 9).filter fun z => decide (m < z)).length := by
  unfold Kv348.above
  rw [List.take_succ_cons, List.filter_cons]
  by_cases h : m < x
  · rw [if_pos (by simpa using h), if_pos h, List.length_cons]
    omega
  · rw [if_neg (by simpa using h), if_neg h]
    omega
theorem above_mono {x y m : Nat} (h : x ≤ y) (l : List Nat) : Kv348.above (x :: l) m ≤ Kv348.above (y :: l) m := by
  rw [above_cons, above_cons]
  by_cases h1 : m < x
  · rw [if_pos h1, if_pos (show m < y by omega)]
    exact Nat.le_refl _
  · rw [if_neg h1]
    omega
theorem class_mono (a : Kv348.Abs) {x y : Nat} (h : x ≤ y) (l : List Nat) : a.classOf (x :: l) ≤ a.classOf (y :: l) ∧ (a.classOf (x :: l) = 0 ↔ a.classOf (y :: l) = 0) := by
  unfold Kv348.Abs.classOf
  rw [List.length_cons, List.length_cons]
  by_cases h5 : l.length + 1 < 5
  · rw [if_pos h5, if_pos h5]
    exact ⟨Nat.le_refl _, Iff.rfl⟩
  rw [if_neg h5, if_neg h5]
  by_cases g : (Kv348.within (y :: l) a.good && decide (Kv348.above (y :: l) a.peak ≤ 1)) = true
  · rw [if_pos g]
    have g' := Bool.and_eq_true_iff.mp g
    have q : (Kv348.within (x :: l) a.good && decide (Kv348.above (x :: l) a.peak ≤ 1)) = true := Bool.and_eq_true_iff.mpr ⟨within_mono h g'.1, decide_eq_true (Nat.le_trans (above_mono h l) (of_decide_eq_true g'.2))⟩
    rw [if_pos q]
    exact ⟨Nat.le_refl _, Iff.rfl⟩
  · rw [if_neg g]
    by_cases f : Kv348.within (y :: l) a.fair = true
    · rw [if_pos f, if_pos (within_mono h f)]
      split <;> exact ⟨by omega, by omega⟩
    · rw [if_neg f]
      split
      · exact ⟨by omega, by omega⟩
      · split <;> exact ⟨by omega, by omega⟩
theorem okc_mono {a : Kv348.Abs} {c x y : Nat} (h : x ≤ y) {l : List Nat} (o : okc a c (y :: l) = true) : okc a c (x :: l) = true := by
  obtain ⟨q1, q2⟩ := class_mono a h l
  unfold okc at o ⊢
  have o := Bool.and_eq_true_iff.mp o
  have o1 : a.classOf (y :: l) ≠ 0 := by simpa using o.1
  have o2 := of_decide_eq_true o.2
  refine Bool.and_eq_true_iff.mpr ⟨?_, decide_eq_true (by omega)⟩
  have : a.classOf (x :: l) ≠ 0 := fun e => o1 (q2.mp e)
  simpa using this
/-! ### the better ones first -/
theorem perm_sorted {α : Type} {le : α → α → Prop} (anti : ∀ a b, le a b → le b a → a = b) : ∀ {l m : List α}, l.Perm m → l.Pairwise le → m.Pairwise le → l = m
  | [], m, p, _, _ => (List.nil_perm.mp p).symm
  | a :: l, [], p, _, _ => absurd p (by intro q; exact absurd q.length_eq (by simp))
  | a :: l, b :: m, p, h1, h2 => by
    obtain ⟨ha, h1'⟩ := List.pairwise_cons.mp h1
    obtain ⟨hb, h2'⟩ := List.pairwise_cons.mp h2
    have e : a = b := by
      rcases List.mem_cons.mp (p.mem_iff.mp (List.mem_cons_self (a := a) (l := l))) with e | ma
      · exact e
      · rcases List.mem_cons.mp (p.mem_iff.mpr (List.mem_cons_self (a := b) (l := m))) with e | mb
        · exact e.symm
        · exact anti a b (ha b mb) (hb a ma)
    subst e
    rw [perm_sorted anti (List.perm_cons a |>.mp p) h1' h2']
section
variable {a : Kv348.Abs}
theorem before_total (i j : Nat) : a.before i j = true ∨ a.before j i = true := by
  unfold Kv348.Abs.before
  cases a.full i <;> cases a.full j <;> simp <;> omega
theorem before_anti {i j : Nat} (h1 : a.before i j = true) (h2 : a.before j i = true) : i = j := by
  unfold Kv348.Abs.before at h1 h2
  cases q1 : a.full i <;> cases q2 : a.full j <;> rw [q1, q2] at h1 h2 <;> simp at h1 h2 <;> omega
theorem before_trans {i j k : Nat} (h1 : a.before i j = true) (h2 : a.before j k = true) : a.before i k = true := by
  unfold Kv348.Abs.before at h1 h2 ⊢
  cases q1 : a.full i <;> cases q2 : a.full j <;> cases q3 : a.full k <;> rw [q1, q2] at h1 <;> rw [q2, q3] at h2 <;> simp at h1 h2 ⊢ <;> omega
theorem order_sorted (l : List Nat) : (l.mergeSort a.before).Pairwise fun i j => a.before i j = true :=
  List.pairwise_mergeSort (le := a.before) (fun i j k h1 h2 => before_trans (a := a) h1 h2) (fun i j => by rcases before_total (a := a) i j with h | h <;> simp [h]) l
theorem order_is {l m : List Nat} (p : m.Perm l) (h : m.Pairwise fun i j => a.before i j = true) : l.mergeSort a.before = m :=
  perm_sorted (fun i j h1 h2 => before_anti h1 h2) ((List.mergeSort_perm l _).trans p.symm) (order_sorted l) h
/-- the first of those with five -/
theorem best_is {l : List Nat} {i : Nat} (hi : i ∈ l) (hf : a.full i = true) (hb : ∀ j ∈ l, a.full j = true → a.before i j = true) : ∃ r, (l.mergeSort a.before).filter (fun i => a.full i) = i :: r := by
  have hs := (order_sorted (a := a) l).filter (fun i => a.full i)
  have hm : i ∈ (l.mergeSort a.before).filter fun i => a.full i := List.mem_filter.mpr ⟨(List.mergeSort_perm l _).mem_iff.mpr hi, hf⟩
  cases e : (l.mergeSort a.before).filter fun i => a.full i with
  | nil => rw [e] at hm; cases hm
  | cons b r =>
    rw [e] at hs hm
    have mb : b ∈ (l.mergeSort a.before).filter fun i => a.full i := by rw [e]; exact List.mem_cons_self
    obtain ⟨m1, m2⟩ := List.mem_filter.mp mb
    have h1 : a.before i b = true := hb b ((List.mergeSort_perm l _).mem_iff.mp m1) m2
    have h2 : i = b := by
      rcases List.mem_cons.mp hm with q | q
      · exact q
      · exact before_anti h1 ((List.pairwise_cons.mp hs).1 i q)
    rw [h2]
    exact ⟨r, rfl⟩
theorem best_none {l : List Nat} (h : ∀ j ∈ l, a.full j = false) : (l.mergeSort a.before).filter (fun i => a.full i) = [] := by
  rw [List.filter_eq_nil_iff]
  intro j hj q
  rw [h j ((List.mergeSort_perm l _).mem_iff.mp hj)] at q
  cases q
end
end Sh

set_option Elab.async false
set_option maxRecDepth 100000
set_option maxHeartbeats 2000000
/-! The text by places, its scopes, the facts about the module (made by gen.py out of the linked text) -/
namespace Sh
open PySem PySem.Spec PyProof.Rows L2
def top (i : Nat) : Stmt := PySem.Challenge.pw_shorewaters_s01_answers.main.body.getD i (.Pass ⟨0, 0, 0, 0⟩)
abbrev s_Area_init : Stmt := inClass (top 24) 0
abbrev N_Area_init : List Str := ["self"]
abbrev p_Area_init : List Str := ["self"]
theorem sc_Area_init : FnScope N_Area_init p_Area_init (defScope s_Area_init) := ⟨rfl, rfl, rfl, by decide +kernel, rfl, by decide +kernel, by decide +kernel⟩
abbrev s_Waters_init : Stmt := inClass (top 25) 0
abbrev N_Waters_init : List Str := ["self"]
abbrev p_Waters_init : List Str := ["self"]
theorem sc_Waters_init : FnScope N_Waters_init p_Waters_init (defScope s_Waters_init) := ⟨rfl, rfl, rfl, by decide +kernel, rfl, by decide +kernel, by decide +kernel⟩
abbrev s_is_reading : Stmt := top 26
abbrev N_is_reading : List Str := ["x"]
abbrev p_is_reading : List Str := ["x"]
theorem sc_is_reading : FnScope N_is_reading p_is_reading (defScope s_is_reading) := ⟨rfl, rfl, rfl, by decide +kernel, rfl, by decide +kernel, by decide +kernel⟩
abbrev s_is_open_class : Stmt := top 27
abbrev N_is_open_class : List Str := ["c"]
abbrev p_is_open_class : List Str := ["c"]
theorem sc_is_open_class : FnScope N_is_open_class p_is_open_class (defScope s_is_open_class) := ⟨rfl, rfl, rfl, by decide +kernel, rfl, by decide +kernel, by decide +kernel⟩
abbrev s_has_mean : Stmt := top 28
abbrev N_has_mean : List Str := ["readings"]
abbrev p_has_mean : List Str := ["readings"]
theorem sc_has_mean : FnScope N_has_mean p_has_mean (defScope s_has_mean) := ⟨rfl, rfl, rfl, by decide +kernel, rfl, by decide +kernel, by decide +kernel⟩
abbrev s_product_of : Stmt := top 29
abbrev N_product_of : List Str := ["readings", "product", "reading"]
abbrev p_product_of : List Str := ["readings"]
theorem sc_product_of : FnScope N_product_of p_product_of (defScope s_product_of) := ⟨rfl, rfl, rfl, by decide +kernel, rfl, by decide +kernel, by decide +kernel⟩
abbrev s_greatest_that : Stmt := top 30
abbrev N_greatest_that : List Str := ["holds", "found", "beyond", "middle"]
abbrev p_greatest_that : List Str := ["holds"]
theorem sc_greatest_that : FnScope N_greatest_that p_greatest_that (defScope s_greatest_that) := ⟨rfl, rfl, rfl, by decide +kernel, rfl, by decide +kernel, by decide +kernel⟩
abbrev s_mean_of : Stmt := top 31
abbrev N_mean_of : List Str := ["readings", "product"]
abbrev p_mean_of : List Str := ["readings"]
theorem sc_mean_of : FnScope N_mean_of p_mean_of (defScope s_mean_of) := ⟨rfl, rfl, rfl, by decide +kernel, rfl, by decide +kernel, by decide +kernel⟩
abbrev s_is_within : Stmt := top 32
abbrev N_is_within : List Str := ["readings", "m"]
abbrev p_is_within : List Str := ["readings", "m"]
theorem sc_is_within : FnScope N_is_within p_is_within (defScope s_is_within) := ⟨rfl, rfl, rfl, by decide +kernel, rfl, by decide +kernel, by decide +kernel⟩
abbrev s_count_above : Stmt := top 33
abbrev N_count_above : List Str := ["readings", "m", "reading"]
abbrev p_count_above : List Str := ["readings", "m"]
theorem sc_count_above : FnScope N_count_above p_count_above (defScope s_count_above) := ⟨rfl, rfl, rfl, by decide +kernel, rfl, by decide +kernel, by decide +kernel⟩
abbrev s_is_above_peak : Stmt := top 34
abbrev N_is_above_peak : List Str := ["waters", "readings"]
abbrev p_is_above_peak : List Str := ["waters", "readings"]
theorem sc_is_above_peak : FnScope N_is_above_peak p_is_above_peak (defScope s_is_above_peak) := ⟨rfl, rfl, rfl, by decide +kernel, rfl, by decide +kernel, by decide +kernel⟩
abbrev s_class_of : Stmt := top 35
abbrev N_class_of : List Str := ["waters", "readings"]
abbrev p_class_of : List Str := ["waters", "readings"]
theorem sc_class_of : FnScope N_class_of p_class_of (defScope s_class_of) := ⟨rfl, rfl, rfl, by decide +kernel, rfl, by decide +kernel, by decide +kernel⟩
abbrev s_is_of_class : Stmt := top 36
abbrev N_is_of_class : List Str := ["waters", "readings", "c"]
abbrev p_is_of_class : List Str := ["waters", "readings", "c"]
theorem sc_is_of_class : FnScope N_is_of_class p_is_of_class (defScope s_is_of_class) := ⟨rfl, rfl, rfl, by decide +kernel, rfl, by decide +kernel, by decide +kernel⟩
abbrev s_may_open : Stmt := top 37
abbrev N_may_open : List Str := ["waters", "area"]
abbrev p_may_open : List Str := ["waters", "area"]
theorem sc_may_open : FnScope N_may_open p_may_open (defScope s_may_open) := ⟨rfl, rfl, rfl, by decide +kernel, rfl, by decide +kernel, by decide +kernel⟩
abbrev s_is_shut : Stmt := top 38
abbrev N_is_shut : List Str := ["waters", "area"]
abbrev p_is_shut : List Str := ["waters", "area"]
theorem sc_is_shut : FnScope N_is_shut p_is_shut (defScope s_is_shut) := ⟨rfl, rfl, rfl, by decide +kernel, rfl, by decide +kernel, by decide +kernel⟩
abbrev s_is_open : Stmt := top 39
abbrev N_is_open : List Str := ["waters", "area"]
abbrev p_is_open : List Str := ["waters", "area"]
theorem sc_is_open : FnScope N_is_open p_is_open (defScope s_is_open) := ⟨rfl, rfl, rfl, by decide +kernel, rfl, by decide +kernel, by decide +kernel⟩
abbrev s_open_areas : Stmt := top 40
abbrev N_open_areas : List Str := ["waters", "i", "area"]
abbrev p_open_areas : List Str := ["waters"]
theorem sc_open_areas : FnScope N_open_areas p_open_areas (defScope s_open_areas) := ⟨rfl, rfl, rfl, by decide +kernel, rfl, by decide +kernel, by decide +kernel⟩
abbrev s_shut_areas : Stmt := top 41
abbrev N_shut_areas : List Str := ["waters", "i", "area"]
abbrev p_shut_areas : List Str := ["waters"]
theorem sc_shut_areas : FnScope N_shut_areas p_shut_areas (defScope s_shut_areas) := ⟨rfl, rfl, rfl, by decide +kernel, rfl, by decide +kernel, by decide +kernel⟩
abbrev s_measured_areas : Stmt := top 42
abbrev N_measured_areas : List Str := ["waters", "measured", "i", "area"]
abbrev p_measured_areas : List Str := ["waters"]
theorem sc_measured_areas : FnScope N_measured_areas p_measured_areas (defScope s_measured_areas) := ⟨rfl, rfl, rfl, by decide +kernel, rfl, by decide +kernel, by decide +kernel⟩
abbrev s_are_bounds : Stmt := top 43
abbrev N_are_bounds : List Str := ["good", "fair", "peak"]
abbrev p_are_bounds : List Str := ["good", "fair", "peak"]
theorem sc_are_bounds : FnScope N_are_bounds p_are_bounds (defScope s_are_bounds) := ⟨rfl, rfl, rfl, by decide +kernel, rfl, by decide +kernel, by decide +kernel⟩
abbrev s_answer_begin : Stmt := top 44
abbrev N_answer_begin : List Str := ["waters", "arguments"]
abbrev p_answer_begin : List Str := ["waters", "arguments"]
theorem sc_answer_begin : FnScope N_answer_begin p_answer_begin (defScope s_answer_begin) := ⟨rfl, rfl, rfl, by decide +kernel, rfl, by decide +kernel, by decide +kernel⟩
abbrev s_answer_area : Stmt := top 45
abbrev N_answer_area : List Str := ["waters", "arguments"]
abbrev p_answer_area : List Str := ["waters", "arguments"]
theorem sc_answer_area : FnScope N_answer_area p_answer_area (defScope s_answer_area) := ⟨rfl, rfl, rfl, by decide +kernel, rfl, by decide +kernel, by decide +kernel⟩
abbrev s_answer_read : Stmt := top 46
abbrev N_answer_read : List Str := ["waters", "arguments", "area", "x", "before"]
abbrev p_answer_read : List Str := ["waters", "arguments"]
theorem sc_answer_read : FnScope N_answer_read p_answer_read (defScope s_answer_read) := ⟨rfl, rfl, rfl, by decide +kernel, rfl, by decide +kernel, by decide +kernel⟩
abbrev s_answer_back : Stmt := top 47
abbrev N_answer_back : List Str := ["waters", "arguments", "area", "taken"]
abbrev p_answer_back : List Str := ["waters", "arguments"]
theorem sc_answer_back : FnScope N_answer_back p_answer_back (defScope s_answer_back) := ⟨rfl, rfl, rfl, by decide +kernel, rfl, by decide +kernel, by decide +kernel⟩
abbrev s_answer_rainfall : Stmt := top 48
abbrev N_answer_rainfall : List Str := ["waters", "arguments", "mm", "area"]
abbrev p_answer_rainfall : List Str := ["waters", "arguments"]
theorem sc_answer_rainfall : FnScope N_answer_rainfall p_answer_rainfall (defScope s_answer_rainfall) := ⟨rfl, rfl, rfl, by decide +kernel, rfl, by decide +kernel, by decide +kernel⟩
abbrev s_answer_days : Stmt := top 49
abbrev N_answer_days : List Str := ["waters", "arguments", "n"]
abbrev p_answer_days : List Str := ["waters", "arguments"]
theorem sc_answer_days : FnScope N_answer_days p_answer_days (defScope s_answer_days) := ⟨rfl, rfl, rfl, by decide +kernel, rfl, by decide +kernel, by decide +kernel⟩
abbrev s_answer_class : Stmt := top 50
abbrev N_answer_class : List Str := ["waters", "arguments", "area"]
abbrev p_answer_class : List Str := ["waters", "arguments"]
theorem sc_answer_class : FnScope N_answer_class p_answer_class (defScope s_answer_class) := ⟨rfl, rfl, rfl, by decide +kernel, rfl, by decide +kernel, by decide +kernel⟩
abbrev s_answer_open : Stmt := top 51
abbrev N_answer_open : List Str := ["waters", "arguments", "found"]
abbrev p_answer_open : List Str := ["waters", "arguments"]
theorem sc_answer_open : FnScope N_answer_open p_answer_open (defScope s_answer_open) := ⟨rfl, rfl, rfl, by decide +kernel, rfl, by decide +kernel, by decide +kernel⟩
abbrev s_answer_shut : Stmt := top 52
abbrev N_answer_shut : List Str := ["waters", "arguments", "found"]
abbrev p_answer_shut : List Str := ["waters", "arguments"]
theorem sc_answer_shut : FnScope N_answer_shut p_answer_shut (defScope s_answer_shut) := ⟨rfl, rfl, rfl, by decide +kernel, rfl, by decide +kernel, by decide +kernel⟩
abbrev s_answer_opens : Stmt := top 53
abbrev N_answer_opens : List Str := ["waters", "arguments", "area"]
abbrev p_answer_opens : List Str := ["waters", "arguments"]
theorem sc_answer_opens : FnScope N_answer_opens p_answer_opens (defScope s_answer_opens) := ⟨rfl, rfl, rfl, by decide +kernel, rfl, by decide +kernel, by decide +kernel⟩
abbrev s_answer_mean : Stmt := top 54
abbrev N_answer_mean : List Str := ["waters", "arguments", "readings"]
abbrev p_answer_mean : List Str := ["waters", "arguments"]
theorem sc_answer_mean : FnScope N_answer_mean p_answer_mean (defScope s_answer_mean) := ⟨rfl, rfl, rfl, by decide +kernel, rfl, by decide +kernel, by decide +kernel⟩
abbrev s_answer_evenly : Stmt := top 55
abbrev N_answer_evenly : List Str := ["waters", "arguments", "readings", "total"]
abbrev p_answer_evenly : List Str := ["waters", "arguments"]
theorem sc_answer_evenly : FnScope N_answer_evenly p_answer_evenly (defScope s_answer_evenly) := ⟨rfl, rfl, rfl, by decide +kernel, rfl, by decide +kernel, by decide +kernel⟩
abbrev s_answer_greatest : Stmt := top 56
abbrev N_answer_greatest : List Str := ["waters", "arguments", "readings", "c", "found"]
abbrev p_answer_greatest : List Str := ["waters", "arguments"]
theorem sc_answer_greatest : FnScope N_answer_greatest p_answer_greatest (defScope s_answer_greatest) := ⟨rfl, rfl, rfl, by decide +kernel, rfl, by decide +kernel, by decide +kernel⟩
abbrev s_answer_would : Stmt := top 57
abbrev N_answer_would : List Str := ["waters", "arguments", "readings", "x"]
abbrev p_answer_would : List Str := ["waters", "arguments"]
theorem sc_answer_would : FnScope N_answer_would p_answer_would (defScope s_answer_would) := ⟨rfl, rfl, rfl, by decide +kernel, rfl, by decide +kernel, by decide +kernel⟩
abbrev s_answer_fewest : Stmt := top 58
abbrev N_answer_fewest : List Str := ["waters", "arguments", "wanted", "readings", "x", "c", "count"]
abbrev p_answer_fewest : List Str := ["waters", "arguments", "wanted"]
theorem sc_answer_fewest : FnScope N_answer_fewest p_answer_fewest (defScope s_answer_fewest) := ⟨rfl, rfl, rfl, by decide +kernel, rfl, by decide +kernel, by decide +kernel⟩
abbrev s_answer_needs : Stmt := top 59
abbrev N_answer_needs : List Str := ["waters", "arguments"]
abbrev p_answer_needs : List Str := ["waters", "arguments"]
theorem sc_answer_needs : FnScope N_answer_needs p_answer_needs (defScope s_answer_needs) := ⟨rfl, rfl, rfl, by decide +kernel, rfl, by decide +kernel, by decide +kernel⟩
abbrev s_answer_lasts : Stmt := top 60
abbrev N_answer_lasts : List Str := ["waters", "arguments"]
abbrev p_answer_lasts : List Str := ["waters", "arguments"]
theorem sc_answer_lasts : FnScope N_answer_lasts p_answer_lasts (defScope s_answer_lasts) := ⟨rfl, rfl, rfl, by decide +kernel, rfl, by decide +kernel, by decide +kernel⟩
abbrev s_answer_above : Stmt := top 61
abbrev N_answer_above : List Str := ["waters", "arguments", "readings", "m"]
abbrev p_answer_above : List Str := ["waters", "arguments"]
theorem sc_answer_above : FnScope N_answer_above p_answer_above (defScope s_answer_above) := ⟨rfl, rfl, rfl, by decide +kernel, rfl, by decide +kernel, by decide +kernel⟩
abbrev s_answer_worse : Stmt := top 62
abbrev N_answer_worse : List Str := ["waters", "arguments", "first", "other"]
abbrev p_answer_worse : List Str := ["waters", "arguments"]
theorem sc_answer_worse : FnScope N_answer_worse p_answer_worse (defScope s_answer_worse) := ⟨rfl, rfl, rfl, by decide +kernel, rfl, by decide +kernel, by decide +kernel⟩
abbrev s_answer_best : Stmt := top 63
abbrev N_answer_best : List Str := ["waters", "arguments", "measured"]
abbrev p_answer_best : List Str := ["waters", "arguments"]
theorem sc_answer_best : FnScope N_answer_best p_answer_best (defScope s_answer_best) := ⟨rfl, rfl, rfl, by decide +kernel, rfl, by decide +kernel, by decide +kernel⟩
abbrev s_answer_order : Stmt := top 64
abbrev N_answer_order : List Str := ["waters", "arguments", "behind", "i", "area"]
abbrev p_answer_order : List Str := ["waters", "arguments"]
theorem sc_answer_order : FnScope N_answer_order p_answer_order (defScope s_answer_order) := ⟨rfl, rfl, rfl, by decide +kernel, rfl, by decide +kernel, by decide +kernel⟩
abbrev s_answer_why : Stmt := top 65
abbrev N_answer_why : List Str := ["waters", "arguments", "area", "why"]
abbrev p_answer_why : List Str := ["waters", "arguments"]
theorem sc_answer_why : FnScope N_answer_why p_answer_why (defScope s_answer_why) := ⟨rfl, rfl, rfl, by decide +kernel, rfl, by decide +kernel, by decide +kernel⟩
abbrev s_answer_reads : Stmt := top 66
abbrev N_answer_reads : List Str := ["waters", "arguments", "shown"]
abbrev p_answer_reads : List Str := ["waters", "arguments"]
theorem sc_answer_reads : FnScope N_answer_reads p_answer_reads (defScope s_answer_reads) := ⟨rfl, rfl, rfl, by decide +kernel, rfl, by decide +kernel, by decide +kernel⟩
abbrev s_answer_state : Stmt := top 67
abbrev N_answer_state : List Str := ["waters", "arguments"]
abbrev p_answer_state : List Str := ["waters", "arguments"]
theorem sc_answer_state : FnScope N_answer_state p_answer_state (defScope s_answer_state) := ⟨rfl, rfl, rfl, by decide +kernel, rfl, by decide +kernel, by decide +kernel⟩
abbrev s_answer_call : Stmt := top 69
abbrev N_answer_call : List Str := ["waters", "number", "arguments", "call", "i", "answer"]
abbrev p_answer_call : List Str := ["waters", "number", "arguments"]
theorem sc_answer_call : FnScope N_answer_call p_answer_call (defScope s_answer_call) := ⟨rfl, rfl, rfl, by decide +kernel, rfl, by decide +kernel, by decide +kernel⟩
abbrev s_answers : Stmt := top 70
abbrev N_answers : List Str := ["calls", "waters", "told", "at", "number", "behind", "reply"]
abbrev p_answers : List Str := ["calls"]
theorem sc_answers : FnScope N_answers p_answers (defScope s_answers) := ⟨rfl, rfl, rfl, by decide +kernel, rfl, by decide +kernel, by decide +kernel⟩
/-- what the module's names stand for -/
structure Txt (mg : Str → Option Value) : Prop where
  c_NO_SUCH_AREA : ∃ t, mg "NO_SUCH_AREA" = some (.int (-2) t)
  c_TOO_FEW : ∃ t, mg "TOO_FEW" = some (.int (-6) t)
  c_NOT_BEGUN : ∃ t, mg "NOT_BEGUN" = some (.int (-11) t)
  c_OUT_OF_RANGE : ∃ t, mg "OUT_OF_RANGE" = some (.int (-22) t)
  c_TOO_MANY : ∃ t, mg "TOO_MANY" = some (.int (-28) t)
  c_NEVER : ∃ t, mg "NEVER" = some (.int (-33) t)
  c_TOO_LATE : ∃ t, mg "TOO_LATE" = some (.int (-75) t)
  c_MOST_AREAS : ∃ t, mg "MOST_AREAS" = some (.int (6) t)
  c_MOST_READINGS : ∃ t, mg "MOST_READINGS" = some (.int (60) t)
  c_GREATEST_READING : ∃ t, mg "GREATEST_READING" = some (.int (1000) t)
  c_MOST_RAIN : ∃ t, mg "MOST_RAIN" = some (.int (1000) t)
  c_MOST_DAYS_SHUT : ∃ t, mg "MOST_DAYS_SHUT" = some (.int (60) t)
  c_MOST_DAYS_AT_ONCE : ∃ t, mg "MOST_DAYS_AT_ONCE" = some (.int (100) t)
  c_LAST_DAY : ∃ t, mg "LAST_DAY" = some (.int (10000) t)
  c_MEAN_OF : ∃ t, mg "MEAN_OF" = some (.int (5) t)
  c_LOOKED_AT : ∃ t, mg "LOOKED_AT" = some (.int (10) t)
  c_MOST_ABOVE_PEAK : ∃ t, mg "MOST_ABOVE_PEAK" = some (.int (1) t)
  c_MOST_TRIED : ∃ t, mg "MOST_TRIED" = some (.int (10) t)
  c_NOT_WITHIN_GOOD : ∃ t, mg "NOT_WITHIN_GOOD" = some (.int (1) t)
  c_ABOVE_PEAK : ∃ t, mg "ABOVE_PEAK" = some (.int (2) t)
  c_NOT_WITHIN_FAIR : ∃ t, mg "NOT_WITHIN_FAIR" = some (.int (4) t)
  c_SHUT_BY_RAIN : ∃ t, mg "SHUT_BY_RAIN" = some (.int (8) t)
  c_BEGIN : ∃ t, mg "BEGIN" = some (.int (0) t)
  b_enumerate : mg "enumerate" = none
  b_len : mg "len" = none
  b_list : mg "list" = none
  b_max : mg "max" = none
  b_range : mg "range" = none
  b_reversed : mg "reversed" = none
  b_sorted : mg "sorted" = none
  b_sum : mg "sum" = none
end Sh

set_option Elab.async false
set_option maxRecDepth 100000
/-! the written part of the heap behind the top, the defs by their places in the text -/
noncomputable def Sh.K2 : PySem.Params → PySem.W.Frag := fun P =>
  List.cons (Prod.mk (nat_lit 2) (PySem.Obj.mk PySem.Value.none Option.none (PySem.Data.dict (List.toArray List.nil)) (List.toArray List.nil))) (
  List.cons (Prod.mk (nat_lit 3) (PySem.Obj.mk (PySem.Value.type "dict") Option.none (PySem.Data.dict (List.toArray (List.cons (PySem.DictEntry.mk (PySem.PyData.keyHash P (PySem.Str.ofString "__name__")) (PySem.Value.str (PySem.Str.ofString "__name__") 165) (PySem.Value.str (PySem.Str.ofString "shorewaters.waters") 187)) (List.cons (PySem.DictEntry.mk (PySem.PyData.keyHash P (PySem.Str.ofString "__doc__")) (PySem.Value.str (PySem.Str.ofString "__doc__") 166) PySem.Value.none) (List.cons (PySem.DictEntry.mk (PySem.PyData.keyHash P (PySem.Str.ofString "__package__")) (PySem.Value.str (PySem.Str.ofString "__package__") 167) PySem.Value.none) (List.cons (PySem.DictEntry.mk (PySem.PyData.keyHash P (PySem.Str.ofString "__loader__")) (PySem.Value.str (PySem.Str.ofString "__loader__") 168) (PySem.Value.builtin "__main__.__loader__#opaque")) (List.cons (PySem.DictEntry.mk (PySem.PyData.keyHash P (PySem.Str.ofString "__spec__")) (PySem.Value.str (PySem.Str.ofString "__spec__") 169) PySem.Value.none) (List.cons (PySem.DictEntry.mk (PySem.PyData.keyHash P (PySem.Str.ofString "__annotations__")) (PySem.Value.str (PySem.Str.ofString "__annotations__") 170) (PySem.Value.ref 6)) (List.cons (PySem.DictEntry.mk (PySem.PyData.keyHash P (PySem.Str.ofString "__builtins__")) (PySem.Value.str (PySem.Str.ofString "__builtins__") 171) (PySem.Value.ref 4)) (List.cons (PySem.DictEntry.mk (PySem.PyData.keyHash P (PySem.Str.ofString "__file__")) (PySem.Value.str (PySem.Str.ofString "__file__") 173) (PySem.Value.str (PySem.Str.ofString "/claim/cut.py") 172)) (List.cons (PySem.DictEntry.mk (PySem.PyData.keyHash P (PySem.Str.ofString "__cached__")) (PySem.Value.str (PySem.Str.ofString "__cached__") 174) PySem.Value.none) (List.cons (PySem.DictEntry.mk (PySem.PyData.keyHash P (PySem.Str.ofString "NO_SUCH_AREA")) (PySem.Value.str (PySem.Str.ofString "NO_SUCH_AREA") 191) (PySem.Value.int (-2) 190)) (List.cons (PySem.DictEntry.mk (PySem.PyData.keyHash P (PySem.Str.ofString "TOO_FEW")) (PySem.Value.str (PySem.Str.ofString "TOO_FEW") 194) (PySem.Value.int (-6) 193)) (List.cons (PySem.DictEntry.mk (PySem.PyData.keyHash P (PySem.Str.ofString "NOT_BEGUN")) (PySem.Value.str (PySem.Str.ofString "NOT_BEGUN") 197) (PySem.Value.int (-11) 196)) (List.cons (PySem.DictEntry.mk (PySem.PyData.keyHash P (PySem.Str.ofString "OUT_OF_RANGE")) (PySem.Value.str (PySem.Str.ofString "OUT_OF_RANGE") 200) (PySem.Value.int (-22) 199)) (List.cons (PySem.DictEntry.mk (PySem.PyData.keyHash P (PySem.Str.ofString "TOO_MANY")) (PySem.Value.str (PySem.Str.ofString "TOO_MANY") 203) (PySem.Value.int (-28) 202)) (List.cons (PySem.DictEntry.mk (PySem.PyData.keyHash P (PySem.Str.ofString "NEVER")) (PySem.Value.str (PySem.Str.ofString "NEVER") 206) (PySem.Value.int (-33) 205)) (List.cons (PySem.DictEntry.mk (PySem.PyData.keyHash P (PySem.Str.ofString "TOO_LATE")) (PySem.Value.str (PySem.Str.ofString "TOO_LATE") 209) (PySem.Value.int (-75) 208)) (List.cons (PySem.DictEntry.mk (PySem.PyData.keyHash P (PySem.Str.ofString "MOST_AREAS")) (PySem.Value.str (PySem.Str.ofString "MOST_AREAS") 211) (PySem.Value.int 6 210)) (List.cons (PySem.DictEntry.mk (PySem.PyData.keyHash P (PySem.Str.ofString "MOST_READINGS")) (PySem.Value.str (PySem.Str.ofString "MOST_READINGS") 213) (PySem.Value.int 60 212)) (List.cons (PySem.DictEntry.mk (PySem.PyData.keyHash P (PySem.Str.ofString "GREATEST_READING")) (PySem.Value.str (PySem.Str.ofString "GREATEST_READING") 215) (PySem.Value.int 1000 214)) (List.cons (PySem.DictEntry.mk (PySem.PyData.keyHash P (PySem.Str.ofString "MOST_RAIN")) (PySem.Value.str (PySem.Str.ofString "MOST_RAIN") 217) (PySem.Value.int 1000 216)) (List.cons (PySem.DictEntry.mk (PySem.PyData.keyHash P (PySem.Str.ofString "MOST_DAYS_SHUT")) (PySem.Value.str (PySem.Str.ofString "MOST_DAYS_SHUT") 219) (PySem.Value.int 60 218)) (List.cons (PySem.DictEntry.mk (PySem.PyData.keyHash P (PySem.Str.ofString "MOST_DAYS_AT_ONCE")) (PySem.Value.str (PySem.Str.ofString "MOST_DAYS_AT_ONCE") 221) (PySem.Value.int 100 220)) (List.cons (PySem.DictEntry.mk (PySem.PyData.keyHash P (PySem.Str.ofString "LAST_DAY")) (PySem.Value.str (PySem.Str.ofString "LAST_DAY") 223) (PySem.Value.int 10000 222)) (List.cons (PySem.DictEntry.mk (PySem.PyData.keyHash P (PySem.Str.ofString "MEAN_OF")) (PySem.Value.str (PySem.Str.ofString "MEAN_OF") 225) (PySem.Value.int 5 224)) (List.cons (PySem.DictEntry.mk (PySem.PyData.keyHash P (PySem.Str.ofString "LOOKED_AT")) (PySem.Value.str (PySem.Str.ofString "LOOKED_AT") 227) (PySem.Value.int 10 226)) (List.cons (PySem.DictEntry.mk (PySem.PyData.keyHash P (PySem.Str.ofString "MOST_ABOVE_PEAK")) (PySem.Value.str (PySem.Str.ofString "MOST_ABOVE_PEAK") 229) (PySem.Value.int 1 228)) (List.cons (PySem.DictEntry.mk (PySem.PyData.keyHash P (PySem.Str.ofString "MOST_TRIED")) (PySem.Value.str (PySem.Str.ofString "MOST_TRIED") 231) (PySem.Value.int 10 230)) (List.cons (PySem.DictEntry.mk (PySem.PyData.keyHash P (PySem.Str.ofString "NOT_WITHIN_GOOD")) (PySem.Value.str (PySem.Str.ofString "NOT_WITHIN_GOOD") 233) (PySem.Value.int 1 232)) (List.cons (PySem.DictEntry.mk (PySem.PyData.keyHash P (PySem.Str.ofString "ABOVE_PEAK")) (PySem.Value.str (PySem.Str.ofString "ABOVE_PEAK") 235) (PySem.Value.int 2 234)) (List.cons (PySem.DictEntry.mk (PySem.PyData.keyHash P (PySem.Str.ofString "NOT_WITHIN_FAIR")) (PySem.Value.str (PySem.Str.ofString "NOT_WITHIN_FAIR") 237) (PySem.Value.int 4 236)) (List.cons (PySem.DictEntry.mk (PySem.PyData.keyHash P (PySem.Str.ofString "SHUT_BY_RAIN")) (PySem.Value.str (PySem.Str.ofString "SHUT_BY_RAIN") 239) (PySem.Value.int 8 238)) (List.cons (PySem.DictEntry.mk (PySem.PyData.keyHash P (PySem.Str.ofString "BEGIN")) (PySem.Value.str (PySem.Str.ofString "BEGIN") 241) (PySem.Value.int 0 240)) (List.cons (PySem.DictEntry.mk (PySem.PyData.keyHash P (PySem.Str.ofString "Area")) (PySem.Value.str (PySem.Str.ofString "Area") 270) (PySem.Value.ref 31)) (List.cons (PySem.DictEntry.mk (PySem.PyData.keyHash P (PySem.Str.ofString "Waters")) (PySem.Value.str (PySem.Str.ofString "Waters") 305) (PySem.Value.ref 52)) (List.cons (PySem.DictEntry.mk (PySem.PyData.keyHash P (PySem.Str.ofString "is_reading")) (PySem.Value.str (PySem.Str.ofString "is_reading") 312) (PySem.Value.ref 63)) (List.cons (PySem.DictEntry.mk (PySem.PyData.keyHash P (PySem.Str.ofString "is_open_class")) (PySem.Value.str (PySem.Str.ofString "is_open_class") 319) (PySem.Value.ref 70)) (List.cons (PySem.DictEntry.mk (PySem.PyData.keyHash P (PySem.Str.ofString "has_mean")) (PySem.Value.str (PySem.Str.ofString "has_mean") 326) (PySem.Value.ref 77)) (List.cons (PySem.DictEntry.mk (PySem.PyData.keyHash P (PySem.Str.ofString "product_of")) (PySem.Value.str (PySem.Str.ofString "product_of") 335) (PySem.Value.ref 84)) (List.cons (PySem.DictEntry.mk (PySem.PyData.keyHash P (PySem.Str.ofString "greatest_that")) (PySem.Value.str (PySem.Str.ofString "greatest_that") 345) (PySem.Value.ref 91)) (List.cons (PySem.DictEntry.mk (PySem.PyData.keyHash P (PySem.Str.ofString "mean_of")) (PySem.Value.str (PySem.Str.ofString "mean_of") 353) (PySem.Value.ref 98)) (List.cons (PySem.DictEntry.mk (PySem.PyData.keyHash P (PySem.Str.ofString "is_within")) (PySem.Value.str (PySem.Str.ofString "is_within") 361) (PySem.Value.ref 105)) (List.cons (PySem.DictEntry.mk (PySem.PyData.keyHash P (PySem.Str.ofString "count_above")) (PySem.Value.str (PySem.Str.ofString "count_above") 367) (PySem.Value.ref 110)) (List.cons (PySem.DictEntry.mk (PySem.PyData.keyHash P (PySem.Str.ofString "is_above_peak")) (PySem.Value.str (PySem.Str.ofString "is_above_peak") 375) (PySem.Value.ref 117)) (List.cons (PySem.DictEntry.mk (PySem.PyData.keyHash P (PySem.Str.ofString "class_of")) (PySem.Value.str (PySem.Str.ofString "class_of") 383) (PySem.Value.ref 124)) (List.cons (PySem.DictEntry.mk (PySem.PyData.keyHash P (PySem.Str.ofString "is_of_class")) (PySem.Value.str (PySem.Str.ofString "is_of_class") 392) (PySem.Value.ref 131)) (List.cons (PySem.DictEntry.mk (PySem.PyData.keyHash P (PySem.Str.ofString "may_open")) (PySem.Value.str (PySem.Str.ofString "may_open") 400) (PySem.Value.ref 138)) (List.cons (PySem.DictEntry.mk (PySem.PyData.keyHash P (PySem.Str.ofString "is_shut")) (PySem.Value.str (PySem.Str.ofString "is_shut") 408) (PySem.Value.ref 145)) (List.cons (PySem.DictEntry.mk (PySem.PyData.keyHash P (PySem.Str.ofString "is_open")) (PySem.Value.str (PySem.Str.ofString "is_open") 416) (PySem.Value.ref 152)) (List.cons (PySem.DictEntry.mk (PySem.PyData.keyHash P (PySem.Str.ofString "open_areas")) (PySem.Value.str (PySem.Str.ofString "open_areas") 422) (PySem.Value.ref 157)) (List.cons (PySem.DictEntry.mk (PySem.PyData.keyHash P (PySem.Str.ofString "shut_areas")) (PySem.Value.str (PySem.Str.ofString "shut_areas") 428) (PySem.Value.ref 162)) (List.cons (PySem.DictEntry.mk (PySem.PyData.keyHash P (PySem.Str.ofString "measured_areas")) (PySem.Value.str (PySem.Str.ofString "measured_areas") 434) (PySem.Value.ref 167)) (List.cons (PySem.DictEntry.mk (PySem.PyData.keyHash P (PySem.Str.ofString "are_bounds")) (PySem.Value.str (PySem.Str.ofString "are_bounds") 443) (PySem.Value.ref 174)) (List.cons (PySem.DictEntry.mk (PySem.PyData.keyHash P (PySem.Str.ofString "answer_begin")) (PySem.Value.str (PySem.Str.ofString "answer_begin") 451) (PySem.Value.ref 181)) (List.cons (PySem.DictEntry.mk (PySem.PyData.keyHash P (PySem.Str.ofString "answer_area")) (PySem.Value.str (PySem.Str.ofString "answer_area") 459) (PySem.Value.ref 188)) (List.cons (PySem.DictEntry.mk (PySem.PyData.keyHash P (PySem.Str.ofString "answer_read")) (PySem.Value.str (PySem.Str.ofString "answer_read") 470) (PySem.Value.ref 195)) (List.cons (PySem.DictEntry.mk (PySem.PyData.keyHash P (PySem.Str.ofString "answer_back")) (PySem.Value.str (PySem.Str.ofString "answer_back") 480) (PySem.Value.ref 202)) (List.cons (PySem.DictEntry.mk (PySem.PyData.keyHash P (PySem.Str.ofString "answer_rainfall")) (PySem.Value.str (PySem.Str.ofString "answer_rainfall") 490) (PySem.Value.ref 209)) (List.cons (PySem.DictEntry.mk (PySem.PyData.keyHash P (PySem.Str.ofString "answer_days")) (PySem.Value.str (PySem.Str.ofString "answer_days") 499) (PySem.Value.ref 216)) (List.cons (PySem.DictEntry.mk (PySem.PyData.keyHash P (PySem.Str.ofString "answer_class")) (PySem.Value.str (PySem.Str.ofString "answer_class") 508) (PySem.Value.ref 223)) (List.cons (PySem.DictEntry.mk (PySem.PyData.keyHash P (PySem.Str.ofString "answer_open")) (PySem.Value.str (PySem.Str.ofString "answer_open") 517) (PySem.Value.ref 230)) (List.cons (PySem.DictEntry.mk (PySem.PyData.keyHash P (PySem.Str.ofString "answer_shut")) (PySem.Value.str (PySem.Str.ofString "answer_shut") 526) (PySem.Value.ref 237)) (List.cons (PySem.DictEntry.mk (PySem.PyData.keyHash P (PySem.Str.ofString "answer_opens")) (PySem.Value.str (PySem.Str.ofString "answer_opens") 535) (PySem.Value.ref 244)) (List.cons (PySem.DictEntry.mk (PySem.PyData.keyHash P (PySem.Str.ofString "answer_mean")) (PySem.Value.str (PySem.Str.ofString "answer_mean") 544) (PySem.Value.ref 251)) (List.cons (PySem.DictEntry.mk (PySem.PyData.keyHash P (PySem.Str.ofString "answer_evenly")) (PySem.Value.str (PySem.Str.ofString "answer_evenly") 554) (PySem.Value.ref 258)) (List.cons (PySem.DictEntry.mk (PySem.PyData.keyHash P (PySem.Str.ofString "answer_greatest")) (PySem.Value.str (PySem.Str.ofString "answer_greatest") 566) (PySem.Value.ref 265)) (List.cons (PySem.DictEntry.mk (PySem.PyData.keyHash P (PySem.Str.ofString "answer_would")) (PySem.Value.str (PySem.Str.ofString "answer_would") 576) (PySem.Value.ref 272)) (List.cons (PySem.DictEntry.mk (PySem.PyData.keyHash P (PySem.Str.ofString "answer_fewest")) (PySem.Value.str (PySem.Str.ofString "answer_fewest") 589) (PySem.Value.ref 279)) (List.cons (PySem.DictEntry.mk (PySem.PyData.keyHash P (PySem.Str.ofString "answer_needs")) (PySem.Value.str (PySem.Str.ofString "answer_needs") 597) (PySem.Value.ref 286)) (List.cons (PySem.DictEntry.mk (PySem.PyData.keyHash P (PySem.Str.ofString "answer_lasts")) (PySem.Value.str (PySem.Str.ofString "answer_lasts") 605) (PySem.Value.ref 293)) (List.cons (PySem.DictEntry.mk (PySem.PyData.keyHash P (PySem.Str.ofString "answer_above")) (PySem.Value.str (PySem.Str.ofString "answer_above") 615) (PySem.Value.ref 300)) (List.cons (PySem.DictEntry.mk (PySem.PyData.keyHash P (PySem.Str.ofString "answer_worse")) (PySem.Value.str (PySem.Str.ofString "answer_worse") 625) (PySem.Value.ref 307)) (List.cons (PySem.DictEntry.mk (PySem.PyData.keyHash P (PySem.Str.ofString "answer_best")) (PySem.Value.str (PySem.Str.ofString "answer_best") 634) (PySem.Value.ref 314)) (List.cons (PySem.DictEntry.mk (PySem.PyData.keyHash P (PySem.Str.ofString "answer_order")) (PySem.Value.str (PySem.Str.ofString "answer_order") 640) (PySem.Value.ref 319)) (List.cons (PySem.DictEntry.mk (PySem.PyData.keyHash P (PySem.Str.ofString "answer_why")) (PySem.Value.str (PySem.Str.ofString "answer_why") 650) (PySem.Value.ref 326)) (List.cons (PySem.DictEntry.mk (PySem.PyData.keyHash P (PySem.Str.ofString "answer_reads")) (PySem.Value.str (PySem.Str.ofString "answer_reads") 659) (PySem.Value.ref 333)) (List.cons (PySem.DictEntry.mk (PySem.PyData.keyHash P (PySem.Str.ofString "answer_state")) (PySem.Value.str (PySem.Str.ofString "answer_state") 667) (PySem.Value.ref 340)) (List.cons (PySem.DictEntry.mk (PySem.PyData.keyHash P (PySem.Str.ofString "CALLS")) (PySem.Value.str (PySem.Str.ofString "CALLS") 714) (PySem.Value.ref 364)) (List.cons (PySem.DictEntry.mk (PySem.PyData.keyHash P (PySem.Str.ofString "answer_call")) (PySem.Value.str (PySem.Str.ofString "answer_call") 726) (PySem.Value.ref 371)) (List.cons (PySem.DictEntry.mk (PySem.PyData.keyHash P (PySem.Str.ofString "answers")) (PySem.Value.str (PySem.Str.ofString "answers") 739) (PySem.Value.ref 378)) List.nil)))))))))))))))))))))))))))))))))))))))))))))))))))))))))))))))))))))))))))))))) 79) (List.toArray List.nil))) (
  List.cons (Prod.mk (nat_lit 27) (PySem.Obj.mk (PySem.Value.type "code") Option.none (PySem.Data.fields (List.toArray (List.cons (PySem.Value.str (PySem.Str.ofString "__init__") 254) (List.cons (PySem.Value.str (PySem.Str.ofString "Area.__init__") 255) (List.cons (PySem.Value.str (PySem.Str.ofString "/claim/cut.py") 256) (List.cons (PySem.Value.int 27 0) (List.cons (PySem.Value.int 1 0) (List.cons (PySem.Value.int 0 0) (List.cons (PySem.Value.int 0 0) (List.cons (PySem.Value.int 3 0) (List.cons (PySem.Value.ref 22) (List.cons (PySem.Value.bool Bool.true) (List.cons (PySem.Value.int 181 0) (List.cons (PySem.Value.ref 23) (List.cons PySem.Value.none (List.cons (PySem.Value.ref 24) (List.cons (PySem.Value.ref 25) (List.cons (PySem.Value.ref 26) (List.cons (PySem.Value.int 258 0) (List.cons (PySem.Value.int 27 0) (List.cons (PySem.Value.str (PySem.Str.ofString "/claim/cut.py") 259) List.nil))))))))))))))))))))) (List.toArray List.nil))) (
  List.cons (Prod.mk (nat_lit 28) (PySem.Obj.mk (PySem.Value.type "function") Option.none (PySem.Data.func (PySem.FuncData.mk (PySem.Str.ofString "__init__") (PySem.Str.ofString "Area.__init__") (L2.defArgs Sh.s_Area_init) (PySem.FuncBody.stmts (L2.defBody Sh.s_Area_init)) (L2.defScope Sh.s_Area_init) 3 List.nil PySem.Value.none PySem.Value.none PySem.Value.none (PySem.Value.str (PySem.Str.ofString "shorewaters.waters") 187) Option.none (PySem.Value.ref 27) PySem.Value.none 0)) (List.toArray List.nil))) (
  List.cons (Prod.mk (nat_lit 30) (PySem.Obj.mk (PySem.Value.type "dict") Option.none (PySem.Data.dict (List.toArray (List.cons (PySem.DictEntry.mk (PySem.PyData.keyHash P (PySem.Str.ofString "__module__")) (PySem.Value.str (PySem.Str.ofString "__module__") 249) (PySem.Value.str (PySem.Str.ofString "shorewaters.waters") 187)) (List.cons (PySem.DictEntry.mk (PySem.PyData.keyHash P (PySem.Str.ofString "__firstlineno__")) (PySem.Value.str (PySem.Str.ofString "__firstlineno__") 253) (PySem.Value.int 25 252)) (List.cons (PySem.DictEntry.mk (PySem.PyData.keyHash P (PySem.Str.ofString "__init__")) (PySem.Value.str (PySem.Str.ofString "__init__") 260) (PySem.Value.ref 28)) (List.cons (PySem.DictEntry.mk (PySem.PyData.keyHash P (PySem.Str.ofString "__static_attributes__")) (PySem.Value.str (PySem.Str.ofString "__static_attributes__") 263) (PySem.Value.ref 29)) (List.cons (PySem.DictEntry.mk (PySem.PyData.keyHash P (PySem.Str.ofString "__dict__")) (PySem.Value.str (PySem.Str.ofString "__dict__") 265) (PySem.Value.ref 32)) (List.cons (PySem.DictEntry.mk (PySem.PyData.keyHash P (PySem.Str.ofString "__weakref__")) (PySem.Value.str (PySem.Str.ofString "__weakref__") 267) (PySem.Value.ref 33)) (List.cons (PySem.DictEntry.mk (PySem.PyData.keyHash P (PySem.Str.ofString "__doc__")) (PySem.Value.str (PySem.Str.ofString "__doc__") 268) PySem.Value.none) List.nil)))))))) 4) (List.toArray List.nil))) (
  List.cons (Prod.mk (nat_lit 31) (PySem.Obj.mk (PySem.Value.type "type") Option.none (PySem.Data.cls (PySem.ClassData.mk (PySem.Str.ofString "Area") (List.cons (PySem.Value.type "object") List.nil) (List.cons (PySem.Value.ref 31) (List.cons (PySem.Value.type "object") List.nil)) 30 (PySem.Str.ofString "Area") Bool.true List.nil List.nil Bool.false Option.none Bool.false)) (List.toArray (List.cons Option.none (List.cons Option.none (List.cons (Option.some (PySem.Value.str (PySem.Str.ofString "Area") 242)) (List.cons (Option.some (PySem.Value.str (PySem.Str.ofString "Area") 250)) (List.cons (Option.some (PySem.Value.builtin "object.__new__")) (List.cons (Option.some (PySem.Value.bool Bool.true)) List.nil))))))))) (
  List.cons (Prod.mk (nat_lit 32) (PySem.Obj.mk (PySem.Value.type "getset_descriptor") Option.none (PySem.Data.fields (List.toArray (List.cons (PySem.Value.str (PySem.Str.ofString "__dict__") 264) (List.cons (PySem.Value.ref 31) (List.cons (PySem.Value.builtin "function.__dict__") (List.cons (PySem.Value.builtin "function.__dict__#set") List.nil)))))) (List.toArray List.nil))) (
  List.cons (Prod.mk (nat_lit 33) (PySem.Obj.mk (PySem.Value.type "getset_descriptor") Option.none (PySem.Data.fields (List.toArray (List.cons (PySem.Value.str (PySem.Str.ofString "__weakref__") 266) (List.cons (PySem.Value.ref 31) (List.cons (PySem.Value.builtin "ExceptionGroup.__weakref__") (List.cons PySem.Value.none List.nil)))))) (List.toArray List.nil))) (
  List.cons (Prod.mk (nat_lit 48) (PySem.Obj.mk (PySem.Value.type "code") Option.none (PySem.Data.fields (List.toArray (List.cons (PySem.Value.str (PySem.Str.ofString "__init__") 283) (List.cons (PySem.Value.str (PySem.Str.ofString "Waters.__init__") 284) (List.cons (PySem.Value.str (PySem.Str.ofString "/claim/cut.py") 285) (List.cons (PySem.Value.int 32 0) (List.cons (PySem.Value.int 1 0) (List.cons (PySem.Value.int 0 0) (List.cons (PySem.Value.int 0 0) (List.cons (PySem.Value.int 3 0) (List.cons (PySem.Value.ref 43) (List.cons (PySem.Value.bool Bool.true) (List.cons (PySem.Value.int 181 0) (List.cons (PySem.Value.ref 44) (List.cons PySem.Value.none (List.cons (PySem.Value.ref 45) (List.cons (PySem.Value.ref 46) (List.cons (PySem.Value.ref 47) (List.cons (PySem.Value.int 287 0) (List.cons (PySem.Value.int 32 0) (List.cons (PySem.Value.str (PySem.Str.ofString "/claim/cut.py") 288) List.nil))))))))))))))))))))) (List.toArray List.nil))) (
  List.cons (Prod.mk (nat_lit 49) (PySem.Obj.mk (PySem.Value.type "function") Option.none (PySem.Data.func (PySem.FuncData.mk (PySem.Str.ofString "__init__") (PySem.Str.ofString "Waters.__init__") (L2.defArgs Sh.s_Waters_init) (PySem.FuncBody.stmts (L2.defBody Sh.s_Waters_init)) (L2.defScope Sh.s_Waters_init) 3 List.nil PySem.Value.none PySem.Value.none PySem.Value.none (PySem.Value.str (PySem.Str.ofString "shorewaters.waters") 187) Option.none (PySem.Value.ref 48) PySem.Value.none 0)) (List.toArray List.nil))) (
  List.cons (Prod.mk (nat_lit 51) (PySem.Obj.mk (PySem.Value.type "dict") Option.none (PySem.Data.dict (List.toArray (List.cons (PySem.DictEntry.mk (PySem.PyData.keyHash P (PySem.Str.ofString "__module__")) (PySem.Value.str (PySem.Str.ofString "__module__") 278) (PySem.Value.str (PySem.Str.ofString "shorewaters.waters") 187)) (List.cons (PySem.DictEntry.mk (PySem.PyData.keyHash P (PySem.Str.ofString "__firstlineno__")) (PySem.Value.str (PySem.Str.ofString "__firstlineno__") 282) (PySem.Value.int 30 281)) (List.cons (PySem.DictEntry.mk (PySem.PyData.keyHash P (PySem.Str.ofString "__init__")) (PySem.Value.str (PySem.Str.ofString "__init__") 289) (PySem.Value.ref 49)) (List.cons (PySem.DictEntry.mk (PySem.PyData.keyHash P (PySem.Str.ofString "__static_attributes__")) (PySem.Value.str (PySem.Str.ofString "__static_attributes__") 298) (PySem.Value.ref 50)) (List.cons (PySem.DictEntry.mk (PySem.PyData.keyHash P (PySem.Str.ofString "__dict__")) (PySem.Value.str (PySem.Str.ofString "__dict__") 300) (PySem.Value.ref 53)) (List.cons (PySem.DictEntry.mk (PySem.PyData.keyHash P (PySem.Str.ofString "__weakref__")) (PySem.Value.str (PySem.Str.ofString "__weakref__") 302) (PySem.Value.ref 54)) (List.cons (PySem.DictEntry.mk (PySem.PyData.keyHash P (PySem.Str.ofString "__doc__")) (PySem.Value.str (PySem.Str.ofString "__doc__") 303) PySem.Value.none) List.nil)))))))) 4) (List.toArray List.nil))) (
  List.cons (Prod.mk (nat_lit 52) (PySem.Obj.mk (PySem.Value.type "type") Option.none (PySem.Data.cls (PySem.ClassData.mk (PySem.Str.ofString "Waters") (List.cons (PySem.Value.type "object") List.nil) (List.cons (PySem.Value.ref 52) (List.cons (PySem.Value.type "object") List.nil)) 51 (PySem.Str.ofString "Waters") Bool.true List.nil List.nil Bool.false Option.none Bool.false)) (List.toArray (List.cons Option.none (List.cons Option.none (List.cons (Option.some (PySem.Value.str (PySem.Str.ofString "Waters") 271)) (List.cons (Option.some (PySem.Value.str (PySem.Str.ofString "Waters") 279)) (List.cons (Option.some (PySem.Value.builtin "object.__new__")) (List.cons (Option.some (PySem.Value.bool Bool.true)) List.nil))))))))) (
  List.cons (Prod.mk (nat_lit 53) (PySem.Obj.mk (PySem.Value.type "getset_descriptor") Option.none (PySem.Data.fields (List.toArray (List.cons (PySem.Value.str (PySem.Str.ofString "__dict__") 299) (List.cons (PySem.Value.ref 52) (List.cons (PySem.Value.builtin "function.__dict__") (List.cons (PySem.Value.builtin "function.__dict__#set") List.nil)))))) (List.toArray List.nil))) (
  List.cons (Prod.mk (nat_lit 54) (PySem.Obj.mk (PySem.Value.type "getset_descriptor") Option.none (PySem.Data.fields (List.toArray (List.cons (PySem.Value.str (PySem.Str.ofString "__weakref__") 301) (List.cons (PySem.Value.ref 52) (List.cons (PySem.Value.builtin "ExceptionGroup.__weakref__") (List.cons PySem.Value.none List.nil)))))) (List.toArray List.nil))) (
  List.cons (Prod.mk (nat_lit 62) (PySem.Obj.mk (PySem.Value.type "code") Option.none (PySem.Data.fields (List.toArray (List.cons (PySem.Value.str (PySem.Str.ofString "is_reading") 306) (List.cons (PySem.Value.str (PySem.Str.ofString "is_reading") 307) (List.cons (PySem.Value.str (PySem.Str.ofString "/claim/cut.py") 308) (List.cons (PySem.Value.int 41 0) (List.cons (PySem.Value.int 1 0) (List.cons (PySem.Value.int 0 0) (List.cons (PySem.Value.int 0 0) (List.cons (PySem.Value.int 3 0) (List.cons (PySem.Value.ref 57) (List.cons (PySem.Value.bool Bool.true) (List.cons (PySem.Value.int 181 0) (List.cons (PySem.Value.ref 58) (List.cons PySem.Value.none (List.cons (PySem.Value.ref 59) (List.cons (PySem.Value.ref 60) (List.cons (PySem.Value.ref 61) (List.cons (PySem.Value.int 310 0) (List.cons (PySem.Value.int 41 0) (List.cons (PySem.Value.str (PySem.Str.ofString "/claim/cut.py") 311) List.nil))))))))))))))))))))) (List.toArray List.nil))) (
  List.cons (Prod.mk (nat_lit 63) (PySem.Obj.mk (PySem.Value.type "function") Option.none (PySem.Data.func (PySem.FuncData.mk (PySem.Str.ofString "is_reading") (PySem.Str.ofString "is_reading") (L2.defArgs Sh.s_is_reading) (PySem.FuncBody.stmts (L2.defBody Sh.s_is_reading)) (L2.defScope Sh.s_is_reading) 3 List.nil PySem.Value.none PySem.Value.none PySem.Value.none (PySem.Value.str (PySem.Str.ofString "shorewaters.waters") 187) Option.none (PySem.Value.ref 62) PySem.Value.none 0)) (List.toArray List.nil))) (
  List.cons (Prod.mk (nat_lit 69) (PySem.Obj.mk (PySem.Value.type "code") Option.none (PySem.Data.fields (List.toArray (List.cons (PySem.Value.str (PySem.Str.ofString "is_open_class") 313) (List.cons (PySem.Value.str (PySem.Str.ofString "is_open_class") 314) (List.cons (PySem.Value.str (PySem.Str.ofString "/claim/cut.py") 315) (List.cons (PySem.Value.int 43 0) (List.cons (PySem.Value.int 1 0) (List.cons (PySem.Value.int 0 0) (List.cons (PySem.Value.int 0 0) (List.cons (PySem.Value.int 3 0) (List.cons (PySem.Value.ref 64) (List.cons (PySem.Value.bool Bool.true) (List.cons (PySem.Value.int 181 0) (List.cons (PySem.Value.ref 65) (List.cons PySem.Value.none (List.cons (PySem.Value.ref 66) (List.cons (PySem.Value.ref 67) (List.cons (PySem.Value.ref 68) (List.cons (PySem.Value.int 317 0) (List.cons (PySem.Value.int 43 0) (List.cons (PySem.Value.str (PySem.Str.ofString "/claim/cut.py") 318) List.nil))))))))))))))))))))) (List.toArray List.nil))) (
  List.cons (Prod.mk (nat_lit 70) (PySem.Obj.mk (PySem.Value.type "function") Option.none (PySem.Data.func (PySem.FuncData.mk (PySem.Str.ofString "is_open_class") (PySem.Str.ofString "is_open_class") (L2.defArgs Sh.s_is_open_class) (PySem.FuncBody.stmts (L2.defBody Sh.s_is_open_class)) (L2.defScope Sh.s_is_open_class) 3 List.nil PySem.Value.none PySem.Value.none PySem.Value.none (PySem.Value.str (PySem.Str.ofString "shorewaters.waters") 187) Option.none (PySem.Value.ref 69) PySem.Value.none 0)) (List.toArray List.nil))) (
  List.cons (Prod.mk (nat_lit 76) (PySem.Obj.mk (PySem.Value.type "code") Option.none (PySem.Data.fields (List.toArray (List.cons (PySem.Value.str (PySem.Str.ofString "has_mean") 320) (List.cons (PySem.Value.str (PySem.Str.ofString "has_mean") 321) (List.cons (PySem.Value.str (PySem.Str.ofString "/claim/cut.py") 322) (List.cons (PySem.Value.int 45 0) (List.cons (PySem.Value.int 1 0) (List.cons (PySem.Value.int 0 0) (List.cons (PySem.Value.int 0 0) (List.cons (PySem.Value.int 3 0) (List.cons (PySem.Value.ref 71) (List.cons (PySem.Value.bool Bool.true) (List.cons (PySem.Value.int 181 0) (List.cons (PySem.Value.ref 72) (List.cons PySem.Value.none (List.cons (PySem.Value.ref 73) (List.cons (PySem.Value.ref 74) (List.cons (PySem.Value.ref 75) (List.cons (PySem.Value.int 324 0) (List.cons (PySem.Value.int 45 0) (List.cons (PySem.Value.str (PySem.Str.ofString "/claim/cut.py") 325) List.nil))))))))))))))))))))) (List.toArray List.nil))) (
  List.cons (Prod.mk (nat_lit 77) (PySem.Obj.mk (PySem.Value.type "function") Option.none (PySem.Data.func (PySem.FuncData.mk (PySem.Str.ofString "has_mean") (PySem.Str.ofString "has_mean") (L2.defArgs Sh.s_has_mean) (PySem.FuncBody.stmts (L2.defBody Sh.s_has_mean)) (L2.defScope Sh.s_has_mean) 3 List.nil PySem.Value.none PySem.Value.none PySem.Value.none (PySem.Value.str (PySem.Str.ofString "shorewaters.waters") 187) Option.none (PySem.Value.ref 76) PySem.Value.none 0)) (List.toArray List.nil))) (
  List.cons (Prod.mk (nat_lit 83) (PySem.Obj.mk (PySem.Value.type "code") Option.none (PySem.Data.fields (List.toArray (List.cons (PySem.Value.str (PySem.Str.ofString "product_of") 327) (List.cons (PySem.Value.str (PySem.Str.ofString "product_of") 328) (List.cons (PySem.Value.str (PySem.Str.ofString "/claim/cut.py") 329) (List.cons (PySem.Value.int 47 0) (List.cons (PySem.Value.int 1 0) (List.cons (PySem.Value.int 0 0) (List.cons (PySem.Value.int 0 0) (List.cons (PySem.Value.int 3 0) (List.cons (PySem.Value.ref 78) (List.cons (PySem.Value.bool Bool.true) (List.cons (PySem.Value.int 181 0) (List.cons (PySem.Value.ref 79) (List.cons PySem.Value.none (List.cons (PySem.Value.ref 80) (List.cons (PySem.Value.ref 81) (List.cons (PySem.Value.ref 82) (List.cons (PySem.Value.int 333 0) (List.cons (PySem.Value.int 47 0) (List.cons (PySem.Value.str (PySem.Str.ofString "/claim/cut.py") 334) List.nil))))))))))))))))))))) (List.toArray List.nil))) (
  List.cons (Prod.mk (nat_lit 84) (PySem.Obj.mk (PySem.Value.type "function") Option.none (PySem.Data.func (PySem.FuncData.mk (PySem.Str.ofString "product_of") (PySem.Str.ofString "product_of") (L2.defArgs Sh.s_product_of) (PySem.FuncBody.stmts (L2.defBody Sh.s_product_of)) (L2.defScope Sh.s_product_of) 3 List.nil PySem.Value.none PySem.Value.none PySem.Value.none (PySem.Value.str (PySem.Str.ofString "shorewaters.waters") 187) Option.none (PySem.Value.ref 83) PySem.Value.none 0)) (List.toArray List.nil))) (
  List.cons (Prod.mk (nat_lit 90) (PySem.Obj.mk (PySem.Value.type "code") Option.none (PySem.Data.fields (List.toArray (List.cons (PySem.Value.str (PySem.Str.ofString "greatest_that") 336) (List.cons (PySem.Value.str (PySem.Str.ofString "greatest_that") 337) (List.cons (PySem.Value.str (PySem.Str.ofString "/claim/cut.py") 338) (List.cons (PySem.Value.int 52 0) (List.cons (PySem.Value.int 1 0) (List.cons (PySem.Value.int 0 0) (List.cons (PySem.Value.int 0 0) (List.cons (PySem.Value.int 3 0) (List.cons (PySem.Value.ref 85) (List.cons (PySem.Value.bool Bool.true) (List.cons (PySem.Value.int 181 0) (List.cons (PySem.Value.ref 86) (List.cons PySem.Value.none (List.cons (PySem.Value.ref 87) (List.cons (PySem.Value.ref 88) (List.cons (PySem.Value.ref 89) (List.cons (PySem.Value.int 343 0) (List.cons (PySem.Value.int 52 0) (List.cons (PySem.Value.str (PySem.Str.ofString "/claim/cut.py") 344) List.nil))))))))))))))))))))) (List.toArray List.nil))) (
  List.cons (Prod.mk (nat_lit 91) (PySem.Obj.mk (PySem.Value.type "function") Option.none (PySem.Data.func (PySem.FuncData.mk (PySem.Str.ofString "greatest_that") (PySem.Str.ofString "greatest_that") (L2.defArgs Sh.s_greatest_that) (PySem.FuncBody.stmts (L2.defBody Sh.s_greatest_that)) (L2.defScope Sh.s_greatest_that) 3 List.nil PySem.Value.none PySem.Value.none PySem.Value.none (PySem.Value.str (PySem.Str.ofString "shorewaters.waters") 187) Option.none (PySem.Value.ref 90) PySem.Value.none 0)) (List.toArray List.nil))) (
  List.cons (Prod.mk (nat_lit 97) (PySem.Obj.mk (PySem.Value.type "code") Option.none (PySem.Data.fields (List.toArray (List.cons (PySem.Value.str (PySem.Str.ofString "mean_of") 346) (List.cons (PySem.Value.str (PySem.Str.ofString "mean_of") 347) (List.cons (PySem.Value.str (PySem.Str.ofString "/claim/cut.py") 348) (List.cons (PySem.Value.int 62 0) (List.cons (PySem.Value.int 1 0) (List.cons (PySem.Value.int 0 0) (List.cons (PySem.Value.int 0 0) (List.cons (PySem.Value.int 3 0) (List.cons (PySem.Value.ref 92) (List.cons (PySem.Value.bool Bool.true) (List.cons (PySem.Value.int 181 0) (List.cons (PySem.Value.ref 93) (List.cons PySem.Value.none (List.cons (PySem.Value.ref 94) (List.cons (PySem.Value.ref 95) (List.cons (PySem.Value.ref 96) (List.cons (PySem.Value.int 351 0) (List.cons (PySem.Value.int 62 0) (List.cons (PySem.Value.str (PySem.Str.ofString "/claim/cut.py") 352) List.nil))))))))))))))))))))) (List.toArray List.nil))) (
  List.cons (Prod.mk (nat_lit 98) (PySem.Obj.mk (PySem.Value.type "function") Option.none (PySem.Data.func (PySem.FuncData.mk (PySem.Str.ofString "mean_of") (PySem.Str.ofString "mean_of") (L2.defArgs Sh.s_mean_of) (PySem.FuncBody.stmts (L2.defBody Sh.s_mean_of)) (L2.defScope Sh.s_mean_of) 3 List.nil PySem.Value.none PySem.Value.none PySem.Value.none (PySem.Value.str (PySem.Str.ofString "shorewaters.waters") 187) Option.none (PySem.Value.ref 97) PySem.Value.none 0)) (List.toArray List.nil))) (
  List.cons (Prod.mk (nat_lit 104) (PySem.Obj.mk (PySem.Value.type "code") Option.none (PySem.Data.fields (List.toArray (List.cons (PySem.Value.str (PySem.Str.ofString "is_within") 354) (List.cons (PySem.Value.str (PySem.Str.ofString "is_within") 355) (List.cons (PySem.Value.str (PySem.Str.ofString "/claim/cut.py") 356) (List.cons (PySem.Value.int 65 0) (List.cons (PySem.Value.int 2 0) (List.cons (PySem.Value.int 0 0) (List.cons (PySem.Value.int 0 0) (List.cons (PySem.Value.int 3 0) (List.cons (PySem.Value.ref 99) (List.cons (PySem.Value.bool Bool.true) (List.cons (PySem.Value.int 181 0) (List.cons (PySem.Value.ref 100) (List.cons PySem.Value.none (List.cons (PySem.Value.ref 101) (List.cons (PySem.Value.ref 102) (List.cons (PySem.Value.ref 103) (List.cons (PySem.Value.int 359 0) (List.cons (PySem.Value.int 65 0) (List.cons (PySem.Value.str (PySem.Str.ofString "/claim/cut.py") 360) List.nil))))))))))))))))))))) (List.toArray List.nil))) (
  List.cons (Prod.mk (nat_lit 105) (PySem.Obj.mk (PySem.Value.type "function") Option.none (PySem.Data.func (PySem.FuncData.mk (PySem.Str.ofString "is_within") (PySem.Str.ofString "is_within") (L2.defArgs Sh.s_is_within) (PySem.FuncBody.stmts (L2.defBody Sh.s_is_within)) (L2.defScope Sh.s_is_within) 3 List.nil PySem.Value.none PySem.Value.none PySem.Value.none (PySem.Value.str (PySem.Str.ofString "shorewaters.waters") 187) Option.none (PySem.Value.ref 104) PySem.Value.none 0)) (List.toArray List.nil))) (
  List.cons (Prod.mk (nat_lit 109) (PySem.Obj.mk (PySem.Value.type "code") Option.none (PySem.Data.fields (List.toArray (List.cons (PySem.Value.str (PySem.Str.ofString "count_above") 362) (List.cons (PySem.Value.str (PySem.Str.ofString "count_above") 363) (List.cons (PySem.Value.str (PySem.Str.ofString "/claim/cut.py") 364) (List.cons (PySem.Value.int 67 0) (List.cons (PySem.Value.int 2 0) (List.cons (PySem.Value.int 0 0) (List.cons (PySem.Value.int 0 0) (List.cons (PySem.Value.int 3 0) (List.cons (PySem.Value.ref 106) (List.cons (PySem.Value.bool Bool.true) (List.cons (PySem.Value.int 181 0) (List.cons (PySem.Value.ref 107) (List.cons PySem.Value.none (List.cons PySem.Value.none (List.cons PySem.Value.none (List.cons (PySem.Value.ref 108) (List.cons (PySem.Value.int 365 0) (List.cons (PySem.Value.int 67 0) (List.cons (PySem.Value.str (PySem.Str.ofString "/claim/cut.py") 366) List.nil))))))))))))))))))))) (List.toArray List.nil))) (
  List.cons (Prod.mk (nat_lit 110) (PySem.Obj.mk (PySem.Value.type "function") Option.none (PySem.Data.func (PySem.FuncData.mk (PySem.Str.ofString "count_above") (PySem.Str.ofString "count_above") (L2.defArgs Sh.s_count_above) (PySem.FuncBody.stmts (L2.defBody Sh.s_count_above)) (L2.defScope Sh.s_count_above) 3 List.nil PySem.Value.none PySem.Value.none PySem.Value.none (PySem.Value.str (PySem.Str.ofString "shorewaters.waters") 187) Option.none (PySem.Value.ref 109) PySem.Value.none 0)) (List.toArray List.nil))) (
  List.cons (Prod.mk (nat_lit 116) (PySem.Obj.mk (PySem.Value.type "code") Option.none (PySem.Data.fields (List.toArray (List.cons (PySem.Value.str (PySem.Str.ofString "is_above_peak") 368) (List.cons (PySem.Value.str (PySem.Str.ofString "is_above_peak") 369) (List.cons (PySem.Value.str (PySem.Str.ofString "/claim/cut.py") 370) (List.cons (PySem.Value.int 69 0) (List.cons (PySem.Value.int 2 0) (List.cons (PySem.Value.int 0 0) (List.cons (PySem.Value.int 0 0) (List.cons (PySem.Value.int 3 0) (List.cons (PySem.Value.ref 111) (List.cons (PySem.Value.bool Bool.true) (List.cons (PySem.Value.int 181 0) (List.cons (PySem.Value.ref 112) (List.cons PySem.Value.none (List.cons (PySem.Value.ref 113) (List.cons (PySem.Value.ref 114) (List.cons (PySem.Value.ref 115) (List.cons (PySem.Value.int 373 0) (List.cons (PySem.Value.int 69 0) (List.cons (PySem.Value.str (PySem.Str.ofString "/claim/cut.py") 374) List.nil))))))))))))))))))))) (List.toArray List.nil))) (
  List.cons (Prod.mk (nat_lit 117) (PySem.Obj.mk (PySem.Value.type "function") Option.none (PySem.Data.func (PySem.FuncData.mk (PySem.Str.ofString "is_above_peak") (PySem.Str.ofString "is_above_peak") (L2.defArgs Sh.s_is_above_peak) (PySem.FuncBody.stmts (L2.defBody Sh.s_is_above_peak)) (L2.defScope Sh.s_is_above_peak) 3 List.nil PySem.Value.none PySem.Value.none PySem.Value.none (PySem.Value.str (PySem.Str.ofString "shorewaters.waters") 187) Option.none (PySem.Value.ref 116) PySem.Value.none 0)) (List.toArray List.nil))) (
  List.cons (Prod.mk (nat_lit 123) (PySem.Obj.mk (PySem.Value.type "code") Option.none (PySem.Data.fields (List.toArray (List.cons (PySem.Value.str (PySem.Str.ofString "class_of") 376) (List.cons (PySem.Value.str (PySem.Str.ofString "class_of") 377) (List.cons (PySem.Value.str (PySem.Str.ofString "/claim/cut.py") 378) (List.cons (PySem.Value.int 71 0) (List.cons (PySem.Value.int 2 0) (List.cons (PySem.Value.int 0 0) (List.cons (PySem.Value.int 0 0) (List.cons (PySem.Value.int 3 0) (List.cons (PySem.Value.ref 118) (List.cons (PySem.Value.bool Bool.true) (List.cons (PySem.Value.int 181 0) (List.cons (PySem.Value.ref 119) (List.cons PySem.Value.none (List.cons (PySem.Value.ref 120) (List.cons (PySem.Value.ref 121) (List.cons (PySem.Value.ref 122) (List.cons (PySem.Value.int 381 0) (List.cons (PySem.Value.int 71 0) (List.cons (PySem.Value.str (PySem.Str.ofString "/claim/cut.py") 382) List.nil))))))))))))))))))))) (List.toArray List.nil))) (
  List.cons (Prod.mk (nat_lit 124) (PySem.Obj.mk (PySem.Value.type "function") Option.none (PySem.Data.func (PySem.FuncData.mk (PySem.Str.ofString "class_of") (PySem.Str.ofString "class_of") (L2.defArgs Sh.s_class_of) (PySem.FuncBody.stmts (L2.defBody Sh.s_class_of)) (L2.defScope Sh.s_class_of) 3 List.nil PySem.Value.none PySem.Value.none PySem.Value.none (PySem.Value.str (PySem.Str.ofString "shorewaters.waters") 187) Option.none (PySem.Value.ref 123) PySem.Value.none 0)) (List.toArray List.nil))) (
  List.cons (Prod.mk (nat_lit 130) (PySem.Obj.mk (PySem.Value.type "code") Option.none (PySem.Data.fields (List.toArray (List.cons (PySem.Value.str (PySem.Str.ofString "is_of_class") 384) (List.cons (PySem.Value.str (PySem.Str.ofString "is_of_class") 385) (List.cons (PySem.Value.str (PySem.Str.ofString "/claim/cut.py") 386) (List.cons (PySem.Value.int 79 0) (List.cons (PySem.Value.int 3 0) (List.cons (PySem.Value.int 0 0) (List.cons (PySem.Value.int 0 0) (List.cons (PySem.Value.int 3 0) (List.cons (PySem.Value.ref 125) (List.cons (PySem.Value.bool Bool.true) (List.cons (PySem.Value.int 181 0) (List.cons (PySem.Value.ref 126) (List.cons PySem.Value.none (List.cons (PySem.Value.ref 127) (List.cons (PySem.Value.ref 128) (List.cons (PySem.Value.ref 129) (List.cons (PySem.Value.int 390 0) (List.cons (PySem.Value.int 79 0) (List.cons (PySem.Value.str (PySem.Str.ofString "/claim/cut.py") 391) List.nil))))))))))))))))))))) (List.toArray List.nil))) (
  List.cons (Prod.mk (nat_lit 131) (PySem.Obj.mk (PySem.Value.type "function") Option.none (PySem.Data.func (PySem.FuncData.mk (PySem.Str.ofString "is_of_class") (PySem.Str.ofString "is_of_class") (L2.defArgs Sh.s_is_of_class) (PySem.FuncBody.stmts (L2.defBody Sh.s_is_of_class)) (L2.defScope Sh.s_is_of_class) 3 List.nil PySem.Value.none PySem.Value.none PySem.Value.none (PySem.Value.str (PySem.Str.ofString "shorewaters.waters") 187) Option.none (PySem.Value.ref 130) PySem.Value.none 0)) (List.toArray List.nil))) (
  List.cons (Prod.mk (nat_lit 137) (PySem.Obj.mk (PySem.Value.type "code") Option.none (PySem.Data.fields (List.toArray (List.cons (PySem.Value.str (PySem.Str.ofString "may_open") 393) (List.cons (PySem.Value.str (PySem.Str.ofString "may_open") 394) (List.cons (PySem.Value.str (PySem.Str.ofString "/claim/cut.py") 395) (List.cons (PySem.Value.int 81 0) (List.cons (PySem.Value.int 2 0) (List.cons (PySem.Value.int 0 0) (List.cons (PySem.Value.int 0 0) (List.cons (PySem.Value.int 3 0) (List.cons (PySem.Value.ref 132) (List.cons (PySem.Value.bool Bool.true) (List.cons (PySem.Value.int 181 0) (List.cons (PySem.Value.ref 133) (List.cons PySem.Value.none (List.cons (PySem.Value.ref 134) (List.cons (PySem.Value.ref 135) (List.cons (PySem.Value.ref 136) (List.cons (PySem.Value.int 398 0) (List.cons (PySem.Value.int 81 0) (List.cons (PySem.Value.str (PySem.Str.ofString "/claim/cut.py") 399) List.nil))))))))))))))))))))) (List.toArray List.nil))) (
  List.cons (Prod.mk (nat_lit 138) (PySem.Obj.mk (PySem.Value.type "function") Option.none (PySem.Data.func (PySem.FuncData.mk (PySem.Str.ofString "may_open") (PySem.Str.ofString "may_open") (L2.defArgs Sh.s_may_open) (PySem.FuncBody.stmts (L2.defBody Sh.s_may_open)) (L2.defScope Sh.s_may_open) 3 List.nil PySem.Value.none PySem.Value.none PySem.Value.none (PySem.Value.str (PySem.Str.ofString "shorewaters.waters") 187) Option.none (PySem.Value.ref 137) PySem.Value.none 0)) (List.toArray List.nil))) (
  List.cons (Prod.mk (nat_lit 144) (PySem.Obj.mk (PySem.Value.type "code") Option.none (PySem.Data.fields (List.toArray (List.cons (PySem.Value.str (PySem.Str.ofString "is_shut") 401) (List.cons (PySem.Value.str (PySem.Str.ofString "is_shut") 402) (List.cons (PySem.Value.str (PySem.Str.ofString "/claim/cut.py") 403) (List.cons (PySem.Value.int 83 0) (List.cons (PySem.Value.int 2 0) (List.cons (PySem.Value.int 0 0) (List.cons (PySem.Value.int 0 0) (List.cons (PySem.Value.int 3 0) (List.cons (PySem.Value.ref 139) (List.cons (PySem.Value.bool Bool.true) (List.cons (PySem.Value.int 181 0) (List.cons (PySem.Value.ref 140) (List.cons PySem.Value.none (List.cons (PySem.Value.ref 141) (List.cons (PySem.Value.ref 142) (List.cons (PySem.Value.ref 143) (List.cons (PySem.Value.int 406 0) (List.cons (PySem.Value.int 83 0) (List.cons (PySem.Value.str (PySem.Str.ofString "/claim/cut.py") 407) List.nil))))))))))))))))))))) (List.toArray List.nil))) (
  List.cons (Prod.mk (nat_lit 145) (PySem.Obj.mk (PySem.Value.type "function") Option.none (PySem.Data.func (PySem.FuncData.mk (PySem.Str.ofString "is_shut") (PySem.Str.ofString "is_shut") (L2.defArgs Sh.s_is_shut) (PySem.FuncBody.stmts (L2.defBody Sh.s_is_shut)) (L2.defScope Sh.s_is_shut) 3 List.nil PySem.Value.none PySem.Value.none PySem.Value.none (PySem.Value.str (PySem.Str.ofString "shorewaters.waters") 187) Option.none (PySem.Value.ref 144) PySem.Value.none 0)) (List.toArray List.nil))) (
  List.cons (Prod.mk (nat_lit 151) (PySem.Obj.mk (PySem.Value.type "code") Option.none (PySem.Data.fields (List.toArray (List.cons (PySem.Value.str (PySem.Str.ofString "is_open") 409) (List.cons (PySem.Value.str (PySem.Str.ofString "is_open") 410) (List.cons (PySem.Value.str (PySem.Str.ofString "/claim/cut.py") 411) (List.cons (PySem.Value.int 85 0) (List.cons (PySem.Value.int 2 0) (List.cons (PySem.Value.int 0 0) (List.cons (PySem.Value.int 0 0) (List.cons (PySem.Value.int 3 0) (List.cons (PySem.Value.ref 146) (List.cons (PySem.Value.bool Bool.true) (List.cons (PySem.Value.int 181 0) (List.cons (PySem.Value.ref 147) (List.cons PySem.Value.none (List.cons (PySem.Value.ref 148) (List.cons (PySem.Value.ref 149) (List.cons (PySem.Value.ref 150) (List.cons (PySem.Value.int 414 0) (List.cons (PySem.Value.int 85 0) (List.cons (PySem.Value.str (PySem.Str.ofString "/claim/cut.py") 415) List.nil))))))))))))))))))))) (List.toArray List.nil))) (
  List.cons (Prod.mk (nat_lit 152) (PySem.Obj.mk (PySem.Value.type "function") Option.none (PySem.Data.func (PySem.FuncData.mk (PySem.Str.ofString "is_open") (PySem.Str.ofString "is_open") (L2.defArgs Sh.s_is_open) (PySem.FuncBody.stmts (L2.defBody Sh.s_is_open)) (L2.defScope Sh.s_is_open) 3 List.nil PySem.Value.none PySem.Value.none PySem.Value.none (PySem.Value.str (PySem.Str.ofString "shorewaters.waters") 187) Option.none (PySem.Value.ref 151) PySem.Value.none 0)) (List.toArray List.nil))) (
  List.cons (Prod.mk (nat_lit 156) (PySem.Obj.mk (PySem.Value.type "code") Option.none (PySem.Data.fields (List.toArray (List.cons (PySem.Value.str (PySem.Str.ofString "open_areas") 417) (List.cons (PySem.Value.str (PySem.Str.ofString "open_areas") 418) (List.cons (PySem.Value.str (PySem.Str.ofString "/claim/cut.py") 419) (List.cons (PySem.Value.int 87 0) (List.cons (PySem.Value.int 1 0) (List.cons (PySem.Value.int 0 0) (List.cons (PySem.Value.int 0 0) (List.cons (PySem.Value.int 3 0) (List.cons (PySem.Value.ref 153) (List.cons (PySem.Value.bool Bool.true) (List.cons (PySem.Value.int 181 0) (List.cons (PySem.Value.ref 154) (List.cons PySem.Value.none (List.cons PySem.Value.none (List.cons PySem.Value.none (List.cons (PySem.Value.ref 155) (List.cons (PySem.Value.int 420 0) (List.cons (PySem.Value.int 87 0) (List.cons (PySem.Value.str (PySem.Str.ofString "/claim/cut.py") 421) List.nil))))))))))))))))))))) (List.toArray List.nil))) (
  List.cons (Prod.mk (nat_lit 157) (PySem.Obj.mk (PySem.Value.type "function") Option.none (PySem.Data.func (PySem.FuncData.mk (PySem.Str.ofString "open_areas") (PySem.Str.ofString "open_areas") (L2.defArgs Sh.s_open_areas) (PySem.FuncBody.stmts (L2.defBody Sh.s_open_areas)) (L2.defScope Sh.s_open_areas) 3 List.nil PySem.Value.none PySem.Value.none PySem.Value.none (PySem.Value.str (PySem.Str.ofString "shorewaters.waters") 187) Option.none (PySem.Value.ref 156) PySem.Value.none 0)) (List.toArray List.nil))) (
  List.cons (Prod.mk (nat_lit 161) (PySem.Obj.mk (PySem.Value.type "code") Option.none (PySem.Data.fields (List.toArray (List.cons (PySem.Value.str (PySem.Str.ofString "shut_areas") 423) (List.cons (PySem.Value.str (PySem.Str.ofString "shut_areas") 424) (List.cons (PySem.Value.str (PySem.Str.ofString "/claim/cut.py") 425) (List.cons (PySem.Value.int 89 0) (List.cons (PySem.Value.int 1 0) (List.cons (PySem.Value.int 0 0) (List.cons (PySem.Value.int 0 0) (List.cons (PySem.Value.int 3 0) (List.cons (PySem.Value.ref 158) (List.cons (PySem.Value.bool Bool.true) (List.cons (PySem.Value.int 181 0) (List.cons (PySem.Value.ref 159) (List.cons PySem.Value.none (List.cons PySem.Value.none (List.cons PySem.Value.none (List.cons (PySem.Value.ref 160) (List.cons (PySem.Value.int 426 0) (List.cons (PySem.Value.int 89 0) (List.cons (PySem.Value.str (PySem.Str.ofString "/claim/cut.py") 427) List.nil))))))))))))))))))))) (List.toArray List.nil))) (
  List.cons (Prod.mk (nat_lit 162) (PySem.Obj.mk (PySem.Value.type "function") Option.none (PySem.Data.func (PySem.FuncData.mk (PySem.Str.ofString "shut_areas") (PySem.Str.ofString "shut_areas") (L2.defArgs Sh.s_shut_areas) (PySem.FuncBody.stmts (L2.defBody Sh.s_shut_areas)) (L2.defScope Sh.s_shut_areas) 3 List.nil PySem.Value.none PySem.Value.none PySem.Value.none (PySem.Value.str (PySem.Str.ofString "shorewaters.waters") 187) Option.none (PySem.Value.ref 161) PySem.Value.none 0)) (List.toArray List.nil))) (
  List.cons (Prod.mk (nat_lit 166) (PySem.Obj.mk (PySem.Value.type "code") Option.none (PySem.Data.fields (List.toArray (List.cons (PySem.Value.str (PySem.Str.ofString "measured_areas") 429) (List.cons (PySem.Value.str (PySem.Str.ofString "measured_areas") 430) (List.cons (PySem.Value.str (PySem.Str.ofString "/claim/cut.py") 431) (List.cons (PySem.Value.int 91 0) (List.cons (PySem.Value.int 1 0) (List.cons (PySem.Value.int 0 0) (List.cons (PySem.Value.int 0 0) (List.cons (PySem.Value.int 3 0) (List.cons (PySem.Value.ref 163) (List.cons (PySem.Value.bool Bool.true) (List.cons (PySem.Value.int 181 0) (List.cons (PySem.Value.ref 164) (List.cons PySem.Value.none (List.cons PySem.Value.none (List.cons PySem.Value.none (List.cons (PySem.Value.ref 165) (List.cons (PySem.Value.int 432 0) (List.cons (PySem.Value.int 91 0) (List.cons (PySem.Value.str (PySem.Str.ofString "/claim/cut.py") 433) List.nil))))))))))))))))))))) (List.toArray List.nil))) (
  List.cons (Prod.mk (nat_lit 167) (PySem.Obj.mk (PySem.Value.type "function") Option.none (PySem.Data.func (PySem.FuncData.mk (PySem.Str.ofString "measured_areas") (PySem.Str.ofString "measured_areas") (L2.defArgs Sh.s_measured_areas) (PySem.FuncBody.stmts (L2.defBody Sh.s_measured_areas)) (L2.defScope Sh.s_measured_areas) 3 List.nil PySem.Value.none PySem.Value.none PySem.Value.none (PySem.Value.str (PySem.Str.ofString "shorewaters.waters") 187) Option.none (PySem.Value.ref 166) PySem.Value.none 0)) (List.toArray List.nil))) (
  List.cons (Prod.mk (nat_lit 173) (PySem.Obj.mk (PySem.Value.type "code") Option.none (PySem.Data.fields (List.toArray (List.cons (PySem.Value.str (PySem.Str.ofString "are_bounds") 435) (List.cons (PySem.Value.str (PySem.Str.ofString "are_bounds") 436) (List.cons (PySem.Value.str (PySem.Str.ofString "/claim/cut.py") 437) (List.cons (PySem.Value.int 94 0) (List.cons (PySem.Value.int 3 0) (List.cons (PySem.Value.int 0 0) (List.cons (PySem.Value.int 0 0) (List.cons (PySem.Value.int 3 0) (List.cons (PySem.Value.ref 168) (List.cons (PySem.Value.bool Bool.true) (List.cons (PySem.Value.int 181 0) (List.cons (PySem.Value.ref 169) (List.cons PySem.Value.none (List.cons (PySem.Value.ref 170) (List.cons (PySem.Value.ref 171) (List.cons (PySem.Value.ref 172) (List.cons (PySem.Value.int 441 0) (List.cons (PySem.Value.int 94 0) (List.cons (PySem.Value.str (PySem.Str.ofString "/claim/cut.py") 442) List.nil))))))))))))))))))))) (List.toArray List.nil))) (
  List.cons (Prod.mk (nat_lit 174) (PySem.Obj.mk (PySem.Value.type "function") Option.none (PySem.Data.func (PySem.FuncData.mk (PySem.Str.ofString "are_bounds") (PySem.Str.ofString "are_bounds") (L2.defArgs Sh.s_are_bounds) (PySem.FuncBody.stmts (L2.defBody Sh.s_are_bounds)) (L2.defScope Sh.s_are_bounds) 3 List.nil PySem.Value.none PySem.Value.none PySem.Value.none (PySem.Value.str (PySem.Str.ofString "shorewaters.waters") 187) Option.none (PySem.Value.ref 173) PySem.Value.none 0)) (List.toArray List.nil))) (
  List.cons (Prod.mk (nat_lit 180) (PySem.Obj.mk (PySem.Value.type "code") Option.none (PySem.Data.fields (List.toArray (List.cons (PySem.Value.str (PySem.Str.ofString "answer_begin") 444) (List.cons (PySem.Value.str (PySem.Str.ofString "answer_begin") 445) (List.cons (PySem.Value.str (PySem.Str.ofString "/claim/cut.py") 446) (List.cons (PySem.Value.int 96 0) (List.cons (PySem.Value.int 2 0) (List.cons (PySem.Value.int 0 0) (List.cons (PySem.Value.int 0 0) (List.cons (PySem.Value.int 3 0) (List.cons (PySem.Value.ref 175) (List.cons (PySem.Value.bool Bool.true) (List.cons (PySem.Value.int 181 0) (List.cons (PySem.Value.ref 176) (List.cons PySem.Value.none (List.cons (PySem.Value.ref 177) (List.cons (PySem.Value.ref 178) (List.cons (PySem.Value.ref 179) (List.cons (PySem.Value.int 449 0) (List.cons (PySem.Value.int 96 0) (List.cons (PySem.Value.str (PySem.Str.ofString "/claim/cut.py") 450) List.nil))))))))))))))))))))) (List.toArray List.nil))) (
  List.cons (Prod.mk (nat_lit 181) (PySem.Obj.mk (PySem.Value.type "function") Option.none (PySem.Data.func (PySem.FuncData.mk (PySem.Str.ofString "answer_begin") (PySem.Str.ofString "answer_begin") (L2.defArgs Sh.s_answer_begin) (PySem.FuncBody.stmts (L2.defBody Sh.s_answer_begin)) (L2.defScope Sh.s_answer_begin) 3 List.nil PySem.Value.none PySem.Value.none PySem.Value.none (PySem.Value.str (PySem.Str.ofString "shorewaters.waters") 187) Option.none (PySem.Value.ref 180) PySem.Value.none 0)) (List.toArray List.nil))) (
  List.cons (Prod.mk (nat_lit 187) (PySem.Obj.mk (PySem.Value.type "code") Option.none (PySem.Data.fields (List.toArray (List.cons (PySem.Value.str (PySem.Str.ofString "answer_area") 452) (List.cons (PySem.Value.str (PySem.Str.ofString "answer_area") 453) (List.cons (PySem.Value.str (PySem.Str.ofString "/claim/cut.py") 454) (List.cons (PySem.Value.int 110 0) (List.cons (PySem.Value.int 2 0) (List.cons (PySem.Value.int 0 0) (List.cons (PySem.Value.int 0 0) (List.cons (PySem.Value.int 3 0) (List.cons (PySem.Value.ref 182) (List.cons (PySem.Value.bool Bool.true) (List.cons (PySem.Value.int 181 0) (List.cons (PySem.Value.ref 183) (List.cons PySem.Value.none (List.cons (PySem.Value.ref 184) (List.cons (PySem.Value.ref 185) (List.cons (PySem.Value.ref 186) (List.cons (PySem.Value.int 457 0) (List.cons (PySem.Value.int 110 0) (List.cons (PySem.Value.str (PySem.Str.ofString "/claim/cut.py") 458) List.nil))))))))))))))))))))) (List.toArray List.nil))) (
  List.cons (Prod.mk (nat_lit 188) (PySem.Obj.mk (PySem.Value.type "function") Option.none (PySem.Data.func (PySem.FuncData.mk (PySem.Str.ofString "answer_area") (PySem.Str.ofString "answer_area") (L2.defArgs Sh.s_answer_area) (PySem.FuncBody.stmts (L2.defBody Sh.s_answer_area)) (L2.defScope Sh.s_answer_area) 3 List.nil PySem.Value.none PySem.Value.none PySem.Value.none (PySem.Value.str (PySem.Str.ofString "shorewaters.waters") 187) Option.none (PySem.Value.ref 187) PySem.Value.none 0)) (List.toArray List.nil))) (
  List.cons (Prod.mk (nat_lit 194) (PySem.Obj.mk (PySem.Value.type "code") Option.none (PySem.Data.fields (List.toArray (List.cons (PySem.Value.str (PySem.Str.ofString "answer_read") 460) (List.cons (PySem.Value.str (PySem.Str.ofString "answer_read") 461) (List.cons (PySem.Value.str (PySem.Str.ofString "/claim/cut.py") 462) (List.cons (PySem.Value.int 115 0) (List.cons (PySem.Value.int 2 0) (List.cons (PySem.Value.int 0 0) (List.cons (PySem.Value.int 0 0) (List.cons (PySem.Value.int 3 0) (List.cons (PySem.Value.ref 189) (List.cons (PySem.Value.bool Bool.true) (List.cons (PySem.Value.int 181 0) (List.cons (PySem.Value.ref 190) (List.cons PySem.Value.none (List.cons (PySem.Value.ref 191) (List.cons (PySem.Value.ref 192) (List.cons (PySem.Value.ref 193) (List.cons (PySem.Value.int 468 0) (List.cons (PySem.Value.int 115 0) (List.cons (PySem.Value.str (PySem.Str.ofString "/claim/cut.py") 469) List.nil))))))))))))))))))))) (List.toArray List.nil))) (
  List.cons (Prod.mk (nat_lit 195) (PySem.Obj.mk (PySem.Value.type "function") Option.none (PySem.Data.func (PySem.FuncData.mk (PySem.Str.ofString "answer_read") (PySem.Str.ofString "answer_read") (L2.defArgs Sh.s_answer_read) (PySem.FuncBody.stmts (L2.defBody Sh.s_answer_read)) (L2.defScope Sh.s_answer_read) 3 List.nil PySem.Value.none PySem.Value.none PySem.Value.none (PySem.Value.str (PySem.Str.ofString "shorewaters.waters") 187) Option.none (PySem.Value.ref 194) PySem.Value.none 0)) (List.toArray List.nil))) (
  List.cons (Prod.mk (nat_lit 201) (PySem.Obj.mk (PySem.Value.type "code") Option.none (PySem.Data.fields (List.toArray (List.cons (PySem.Value.str (PySem.Str.ofString "answer_back") 471) (List.cons (PySem.Value.str (PySem.Str.ofString "answer_back") 472) (List.cons (PySem.Value.str (PySem.Str.ofString "/claim/cut.py") 473) (List.cons (PySem.Value.int 125 0) (List.cons (PySem.Value.int 2 0) (List.cons (PySem.Value.int 0 0) (List.cons (PySem.Value.int 0 0) (List.cons (PySem.Value.int 3 0) (List.cons (PySem.Value.ref 196) (List.cons (PySem.Value.bool Bool.true) (List.cons (PySem.Value.int 181 0) (List.cons (PySem.Value.ref 197) (List.cons PySem.Value.none (List.cons (PySem.Value.ref 198) (List.cons (PySem.Value.ref 199) (List.cons (PySem.Value.ref 200) (List.cons (PySem.Value.int 478 0) (List.cons (PySem.Value.int 125 0) (List.cons (PySem.Value.str (PySem.Str.ofString "/claim/cut.py") 479) List.nil))))))))))))))))))))) (List.toArray List.nil))) (
  List.cons (Prod.mk (nat_lit 202) (PySem.Obj.mk (PySem.Value.type "function") Option.none (PySem.Data.func (PySem.FuncData.mk (PySem.Str.ofString "answer_back") (PySem.Str.ofString "answer_back") (L2.defArgs Sh.s_answer_back) (PySem.FuncBody.stmts (L2.defBody Sh.s_answer_back)) (L2.defScope Sh.s_answer_back) 3 List.nil PySem.Value.none PySem.Value.none PySem.Value.none (PySem.Value.str (PySem.Str.ofString "shorewaters.waters") 187) Option.none (PySem.Value.ref 201) PySem.Value.none 0)) (List.toArray List.nil))) (
  List.cons (Prod.mk (nat_lit 208) (PySem.Obj.mk (PySem.Value.type "code") Option.none (PySem.Data.fields (List.toArray (List.cons (PySem.Value.str (PySem.Str.ofString "answer_rainfall") 481) (List.cons (PySem.Value.str (PySem.Str.ofString "answer_rainfall") 482) (List.cons (PySem.Value.str (PySem.Str.ofString "/claim/cut.py") 483) (List.cons (PySem.Value.int 131 0) (List.cons (PySem.Value.int 2 0) (List.cons (PySem.Value.int 0 0) (List.cons (PySem.Value.int 0 0) (List.cons (PySem.Value.int 3 0) (List.cons (PySem.Value.ref 203) (List.cons (PySem.Value.bool Bool.true) (List.cons (PySem.Value.int 181 0) (List.cons (PySem.Value.ref 204) (List.cons PySem.Value.none (List.cons (PySem.Value.ref 205) (List.cons (PySem.Value.ref 206) (List.cons (PySem.Value.ref 207) (List.cons (PySem.Value.int 488 0) (List.cons (PySem.Value.int 131 0) (List.cons (PySem.Value.str (PySem.Str.ofString "/claim/cut.py") 489) List.nil))))))))))))))))))))) (List.toArray List.nil))) (
  List.cons (Prod.mk (nat_lit 209) (PySem.Obj.mk (PySem.Value.type "function") Option.none (PySem.Data.func (PySem.FuncData.mk (PySem.Str.ofString "answer_rainfall") (PySem.Str.ofString "answer_rainfall") (L2.defArgs Sh.s_answer_rainfall) (PySem.FuncBody.stmts (L2.defBody Sh.s_answer_rainfall)) (L2.defScope Sh.s_answer_rainfall) 3 List.nil PySem.Value.none PySem.Value.none PySem.Value.none (PySem.Value.str (PySem.Str.ofString "shorewaters.waters") 187) Option.none (PySem.Value.ref 208) PySem.Value.none 0)) (List.toArray List.nil))) (
  List.cons (Prod.mk (nat_lit 215) (PySem.Obj.mk (PySem.Value.type "code") Option.none (PySem.Data.fields (List.toArray (List.cons (PySem.Value.str (PySem.Str.ofString "answer_days") 491) (List.cons (PySem.Value.str (PySem.Str.ofString "answer_days") 492) (List.cons (PySem.Value.str (PySem.Str.ofString "/claim/cut.py") 493) (List.cons (PySem.Value.int 140 0) (List.cons (PySem.Value.int 2 0) (List.cons (PySem.Value.int 0 0) (List.cons (PySem.Value.int 0 0) (List.cons (PySem.Value.int 3 0) (List.cons (PySem.Value.ref 210) (List.cons (PySem.Value.bool Bool.true) (List.cons (PySem.Value.int 181 0) (List.cons (PySem.Value.ref 211) (List.cons PySem.Value.none (List.cons (PySem.Value.ref 212) (List.cons (PySem.Value.ref 213) (List.cons (PySem.Value.ref 214) (List.cons (PySem.Value.int 497 0) (List.cons (PySem.Value.int 140 0) (List.cons (PySem.Value.str (PySem.Str.ofString "/claim/cut.py") 498) List.nil))))))))))))))))))))) (List.toArray List.nil))) (
  List.cons (Prod.mk (nat_lit 216) (PySem.Obj.mk (PySem.Value.type "function") Option.none (PySem.Data.func (PySem.FuncData.mk (PySem.Str.ofString "answer_days") (PySem.Str.ofString "answer_days") (L2.defArgs Sh.s_answer_days) (PySem.FuncBody.stmts (L2.defBody Sh.s_answer_days)) (L2.defScope Sh.s_answer_days) 3 List.nil PySem.Value.none PySem.Value.none PySem.Value.none (PySem.Value.str (PySem.Str.ofString "shorewaters.waters") 187) Option.none (PySem.Value.ref 215) PySem.Value.none 0)) (List.toArray List.nil))) (
  List.cons (Prod.mk (nat_lit 222) (PySem.Obj.mk (PySem.Value.type "code") Option.none (PySem.Data.fields (List.toArray (List.cons (PySem.Value.str (PySem.Str.ofString "answer_class") 500) (List.cons (PySem.Value.str (PySem.Str.ofString "answer_class") 501) (List.cons (PySem.Value.str (PySem.Str.ofString "/claim/cut.py") 502) (List.cons (PySem.Value.int 148 0) (List.cons (PySem.Value.int 2 0) (List.cons (PySem.Value.int 0 0) (List.cons (PySem.Value.int 0 0) (List.cons (PySem.Value.int 3 0) (List.cons (PySem.Value.ref 217) (List.cons (PySem.Value.bool Bool.true) (List.cons (PySem.Value.int 181 0) (List.cons (PySem.Value.ref 218) (List.cons PySem.Value.none (List.cons (PySem.Value.ref 219) (List.cons (PySem.Value.ref 220) (List.cons (PySem.Value.ref 221) (List.cons (PySem.Value.int 506 0) (List.cons (PySem.Value.int 148 0) (List.cons (PySem.Value.str (PySem.Str.ofString "/claim/cut.py") 507) List.nil))))))))))))))))))))) (List.toArray List.nil))) (
  List.cons (Prod.mk (nat_lit 223) (PySem.Obj.mk (PySem.Value.type "function") Option.none (PySem.Data.func (PySem.FuncData.mk (PySem.Str.ofString "answer_class") (PySem.Str.ofString "answer_class") (L2.defArgs Sh.s_answer_class) (PySem.FuncBody.stmts (L2.defBody Sh.s_answer_class)) (L2.defScope Sh.s_answer_class) 3 List.nil PySem.Value.none PySem.Value.none PySem.Value.none (PySem.Value.str (PySem.Str.ofString "shorewaters.waters") 187) Option.none (PySem.Value.ref 222) PySem.Value.none 0)) (List.toArray List.nil))) (
  List.cons (Prod.mk (nat_lit 229) (PySem.Obj.mk (PySem.Value.type "code") Option.none (PySem.Data.fields (List.toArray (List.cons (PySem.Value.str (PySem.Str.ofString "answer_open") 509) (List.cons (PySem.Value.str (PySem.Str.ofString "answer_open") 510) (List.cons (PySem.Value.str (PySem.Str.ofString "/claim/cut.py") 511) (List.cons (PySem.Value.int 151 0) (List.cons (PySem.Value.int 2 0) (List.cons (PySem.Value.int 0 0) (List.cons (PySem.Value.int 0 0) (List.cons (PySem.Value.int 3 0) (List.cons (PySem.Value.ref 224) (List.cons (PySem.Value.bool Bool.true) (List.cons (PySem.Value.int 181 0) (List.cons (PySem.Value.ref 225) (List.cons PySem.Value.none (List.cons (PySem.Value.ref 226) (List.cons (PySem.Value.ref 227) (List.cons (PySem.Value.ref 228) (List.cons (PySem.Value.int 515 0) (List.cons (PySem.Value.int 151 0) (List.cons (PySem.Value.str (PySem.Str.ofString "/claim/cut.py") 516) List.nil))))))))))))))))))))) (List.toArray List.nil))) (
  List.cons (Prod.mk (nat_lit 230) (PySem.Obj.mk (PySem.Value.type "function") Option.none (PySem.Data.func (PySem.FuncData.mk (PySem.Str.ofString "answer_open") (PySem.Str.ofString "answer_open") (L2.defArgs Sh.s_answer_open) (PySem.FuncBody.stmts (L2.defBody Sh.s_answer_open)) (L2.defScope Sh.s_answer_open) 3 List.nil PySem.Value.none PySem.Value.none PySem.Value.none (PySem.Value.str (PySem.Str.ofString "shorewaters.waters") 187) Option.none (PySem.Value.ref 229) PySem.Value.none 0)) (List.toArray List.nil))) (
  List.cons (Prod.mk (nat_lit 236) (PySem.Obj.mk (PySem.Value.type "code") Option.none (PySem.Data.fields (List.toArray (List.cons (PySem.Value.str (PySem.Str.ofString "answer_shut") 518) (List.cons (PySem.Value.str (PySem.Str.ofString "answer_shut") 519) (List.cons (PySem.Value.str (PySem.Str.ofString "/claim/cut.py") 520) (List.cons (PySem.Value.int 154 0) (List.cons (PySem.Value.int 2 0) (List.cons (PySem.Value.int 0 0) (List.cons (PySem.Value.int 0 0) (List.cons (PySem.Value.int 3 0) (List.cons (PySem.Value.ref 231) (List.cons (PySem.Value.bool Bool.true) (List.cons (PySem.Value.int 181 0) (List.cons (PySem.Value.ref 232) (List.cons PySem.Value.none (List.cons (PySem.Value.ref 233) (List.cons (PySem.Value.ref 234) (List.cons (PySem.Value.ref 235) (List.cons (PySem.Value.int 524 0) (List.cons (PySem.Value.int 154 0) (List.cons (PySem.Value.str (PySem.Str.ofString "/claim/cut.py") 525) List.nil))))))))))))))))))))) (List.toArray List.nil))) (
  List.cons (Prod.mk (nat_lit 237) (PySem.Obj.mk (PySem.Value.type "function") Option.none (PySem.Data.func (PySem.FuncData.mk (PySem.Str.ofString "answer_shut") (PySem.Str.ofString "answer_shut") (L2.defArgs Sh.s_answer_shut) (PySem.FuncBody.stmts (L2.defBody Sh.s_answer_shut)) (L2.defScope Sh.s_answer_shut) 3 List.nil PySem.Value.none PySem.Value.none PySem.Value.none (PySem.Value.str (PySem.Str.ofString "shorewaters.waters") 187) Option.none (PySem.Value.ref 236) PySem.Value.none 0)) (List.toArray List.nil))) (
  List.cons (Prod.mk (nat_lit 243) (PySem.Obj.mk (PySem.Value.type "code") Option.none (PySem.Data.fields (List.toArray (List.cons (PySem.Value.str (PySem.Str.ofString "answer_opens") 527) (List.cons (PySem.Value.str (PySem.Str.ofString "answer_opens") 528) (List.cons (PySem.Value.str (PySem.Str.ofString "/claim/cut.py") 529) (List.cons (PySem.Value.int 157 0) (List.cons (PySem.Value.int 2 0) (List.cons (PySem.Value.int 0 0) (List.cons (PySem.Value.int 0 0) (List.cons (PySem.Value.int 3 0) (List.cons (PySem.Value.ref 238) (List.cons (PySem.Value.bool Bool.true) (List.cons (PySem.Value.int 181 0) (List.cons (PySem.Value.ref 239) (List.cons PySem.Value.none (List.cons (PySem.Value.ref 240) (List.cons (PySem.Value.ref 241) (List.cons (PySem.Value.ref 242) (List.cons (PySem.Value.int 533 0) (List.cons (PySem.Value.int 157 0) (List.cons (PySem.Value.str (PySem.Str.ofString "/claim/cut.py") 534) List.nil))))))))))))))))))))) (List.toArray List.nil))) (
  List.cons (Prod.mk (nat_lit 244) (PySem.Obj.mk (PySem.Value.type "function") Option.none (PySem.Data.func (PySem.FuncData.mk (PySem.Str.ofString "answer_opens") (PySem.Str.ofString "answer_opens") (L2.defArgs Sh.s_answer_opens) (PySem.FuncBody.stmts (L2.defBody Sh.s_answer_opens)) (L2.defScope Sh.s_answer_opens) 3 List.nil PySem.Value.none PySem.Value.none PySem.Value.none (PySem.Value.str (PySem.Str.ofString "shorewaters.waters") 187) Option.none (PySem.Value.ref 243) PySem.Value.none 0)) (List.toArray List.nil))) (
  List.cons (Prod.mk (nat_lit 250) (PySem.Obj.mk (PySem.Value.type "code") Option.none (PySem.Data.fields (List.toArray (List.cons (PySem.Value.str (PySem.Str.ofString "answer_mean") 536) (List.cons (PySem.Value.str (PySem.Str.ofString "answer_mean") 537) (List.cons (PySem.Value.str (PySem.Str.ofString "/claim/cut.py") 538) (List.cons (PySem.Value.int 162 0) (List.cons (PySem.Value.int 2 0) (List.cons (PySem.Value.int 0 0) (List.cons (PySem.Value.int 0 0) (List.cons (PySem.Value.int 3 0) (List.cons (PySem.Value.ref 245) (List.cons (PySem.Value.bool Bool.true) (List.cons (PySem.Value.int 181 0) (List.cons (PySem.Value.ref 246) (List.cons PySem.Value.none (List.cons (PySem.Value.ref 247) (List.cons (PySem.Value.ref 248) (List.cons (PySem.Value.ref 249) (List.cons (PySem.Value.int 542 0) (List.cons (PySem.Value.int 162 0) (List.cons (PySem.Value.str (PySem.Str.ofString "/claim/cut.py") 543) List.nil))))))))))))))))))))) (List.toArray List.nil))) (
  List.cons (Prod.mk (nat_lit 251) (PySem.Obj.mk (PySem.Value.type "function") Option.none (PySem.Data.func (PySem.FuncData.mk (PySem.Str.ofString "answer_mean") (PySem.Str.ofString "answer_mean") (L2.defArgs Sh.s_answer_mean) (PySem.FuncBody.stmts (L2.defBody Sh.s_answer_mean)) (L2.defScope Sh.s_answer_mean) 3 List.nil PySem.Value.none PySem.Value.none PySem.Value.none (PySem.Value.str (PySem.Str.ofString "shorewaters.waters") 187) Option.none (PySem.Value.ref 250) PySem.Value.none 0)) (List.toArray List.nil))) (
  List.cons (Prod.mk (nat_lit 257) (PySem.Obj.mk (PySem.Value.type "code") Option.none (PySem.Data.fields (List.toArray (List.cons (PySem.Value.str (PySem.Str.ofString "answer_evenly") 545) (List.cons (PySem.Value.str (PySem.Str.ofString "answer_evenly") 546) (List.cons (PySem.Value.str (PySem.Str.ofString "/claim/cut.py") 547) (List.cons (PySem.Value.int 167 0) (List.cons (PySem.Value.int 2 0) (List.cons (PySem.Value.int 0 0) (List.cons (PySem.Value.int 0 0) (List.cons (PySem.Value.int 3 0) (List.cons (PySem.Value.ref 252) (List.cons (PySem.Value.bool Bool.true) (List.cons (PySem.Value.int 181 0) (List.cons (PySem.Value.ref 253) (List.cons PySem.Value.none (List.cons (PySem.Value.ref 254) (List.cons (PySem.Value.ref 255) (List.cons (PySem.Value.ref 256) (List.cons (PySem.Value.int 552 0) (List.cons (PySem.Value.int 167 0) (List.cons (PySem.Value.str (PySem.Str.ofString "/claim/cut.py") 553) List.nil))))))))))))))))))))) (List.toArray List.nil))) (
  List.cons (Prod.mk (nat_lit 258) (PySem.Obj.mk (PySem.Value.type "function") Option.none (PySem.Data.func (PySem.FuncData.mk (PySem.Str.ofString "answer_evenly") (PySem.Str.ofString "answer_evenly") (L2.defArgs Sh.s_answer_evenly) (PySem.FuncBody.stmts (L2.defBody Sh.s_answer_evenly)) (L2.defScope Sh.s_answer_evenly) 3 List.nil PySem.Value.none PySem.Value.none PySem.Value.none (PySem.Value.str (PySem.Str.ofString "shorewaters.waters") 187) Option.none (PySem.Value.ref 257) PySem.Value.none 0)) (List.toArray List.nil))) (
  List.cons (Prod.mk (nat_lit 264) (PySem.Obj.mk (PySem.Value.type "code") Option.none (PySem.Data.fields (List.toArray (List.cons (PySem.Value.str (PySem.Str.ofString "answer_greatest") 555) (List.cons (PySem.Value.str (PySem.Str.ofString "answer_greatest") 556) (List.cons (PySem.Value.str (PySem.Str.ofString "/claim/cut.py") 557) (List.cons (PySem.Value.int 173 0) (List.cons (PySem.Value.int 2 0) (List.cons (PySem.Value.int 0 0) (List.cons (PySem.Value.int 0 0) (List.cons (PySem.Value.int 3 0) (List.cons (PySem.Value.ref 259) (List.cons (PySem.Value.bool Bool.true) (List.cons (PySem.Value.int 181 0) (List.cons (PySem.Value.ref 260) (List.cons PySem.Value.none (List.cons (PySem.Value.ref 261) (List.cons (PySem.Value.ref 262) (List.cons (PySem.Value.ref 263) (List.cons (PySem.Value.int 564 0) (List.cons (PySem.Value.int 173 0) (List.cons (PySem.Value.str (PySem.Str.ofString "/claim/cut.py") 565) List.nil))))))))))))))))))))) (List.toArray List.nil))) (
  List.cons (Prod.mk (nat_lit 265) (PySem.Obj.mk (PySem.Value.type "function") Option.none (PySem.Data.func (PySem.FuncData.mk (PySem.Str.ofString "answer_greatest") (PySem.Str.ofString "answer_greatest") (L2.defArgs Sh.s_answer_greatest) (PySem.FuncBody.stmts (L2.defBody Sh.s_answer_greatest)) (L2.defScope Sh.s_answer_greatest) 3 List.nil PySem.Value.none PySem.Value.none PySem.Value.none (PySem.Value.str (PySem.Str.ofString "shorewaters.waters") 187) Option.none (PySem.Value.ref 264) PySem.Value.none 0)) (List.toArray List.nil))) (
  List.cons (Prod.mk (nat_lit 271) (PySem.Obj.mk (PySem.Value.type "code") Option.none (PySem.Data.fields (List.toArray (List.cons (PySem.Value.str (PySem.Str.ofString "answer_would") 567) (List.cons (PySem.Value.str (PySem.Str.ofString "answer_would") 568) (List.cons (PySem.Value.str (PySem.Str.ofString "/claim/cut.py") 569) (List.cons (PySem.Value.int 180 0) (List.cons (PySem.Value.int 2 0) (List.cons (PySem.Value.int 0 0) (List.cons (PySem.Value.int 0 0) (List.cons (PySem.Value.int 3 0) (List.cons (PySem.Value.ref 266) (List.cons (PySem.Value.bool Bool.true) (List.cons (PySem.Value.int 181 0) (List.cons (PySem.Value.ref 267) (List.cons PySem.Value.none (List.cons (PySem.Value.ref 268) (List.cons (PySem.Value.ref 269) (List.cons (PySem.Value.ref 270) (List.cons (PySem.Value.int 574 0) (List.cons (PySem.Value.int 180 0) (List.cons (PySem.Value.str (PySem.Str.ofString "/claim/cut.py") 575) List.nil))))))))))))))))))))) (List.toArray List.nil))) (
  List.cons (Prod.mk (nat_lit 272) (PySem.Obj.mk (PySem.Value.type "function") Option.none (PySem.Data.func (PySem.FuncData.mk (PySem.Str.ofString "answer_would") (PySem.Str.ofString "answer_would") (L2.defArgs Sh.s_answer_would) (PySem.FuncBody.stmts (L2.defBody Sh.s_answer_would)) (L2.defScope Sh.s_answer_would) 3 List.nil PySem.Value.none PySem.Value.none PySem.Value.none (PySem.Value.str (PySem.Str.ofString "shorewaters.waters") 187) Option.none (PySem.Value.ref 271) PySem.Value.none 0)) (List.toArray List.nil))) (
  List.cons (Prod.mk (nat_lit 278) (PySem.Obj.mk (PySem.Value.type "code") Option.none (PySem.Data.fields (List.toArray (List.cons (PySem.Value.str (PySem.Str.ofString "answer_fewest") 577) (List.cons (PySem.Value.str (PySem.Str.ofString "answer_fewest") 578) (List.cons (PySem.Value.str (PySem.Str.ofString "/claim/cut.py") 579) (List.cons (PySem.Value.int 186 0) (List.cons (PySem.Value.int 3 0) (List.cons (PySem.Value.int 0 0) (List.cons (PySem.Value.int 0 0) (List.cons (PySem.Value.int 3 0) (List.cons (PySem.Value.ref 273) (List.cons (PySem.Value.bool Bool.true) (List.cons (PySem.Value.int 181 0) (List.cons (PySem.Value.ref 274) (List.cons PySem.Value.none (List.cons (PySem.Value.ref 275) (List.cons (PySem.Value.ref 276) (List.cons (PySem.Value.ref 277) (List.cons (PySem.Value.int 587 0) (List.cons (PySem.Value.int 186 0) (List.cons (PySem.Value.str (PySem.Str.ofString "/claim/cut.py") 588) List.nil))))))))))))))))))))) (List.toArray List.nil))) (
  List.cons (Prod.mk (nat_lit 279) (PySem.Obj.mk (PySem.Value.type "function") Option.none (PySem.Data.func (PySem.FuncData.mk (PySem.Str.ofString "answer_fewest") (PySem.Str.ofString "answer_fewest") (L2.defArgs Sh.s_answer_fewest) (PySem.FuncBody.stmts (L2.defBody Sh.s_answer_fewest)) (L2.defScope Sh.s_answer_fewest) 3 List.nil PySem.Value.none PySem.Value.none PySem.Value.none (PySem.Value.str (PySem.Str.ofString "shorewaters.waters") 187) Option.none (PySem.Value.ref 278) PySem.Value.none 0)) (List.toArray List.nil))) (
  List.cons (Prod.mk (nat_lit 285) (PySem.Obj.mk (PySem.Value.type "code") Option.none (PySem.Data.fields (List.toArray (List.cons (PySem.Value.str (PySem.Str.ofString "answer_needs") 590) (List.cons (PySem.Value.str (PySem.Str.ofString "answer_needs") 591) (List.cons (PySem.Value.str (PySem.Str.ofString "/claim/cut.py") 592) (List.cons (PySem.Value.int 196 0) (List.cons (PySem.Value.int 2 0) (List.cons (PySem.Value.int 0 0) (List.cons (PySem.Value.int 0 0) (List.cons (PySem.Value.int 3 0) (List.cons (PySem.Value.ref 280) (List.cons (PySem.Value.bool Bool.true) (List.cons (PySem.Value.int 181 0) (List.cons (PySem.Value.ref 281) (List.cons PySem.Value.none (List.cons (PySem.Value.ref 282) (List.cons (PySem.Value.ref 283) (List.cons (PySem.Value.ref 284) (List.cons (PySem.Value.int 595 0) (List.cons (PySem.Value.int 196 0) (List.cons (PySem.Value.str (PySem.Str.ofString "/claim/cut.py") 596) List.nil))))))))))))))))))))) (List.toArray List.nil))) (
  List.cons (Prod.mk (nat_lit 286) (PySem.Obj.mk (PySem.Value.type "function") Option.none (PySem.Data.func (PySem.FuncData.mk (PySem.Str.ofString "answer_needs") (PySem.Str.ofString "answer_needs") (L2.defArgs Sh.s_answer_needs) (PySem.FuncBody.stmts (L2.defBody Sh.s_answer_needs)) (L2.defScope Sh.s_answer_needs) 3 List.nil PySem.Value.none PySem.Value.none PySem.Value.none (PySem.Value.str (PySem.Str.ofString "shorewaters.waters") 187) Option.none (PySem.Value.ref 285) PySem.Value.none 0)) (List.toArray List.nil))) (
  List.cons (Prod.mk (nat_lit 292) (PySem.Obj.mk (PySem.Value.type "code") Option.none (PySem.Data.fields (List.toArray (List.cons (PySem.Value.str (PySem.Str.ofString "answer_lasts") 598) (List.cons (PySem.Value.str (PySem.Str.ofString "answer_lasts") 599) (List.cons (PySem.Value.str (PySem.Str.ofString "/claim/cut.py") 600) (List.cons (PySem.Value.int 198 0) (List.cons (PySem.Value.int 2 0) (List.cons (PySem.Value.int 0 0) (List.cons (PySem.Value.int 0 0) (List.cons (PySem.Value.int 3 0) (List.cons (PySem.Value.ref 287) (List.cons (PySem.Value.bool Bool.true) (List.cons (PySem.Value.int 181 0) (List.cons (PySem.Value.ref 288) (List.cons PySem.Value.none (List.cons (PySem.Value.ref 289) (List.cons (PySem.Value.ref 290) (List.cons (PySem.Value.ref 291) (List.cons (PySem.Value.int 603 0) (List.cons (PySem.Value.int 198 0) (List.cons (PySem.Value.str (PySem.Str.ofString "/claim/cut.py") 604) List.nil))))))))))))))))))))) (List.toArray List.nil))) (
  List.cons (Prod.mk (nat_lit 293) (PySem.Obj.mk (PySem.Value.type "function") Option.none (PySem.Data.func (PySem.FuncData.mk (PySem.Str.ofString "answer_lasts") (PySem.Str.ofString "answer_lasts") (L2.defArgs Sh.s_answer_lasts) (PySem.FuncBody.stmts (L2.defBody Sh.s_answer_lasts)) (L2.defScope Sh.s_answer_lasts) 3 List.nil PySem.Value.none PySem.Value.none PySem.Value.none (PySem.Value.str (PySem.Str.ofString "shorewaters.waters") 187) Option.none (PySem.Value.ref 292) PySem.Value.none 0)) (List.toArray List.nil))) (
  List.cons (Prod.mk (nat_lit 299) (PySem.Obj.mk (PySem.Value.type "code") Option.none (PySem.Data.fields (List.toArray (List.cons (PySem.Value.str (PySem.Str.ofString "answer_above") 606) (List.cons (PySem.Value.str (PySem.Str.ofString "answer_above") 607) (List.cons (PySem.Value.str (PySem.Str.ofString "/claim/cut.py") 608) (List.cons (PySem.Value.int 200 0) (List.cons (PySem.Value.int 2 0) (List.cons (PySem.Value.int 0 0) (List.cons (PySem.Value.int 0 0) (List.cons (PySem.Value.int 3 0) (List.cons (PySem.Value.ref 294) (List.cons (PySem.Value.bool Bool.true) (List.cons (PySem.Value.int 181 0) (List.cons (PySem.Value.ref 295) (List.cons PySem.Value.none (List.cons (PySem.Value.ref 296) (List.cons (PySem.Value.ref 297) (List.cons (PySem.Value.ref 298) (List.cons (PySem.Value.int 613 0) (List.cons (PySem.Value.int 200 0) (List.cons (PySem.Value.str (PySem.Str.ofString "/claim/cut.py") 614) List.nil))))))))))))))))))))) (List.toArray List.nil))) (
  List.cons (Prod.mk (nat_lit 300) (PySem.Obj.mk (PySem.Value.type "function") Option.none (PySem.Data.func (PySem.FuncData.mk (PySem.Str.ofString "answer_above") (PySem.Str.ofString "answer_above") (L2.defArgs Sh.s_answer_above) (PySem.FuncBody.stmts (L2.defBody Sh.s_answer_above)) (L2.defScope Sh.s_answer_above) 3 List.nil PySem.Value.none PySem.Value.none PySem.Value.none (PySem.Value.str (PySem.Str.ofString "shorewaters.waters") 187) Option.none (PySem.Value.ref 299) PySem.Value.none 0)) (List.toArray List.nil))) (
  List.cons (Prod.mk (nat_lit 306) (PySem.Obj.mk (PySem.Value.type "code") Option.none (PySem.Data.fields (List.toArray (List.cons (PySem.Value.str (PySem.Str.ofString "answer_worse") 616) (List.cons (PySem.Value.str (PySem.Str.ofString "answer_worse") 617) (List.cons (PySem.Value.str (PySem.Str.ofString "/claim/cut.py") 618) (List.cons (PySem.Value.int 206 0) (List.cons (PySem.Value.int 2 0) (List.cons (PySem.Value.int 0 0) (List.cons (PySem.Value.int 0 0) (List.cons (PySem.Value.int 3 0) (List.cons (PySem.Value.ref 301) (List.cons (PySem.Value.bool Bool.true) (List.cons (PySem.Value.int 181 0) (List.cons (PySem.Value.ref 302) (List.cons PySem.Value.none (List.cons (PySem.Value.ref 303) (List.cons (PySem.Value.ref 304) (List.cons (PySem.Value.ref 305) (List.cons (PySem.Value.int 623 0) (List.cons (PySem.Value.int 206 0) (List.cons (PySem.Value.str (PySem.Str.ofString "/claim/cut.py") 624) List.nil))))))))))))))))))))) (List.toArray List.nil))) (
  List.cons (Prod.mk (nat_lit 307) (PySem.Obj.mk (PySem.Value.type "function") Option.none (PySem.Data.func (PySem.FuncData.mk (PySem.Str.ofString "answer_worse") (PySem.Str.ofString "answer_worse") (L2.defArgs Sh.s_answer_worse) (PySem.FuncBody.stmts (L2.defBody Sh.s_answer_worse)) (L2.defScope Sh.s_answer_worse) 3 List.nil PySem.Value.none PySem.Value.none PySem.Value.none (PySem.Value.str (PySem.Str.ofString "shorewaters.waters") 187) Option.none (PySem.Value.ref 306) PySem.Value.none 0)) (List.toArray List.nil))) (
  List.cons (Prod.mk (nat_lit 313) (PySem.Obj.mk (PySem.Value.type "code") Option.none (PySem.Data.fields (List.toArray (List.cons (PySem.Value.str (PySem.Str.ofString "answer_best") 626) (List.cons (PySem.Value.str (PySem.Str.ofString "answer_best") 627) (List.cons (PySem.Value.str (PySem.Str.ofString "/claim/cut.py") 628) (List.cons (PySem.Value.int 214 0) (List.cons (PySem.Value.int 2 0) (List.cons (PySem.Value.int 0 0) (List.cons (PySem.Value.int 0 0) (List.cons (PySem.Value.int 3 0) (List.cons (PySem.Value.ref 308) (List.cons (PySem.Value.bool Bool.true) (List.cons (PySem.Value.int 181 0) (List.cons (PySem.Value.ref 309) (List.cons PySem.Value.none (List.cons (PySem.Value.ref 310) (List.cons (PySem.Value.ref 311) (List.cons (PySem.Value.ref 312) (List.cons (PySem.Value.int 632 0) (List.cons (PySem.Value.int 214 0) (List.cons (PySem.Value.str (PySem.Str.ofString "/claim/cut.py") 633) List.nil))))))))))))))))))))) (List.toArray List.nil))) (
  List.cons (Prod.mk (nat_lit 314) (PySem.Obj.mk (PySem.Value.type "function") Option.none (PySem.Data.func (PySem.FuncData.mk (PySem.Str.ofString "answer_best") (PySem.Str.ofString "answer_best") (L2.defArgs Sh.s_answer_best) (PySem.FuncBody.stmts (L2.defBody Sh.s_answer_best)) (L2.defScope Sh.s_answer_best) 3 List.nil PySem.Value.none PySem.Value.none PySem.Value.none (PySem.Value.str (PySem.Str.ofString "shorewaters.waters") 187) Option.none (PySem.Value.ref 313) PySem.Value.none 0)) (List.toArray List.nil))) (
  List.cons (Prod.mk (nat_lit 318) (PySem.Obj.mk (PySem.Value.type "code") Option.none (PySem.Data.fields (List.toArray (List.cons (PySem.Value.str (PySem.Str.ofString "answer_order") 635) (List.cons (PySem.Value.str (PySem.Str.ofString "answer_order") 636) (List.cons (PySem.Value.str (PySem.Str.ofString "/claim/cut.py") 637) (List.cons (PySem.Value.int 219 0) (List.cons (PySem.Value.int 2 0) (List.cons (PySem.Value.int 0 0) (List.cons (PySem.Value.int 0 0) (List.cons (PySem.Value.int 3 0) (List.cons (PySem.Value.ref 315) (List.cons (PySem.Value.bool Bool.true) (List.cons (PySem.Value.int 181 0) (List.cons (PySem.Value.ref 316) (List.cons PySem.Value.none (List.cons PySem.Value.none (List.cons PySem.Value.none (List.cons (PySem.Value.ref 317) (List.cons (PySem.Value.int 638 0) (List.cons (PySem.Value.int 219 0) (List.cons (PySem.Value.str (PySem.Str.ofString "/claim/cut.py") 639) List.nil))))))))))))))))))))) (List.toArray List.nil))) (
  List.cons (Prod.mk (nat_lit 319) (PySem.Obj.mk (PySem.Value.type "function") Option.none (PySem.Data.func (PySem.FuncData.mk (PySem.Str.ofString "answer_order") (PySem.Str.ofString "answer_order") (L2.defArgs Sh.s_answer_order) (PySem.FuncBody.stmts (L2.defBody Sh.s_answer_order)) (L2.defScope Sh.s_answer_order) 3 List.nil PySem.Value.none PySem.Value.none PySem.Value.none (PySem.Value.str (PySem.Str.ofString "shorewaters.waters") 187) Option.none (PySem.Value.ref 318) PySem.Value.none 0)) (List.toArray List.nil))) (
  List.cons (Prod.mk (nat_lit 325) (PySem.Obj.mk (PySem.Value.type "code") Option.none (PySem.Data.fields (List.toArray (List.cons (PySem.Value.str (PySem.Str.ofString "answer_why") 641) (List.cons (PySem.Value.str (PySem.Str.ofString "answer_why") 642) (List.cons (PySem.Value.str (PySem.Str.ofString "/claim/cut.py") 643) (List.cons (PySem.Value.int 222 0) (List.cons (PySem.Value.int 2 0) (List.cons (PySem.Value.int 0 0) (List.cons (PySem.Value.int 0 0) (List.cons (PySem.Value.int 3 0) (List.cons (PySem.Value.ref 320) (List.cons (PySem.Value.bool Bool.true) (List.cons (PySem.Value.int 181 0) (List.cons (PySem.Value.ref 321) (List.cons PySem.Value.none (List.cons (PySem.Value.ref 322) (List.cons (PySem.Value.ref 323) (List.cons (PySem.Value.ref 324) (List.cons (PySem.Value.int 648 0) (List.cons (PySem.Value.int 222 0) (List.cons (PySem.Value.str (PySem.Str.ofString "/claim/cut.py") 649) List.nil))))))))))))))))))))) (List.toArray List.nil))) (
  List.cons (Prod.mk (nat_lit 326) (PySem.Obj.mk (PySem.Value.type "function") Option.none (PySem.Data.func (PySem.FuncData.mk (PySem.Str.ofString "answer_why") (PySem.Str.ofString "answer_why") (L2.defArgs Sh.s_answer_why) (PySem.FuncBody.stmts (L2.defBody Sh.s_answer_why)) (L2.defScope Sh.s_answer_why) 3 List.nil PySem.Value.none PySem.Value.none PySem.Value.none (PySem.Value.str (PySem.Str.ofString "shorewaters.waters") 187) Option.none (PySem.Value.ref 325) PySem.Value.none 0)) (List.toArray List.nil))) (
  List.cons (Prod.mk (nat_lit 332) (PySem.Obj.mk (PySem.Value.type "code") Option.none (PySem.Data.fields (List.toArray (List.cons (PySem.Value.str (PySem.Str.ofString "answer_reads") 651) (List.cons (PySem.Value.str (PySem.Str.ofString "answer_reads") 652) (List.cons (PySem.Value.str (PySem.Str.ofString "/claim/cut.py") 653) (List.cons (PySem.Value.int 234 0) (List.cons (PySem.Value.int 2 0) (List.cons (PySem.Value.int 0 0) (List.cons (PySem.Value.int 0 0) (List.cons (PySem.Value.int 3 0) (List.cons (PySem.Value.ref 327) (List.cons (PySem.Value.bool Bool.true) (List.cons (PySem.Value.int 181 0) (List.cons (PySem.Value.ref 328) (List.cons PySem.Value.none (List.cons (PySem.Value.ref 329) (List.cons (PySem.Value.ref 330) (List.cons (PySem.Value.ref 331) (List.cons (PySem.Value.int 657 0) (List.cons (PySem.Value.int 234 0) (List.cons (PySem.Value.str (PySem.Str.ofString "/claim/cut.py") 658) List.nil))))))))))))))))))))) (List.toArray List.nil))) (
  List.cons (Prod.mk (nat_lit 333) (PySem.Obj.mk (PySem.Value.type "function") Option.none (PySem.Data.func (PySem.FuncData.mk (PySem.Str.ofString "answer_reads") (PySem.Str.ofString "answer_reads") (L2.defArgs Sh.s_answer_reads) (PySem.FuncBody.stmts (L2.defBody Sh.s_answer_reads)) (L2.defScope Sh.s_answer_reads) 3 List.nil PySem.Value.none PySem.Value.none PySem.Value.none (PySem.Value.str (PySem.Str.ofString "shorewaters.waters") 187) Option.none (PySem.Value.ref 332) PySem.Value.none 0)) (List.toArray List.nil))) (
  List.cons (Prod.mk (nat_lit 339) (PySem.Obj.mk (PySem.Value.type "code") Option.none (PySem.Data.fields (List.toArray (List.cons (PySem.Value.str (PySem.Str.ofString "answer_state") 660) (List.cons (PySem.Value.str (PySem.Str.ofString "answer_state") 661) (List.cons (PySem.Value.str (PySem.Str.ofString "/claim/cut.py") 662) (List.cons (PySem.Value.int 237 0) (List.cons (PySem.Value.int 2 0) (List.cons (PySem.Value.int 0 0) (List.cons (PySem.Value.int 0 0) (List.cons (PySem.Value.int 3 0) (List.cons (PySem.Value.ref 334) (List.cons (PySem.Value.bool Bool.true) (List.cons (PySem.Value.int 181 0) (List.cons (PySem.Value.ref 335) (List.cons PySem.Value.none (List.cons (PySem.Value.ref 336) (List.cons (PySem.Value.ref 337) (List.cons (PySem.Value.ref 338) (List.cons (PySem.Value.int 665 0) (List.cons (PySem.Value.int 237 0) (List.cons (PySem.Value.str (PySem.Str.ofString "/claim/cut.py") 666) List.nil))))))))))))))))))))) (List.toArray List.nil))) (
  List.cons (Prod.mk (nat_lit 340) (PySem.Obj.mk (PySem.Value.type "function") Option.none (PySem.Data.func (PySem.FuncData.mk (PySem.Str.ofString "answer_state") (PySem.Str.ofString "answer_state") (L2.defArgs Sh.s_answer_state) (PySem.FuncBody.stmts (L2.defBody Sh.s_answer_state)) (L2.defScope Sh.s_answer_state) 3 List.nil PySem.Value.none PySem.Value.none PySem.Value.none (PySem.Value.str (PySem.Str.ofString "shorewaters.waters") 187) Option.none (PySem.Value.ref 339) PySem.Value.none 0)) (List.toArray List.nil))) (
  List.cons (Prod.mk (nat_lit 341) (PySem.Obj.mk (PySem.Value.type "tuple") Option.none (PySem.Data.seq (List.toArray (List.cons (PySem.Value.ref 181) (List.cons (PySem.Value.int 5 668) (List.cons (PySem.Value.int 0 669) List.nil))))) (List.toArray List.nil))) (
  List.cons (Prod.mk (nat_lit 342) (PySem.Obj.mk (PySem.Value.type "tuple") Option.none (PySem.Data.seq (List.toArray (List.cons (PySem.Value.ref 188) (List.cons (PySem.Value.int 0 670) (List.cons (PySem.Value.int 0 671) List.nil))))) (List.toArray List.nil))) (
  List.cons (Prod.mk (nat_lit 343) (PySem.Obj.mk (PySem.Value.type "tuple") Option.none (PySem.Data.seq (List.toArray (List.cons (PySem.Value.ref 195) (List.cons (PySem.Value.int 2 672) (List.cons (PySem.Value.int 1 673) List.nil))))) (List.toArray List.nil))) (
  List.cons (Prod.mk (nat_lit 344) (PySem.Obj.mk (PySem.Value.type "tuple") Option.none (PySem.Data.seq (List.toArray (List.cons (PySem.Value.ref 202) (List.cons (PySem.Value.int 1 674) (List.cons (PySem.Value.int 1 675) List.nil))))) (List.toArray List.nil))) (
  List.cons (Prod.mk (nat_lit 345) (PySem.Obj.mk (PySem.Value.type "tuple") Option.none (PySem.Data.seq (List.toArray (List.cons (PySem.Value.ref 209) (List.cons (PySem.Value.int 1 676) (List.cons (PySem.Value.int 0 677) List.nil))))) (List.toArray List.nil))) (
  List.cons (Prod.mk (nat_lit 346) (PySem.Obj.mk (PySem.Value.type "tuple") Option.none (PySem.Data.seq (List.toArray (List.cons (PySem.Value.ref 216) (List.cons (PySem.Value.int 1 678) (List.cons (PySem.Value.int 0 679) List.nil))))) (List.toArray List.nil))) (
  List.cons (Prod.mk (nat_lit 347) (PySem.Obj.mk (PySem.Value.type "tuple") Option.none (PySem.Data.seq (List.toArray (List.cons (PySem.Value.ref 223) (List.cons (PySem.Value.int 1 680) (List.cons (PySem.Value.int 1 681) List.nil))))) (List.toArray List.nil))) (
  List.cons (Prod.mk (nat_lit 348) (PySem.Obj.mk (PySem.Value.type "tuple") Option.none (PySem.Data.seq (List.toArray (List.cons (PySem.Value.ref 230) (List.cons (PySem.Value.int 0 682) (List.cons (PySem.Value.int 0 683) List.nil))))) (List.toArray List.nil))) (
  List.cons (Prod.mk (nat_lit 349) (PySem.Obj.mk (PySem.Value.type "tuple") Option.none (PySem.Data.seq (List.toArray (List.cons (PySem.Value.ref 237) (List.cons (PySem.Value.int 0 684) (List.cons (PySem.Value.int 0 685) List.nil))))) (List.toArray List.nil))) (
  List.cons (Prod.mk (nat_lit 350) (PySem.Obj.mk (PySem.Value.type "tuple") Option.none (PySem.Data.seq (List.toArray (List.cons (PySem.Value.ref 244) (List.cons (PySem.Value.int 1 686) (List.cons (PySem.Value.int 1 687) List.nil))))) (List.toArray List.nil))) (
  List.cons (Prod.mk (nat_lit 351) (PySem.Obj.mk (PySem.Value.type "tuple") Option.none (PySem.Data.seq (List.toArray (List.cons (PySem.Value.ref 251) (List.cons (PySem.Value.int 1 688) (List.cons (PySem.Value.int 1 689) List.nil))))) (List.toArray List.nil))) (
  List.cons (Prod.mk (nat_lit 352) (PySem.Obj.mk (PySem.Value.type "tuple") Option.none (PySem.Data.seq (List.toArray (List.cons (PySem.Value.ref 258) (List.cons (PySem.Value.int 1 690) (List.cons (PySem.Value.int 1 691) List.nil))))) (List.toArray List.nil))) (
  List.cons (Prod.mk (nat_lit 353) (PySem.Obj.mk (PySem.Value.type "tuple") Option.none (PySem.Data.seq (List.toArray (List.cons (PySem.Value.ref 265) (List.cons (PySem.Value.int 2 692) (List.cons (PySem.Value.int 1 693) List.nil))))) (List.toArray List.nil))) (
  List.cons (Prod.mk (nat_lit 354) (PySem.Obj.mk (PySem.Value.type "tuple") Option.none (PySem.Data.seq (List.toArray (List.cons (PySem.Value.ref 272) (List.cons (PySem.Value.int 2 694) (List.cons (PySem.Value.int 1 695) List.nil))))) (List.toArray List.nil))) (
  List.cons (Prod.mk (nat_lit 355) (PySem.Obj.mk (PySem.Value.type "tuple") Option.none (PySem.Data.seq (List.toArray (List.cons (PySem.Value.ref 286) (List.cons (PySem.Value.int 3 696) (List.cons (PySem.Value.int 1 697) List.nil))))) (List.toArray List.nil))) (
  List.cons (Prod.mk (nat_lit 356) (PySem.Obj.mk (PySem.Value.type "tuple") Option.none (PySem.Data.seq (List.toArray (List.cons (PySem.Value.ref 293) (List.cons (PySem.Value.int 3 698) (List.cons (PySem.Value.int 1 699) List.nil))))) (List.toArray List.nil))) (
  List.cons (Prod.mk (nat_lit 357) (PySem.Obj.mk (PySem.Value.type "tuple") Option.none (PySem.Data.seq (List.toArray (List.cons (PySem.Value.ref 300) (List.cons (PySem.Value.int 2 700) (List.cons (PySem.Value.int 1 701) List.nil))))) (List.toArray List.nil))) (
  List.cons (Prod.mk (nat_lit 358) (PySem.Obj.mk (PySem.Value.type "tuple") Option.none (PySem.Data.seq (List.toArray (List.cons (PySem.Value.ref 307) (List.cons (PySem.Value.int 2 702) (List.cons (PySem.Value.int 2 703) List.nil))))) (List.toArray List.nil))) (
  List.cons (Prod.mk (nat_lit 359) (PySem.Obj.mk (PySem.Value.type "tuple") Option.none (PySem.Data.seq (List.toArray (List.cons (PySem.Value.ref 314) (List.cons (PySem.Value.int 0 704) (List.cons (PySem.Value.int 0 705) List.nil))))) (List.toArray List.nil))) (
  List.cons (Prod.mk (nat_lit 360) (PySem.Obj.mk (PySem.Value.type "tuple") Option.none (PySem.Data.seq (List.toArray (List.cons (PySem.Value.ref 319) (List.cons (PySem.Value.int 0 706) (List.cons (PySem.Value.int 0 707) List.nil))))) (List.toArray List.nil))) (
  List.cons (Prod.mk (nat_lit 361) (PySem.Obj.mk (PySem.Value.type "tuple") Option.none (PySem.Data.seq (List.toArray (List.cons (PySem.Value.ref 326) (List.cons (PySem.Value.int 1 708) (List.cons (PySem.Value.int 1 709) List.nil))))) (List.toArray List.nil))) (
  List.cons (Prod.mk (nat_lit 362) (PySem.Obj.mk (PySem.Value.type "tuple") Option.none (PySem.Data.seq (List.toArray (List.cons (PySem.Value.ref 333) (List.cons (PySem.Value.int 1 710) (List.cons (PySem.Value.int 1 711) List.nil))))) (List.toArray List.nil))) (
  List.cons (Prod.mk (nat_lit 363) (PySem.Obj.mk (PySem.Value.type "tuple") Option.none (PySem.Data.seq (List.toArray (List.cons (PySem.Value.ref 340) (List.cons (PySem.Value.int 0 712) (List.cons (PySem.Value.int 0 713) List.nil))))) (List.toArray List.nil))) (
  List.cons (Prod.mk (nat_lit 364) (PySem.Obj.mk (PySem.Value.type "tuple") Option.none (PySem.Data.seq (List.toArray (List.cons (PySem.Value.ref 341) (List.cons (PySem.Value.ref 342) (List.cons (PySem.Value.ref 343) (List.cons (PySem.Value.ref 344) (List.cons (PySem.Value.ref 345) (List.cons (PySem.Value.ref 346) (List.cons (PySem.Value.ref 347) (List.cons (PySem.Value.ref 348) (List.cons (PySem.Value.ref 349) (List.cons (PySem.Value.ref 350) (List.cons (PySem.Value.ref 351) (List.cons (PySem.Value.ref 352) (List.cons (PySem.Value.ref 353) (List.cons (PySem.Value.ref 354) (List.cons (PySem.Value.ref 355) (List.cons (PySem.Value.ref 356) (List.cons (PySem.Value.ref 357) (List.cons (PySem.Value.ref 358) (List.cons (PySem.Value.ref 359) (List.cons (PySem.Value.ref 360) (List.cons (PySem.Value.ref 361) (List.cons (PySem.Value.ref 362) (List.cons (PySem.Value.ref 363) List.nil))))))))))))))))))))))))) (List.toArray List.nil))) (
  List.cons (Prod.mk (nat_lit 370) (PySem.Obj.mk (PySem.Value.type "code") Option.none (PySem.Data.fields (List.toArray (List.cons (PySem.Value.str (PySem.Str.ofString "answer_call") 715) (List.cons (PySem.Value.str (PySem.Str.ofString "answer_call") 716) (List.cons (PySem.Value.str (PySem.Str.ofString "/claim/cut.py") 717) (List.cons (PySem.Value.int 240 0) (List.cons (PySem.Value.int 3 0) (List.cons (PySem.Value.int 0 0) (List.cons (PySem.Value.int 0 0) (List.cons (PySem.Value.int 3 0) (List.cons (PySem.Value.ref 365) (List.cons (PySem.Value.bool Bool.true) (List.cons (PySem.Value.int 181 0) (List.cons (PySem.Value.ref 366) (List.cons PySem.Value.none (List.cons (PySem.Value.ref 367) (List.cons (PySem.Value.ref 368) (List.cons (PySem.Value.ref 369) (List.cons (PySem.Value.int 724 0) (List.cons (PySem.Value.int 240 0) (List.cons (PySem.Value.str (PySem.Str.ofString "/claim/cut.py") 725) List.nil))))))))))))))))))))) (List.toArray List.nil))) (
  List.cons (Prod.mk (nat_lit 371) (PySem.Obj.mk (PySem.Value.type "function") Option.none (PySem.Data.func (PySem.FuncData.mk (PySem.Str.ofString "answer_call") (PySem.Str.ofString "answer_call") (L2.defArgs Sh.s_answer_call) (PySem.FuncBody.stmts (L2.defBody Sh.s_answer_call)) (L2.defScope Sh.s_answer_call) 3 List.nil PySem.Value.none PySem.Value.none PySem.Value.none (PySem.Value.str (PySem.Str.ofString "shorewaters.waters") 187) Option.none (PySem.Value.ref 370) PySem.Value.none 0)) (List.toArray List.nil))) (
  List.cons (Prod.mk (nat_lit 377) (PySem.Obj.mk (PySem.Value.type "code") Option.none (PySem.Data.fields (List.toArray (List.cons (PySem.Value.str (PySem.Str.ofString "answers") 727) (List.cons (PySem.Value.str (PySem.Str.ofString "answers") 728) (List.cons (PySem.Value.str (PySem.Str.ofString "/claim/cut.py") 729) (List.cons (PySem.Value.int 249 0) (List.cons (PySem.Value.int 1 0) (List.cons (PySem.Value.int 0 0) (List.cons (PySem.Value.int 0 0) (List.cons (PySem.Value.int 3 0) (List.cons (PySem.Value.ref 372) (List.cons (PySem.Value.bool Bool.true) (List.cons (PySem.Value.int 181 0) (List.cons (PySem.Value.ref 373) (List.cons PySem.Value.none (List.cons (PySem.Value.ref 374) (List.cons (PySem.Value.ref 375) (List.cons (PySem.Value.ref 376) (List.cons (PySem.Value.int 737 0) (List.cons (PySem.Value.int 249 0) (List.cons (PySem.Value.str (PySem.Str.ofString "/claim/cut.py") 738) List.nil))))))))))))))))))))) (List.toArray List.nil))) (
  List.cons (Prod.mk (nat_lit 378) (PySem.Obj.mk (PySem.Value.type "function") Option.none (PySem.Data.func (PySem.FuncData.mk (PySem.Str.ofString "answers") (PySem.Str.ofString "answers") (L2.defArgs Sh.s_answers) (PySem.FuncBody.stmts (L2.defBody Sh.s_answers)) (L2.defScope Sh.s_answers) 3 List.nil PySem.Value.none PySem.Value.none PySem.Value.none (PySem.Value.str (PySem.Str.ofString "shorewaters.waters") 187) Option.none (PySem.Value.ref 377) PySem.Value.none 0)) (List.toArray List.nil))) (List.nil))))))))))))))))))))))))))))))))))))))))))))))))))))))))))))))))))))))))))))))))))))))))))))))))))))))))))))))))))))))))))))))

set_option Elab.async false
set_option maxRecDepth 100000
set_option maxHeartbeats 2000000
/-! A def as its callers see it; names of the module; a call of a function that stands at a local name. -/
namespace Sh
open PySem PySem.Spec PyProof.Rows L2
/-- the def x of the module: its promise -/
def Def (P : Program) (w : World) (K : PySem.W.Frag) (mg : Str → Option Value) (base : Heap) (k : Nat) (x : Str) (ps : List Str) (sp : Sp) : Prop :=
  ∃ f fd, mg x = some (.ref f) ∧ PySem.W.keepIn K (.ref f) = true ∧ Binds K fd ps [] ∧ FnOk P w K mg base CX0 k f fd ps sp
/-- the def x of the module as it stands behind the top -/
def Has (K : PySem.W.Frag) (mg : Str → Option Value) (x : Str) (st : Stmt) (ps : List Str) : Prop :=
  ∃ f fd, Fun K x x st f fd ∧ mg x = some (.ref f) ∧ Binds K fd ps []
section
variable {P : Program} {w : World} {K : PySem.W.Frag} {mg : Str → Option Value} {base : Heap}
theorem Has.ok {x : Str} {st : Stmt} {N ps : List Str} {k : Nat} {sp : Sp} (h : Has K mg x st ps) (S : FnScope N ps (defScope st)) (len : ∀ vs H Q E, sp vs H Q E → vs.length = ps.length)
    (hbody : ∀ (f : Addr) (cdv : Value) (A : Around) (outer : List Env) (s : Shared) (H : Hp) (vs : List V) (Q : VK) (E : XK), Room k (A.deeper (envOfC x (defScope st) s.heap.objs.size f cdv)) → sp vs H Q E →
      ∃ t, PSs (cxOf CX0 P w K mg base N x (defScope st) f cdv A outer s H E).nox (defBody st) t ∧ t { nx := fun _ H' => Q .non H', rt := Q } (start N vs) H) : Def P w K mg base (k + 1) x ps sp := by
  obtain ⟨f, fd, F, hm, hb⟩ := h
  exact ⟨f, fd, hm, F.kp, hb, F.ok S len fun cdv A outer s H vs Q E hr q => hbody f cdv A outer s H vs Q E hr q⟩
theorem Def.mono {j k : Nat} {x : Str} {ps : List Str} {sp : Sp} (D : Def P w K mg base j x ps sp) (h : j ≤ k) : Def P w K mg base k x ps sp := by
  obtain ⟨f, fd, a, b, c, F⟩ := D
  exact ⟨f, fd, a, b, c, F.mono h⟩
theorem Def.imp {k : Nat} {x : Str} {ps : List Str} {sp sp' : Sp} (D : Def P w K mg base k x ps sp) (h : ∀ vs H Q E, sp' vs H Q E → sp vs H Q E) : Def P w K mg base k x ps sp' := by
  obtain ⟨f, fd, a, b, c, F⟩ := D
  exact ⟨f, fd, a, b, c, F.imp h⟩
end
/-- .. and the table of its code, which the lambdas in it come to -/
def HasL (K : PySem.W.Frag) (mg : Str → Option Value) (x : Str) (st : Stmt) (ps : List Str) (Pt : Addr) : Prop :=
  ∃ f fd c, Fun K x x st f fd ∧ mg x = some (.ref f) ∧ Binds K fd ps [] ∧ fd.code = .ref c ∧ PySem.W.codeHdIn K c Pt = true
theorem HasL.ok {P : Program} {w : World} {K : PySem.W.Frag} {mg : Str → Option Value} {base : Heap} {x : Str} {st : Stmt} {N ps : List Str} {Pt : Addr} {k : Nat} {sp : Sp} (h : HasL K mg x st ps Pt) (S : FnScope N ps (defScope st)) (len : ∀ vs H Q E, sp vs H Q E → vs.length = ps.length)
    (hbody : ∀ (f c : Addr) (A : Around) (outer : List Env) (s : Shared) (H : Hp) (vs : List V) (Q : VK) (E : XK), PySem.W.codeHdIn K c Pt = true → Room k (A.deeper (envOfC x (defScope st) s.heap.objs.size f (.ref c))) → sp vs H Q E →
      ∃ t, PSs (cxOf CX0 P w K mg base N x (defScope st) f (.ref c) A outer s H E).nox (defBody st) t ∧ t { nx := fun _ H' => Q .non H', rt := Q } (start N vs) H) : Def P w K mg base (k + 1) x ps sp := by
  obtain ⟨f, fd, c, F, hm, hb, hc, hk⟩ := h
  refine ⟨f, fd, hm, F.kp, hb, ?_⟩
  obtain ⟨oc, od, kV, doc, pm, an, cdv, ct, osl, rfl, lk, hcd⟩ := F.ex
  have hc : cdv = .ref c := hc
  subst hc
  refine fn_of lk hcd S len fun A outer s H vs Q E hr hsp => ?_
  obtain ⟨t, h, q⟩ := hbody f c A outer s H vs Q E hk hr hsp
  exact ⟨t, h.nox, q⟩
section
variable {X : Cx} {k : Nat} {x : Str} {ps : List Str} {sp : Sp} {e : Expr} {es : List Expr} {t : TA} {p pos : Pos}
theorem pe_d (D : Def X.prog X.w X.K X.mg X.base k x ps sp) (hr : Room k X.A) (hg : Gl X x) (ha : PA X (e :: es) t) (hdb : (x == ("__debug__" : Str)) = false := by decide)
    (he : starEach (e :: es) X.env = (false, eval e X.env) :: starEach es X.env := by rfl) (hpl : (backTo pos (starEach es X.env)).any (·.1) = false := by rfl) : PE X (.Call (.Name x p) (e :: es) [] pos) (tCall sp [] E0 t) := by
  obtain ⟨f, fd, hm, hk, hb, F⟩ := D
  exact pe_call F hr hg hm hk hb .nil pass0 ha hdb he hpl
/-- .. the frame's cells known for good while it runs -/
theorem pe_dF (D : Def X.prog X.w X.K X.mg X.base k x ps sp) (hr : Room k X.A) (hfn : ∀ x, X.fn x = true) (hg : Gl X x) (ha : PA X (e :: es) t) (hdb : (x == ("__debug__" : Str)) = false := by decide)
    (he : starEach (e :: es) X.env = (false, eval e X.env) :: starEach es X.env := by rfl) (hpl : (backTo pos (starEach es X.env)).any (·.1) = false := by rfl) : PE X (.Call (.Name x p) (e :: es) [] pos) (tCallF X sp t) := by
  obtain ⟨f, fd, hm, hk, hb, F⟩ := D
  exact pe_callF F hr hfn hg hm hk hb ha hdb he hpl
theorem pe_gint {n : Int} (hg : Gl X x) (hm : ∃ t, X.mg x = some (.int n t)) (hd : (x == ("__debug__" : Str)) = false := by decide) : PE X (.Name x pos) (tC (.int n)) := by
  obtain ⟨t, e⟩ := hm
  exact pe_glob hg e ⟨t, rfl⟩ hd
theorem pe_gref {a : Addr} (hg : Gl X x) (hm : X.mg x = some (.ref a)) (hd : (x == ("__debug__" : Str)) = false := by decide) : PE X (.Name x pos) (tC (.ref a)) := pe_glob hg hm rfl hd
/-- f(..) of the function that stands at a local name -/
theorem pe_callV (i : Nat) {f : Addr} {fd : FuncData} (F : FnOk X.prog X.w X.K X.mg X.base CX0 k f fd ps sp) (hk : PySem.W.keepIn X.K (.ref f) = true) (hb : Binds X.K fd ps []) (hr : Room k X.A) (ha : PA X (e :: es) t) (hN : X.N[i]? = some x := by rfl)
    (hv : Vis X.env.scope x := by first | exact Or.inl rfl | exact Or.inr (Or.inl rfl) | exact Or.inr (Or.inr rfl)) (hdb : (x == ("__debug__" : Str)) = false := by decide) (hcd : (x == ("__classdict__" : Str)) = false := by decide)
    (he : starEach (e :: es) X.env = (false, eval e X.env) :: starEach es X.env := by rfl) (hpl : (backTo pos (starEach es X.env)).any (·.1) = false := by rfl) :
    PE X (.Call (.Name x p) (e :: es) [] pos) (fun σ H Q => σ[i]? = some (some (.ref f)) ∧ tCall sp [] E0 t σ H Q) := by
  intro pins s σ H Q I h
  obtain ⟨h1, h2⟩ := h
  have hv := pe_var (X := X) (i := i) (pos := p) hN hv hdb hcd pins s σ H (fun v H' => v = .ref f ∧ tCall sp [] E0 t σ H' Q) I ⟨_, h1, rfl, h2⟩
  refine Call_ (thn hv fun u s1 ⟨v, H1, I1, r1, e1, q1⟩ => ?_)
  subst e1
  cases r1
  refine PySem.W.callWith_K (h₀ := X.base) I.ok.mod.kin hk (thn (ha pos pins s1 σ H1 _ I1 q1) fun us s2 ⟨vs, H2, I2, r, q⟩ => ⟨I2.kIn, ?_⟩) he hpl
  exact run_fn F hr hb .nil pass0 I2 r q
end
/-- o.f within a comprehension -/
theorem pe_fldK {X : Cx} {K : PySem.W.Frag} {e : Expr} {ta : TE} {f : Str} {pos : Pos} (hK : X.K = K) (he : PE X e ta) (hb : attributeBase e f X.env (eval e X.env) = eval e X.env) : PE X (.Attribute e f pos) (tFld K ta f) := hK ▸ pe_fld he hb
/-- (x, y) = a pair -/
theorem pg_two {X : Cx} {K : PySem.W.Frag} (i j : Nat) {x y : Str} {kk : Nat} {px py pos : Pos} (hK : X.K = K) (hc : X.calm = true) (hN : X.N.Nodup) (hi : X.N[i]? = some x) (hj : X.N[j]? = some y) (hx : Loc X.env.scope x) (hy : Loc X.env.scope y)
    (hfx : X.fn x = true ∨ X.env.scope.names.lookup x = some .local) (hfy : X.fn y = true ∨ X.env.scope.names.lookup y = some .local) : PG X (.Tuple [.Name x px, .Name y py] kk pos) (gTup K 2 (gCons (gName i) (gCons (gName j) gNil))) :=
  hK ▸ pg_tup hc (pgs_cons (pg_name hN hi hx hfx) (pgs_cons (pg_name hN hj hy hfy) pgs_nil))
/-! ### heaps -/
theorem same_upd {H H' : Hp} {p : Addr} {o : HO} (s : Same H H') (h : H' p = none) : Same H (upd H' p o) := fun b u e => by
  have q := s b u e
  rw [upd_ne (ne_of_none q h)]
  exact q
theorem same_new {H : Hp} {p : Addr} {o : HO} (h : H p = none) : Same H (upd H p o) := same_upd (Same.refl H) h
/-- an item is written to a list that is new -/
theorem same_set {H H' : Hp} {p : Addr} {o : HO} (s : Same H H') (h : H p = none) : Same H (upd H' p o) := fun b u e => by
  have q := s b u e
  rw [upd_ne (ne_of_none e h)]
  exact q
end Sh

set_option Elab.async false
set_option maxRecDepth 100000
set_option maxHeartbeats 2000000
namespace Sh
open PySem PySem.Spec PyProof.Rows L2
section
variable {P : Program} {w : World} {K : PySem.W.Frag} {mg : Str → Option Value} {base : Heap}
/-! ### is_reading -/
def sp_is_reading : Sp := fun vs H Q _ => ∃ x : Int, vs = [.int x] ∧ Q (.bl (decide (1 ≤ x) && decide (x ≤ 1000))) H
theorem ok_is_reading (T : Txt mg) (h : Has K mg "is_reading" s_is_reading p_is_reading) : Def P w K mg base 1 "is_reading" p_is_reading sp_is_reading := by
  refine h.ok sc_is_reading (fun vs H Q E h => ?_) (fun f cdv A outer s H vs Q E hr h => ?_)
  · obtain ⟨x, rfl, _⟩ := h
    rfl
  · obtain ⟨x, rfl, k⟩ := h
    refine ⟨_, (pss_one (ps_ret (pe_chain op_le op_le pe_int (pv 0) (pe_gint rfl T.c_GREATEST_READING)))), ?_⟩
    refine ⟨_, rfl, _, _, rfl, rfl, _, rfl, ?_⟩
    refine ite2 (fun c => ?_) (fun c => ?_)
    · refine ⟨_, _, rfl, rfl, ?_⟩
      rw [of_decide_eq_true c |> decide_eq_true, Bool.true_and] at k
      exact k
    · have c' : decide ((1 : Int) ≤ x) = false := by simpa using c
      rw [c', Bool.false_and] at k
      exact k
/-! ### is_open_class -/
def sp_is_open_class : Sp := fun vs H Q _ => ∃ x : Int, vs = [.int x] ∧ Q (.bl (decide (1 ≤ x) && decide (x ≤ 2))) H
theorem ok_is_open_class (T : Txt mg) (h : Has K mg "is_open_class" s_is_open_class p_is_open_class) : Def P w K mg base 1 "is_open_class" p_is_open_class sp_is_open_class := by
  refine h.ok sc_is_open_class (fun vs H Q E h => ?_) (fun f cdv A outer s H vs Q E hr h => ?_)
  · obtain ⟨x, rfl, _⟩ := h
    rfl
  · obtain ⟨x, rfl, k⟩ := h
    refine ⟨_, (pss_one (ps_ret (pe_chain op_le op_le pe_int (pv 0) pe_int))), ?_⟩
    refine ⟨_, rfl, _, _, rfl, rfl, _, rfl, ?_⟩
    refine ite2 (fun c => ?_) (fun c => ?_)
    · refine ⟨_, _, rfl, rfl, ?_⟩
      rw [of_decide_eq_true c |> decide_eq_true, Bool.true_and] at k
      exact k
    · have c' : decide ((1 : Int) ≤ x) = false := by simpa using c
      rw [c', Bool.false_and] at k
      exact k
/-! ### has_mean -/
def sp_has_mean : Sp := fun vs H Q _ => ∃ (a : Addr) (l : List Nat), vs = [.ref a] ∧ H a = some (.lst (rl l)) ∧ Q (.bl (decide (5 ≤ l.length))) H
theorem ok_has_mean (T : Txt mg) (h : Has K mg "has_mean" s_has_mean p_has_mean) : Def P w K mg base 1 "has_mean" p_has_mean sp_has_mean := by
  refine h.ok sc_has_mean (fun vs H Q E h => ?_) (fun f cdv A outer s H vs Q E hr h => ?_)
  · obtain ⟨a, l, rfl, _⟩ := h
    rfl
  · obtain ⟨a, l, rfl, ha, k⟩ := h
    refine ⟨_, (pss_one (ps_ret (pe_cmpR op_ge (pe_callB call_len_seq rfl T.b_len PySem.boot_len (pa_cons (pv 0) pa_nil)) (pe_gint rfl T.c_MEAN_OF) (nomark _)))), ?_⟩
    refine ⟨_, rfl, a, _, rfl, .inl (SqL.of ha), _, _, rfl, rfl, ?_⟩
    have e : decide ((5 : Int) ≤ ((rl l).length : Int)) = decide (5 ≤ l.length) := by
      rw [rl_len]
      exact decide_eq_decide.mpr (by omega)
    show Q (.bl (decide ((5 : Int) ≤ ((rl l).length : Int)))) H
    rw [e]
    exact k
/-! ### product_of -/
def sp_product_of : Sp := fun vs H Q _ => ∃ (a : Addr) (l : List Nat), vs = [.ref a] ∧ H a = some (.lst (rl l)) ∧ Rds l ∧ ∀ H', Same H H' → Q (.int (Kv348.prod (Kv348.five l) : Nat)) H'
theorem ok_product_of (T : Txt mg) (h : Has K mg "product_of" s_product_of p_product_of) : Def P w K mg base 1 "product_of" p_product_of sp_product_of := by
  refine h.ok sc_product_of (fun vs H Q E h => ?_) (fun f cdv A outer s H vs Q E hr h => ?_)
  · obtain ⟨a, l, rfl, _⟩ := h
    rfl
  · obtain ⟨a, l, rfl, ha, hl, k⟩ := h
    refine ⟨_, (pss_cons (ps_set (i := 1) sc_product_of.nd rfl (Or.inl rfl) pe_int)
      (pss_cons (ps_for PassesOwn.never rfl (pi_list (pe_slice sl_list (pv 0) (po_some (pe_un un_neg (pe_gint rfl T.c_MEAN_OF))) po_none)) (pg_name (i := 2) sc_product_of.nd rfl (Or.inl rfl)) (pss_one (ps_set (i := 1) sc_product_of.nd rfl (Or.inl rfl) (pe_op op_mul (pv 1) (pv 2)))))
      (pss_one (ps_ret (pv 1))))), ?_⟩
    refine ⟨_, rfl, _, rfl, _, rfl, a, _, rfl, SqL.of ha, fun p hp => ?_⟩
    have e0 : cutV (rl l) (some (-(5 : Int))) none = rl (Kv348.five l) := cut_last l 5 (by omega)
    rw [e0]
    have s1 : Same H (upd H p (.lst (rl (Kv348.five l)))) := same_new hp
    refine ⟨p, rfl, ⟨_, SqL.of upd_same⟩, for_list (K := K) (a := p) (xs := rl (Kv348.five l)) (fun i σ H' => H' = upd H p (.lst (rl (Kv348.five l))) ∧ ∃ v : Option V, σ = [some (.ref a), some (.int (Kv348.prod ((Kv348.five l).reverse.take i) : Nat)), v])
      ⟨rfl, none, rfl⟩ (fun i σ H' _ ⟨e, _⟩ => by subst e; exact SqL.of upd_same) ?_ ?_⟩
    · rintro i y σ H' hi ⟨rfl, v, rfl⟩
      obtain ⟨z, hz, rfl⟩ := get_map hi
      have hb := (hl.take 5) z (List.mem_reverse.mp (List.mem_of_getElem? hz))
      refine ⟨_, rfl, _, rfl, _, _, rfl, rfl, .inr ⟨by omega, by omega⟩, rfl, some (.int z), ?_⟩
      rw [take_snoc hz, prod_append, prod_one, Int.natCast_mul]
      rfl
    · rintro σ H' ⟨rfl, v, rfl⟩
      refine ⟨_, rfl, ?_⟩
      have e : (Kv348.five l).reverse.take (rl (Kv348.five l)).length = (Kv348.five l).reverse := by
        rw [rl_len]
        exact List.take_of_length_le (by rw [List.length_reverse]; exact Nat.le_refl _)
      rw [e, prod_rev]
      exact k _ s1
/-! ### greatest_that -/
/-- the greatest of 1 to 1,000 for which p holds, or 0 -/
def Grt (p : Nat → Bool) (g : Nat) : Prop := g ≤ 1000 ∧ (g = 0 ∨ p g = true) ∧ ∀ m, g < m → m ≤ 1000 → p m = false
def sp_greatest_that (P : Program) (w : World) (K : PySem.W.Frag) (mg : Str → Option Value) (base : Heap) (k : Nat) : Sp := fun vs H Q _ => ∃ (f : Addr) (p : Nat → Bool), vs = [.ref f] ∧ (∀ m m', 1 ≤ m → m ≤ m' → m' ≤ 1000 → p m' = true → p m = true) ∧
  (∀ H1, Same H H1 → LamAt P w K mg base k f (fun v => ∃ m : Nat, v = .int m ∧ 1 ≤ m ∧ m ≤ 1000) (fun v r _ => ∀ m : Nat, v = .int m → r = .bl (p m)) H1) ∧ ∀ H' g, Same H H' → Grt p g → Q (.int (g : Nat)) H'
theorem ok_greatest_that (k : Nat) (T : Txt mg) (h : Has K mg "greatest_that" s_greatest_that p_greatest_that) : Def P w K mg base (k + 1) "greatest_that" p_greatest_that (sp_greatest_that P w K mg base k) := by
  refine h.ok sc_greatest_that (fun vs H Q E h => ?_) (fun f cdv A outer s H vs Q E hr h => ?_)
  · obtain ⟨f, p, rfl, _⟩ := h
    rfl
  · obtain ⟨g, p, rfl, mono, lam, k⟩ := h
    refine ⟨_, (pss_cons (ps_set (i := 1) sc_greatest_that.nd rfl (Or.inl rfl) pe_int)
      (pss_cons (ps_set (i := 2) sc_greatest_that.nd rfl (Or.inl rfl) (pe_op op_add (pe_gint rfl T.c_GREATEST_READING) pe_int))
      (pss_cons (ps_while PassesOwn.never (pt_cmpR op_gt (pe_op op_sub (pv 2) (pv 1)) pe_int (nomark _)) (pss_cons (ps_set (i := 3) sc_greatest_that.nd rfl (Or.inl rfl) (pe_op op_fdiv (pe_op op_add (pv 1) (pv 2)) pe_int))
      (pss_one (ps_if (pt_val (pe_lamV 0 hr (pa_cons (pv 3) pa_nil))) (pss_one (ps_set (i := 1) sc_greatest_that.nd rfl (Or.inl rfl) (pv 3))) (pss_one (ps_set (i := 2) sc_greatest_that.nd rfl (Or.inl rfl) (pv 3)))))))
      (pss_one (ps_ret (pv 1)))))), ?_⟩
    refine ⟨_, _, rfl, rfl, ?_⟩
    refine while_by (fun σ H' => Same H H' ∧ ∃ (r b : Nat) (v : Option V), σ = [some (.ref g), some (.int r), some (.int b), v] ∧ r < b ∧ b ≤ 1001 ∧ (r = 0 ∨ p r = true) ∧ (b = 1001 ∨ p b = false))
      (fun σ _ => match σ with | [_, some (.int r), some (.int b), _] => (b - r).toNat | _ => 0) ?_ ?_ ?_
    · exact ⟨Same.refl H, 0, 1001, none, rfl, by omega, by omega, .inl rfl, .inl rfl⟩
    · rintro σ H' ⟨s1, r, b, v, rfl, h2, h3, h4, h5⟩
      refine ⟨_, rfl, _, rfl, _, _, rfl, rfl, _, _, rfl, rfl, _, rfl, ?_⟩
      refine ite2 (fun c => ?_) (fun c => ?_)
      · have c : (1 : Int) < (b : Int) - (r : Int) := of_decide_eq_true c
        obtain ⟨m, em, m1, m2⟩ : ∃ m : Nat, ((r : Int) + (b : Int)) / 2 = (m : Int) ∧ r < m ∧ m < b := ⟨(r + b) / 2, by omega, by omega, by omega⟩
        refine ⟨_, rfl, _, rfl, _, _, rfl, rfl, _, _, rfl, rfl, ⟨by decide, by decide⟩, ?_⟩
        refine ⟨g, rfl, _, rfl, _, _, _, rfl, lam H' s1, ⟨m, by rw [← em], by omega, by omega⟩, fun u H2 s2 hu => ?_⟩
        have hu := hu m (by rw [← em])
        subst hu
        refine ⟨_, rfl, ?_⟩
        cases c2 : p m with
        | true =>
          refine iteT ⟨_, rfl, ⟨s1.trans s2, m, b, some (.int m), (by show [some (V.ref g), some (V.int (((r : Int) + (b : Int)) / 2)), some (V.int b), some (V.int (((r : Int) + (b : Int)) / 2))] = _; rw [em]), m2, h3, .inr c2, h5⟩, ?_⟩
          show ((b : Int) - (((r : Int) + (b : Int)) / 2)).toNat < ((b : Int) - (r : Int)).toNat
          omega
        | false =>
          refine iteF ⟨_, rfl, ⟨s1.trans s2, r, m, some (.int m), (by show [some (V.ref g), some (V.int r), some (V.int (((r : Int) + (b : Int)) / 2)), some (V.int (((r : Int) + (b : Int)) / 2))] = _; rw [em]), m1, by omega, h4, .inr c2⟩, ?_⟩
          show ((((r : Int) + (b : Int)) / 2) - (r : Int)).toNat < ((b : Int) - (r : Int)).toNat
          omega
      · have c : ¬ (1 : Int) < (b : Int) - (r : Int) := fun q => c (decide_eq_true q)
        refine ⟨_, rfl, k H' r s1 ⟨by omega, h4, fun m m1 m2 => ?_⟩⟩
        have e : b = r + 1 := by omega
        rcases h5 with h5 | h5
        · omega
        · cases q : p m with
          | false => rfl
          | true =>
            rw [mono b m (by omega) (by omega) m2 q] at h5
            cases h5
    · rintro σ H Q Q' hq ⟨v, h1, v', h2, i, j, e1, e2, x, y, e3, e4, k', e5, q⟩
      exact ⟨v, h1, v', h2, i, j, e1, e2, x, y, e3, e4, k', e5, hq _ _ q⟩
/-! ### mean_of -/
def sp_mean_of : Sp := fun vs H Q _ => ∃ (a : Addr) (l : List Nat), vs = [.ref a] ∧ H a = some (.lst (rl l)) ∧ Rds l ∧ ∀ H', Same H H' → Q (.int (Kv348.root (Kv348.prod (Kv348.five l)) : Nat)) H'
theorem ok_mean_of {Pt : Addr} (T : Txt mg) (lp : base.get? Pt = none) (D_product_of : Def P w K mg base 1 "product_of" p_product_of sp_product_of) (D_greatest_that : Def P w K mg base 2 "greatest_that" p_greatest_that (sp_greatest_that P w K mg base 1))
    (h : HasL K mg "mean_of" s_mean_of p_mean_of Pt) : Def P w K mg base 3 "mean_of" p_mean_of sp_mean_of := by
  refine h.ok sc_mean_of (fun vs H Q E h => ?_) (fun f c A outer s H vs Q E lk hr h => ?_)
  · obtain ⟨a, l, rfl, _⟩ := h
    rfl
  · obtain ⟨a, l, rfl, h1, h2, k⟩ := h
    refine ⟨_, (pss_cons (ps_set (i := 1) sc_mean_of.nd rfl (Or.inr rfl) (pe_d D_product_of (hr.mono (by decide)) rfl (pa_cons (pv 0) pa_nil)))
      (pss_one (ps_ret (pe_dF D_greatest_that (hr.mono (by decide)) (fun _ => rfl) rfl (pa_cons (pe_lam lk lp rfl (by rfl) (lamFree (sc := defScope s_mean_of) (by decide +kernel))) pa_nil))))), ?_⟩
    refine ⟨_, rfl, a, l, rfl, h1, h2, fun H1 s1 => ?_⟩
    intro g H2 s2 L O Z
    refine ⟨g, fun m => decide (m ^ 5 ≤ Kv348.prod (Kv348.five l)), rfl, fun m m' h3 h4 h5 h6 => ?_, fun H3 s3 => ?_, fun H3 r s3 G => ?_⟩
    · exact decide_eq_true (Nat.le_trans (Nat.pow_le_pow_left h4 5) (of_decide_eq_true h6))
    · refine lam_at (k := 0) (O := O) (y := "m") (fs := ["product"]) (vals := [.int (Kv348.prod (Kv348.five l) : Nat)]) (L.mono ((same_frzC Z.off).trans s3)) (fun b o e => s3 _ _ (frzC_at e)) (clos_of Z (lamFree (sc := defScope s_mean_of) (by decide +kernel)) rfl fun j x v h3 h4 => ?_)
        ⟨rfl, rfl, rfl, by decide +kernel, rfl⟩ (fun _ _ _ _ => rfl) fun A outer s v cd Q hr ⟨m, hv, m1, m2⟩ q => ?_
      · match j, h3, h4 with
        | 0, h3, h4 =>
          cases h3
          cases h4
          exact ⟨rfl, 1, rfl, rfl⟩
      · subst hv
        refine ⟨_, pe_cmpR op_le (pe_op op_pow (pv 0) pe_int) (pv 1) (nomark _), ?_⟩
        refine ⟨_, rfl, _, _, rfl, rfl, ⟨by decide, by decide, by omega⟩, _, rfl, _, _, rfl, rfl, ?_⟩
        refine q _ _ (Same.refl _) fun _ m' e => ?_
        cases e
        have e5 : ((m : Int) ^ (5 : Int).toNat) = ((m ^ 5 : Nat) : Int) := cast_pow5 m
        show V.bl (decide ((m : Int) ^ (5 : Int).toNat ≤ ((Kv348.prod (Kv348.five l) : Nat) : Int))) = V.bl _
        rw [e5]
        exact congrArg V.bl (decide_eq_decide.mpr (by omega))
    · obtain ⟨g1, g2, g3⟩ := G
      obtain ⟨n1, n2⟩ := five_bounds h2
      have r1 : r ^ 5 ≤ Kv348.prod (Kv348.five l) := by
        rcases g2 with g2 | g2
        · subst g2
          exact Nat.zero_le _
        · exact of_decide_eq_true g2
      have r2 : Kv348.prod (Kv348.five l) < (r + 1) ^ 5 := by
        by_cases q : r + 1 ≤ 1000
        · have z := of_decide_eq_false (g3 (r + 1) (by omega) q)
          omega
        · have e : r = 1000 := by omega
          subst e
          exact Nat.lt_of_le_of_lt n2 (by decide)
      rw [← root_is r1 r2 g1]
      exact k _ (s1.trans (s2.trans (same_thaw Z.off s3)))
end
end Sh

set_option Elab.async false
set_option maxRecDepth 100000
set_option maxHeartbeats 2000000
namespace Sh
open PySem PySem.Spec PyProof.Rows L2
/-- the fields of a Waters -/
def wf (b : Bool) (a : Kv348.Abs) (al : Addr) : List (Str × V) := [("begun", .bl b), ("good", .int (a.good : Nat)), ("fair", .int (a.fair : Nat)), ("peak", .int (a.peak : Nat)), ("rain", .int (a.rain : Nat)), ("days", .int (a.days : Nat)), ("day", .int (a.day : Nat)), ("areas", .ref al)]
/-- the fields of an Area -/
def af (r : Addr) (z : Nat) : List (Str × V) := [("readings", .ref r), ("shut_until", .int (z : Nat))]
/-- the classes -/
structure Cl (K : PySem.W.Frag) (CA CW : Addr) : Prop where
  a : Cls K CA
  w : Cls K CW
  a_readings : NoAttr K CA "readings"
  a_shut_until : NoAttr K CA "shut_until"
  w_begun : NoAttr K CW "begun"
  w_good : NoAttr K CW "good"
  w_fair : NoAttr K CW "fair"
  w_peak : NoAttr K CW "peak"
  w_rain : NoAttr K CW "rain"
  w_days : NoAttr K CW "days"
  w_day : NoAttr K CW "day"
  w_areas : NoAttr K CW "areas"
/-- a Waters with the fields of a stands at w, its areas' list at al -/
def WAt (CW : Addr) (H : Hp) (w al : Addr) (b : Bool) (a : Kv348.Abs) : Prop := ∃ dx, H w = some (.ins CW dx (wf b a al))
/-- an Area stands at x, its readings' list at r -/
def AAt (CA : Addr) (H : Hp) (x r : Addr) (y : Kv348.Area) : Prop := (∃ dx, H x = some (.ins CA dx (af r y.shut))) ∧ H r = some (.lst (rl y.reads))
theorem _root_.L2.Same.w {CW : Addr} {H H' : Hp} {w al : Addr} {b : Bool} {a : Kv348.Abs} (s : Same H H') (h : WAt CW H w al b a) : WAt CW H' w al b a := let ⟨dx, e⟩ := h; ⟨dx, s _ _ e⟩
theorem _root_.L2.Same.a {CA : Addr} {H H' : Hp} {x r : Addr} {y : Kv348.Area} (s : Same H H') (h : AAt CA H x r y) : AAt CA H' x r y := let ⟨⟨dx, e⟩, q⟩ := h; ⟨⟨dx, s _ _ e⟩, s _ _ q⟩
theorem dec_le (a b : Nat) : decide ((a : Int) ≤ (b : Int)) = decide (a ≤ b) := decide_eq_decide.mpr (by omega)
theorem dec_lt (a b : Nat) : decide ((a : Int) < (b : Int)) = decide (a < b) := decide_eq_decide.mpr (by omega)
/-- what follows, read once, where the first statement looks only -/
theorem seq_rest {t u : TS} {D : Ends} {σ : L2.St} {H : Hp} (c : Prop) (r : c → ∀ H1, Same H H1 → u D σ H1) (h : (c → ∀ H1, Same H H1 → u D σ H1) → t { D with nx := u D } σ H) : tSeq t u D σ H := h r
/-- those above m, as ints -/
def filt (m : Nat) (l : List Nat) : List V := (l.filter fun x => decide (m < x)).map fun (n : Nat) => V.int (n : Int)
section
variable {P : Program} {w : World} {K : PySem.W.Frag} {mg : Str → Option Value} {base : Heap} {CA CW : Addr}
/-! ### is_within -/
def sp_is_within : Sp := fun vs H Q _ => ∃ (r : Addr) (l : List Nat) (m : Nat), vs = [.ref r, .int m] ∧ H r = some (.lst (rl l)) ∧ Rds l ∧ m ≤ 1000 ∧ ∀ H', Same H H' → Q (.bl (Kv348.within l m)) H'
theorem ok_is_within (T : Txt mg) (D_product_of : Def P w K mg base 1 "product_of" p_product_of sp_product_of) (h : Has K mg "is_within" s_is_within p_is_within) : Def P w K mg base 2 "is_within" p_is_within sp_is_within := by
  refine h.ok sc_is_within (fun vs H Q E h => ?_) (fun f cdv A outer s H vs Q E hr h => ?_)
  · obtain ⟨r, l, m, rfl, _⟩ := h
    rfl
  · obtain ⟨r, l, m, rfl, h1, h2, h3, k⟩ := h
    refine ⟨_, (pss_one (ps_ret (pe_cmpR op_le (pe_d D_product_of (hr.mono (by decide)) rfl (pa_cons (pv 0) pa_nil)) (pe_op op_pow (pv 1) pe_int) (nomark _)))), ?_⟩
    refine ⟨_, rfl, r, l, rfl, h1, h2, fun H1 s1 => ?_⟩
    refine ⟨_, rfl, _, _, rfl, rfl, ⟨by decide, by decide, by omega⟩, _, _, rfl, rfl, ?_⟩
    have e5 : ((m : Int) ^ (5 : Int).toNat) = ((m ^ 5 : Nat) : Int) := cast_pow5 m
    show Q (.bl (decide (((Kv348.prod (Kv348.five l) : Nat) : Int) ≤ (m : Int) ^ (5 : Int).toNat))) H1
    rw [e5, dec_le]
    exact k _ s1
/-! ### count_above -/
def sp_count_above : Sp := fun vs H Q _ => ∃ (r : Addr) (l : List Nat) (m : Nat), vs = [.ref r, .int m] ∧ H r = some (.lst (rl l)) ∧ ∀ H', Same H H' → Q (.int (Kv348.above l m : Nat)) H'
theorem ok_count_above (T : Txt mg) (h : Has K mg "count_above" s_count_above p_count_above) : Def P w K mg base 1 "count_above" p_count_above sp_count_above := by
  refine h.ok sc_count_above (fun vs H Q E h => ?_) (fun f cdv A outer s H vs Q E hr h => ?_)
  · obtain ⟨r, l, m, rfl, _⟩ := h
    rfl
  · obtain ⟨r, l, m, rfl, h1, k⟩ := h
    refine ⟨_, (pss_one (ps_ret (pe_callB call_len_seq rfl T.b_len PySem.boot_len (pa_cons (pe_lc (own := [("reading", 2)]) rfl sc_count_above.nd (pi_list (pe_slice sl_list (pv 0) (po_some (pe_un un_neg (pe_gint rfl T.c_LOOKED_AT))) po_none)) (blkOk_by (N := N_count_above) (sc := defScope s_count_above) (by decide +kernel)) (fun _ _ _ _ _ => (pg_name (i := 2) sc_count_above.nd rfl (Or.inl rfl))) (fun _ _ _ _ _ => pts_one (pt_cmpR op_gt (pv 2) (pv 1) (nomark _))) (fun _ _ _ _ _ => (pv 2))) pa_nil)))), ?_⟩
    refine ⟨_, rfl, _, rfl, _, rfl, r, _, rfl, SqL.of h1, fun p hp => ?_⟩
    have e0 : cutV (rl l) (some (-(10 : Int))) none = rl (l.take 10) := cut_last l 10 (by omega)
    rw [e0]
    have s1 : Same H (upd H p (.lst (rl (l.take 10)))) := same_new hp
    generalize hH1 : upd H p (.lst (rl (l.take 10))) = H1 at s1
    have hp1 : H1 p = some (.lst (rl (l.take 10))) := by rw [← hH1]; exact upd_same
    refine ⟨p, rfl, ⟨_, SqL.of hp1⟩, fun D hD => lc_list (K := K) (a := p) (xs := rl (l.take 10)) (fun i H' => Same H1 H' ∧ H' D = some (.lst (filt m ((l.take 10).reverse.take i))))
      ⟨same_new hD, upd_same⟩ (fun i H' _ ⟨s2, _⟩ => SqL.of (s2 _ _ hp1)) ?_ ?_⟩
    · rintro i y H' hi ⟨s2, hd⟩
      obtain ⟨z, hz, rfl⟩ := get_map hi
      refine ⟨rfl, _, rfl, _, rfl, _, _, rfl, rfl, _, rfl, ?_⟩
      have ef : filt m ((l.take 10).reverse.take (i + 1)) = filt m ((l.take 10).reverse.take i) ++ (if m < z then [V.int (z : Int)] else []) := by
        rw [take_snoc hz]
        unfold filt
        rw [List.filter_append, List.map_append, List.filter_cons, List.filter_nil]
        by_cases q : m < z
        · rw [if_pos (by simpa using q), if_pos q]; rfl
        · rw [if_neg (by simpa using q), if_neg q]; rfl
      refine ite2 (fun c => ?_) (fun c => ?_)
      · have c : (m : Int) < (z : Int) := of_decide_eq_true c
        refine ⟨_, rfl, _, hd, ?_, same_set s2 hD, ?_⟩
        · have q : (filt m ((l.take 10).reverse.take i)).length ≤ 10 := by
            unfold filt
            rw [List.length_map]
            refine Nat.le_trans (List.length_filter_le _ _) ?_
            rw [List.length_take, List.length_reverse, List.length_take]
            omega
          exact Nat.lt_of_le_of_lt q (by decide)
        · rw [upd_same, ef, if_pos (by omega)]
      · have c : ¬ (m : Int) < (z : Int) := fun q => c (decide_eq_true q)
        refine ⟨s2, ?_⟩
        rw [hd, ef, if_neg (by omega), List.append_nil]
    · rintro H' ⟨s2, hd⟩
      refine ⟨D, _, rfl, .inl (SqL.of hd), ?_⟩
      have e : (filt m ((l.take 10).reverse.take (rl (l.take 10)).length)).length = Kv348.above l m := by
        rw [rl_len, List.take_of_length_le (by rw [List.length_reverse]; exact Nat.le_refl _)]
        unfold filt
        rw [List.length_map]
        exact above_rev l m
      rw [e]
      exact k _ (s1.trans s2)
/-! ### is_above_peak -/
def sp_is_above_peak (CW : Addr) : Sp := fun vs H Q _ => ∃ (x al r : Addr) (b : Bool) (a : Kv348.Abs) (l : List Nat), vs = [.ref x, .ref r] ∧ WAt CW H x al b a ∧ H r = some (.lst (rl l)) ∧ ∀ H', Same H H' → Q (.bl (decide (1 < Kv348.above l a.peak))) H'
theorem ok_is_above_peak (T : Txt mg) (C : Cl K CA CW) (D_count_above : Def P w K mg base 1 "count_above" p_count_above sp_count_above) (h : Has K mg "is_above_peak" s_is_above_peak p_is_above_peak) : Def P w K mg base 2 "is_above_peak" p_is_above_peak (sp_is_above_peak CW) := by
  refine h.ok sc_is_above_peak (fun vs H Q E h => ?_) (fun f cdv A outer s H vs Q E hr h => ?_)
  · obtain ⟨x, al, r, b, a, l, rfl, _⟩ := h
    rfl
  · obtain ⟨x, al, r, b, a, l, rfl, ⟨dx, h1⟩, h2, k⟩ := h
    refine ⟨_, (pss_one (ps_ret (pe_cmpR op_gt (pe_d D_count_above (hr.mono (by decide)) rfl (pa_cons (pv 1) (pa_cons (pe_fld (pv 0) rfl) pa_nil))) (pe_gint rfl T.c_MOST_ABOVE_PEAK) (nomark _)))), ?_⟩
    refine ⟨_, rfl, _, rfl, x, CW, dx, _, _, rfl, h1, C.w, C.w_peak, rfl, r, l, a.peak, rfl, h2, fun H1 s1 => ⟨_, _, rfl, rfl, ?_⟩⟩
    show Q (.bl (decide ((1 : Int) < ((Kv348.above l a.peak : Nat) : Int)))) H1
    rw [show decide ((1 : Int) < ((Kv348.above l a.peak : Nat) : Int)) = decide (1 < Kv348.above l a.peak) from dec_lt 1 _]
    exact k _ s1
/-! ### class_of -/
def sp_class_of (CW : Addr) : Sp := fun vs H Q _ => ∃ (x al r : Addr) (b : Bool) (a : Kv348.Abs) (l : List Nat), vs = [.ref x, .ref r] ∧ WAt CW H x al b a ∧ H r = some (.lst (rl l)) ∧ Rds l ∧ a.good ≤ 1000 ∧ a.fair ≤ 1000 ∧ ∀ H', Same H H' → Q (.int (a.classOf l : Nat)) H'
theorem ok_class_of (T : Txt mg) (C : Cl K CA CW) (D_has_mean : Def P w K mg base 1 "has_mean" p_has_mean sp_has_mean) (D_is_within : Def P w K mg base 2 "is_within" p_is_within sp_is_within) (D_is_above_peak : Def P w K mg base 2 "is_above_peak" p_is_above_peak (sp_is_above_peak CW))
    (h : Has K mg "class_of" s_class_of p_class_of) : Def P w K mg base 3 "class_of" p_class_of (sp_class_of CW) := by
  refine h.ok sc_class_of (fun vs H Q E h => ?_) (fun f cdv A outer s H vs Q E hr h => ?_)
  · obtain ⟨x, al, r, b, a, l, rfl, _⟩ := h
    rfl
  · obtain ⟨x, al, r, b, a, l, rfl, ⟨dx, h1⟩, h2, h3, h4, h5, k⟩ := h
    refine ⟨_, (pss_cons (ps_if (pt_not (pt_val (pe_d D_has_mean (hr.mono (by decide)) rfl (pa_cons (pv 1) pa_nil)))) (pss_one (ps_ret pe_int)) pss_nil)
      (pss_cons (ps_if (PW.pt (pw_and (pt_val (pe_d D_is_within (hr.mono (by decide)) rfl (pa_cons (pv 1) (pa_cons (pe_fld (pv 0) rfl) pa_nil)))) (pw_and1 (pt_not (pt_val (pe_d D_is_above_peak (hr.mono (by decide)) rfl (pa_cons (pv 0) (pa_cons (pv 1) pa_nil)))))))) (pss_one (ps_ret pe_int)) pss_nil)
      (pss_cons (ps_if (pt_val (pe_d D_is_within (hr.mono (by decide)) rfl (pa_cons (pv 1) (pa_cons (pe_fld (pv 0) rfl) pa_nil)))) (pss_one (ps_ret pe_int)) pss_nil)
      (pss_one (ps_ret pe_int))))), ?_⟩
    refine ⟨_, rfl, r, l, rfl, h2, _, rfl, ?_⟩
    by_cases c5 : 5 ≤ l.length
    case neg =>
      rw [decide_eq_false c5]
      refine iteT ?_
      have e : a.classOf l = 0 := by unfold Kv348.Abs.classOf; rw [if_pos (by omega)]
      rw [e] at k
      exact k H (Same.refl H)
    rw [decide_eq_true c5]
    refine iteF ?_
    have e0 : a.classOf l = if Kv348.within l a.good && decide (Kv348.above l a.peak ≤ 1) then 1 else if Kv348.within l a.fair then 2 else 3 := by
      unfold Kv348.Abs.classOf
      rw [if_neg (by omega)]
    rw [e0] at k
    dsimp only [tNext]
    refine seq_rest ((Kv348.within l a.good && decide (Kv348.above l a.peak ≤ 1)) = false) ?b (fun rest => ?a)
    case a =>
      refine ⟨_, rfl, _, rfl, x, CW, dx, _, _, rfl, h1, C.w, C.w_good, rfl, r, l, a.good, rfl, h2, h3, h4, fun H1 s1 => ⟨_, rfl, ?_⟩⟩
      cases c1 : Kv348.within l a.good with
      | false => exact iteF (iteF (rest (by rw [c1]; rfl) H1 s1))
      | true =>
        refine iteT ⟨_, rfl, _, rfl, x, al, r, b, a, l, rfl, ⟨dx, s1 _ _ h1⟩, s1 _ _ h2, fun H2 s2 => ⟨_, rfl, ?_⟩⟩
        cases c2 : decide (1 < Kv348.above l a.peak) with
        | false =>
          have c2 := of_decide_eq_false c2
          rw [c1, decide_eq_true (show Kv348.above l a.peak ≤ 1 by omega)] at k
          exact iteT (k _ (s1.trans s2))
        | true =>
          have c2 := of_decide_eq_true c2
          exact iteF (rest (by rw [c1, decide_eq_false (show ¬ Kv348.above l a.peak ≤ 1 by omega)]; rfl) H2 (s1.trans s2))
    case b =>
      intro c H1 s1
      rw [c] at k
      refine ⟨_, rfl, _, rfl, x, CW, dx, _, _, rfl, s1 _ _ h1, C.w, C.w_fair, rfl, r, l, a.fair, rfl, s1 _ _ h2, h3, h5, fun H2 s2 => ⟨_, rfl, ?_⟩⟩
      cases c2 : Kv348.within l a.fair with
      | true =>
        rw [c2] at k
        exact iteT (k _ (s1.trans s2))
      | false =>
        rw [c2] at k
        exact iteF (k _ (s1.trans s2))
/-! ### is_of_class -/
def sp_is_of_class (CW : Addr) : Sp := fun vs H Q _ => ∃ (x al r : Addr) (b : Bool) (a : Kv348.Abs) (l : List Nat) (c : Nat), vs = [.ref x, .ref r, .int c] ∧ WAt CW H x al b a ∧ H r = some (.lst (rl l)) ∧ Rds l ∧ a.good ≤ 1000 ∧ a.fair ≤ 1000 ∧ ∀ H', Same H H' → Q (.bl (decide (1 ≤ a.classOf l) && decide (a.classOf l ≤ c))) H'
theorem ok_is_of_class (T : Txt mg) (C : Cl K CA CW) (D_class_of : Def P w K mg base 3 "class_of" p_class_of (sp_class_of CW)) (h : Has K mg "is_of_class" s_is_of_class p_is_of_class) : Def P w K mg base 4 "is_of_class" p_is_of_class (sp_is_of_class CW) := by
  refine h.ok sc_is_of_class (fun vs H Q E h => ?_) (fun f cdv A outer s H vs Q E hr h => ?_)
  · obtain ⟨x, al, r, b, a, l, c, rfl, _⟩ := h
    rfl
  · obtain ⟨x, al, r, b, a, l, c, rfl, h1, h2, h3, h4, h5, k⟩ := h
    refine ⟨_, (pss_one (ps_ret (pe_chain op_le op_le pe_int (pe_d D_class_of (hr.mono (by decide)) rfl (pa_cons (pv 0) (pa_cons (pv 1) pa_nil))) (pv 2)))), ?_⟩
    refine ⟨_, rfl, _, rfl, x, al, r, b, a, l, rfl, h1, h2, h3, h4, h5, fun H1 s1 => ?_⟩
    refine ⟨_, _, rfl, rfl, _, rfl, ?_⟩
    rw [show decide ((1 : Int) ≤ ((a.classOf l : Nat) : Int)) = decide (1 ≤ a.classOf l) from dec_le 1 _]
    have k := k _ s1
    refine ite2 (fun c1 => ?_) (fun c1 => ?_)
    · refine ⟨_, rfl, _, _, rfl, rfl, ?_⟩
      rw [c1, Bool.true_and] at k
      show Q (.bl (decide (((a.classOf l : Nat) : Int) ≤ (c : Int)))) _
      rw [dec_le]
      exact k
    · have c1 : decide (1 ≤ a.classOf l) = false := by simpa using c1
      rw [c1, Bool.false_and] at k
      exact k
end
end Sh

set_option Elab.async false
set_option maxRecDepth 100000
set_option maxHeartbeats 2000000
namespace Sh
open PySem PySem.Spec PyProof.Rows L2
/-! ### the state -/
structure SAt (CA CW : Addr) (H : Hp) (x al : Addr) (as rs : List Addr) (b : Bool) (a : Kv348.Abs) : Prop where
  w : WAt CW H x al b a
  lst : H al = some (.lst (as.map V.ref))
  la : as.length = a.areas.length
  lr : rs.length = a.areas.length
  at_ : ∀ (i : Nat) (y : Kv348.Area), a.areas[i]? = some y → ∃ ar r, as[i]? = some ar ∧ rs[i]? = some r ∧ AAt CA H ar r y
  nd : (x :: al :: (as ++ rs)).Nodup
structure YOk (y : Kv348.Area) : Prop where
  rds : Rds y.reads
  len : y.reads.length ≤ 60
structure AOk (a : Kv348.Abs) : Prop where
  good : a.good ≤ 1000
  fair : a.fair ≤ 1000
  len : a.areas.length ≤ 6
  ys : ∀ (i : Nat) (y : Kv348.Area), a.areas[i]? = some y → YOk y
theorem _root_.L2.Same.s {CA CW : Addr} {H H' : Hp} {x al : Addr} {as rs : List Addr} {b : Bool} {a : Kv348.Abs} (s : Same H H') (h : SAt CA CW H x al as rs b a) : SAt CA CW H' x al as rs b a :=
  ⟨s.w h.w, s _ _ h.lst, h.la, h.lr, fun i y e => let ⟨ar, r, h1, h2, h3⟩ := h.at_ i y e; ⟨ar, r, h1, h2, s.a h3⟩, h.nd⟩
theorem SAt.get {CA CW : Addr} {H : Hp} {x al : Addr} {as rs : List Addr} {b : Bool} {a : Kv348.Abs} (h : SAt CA CW H x al as rs b a) {i : Nat} {v : V} (e : (as.map V.ref)[i]? = some v) :
    ∃ (ar r : Addr) (y : Kv348.Area), v = .ref ar ∧ a.areas[i]? = some y ∧ as[i]? = some ar ∧ rs[i]? = some r ∧ AAt CA H ar r y := by
  obtain ⟨ar, e1, rfl⟩ := get_map e
  have hi : i < a.areas.length := by
    rw [← h.la]
    exact (List.getElem?_eq_some_iff.mp e1).1
  obtain ⟨ar', r, h1, h2, h3⟩ := h.at_ i _ (List.getElem?_eq_getElem hi)
  rw [e1] at h1
  cases h1
  exact ⟨ar, r, _, rfl, List.getElem?_eq_getElem hi, e1, h2, h3⟩
theorem area_of {a : Kv348.Abs} {i : Nat} {y : Kv348.Area} (h : a.areas[i]? = some y) : a.area i = y := by
  unfold Kv348.Abs.area
  rw [List.getD_eq_getElem?_getD, h]
  rfl
/-- a list of places as ints -/
def nl (l : List Nat) : List V := l.map fun (n : Nat) => V.int (n : Int)
theorem nl_len (l : List Nat) : (nl l).length = l.length := List.length_map ..
/-- a class that may open -/
def mayB (a : Kv348.Abs) (y : Kv348.Area) : Bool := a.classOf y.reads == 1 || a.classOf y.reads == 2
def openB (a : Kv348.Abs) (y : Kv348.Area) : Bool := mayB a y && decide (y.shut ≤ a.day)
theorem open_is {a : Kv348.Abs} {i : Nat} {y : Kv348.Area} (h : a.areas[i]? = some y) : a.open_ i = openB a y := by
  unfold Kv348.Abs.open_ Kv348.Abs.class_ openB mayB
  rw [area_of h]
theorem in12 (c : Nat) : inV (V.int (c : Int)) [V.int 1, V.int 2] = (c == 1 || c == 2) := by
  show ((1 == (c : Int)) || ((2 == (c : Int)) || false)) = _
  rw [Bool.or_false]
  have e1 : ((1 : Int) == (c : Int)) = (c == 1) := by
    by_cases h : c = 1
    · subst h; rfl
    · rw [beq_eq_false_iff_ne.mpr h]; exact beq_eq_false_iff_ne.mpr (by omega)
  have e2 : ((2 : Int) == (c : Int)) = (c == 2) := by
    by_cases h : c = 2
    · subst h; rfl
    · rw [beq_eq_false_iff_ne.mpr h]; exact beq_eq_false_iff_ne.mpr (by omega)
  rw [e1, e2]
/-- over enumerate of a list that the block leaves as it is -/
theorem lc_enum {K : PySem.W.Frag} {a : Addr} {xs : List V} {g : TG} {tt : TT} {te : TE} {vs : List Nat} {σ : L2.St} {H1 : Hp} {D : Addr} {Qd : Hp → Prop} (Pv : Nat → Hp → Prop) (h0 : Pv 0 (upd H1 D (.lst []))) (hl : ∀ i H, i ≤ xs.length → Pv i H → SqL K H a xs)
    (hs : ∀ i x T H, xs[i]? = some x → H T = none → Pv i H → g (.ref T) (wipe σ vs) (upd H T (.tup [.int (i : Nat), x])) fun σ2 H2 => wipe σ2 vs = wipe σ vs ∧ tt σ2 H2 fun b H3 =>
      if b = true then te σ2 H3 fun y H4 => ∃ acc, H4 D = some (.lst acc) ∧ acc.length < sizeLine ∧ Pv (i + 1) (upd H4 D (.lst (acc ++ [y]))) else Pv (i + 1) H3) (hd : ∀ H, Pv xs.length H → Qd H) :
    ∃ W : Nat → Nat → Hp → Prop, (∃ m, W 0 m (upd H1 D (.lst []))) ∧ ∀ i m H, W i m H →
      ((Ite K a).stop i H ∧ Qd H) ∨ ((Ite K a).go i H ∧ ∃ Nx : Hp → Prop, (∀ H', Nx H' → ∃ m', m' < m ∧ W (i + 1) m' H') ∧ ∀ x H', (Ite K a).yld i H x H' → g x (wipe σ vs) H' fun σ2 H2 => wipe σ2 vs = wipe σ vs ∧ tt σ2 H2 fun b H3 =>
        if b = true then te σ2 H3 fun y H4 => ∃ acc, H4 D = some (.lst acc) ∧ acc.length < sizeLine ∧ Nx (upd H4 D (.lst (acc ++ [y]))) else Nx H3) := by
  refine ⟨fun i m H => m = xs.length - i ∧ i ≤ xs.length ∧ Pv i H, ⟨xs.length, by simp, Nat.zero_le _, h0⟩, ?_⟩
  rintro i m H ⟨rfl, hi, p⟩
  have q := hl i H hi p
  by_cases hlt : i < xs.length
  · refine .inr ⟨⟨xs, xs[i], q, by simp [hlt]⟩, Pv (i + 1), fun H' p' => ⟨xs.length - (i + 1), by omega, rfl, hlt, p'⟩, fun x H' y => ?_⟩
    obtain ⟨T, v, rfl, hT, rfl, e⟩ := y
    exact hs i v T _ (e xs q) hT p
  · have e : i = xs.length := by omega
    subst e
    exact .inl ⟨⟨xs, q, Nat.le_refl _⟩, hd H p⟩
theorem range_filter_succ (p : Nat → Bool) (i : Nat) : (List.range (i + 1)).filter p = (List.range i).filter p ++ (if p i = true then [i] else []) := by
  rw [List.range_succ, List.filter_append, List.filter_cons, List.filter_nil]
theorem nl_append (a b : List Nat) : nl (a ++ b) = nl a ++ nl b := List.map_append
theorem range_filter_len (p : Nat → Bool) (i : Nat) : ((List.range i).filter p).length ≤ i := by
  have q := List.length_filter_le p (List.range i)
  rw [List.length_range] at q
  exact q
section
variable {P : Program} {w : World} {K : PySem.W.Frag} {mg : Str → Option Value} {base : Heap} {CA CW : Addr}
/-! ### may_open -/
def sp_may_open (CA CW : Addr) : Sp := fun vs H Q _ => ∃ (x al ar r : Addr) (b : Bool) (a : Kv348.Abs) (y : Kv348.Area), vs = [.ref x, .ref ar] ∧ WAt CW H x al b a ∧ AAt CA H ar r y ∧ Rds y.reads ∧ a.good ≤ 1000 ∧ a.fair ≤ 1000 ∧ ∀ H', Same H H' → Q (.bl (mayB a y)) H'
theorem ok_may_open (T : Txt mg) (C : Cl K CA CW) (D_is_open_class : Def P w K mg base 1 "is_open_class" p_is_open_class sp_is_open_class) (D_class_of : Def P w K mg base 3 "class_of" p_class_of (sp_class_of CW)) (h : Has K mg "may_open" s_may_open p_may_open) : Def P w K mg base 4 "may_open" p_may_open (sp_may_open CA CW) := by
  refine h.ok sc_may_open (fun vs H Q E h => ?_) (fun f cdv A outer s H vs Q E hr h => ?_)
  · obtain ⟨x, al, ar, r, b, a, y, rfl, _⟩ := h
    rfl
  · obtain ⟨x, al, ar, r, b, a, y, rfl, h1, ⟨⟨dx, h2⟩, h3⟩, h4, h5, h6, k⟩ := h
    refine ⟨_, (pss_one (ps_ret (pe_d D_is_open_class (hr.mono (by decide)) rfl (pa_cons (pe_d D_class_of (hr.mono (by decide)) rfl (pa_cons (pv 0) (pa_cons (pe_fld (pv 1) rfl) pa_nil))) pa_nil)))), ?_⟩
    refine ⟨_, rfl, _, rfl, ar, CA, dx, _, _, rfl, h2, C.a, C.a_readings, rfl, x, al, r, b, a, y.reads, rfl, h1, h3, h4, h5, h6, fun H1 s1 => ?_⟩
    refine ⟨_, rfl, ?_⟩
    have e : (decide ((1 : Int) ≤ ((a.classOf y.reads : Nat) : Int)) && decide (((a.classOf y.reads : Nat) : Int) ≤ 2)) = mayB a y := by
      unfold mayB
      generalize a.classOf y.reads = n
      match n with
      | 0 => rfl
      | 1 => rfl
      | 2 => rfl
      | n + 3 =>
        rw [decide_eq_false (show ¬ (((n + 3 : Nat) : Int) ≤ 2) by omega), Bool.and_false]
        rfl
    rw [e]
    exact k _ s1
/-! ### is_shut -/
def sp_is_shut (CA CW : Addr) : Sp := fun vs H Q _ => ∃ (x al ar r : Addr) (b : Bool) (a : Kv348.Abs) (y : Kv348.Area), vs = [.ref x, .ref ar] ∧ WAt CW H x al b a ∧ AAt CA H ar r y ∧ Q (.bl (decide (a.day < y.shut))) H
theorem ok_is_shut (T : Txt mg) (C : Cl K CA CW) (h : Has K mg "is_shut" s_is_shut p_is_shut) : Def P w K mg base 1 "is_shut" p_is_shut (sp_is_shut CA CW) := by
  refine h.ok sc_is_shut (fun vs H Q E h => ?_) (fun f cdv A outer s H vs Q E hr h => ?_)
  · obtain ⟨x, al, ar, r, b, a, y, rfl, _⟩ := h
    rfl
  · obtain ⟨x, al, ar, r, b, a, y, rfl, ⟨dw, h1⟩, ⟨⟨dx, h2⟩, h3⟩, k⟩ := h
    refine ⟨_, (pss_one (ps_ret (pe_cmpR op_lt (pe_fld (pv 0) rfl) (pe_fld (pv 1) rfl) (nomark _)))), ?_⟩
    refine ⟨_, rfl, x, CW, dw, _, _, rfl, h1, C.w, C.w_day, rfl, _, rfl, ar, CA, dx, _, _, rfl, h2, C.a, C.a_shut_until, rfl, _, _, rfl, rfl, ?_⟩
    show Q (.bl (decide ((a.day : Int) < (y.shut : Int)))) _
    rw [dec_lt]
    exact k
/-! ### is_open -/
def sp_is_open (CA CW : Addr) : Sp := fun vs H Q _ => ∃ (x al ar r : Addr) (b : Bool) (a : Kv348.Abs) (y : Kv348.Area), vs = [.ref x, .ref ar] ∧ WAt CW H x al b a ∧ AAt CA H ar r y ∧ Rds y.reads ∧ a.good ≤ 1000 ∧ a.fair ≤ 1000 ∧ ∀ H', Same H H' → Q (.bl (openB a y)) H'
theorem ok_is_open (T : Txt mg) (C : Cl K CA CW) (D_may_open : Def P w K mg base 4 "may_open" p_may_open (sp_may_open CA CW)) (D_is_shut : Def P w K mg base 1 "is_shut" p_is_shut (sp_is_shut CA CW)) (h : Has K mg "is_open" s_is_open p_is_open) :
    Def P w K mg base 5 "is_open" p_is_open (sp_is_open CA CW) := by
  refine h.ok sc_is_open (fun vs H Q E h => ?_) (fun f cdv A outer s H vs Q E hr h => ?_)
  · obtain ⟨x, al, ar, r, b, a, y, rfl, _⟩ := h
    rfl
  · obtain ⟨x, al, ar, r, b, a, y, rfl, h1, h2, h4, h5, h6, k⟩ := h
    refine ⟨_, (pss_one (ps_ret (pe_and (pe_d D_may_open (hr.mono (by decide)) rfl (pa_cons (pv 0) (pa_cons (pv 1) pa_nil))) (pe_one (pe_not (pe_d D_is_shut (hr.mono (by decide)) rfl (pa_cons (pv 0) (pa_cons (pv 1) pa_nil)))))))), ?_⟩
    refine ⟨_, rfl, _, rfl, x, al, ar, r, b, a, y, rfl, h1, h2, h4, h5, h6, fun H1 s1 => ⟨_, rfl, ?_⟩⟩
    unfold openB at k
    cases c : mayB a y with
    | false =>
      rw [c, Bool.false_and] at k
      exact iteF (k _ s1)
    | true =>
      rw [c, Bool.true_and] at k
      refine iteT ⟨_, rfl, _, rfl, x, al, ar, r, b, a, y, rfl, s1.w h1, s1.a h2, _, rfl, ?_⟩
      have e : (!decide (a.day < y.shut)) = decide (y.shut ≤ a.day) := by
        rw [← decide_not]
        exact decide_eq_decide.mpr (by omega)
      rw [e]
      exact k _ s1
/-! ### open_areas, shut_areas -/
def sp_areas (CA CW : Addr) (p : Kv348.Abs → Nat → Bool) : Sp := fun vs H Q _ => ∃ (x al : Addr) (as rs : List Addr) (b : Bool) (a : Kv348.Abs), vs = [.ref x] ∧ SAt CA CW H x al as rs b a ∧ AOk a ∧
  ∀ H' q, Same H H' → H' q = some (.lst (nl (a.ids.filter (p a)))) → Q (.ref q) H'
theorem ok_open_areas (T : Txt mg) (C : Cl K CA CW) (D_is_open : Def P w K mg base 5 "is_open" p_is_open (sp_is_open CA CW)) (h : Has K mg "open_areas" s_open_areas p_open_areas) :
    Def P w K mg base 6 "open_areas" p_open_areas (sp_areas CA CW fun a i => a.open_ i) := by
  refine h.ok sc_open_areas (fun vs H Q E h => ?_) (fun f cdv A outer s H vs Q E hr h => ?_)
  · obtain ⟨x, al, as, rs, b, a, rfl, _⟩ := h
    rfl
  · obtain ⟨x, al, as, rs, b, a, rfl, S, O, k⟩ := h
    obtain ⟨dw, hw⟩ := S.w
    refine ⟨_, (pss_one (ps_ret (pe_lc (own := [("i", 1), ("area", 2)]) rfl sc_open_areas.nd (pi_enum rfl T.b_enumerate (pa_cons (pe_fld (pv 0) rfl) pa_nil)) (blkOk_by (N := N_open_areas) (sc := defScope s_open_areas) (by decide +kernel)) (fun _ _ _ _ _ => (pg_two (K := K) 1 2 rfl rfl sc_open_areas.nd rfl rfl (Or.inl rfl) (Or.inl rfl) (Or.inr rfl) (Or.inr rfl))) (fun _ _ _ _ _ => pts_one (pt_val (pe_d D_is_open (hr.mono (by decide)) rfl (pa_cons (pv 0) (pa_cons (pv 2) pa_nil))))) (fun _ _ _ _ _ => (pv 1))))), ?_⟩
    refine ⟨_, rfl, x, CW, dw, _, _, rfl, hw, C.w, C.w_areas, rfl, al, _, rfl, SqL.of S.lst, fun D hD => lc_enum (K := K) (a := al) (xs := as.map V.ref) (fun i H' => Same H H' ∧ H' D = some (.lst (nl ((List.range i).filter fun i => a.open_ i))))
      ⟨same_new hD, upd_same⟩ (fun i H' _ ⟨s2, _⟩ => SqL.of (s2 _ _ S.lst)) ?_ ?_⟩
    · rintro i v t H' hi hT ⟨s2, hd⟩
      obtain ⟨ar, r, y, rfl, hy, h1, h2, h3⟩ := S.get hi
      have s3 : Same H (upd H' t (.tup [.int (i : Nat), .ref ar])) := same_upd s2 hT
      refine ⟨t, _, rfl, SqT.of upd_same, rfl, _, _, rfl, _, _, rfl, rfl, rfl, _, rfl, _, rfl, x, al, ar, r, b, a, y, rfl, s3.w S.w, s3.a h3, (O.ys i y hy).rds, O.good, O.fair, fun H4 s4 => ⟨_, rfl, ?_⟩⟩
      have hd4 : H4 D = some (.lst (nl ((List.range i).filter fun i => a.open_ i))) := s4 _ _ (by rw [upd_ne (ne_of_none hd hT)]; exact hd)
      rw [← open_is hy]
      have il : i < 6 := by
        have q := (List.getElem?_eq_some_iff.mp hy).1
        have := O.len
        omega
      cases c : a.open_ i with
      | true =>
        refine iteT ⟨_, rfl, _, hd4, ?_, same_set (s3.trans s4) hD, ?_⟩
        · rw [nl_len]
          exact Nat.lt_of_le_of_lt (range_filter_len _ i) (Nat.lt_trans il (by decide))
        · rw [upd_same, range_filter_succ, if_pos c, nl_append]
          rfl
      | false =>
        refine iteF ⟨s3.trans s4, ?_⟩
        rw [hd4, range_filter_succ, if_neg (by rw [c]; exact Bool.false_ne_true), List.append_nil]
    · rintro H' ⟨s2, hd⟩
      rw [List.length_map, S.la] at hd
      exact k H' D s2 hd
theorem ok_shut_areas (T : Txt mg) (C : Cl K CA CW) (D_is_shut : Def P w K mg base 1 "is_shut" p_is_shut (sp_is_shut CA CW)) (h : Has K mg "shut_areas" s_shut_areas p_shut_areas) :
    Def P w K mg base 6 "shut_areas" p_shut_areas (sp_areas CA CW fun a i => decide (a.day < (a.area i).shut)) := by
  refine h.ok sc_shut_areas (fun vs H Q E h => ?_) (fun f cdv A outer s H vs Q E hr h => ?_)
  · obtain ⟨x, al, as, rs, b, a, rfl, _⟩ := h
    rfl
  · obtain ⟨x, al, as, rs, b, a, rfl, S, O, k⟩ := h
    obtain ⟨dw, hw⟩ := S.w
    refine ⟨_, (pss_one (ps_ret (pe_lc (own := [("i", 1), ("area", 2)]) rfl sc_shut_areas.nd (pi_enum rfl T.b_enumerate (pa_cons (pe_fld (pv 0) rfl) pa_nil)) (blkOk_by (N := N_shut_areas) (sc := defScope s_shut_areas) (by decide +kernel)) (fun _ _ _ _ _ => (pg_two (K := K) 1 2 rfl rfl sc_shut_areas.nd rfl rfl (Or.inl rfl) (Or.inl rfl) (Or.inr rfl) (Or.inr rfl))) (fun _ _ _ _ _ => pts_one (pt_val (pe_d D_is_shut (hr.mono (by decide)) rfl (pa_cons (pv 0) (pa_cons (pv 2) pa_nil))))) (fun _ _ _ _ _ => (pv 1))))), ?_⟩
    refine ⟨_, rfl, x, CW, dw, _, _, rfl, hw, C.w, C.w_areas, rfl, al, _, rfl, SqL.of S.lst, fun D hD => lc_enum (K := K) (a := al) (xs := as.map V.ref) (fun i H' => Same H H' ∧ H' D = some (.lst (nl ((List.range i).filter fun i => decide (a.day < (a.area i).shut)))))
      ⟨same_new hD, upd_same⟩ (fun i H' _ ⟨s2, _⟩ => SqL.of (s2 _ _ S.lst)) ?_ ?_⟩
    · rintro i v t H' hi hT ⟨s2, hd⟩
      obtain ⟨ar, r, y, rfl, hy, h1, h2, h3⟩ := S.get hi
      have s3 : Same H (upd H' t (.tup [.int (i : Nat), .ref ar])) := same_upd s2 hT
      refine ⟨t, _, rfl, SqT.of upd_same, rfl, _, _, rfl, _, _, rfl, rfl, rfl, _, rfl, _, rfl, x, al, ar, r, b, a, y, rfl, s3.w S.w, s3.a h3, _, rfl, ?_⟩
      have hd4 : (upd H' t (.tup [.int (i : Nat), .ref ar])) D = some (.lst (nl ((List.range i).filter fun i => decide (a.day < (a.area i).shut)))) := by rw [upd_ne (ne_of_none hd hT)]; exact hd
      have ey : decide (a.day < y.shut) = decide (a.day < (a.area i).shut) := by rw [area_of hy]
      rw [ey]
      have il : i < 6 := by
        have q := (List.getElem?_eq_some_iff.mp hy).1
        have := O.len
        omega
      cases c : decide (a.day < (a.area i).shut) with
      | true =>
        refine iteT ⟨_, rfl, _, hd4, ?_, same_set s3 hD, ?_⟩
        · rw [nl_len]
          exact Nat.lt_of_le_of_lt (range_filter_len _ i) (Nat.lt_trans il (by decide))
        · rw [upd_same, range_filter_succ, if_pos c, nl_append]
          rfl
      | false =>
        refine iteF ⟨s3, ?_⟩
        rw [hd4, range_filter_succ, if_neg (by rw [c]; exact Bool.false_ne_true), List.append_nil]
    · rintro H' ⟨s2, hd⟩
      rw [List.length_map, S.la] at hd
      exact k H' D s2 hd
/-! ### are_bounds -/
def okI (x : Int) : Bool := decide (1 ≤ x) && decide (x ≤ 1000)
def sp_are_bounds : Sp := fun vs H Q _ => ∃ g f p : Int, vs = [.int g, .int f, .int p] ∧ Q (.bl (okI g && ((decide (g ≤ f) && decide (f ≤ 1000)) && okI p))) H
theorem ok_are_bounds (T : Txt mg) (D_is_reading : Def P w K mg base 1 "is_reading" p_is_reading sp_is_reading) (h : Has K mg "are_bounds" s_are_bounds p_are_bounds) : Def P w K mg base 2 "are_bounds" p_are_bounds sp_are_bounds := by
  refine h.ok sc_are_bounds (fun vs H Q E h => ?_) (fun f cdv A outer s H vs Q E hr h => ?_)
  · obtain ⟨g, f, p, rfl, _⟩ := h
    rfl
  · obtain ⟨g, f', p, rfl, k⟩ := h
    refine ⟨_, (pss_one (ps_ret (pe_and (pe_d D_is_reading (hr.mono (by decide)) rfl (pa_cons (pv 0) pa_nil)) (pe_and (pe_chain op_le op_le (pv 0) (pv 1) (pe_gint rfl T.c_GREATEST_READING)) (pe_one (pe_d D_is_reading (hr.mono (by decide)) rfl (pa_cons (pv 2) pa_nil))))))), ?_⟩
    refine ⟨_, rfl, g, rfl, _, rfl, ?_⟩
    have fin : ∀ c : Bool, okI g = true → (decide (g ≤ f') && decide (f' ≤ 1000)) = c → if c = true then (∃ v, (L2.start N_are_bounds [V.int g, V.int f', V.int p])[2]? = some (some v) ∧ ∃ x, [v] ++ [] = [V.int x] ∧ Q (.bl (okI x)) H) else Q (.bl false) H := fun c e1 e2 => by
      rw [e1, e2, Bool.true_and] at k
      cases c with
      | false => exact iteF k
      | true => exact iteT ⟨_, rfl, p, rfl, k⟩
    cases c1 : okI g with
    | false =>
      have c1' : (decide (1 ≤ g) && decide (g ≤ 1000)) = false := c1
      rw [c1']
      rw [c1, Bool.false_and] at k
      exact iteF k
    | true =>
      have c1' : (decide (1 ≤ g) && decide (g ≤ 1000)) = true := c1
      rw [c1']
      refine iteT ⟨_, rfl, _, rfl, _, _, rfl, rfl, _, rfl, ?_⟩
      cases c2 : decide (g ≤ f') with
      | false => exact iteF ⟨_, rfl, fin false c1 (by rw [c2]; rfl)⟩
      | true => exact iteT ⟨_, _, rfl, rfl, _, rfl, fin _ c1 (by rw [c2]; rfl)⟩
end
end Sh

set_option Elab.async false
set_option maxRecDepth 100000
set_option maxHeartbeats 2000000
namespace Sh
open PySem PySem.Spec PyProof.Rows L2
theorem upd_upd (H : Hp) (p : Addr) (a b : HO) : upd (upd H p a) p b = upd H p b := by
  funext q
  unfold upd
  by_cases h : q = p
  · rw [if_pos h, if_pos h]
  · rw [if_neg h, if_neg h, if_neg h]
/-! ### one object of the state is written -/
section
variable {CA CW : Addr} {H : Hp} {x al : Addr} {as rs : List Addr} {b : Bool} {a : Kv348.Abs}
structure Apart (x al : Addr) (as rs : List Addr) : Prop where
  xl : x ≠ al
  xa : ∀ c ∈ as, x ≠ c
  xr : ∀ c ∈ rs, x ≠ c
  la : ∀ c ∈ as, al ≠ c
  lr : ∀ c ∈ rs, al ≠ c
  nas : as.Nodup
  nrs : rs.Nodup
  ar : ∀ c ∈ as, ∀ d ∈ rs, c ≠ d
theorem apart_of (h : (x :: al :: (as ++ rs)).Nodup) : Apart x al as rs := by
  obtain ⟨h1, h2⟩ := List.nodup_cons.mp h
  obtain ⟨h3, h4⟩ := List.nodup_cons.mp h2
  obtain ⟨h5, h6, h7⟩ := List.nodup_append.mp h4
  refine ⟨fun e => h1 (by rw [e]; exact List.mem_cons_self), fun c hc e => h1 ?_, fun c hc e => h1 ?_, fun c hc e => h3 ?_, fun c hc e => h3 ?_, h5, h6, fun c hc d hd e => h7 c hc d hd e⟩
  · rw [e]; exact List.mem_cons_of_mem _ (List.mem_append_left _ hc)
  · rw [e]; exact List.mem_cons_of_mem _ (List.mem_append_right _ hc)
  · rw [e]; exact List.mem_append_left _ hc
  · rw [e]; exact List.mem_append_right _ hc
theorem of_apart (h : Apart x al as rs) : (x :: al :: (as ++ rs)).Nodup := by
  refine List.nodup_cons.mpr ⟨fun m => ?_, List.nodup_cons.mpr ⟨fun m => ?_, List.nodup_append.mpr ⟨h.nas, h.nrs, fun c hc d hd e => h.ar c hc d hd e⟩⟩⟩
  · rcases List.mem_cons.mp m with e | m
    · exact h.xl e
    · rcases List.mem_append.mp m with m | m
      · exact h.xa x m rfl
      · exact h.xr x m rfl
  · rcases List.mem_append.mp m with m | m
    · exact h.la al m rfl
    · exact h.lr al m rfl
/-- the Waters itself is written, the areas as they were -/
theorem SAt.putW (S : SAt CA CW H x al as rs b a) {dx : Addr} {b' : Bool} {a' : Kv348.Abs} (e : a'.areas = a.areas) : SAt CA CW (upd H x (.ins CW dx (wf b' a' al))) x al as rs b' a' := by
  have Z := apart_of S.nd
  refine ⟨⟨dx, upd_same⟩, by rw [upd_ne Z.xl.symm]; exact S.lst, by rw [e]; exact S.la, by rw [e]; exact S.lr, fun i y hy => ?_, S.nd⟩
  rw [e] at hy
  obtain ⟨c, r, h1, h2, ⟨⟨dc, h3⟩, h4⟩⟩ := S.at_ i y hy
  refine ⟨c, r, h1, h2, ⟨dc, ?_⟩, ?_⟩
  · rw [upd_ne (Z.xa c (List.mem_of_getElem? h1)).symm]; exact h3
  · rw [upd_ne (Z.xr r (List.mem_of_getElem? h2)).symm]; exact h4
theorem get_set {α : Type} {l : List α} {i j : Nat} {y z : α} (h : (l.set i y)[j]? = some z) : (j = i ∧ z = y) ∨ (j ≠ i ∧ l[j]? = some z) := by
  by_cases e : j = i
  · subst e
    have hl : j < l.length := by
      have q := (List.getElem?_eq_some_iff.mp h).1
      rw [List.length_set] at q
      exact q
    rw [List.getElem?_set_self hl] at h
    exact .inl ⟨rfl, (Option.some.inj h).symm⟩
  · rw [List.getElem?_set_ne (fun q => e q.symm)] at h
    exact .inr ⟨e, h⟩
/-- an area's day is written -/
theorem SAt.putShut (S : SAt CA CW H x al as rs b a) {i z : Nat} {c r dc : Addr} {y : Kv348.Area} (hc : as[i]? = some c) (hr : rs[i]? = some r) (hy : a.areas[i]? = some y) :
    SAt CA CW (upd H c (.ins CA dc (af r z))) x al as rs b { a with areas := a.areas.set i { y with shut := z } } := by
  have Z := apart_of S.nd
  have mc := List.mem_of_getElem? hc
  obtain ⟨dw, hw⟩ := S.w
  refine ⟨⟨dw, by rw [upd_ne (Z.xa c mc)]; exact hw⟩, by rw [upd_ne (Z.la c mc)]; exact S.lst, by rw [S.la]; exact (List.length_set ..).symm, by rw [S.lr]; exact (List.length_set ..).symm, fun j u hu => ?_, S.nd⟩
  rcases get_set hu with ⟨rfl, rfl⟩ | ⟨ne, hu⟩
  · obtain ⟨c', r', h1, h2, ⟨⟨dc', h3⟩, h4⟩⟩ := S.at_ j y hy
    rw [hc] at h1; cases h1
    rw [hr] at h2; cases h2
    exact ⟨c, r, hc, hr, ⟨dc, upd_same⟩, by rw [upd_ne (Z.ar c mc r (List.mem_of_getElem? hr)).symm]; exact h4⟩
  · obtain ⟨c', r', h1, h2, ⟨⟨dc', h3⟩, h4⟩⟩ := S.at_ j u hu
    have n1 : c' ≠ c := fun e => ne (nd_ix Z.nas (by rw [← e]; exact h1) hc)
    exact ⟨c', r', h1, h2, ⟨dc', by rw [upd_ne n1]; exact h3⟩, by rw [upd_ne (Z.ar c mc r' (List.mem_of_getElem? h2)).symm]; exact h4⟩
/-- an area's readings are written -/
theorem SAt.putReads (S : SAt CA CW H x al as rs b a) {i : Nat} {l : List Nat} {c r : Addr} {y : Kv348.Area} (hc : as[i]? = some c) (hr : rs[i]? = some r) (hy : a.areas[i]? = some y) :
    SAt CA CW (upd H r (.lst (rl l))) x al as rs b { a with areas := a.areas.set i { y with reads := l } } := by
  have Z := apart_of S.nd
  have mr := List.mem_of_getElem? hr
  obtain ⟨dw, hw⟩ := S.w
  refine ⟨⟨dw, by rw [upd_ne (Z.xr r mr)]; exact hw⟩, by rw [upd_ne (Z.lr r mr)]; exact S.lst, by rw [S.la]; exact (List.length_set ..).symm, by rw [S.lr]; exact (List.length_set ..).symm, fun j u hu => ?_, S.nd⟩
  rcases get_set hu with ⟨rfl, rfl⟩ | ⟨ne, hu⟩
  · obtain ⟨c', r', h1, h2, ⟨⟨dc', h3⟩, h4⟩⟩ := S.at_ j y hy
    rw [hc] at h1; cases h1
    rw [hr] at h2; cases h2
    exact ⟨c, r, hc, hr, ⟨dc', by rw [upd_ne (Z.ar c (List.mem_of_getElem? hc) r mr)]; exact h3⟩, upd_same⟩
  · obtain ⟨c', r', h1, h2, ⟨⟨dc', h3⟩, h4⟩⟩ := S.at_ j u hu
    have n1 : r' ≠ r := fun e => ne (nd_ix Z.nrs (by rw [← e]; exact h2) hr)
    exact ⟨c', r', h1, h2, ⟨dc', by rw [upd_ne (Z.ar c' (List.mem_of_getElem? h1) r mr)]; exact h3⟩, by rw [upd_ne n1]; exact h4⟩
theorem modify_set {α : Type} (l : List α) (i : Nat) (f : α → α) {y : α} (h : l[i]? = some y) : l.modify i f = l.set i (f y) := by
  apply List.ext_getElem?
  intro j
  rw [List.getElem?_modify]
  by_cases e : i = j
  · subst e
    rw [h, List.getElem?_set_self (List.getElem?_eq_some_iff.mp h).1]
    show some (if i = i then f y else y) = _
    rw [if_pos rfl]
  · rw [List.getElem?_set_ne e]
    cases l[j]? with
    | none => rfl
    | some z =>
      show some (if i = j then f z else z) = _
      rw [if_neg e]
end
/-! ### states -/
def repB (s : Kv348.State) : Bool := s.isSome
def repA (s : Kv348.State) : Kv348.Abs := s.getD ⟨0, 0, 0, 0, 0, 0, []⟩
/-- what a call's def promises: the state behind the call and the answer, all else as it was -/
def Post (CA CW : Addr) (H : Hp) (x : Addr) (foot : List Addr) (r : Kv348.State × List Int) (Q : VK) : Prop :=
  ∀ (H' : Hp) (al : Addr) (as rs : List Addr) (p : Addr), SAt CA CW H' x al as rs (repB r.1) (repA r.1) → AOk (repA r.1) → (∀ c o, H c = some o → c ∉ foot → H' c = some o) → (∀ c ∈ al :: (as ++ rs), c ∈ foot ∨ H c = none) → H' p = some (.lst (il r.2)) → H p = none → Q (.ref p) H'
/-- a call that only looks -/
theorem Post.look {CA CW : Addr} {H H' : Hp} {x al p : Addr} {as rs : List Addr} {s : Kv348.State} {ans : List Int} {Q : VK} (k : Post CA CW H x (x :: al :: (as ++ rs)) (s, ans) Q) (S : SAt CA CW H x al as rs (repB s) (repA s)) (O : AOk (repA s)) (s1 : Same H H')
    (h : H' p = some (.lst (il ans))) (hp : H p = none) : Q (.ref p) H' :=
  k H' al as rs p (s1.s S) O (fun c o e _ => s1 c o e) (fun c hc => .inl (List.mem_cons_of_mem _ hc)) h hp
/-- how many numbers a call has; how many of these are areas -/
def arity (n : Nat) : Nat := [5, 0, 2, 1, 1, 1, 1, 0, 0, 1, 1, 1, 2, 2, 3, 3, 2, 2, 0, 0, 1, 1, 0].getD n 0
def places (n : Nat) : Nat := [0, 0, 1, 1, 0, 0, 1, 0, 0, 1, 1, 1, 1, 1, 1, 1, 1, 2, 0, 0, 1, 1, 0].getD n 0
def cast (l : List Nat) : List Int := l.map fun (n : Nat) => (n : Int)
/-- the def that answers call n, where it's begun (or n is begin) and its areas are there -/
def sp_call (CA CW : Addr) (n : Nat) : Sp := fun vs H Q _ => ∃ (x al l : Addr) (as rs : List Addr) (s : Kv348.State) (args : List Nat), vs = [.ref x, .ref l] ∧ SAt CA CW H x al as rs (repB s) (repA s) ∧ AOk (repA s) ∧ H l = some (.lst (nl args)) ∧
  l ∉ x :: al :: (as ++ rs) ∧ args.length = arity n ∧ (n = 0 ∨ ∃ a, s = some a ∧ ∀ z ∈ args.take (places n), z < a.areas.length) ∧ Post CA CW H x (x :: al :: (as ++ rs)) (Kv348Neutral.step s [(n : Int) :: cast args]) Q
section
variable {P : Program} {w : World} {K : PySem.W.Frag} {mg : Str → Option Value} {base : Heap} {CA CW : Addr}
/-! ### the classes' __init__ -/
def sp_Area_init (CA : Addr) : Sp := fun vs H Q _ => ∃ (p dx : Addr), vs = [.ref p] ∧ H p = some (.ins CA dx []) ∧ ∀ (H' : Hp) (r : Addr), H r = none → AAt CA H' p r ⟨[], 0⟩ → (∀ c o, H c = some o → c ≠ p → H' c = some o) → Q .non H'
theorem ok_Area_init {f : Addr} {fd : FuncData} (C : Cl K CA CW) (F : Fun K "__init__" "Area.__init__" s_Area_init f fd) : FnOk P w K mg base CX0 1 f fd p_Area_init (sp_Area_init CA) := by
  refine F.ok sc_Area_init (fun vs H Q E h => ?_) (fun cdv A outer s H vs Q E hr h => ?_)
  · obtain ⟨p, dx, rfl, _⟩ := h
    rfl
  · obtain ⟨p, dx, rfl, hp, k⟩ := h
    refine ⟨_, (pss_cons (ps_fld (pv 0) (pe_lst pa_nil) rfl)
      (pss_one (ps_fld (pv 0) pe_int rfl))), ?_⟩
    refine ⟨Nat.zero_le _, fun r hr' => ?_⟩
    have npr : p ≠ r := ne_of_none hp hr'
    refine ⟨_, rfl, p, CA, dx, [], rfl, by rw [upd_ne npr]; exact hp, C.a, C.a_readings, (by show 0 < 1000; decide), ?_⟩
    refine ⟨_, rfl, p, CA, dx, _, rfl, upd_same, C.a, C.a_shut_until, (by show 1 < 1000; decide), ?_⟩
    rw [upd_upd]
    refine k _ r hr' ⟨⟨dx, upd_same⟩, ?_⟩ fun c o e hc => ?_
    · rw [upd_ne npr.symm]; exact upd_same
    · rw [upd_ne hc, upd_ne (ne_of_none e hr')]; exact e
def sp_Waters_init (CA CW : Addr) : Sp := fun vs H Q _ => ∃ (p dx : Addr), vs = [.ref p] ∧ H p = some (.ins CW dx []) ∧ ∀ (H' : Hp) (al : Addr), H al = none → SAt CA CW H' p al [] [] (repB none) (repA none) → (∀ c o, H c = some o → c ≠ p → H' c = some o) → Q .non H'
theorem ok_Waters_init {f : Addr} {fd : FuncData} (C : Cl K CA CW) (F : Fun K "__init__" "Waters.__init__" s_Waters_init f fd) : FnOk P w K mg base CX0 1 f fd p_Waters_init (sp_Waters_init CA CW) := by
  refine F.ok sc_Waters_init (fun vs H Q E h => ?_) (fun cdv A outer s H vs Q E hr h => ?_)
  · obtain ⟨p, dx, rfl, _⟩ := h
    rfl
  · obtain ⟨p, dx, rfl, hp, k⟩ := h
    refine ⟨_, (pss_cons (ps_fld (pv 0) pe_bl rfl)
      (pss_cons (ps_fld (pv 0) pe_int rfl)
      (pss_cons (ps_fld (pv 0) pe_int rfl)
      (pss_cons (ps_fld (pv 0) pe_int rfl)
      (pss_cons (ps_fld (pv 0) pe_int rfl)
      (pss_cons (ps_fld (pv 0) pe_int rfl)
      (pss_cons (ps_fld (pv 0) pe_int rfl)
      (pss_one (ps_fld (pv 0) (pe_lst pa_nil) rfl))))))))), ?_⟩
    refine ⟨_, rfl, p, CW, dx, [], rfl, hp, C.w, C.w_begun, (by show 0 < 1000; decide), ?_⟩
    refine ⟨_, rfl, p, CW, dx, _, rfl, upd_same, C.w, C.w_good, (by show 1 < 1000; decide), ?_⟩
    rw [upd_upd]
    refine ⟨_, rfl, p, CW, dx, _, rfl, upd_same, C.w, C.w_fair, (by show 2 < 1000; decide), ?_⟩
    rw [upd_upd]
    refine ⟨_, rfl, p, CW, dx, _, rfl, upd_same, C.w, C.w_peak, (by show 3 < 1000; decide), ?_⟩
    rw [upd_upd]
    refine ⟨_, rfl, p, CW, dx, _, rfl, upd_same, C.w, C.w_rain, (by show 4 < 1000; decide), ?_⟩
    rw [upd_upd]
    refine ⟨_, rfl, p, CW, dx, _, rfl, upd_same, C.w, C.w_days, (by show 5 < 1000; decide), ?_⟩
    rw [upd_upd]
    refine ⟨_, rfl, p, CW, dx, _, rfl, upd_same, C.w, C.w_day, (by show 6 < 1000; decide), ?_⟩
    rw [upd_upd]
    refine ⟨Nat.zero_le _, fun al ha => ?_⟩
    have n1 : p ≠ al := ne_of_none upd_same ha
    rw [upd_ne n1.symm] at ha
    refine ⟨_, rfl, p, CW, dx, _, rfl, by rw [upd_ne n1]; exact upd_same, C.w, C.w_areas, (by show 7 < 1000; decide), ?_⟩
    refine k _ al ha ⟨⟨dx, upd_same⟩, by rw [upd_ne n1.symm]; exact upd_same, rfl, rfl, fun i y h => (by cases h), ?_⟩ fun c o e hc => ?_
    · exact List.nodup_cons.mpr ⟨by simp [n1], List.nodup_cons.mpr ⟨by simp, by simp⟩⟩
    · rw [upd_ne hc, upd_ne (ne_of_none e ha), upd_ne hc]; exact e
end
end Sh

set_option Elab.async false
set_option maxRecDepth 100000
set_option maxHeartbeats 2000000
namespace Sh
open PySem PySem.Spec PyProof.Rows L2
/-- the class x of the module, and its __init__'s promise -/
def MkD (P : Program) (w : World) (K : PySem.W.Frag) (mg : Str → Option Value) (base : Heap) (k : Nat) (x : Str) (C : Addr) (ps : List Str) (sp : Sp) : Prop :=
  ∃ f fd, Mk K C f ∧ mg x = some (.ref C) ∧ Binds K fd ps [] ∧ FnOk P w K mg base CX0 k f fd ps sp
theorem pe_mk0 {X : Cx} {k : Nat} {x : Str} {C : Addr} {ps : List Str} {sp : Sp} {p pos : Pos} (D : MkD X.prog X.w X.K X.mg X.base k x C ps sp) (hr : Room (k + 1) X.A) (hg : Gl X x) (hdb : (x == ("__debug__" : Str)) = false := by decide) :
    PE X (.Call (.Name x p) [] [] pos) (tMake C sp [] E0 tNil) := by
  obtain ⟨f, fd, M, hm, hb, F⟩ := D
  exact pe_make0 M F hr hg hm hb .nil pass0 hdb
theorem len1 {α : Type} {l : List α} (h : l.length = 1) : ∃ a, l = [a] := match l, h with | [a], _ => ⟨a, rfl⟩
theorem len2 {α : Type} {l : List α} (h : l.length = 2) : ∃ a b, l = [a, b] := match l, h with | [a, b], _ => ⟨a, b, rfl⟩
theorem len3 {α : Type} {l : List α} (h : l.length = 3) : ∃ a b c, l = [a, b, c] := match l, h with | [a, b, c], _ => ⟨a, b, c, rfl⟩
theorem len5 {α : Type} {l : List α} (h : l.length = 5) : ∃ a b c d e, l = [a, b, c, d, e] := match l, h with | [a, b, c, d, e], _ => ⟨a, b, c, d, e, rfl⟩
theorem len0 {α : Type} {l : List α} (h : l.length = 0) : l = [] := match l, h with | [], _ => rfl
theorem has_t {a : Kv348.Abs} {i : Nat} (h : i < a.areas.length) : ¬ a.has i = false := by
  unfold Kv348.Abs.has
  rw [decide_eq_true h]
  exact Bool.noConfusion
theorem SAt.i {CA CW : Addr} {H : Hp} {x al : Addr} {as rs : List Addr} {b : Bool} {a : Kv348.Abs} (S : SAt CA CW H x al as rs b a) {i : Nat} (h : i < a.areas.length) :
    ∃ (c r : Addr) (y : Kv348.Area), a.areas[i]? = some y ∧ a.area i = y ∧ as[i]? = some c ∧ rs[i]? = some r ∧ AAt CA H c r y ∧ (as.map V.ref)[i]? = some (.ref c) := by
  obtain ⟨c, r, h1, h2, h3⟩ := S.at_ i _ (List.getElem?_eq_getElem h)
  exact ⟨c, r, _, List.getElem?_eq_getElem h, area_of (List.getElem?_eq_getElem h), h1, h2, h3, by rw [List.getElem?_map, h1]; rfl⟩
theorem okX_is (z : Nat) : (decide ((1 : Int) ≤ (z : Int)) && decide ((z : Int) ≤ 1000)) = Kv348.okX z := by
  unfold Kv348.okX
  rw [show decide ((1 : Int) ≤ (z : Int)) = decide (1 ≤ z) from dec_le 1 z, show decide ((z : Int) ≤ 1000) = decide (z ≤ 1000) from dec_le z 1000]
theorem AOk.set {a : Kv348.Abs} (O : AOk a) {i : Nat} {y : Kv348.Area} (h : YOk y) : AOk { a with areas := a.areas.set i y } :=
  ⟨O.good, O.fair, by show (a.areas.set i y).length ≤ 6; rw [List.length_set]; exact O.len, fun j u hu => by
    rcases get_set hu with ⟨_, rfl⟩ | ⟨_, hu⟩
    · exact h
    · exact O.ys j u hu⟩
/-- the state's own objects are there -/
theorem SAt.old {CA CW : Addr} {H : Hp} {x al : Addr} {as rs : List Addr} {b : Bool} {a : Kv348.Abs} (S : SAt CA CW H x al as rs b a) : ∀ d ∈ x :: al :: (as ++ rs), ∃ o, H d = some o := by
  obtain ⟨dw, hw⟩ := S.w
  intro d hd
  rcases List.mem_cons.mp hd with rfl | hd
  · exact ⟨_, hw⟩
  · rcases List.mem_cons.mp hd with rfl | hd
    · exact ⟨_, S.lst⟩
    · rcases List.mem_append.mp hd with hd | hd
      · obtain ⟨j, hj⟩ := List.mem_iff_getElem?.mp hd
        obtain ⟨c', r', y', e, _, q1, q2, ⟨⟨dx, q3⟩, q4⟩⟩ := S.get (i := j) (v := .ref d) (by rw [List.getElem?_map, hj]; rfl)
        cases e
        exact ⟨_, q3⟩
      · obtain ⟨j, hj⟩ := List.mem_iff_getElem?.mp hd
        have lj : j < a.areas.length := by rw [← S.lr]; exact (List.getElem?_eq_some_iff.mp hj).1
        obtain ⟨c', r', y', _, _, _, q2, ⟨_, q4⟩, _⟩ := S.i lj
        rw [hj] at q2
        cases q2
        exact ⟨_, q4⟩
/-- one more area -/
theorem SAt.grow {CA CW : Addr} {H H1 : Hp} {x al : Addr} {as rs : List Addr} {b : Bool} {a : Kv348.Abs} (S : SAt CA CW H x al as rs b a) (s1 : Same H H1) {c r : Addr} {y : Kv348.Area} (hy : AAt CA H1 c r y) (hc : H c = none) (hr : H r = none) :
    SAt CA CW (upd H1 al (.lst ((as ++ [c]).map V.ref))) x al (as ++ [c]) (rs ++ [r]) b { a with areas := a.areas ++ [y] } := by
  have Z := apart_of S.nd
  obtain ⟨dw, hw⟩ := S.w
  obtain ⟨⟨dc, h1⟩, h2⟩ := hy
  have ncr : c ≠ r := ne_of h1 h2 (by intro z; cases z)
  have old := S.old
  have nc : ∀ d ∈ x :: al :: (as ++ rs), d ≠ c := fun d hd e => by
    obtain ⟨o, q⟩ := old d hd
    rw [e, hc] at q
    cases q
  have nr : ∀ d ∈ x :: al :: (as ++ rs), d ≠ r := fun d hd e => by
    obtain ⟨o, q⟩ := old d hd
    rw [e, hr] at q
    cases q
  have mx : x ∈ x :: al :: (as ++ rs) := List.mem_cons_self
  have ml : al ∈ x :: al :: (as ++ rs) := List.mem_cons_of_mem _ List.mem_cons_self
  have mas : ∀ d ∈ as, d ∈ x :: al :: (as ++ rs) := fun d hd => List.mem_cons_of_mem _ (List.mem_cons_of_mem _ (List.mem_append_left _ hd))
  have mrs : ∀ d ∈ rs, d ∈ x :: al :: (as ++ rs) := fun d hd => List.mem_cons_of_mem _ (List.mem_cons_of_mem _ (List.mem_append_right _ hd))
  refine ⟨⟨dw, by rw [upd_ne Z.xl]; exact s1 _ _ hw⟩, upd_same, by rw [List.length_append, S.la]; show _ = (a.areas ++ [y]).length; rw [List.length_append]; rfl, by rw [List.length_append, S.lr]; show _ = (a.areas ++ [y]).length; rw [List.length_append]; rfl, fun i u hu => ?_, of_apart ⟨Z.xl, ?_, ?_, ?_, ?_, ?_, ?_, ?_⟩⟩
  · have hu : (a.areas ++ [y])[i]? = some u := hu
    by_cases hi : i < a.areas.length
    · rw [List.getElem?_append_left hi] at hu
      obtain ⟨c', r', q1, q2, ⟨⟨dx, q3⟩, q4⟩⟩ := S.at_ i u hu
      refine ⟨c', r', by rw [List.getElem?_append_left (by rw [S.la]; exact hi)]; exact q1, by rw [List.getElem?_append_left (by rw [S.lr]; exact hi)]; exact q2, ⟨dx, ?_⟩, ?_⟩
      · rw [upd_ne (Z.la c' (List.mem_of_getElem? q1)).symm]; exact s1 _ _ q3
      · rw [upd_ne (Z.lr r' (List.mem_of_getElem? q2)).symm]; exact s1 _ _ q4
    · have ei : i = a.areas.length := by
        have q := (List.getElem?_eq_some_iff.mp hu).1
        rw [List.length_append] at q
        have : ([y] : List Kv348.Area).length = 1 := rfl
        omega
      subst ei
      rw [List.getElem?_append_right (Nat.le_refl _), Nat.sub_self] at hu
      have eu : y = u := Option.some.inj hu
      subst eu
      refine ⟨c, r, by rw [List.getElem?_append_right (by rw [S.la]; exact Nat.le_refl _), S.la, Nat.sub_self]; rfl, by rw [List.getElem?_append_right (by rw [S.lr]; exact Nat.le_refl _), S.lr, Nat.sub_self]; rfl, ⟨dc, ?_⟩, ?_⟩
      · rw [upd_ne (nc al ml).symm]; exact h1
      · rw [upd_ne (nr al ml).symm]; exact h2
  · intro d hd
    rcases List.mem_append.mp hd with hd | hd
    · exact Z.xa d hd
    · rw [List.mem_singleton.mp hd]; exact nc x mx
  · intro d hd
    rcases List.mem_append.mp hd with hd | hd
    · exact Z.xr d hd
    · rw [List.mem_singleton.mp hd]; exact nr x mx
  · intro d hd
    rcases List.mem_append.mp hd with hd | hd
    · exact Z.la d hd
    · rw [List.mem_singleton.mp hd]; exact nc al ml
  · intro d hd
    rcases List.mem_append.mp hd with hd | hd
    · exact Z.lr d hd
    · rw [List.mem_singleton.mp hd]; exact nr al ml
  · exact nd_snoc Z.nas fun m => nc c (mas c m) rfl
  · exact nd_snoc Z.nrs fun m => nr r (mrs r m) rfl
  · intro d hd e he
    rcases List.mem_append.mp hd with hd | hd
    · rcases List.mem_append.mp he with he | he
      · exact Z.ar d hd e he
      · rw [List.mem_singleton.mp he]; exact nr d (mas d hd)
    · rw [List.mem_singleton.mp hd]
      rcases List.mem_append.mp he with he | he
      · exact (nc e (mrs e he)).symm
      · rw [List.mem_singleton.mp he]; exact ncr
section
variable {P : Program} {w : World} {K : PySem.W.Frag} {mg : Str → Option Value} {base : Heap} {CA CW : Addr}
theorem sp_call_len {n : Nat} {vs : List V} {H : Hp} {Q : VK} {E : XK} (h : sp_call CA CW n vs H Q E) : vs.length = 2 := by
  obtain ⟨x, al, l, as, rs, s, args, rfl, _⟩ := h
  rfl
/-! ### answer_area -/
theorem ok_answer_area (T : Txt mg) (C : Cl K CA CW) (D_Area : MkD P w K mg base 1 "Area" CA p_Area_init (sp_Area_init CA)) (h : Has K mg "answer_area" s_answer_area p_answer_area) : Def P w K mg base 3 "answer_area" p_answer_area (sp_call CA CW 1) := by
  refine h.ok sc_answer_area (fun vs H Q E h => sp_call_len h) (fun f cdv A outer s H vs Q E hr h => ?_)
  obtain ⟨x, al, l, as, rs, s, args, rfl, S, O, hl, nfl, hlen, hpre, k⟩ := h
  obtain ⟨a, rfl, hi⟩ := hpre.resolve_left (by decide)
  obtain rfl := len0 hlen
  have S : SAt CA CW H x al as rs true a := S
  have O : AOk a := O
  obtain ⟨dw, hw⟩ := S.w
  refine ⟨_, (pss_cons (ps_if (pt_cmpR op_ge (pe_callB call_len_seq rfl T.b_len PySem.boot_len (pa_cons (pe_fld (pv 0) rfl) pa_nil)) (pe_gint rfl T.c_MOST_AREAS) (nomark _)) (pss_one (ps_ret (pe_lst (pa_cons (pe_gint rfl T.c_TOO_MANY) pa_nil)))) pss_nil)
      (pss_cons (ps_expr (pe_bm PySem.F.plainAttrs_list PySem.F.slot_list_append PySem.F.type_list_append mt_append (pe_fld (pv 0) rfl) (pa_cons (pe_mk0 D_Area hr rfl) pa_nil)))
      (pss_one (ps_ret (pe_lst (pa_cons (pe_op op_sub (pe_callB call_len_seq rfl T.b_len PySem.boot_len (pa_cons (pe_fld (pv 0) rfl) pa_nil)) pe_int) pa_nil)))))), ?_⟩
  have e : Kv348Neutral.step (some a) [((1 : Nat) : Int) :: cast []] = (some (a.does .area).1, Kv348Neutral.row (a.does .area).2) := rfl
  rw [e] at k
  have e2 : a.does .area = if 6 ≤ a.areas.length then (a, Kv348.say (-28)) else ({ a with areas := a.areas ++ [⟨[], 0⟩] }, Kv348.say (a.areas.length : Nat)) := rfl
  rw [e2] at k
  refine ⟨_, rfl, x, CW, dw, _, _, rfl, hw, C.w, C.w_areas, rfl, al, _, rfl, .inl (SqL.of S.lst), _, _, rfl, rfl, _, rfl, ?_⟩
  have ed : decide ((6 : Int) ≤ ((as.map V.ref).length : Int)) = decide (6 ≤ a.areas.length) := by
    rw [List.length_map, S.la]
    exact dec_le 6 _
  rw [ed]
  refine ite2 (fun c => ?_) (fun c => ?_)
  · rw [if_pos (of_decide_eq_true c)] at k
    refine ⟨(by show 1 ≤ sizeLine; decide), fun p hp => ?_⟩
    exact k.look (s := some a) S O (same_new hp) upd_same hp
  · have c : ¬ 6 ≤ a.areas.length := fun q => c (decide_eq_true q)
    rw [if_neg c] at k
    refine ⟨_, rfl, x, CW, dw, _, _, rfl, hw, C.w, C.w_areas, rfl, .inl ⟨rfl, _, SqL.of S.lst⟩, fun y dy ny nd ne => ?_⟩
    refine ⟨y, dy, rfl, upd_same, fun H' r hr' hA kp => ⟨rfl, ?_⟩⟩
    have ryd : H r = none := by
      have q1 : r ≠ y := fun q => by rw [q, upd_same] at hr'; cases hr'
      rw [upd_ne q1] at hr'
      have q2 : r ≠ dy := fun q => by rw [q, upd_same] at hr'; cases hr'
      rw [upd_ne q2] at hr'
      exact hr'
    have s1 : Same H H' := Same.made ny nd kp
    refine ⟨al, _, _, rfl, rfl, s1 _ _ S.lst, ?_, ?_⟩
    · rw [List.length_map, S.la]
      exact Nat.lt_of_le_of_lt O.len (by decide)
    · have S2 := S.grow s1 hA ny ryd
      have em : (as ++ [y]).map V.ref = as.map V.ref ++ [V.ref y] := List.map_append
      rw [em] at S2
      obtain ⟨dw2, hw2⟩ := S2.w
      refine ⟨_, rfl, x, CW, dw2, _, _, rfl, hw2, C.w, C.w_areas, rfl, al, _, rfl, .inl (SqL.of upd_same), _, _, rfl, rfl, (by show 1 ≤ sizeLine; decide), fun p hp => ?_⟩
      have O2 : AOk { a with areas := a.areas ++ [⟨[], 0⟩] } := by
        refine ⟨O.good, O.fair, ?_, fun j u hu => ?_⟩
        · show (a.areas ++ [_]).length ≤ 6
          rw [List.length_append]
          show a.areas.length + 1 ≤ 6
          omega
        · have hu : (a.areas ++ [⟨[], 0⟩])[j]? = some u := hu
          rcases List.mem_append.mp (List.mem_of_getElem? hu) with m | m
          · obtain ⟨j', hj'⟩ := List.mem_iff_getElem?.mp m
            exact O.ys j' u hj'
          · rw [List.mem_singleton.mp m]
            exact ⟨fun z hz => (by cases hz), Nat.zero_le _⟩
      refine k _ al (as ++ [y]) (rs ++ [r]) p ((same_new hp).s S2) O2 (fun c o e hc => ?_) (fun c hc => ?_) ?_ ?_
      · have nal : c ≠ al := fun q => hc (by rw [q]; exact List.mem_cons_of_mem _ List.mem_cons_self)
        have q : (upd H' al (.lst (as.map V.ref ++ [V.ref y]))) c = some o := by rw [upd_ne nal]; exact s1 _ _ e
        rw [upd_ne (ne_of_none q hp)]
        exact q
      · rcases List.mem_cons.mp hc with rfl | hc
        · exact .inl (List.mem_cons_of_mem _ List.mem_cons_self)
        · rcases List.mem_append.mp hc with hc | hc
          · rcases List.mem_append.mp hc with hc | hc
            · exact .inl (List.mem_cons_of_mem _ (List.mem_cons_of_mem _ (List.mem_append_left _ hc)))
            · rw [List.mem_singleton.mp hc]; exact .inr ny
          · rcases List.mem_append.mp hc with hc | hc
            · exact .inl (List.mem_cons_of_mem _ (List.mem_cons_of_mem _ (List.mem_append_right _ hc)))
            · rw [List.mem_singleton.mp hc]; exact .inr ryd
      · rw [upd_same]
        have ez : ((as.map V.ref ++ [V.ref y]).length : Int) - 1 = (a.areas.length : Int) := by
          rw [List.length_append, List.length_map, S.la]
          show ((a.areas.length + 1 : Nat) : Int) - 1 = _
          omega
        show some (HO.lst [V.int (((as.map V.ref ++ [V.ref y]).length : Int) - 1)]) = _
        rw [ez]
        rfl
      · have q1 : p ≠ al := fun q => by rw [q, upd_same] at hp; cases hp
        rw [upd_ne q1] at hp
        exact s1.free hp
end
end Sh

set_option Elab.async false
set_option maxRecDepth 100000
set_option maxHeartbeats 2000000
namespace Sh
open PySem PySem.Spec PyProof.Rows L2
/-- a call that writes the state's own objects, no new ones among them -/
theorem Post.wrote {CA CW : Addr} {H H1 H' : Hp} {x al p : Addr} {as rs : List Addr} {a : Kv348.Abs} {ans : List Int} {Q : VK} (k : Post CA CW H x (x :: al :: (as ++ rs)) (some a, ans) Q) (S : SAt CA CW H1 x al as rs true a) (O : AOk a)
    (fr : ∀ c o, H c = some o → c ∉ x :: al :: (as ++ rs) → H1 c = some o) (s1 : Same H1 H') (h : H' p = some (.lst (il ans))) (hp : H1 p = none) : Q (.ref p) H' := by
  refine k H' al as rs p (s1.s S) O (fun c o e n => s1 c o (fr c o e n)) (fun c hc => .inl (List.mem_cons_of_mem _ hc)) h ?_
  cases e : H p with
  | none => rfl
  | some o =>
    by_cases m : p ∈ x :: al :: (as ++ rs)
    · obtain ⟨o', e'⟩ := S.old p m
      rw [hp] at e'
      cases e'
    · rw [fr p o e m] at hp
      cases hp
theorem dec_ge (a b : Nat) : decide ((b : Int) ≤ (a : Int)) = decide (b ≤ a) := dec_le b a
section
variable {P : Program} {w : World} {K : PySem.W.Frag} {mg : Str → Option Value} {base : Heap} {CA CW : Addr}
/-! ### answer_read -/
theorem ok_answer_read (T : Txt mg) (C : Cl K CA CW) (D_is_reading : Def P w K mg base 1 "is_reading" p_is_reading sp_is_reading) (D_class_of : Def P w K mg base 3 "class_of" p_class_of (sp_class_of CW)) (h : Has K mg "answer_read" s_answer_read p_answer_read) :
    Def P w K mg base 4 "answer_read" p_answer_read (sp_call CA CW 2) := by
  refine h.ok sc_answer_read (fun vs H Q E h => sp_call_len h) (fun f cdv A outer s H vs Q E hr h => ?_)
  obtain ⟨x, al, l, as, rs, s, args, rfl, S, O, hl, nfl, hlen, hpre, k⟩ := h
  obtain ⟨a, rfl, hi⟩ := hpre.resolve_left (by decide)
  obtain ⟨i, z, rfl⟩ := len2 hlen
  have S : SAt CA CW H x al as rs true a := S
  have O : AOk a := O
  obtain ⟨dw, hw⟩ := S.w
  have hi : i < a.areas.length := hi i List.mem_cons_self
  obtain ⟨c, r, y, hy, ey, hc, hr', ⟨⟨dc, hA⟩, hR⟩, hv⟩ := S.i hi
  have Y := O.ys i y hy
  refine ⟨_, (pss_cons (ps_set (i := 2) sc_answer_read.nd rfl (Or.inl rfl) (pe_ix ix_list (pe_fld (pv 0) rfl) (pe_ix ix_list (pv 1) pe_int (fun _ _ => rfl)) (fun _ _ => rfl)))
      (pss_cons (ps_set (i := 3) sc_answer_read.nd rfl (Or.inl rfl) (pe_ix ix_list (pv 1) pe_int (fun _ _ => rfl)))
      (pss_cons (ps_if (pt_not (pt_val (pe_d D_is_reading (hr.mono (by decide)) rfl (pa_cons (pv 3) pa_nil)))) (pss_one (ps_ret (pe_lst (pa_cons (pe_gint rfl T.c_OUT_OF_RANGE) pa_nil)))) pss_nil)
      (pss_cons (ps_if (pt_cmpR op_ge (pe_callB call_len_seq rfl T.b_len PySem.boot_len (pa_cons (pe_fld (pv 2) rfl) pa_nil)) (pe_gint rfl T.c_MOST_READINGS) (nomark _)) (pss_one (ps_ret (pe_lst (pa_cons (pe_gint rfl T.c_TOO_MANY) pa_nil)))) pss_nil)
      (pss_cons (ps_set (i := 4) sc_answer_read.nd rfl (Or.inl rfl) (pe_d D_class_of (hr.mono (by decide)) rfl (pa_cons (pv 0) (pa_cons (pe_fld (pv 2) rfl) pa_nil))))
      (pss_cons (ps_expr (pe_bm PySem.F.plainAttrs_list PySem.F.slot_list_append PySem.F.type_list_append mt_append (pe_fld (pv 2) rfl) (pa_cons (pv 3) pa_nil)))
      (pss_one (ps_ret (pe_lst (pa_cons (pe_d D_class_of (hr.mono (by decide)) rfl (pa_cons (pv 0) (pa_cons (pe_fld (pv 2) rfl) pa_nil))) (pa_cons (pv 4) pa_nil))))))))))), ?_⟩
  have e : Kv348Neutral.step (some a) [((2 : Nat) : Int) :: cast [i, z]] = (some (a.does (.read i z)).1, Kv348Neutral.row (a.does (.read i z)).2) := rfl
  rw [e] at k
  simp only [Kv348.Abs.does] at k
  rw [if_neg (has_t hi)] at k
  refine ⟨_, rfl, x, CW, dw, _, _, rfl, hw, C.w, C.w_areas, rfl, _, rfl, l, _, _, _, rfl, rfl, SqL.of hl, at_of (j := 0) rfl rfl, al, _, _, _, rfl, rfl, SqL.of S.lst, at_of (j := i) rfl hv, ?_⟩
  refine ⟨_, rfl, l, _, _, _, rfl, rfl, SqL.of hl, at_of (j := 1) rfl rfl, ?_⟩
  refine ⟨_, rfl, (z : Int), rfl, _, rfl, ?_⟩
  rw [okX_is]
  cases c1 : Kv348.okX z with
  | false =>
    rw [if_pos c1] at k
    refine iteT ⟨(by show 1 ≤ sizeLine; decide), fun p hp => ?_⟩
    exact k.look (s := some a) S O (same_new hp) upd_same hp
  | true =>
    rw [if_neg (by rw [c1]; exact Bool.noConfusion)] at k
    refine iteF ?_
    refine ⟨_, rfl, c, CA, dc, _, _, rfl, hA, C.a, C.a_readings, rfl, r, _, rfl, .inl (SqL.of hR), _, _, rfl, rfl, _, rfl, ?_⟩
    have ed : decide ((60 : Int) ≤ ((rl y.reads).length : Int)) = decide (60 ≤ y.reads.length) := by rw [rl_len]; exact dec_le 60 _
    rw [ed]
    rw [ey] at k
    refine ite2 (fun c2 => ?_) (fun c2 => ?_)
    · rw [if_pos (of_decide_eq_true c2)] at k
      refine ⟨(by show 1 ≤ sizeLine; decide), fun p hp => ?_⟩
      exact k.look (s := some a) S O (same_new hp) upd_same hp
    · have c2 : ¬ 60 ≤ y.reads.length := fun q => c2 (decide_eq_true q)
      rw [if_neg c2] at k
      refine ⟨_, rfl, _, rfl, c, CA, dc, _, _, rfl, hA, C.a, C.a_readings, rfl, x, al, r, true, a, y.reads, rfl, S.w, hR, Y.rds, O.good, O.fair, fun H1 s1 => ?_⟩
      refine ⟨_, rfl, c, CA, dc, _, _, rfl, s1 _ _ hA, C.a, C.a_readings, rfl, .inl ⟨rfl, _, SqL.of (s1 _ _ hR)⟩, _, rfl, r, _, _, rfl, rfl, s1 _ _ hR, ?_, ?_⟩
      · rw [rl_len]
        exact Nat.lt_trans (show y.reads.length < 60 by omega) (by decide)
      · have ec : rl y.reads ++ [V.int (z : Int)] = rl (z :: y.reads) := (rl_cons z y.reads).symm
        rw [ec]
        have S2 := (s1.s S).putReads (l := z :: y.reads) hc hr' hy
        have Z := apart_of S.nd
        have ncr : c ≠ r := Z.ar c (List.mem_of_getElem? hc) r (List.mem_of_getElem? hr')
        unfold Kv348.okX at c1
        have c1 := Bool.and_eq_true_iff.mp c1
        have z1 := of_decide_eq_true c1.1
        have z2 := of_decide_eq_true c1.2
        refine ⟨_, rfl, _, rfl, c, CA, dc, _, _, rfl, by rw [upd_ne ncr]; exact s1 _ _ hA, C.a, C.a_readings, rfl, x, al, r, true, a, z :: y.reads, rfl, S2.w, upd_same, Y.rds.cons z1 z2, O.good, O.fair, fun H3 s3 => ?_⟩
        refine ⟨_, rfl, (by show 2 ≤ sizeLine; decide), fun p hp => ?_⟩
        rw [modify_set a.areas i _ hy] at k
        refine k.wrote S2 (O.set ⟨Y.rds.cons z1 z2, by show y.reads.length + 1 ≤ 60; omega⟩) (fun d o q n => ?_) (same_upd s3 hp) ?_ (s3.free hp)
        · have nd : d ≠ r := fun q2 => n (by rw [q2]; exact List.mem_cons_of_mem _ (List.mem_cons_of_mem _ (List.mem_append_right _ (List.mem_of_getElem? hr'))))
          rw [upd_ne nd]
          exact s1 _ _ q
        · rw [upd_same]
          have e3 : a.class_ i = a.classOf y.reads := by unfold Kv348.Abs.class_; rw [ey]
          rw [e3]
          rfl
/-! ### answer_back -/
theorem ok_answer_back (T : Txt mg) (C : Cl K CA CW) (D_class_of : Def P w K mg base 3 "class_of" p_class_of (sp_class_of CW)) (h : Has K mg "answer_back" s_answer_back p_answer_back) :
    Def P w K mg base 4 "answer_back" p_answer_back (sp_call CA CW 3) := by
  refine h.ok sc_answer_back (fun vs H Q E h => sp_call_len h) (fun f cdv A outer s H vs Q E hr h => ?_)
  obtain ⟨x, al, l, as, rs, s, args, rfl, S, O, hl, nfl, hlen, hpre, k⟩ := h
  obtain ⟨a, rfl, hi⟩ := hpre.resolve_left (by decide)
  obtain ⟨i, rfl⟩ := len1 hlen
  have S : SAt CA CW H x al as rs true a := S
  have O : AOk a := O
  obtain ⟨dw, hw⟩ := S.w
  have hi : i < a.areas.length := hi i List.mem_cons_self
  obtain ⟨c, r, y, hy, ey, hc, hr', ⟨⟨dc, hA⟩, hR⟩, hv⟩ := S.i hi
  have Y := O.ys i y hy
  refine ⟨_, (pss_cons (ps_set (i := 2) sc_answer_back.nd rfl (Or.inl rfl) (pe_ix ix_list (pe_fld (pv 0) rfl) (pe_ix ix_list (pv 1) pe_int (fun _ _ => rfl)) (fun _ _ => rfl)))
      (pss_cons (ps_if (pt_cmpR op_eq (pe_callB call_len_seq rfl T.b_len PySem.boot_len (pa_cons (pe_fld (pv 2) rfl) pa_nil)) pe_int (nomark _)) (pss_one (ps_ret (pe_lst (pa_cons (pe_gint rfl T.c_TOO_FEW) pa_nil)))) pss_nil)
      (pss_cons (ps_set (i := 3) sc_answer_back.nd rfl (Or.inl rfl) (pe_bm0 PySem.F.plainAttrs_list PySem.F.slot_list_pop PySem.F.type_list_pop mt_pop (pe_fld (pv 2) rfl)))
      (pss_one (ps_ret (pe_lst (pa_cons (pv 3) (pa_cons (pe_d D_class_of (hr.mono (by decide)) rfl (pa_cons (pv 0) (pa_cons (pe_fld (pv 2) rfl) pa_nil))) pa_nil)))))))), ?_⟩
  have e : Kv348Neutral.step (some a) [((3 : Nat) : Int) :: cast [i]] = (some (a.does (.back i)).1, Kv348Neutral.row (a.does (.back i)).2) := rfl
  rw [e] at k
  simp only [Kv348.Abs.does] at k
  rw [if_neg (has_t hi)] at k
  refine ⟨_, rfl, x, CW, dw, _, _, rfl, hw, C.w, C.w_areas, rfl, _, rfl, l, _, _, _, rfl, rfl, SqL.of hl, at_of (j := 0) rfl rfl, al, _, _, _, rfl, rfl, SqL.of S.lst, at_of (j := i) rfl hv, ?_⟩
  refine ⟨_, rfl, c, CA, dc, _, _, rfl, hA, C.a, C.a_readings, rfl, r, _, rfl, .inl (SqL.of hR), rfl, _, rfl, ?_⟩
  rw [ey] at k
  obtain ⟨yr, ys⟩ := y
  cases yr with
  | nil =>
    refine ite2 (fun _ => ?_) (fun q => absurd (decide_eq_true rfl) q)
    refine ⟨(by show 1 ≤ sizeLine; decide), fun p hp => ?_⟩
    exact k.look (s := some a) S O (same_new hp) upd_same hp
  | cons z yr =>
    have hR : H r = some (.lst (rl (z :: yr))) := hR
    refine ite2 (fun q => ?_) (fun _ => ?_)
    · have q := of_decide_eq_true q
      have q : ((rl (z :: yr)).length : Int) = 0 := by injection q
      rw [rl_len] at q
      have : (z :: yr).length = yr.length + 1 := rfl
      omega
    refine ⟨_, rfl, c, CA, dc, _, _, rfl, hA, C.a, C.a_readings, rfl, .inl ⟨rfl, _, SqL.of hR⟩, r, _, _, rfl, rfl, hR, rl_last z yr, ?_⟩
    rw [rl_drop]
    have S2 := S.putReads (l := yr) hc hr' hy
    have Z := apart_of S.nd
    have ncr : c ≠ r := Z.ar c (List.mem_of_getElem? hc) r (List.mem_of_getElem? hr')
    have Yr : Rds yr := fun u hu => Y.rds u (List.mem_cons_of_mem _ hu)
    refine ⟨_, rfl, _, rfl, _, rfl, c, CA, dc, _, _, rfl, by rw [upd_ne ncr]; exact hA, C.a, C.a_readings, rfl, x, al, r, true, a, yr, rfl, S2.w, upd_same, Yr, O.good, O.fair, fun H3 s3 => ?_⟩
    refine ⟨(by show 2 ≤ sizeLine; decide), fun p hp => ?_⟩
    simp only [] at k
    rw [modify_set a.areas i _ hy] at k
    refine k.wrote S2 (O.set ⟨Yr, by have := Y.len; have : (z :: yr).length = yr.length + 1 := rfl; show yr.length ≤ 60; have := Y.len; simp at this; omega⟩) (fun d o q n => ?_) (same_upd s3 hp) upd_same (s3.free hp)
    have nd : d ≠ r := fun q2 => n (by rw [q2]; exact List.mem_cons_of_mem _ (List.mem_cons_of_mem _ (List.mem_append_right _ (List.mem_of_getElem? hr'))))
    rw [upd_ne nd]
    exact q
end
end Sh

set_option Elab.async false
set_option maxRecDepth 100000
set_option maxHeartbeats 2000000
namespace Sh
open PySem PySem.Spec PyProof.Rows L2
theorem ints_nl (l : List Nat) : il (Kv348Neutral.ints l) = nl l := by
  unfold il Kv348Neutral.ints nl
  rw [List.map_map]
  rfl
/-- the first i areas are shut up to day d, the others as they were -/
def upto (f : Kv348.Area → Kv348.Area) (l : List Kv348.Area) (i : Nat) : List Kv348.Area := (l.take i).map f ++ l.drop i
theorem upto_at (f : Kv348.Area → Kv348.Area) {l : List Kv348.Area} {i : Nat} {y : Kv348.Area} (h : l[i]? = some y) : (upto f l i)[i]? = some y := by
  have hi := (List.getElem?_eq_some_iff.mp h).1
  unfold upto
  rw [List.getElem?_append_right (by rw [List.length_map, List.length_take]; omega), List.length_map, List.length_take, List.getElem?_drop, show i + (i - min i l.length) = i by omega]
  exact h
theorem upto_set (f : Kv348.Area → Kv348.Area) {l : List Kv348.Area} {i : Nat} {y : Kv348.Area} (h : l[i]? = some y) : (upto f l i).set i (f y) = upto f l (i + 1) := by
  have hi := (List.getElem?_eq_some_iff.mp h).1
  unfold upto
  have e : l.drop i = y :: l.drop (i + 1) := by
    have q := List.drop_eq_getElem_cons hi
    rw [q]
    congr 1
    exact (List.getElem?_eq_some_iff.mp h).2
  have n : ((l.take i).map f).length = i := by rw [List.length_map, List.length_take]; omega
  rw [e, take_snoc h, List.map_append, List.append_assoc, List.set_append_right _ _ (by omega), n, Nat.sub_self]
  rfl
theorem upto_zero (f : Kv348.Area → Kv348.Area) (l : List Kv348.Area) : upto f l 0 = l := rfl
theorem upto_all (f : Kv348.Area → Kv348.Area) (l : List Kv348.Area) : upto f l l.length = l.map f := by
  unfold upto
  rw [List.take_length, List.drop_length, List.append_nil]
section
variable {P : Program} {w : World} {K : PySem.W.Frag} {mg : Str → Option Value} {base : Heap} {CA CW : Addr}
/-! ### answer_rainfall -/
theorem ok_answer_rainfall (T : Txt mg) (C : Cl K CA CW) (h : Has K mg "answer_rainfall" s_answer_rainfall p_answer_rainfall) : Def P w K mg base 1 "answer_rainfall" p_answer_rainfall (sp_call CA CW 4) := by
  refine h.ok sc_answer_rainfall (fun vs H Q E h => sp_call_len h) (fun f cdv A outer s H vs Q E hr h => ?_)
  obtain ⟨x, al, l, as, rs, s, args, rfl, S, O, hl, nfl, hlen, hpre, k⟩ := h
  obtain ⟨a, rfl, hi⟩ := hpre.resolve_left (by decide)
  obtain ⟨mm, rfl⟩ := len1 hlen
  have S : SAt CA CW H x al as rs true a := S
  have O : AOk a := O
  obtain ⟨dw, hw⟩ := S.w
  refine ⟨_, (pss_cons (ps_set (i := 2) sc_answer_rainfall.nd rfl (Or.inl rfl) (pe_ix ix_list (pv 1) pe_int (fun _ _ => rfl)))
      (pss_cons (ps_if (pt_cmpR op_gt (pv 2) (pe_gint rfl T.c_MOST_RAIN) (nomark _)) (pss_one (ps_ret (pe_lst (pa_cons (pe_gint rfl T.c_OUT_OF_RANGE) pa_nil)))) pss_nil)
      (pss_cons (ps_if (pt_cmpR op_le (pv 2) (pe_fld (pv 0) rfl) (nomark _)) (pss_one (ps_ret (pe_lst (pa_cons pe_int pa_nil)))) pss_nil)
      (pss_cons (ps_for PassesOwn.never rfl (pi_list (pe_fld (pv 0) rfl)) (pg_name (i := 3) sc_answer_rainfall.nd rfl (Or.inl rfl)) (pss_one (ps_fld (pv 3) (pe_callB (call_max2 rfl) rfl T.b_max PyProof.Rows.boot_max (pa_cons (pe_fld (pv 3) rfl) (pa_cons (pe_op op_add (pe_fld (pv 0) rfl) (pe_fld (pv 0) rfl)) pa_nil))) rfl)))
      (pss_one (ps_ret (pe_lst (pa_cons (pe_fld (pv 0) rfl) pa_nil)))))))), ?_⟩
  have e : Kv348Neutral.step (some a) [((4 : Nat) : Int) :: cast [mm]] = (some (a.does (.rainfall mm)).1, Kv348Neutral.row (a.does (.rainfall mm)).2) := rfl
  rw [e] at k
  simp only [Kv348.Abs.does] at k
  refine ⟨_, rfl, l, _, _, _, rfl, rfl, SqL.of hl, at_of (j := 0) rfl rfl, ?_⟩
  refine ⟨_, rfl, _, _, rfl, rfl, _, rfl, ?_⟩
  refine ite2 (fun c => ?_) (fun c => ?_)
  · have c : (1000 : Int) < (mm : Int) := of_decide_eq_true c
    rw [if_pos (show 1000 < mm by omega)] at k
    refine ⟨(by show 1 ≤ sizeLine; decide), fun p hp => ?_⟩
    exact k.look (s := some a) S O (same_new hp) upd_same hp
  · have c : ¬ (1000 : Int) < (mm : Int) := fun q => c (decide_eq_true q)
    rw [if_neg (show ¬ 1000 < mm by omega)] at k
    refine ⟨_, rfl, _, rfl, x, CW, dw, _, _, rfl, hw, C.w, C.w_rain, rfl, _, _, rfl, rfl, _, rfl, ?_⟩
    refine ite2 (fun c => ?_) (fun c => ?_)
    · have c : (mm : Int) ≤ (a.rain : Int) := of_decide_eq_true c
      rw [if_pos (show mm ≤ a.rain by omega)] at k
      refine ⟨(by show 1 ≤ sizeLine; decide), fun p hp => ?_⟩
      exact k.look (s := some a) S O (same_new hp) upd_same hp
    · have c : ¬ (mm : Int) ≤ (a.rain : Int) := fun q => c (decide_eq_true q)
      rw [if_neg (show ¬ mm ≤ a.rain by omega)] at k
      refine ⟨_, rfl, x, CW, dw, _, _, rfl, hw, C.w, C.w_areas, rfl, al, rfl, ⟨_, SqL.of S.lst⟩,
        for_list (K := K) (a := al) (xs := as.map V.ref) (fun i σ H' => (∃ v : Option V, σ = [some (.ref x), some (.ref l), some (.int mm), v]) ∧ SAt CA CW H' x al as rs true { a with areas := upto (fun y => { y with shut := max y.shut (a.day + a.days) }) a.areas i } ∧ ∀ d o, H d = some o → d ∉ x :: al :: (as ++ rs) → H' d = some o)
        ⟨⟨none, rfl⟩, S, fun d o q _ => q⟩ (fun i σ H' _ ⟨_, S', _⟩ => SqL.of S'.lst) ?_ ?_⟩
      · rintro i v σ H' hi ⟨⟨v', rfl⟩, S', fr⟩
        obtain ⟨c, r, y, rfl, hy, h1, h2, h3⟩ := S.get hi
        have hy' := upto_at (fun y => { y with shut := max y.shut (a.day + a.days) }) hy
        obtain ⟨c', r', q1, q2, ⟨⟨dc, q3⟩, q4⟩⟩ := S'.at_ i y hy'
        rw [h1] at q1; cases q1
        rw [h2] at q2; cases q2
        obtain ⟨dw', hw'⟩ := S'.w
        refine ⟨_, rfl, c, CA, dc, _, _, rfl, q3, C.a, C.a_shut_until, rfl, _, rfl, x, CW, dw', _, _, rfl, hw', C.w, C.w_day, rfl, _, rfl, x, CW, dw', _, _, rfl, hw', C.w, C.w_days, rfl, _, _, rfl, rfl, _, _, rfl, ?_⟩
        have em : (if ((a.day : Nat) : Int) + ((a.days : Nat) : Int) > ((y.shut : Nat) : Int) then ((a.day : Nat) : Int) + ((a.days : Nat) : Int) else ((y.shut : Nat) : Int)) = ((max y.shut (a.day + a.days) : Nat) : Int) := by
          split <;> omega
        refine ⟨_, rfl, c, CA, dc, _, rfl, q3, C.a, C.a_shut_until, (by show 2 < 1000; decide), ⟨_, rfl⟩, ?_, fun d o q n => ?_⟩
        · show SAt CA CW (upd H' c (.ins CA dc (putF "shut_until" (.int (if ((a.day : Nat) : Int) + ((a.days : Nat) : Int) > ((y.shut : Nat) : Int) then ((a.day : Nat) : Int) + ((a.days : Nat) : Int) else ((y.shut : Nat) : Int))) (af r y.shut)))) x al as rs true _
          rw [em]
          have S2 := S'.putShut (z := max y.shut (a.day + a.days)) (dc := dc) h1 h2 hy'
          have e2 := upto_set (fun y => { y with shut := max y.shut (a.day + a.days) }) hy
          simp only [] at S2
          rw [e2] at S2
          exact S2
        · have nd : d ≠ c := fun q2 => n (by rw [q2]; exact List.mem_cons_of_mem _ (List.mem_cons_of_mem _ (List.mem_append_left _ (List.mem_of_getElem? h1))))
          rw [upd_ne nd]
          exact fr d o q n
      · rintro σ H' ⟨⟨v, rfl⟩, S', fr⟩
        rw [List.length_map, S.la, upto_all] at S'
        obtain ⟨dw', hw'⟩ := S'.w
        refine ⟨_, rfl, x, CW, dw', _, _, rfl, hw', C.w, C.w_days, rfl, (by show 1 ≤ sizeLine; decide), fun p hp => ?_⟩
        refine k.wrote S' ⟨O.good, O.fair, by show (a.areas.map _).length ≤ 6; rw [List.length_map]; exact O.len, fun j u hu => ?_⟩ fr (same_new hp) upd_same hp
        obtain ⟨y, hy, rfl⟩ := get_map hu
        exact ⟨(O.ys j y hy).rds, (O.ys j y hy).len⟩
/-! ### answer_days -/
theorem ok_answer_days (T : Txt mg) (C : Cl K CA CW) (D_open_areas : Def P w K mg base 6 "open_areas" p_open_areas (sp_areas CA CW fun a i => a.open_ i)) (h : Has K mg "answer_days" s_answer_days p_answer_days) :
    Def P w K mg base 7 "answer_days" p_answer_days (sp_call CA CW 5) := by
  refine h.ok sc_answer_days (fun vs H Q E h => sp_call_len h) (fun f cdv A outer s H vs Q E hr h => ?_)
  obtain ⟨x, al, l, as, rs, s, args, rfl, S, O, hl, nfl, hlen, hpre, k⟩ := h
  obtain ⟨a, rfl, hi⟩ := hpre.resolve_left (by decide)
  obtain ⟨n, rfl⟩ := len1 hlen
  have S : SAt CA CW H x al as rs true a := S
  have O : AOk a := O
  obtain ⟨dw, hw⟩ := S.w
  refine ⟨_, (pss_cons (ps_set (i := 2) sc_answer_days.nd rfl (Or.inl rfl) (pe_ix ix_list (pv 1) pe_int (fun _ _ => rfl)))
      (pss_cons (ps_if (PW.pt (pw_or (pt_cmpR op_lt (pv 2) pe_int (nomark _)) (pw_or1 (pt_cmpR op_gt (pv 2) (pe_gint rfl T.c_MOST_DAYS_AT_ONCE) (nomark _))))) (pss_one (ps_ret (pe_lst (pa_cons (pe_gint rfl T.c_OUT_OF_RANGE) pa_nil)))) pss_nil)
      (pss_cons (ps_if (pt_cmpR op_gt (pe_op op_add (pe_fld (pv 0) rfl) (pv 2)) (pe_gint rfl T.c_LAST_DAY) (nomark _)) (pss_one (ps_ret (pe_lst (pa_cons (pe_gint rfl T.c_TOO_LATE) pa_nil)))) pss_nil)
      (pss_cons (ps_fld (pv 0) (pe_op op_add (pe_fld (pv 0) rfl) (pv 2)) rfl)
      (pss_one (ps_ret (pe_lst (pa_cons (pe_fld (pv 0) rfl) (pa_cons (pe_callB call_len_seq rfl T.b_len PySem.boot_len (pa_cons (pe_d D_open_areas (hr.mono (by decide)) rfl (pa_cons (pv 0) pa_nil)) pa_nil)) pa_nil))))))))), ?_⟩
  have e : Kv348Neutral.step (some a) [((5 : Nat) : Int) :: cast [n]] = (some (a.does (.days n)).1, Kv348Neutral.row (a.does (.days n)).2) := rfl
  rw [e] at k
  simp only [Kv348.Abs.does] at k
  refine ⟨_, rfl, l, _, _, _, rfl, rfl, SqL.of hl, at_of (j := 0) rfl rfl, ?_⟩
  have bad : (n = 0 ∨ 100 < n) → ∀ p, H p = none → Q (.ref p) (upd H p (.lst [V.int (-22)])) := fun c p hp => by
    rw [if_pos c] at k
    exact k.look (s := some a) S O (same_new hp) upd_same hp
  refine ⟨_, rfl, _, _, rfl, rfl, _, rfl, ?_⟩
  refine ite2 (fun c => ?_) (fun c => ?_)
  · have c : (n : Int) < 1 := of_decide_eq_true c
    exact iteT ⟨(by show 1 ≤ sizeLine; decide), bad (.inl (by omega))⟩
  have c1 : ¬ (n : Int) < 1 := fun q => c (decide_eq_true q)
  refine ⟨_, rfl, _, _, rfl, rfl, _, rfl, ?_⟩
  refine ite2 (fun c => ?_) (fun c => ?_)
  · have c : (100 : Int) < (n : Int) := of_decide_eq_true c
    exact ⟨(by show 1 ≤ sizeLine; decide), bad (.inr (by omega))⟩
  have c2 : ¬ (100 : Int) < (n : Int) := fun q => c (decide_eq_true q)
  rw [if_neg (show ¬ (n = 0 ∨ 100 < n) by omega)] at k
  refine ⟨_, rfl, x, CW, dw, _, _, rfl, hw, C.w, C.w_day, rfl, _, rfl, _, _, rfl, rfl, _, _, rfl, rfl, _, rfl, ?_⟩
  refine ite2 (fun c => ?_) (fun c => ?_)
  · have c : (10000 : Int) < (a.day : Int) + (n : Int) := of_decide_eq_true c
    rw [if_pos (show 10000 < a.day + n by omega)] at k
    refine ⟨(by show 1 ≤ sizeLine; decide), fun p hp => ?_⟩
    exact k.look (s := some a) S O (same_new hp) upd_same hp
  have c3 : ¬ (10000 : Int) < (a.day : Int) + (n : Int) := fun q => c (decide_eq_true q)
  rw [if_neg (show ¬ 10000 < a.day + n by omega)] at k
  refine ⟨_, rfl, x, CW, dw, _, _, rfl, hw, C.w, C.w_day, rfl, _, rfl, _, _, rfl, rfl, _, rfl, x, CW, dw, _, rfl, hw, C.w, C.w_day, (by show 8 < 1000; decide), ?_⟩
  have S2 := S.putW (dx := dw) (b' := true) (a' := { a with day := a.day + n }) rfl
  have O2 : AOk { a with day := a.day + n } := ⟨O.good, O.fair, O.len, O.ys⟩
  refine ⟨_, rfl, x, CW, dw, _, _, rfl, upd_same, C.w, C.w_day, rfl, _, rfl, x, al, as, rs, true, { a with day := a.day + n }, rfl, S2, O2, fun H3 q s3 hq => ?_⟩
  refine ⟨q, _, rfl, .inl (SqL.of hq), (by show 2 ≤ sizeLine; decide), fun p hp => ?_⟩
  refine k.wrote S2 O2 (fun d o q n => ?_) (same_upd s3 hp) ?_ (s3.free hp)
  · have nd : d ≠ x := fun q2 => n (by rw [q2]; exact List.mem_cons_self)
    rw [upd_ne nd]
    exact q
  · rw [upd_same, nl_len]
    rfl
/-! ### answer_class -/
theorem ok_answer_class (T : Txt mg) (C : Cl K CA CW) (D_class_of : Def P w K mg base 3 "class_of" p_class_of (sp_class_of CW)) (D_is_open : Def P w K mg base 5 "is_open" p_is_open (sp_is_open CA CW)) (h : Has K mg "answer_class" s_answer_class p_answer_class) :
    Def P w K mg base 6 "answer_class" p_answer_class (sp_call CA CW 6) := by
  refine h.ok sc_answer_class (fun vs H Q E h => sp_call_len h) (fun f cdv A outer s H vs Q E hr h => ?_)
  obtain ⟨x, al, l, as, rs, s, args, rfl, S, O, hl, nfl, hlen, hpre, k⟩ := h
  obtain ⟨a, rfl, hi⟩ := hpre.resolve_left (by decide)
  obtain ⟨i, rfl⟩ := len1 hlen
  have S : SAt CA CW H x al as rs true a := S
  have O : AOk a := O
  obtain ⟨dw, hw⟩ := S.w
  have hi : i < a.areas.length := hi i List.mem_cons_self
  obtain ⟨c, r, y, hy, ey, hc, hr', ⟨⟨dc, hA⟩, hR⟩, hv⟩ := S.i hi
  have Y := O.ys i y hy
  refine ⟨_, (pss_cons (ps_set (i := 2) sc_answer_class.nd rfl (Or.inl rfl) (pe_ix ix_list (pe_fld (pv 0) rfl) (pe_ix ix_list (pv 1) pe_int (fun _ _ => rfl)) (fun _ _ => rfl)))
      (pss_one (ps_ret (pe_lst (pa_cons (pe_d D_class_of (hr.mono (by decide)) rfl (pa_cons (pv 0) (pa_cons (pe_fld (pv 2) rfl) pa_nil))) (pa_cons (pe_ifExp (pt_val (pe_d D_is_open (hr.mono (by decide)) rfl (pa_cons (pv 0) (pa_cons (pv 2) pa_nil)))) pe_int pe_int) pa_nil)))))), ?_⟩
  have e : Kv348Neutral.step (some a) [((6 : Nat) : Int) :: cast [i]] = (some (a.does (.class_ i)).1, Kv348Neutral.row (a.does (.class_ i)).2) := rfl
  rw [e] at k
  simp only [Kv348.Abs.does] at k
  rw [if_neg (has_t hi), open_is hy] at k
  have e3 : a.class_ i = a.classOf y.reads := by unfold Kv348.Abs.class_; rw [ey]
  rw [e3] at k
  refine ⟨_, rfl, x, CW, dw, _, _, rfl, hw, C.w, C.w_areas, rfl, _, rfl, l, _, _, _, rfl, rfl, SqL.of hl, at_of (j := 0) rfl rfl, al, _, _, _, rfl, rfl, SqL.of S.lst, at_of (j := i) rfl hv, ?_⟩
  refine ⟨_, rfl, _, rfl, c, CA, dc, _, _, rfl, hA, C.a, C.a_readings, rfl, x, al, r, true, a, y.reads, rfl, S.w, hR, Y.rds, O.good, O.fair, fun H1 s1 => ?_⟩
  refine ⟨_, rfl, _, rfl, x, al, c, r, true, a, y, rfl, s1.w S.w, s1.a ⟨⟨dc, hA⟩, hR⟩, Y.rds, O.good, O.fair, fun H2 s2 => ⟨_, rfl, ?_⟩⟩
  cases co : openB a y with
  | true =>
    rw [co] at k
    refine iteT ⟨(by show 2 ≤ sizeLine; decide), fun p hp => ?_⟩
    exact k.look (s := some a) S O (same_upd (s1.trans s2) hp) upd_same ((s1.trans s2).free hp)
  | false =>
    rw [co] at k
    refine iteF ⟨(by show 2 ≤ sizeLine; decide), fun p hp => ?_⟩
    exact k.look (s := some a) S O (same_upd (s1.trans s2) hp) upd_same ((s1.trans s2).free hp)
/-! ### answer_open, answer_shut -/
theorem row_list (l : List Nat) : il (Kv348Neutral.row (Kv348.list l)) = V.int (l.length : Int) :: nl l := by
  show V.int _ :: il (Kv348Neutral.ints l) = _
  rw [ints_nl]
  rfl
theorem ok_answer_open (T : Txt mg) (C : Cl K CA CW) (D_open_areas : Def P w K mg base 6 "open_areas" p_open_areas (sp_areas CA CW fun a i => a.open_ i)) (h : Has K mg "answer_open" s_answer_open p_answer_open) :
    Def P w K mg base 7 "answer_open" p_answer_open (sp_call CA CW 7) := by
  refine h.ok sc_answer_open (fun vs H Q E h => sp_call_len h) (fun f cdv A outer s H vs Q E hr h => ?_)
  obtain ⟨x, al, l, as, rs, s, args, rfl, S, O, hl, nfl, hlen, hpre, k⟩ := h
  obtain ⟨a, rfl, hi⟩ := hpre.resolve_left (by decide)
  obtain rfl := len0 hlen
  have S : SAt CA CW H x al as rs true a := S
  have O : AOk a := O
  refine ⟨_, (pss_cons (ps_set (i := 2) sc_answer_open.nd rfl (Or.inl rfl) (pe_d D_open_areas (hr.mono (by decide)) rfl (pa_cons (pv 0) pa_nil)))
      (pss_one (ps_ret (pe_op op_cat (pe_lst (pa_cons (pe_callB call_len_seq rfl T.b_len PySem.boot_len (pa_cons (pv 2) pa_nil)) pa_nil)) (pv 2))))), ?_⟩
  have e : Kv348Neutral.step (some a) [((7 : Nat) : Int) :: cast []] = (some a, Kv348Neutral.row (Kv348.list (a.ids.filter fun i => a.open_ i))) := rfl
  rw [e] at k
  refine ⟨_, rfl, x, al, as, rs, true, a, rfl, S, O, fun H1 q s1 hq => ?_⟩
  refine ⟨_, rfl, q, _, rfl, .inl (SqL.of hq), (by show 1 ≤ sizeLine; decide), fun p hp => ?_⟩
  have hq2 : (upd H1 p (.lst [V.int ((nl (a.ids.filter fun i => a.open_ i)).length : Int)])) q = some (.lst (nl (a.ids.filter fun i => a.open_ i))) := by rw [upd_ne (ne_of_none hq hp)]; exact hq
  refine ⟨_, rfl, p, q, _, _, rfl, rfl, upd_same, hq2, ?_, fun p2 hp2 => ?_⟩
  · rw [nl_len]
    have q1 := range_filter_len (fun i => a.open_ i) a.areas.length
    have q2 := O.len
    have q3 : (7 : Nat) ≤ sizeLine := by decide
    show 1 + (a.ids.filter fun i => a.open_ i).length ≤ sizeLine
    have q4 : (a.ids.filter fun i => a.open_ i).length ≤ a.areas.length := q1
    omega
  · refine k.look (s := some a) S O (same_upd (same_upd s1 hp) hp2) ?_ ((same_upd s1 hp).free hp2)
    rw [upd_same, row_list, nl_len]
    rfl
theorem ok_answer_shut (T : Txt mg) (C : Cl K CA CW) (D_shut_areas : Def P w K mg base 6 "shut_areas" p_shut_areas (sp_areas CA CW fun a i => decide (a.day < (a.area i).shut))) (h : Has K mg "answer_shut" s_answer_shut p_answer_shut) :
    Def P w K mg base 7 "answer_shut" p_answer_shut (sp_call CA CW 8) := by
  refine h.ok sc_answer_shut (fun vs H Q E h => sp_call_len h) (fun f cdv A outer s H vs Q E hr h => ?_)
  obtain ⟨x, al, l, as, rs, s, args, rfl, S, O, hl, nfl, hlen, hpre, k⟩ := h
  obtain ⟨a, rfl, hi⟩ := hpre.resolve_left (by decide)
  obtain rfl := len0 hlen
  have S : SAt CA CW H x al as rs true a := S
  have O : AOk a := O
  refine ⟨_, (pss_cons (ps_set (i := 2) sc_answer_shut.nd rfl (Or.inl rfl) (pe_d D_shut_areas (hr.mono (by decide)) rfl (pa_cons (pv 0) pa_nil)))
      (pss_one (ps_ret (pe_op op_cat (pe_lst (pa_cons (pe_callB call_len_seq rfl T.b_len PySem.boot_len (pa_cons (pv 2) pa_nil)) pa_nil)) (pv 2))))), ?_⟩
  have e : Kv348Neutral.step (some a) [((8 : Nat) : Int) :: cast []] = (some a, Kv348Neutral.row (Kv348.list (a.ids.filter fun i => decide (a.day < (a.area i).shut)))) := rfl
  rw [e] at k
  refine ⟨_, rfl, x, al, as, rs, true, a, rfl, S, O, fun H1 q s1 hq => ?_⟩
  refine ⟨_, rfl, q, _, rfl, .inl (SqL.of hq), (by show 1 ≤ sizeLine; decide), fun p hp => ?_⟩
  have hq2 : (upd H1 p (.lst [V.int ((nl (a.ids.filter fun i => decide (a.day < (a.area i).shut))).length : Int)])) q = some (.lst (nl (a.ids.filter fun i => decide (a.day < (a.area i).shut)))) := by rw [upd_ne (ne_of_none hq hp)]; exact hq
  refine ⟨_, rfl, p, q, _, _, rfl, rfl, upd_same, hq2, ?_, fun p2 hp2 => ?_⟩
  · rw [nl_len]
    have q1 := range_filter_len (fun i => decide (a.day < (a.area i).shut)) a.areas.length
    have q2 := O.len
    have q3 : (7 : Nat) ≤ sizeLine := by decide
    show 1 + (a.ids.filter fun i => decide (a.day < (a.area i).shut)).length ≤ sizeLine
    have q4 : (a.ids.filter fun i => decide (a.day < (a.area i).shut)).length ≤ a.areas.length := q1
    omega
  · refine k.look (s := some a) S O (same_upd (same_upd s1 hp) hp2) ?_ ((same_upd s1 hp).free hp2)
    rw [upd_same, row_list, nl_len]
    rfl
end
end Sh

set_option Elab.async false
set_option maxRecDepth 100000
set_option maxHeartbeats 2000000
namespace Sh
open PySem PySem.Spec PyProof.Rows L2
theorem rl_sum : ∀ l : List Nat, (cast l.reverse).sum = ((l.sum : Nat) : Int)
  | [] => rfl
  | z :: l => by
    have e : cast (z :: l).reverse = cast l.reverse ++ [(z : Int)] := by
      unfold cast
      rw [List.reverse_cons, List.map_append]
      rfl
    rw [e, List.sum_append, rl_sum l]
    show ((l.sum : Nat) : Int) + ((z : Int) + 0) = ((z + l.sum : Nat) : Int)
    omega
theorem rl_cast (l : List Nat) : rl l = (cast l.reverse).map V.int := by
  unfold rl cast
  rw [List.map_map]
  rfl
theorem may_is {a : Kv348.Abs} {i : Nat} {y : Kv348.Area} (ey : a.area i = y) : mayB a y = true ↔ ¬ (a.class_ i ≠ 1 ∧ a.class_ i ≠ 2) := by
  unfold mayB Kv348.Abs.class_
  rw [ey, Bool.or_eq_true, beq_iff_eq, beq_iff_eq]
  omega
section
variable {P : Program} {w : World} {K : PySem.W.Frag} {mg : Str → Option Value} {base : Heap} {CA CW : Addr}
/-! ### answer_opens -/
theorem ok_answer_opens (T : Txt mg) (C : Cl K CA CW) (D_may_open : Def P w K mg base 4 "may_open" p_may_open (sp_may_open CA CW)) (h : Has K mg "answer_opens" s_answer_opens p_answer_opens) :
    Def P w K mg base 5 "answer_opens" p_answer_opens (sp_call CA CW 9) := by
  refine h.ok sc_answer_opens (fun vs H Q E h => sp_call_len h) (fun f cdv A outer s H vs Q E hr h => ?_)
  obtain ⟨x, al, l, as, rs, s, args, rfl, S, O, hl, nfl, hlen, hpre, k⟩ := h
  obtain ⟨a, rfl, hi⟩ := hpre.resolve_left (by decide)
  obtain ⟨i, rfl⟩ := len1 hlen
  have S : SAt CA CW H x al as rs true a := S
  have O : AOk a := O
  obtain ⟨dw, hw⟩ := S.w
  have hi : i < a.areas.length := hi i List.mem_cons_self
  obtain ⟨c, r, y, hy, ey, hc, hr', ⟨⟨dc, hA⟩, hR⟩, hv⟩ := S.i hi
  have Y := O.ys i y hy
  refine ⟨_, (pss_cons (ps_set (i := 2) sc_answer_opens.nd rfl (Or.inl rfl) (pe_ix ix_list (pe_fld (pv 0) rfl) (pe_ix ix_list (pv 1) pe_int (fun _ _ => rfl)) (fun _ _ => rfl)))
      (pss_cons (ps_if (pt_not (pt_val (pe_d D_may_open (hr.mono (by decide)) rfl (pa_cons (pv 0) (pa_cons (pv 2) pa_nil))))) (pss_one (ps_ret (pe_lst (pa_cons (pe_gint rfl T.c_NEVER) pa_nil)))) pss_nil)
      (pss_one (ps_ret (pe_lst (pa_cons (pe_callB (call_max2 rfl) rfl T.b_max PyProof.Rows.boot_max (pa_cons pe_int (pa_cons (pe_op op_sub (pe_fld (pv 2) rfl) (pe_fld (pv 0) rfl)) pa_nil))) pa_nil)))))), ?_⟩
  have e : Kv348Neutral.step (some a) [((9 : Nat) : Int) :: cast [i]] = (some (a.does (.opens i)).1, Kv348Neutral.row (a.does (.opens i)).2) := rfl
  rw [e] at k
  simp only [Kv348.Abs.does] at k
  rw [if_neg (has_t hi)] at k
  refine ⟨_, rfl, x, CW, dw, _, _, rfl, hw, C.w, C.w_areas, rfl, _, rfl, l, _, _, _, rfl, rfl, SqL.of hl, at_of (j := 0) rfl rfl, al, _, _, _, rfl, rfl, SqL.of S.lst, at_of (j := i) rfl hv, ?_⟩
  refine ⟨_, rfl, _, rfl, x, al, c, r, true, a, y, rfl, S.w, ⟨⟨dc, hA⟩, hR⟩, Y.rds, O.good, O.fair, fun H1 s1 => ⟨_, rfl, ?_⟩⟩
  cases co : mayB a y with
  | false =>
    have q : a.class_ i ≠ 1 ∧ a.class_ i ≠ 2 := Decidable.byContradiction fun q => by
      rw [(may_is ey).mpr q] at co
      cases co
    rw [if_pos q] at k
    refine iteT ⟨(by show 1 ≤ sizeLine; decide), fun p hp => ?_⟩
    exact k.look (s := some a) S O (same_upd s1 hp) upd_same (s1.free hp)
  | true =>
    rw [if_neg ((may_is ey).mp co), ey] at k
    refine iteF ?_
    refine ⟨_, rfl, c, CA, dc, _, _, rfl, s1 _ _ hA, C.a, C.a_shut_until, rfl, _, rfl, x, CW, dw, _, _, rfl, s1 _ _ hw, C.w, C.w_day, rfl, _, _, rfl, rfl, _, _, rfl, (by show 1 ≤ sizeLine; decide), fun p hp => ?_⟩
    refine k.look (s := some a) S O (same_upd s1 hp) ?_ (s1.free hp)
    rw [upd_same]
    have em : (if ((y.shut : Nat) : Int) - ((a.day : Nat) : Int) > 0 then ((y.shut : Nat) : Int) - ((a.day : Nat) : Int) else 0) = ((y.shut - a.day : Nat) : Int) := by
      split <;> omega
    show some (HO.lst [V.int (if ((y.shut : Nat) : Int) - ((a.day : Nat) : Int) > 0 then ((y.shut : Nat) : Int) - ((a.day : Nat) : Int) else 0)]) = _
    rw [em]
    rfl
/-! ### answer_mean -/
theorem full_is {a : Kv348.Abs} {i : Nat} {y : Kv348.Area} (ey : a.area i = y) : a.full i = decide (5 ≤ y.reads.length) := by
  unfold Kv348.Abs.full
  rw [ey]
theorem ok_answer_mean (T : Txt mg) (C : Cl K CA CW) (D_has_mean : Def P w K mg base 1 "has_mean" p_has_mean sp_has_mean) (D_product_of : Def P w K mg base 1 "product_of" p_product_of sp_product_of) (D_mean_of : Def P w K mg base 3 "mean_of" p_mean_of sp_mean_of)
    (h : Has K mg "answer_mean" s_answer_mean p_answer_mean) : Def P w K mg base 4 "answer_mean" p_answer_mean (sp_call CA CW 10) := by
  refine h.ok sc_answer_mean (fun vs H Q E h => sp_call_len h) (fun f cdv A outer s H vs Q E hr h => ?_)
  obtain ⟨x, al, l, as, rs, s, args, rfl, S, O, hl, nfl, hlen, hpre, k⟩ := h
  obtain ⟨a, rfl, hi⟩ := hpre.resolve_left (by decide)
  obtain ⟨i, rfl⟩ := len1 hlen
  have S : SAt CA CW H x al as rs true a := S
  have O : AOk a := O
  obtain ⟨dw, hw⟩ := S.w
  have hi : i < a.areas.length := hi i List.mem_cons_self
  obtain ⟨c, r, y, hy, ey, hc, hr', ⟨⟨dc, hA⟩, hR⟩, hv⟩ := S.i hi
  have Y := O.ys i y hy
  refine ⟨_, (pss_cons (ps_set (i := 2) sc_answer_mean.nd rfl (Or.inl rfl) (pe_fld (pe_ix ix_list (pe_fld (pv 0) rfl) (pe_ix ix_list (pv 1) pe_int (fun _ _ => rfl)) (fun _ _ => rfl)) rfl))
      (pss_cons (ps_if (pt_not (pt_val (pe_d D_has_mean (hr.mono (by decide)) rfl (pa_cons (pv 2) pa_nil)))) (pss_one (ps_ret (pe_lst (pa_cons (pe_gint rfl T.c_TOO_FEW) pa_nil)))) pss_nil)
      (pss_one (ps_ret (pe_lst (pa_cons (pe_d D_mean_of (hr.mono (by decide)) rfl (pa_cons (pv 2) pa_nil)) (pa_cons (pe_d D_product_of (hr.mono (by decide)) rfl (pa_cons (pv 2) pa_nil)) pa_nil))))))), ?_⟩
  have e : Kv348Neutral.step (some a) [((10 : Nat) : Int) :: cast [i]] = (some (a.does (.mean i)).1, Kv348Neutral.row (a.does (.mean i)).2) := rfl
  rw [e] at k
  simp only [Kv348.Abs.does] at k
  rw [if_neg (has_t hi), full_is ey, ey] at k
  refine ⟨_, rfl, x, CW, dw, _, _, rfl, hw, C.w, C.w_areas, rfl, _, rfl, l, _, _, _, rfl, rfl, SqL.of hl, at_of (j := 0) rfl rfl, al, _, _, _, rfl, rfl, SqL.of S.lst, at_of (j := i) rfl hv, c, CA, dc, _, _, rfl, hA, C.a, C.a_readings, rfl, ?_⟩
  refine ⟨_, rfl, r, y.reads, rfl, hR, _, rfl, ?_⟩
  cases co : decide (5 ≤ y.reads.length) with
  | false =>
    rw [if_pos co] at k
    refine iteT ⟨(by show 1 ≤ sizeLine; decide), fun p hp => ?_⟩
    exact k.look (s := some a) S O (same_new hp) upd_same hp
  | true =>
    rw [if_neg (by rw [co]; exact Bool.noConfusion)] at k
    refine iteF ?_
    refine ⟨_, rfl, r, y.reads, rfl, hR, Y.rds, fun H1 s1 => ?_⟩
    refine ⟨_, rfl, r, y.reads, rfl, s1 _ _ hR, Y.rds, fun H2 s2 => ⟨(by show 2 ≤ sizeLine; decide), fun p hp => ?_⟩⟩
    exact k.look (s := some a) S O (same_upd (s1.trans s2) hp) upd_same ((s1.trans s2).free hp)
/-! ### answer_evenly -/
theorem ok_answer_evenly (T : Txt mg) (C : Cl K CA CW) (D_has_mean : Def P w K mg base 1 "has_mean" p_has_mean sp_has_mean) (h : Has K mg "answer_evenly" s_answer_evenly p_answer_evenly) : Def P w K mg base 2 "answer_evenly" p_answer_evenly (sp_call CA CW 11) := by
  refine h.ok sc_answer_evenly (fun vs H Q E h => sp_call_len h) (fun f cdv A outer s H vs Q E hr h => ?_)
  obtain ⟨x, al, l, as, rs, s, args, rfl, S, O, hl, nfl, hlen, hpre, k⟩ := h
  obtain ⟨a, rfl, hi⟩ := hpre.resolve_left (by decide)
  obtain ⟨i, rfl⟩ := len1 hlen
  have S : SAt CA CW H x al as rs true a := S
  have O : AOk a := O
  obtain ⟨dw, hw⟩ := S.w
  have hi : i < a.areas.length := hi i List.mem_cons_self
  obtain ⟨c, r, y, hy, ey, hc, hr', ⟨⟨dc, hA⟩, hR⟩, hv⟩ := S.i hi
  have Y := O.ys i y hy
  refine ⟨_, (pss_cons (ps_set (i := 2) sc_answer_evenly.nd rfl (Or.inl rfl) (pe_fld (pe_ix ix_list (pe_fld (pv 0) rfl) (pe_ix ix_list (pv 1) pe_int (fun _ _ => rfl)) (fun _ _ => rfl)) rfl))
      (pss_cons (ps_if (pt_not (pt_val (pe_d D_has_mean (hr.mono (by decide)) rfl (pa_cons (pv 2) pa_nil)))) (pss_one (ps_ret (pe_lst (pa_cons (pe_gint rfl T.c_TOO_FEW) pa_nil)))) pss_nil)
      (pss_cons (ps_set (i := 3) sc_answer_evenly.nd rfl (Or.inl rfl) (pe_callB (cr_sum rfl) rfl T.b_sum PyProof.Rows.boot_sum (pa_cons (pe_slice sl_list (pv 2) (po_some (pe_un un_neg (pe_gint rfl T.c_MEAN_OF))) po_none) pa_nil)))
      (pss_one (ps_ret (pe_lst (pa_cons (pe_op op_fdiv (pv 3) (pe_gint rfl T.c_MEAN_OF)) (pa_cons (pv 3) pa_nil)))))))), ?_⟩
  have e : Kv348Neutral.step (some a) [((11 : Nat) : Int) :: cast [i]] = (some (a.does (.evenly i)).1, Kv348Neutral.row (a.does (.evenly i)).2) := rfl
  rw [e] at k
  simp only [Kv348.Abs.does] at k
  rw [if_neg (has_t hi), full_is ey, ey] at k
  refine ⟨_, rfl, x, CW, dw, _, _, rfl, hw, C.w, C.w_areas, rfl, _, rfl, l, _, _, _, rfl, rfl, SqL.of hl, at_of (j := 0) rfl rfl, al, _, _, _, rfl, rfl, SqL.of S.lst, at_of (j := i) rfl hv, c, CA, dc, _, _, rfl, hA, C.a, C.a_readings, rfl, ?_⟩
  refine ⟨_, rfl, r, y.reads, rfl, hR, _, rfl, ?_⟩
  cases co : decide (5 ≤ y.reads.length) with
  | false =>
    rw [if_pos co] at k
    refine iteT ⟨(by show 1 ≤ sizeLine; decide), fun p hp => ?_⟩
    exact k.look (s := some a) S O (same_new hp) upd_same hp
  | true =>
    rw [if_neg (by rw [co]; exact Bool.noConfusion)] at k
    refine iteF ?_
    refine ⟨_, rfl, _, rfl, _, rfl, r, _, rfl, SqL.of hR, fun q hq => ?_⟩
    have e0 : cutV (rl y.reads) (some (-(5 : Int))) none = (cast (Kv348.five y.reads).reverse).map V.int := (cut_last y.reads 5 (by omega)).trans (rl_cast _)
    rw [e0]
    refine ⟨q, cast (Kv348.five y.reads).reverse, rfl, SqL.of upd_same, ?_⟩
    rw [rl_sum]
    refine ⟨_, rfl, _, _, rfl, rfl, ⟨by decide, by decide⟩, _, rfl, (by show 2 ≤ sizeLine; decide), fun p hp => ?_⟩
    refine k.look (s := some a) S O (same_upd (same_new hq) hp) ?_ ((same_new hq).free hp)
    rw [upd_same]
    have em : (((Kv348.five y.reads).sum : Nat) : Int) / 5 = (((Kv348.five y.reads).sum / 5 : Nat) : Int) := by omega
    show some (HO.lst [V.int ((((Kv348.five y.reads).sum : Nat) : Int) / 5), _]) = _
    rw [em]
    rfl
/-! ### answer_begin -/
theorem okI_is (z : Nat) : okI (z : Int) = Kv348.okX z := okX_is z
theorem bounds_is (g f p : Nat) : (okI (g : Int) && ((decide ((g : Int) ≤ (f : Int)) && decide ((f : Int) ≤ 1000)) && okI (p : Int))) = true ↔ ¬ (Kv348.okX g = false ∨ f < g ∨ 1000 < f ∨ Kv348.okX p = false) := by
  rw [okI_is, okI_is]
  cases Kv348.okX g <;> cases Kv348.okX p <;> simp <;> omega
def stepF (z : Kv348.Abs × Kv348.Ans) : Kv348.State × List Int := ((if z.2.ret < 0 then ((none : Kv348.State), z.2) else (some z.1, z.2)).1, Kv348Neutral.row (if z.2.ret < 0 then ((none : Kv348.State), z.2) else (some z.1, z.2)).2)
theorem begin_step (s : Kv348.State) (g f p r d : Nat) : Kv348Neutral.step s [((0 : Nat) : Int) :: cast [g, f, p, r, d]] = if Kv348.okX g = false ∨ f < g ∨ 1000 < f ∨ Kv348.okX p = false ∨ 1000 < r ∨ 60 < d then (s, [-22]) else (some (Kv348.begun g f p r d), [0]) := by
  cases s with
  | none =>
    have e : Kv348Neutral.step none [((0 : Nat) : Int) :: cast [g, f, p, r, d]] = stepF ((Kv348.begun 1 1 1 0 0).does (.begin_ g f p r d)) := rfl
    have e2 : (Kv348.begun 1 1 1 0 0).does (.begin_ g f p r d) = if Kv348.okX g = false ∨ f < g ∨ 1000 < f ∨ Kv348.okX p = false ∨ 1000 < r ∨ 60 < d then (Kv348.begun 1 1 1 0 0, Kv348.say (-22)) else (Kv348.begun g f p r d, Kv348.say 0) := rfl
    rw [e, e2]
    by_cases h : Kv348.okX g = false ∨ f < g ∨ 1000 < f ∨ Kv348.okX p = false ∨ 1000 < r ∨ 60 < d
    · rw [if_pos h, if_pos h]; rfl
    · rw [if_neg h, if_neg h]; rfl
  | some a =>
    show (some (a.does (.begin_ g f p r d)).1, Kv348Neutral.row (a.does (.begin_ g f p r d)).2) = _
    simp only [Kv348.Abs.does]
    by_cases h : Kv348.okX g = false ∨ f < g ∨ 1000 < f ∨ Kv348.okX p = false ∨ 1000 < r ∨ 60 < d
    · rw [if_pos h, if_pos h]; rfl
    · rw [if_neg h, if_neg h]; rfl
theorem ok_answer_begin (T : Txt mg) (C : Cl K CA CW) (D_are_bounds : Def P w K mg base 2 "are_bounds" p_are_bounds sp_are_bounds) (h : Has K mg "answer_begin" s_answer_begin p_answer_begin) : Def P w K mg base 3 "answer_begin" p_answer_begin (sp_call CA CW 0) := by
  refine h.ok sc_answer_begin (fun vs H Q E h => sp_call_len h) (fun f cdv A outer s H vs Q E hr h => ?_)
  obtain ⟨x, al, l, as, rs, s, args, rfl, S, O, hl, nfl, hlen, _, k⟩ := h
  obtain ⟨g, f', p, rn, d, rfl⟩ := len5 hlen
  obtain ⟨dw, hw⟩ := S.w
  have nlx : l ≠ x := fun q => nfl (by rw [q]; exact List.mem_cons_self)
  rw [begin_step] at k
  refine ⟨_, (pss_cons (ps_if (pt_not (pt_val (pe_d D_are_bounds (hr.mono (by decide)) rfl (pa_cons (pe_ix ix_list (pv 1) pe_int (fun _ _ => rfl)) (pa_cons (pe_ix ix_list (pv 1) pe_int (fun _ _ => rfl)) (pa_cons (pe_ix ix_list (pv 1) pe_int (fun _ _ => rfl)) pa_nil)))))) (pss_one (ps_ret (pe_lst (pa_cons (pe_gint rfl T.c_OUT_OF_RANGE) pa_nil)))) pss_nil)
      (pss_cons (ps_if (PW.pt (pw_or (pt_cmpR op_gt (pe_ix ix_list (pv 1) pe_int (fun _ _ => rfl)) (pe_gint rfl T.c_MOST_RAIN) (nomark _)) (pw_or1 (pt_cmpR op_gt (pe_ix ix_list (pv 1) pe_int (fun _ _ => rfl)) (pe_gint rfl T.c_MOST_DAYS_SHUT) (nomark _))))) (pss_one (ps_ret (pe_lst (pa_cons (pe_gint rfl T.c_OUT_OF_RANGE) pa_nil)))) pss_nil)
      (pss_cons (ps_fld (pv 0) pe_bl rfl)
      (pss_cons (ps_fld (pv 0) (pe_ix ix_list (pv 1) pe_int (fun _ _ => rfl)) rfl)
      (pss_cons (ps_fld (pv 0) (pe_ix ix_list (pv 1) pe_int (fun _ _ => rfl)) rfl)
      (pss_cons (ps_fld (pv 0) (pe_ix ix_list (pv 1) pe_int (fun _ _ => rfl)) rfl)
      (pss_cons (ps_fld (pv 0) (pe_ix ix_list (pv 1) pe_int (fun _ _ => rfl)) rfl)
      (pss_cons (ps_fld (pv 0) (pe_ix ix_list (pv 1) pe_int (fun _ _ => rfl)) rfl)
      (pss_cons (ps_fld (pv 0) pe_int rfl)
      (pss_cons (ps_fld (pv 0) (pe_lst pa_nil) rfl)
      (pss_one (ps_ret (pe_lst (pa_cons pe_int pa_nil)))))))))))))), ?_⟩
  have bad : (Kv348.okX g = false ∨ f' < g ∨ 1000 < f' ∨ Kv348.okX p = false ∨ 1000 < rn ∨ 60 < d) → ∀ q, H q = none → Q (.ref q) (upd H q (.lst [V.int (-22)])) := fun c q hq => by
    rw [if_pos c] at k
    exact k.look S O (same_new hq) upd_same hq
  refine ⟨_, rfl, l, _, _, _, rfl, rfl, SqL.of hl, at_of (j := 0) rfl rfl, _, rfl, l, _, _, _, rfl, rfl, SqL.of hl, at_of (j := 1) rfl rfl, _, rfl, l, _, _, _, rfl, rfl, SqL.of hl, at_of (j := 2) rfl rfl, (g : Int), (f' : Int), (p : Int), rfl, _, rfl, ?_⟩
  have B := bounds_is g f' p
  cases cb : (okI (g : Int) && ((decide ((g : Int) ≤ (f' : Int)) && decide ((f' : Int) ≤ 1000)) && okI (p : Int))) with
  | false =>
    refine iteT ⟨(by show 1 ≤ sizeLine; decide), bad ?_⟩
    have q : Kv348.okX g = false ∨ f' < g ∨ 1000 < f' ∨ Kv348.okX p = false := Decidable.byContradiction fun q => by
      rw [B.mpr q] at cb
      cases cb
    rcases q with q | q | q | q
    · exact .inl q
    · exact .inr (.inl q)
    · exact .inr (.inr (.inl q))
    · exact .inr (.inr (.inr (.inl q)))
  | true =>
    have B := B.mp cb
    refine iteF ?_
    refine ⟨_, rfl, l, _, _, _, rfl, rfl, SqL.of hl, at_of (j := 3) rfl rfl, _, _, rfl, rfl, _, rfl, ?_⟩
    refine ite2 (fun c => ?_) (fun c => ?_)
    · have c : (1000 : Int) < (rn : Int) := of_decide_eq_true c
      exact iteT ⟨(by show 1 ≤ sizeLine; decide), bad (.inr (.inr (.inr (.inr (.inl (by omega))))))⟩
    have c1 : ¬ (1000 : Int) < (rn : Int) := fun q => c (decide_eq_true q)
    refine ⟨_, rfl, l, _, _, _, rfl, rfl, SqL.of hl, at_of (j := 4) rfl rfl, _, _, rfl, rfl, _, rfl, ?_⟩
    refine ite2 (fun c => ?_) (fun c => ?_)
    · have c : (60 : Int) < (d : Int) := of_decide_eq_true c
      exact ⟨(by show 1 ≤ sizeLine; decide), bad (.inr (.inr (.inr (.inr (.inr (by omega))))))⟩
    have c2 : ¬ (60 : Int) < (d : Int) := fun q => c (decide_eq_true q)
    have hgood : g ≤ 1000 := by
      have q : ¬ Kv348.okX g = false := fun q => B (.inl q)
      unfold Kv348.okX at q
      have q := Bool.and_eq_true_iff.mp (eq_true_of_ne_false q)
      exact of_decide_eq_true q.2
    have hfair : f' ≤ 1000 := by
      have q : ¬ 1000 < f' := fun q => B (.inr (.inr (.inl q)))
      omega
    rw [if_neg (show ¬ (Kv348.okX g = false ∨ f' < g ∨ 1000 < f' ∨ Kv348.okX p = false ∨ 1000 < rn ∨ 60 < d) from fun q => by
      rcases q with q | q | q | q | q | q
      · exact B (.inl q)
      · exact B (.inr (.inl q))
      · exact B (.inr (.inr (.inl q)))
      · exact B (.inr (.inr (.inr q)))
      · omega
      · omega)] at k
    have hl' : ∀ o, (upd H x o) l = some (.lst (nl [g, f', p, rn, d])) := fun o => by rw [upd_ne nlx]; exact hl
    refine ⟨_, rfl, x, CW, dw, _, rfl, hw, C.w, C.w_begun, (by show 8 < 1000; decide), ?_⟩
    refine ⟨_, rfl, l, _, _, _, rfl, rfl, SqL.of (hl' _), at_of (j := 0) rfl rfl, _, rfl, x, CW, dw, _, rfl, upd_same, C.w, C.w_good, (by show 8 < 1000; decide), ?_⟩
    rw [upd_upd]
    refine ⟨_, rfl, l, _, _, _, rfl, rfl, SqL.of (hl' _), at_of (j := 1) rfl rfl, _, rfl, x, CW, dw, _, rfl, upd_same, C.w, C.w_fair, (by show 8 < 1000; decide), ?_⟩
    rw [upd_upd]
    refine ⟨_, rfl, l, _, _, _, rfl, rfl, SqL.of (hl' _), at_of (j := 2) rfl rfl, _, rfl, x, CW, dw, _, rfl, upd_same, C.w, C.w_peak, (by show 8 < 1000; decide), ?_⟩
    rw [upd_upd]
    refine ⟨_, rfl, l, _, _, _, rfl, rfl, SqL.of (hl' _), at_of (j := 3) rfl rfl, _, rfl, x, CW, dw, _, rfl, upd_same, C.w, C.w_rain, (by show 8 < 1000; decide), ?_⟩
    rw [upd_upd]
    refine ⟨_, rfl, l, _, _, _, rfl, rfl, SqL.of (hl' _), at_of (j := 4) rfl rfl, _, rfl, x, CW, dw, _, rfl, upd_same, C.w, C.w_days, (by show 8 < 1000; decide), ?_⟩
    rw [upd_upd]
    refine ⟨_, rfl, x, CW, dw, _, rfl, upd_same, C.w, C.w_day, (by show 8 < 1000; decide), ?_⟩
    rw [upd_upd]
    refine ⟨Nat.zero_le _, fun al2 ha => ?_⟩
    have n1 : x ≠ al2 := ne_of_none upd_same ha
    rw [upd_ne n1.symm] at ha
    refine ⟨_, rfl, x, CW, dw, _, rfl, by rw [upd_ne n1]; exact upd_same, C.w, C.w_areas, (by show 8 < 1000; decide), ?_⟩
    refine ⟨(by show 1 ≤ sizeLine; decide), fun q hq => ?_⟩
    have nqx : q ≠ x := fun e => by rw [e, upd_same] at hq; cases hq
    rw [upd_ne nqx] at hq
    have nqa : q ≠ al2 := fun e => by rw [e, upd_same] at hq; cases hq
    rw [upd_ne nqa, upd_ne nqx] at hq
    refine k _ al2 [] [] q ⟨⟨dw, ?_⟩, ?_, rfl, rfl, fun i y h => (by cases h), ?_⟩ ⟨hgood, hfair, Nat.zero_le _, fun i y h => (by cases h)⟩ (fun c o e hc => ?_) (fun c hc => .inr (by rw [List.mem_singleton.mp hc]; exact ha)) upd_same hq
    · rw [upd_ne nqx.symm, upd_same]
      rfl
    · rw [upd_ne nqa.symm, upd_ne n1.symm]
      exact upd_same
    · exact List.nodup_cons.mpr ⟨by simp [n1], List.nodup_cons.mpr ⟨by simp, by simp⟩⟩
    · have ncx : c ≠ x := fun e2 => hc (by rw [e2]; exact List.mem_cons_self)
      rw [upd_ne (ne_of_none e hq), upd_ne ncx, upd_ne (ne_of_none e ha), upd_ne ncx]
      exact e
end
end Sh

set_option Elab.async false
set_option maxRecDepth 100000
set_option maxHeartbeats 2000000
namespace Sh
open PySem PySem.Spec PyProof.Rows L2
theorem okC_is (z : Nat) : (decide ((1 : Int) ≤ (z : Int)) && decide ((z : Int) ≤ 2)) = Kv348.okC z := by
  unfold Kv348.okC
  rw [show decide ((1 : Int) ≤ (z : Int)) = decide (1 ≤ z) from dec_le 1 z, show decide ((z : Int) ≤ 2) = decide (z ≤ 2) from dec_le z 2]
/-- what follows, read once for all states that the first statement ends in -/
theorem seq_any {t u : TS} {D : Ends} {σ : L2.St} {H : Hp} (R : L2.St → Hp → Prop) (r : ∀ σ' H', R σ' H' → u D σ' H') (h : (∀ σ' H', R σ' H' → u D σ' H') → t { D with nx := u D } σ H) : tSeq t u D σ H := h r
theorem okX_le {z : Nat} (h : Kv348.okX z = true) : 1 ≤ z ∧ z ≤ 1000 := by
  unfold Kv348.okX at h
  have c := Bool.and_eq_true_iff.mp h
  exact ⟨of_decide_eq_true c.1, of_decide_eq_true c.2⟩
theorem okc_is (a : Kv348.Abs) (c : Nat) (l : List Nat) : (decide (1 ≤ a.classOf l) && decide (a.classOf l ≤ c)) = okc a c l := by
  unfold okc
  have e : decide (1 ≤ a.classOf l) = (a.classOf l != 0) := by
    generalize a.classOf l = n
    cases n with
    | zero => rfl
    | succ n => rw [decide_eq_true (by omega)]; rfl
  rw [e]
theorem rl_more (z : Nat) (l : List Nat) : ∀ n, rl (Kv348.more n z l) = rl l ++ (List.replicate n [V.int (z : Int)]).flatten
  | 0 => by
    show rl l = rl l ++ []
    rw [List.append_nil]
  | n + 1 => by
    rw [more_succ, rl_cons, rl_more z l n, List.replicate_succ', List.flatten_append, List.append_assoc]
    rfl
section
variable {P : Program} {w : World} {K : PySem.W.Frag} {mg : Str → Option Value} {base : Heap} {CA CW : Addr}
/-! ### answer_state -/
theorem ok_answer_state (T : Txt mg) (C : Cl K CA CW) (h : Has K mg "answer_state" s_answer_state p_answer_state) : Def P w K mg base 1 "answer_state" p_answer_state (sp_call CA CW 22) := by
  refine h.ok sc_answer_state (fun vs H Q E h => sp_call_len h) (fun f cdv A outer s H vs Q E hr h => ?_)
  obtain ⟨x, al, l, as, rs, s, args, rfl, S, O, hl, nfl, hlen, hpre, k⟩ := h
  obtain ⟨a, rfl, hi⟩ := hpre.resolve_left (by decide)
  obtain rfl := len0 hlen
  have S : SAt CA CW H x al as rs true a := S
  have O : AOk a := O
  obtain ⟨dw, hw⟩ := S.w
  refine ⟨_, (pss_one (ps_ret (pe_lst (pa_cons pe_int (pa_cons (pe_fld (pv 0) rfl) (pa_cons (pe_fld (pv 0) rfl) (pa_cons (pe_fld (pv 0) rfl) (pa_cons (pe_fld (pv 0) rfl) (pa_cons (pe_fld (pv 0) rfl) (pa_cons (pe_fld (pv 0) rfl) (pa_cons (pe_callB call_len_seq rfl T.b_len PySem.boot_len (pa_cons (pe_fld (pv 0) rfl) pa_nil)) pa_nil))))))))))), ?_⟩
  have e : Kv348Neutral.step (some a) [((22 : Nat) : Int) :: cast []] = (some (a.does .state).1, Kv348Neutral.row (a.does .state).2) := rfl
  rw [e] at k
  simp only [Kv348.Abs.does] at k
  refine ⟨_, rfl, x, CW, dw, _, _, rfl, hw, C.w, C.w_day, rfl, _, rfl, x, CW, dw, _, _, rfl, hw, C.w, C.w_good, rfl, _, rfl, x, CW, dw, _, _, rfl, hw, C.w, C.w_fair, rfl, _, rfl, x, CW, dw, _, _, rfl, hw, C.w, C.w_peak, rfl, ?_⟩
  refine ⟨_, rfl, x, CW, dw, _, _, rfl, hw, C.w, C.w_rain, rfl, _, rfl, x, CW, dw, _, _, rfl, hw, C.w, C.w_days, rfl, _, rfl, x, CW, dw, _, _, rfl, hw, C.w, C.w_areas, rfl, al, _, rfl, .inl (SqL.of S.lst), (by show 8 ≤ sizeLine; decide), fun p hp => ?_⟩
  refine k.look (s := some a) S O (same_new hp) ?_ hp
  rw [upd_same, List.length_map, S.la]
  rfl
/-! ### answer_would -/
theorem ok_answer_would (T : Txt mg) (C : Cl K CA CW) (D_is_reading : Def P w K mg base 1 "is_reading" p_is_reading sp_is_reading) (D_class_of : Def P w K mg base 3 "class_of" p_class_of (sp_class_of CW)) (h : Has K mg "answer_would" s_answer_would p_answer_would) :
    Def P w K mg base 4 "answer_would" p_answer_would (sp_call CA CW 13) := by
  refine h.ok sc_answer_would (fun vs H Q E h => sp_call_len h) (fun f cdv A outer s H vs Q E hr h => ?_)
  obtain ⟨x, al, l, as, rs, s, args, rfl, S, O, hl, nfl, hlen, hpre, k⟩ := h
  obtain ⟨a, rfl, hi⟩ := hpre.resolve_left (by decide)
  obtain ⟨i, z, rfl⟩ := len2 hlen
  have S : SAt CA CW H x al as rs true a := S
  have O : AOk a := O
  obtain ⟨dw, hw⟩ := S.w
  have hi : i < a.areas.length := hi i List.mem_cons_self
  obtain ⟨c, r, y, hy, ey, hc, hr', ⟨⟨dc, hA⟩, hR⟩, hv⟩ := S.i hi
  have Y := O.ys i y hy
  refine ⟨_, (pss_cons (ps_set (i := 2) sc_answer_would.nd rfl (Or.inl rfl) (pe_fld (pe_ix ix_list (pe_fld (pv 0) rfl) (pe_ix ix_list (pv 1) pe_int (fun _ _ => rfl)) (fun _ _ => rfl)) rfl))
      (pss_cons (ps_set (i := 3) sc_answer_would.nd rfl (Or.inl rfl) (pe_ix ix_list (pv 1) pe_int (fun _ _ => rfl)))
      (pss_cons (ps_if (pt_not (pt_val (pe_d D_is_reading (hr.mono (by decide)) rfl (pa_cons (pv 3) pa_nil)))) (pss_one (ps_ret (pe_lst (pa_cons (pe_gint rfl T.c_OUT_OF_RANGE) pa_nil)))) pss_nil)
      (pss_one (ps_ret (pe_lst (pa_cons (pe_d D_class_of (hr.mono (by decide)) rfl (pa_cons (pv 0) (pa_cons (pe_op op_cat (pv 2) (pe_lst (pa_cons (pv 3) pa_nil))) pa_nil))) pa_nil))))))), ?_⟩
  have e : Kv348Neutral.step (some a) [((13 : Nat) : Int) :: cast [i, z]] = (some (a.does (.would i z)).1, Kv348Neutral.row (a.does (.would i z)).2) := rfl
  rw [e] at k
  simp only [Kv348.Abs.does] at k
  rw [if_neg (has_t hi), ey] at k
  refine ⟨_, rfl, x, CW, dw, _, _, rfl, hw, C.w, C.w_areas, rfl, _, rfl, l, _, _, _, rfl, rfl, SqL.of hl, at_of (j := 0) rfl rfl, al, _, _, _, rfl, rfl, SqL.of S.lst, at_of (j := i) rfl hv, c, CA, dc, _, _, rfl, hA, C.a, C.a_readings, rfl, ?_⟩
  refine ⟨_, rfl, l, _, _, _, rfl, rfl, SqL.of hl, at_of (j := 1) rfl rfl, ?_⟩
  refine ⟨_, rfl, (z : Int), rfl, _, rfl, ?_⟩
  rw [okX_is]
  cases c1 : Kv348.okX z with
  | false =>
    rw [if_pos c1] at k
    refine iteT ⟨(by show 1 ≤ sizeLine; decide), fun p hp => ?_⟩
    exact k.look (s := some a) S O (same_new hp) upd_same hp
  | true =>
    rw [if_neg (by rw [c1]; exact Bool.noConfusion)] at k
    obtain ⟨z1, z2⟩ := okX_le c1
    refine iteF ?_
    refine ⟨_, rfl, _, rfl, _, rfl, (by show 1 ≤ sizeLine; decide), fun q hq => ?_⟩
    refine ⟨r, q, _, _, rfl, rfl, same_new hq _ _ hR, upd_same, ?_, fun q2 hq2 => ?_⟩
    · rw [rl_len]
      show y.reads.length + 1 ≤ sizeLine
      exact Nat.le_trans (Nat.succ_le_succ Y.len) (by decide)
    · have ec : rl y.reads ++ [V.int (z : Int)] = rl (z :: y.reads) := (rl_cons z y.reads).symm
      rw [ec]
      have s1 : Same H (upd (upd H q (.lst [V.int (z : Int)])) q2 (.lst (rl (z :: y.reads)))) := same_upd (same_new hq) hq2
      refine ⟨x, al, q2, true, a, z :: y.reads, rfl, s1.w S.w, upd_same, Y.rds.cons z1 z2, O.good, O.fair, fun H3 s3 => ⟨(by show 1 ≤ sizeLine; decide), fun p hp => ?_⟩⟩
      exact k.look (s := some a) S O (same_upd (s1.trans s3) hp) upd_same ((s1.trans s3).free hp)
/-! ### answer_above -/
theorem ok_answer_above (T : Txt mg) (C : Cl K CA CW) (D_is_reading : Def P w K mg base 1 "is_reading" p_is_reading sp_is_reading) (D_count_above : Def P w K mg base 1 "count_above" p_count_above sp_count_above) (h : Has K mg "answer_above" s_answer_above p_answer_above) :
    Def P w K mg base 2 "answer_above" p_answer_above (sp_call CA CW 16) := by
  refine h.ok sc_answer_above (fun vs H Q E h => sp_call_len h) (fun f cdv A outer s H vs Q E hr h => ?_)
  obtain ⟨x, al, l, as, rs, s, args, rfl, S, O, hl, nfl, hlen, hpre, k⟩ := h
  obtain ⟨a, rfl, hi⟩ := hpre.resolve_left (by decide)
  obtain ⟨i, z, rfl⟩ := len2 hlen
  have S : SAt CA CW H x al as rs true a := S
  have O : AOk a := O
  obtain ⟨dw, hw⟩ := S.w
  have hi : i < a.areas.length := hi i List.mem_cons_self
  obtain ⟨c, r, y, hy, ey, hc, hr', ⟨⟨dc, hA⟩, hR⟩, hv⟩ := S.i hi
  have Y := O.ys i y hy
  refine ⟨_, (pss_cons (ps_set (i := 2) sc_answer_above.nd rfl (Or.inl rfl) (pe_fld (pe_ix ix_list (pe_fld (pv 0) rfl) (pe_ix ix_list (pv 1) pe_int (fun _ _ => rfl)) (fun _ _ => rfl)) rfl))
      (pss_cons (ps_set (i := 3) sc_answer_above.nd rfl (Or.inl rfl) (pe_ix ix_list (pv 1) pe_int (fun _ _ => rfl)))
      (pss_cons (ps_if (pt_not (pt_val (pe_d D_is_reading (hr.mono (by decide)) rfl (pa_cons (pv 3) pa_nil)))) (pss_one (ps_ret (pe_lst (pa_cons (pe_gint rfl T.c_OUT_OF_RANGE) pa_nil)))) pss_nil)
      (pss_one (ps_ret (pe_lst (pa_cons (pe_d D_count_above (hr.mono (by decide)) rfl (pa_cons (pv 2) (pa_cons (pv 3) pa_nil))) (pa_cons (pe_callB call_len_seq rfl T.b_len PySem.boot_len (pa_cons (pe_slice sl_list (pv 2) (po_some (pe_un un_neg (pe_gint rfl T.c_LOOKED_AT))) po_none) pa_nil)) pa_nil)))))))), ?_⟩
  have e : Kv348Neutral.step (some a) [((16 : Nat) : Int) :: cast [i, z]] = (some (a.does (.above i z)).1, Kv348Neutral.row (a.does (.above i z)).2) := rfl
  rw [e] at k
  simp only [Kv348.Abs.does] at k
  rw [if_neg (has_t hi), ey] at k
  refine ⟨_, rfl, x, CW, dw, _, _, rfl, hw, C.w, C.w_areas, rfl, _, rfl, l, _, _, _, rfl, rfl, SqL.of hl, at_of (j := 0) rfl rfl, al, _, _, _, rfl, rfl, SqL.of S.lst, at_of (j := i) rfl hv, c, CA, dc, _, _, rfl, hA, C.a, C.a_readings, rfl, ?_⟩
  refine ⟨_, rfl, l, _, _, _, rfl, rfl, SqL.of hl, at_of (j := 1) rfl rfl, ?_⟩
  refine ⟨_, rfl, (z : Int), rfl, _, rfl, ?_⟩
  rw [okX_is]
  cases c1 : Kv348.okX z with
  | false =>
    rw [if_pos c1] at k
    refine iteT ⟨(by show 1 ≤ sizeLine; decide), fun p hp => ?_⟩
    exact k.look (s := some a) S O (same_new hp) upd_same hp
  | true =>
    rw [if_neg (by rw [c1]; exact Bool.noConfusion)] at k
    refine iteF ?_
    refine ⟨_, rfl, _, rfl, r, y.reads, z, rfl, hR, fun H1 s1 => ?_⟩
    refine ⟨_, rfl, _, rfl, _, rfl, r, _, rfl, SqL.of (s1 _ _ hR), fun q hq => ?_⟩
    have e0 : cutV (rl y.reads) (some (-(10 : Int))) none = rl (y.reads.take 10) := cut_last y.reads 10 (by omega)
    rw [e0]
    refine ⟨q, _, rfl, .inl (SqL.of upd_same), (by show 2 ≤ sizeLine; decide), fun p hp => ?_⟩
    refine k.look (s := some a) S O (same_upd (same_upd s1 hq) hp) ?_ ((same_upd s1 hq).free hp)
    rw [upd_same, rl_len, List.length_take]
    rfl
/-! ### answer_worse -/
theorem ok_answer_worse (T : Txt mg) (C : Cl K CA CW) (D_has_mean : Def P w K mg base 1 "has_mean" p_has_mean sp_has_mean) (D_product_of : Def P w K mg base 1 "product_of" p_product_of sp_product_of) (h : Has K mg "answer_worse" s_answer_worse p_answer_worse) :
    Def P w K mg base 2 "answer_worse" p_answer_worse (sp_call CA CW 17) := by
  refine h.ok sc_answer_worse (fun vs H Q E h => sp_call_len h) (fun f cdv A outer s H vs Q E hr h => ?_)
  obtain ⟨x, al, l, as, rs, s, args, rfl, S, O, hl, nfl, hlen, hpre, k⟩ := h
  obtain ⟨a, rfl, hi⟩ := hpre.resolve_left (by decide)
  obtain ⟨i, j, rfl⟩ := len2 hlen
  have S : SAt CA CW H x al as rs true a := S
  have O : AOk a := O
  obtain ⟨dw, hw⟩ := S.w
  have hj : j < a.areas.length := hi j (List.mem_cons_of_mem _ List.mem_cons_self)
  have hi : i < a.areas.length := hi i List.mem_cons_self
  obtain ⟨c, r, y, hy, ey, hc, hr', ⟨⟨dc, hA⟩, hR⟩, hv⟩ := S.i hi
  obtain ⟨c', r', y', hy', ey', hc', hr'', ⟨⟨dc', hA'⟩, hR'⟩, hv'⟩ := S.i hj
  have Y := O.ys i y hy
  have Y' := O.ys j y' hy'
  refine ⟨_, (pss_cons (ps_set (i := 2) sc_answer_worse.nd rfl (Or.inl rfl) (pe_fld (pe_ix ix_list (pe_fld (pv 0) rfl) (pe_ix ix_list (pv 1) pe_int (fun _ _ => rfl)) (fun _ _ => rfl)) rfl))
      (pss_cons (ps_set (i := 3) sc_answer_worse.nd rfl (Or.inl rfl) (pe_fld (pe_ix ix_list (pe_fld (pv 0) rfl) (pe_ix ix_list (pv 1) pe_int (fun _ _ => rfl)) (fun _ _ => rfl)) rfl))
      (pss_cons (ps_if (PW.pt (pw_or (pt_not (pt_val (pe_d D_has_mean (hr.mono (by decide)) rfl (pa_cons (pv 2) pa_nil)))) (pw_or1 (pt_not (pt_val (pe_d D_has_mean (hr.mono (by decide)) rfl (pa_cons (pv 3) pa_nil))))))) (pss_one (ps_ret (pe_lst (pa_cons (pe_gint rfl T.c_TOO_FEW) pa_nil)))) pss_nil)
      (pss_cons (ps_if (pt_cmpR op_gt (pe_d D_product_of (hr.mono (by decide)) rfl (pa_cons (pv 2) pa_nil)) (pe_d D_product_of (hr.mono (by decide)) rfl (pa_cons (pv 3) pa_nil)) (nomark _)) (pss_one (ps_ret (pe_lst (pa_cons pe_int pa_nil)))) pss_nil)
      (pss_one (ps_ret (pe_lst (pa_cons (pe_ifExp (pt_cmpR op_gt (pe_d D_product_of (hr.mono (by decide)) rfl (pa_cons (pv 3) pa_nil)) (pe_d D_product_of (hr.mono (by decide)) rfl (pa_cons (pv 2) pa_nil)) (nomark _)) pe_int pe_int) pa_nil)))))))), ?_⟩
  have e : Kv348Neutral.step (some a) [((17 : Nat) : Int) :: cast [i, j]] = (some (a.does (.worse i j)).1, Kv348Neutral.row (a.does (.worse i j)).2) := rfl
  rw [e] at k
  simp only [Kv348.Abs.does] at k
  rw [if_neg (fun q => q.elim (has_t hi) (has_t hj)), full_is ey, full_is ey', ey, ey'] at k
  refine ⟨_, rfl, x, CW, dw, _, _, rfl, hw, C.w, C.w_areas, rfl, _, rfl, l, _, _, _, rfl, rfl, SqL.of hl, at_of (j := 0) rfl rfl, al, _, _, _, rfl, rfl, SqL.of S.lst, at_of (j := i) rfl hv, c, CA, dc, _, _, rfl, hA, C.a, C.a_readings, rfl, ?_⟩
  refine ⟨_, rfl, x, CW, dw, _, _, rfl, hw, C.w, C.w_areas, rfl, _, rfl, l, _, _, _, rfl, rfl, SqL.of hl, at_of (j := 1) rfl rfl, al, _, _, _, rfl, rfl, SqL.of S.lst, at_of (j := j) rfl hv', c', CA, dc', _, _, rfl, hA', C.a, C.a_readings, rfl, ?_⟩
  dsimp only [tNext]
  refine seq_rest (5 ≤ y.reads.length ∧ 5 ≤ y'.reads.length) ?b (fun rest => ?a)
  case a =>
    refine ⟨_, rfl, r, y.reads, rfl, hR, _, rfl, ?_⟩
    cases co : decide (5 ≤ y.reads.length) with
    | false =>
      rw [if_pos (.inl co)] at k
      refine iteT (iteT ⟨(by show 1 ≤ sizeLine; decide), fun p hp => ?_⟩)
      exact k.look (s := some a) S O (same_new hp) upd_same hp
    | true =>
      refine iteF ⟨_, rfl, r', y'.reads, rfl, hR', _, rfl, ?_⟩
      cases co' : decide (5 ≤ y'.reads.length) with
      | false =>
        rw [if_pos (.inr co')] at k
        refine iteT ⟨(by show 1 ≤ sizeLine; decide), fun p hp => ?_⟩
        exact k.look (s := some a) S O (same_new hp) upd_same hp
      | true => exact iteF (rest ⟨of_decide_eq_true co, of_decide_eq_true co'⟩ H (Same.refl H))
  case b =>
    rintro ⟨c1, c2⟩ H1 s1
    rw [decide_eq_true c1, decide_eq_true c2, if_neg (fun q => q.elim Bool.noConfusion Bool.noConfusion)] at k
    refine ⟨_, rfl, r, y.reads, rfl, s1 _ _ hR, Y.rds, fun H2 s2 => ?_⟩
    refine ⟨_, rfl, r', y'.reads, rfl, (s1.trans s2) _ _ hR', Y'.rds, fun H3 s3 => ?_⟩
    refine ⟨_, _, rfl, rfl, _, rfl, ?_⟩
    rw [dec_lt]
    have s13 := s1.trans (s2.trans s3)
    refine ite2 (fun q => ?_) (fun q => ?_)
    · rw [if_pos (of_decide_eq_true q)] at k
      refine ⟨(by show 1 ≤ sizeLine; decide), fun p hp => ?_⟩
      exact k.look (s := some a) S O (same_upd s13 hp) upd_same (s13.free hp)
    · rw [if_neg (fun z => q (decide_eq_true z))] at k
      refine ⟨_, rfl, r', y'.reads, rfl, s13 _ _ hR', Y'.rds, fun H4 s4 => ?_⟩
      refine ⟨_, rfl, r, y.reads, rfl, (s13.trans s4) _ _ hR, Y.rds, fun H5 s5 => ?_⟩
      refine ⟨_, _, rfl, rfl, _, rfl, ?_⟩
      rw [dec_lt]
      have s15 := s13.trans (s4.trans s5)
      refine ite2 (fun q2 => ?_) (fun q2 => ?_)
      · rw [if_pos (of_decide_eq_true q2)] at k
        refine ⟨(by show 1 ≤ sizeLine; decide), fun p hp => ?_⟩
        exact k.look (s := some a) S O (same_upd s15 hp) upd_same (s15.free hp)
      · rw [if_neg (fun z => q2 (decide_eq_true z))] at k
        refine ⟨(by show 1 ≤ sizeLine; decide), fun p hp => ?_⟩
        exact k.look (s := some a) S O (same_upd s15 hp) upd_same (s15.free hp)
/-! ### answer_why -/
theorem ok_answer_why (T : Txt mg) (C : Cl K CA CW) (D_is_shut : Def P w K mg base 1 "is_shut" p_is_shut (sp_is_shut CA CW)) (D_has_mean : Def P w K mg base 1 "has_mean" p_has_mean sp_has_mean) (D_is_within : Def P w K mg base 2 "is_within" p_is_within sp_is_within)
    (D_is_above_peak : Def P w K mg base 2 "is_above_peak" p_is_above_peak (sp_is_above_peak CW)) (h : Has K mg "answer_why" s_answer_why p_answer_why) : Def P w K mg base 3 "answer_why" p_answer_why (sp_call CA CW 20) := by
  refine h.ok sc_answer_why (fun vs H Q E h => sp_call_len h) (fun f cdv A outer s H vs Q E hr h => ?_)
  obtain ⟨x, al, l, as, rs, s, args, rfl, S, O, hl, nfl, hlen, hpre, k⟩ := h
  obtain ⟨a, rfl, hi⟩ := hpre.resolve_left (by decide)
  obtain ⟨i, rfl⟩ := len1 hlen
  have S : SAt CA CW H x al as rs true a := S
  have O : AOk a := O
  obtain ⟨dw, hw⟩ := S.w
  have hi : i < a.areas.length := hi i List.mem_cons_self
  obtain ⟨c, r, y, hy, ey, hc, hr', ⟨⟨dc, hA⟩, hR⟩, hv⟩ := S.i hi
  have Y := O.ys i y hy
  refine ⟨_, (pss_cons (ps_set (i := 2) sc_answer_why.nd rfl (Or.inl rfl) (pe_ix ix_list (pe_fld (pv 0) rfl) (pe_ix ix_list (pv 1) pe_int (fun _ _ => rfl)) (fun _ _ => rfl)))
      (pss_cons (ps_set (i := 3) sc_answer_why.nd rfl (Or.inl rfl) (pe_ifExp (pt_val (pe_d D_is_shut (hr.mono (by decide)) rfl (pa_cons (pv 0) (pa_cons (pv 2) pa_nil)))) (pe_gint rfl T.c_SHUT_BY_RAIN) pe_int))
      (pss_cons (ps_if (pt_not (pt_val (pe_d D_has_mean (hr.mono (by decide)) rfl (pa_cons (pe_fld (pv 2) rfl) pa_nil)))) (pss_one (ps_ret (pe_lst (pa_cons (pv 3) pa_nil)))) pss_nil)
      (pss_cons (ps_if (pt_not (pt_val (pe_d D_is_within (hr.mono (by decide)) rfl (pa_cons (pe_fld (pv 2) rfl) (pa_cons (pe_fld (pv 0) rfl) pa_nil))))) (pss_one (ps_set (i := 3) sc_answer_why.nd rfl (Or.inl rfl) (pe_op op_add (pv 3) (pe_gint rfl T.c_NOT_WITHIN_GOOD)))) pss_nil)
      (pss_cons (ps_if (pt_val (pe_d D_is_above_peak (hr.mono (by decide)) rfl (pa_cons (pv 0) (pa_cons (pe_fld (pv 2) rfl) pa_nil)))) (pss_one (ps_set (i := 3) sc_answer_why.nd rfl (Or.inl rfl) (pe_op op_add (pv 3) (pe_gint rfl T.c_ABOVE_PEAK)))) pss_nil)
      (pss_cons (ps_if (pt_not (pt_val (pe_d D_is_within (hr.mono (by decide)) rfl (pa_cons (pe_fld (pv 2) rfl) (pa_cons (pe_fld (pv 0) rfl) pa_nil))))) (pss_one (ps_set (i := 3) sc_answer_why.nd rfl (Or.inl rfl) (pe_op op_add (pv 3) (pe_gint rfl T.c_NOT_WITHIN_FAIR)))) pss_nil)
      (pss_one (ps_ret (pe_lst (pa_cons (pv 3) pa_nil)))))))))), ?_⟩
  have e : Kv348Neutral.step (some a) [((20 : Nat) : Int) :: cast [i]] = (some (a.does (.why i)).1, Kv348Neutral.row (a.does (.why i)).2) := rfl
  rw [e] at k
  simp only [Kv348.Abs.does] at k
  rw [if_neg (has_t hi), ey] at k
  refine ⟨_, rfl, x, CW, dw, _, _, rfl, hw, C.w, C.w_areas, rfl, _, rfl, l, _, _, _, rfl, rfl, SqL.of hl, at_of (j := 0) rfl rfl, al, _, _, _, rfl, rfl, SqL.of S.lst, at_of (j := i) rfl hv, ?_⟩
  -- the four numbers
  obtain ⟨n8, e8, r8, f8⟩ : ∃ n : Nat, (if y.shut ≤ a.day then 0 else 8) = n ∧ (decide (a.day < y.shut) = true → n = 8) ∧ (decide (a.day < y.shut) = false → n = 0) := by
    refine ⟨_, rfl, fun q => ?_, fun q => ?_⟩
    · rw [if_neg (by have := of_decide_eq_true q; omega)]
    · rw [if_pos (by have := of_decide_eq_false q; omega)]
  obtain ⟨n1, e1, r1, f1⟩ : ∃ n : Nat, (if Kv348.within y.reads a.good then 0 else 1) = n ∧ (Kv348.within y.reads a.good = true → n = 0) ∧ (Kv348.within y.reads a.good = false → n = 1) :=
    ⟨_, rfl, fun q => by rw [q]; rfl, fun q => by rw [q]; rfl⟩
  obtain ⟨n2, e2, r2, f2⟩ : ∃ n : Nat, (if Kv348.above y.reads a.peak ≤ 1 then 0 else 2) = n ∧ (decide (1 < Kv348.above y.reads a.peak) = true → n = 2) ∧ (decide (1 < Kv348.above y.reads a.peak) = false → n = 0) := by
    refine ⟨_, rfl, fun q => ?_, fun q => ?_⟩
    · rw [if_neg (by have := of_decide_eq_true q; omega)]
    · rw [if_pos (by have := of_decide_eq_false q; omega)]
  obtain ⟨n4, e4, r4, f4⟩ : ∃ n : Nat, (if Kv348.within y.reads a.fair then 0 else 4) = n ∧ (Kv348.within y.reads a.fair = true → n = 0) ∧ (Kv348.within y.reads a.fair = false → n = 4) :=
    ⟨_, rfl, fun q => by rw [q]; rfl, fun q => by rw [q]; rfl⟩
  rw [e8, e1, e2, e4] at k
  dsimp only [gName]
  refine seq_any (fun σ' H1 => Same H H1 ∧ σ' = [some (.ref x), some (.ref l), some (.ref c), some (.int (n8 : Nat))]) ?b (fun rest => ?a)
  case a =>
    refine ⟨_, rfl, _, rfl, x, al, c, r, true, a, y, rfl, S.w, ⟨⟨dc, hA⟩, hR⟩, _, rfl, ?_⟩
    refine ite2 (fun q => rest _ _ ⟨Same.refl H, ?_⟩) (fun q => rest _ _ ⟨Same.refl H, ?_⟩)
    · rw [r8 q]; rfl
    · rw [f8 (by simpa using q)]; rfl
  case b =>
    rintro _ H1 ⟨s1, rfl⟩
    refine ⟨_, rfl, c, CA, dc, _, _, rfl, s1 _ _ hA, C.a, C.a_readings, rfl, r, y.reads, rfl, s1 _ _ hR, _, rfl, ?_⟩
    cases co : decide (5 ≤ y.reads.length) with
    | false =>
      have co := of_decide_eq_false co
      rw [if_pos (show y.reads.length < 5 by omega), Nat.zero_add] at k
      refine iteT ⟨_, rfl, (by show 1 ≤ sizeLine; decide), fun p hp => ?_⟩
      exact k.look (s := some a) S O (same_upd s1 hp) upd_same (s1.free hp)
    | true =>
      have co := of_decide_eq_true co
      rw [if_neg (show ¬ y.reads.length < 5 by omega)] at k
      refine iteF ?_
      dsimp only [tNext]
      refine seq_any (fun σ' H2 => Same H H2 ∧ σ' = [some (.ref x), some (.ref l), some (.ref c), some (.int (n8 + n1 : Nat))]) ?b1 (fun rest => ?a1)
      case a1 =>
        refine ⟨_, rfl, c, CA, dc, _, _, rfl, s1 _ _ hA, C.a, C.a_readings, rfl, _, rfl, x, CW, dw, _, _, rfl, s1 _ _ hw, C.w, C.w_good, rfl, r, y.reads, a.good, rfl, s1 _ _ hR, Y.rds, O.good, fun H2 s2 => ⟨_, rfl, ?_⟩⟩
        cases q : Kv348.within y.reads a.good with
        | true =>
          refine iteF (rest _ _ ⟨s1.trans s2, ?_⟩)
          rw [r1 q]; rfl
        | false =>
          refine iteT ⟨_, rfl, _, _, rfl, rfl, rest _ _ ⟨s1.trans s2, ?_⟩⟩
          rw [f1 q]; rfl
      case b1 =>
        rintro _ H2 ⟨s2, rfl⟩
        refine seq_any (fun σ' H3 => Same H H3 ∧ σ' = [some (.ref x), some (.ref l), some (.ref c), some (.int (n8 + n1 + n2 : Nat))]) ?b2 (fun rest => ?a2)
        case a2 =>
          refine ⟨_, rfl, _, rfl, c, CA, dc, _, _, rfl, s2 _ _ hA, C.a, C.a_readings, rfl, x, al, r, true, a, y.reads, rfl, s2.w S.w, s2 _ _ hR, fun H3 s3 => ⟨_, rfl, ?_⟩⟩
          cases q : decide (1 < Kv348.above y.reads a.peak) with
          | true =>
            refine iteT ⟨_, rfl, _, _, rfl, rfl, rest _ _ ⟨s2.trans s3, ?_⟩⟩
            rw [r2 q]; rfl
          | false =>
            refine iteF (rest _ _ ⟨s2.trans s3, ?_⟩)
            rw [f2 q]; rfl
        case b2 =>
          rintro _ H3 ⟨s3, rfl⟩
          refine seq_any (fun σ' H4 => Same H H4 ∧ σ' = [some (.ref x), some (.ref l), some (.ref c), some (.int (n8 + n1 + n2 + n4 : Nat))]) ?b3 (fun rest => ?a3)
          case a3 =>
            refine ⟨_, rfl, c, CA, dc, _, _, rfl, s3 _ _ hA, C.a, C.a_readings, rfl, _, rfl, x, CW, dw, _, _, rfl, s3 _ _ hw, C.w, C.w_fair, rfl, r, y.reads, a.fair, rfl, s3 _ _ hR, Y.rds, O.fair, fun H4 s4 => ⟨_, rfl, ?_⟩⟩
            cases q : Kv348.within y.reads a.fair with
            | true =>
              refine iteF (rest _ _ ⟨s3.trans s4, ?_⟩)
              rw [r4 q]; rfl
            | false =>
              refine iteT ⟨_, rfl, _, _, rfl, rfl, rest _ _ ⟨s3.trans s4, ?_⟩⟩
              rw [f4 q]; rfl
          case b3 =>
            rintro _ H4 ⟨s4, rfl⟩
            refine ⟨_, rfl, (by show 1 ≤ sizeLine; decide), fun p hp => ?_⟩
            refine k.look (s := some a) S O (same_upd s4 hp) ?_ (s4.free hp)
            rw [upd_same, show n8 + n1 + n2 + n4 = n1 + n2 + n4 + n8 by omega]
            rfl
end
end Sh

set_option Elab.async false
set_option maxRecDepth 100000
set_option maxHeartbeats 2000000
namespace Sh
open PySem PySem.Spec PyProof.Rows L2
/-- what needs and lasts answer: with how many, at the fewest, it's so (b) or not so -/
def few (a : Kv348.Abs) (l : List Nat) (z c : Nat) (b : Bool) : List Int :=
  if Kv348.okX z = false ∨ Kv348.okC c = false then [-22] else match (List.range 11).find? fun n => okc a c (Kv348.more n z l) == b with
    | none => [-33]
    | some n => [(n : Int)]
def sp_fewest (CA CW : Addr) : Sp := fun vs H Q _ => ∃ (x al l : Addr) (as rs : List Addr) (a : Kv348.Abs) (i z c : Nat) (b : Bool) (y : Kv348.Area), vs = [.ref x, .ref l, .bl b] ∧ SAt CA CW H x al as rs true a ∧ AOk a ∧ H l = some (.lst (nl [i, z, c])) ∧ a.areas[i]? = some y ∧
  ∀ H' p, Same H H' → H' p = some (.lst (il (few a y.reads z c b))) → H p = none → Q (.ref p) H'
theorem find_ext {p q : Nat → Bool} (h : ∀ n, p n = q n) (l : List Nat) : l.find? p = l.find? q := by
  rw [show p = q from funext h]
theorem needs_few {a : Kv348.Abs} {i z c : Nat} {y : Kv348.Area} (hi : i < a.areas.length) (ey : a.area i = y) : (some (a.does (.needs i z c)).1, Kv348Neutral.row (a.does (.needs i z c)).2) = (some a, few a y.reads z c true) := by
  simp only [Kv348.Abs.does]
  rw [if_neg (has_t hi), ey]
  unfold few
  by_cases q : Kv348.okX z = false ∨ Kv348.okC c = false
  · rw [if_pos q, if_pos q]; rfl
  · rw [if_neg q, if_neg q]
    have e : a.needs y.reads z c = (List.range 11).find? fun n => okc a c (Kv348.more n z y.reads) == true := find_ext (fun n => (beq_true _).symm) _
    rw [e]
    cases (List.range 11).find? fun n => okc a c (Kv348.more n z y.reads) == true <;> rfl
theorem lasts_few {a : Kv348.Abs} {i z c : Nat} {y : Kv348.Area} (hi : i < a.areas.length) (ey : a.area i = y) : (some (a.does (.lasts i z c)).1, Kv348Neutral.row (a.does (.lasts i z c)).2) = (some a, few a y.reads z c false) := by
  simp only [Kv348.Abs.does]
  rw [if_neg (has_t hi), ey]
  unfold few
  by_cases q : Kv348.okX z = false ∨ Kv348.okC c = false
  · rw [if_pos q, if_pos q]; rfl
  · rw [if_neg q, if_neg q]
    have e : ((List.range 11).find? fun n => !(a.classOf (Kv348.more n z y.reads) != 0 && decide (a.classOf (Kv348.more n z y.reads) ≤ c))) = (List.range 11).find? fun n => okc a c (Kv348.more n z y.reads) == false := find_ext (fun n => (beq_false _).symm) _
    rw [e]
    cases (List.range 11).find? fun n => okc a c (Kv348.more n z y.reads) == false <;> rfl
section
variable {P : Program} {w : World} {K : PySem.W.Frag} {mg : Str → Option Value} {base : Heap} {CA CW : Addr}
theorem ok_answer_fewest (T : Txt mg) (C : Cl K CA CW) (D_is_reading : Def P w K mg base 1 "is_reading" p_is_reading sp_is_reading) (D_is_open_class : Def P w K mg base 1 "is_open_class" p_is_open_class sp_is_open_class)
    (D_is_of_class : Def P w K mg base 4 "is_of_class" p_is_of_class (sp_is_of_class CW)) (h : Has K mg "answer_fewest" s_answer_fewest p_answer_fewest) : Def P w K mg base 5 "answer_fewest" p_answer_fewest (sp_fewest CA CW) := by
  refine h.ok sc_answer_fewest (fun vs H Q E h => ?_) (fun f cdv A outer s H vs Q E hr h => ?_)
  · obtain ⟨x, al, l, as, rs, a, i, z, c, b, y, rfl, _⟩ := h
    rfl
  obtain ⟨x, al, l, as, rs, a, i, z, c, b, y, rfl, S, O, hl, hy, k⟩ := h
  obtain ⟨dw, hw⟩ := S.w
  have hi : i < a.areas.length := (List.getElem?_eq_some_iff.mp hy).1
  obtain ⟨ar, r, y2, hy2, ey, hc, hr', ⟨⟨dc, hA⟩, hR⟩, hv⟩ := S.i hi
  rw [hy] at hy2
  cases hy2
  have Y := O.ys i y hy
  refine ⟨_, (pss_cons (ps_set (i := 3) sc_answer_fewest.nd rfl (Or.inl rfl) (pe_fld (pe_ix ix_list (pe_fld (pv 0) rfl) (pe_ix ix_list (pv 1) pe_int (fun _ _ => rfl)) (fun _ _ => rfl)) rfl))
      (pss_cons (ps_set (i := 4) sc_answer_fewest.nd rfl (Or.inl rfl) (pe_ix ix_list (pv 1) pe_int (fun _ _ => rfl)))
      (pss_cons (ps_set (i := 5) sc_answer_fewest.nd rfl (Or.inl rfl) (pe_ix ix_list (pv 1) pe_int (fun _ _ => rfl)))
      (pss_cons (ps_if (PW.pt (pw_or (pt_not (pt_val (pe_d D_is_reading (hr.mono (by decide)) rfl (pa_cons (pv 4) pa_nil)))) (pw_or1 (pt_not (pt_val (pe_d D_is_open_class (hr.mono (by decide)) rfl (pa_cons (pv 5) pa_nil))))))) (pss_one (ps_ret (pe_lst (pa_cons (pe_gint rfl T.c_OUT_OF_RANGE) pa_nil)))) pss_nil)
      (pss_cons (ps_for PassesOwn.never rfl (pi_range1 rfl T.b_range (pa_cons (pe_op op_add (pe_gint rfl T.c_MOST_TRIED) pe_int) pa_nil)) (pg_name (i := 6) sc_answer_fewest.nd rfl (Or.inl rfl)) (pss_one (ps_if (pt_cmpR op_eq (pe_d D_is_of_class (hr.mono (by decide)) rfl (pa_cons (pv 0) (pa_cons (pe_op op_cat (pv 3) (pe_op op_rep (pe_lst (pa_cons (pv 4) pa_nil)) (pv 6))) (pa_cons (pv 5) pa_nil)))) (pv 2) (nomark _)) (pss_one (ps_ret (pe_lst (pa_cons (pv 6) pa_nil)))) pss_nil)))
      (pss_one (ps_ret (pe_lst (pa_cons (pe_gint rfl T.c_NEVER) pa_nil))))))))), ?_⟩
  refine ⟨_, rfl, x, CW, dw, _, _, rfl, hw, C.w, C.w_areas, rfl, _, rfl, l, _, _, _, rfl, rfl, SqL.of hl, at_of (j := 0) rfl rfl, al, _, _, _, rfl, rfl, SqL.of S.lst, at_of (j := i) rfl hv, ar, CA, dc, _, _, rfl, hA, C.a, C.a_readings, rfl, ?_⟩
  refine ⟨_, rfl, l, _, _, _, rfl, rfl, SqL.of hl, at_of (j := 1) rfl rfl, ?_⟩
  refine ⟨_, rfl, l, _, _, _, rfl, rfl, SqL.of hl, at_of (j := 2) rfl rfl, ?_⟩
  unfold few at k
  dsimp only [gName]
  refine seq_rest (Kv348.okX z = true ∧ Kv348.okC c = true) ?b (fun rest => ?a)
  case a =>
    refine ⟨_, rfl, (z : Int), rfl, _, rfl, ?_⟩
    rw [okX_is]
    cases c1 : Kv348.okX z with
    | false =>
      rw [if_pos (.inl c1)] at k
      refine iteT (iteT ⟨(by show 1 ≤ sizeLine; decide), fun p hp => ?_⟩)
      exact k _ p (same_new hp) upd_same hp
    | true =>
      refine iteF ⟨_, rfl, (c : Int), rfl, _, rfl, ?_⟩
      rw [okC_is]
      cases c2 : Kv348.okC c with
      | false =>
        rw [if_pos (.inr c2)] at k
        refine iteT ⟨(by show 1 ≤ sizeLine; decide), fun p hp => ?_⟩
        exact k _ p (same_new hp) upd_same hp
      | true => exact iteF (rest ⟨c1, c2⟩ H (Same.refl H))
  case b =>
    rintro ⟨c1, c2⟩ H1 s1
    rw [if_neg (fun q => q.elim (fun q => by rw [c1] at q; cases q) fun q => by rw [c2] at q; cases q)] at k
    obtain ⟨z1, z2⟩ := okX_le c1
    refine ⟨_, _, rfl, rfl, 11, rfl, by decide, by decide, for_range (n := 11) (fun j σ H' => Same H H' ∧ (∃ v : Option V, σ = [some (.ref x), some (.ref l), some (.bl b), some (.ref r), some (.int (z : Nat)), some (.int (c : Nat)), v]) ∧ ∀ m, m < j → (okc a c (Kv348.more m z y.reads) == b) = false)
      ⟨s1, ⟨none, rfl⟩, fun m hm => absurd hm (Nat.not_lt_zero m)⟩ ?turn ?done⟩
    case turn =>
      rintro j σ H2 hj ⟨s2, ⟨v, rfl⟩, hm⟩
      have ej : (0 : Int) + (j : Int) = (j : Int) := by omega
      refine ⟨_, rfl, _, rfl, _, rfl, (by show 1 ≤ sizeLine; decide), fun q hq => ?_⟩
      have s3 : Same H (upd H2 q (.lst [V.int (z : Int)])) := same_upd s2 hq
      refine ⟨_, rfl, q, _, _, rfl, rfl, upd_same, by omega, by omega, ?_, fun q2 hq2 => ?_⟩
      · show 1 * _ ≤ sizeLine
        rw [Nat.one_mul, ej]
        exact Nat.le_trans (show ((j : Int)).toNat ≤ 11 by omega) (by decide)
      rw [ej]
      have ejn : ((j : Int)).toNat = j := by omega
      rw [ejn]
      have s4 := same_upd (o := .lst (List.replicate j [V.int (z : Int)]).flatten) s3 hq2
      refine ⟨r, q2, _, _, rfl, rfl, s4 _ _ hR, upd_same, ?_, fun q3 hq3 => ?_⟩
      · rw [rl_len, len_rep]
        show y.reads.length + j * 1 ≤ sizeLine
        exact Nat.le_trans (show y.reads.length + j * 1 ≤ 100 by have := Y.len; omega) (by decide)
      rw [← rl_more]
      have s5 := same_upd (o := .lst (rl (Kv348.more j z y.reads))) s4 hq3
      refine ⟨_, rfl, x, al, q3, true, a, Kv348.more j z y.reads, c, rfl, s5.w S.w, upd_same, more_rds Y.rds z1 z2 j, O.good, O.fair, fun H6 s6 => ?_⟩
      rw [okc_is]
      refine ⟨_, rfl, rfl, _, rfl, ?_⟩
      have s7 := s5.trans s6
      refine ite2 (fun q => ?_) (fun q => ?_)
      · have q := of_decide_eq_true q
        have q : okc a c (Kv348.more j z y.reads) = b := by injection q
        refine ⟨_, rfl, (by show 1 ≤ sizeLine; decide), fun p hp => ?_⟩
        rw [find_first (n := j) (N := 11) (by rw [q]; exact beq_self_eq_true b) hm hj] at k
        exact k _ p (same_upd s7 hp) upd_same (s7.free hp)
      · refine ⟨s7, ⟨_, rfl⟩, fun m hm' => ?_⟩
        by_cases e : m = j
        · subst e
          refine beq_eq_false_iff_ne.mpr fun z' => q (decide_eq_true ?_)
          rw [z']
        · exact hm m (by omega)
    case done =>
      rintro σ H2 ⟨s2, ⟨v, rfl⟩, hm⟩
      rw [find_none hm] at k
      refine ⟨(by show 1 ≤ sizeLine; decide), fun p hp => ?_⟩
      exact k _ p (same_upd s2 hp) upd_same (s2.free hp)
/-! ### answer_needs, answer_lasts -/
theorem ok_answer_needs (T : Txt mg) (C : Cl K CA CW) (D_answer_fewest : Def P w K mg base 5 "answer_fewest" p_answer_fewest (sp_fewest CA CW)) (h : Has K mg "answer_needs" s_answer_needs p_answer_needs) : Def P w K mg base 6 "answer_needs" p_answer_needs (sp_call CA CW 14) := by
  refine h.ok sc_answer_needs (fun vs H Q E h => sp_call_len h) (fun f cdv A outer s H vs Q E hr h => ?_)
  obtain ⟨x, al, l, as, rs, s, args, rfl, S, O, hl, nfl, hlen, hpre, k⟩ := h
  obtain ⟨a, rfl, hi⟩ := hpre.resolve_left (by decide)
  obtain ⟨i, z, c, rfl⟩ := len3 hlen
  have S : SAt CA CW H x al as rs true a := S
  have O : AOk a := O
  have hi : i < a.areas.length := hi i List.mem_cons_self
  obtain ⟨_, _, y, hy, ey, _⟩ := S.i hi
  refine ⟨_, (pss_one (ps_ret (pe_d D_answer_fewest (hr.mono (by decide)) rfl (pa_cons (pv 0) (pa_cons (pv 1) (pa_cons pe_bl pa_nil)))))), ?_⟩
  have e : Kv348Neutral.step (some a) [((14 : Nat) : Int) :: cast [i, z, c]] = (some (a.does (.needs i z c)).1, Kv348Neutral.row (a.does (.needs i z c)).2) := rfl
  rw [e, needs_few hi ey] at k
  exact ⟨_, rfl, _, rfl, x, al, l, as, rs, a, i, z, c, true, y, rfl, S, O, hl, hy, fun H' p s1 h1 h2 => k.look (s := some a) S O s1 h1 h2⟩
theorem ok_answer_lasts (T : Txt mg) (C : Cl K CA CW) (D_answer_fewest : Def P w K mg base 5 "answer_fewest" p_answer_fewest (sp_fewest CA CW)) (h : Has K mg "answer_lasts" s_answer_lasts p_answer_lasts) : Def P w K mg base 6 "answer_lasts" p_answer_lasts (sp_call CA CW 15) := by
  refine h.ok sc_answer_lasts (fun vs H Q E h => sp_call_len h) (fun f cdv A outer s H vs Q E hr h => ?_)
  obtain ⟨x, al, l, as, rs, s, args, rfl, S, O, hl, nfl, hlen, hpre, k⟩ := h
  obtain ⟨a, rfl, hi⟩ := hpre.resolve_left (by decide)
  obtain ⟨i, z, c, rfl⟩ := len3 hlen
  have S : SAt CA CW H x al as rs true a := S
  have O : AOk a := O
  have hi : i < a.areas.length := hi i List.mem_cons_self
  obtain ⟨_, _, y, hy, ey, _⟩ := S.i hi
  refine ⟨_, (pss_one (ps_ret (pe_d D_answer_fewest (hr.mono (by decide)) rfl (pa_cons (pv 0) (pa_cons (pv 1) (pa_cons pe_bl pa_nil)))))), ?_⟩
  have e : Kv348Neutral.step (some a) [((15 : Nat) : Int) :: cast [i, z, c]] = (some (a.does (.lasts i z c)).1, Kv348Neutral.row (a.does (.lasts i z c)).2) := rfl
  rw [e, lasts_few hi ey] at k
  exact ⟨_, rfl, _, rfl, x, al, l, as, rs, a, i, z, c, false, y, rfl, S, O, hl, hy, fun H' p s1 h1 h2 => k.look (s := some a) S O s1 h1 h2⟩
/-! ### answer_greatest -/
theorem ok_answer_greatest {Pt : Addr} (T : Txt mg) (C : Cl K CA CW) (lp : base.get? Pt = none) (D_is_open_class : Def P w K mg base 1 "is_open_class" p_is_open_class sp_is_open_class) (D_is_of_class : Def P w K mg base 4 "is_of_class" p_is_of_class (sp_is_of_class CW))
    (D_greatest_that : Def P w K mg base 6 "greatest_that" p_greatest_that (sp_greatest_that P w K mg base 5)) (h : HasL K mg "answer_greatest" s_answer_greatest p_answer_greatest Pt) : Def P w K mg base 7 "answer_greatest" p_answer_greatest (sp_call CA CW 12) := by
  refine h.ok sc_answer_greatest (fun vs H Q E h => sp_call_len h) (fun f cc A outer s H vs Q E lk hr h => ?_)
  obtain ⟨x, al, l, as, rs, s, args, rfl, S, O, hl, nfl, hlen, hpre, k⟩ := h
  obtain ⟨a, rfl, hi⟩ := hpre.resolve_left (by decide)
  obtain ⟨i, z, rfl⟩ := len2 hlen
  have S : SAt CA CW H x al as rs true a := S
  have O : AOk a := O
  obtain ⟨dw, hw⟩ := S.w
  have hi : i < a.areas.length := hi i List.mem_cons_self
  obtain ⟨c, r, y, hy, ey, hc, hr', ⟨⟨dc, hA⟩, hR⟩, hv⟩ := S.i hi
  have Y := O.ys i y hy
  have lc : (Value.ref cc) = .ref cc := rfl
  refine ⟨_, (pss_cons (ps_set (i := 2) sc_answer_greatest.nd rfl (Or.inr rfl) (pe_fld (pe_ix ix_list (pe_fld (pv 0) rfl) (pe_ix ix_list (pv 1) pe_int (fun _ _ => rfl)) (fun _ _ => rfl)) rfl))
      (pss_cons (ps_set (i := 3) sc_answer_greatest.nd rfl (Or.inr rfl) (pe_ix ix_list (pv 1) pe_int (fun _ _ => rfl)))
      (pss_cons (ps_if (pt_not (pt_val (pe_d D_is_open_class (hr.mono (by decide)) rfl (pa_cons (pv 3) pa_nil)))) (pss_one (ps_ret (pe_lst (pa_cons (pe_gint rfl T.c_OUT_OF_RANGE) pa_nil)))) pss_nil)
      (pss_cons (ps_set (i := 4) sc_answer_greatest.nd rfl (Or.inl rfl) (pe_dF D_greatest_that (hr.mono (by decide)) (fun _ => rfl) rfl (pa_cons (pe_lam lk lp rfl (by rfl) (lamFree (sc := defScope s_answer_greatest) (by decide +kernel))) pa_nil)))
      (pss_one (ps_ret (pe_lst (pa_cons (pe_ifExp (pt_cmpR op_gt (pv 4) pe_int (nomark _)) (pv 4) (pe_gint rfl T.c_NEVER)) pa_nil)))))))), ?_⟩
  have e : Kv348Neutral.step (some a) [((12 : Nat) : Int) :: cast [i, z]] = (some (a.does (.greatest i z)).1, Kv348Neutral.row (a.does (.greatest i z)).2) := rfl
  rw [e] at k
  simp only [Kv348.Abs.does] at k
  rw [if_neg (has_t hi), ey] at k
  refine ⟨_, rfl, x, CW, dw, _, _, rfl, hw, C.w, C.w_areas, rfl, _, rfl, l, _, _, _, rfl, rfl, SqL.of hl, at_of (j := 0) rfl rfl, al, _, _, _, rfl, rfl, SqL.of S.lst, at_of (j := i) rfl hv, c, CA, dc, _, _, rfl, hA, C.a, C.a_readings, rfl, ?_⟩
  refine ⟨_, rfl, l, _, _, _, rfl, rfl, SqL.of hl, at_of (j := 1) rfl rfl, ?_⟩
  refine ⟨_, rfl, (z : Int), rfl, _, rfl, ?_⟩
  rw [okC_is]
  cases c1 : Kv348.okC z with
  | false =>
    rw [if_pos c1] at k
    refine iteT ⟨(by show 1 ≤ sizeLine; decide), fun p hp => ?_⟩
    exact k.look (s := some a) S O (same_new hp) upd_same hp
  | true =>
    rw [if_neg (by rw [c1]; exact Bool.noConfusion)] at k
    refine iteF ?_
    intro g H2 s2 L OO Z
    refine ⟨g, fun m => okc a z (m :: y.reads), rfl, fun m m' h3 h4 h5 h6 => okc_mono h4 h6, fun H3 s3 => ?_, fun H3 n s3 G => ?_⟩
    · have st : Same H2 (thaw H3 OO) := same_thaw Z.off s3
      refine lam_at (k := 4) (O := OO) (y := "x") (fs := ["waters", "readings", "c"]) (vals := [.ref x, .ref r, .int (z : Nat)]) (L.mono ((same_frzC Z.off).trans s3)) (fun b o e => s3 _ _ (frzC_at e)) (clos_of Z (lamFree (sc := defScope s_answer_greatest) (by decide +kernel)) rfl fun j x v h3 h4 => ?_)
        ⟨rfl, rfl, rfl, by decide +kernel, rfl⟩ (fun _ _ _ _ => rfl) fun A outer s v cd Q hr ⟨m, hv, m1, m2⟩ q => ?_
      · match j, h3, h4 with
        | 0, h3, h4 =>
          cases h3
          cases h4
          exact ⟨rfl, 0, rfl, rfl⟩
        | 1, h3, h4 =>
          cases h3
          cases h4
          exact ⟨rfl, 2, rfl, rfl⟩
        | 2, h3, h4 =>
          cases h3
          cases h4
          exact ⟨rfl, 3, rfl, rfl⟩
      · subst hv
        refine ⟨_, pe_d D_is_of_class (hr.mono (by decide)) rfl (pa_cons (pv 1) (pa_cons (pe_op op_cat (pv 2) (pe_lst (pa_cons (pv 0) pa_nil))) (pa_cons (pv 3) pa_nil))), ?_⟩
        have st2 : Same H (thaw H3 OO) := s2.trans st
        refine ⟨_, rfl, _, rfl, _, rfl, (by show 1 ≤ sizeLine; decide), fun q1 hq1 => ?_⟩
        have s4 := same_upd (o := .lst [V.int (m : Int)]) st2 hq1
        refine ⟨r, q1, _, _, rfl, rfl, s4 _ _ hR, upd_same, ?_, fun q2 hq2 => ?_⟩
        · rw [rl_len]
          show y.reads.length + 1 ≤ sizeLine
          exact Nat.le_trans (Nat.succ_le_succ Y.len) (by decide)
        · have ec : rl y.reads ++ [V.int (m : Int)] = rl (m :: y.reads) := (rl_cons m y.reads).symm
          rw [ec]
          have s5 := same_upd (o := .lst (rl (m :: y.reads))) s4 hq2
          refine ⟨_, rfl, x, al, q2, true, a, m :: y.reads, z, rfl, s5.w S.w, upd_same, Y.rds.cons m1 m2, O.good, O.fair, fun H6 s6 => ?_⟩
          rw [okc_is]
          refine q _ _ ((same_upd (same_new hq1) hq2).trans s6) fun _ m' e => ?_
          cases e
          rfl
    · obtain ⟨g1, g2, g3⟩ := G
      have sH : Same H (thaw H3 OO) := s2.trans (same_thaw Z.off s3)
      refine ⟨_, rfl, _, _, rfl, rfl, _, rfl, ?_⟩
      rw [show decide ((0 : Int) < (n : Int)) = decide (0 < n) from dec_lt 0 n]
      by_cases c0 : 0 < n
      · rw [decide_eq_true c0]
        have g2 := g2.resolve_left (by omega)
        have eg : a.greatest y.reads z = some n := by
          unfold Kv348.Abs.greatest
          refine last_filter (p := fun x => decide (1 ≤ x) && (a.classOf (x :: y.reads) != 0 && decide (a.classOf (x :: y.reads) ≤ z))) ?_ (by omega) fun m h1 h2 => ?_
          · rw [decide_eq_true (show 1 ≤ n by omega), Bool.true_and]; exact g2
          · have q : okc a z (m :: y.reads) = false := g3 m h1 (by omega)
            show (decide (1 ≤ m) && okc a z (m :: y.reads)) = false
            rw [q, Bool.and_false]
        rw [eg] at k
        refine iteT ⟨_, rfl, (by show 1 ≤ sizeLine; decide), fun p hp => ?_⟩
        exact k.look (s := some a) S O (same_upd sH hp) upd_same (sH.free hp)
      · rw [decide_eq_false c0]
        have eg : a.greatest y.reads z = none := by
          unfold Kv348.Abs.greatest
          refine last_none fun m h2 => ?_
          show (decide (1 ≤ m) && okc a z (m :: y.reads)) = false
          by_cases q : 1 ≤ m
          · have q2 : okc a z (m :: y.reads) = false := g3 m (by omega) (by omega)
            rw [q2, Bool.and_false]
          · rw [decide_eq_false q, Bool.false_and]
        rw [eg] at k
        refine iteF ⟨(by show 1 ≤ sizeLine; decide), fun p hp => ?_⟩
        exact k.look (s := some a) S O (same_upd sH hp) upd_same (sH.free hp)
/-! ### answer_reads -/
theorem rl_rev (l : List Nat) : (rl l).reverse = nl l := by
  unfold rl nl
  rw [← List.map_reverse, List.reverse_reverse]
theorem ok_answer_reads (T : Txt mg) (C : Cl K CA CW) (h : Has K mg "answer_reads" s_answer_reads p_answer_reads) : Def P w K mg base 1 "answer_reads" p_answer_reads (sp_call CA CW 21) := by
  refine h.ok sc_answer_reads (fun vs H Q E h => sp_call_len h) (fun f cdv A outer s H vs Q E hr h => ?_)
  obtain ⟨x, al, l, as, rs, s, args, rfl, S, O, hl, nfl, hlen, hpre, k⟩ := h
  obtain ⟨a, rfl, hi⟩ := hpre.resolve_left (by decide)
  obtain ⟨i, rfl⟩ := len1 hlen
  have S : SAt CA CW H x al as rs true a := S
  have O : AOk a := O
  obtain ⟨dw, hw⟩ := S.w
  have hi : i < a.areas.length := hi i List.mem_cons_self
  obtain ⟨c, r, y, hy, ey, hc, hr', ⟨⟨dc, hA⟩, hR⟩, hv⟩ := S.i hi
  have Y := O.ys i y hy
  refine ⟨_, (pss_cons (ps_set (i := 2) sc_answer_reads.nd rfl (Or.inl rfl) (pe_lrev rfl rfl T.b_list rfl T.b_reversed (pa_cons (pe_slice sl_list (pe_fld (pe_ix ix_list (pe_fld (pv 0) rfl) (pe_ix ix_list (pv 1) pe_int (fun _ _ => rfl)) (fun _ _ => rfl)) rfl) (po_some (pe_un un_neg (pe_gint rfl T.c_LOOKED_AT))) po_none) pa_nil)))
      (pss_one (ps_ret (pe_op op_cat (pe_lst (pa_cons (pe_callB call_len_seq rfl T.b_len PySem.boot_len (pa_cons (pv 2) pa_nil)) pa_nil)) (pv 2))))), ?_⟩
  have e : Kv348Neutral.step (some a) [((21 : Nat) : Int) :: cast [i]] = (some (a.does (.reads i)).1, Kv348Neutral.row (a.does (.reads i)).2) := rfl
  rw [e] at k
  simp only [Kv348.Abs.does] at k
  rw [if_neg (has_t hi), ey] at k
  refine ⟨_, rfl, x, CW, dw, _, _, rfl, hw, C.w, C.w_areas, rfl, _, rfl, l, _, _, _, rfl, rfl, SqL.of hl, at_of (j := 0) rfl rfl, al, _, _, _, rfl, rfl, SqL.of S.lst, at_of (j := i) rfl hv, c, CA, dc, _, _, rfl, hA, C.a, C.a_readings, rfl, ?_⟩
  refine ⟨_, rfl, _, rfl, r, _, rfl, SqL.of hR, fun q hq => ?_⟩
  have e0 : cutV (rl y.reads) (some (-(10 : Int))) none = rl (y.reads.take 10) := cut_last y.reads 10 (by omega)
  rw [e0]
  refine ⟨q, _, rfl, SqL.of upd_same, fun q2 hq2 => ?_⟩
  rw [rl_rev]
  have s2 := same_upd (o := .lst (nl (y.reads.take 10))) (same_new (o := .lst (rl (y.reads.take 10))) hq) hq2
  refine ⟨_, rfl, q2, _, rfl, .inl (SqL.of upd_same), (by show 1 ≤ sizeLine; decide), fun q3 hq3 => ?_⟩
  have n23 : q2 ≠ q3 := fun e => by rw [← e, upd_same] at hq3; cases hq3
  refine ⟨_, rfl, q3, q2, _, _, rfl, rfl, upd_same, by rw [upd_ne n23]; exact upd_same, ?_, fun p hp => ?_⟩
  · rw [nl_len, List.length_take]
    show 1 + min 10 y.reads.length ≤ sizeLine
    exact Nat.le_trans (show 1 + min 10 y.reads.length ≤ 11 by omega) (by decide)
  · have s3 := same_upd (o := .lst [V.int ((nl (y.reads.take 10)).length : Int)]) s2 hq3
    refine k.look (s := some a) S O (same_upd s3 hp) ?_ (s3.free hp)
    rw [upd_same, row_list, nl_len]
    rfl
end
end Sh

set_option Elab.async false
set_option maxRecDepth 100000
set_option maxHeartbeats 2000000
namespace Sh
open PySem PySem.Spec PyProof.Rows L2
/-- the key of an area -/
def gk (a : Kv348.Abs) (v : V) : Int × Int := match v with
  | .int n => ((Kv348.prod (Kv348.five (a.area n.toNat).reads) : Nat), n)
  | _ => (0, 0)
def sp_measured (CA CW : Addr) : Sp := fun vs H Q _ => ∃ (x al : Addr) (as rs : List Addr) (a : Kv348.Abs), vs = [.ref x] ∧ SAt CA CW H x al as rs true a ∧ AOk a ∧
  ∀ H' q m, Same H H' → List.Perm m (a.ids.filter fun i => a.full i) → List.Pairwise (fun i j => a.before i j = true) m → H' q = some (.lst (nl m)) → H q = none → Q (.ref q) H'
theorem full_of {a : Kv348.Abs} {i : Nat} {y : Kv348.Area} (h : a.areas[i]? = some y) : a.full i = decide (5 ≤ y.reads.length) := full_is (area_of h)
theorem nl_perm {out : List V} {m : List Nat} (h : out.Perm (nl m)) : ∃ m' : List Nat, m'.Perm m ∧ nl m' = out := by
  obtain ⟨l', h1, h2⟩ := perm_lift (fun (n : Nat) => V.int (n : Int)) h (l := m) rfl
  exact ⟨l', h1, h2⟩
theorem before_of {a : Kv348.Abs} {i j : Nat} (hi : a.full i = true) (hj : a.full j = true) (h : lexLe (gk a (V.int (i : Int))) (gk a (V.int (j : Int)))) : a.before i j = true := by
  unfold Kv348.Abs.before
  rw [hi, hj]
  have h : ((Kv348.prod (Kv348.five (a.area i).reads) : Nat) : Int) < ((Kv348.prod (Kv348.five (a.area j).reads) : Nat) : Int) ∨ (((Kv348.prod (Kv348.five (a.area i).reads) : Nat) : Int) = ((Kv348.prod (Kv348.five (a.area j).reads) : Nat) : Int) ∧ (i : Int) ≤ (j : Int)) := h
  show (decide (Kv348.prod (Kv348.five (a.area i).reads) < Kv348.prod (Kv348.five (a.area j).reads)) || (Kv348.prod (Kv348.five (a.area i).reads) == Kv348.prod (Kv348.five (a.area j).reads) && decide (i ≤ j))) = true
  rcases h with h | ⟨h1, h2⟩
  · rw [decide_eq_true (by omega), Bool.true_or]
  · rw [beq_iff_eq.mpr (by omega), decide_eq_true (show i ≤ j by omega), Bool.and_true, Bool.or_true]
section
variable {P : Program} {w : World} {K : PySem.W.Frag} {mg : Str → Option Value} {base : Heap} {CA CW : Addr}
theorem ok_measured_areas {Pt : Addr} (T : Txt mg) (C : Cl K CA CW) (lp : base.get? Pt = none) (D_has_mean : Def P w K mg base 1 "has_mean" p_has_mean sp_has_mean) (D_product_of : Def P w K mg base 1 "product_of" p_product_of sp_product_of)
    (h : HasL K mg "measured_areas" s_measured_areas p_measured_areas Pt) : Def P w K mg base 5 "measured_areas" p_measured_areas (sp_measured CA CW) := by
  refine h.ok sc_measured_areas (fun vs H Q E h => ?_) (fun f cc A outer s H vs Q E lk hr h => ?_)
  · obtain ⟨x, al, as, rs, a, rfl, _⟩ := h
    rfl
  obtain ⟨x, al, as, rs, a, rfl, S, O, k⟩ := h
  obtain ⟨dw, hw⟩ := S.w
  refine ⟨_, (pss_cons (ps_setLc (i := 1) (own := [("i", 2), ("area", 3)]) rfl sc_measured_areas.nd rfl rfl (sw_true rfl rfl rfl (by decide +kernel)) (pi_enum rfl T.b_enumerate (pa_cons (pe_fld (pv 0) rfl) pa_nil)) (blkOk_by (N := N_measured_areas) (sc := defScope s_measured_areas) (by decide +kernel)) (fun _ _ _ _ _ => (pg_two (K := K) 2 3 rfl rfl sc_measured_areas.nd rfl rfl (Or.inl rfl) (Or.inl rfl) (Or.inr rfl) (Or.inr rfl))) (fun _ _ _ _ _ => pts_one (pt_val (pe_d D_has_mean (hr.mono (by decide)) rfl (pa_cons (pe_fldK (K := K) rfl (pv 3) rfl) pa_nil)))) (fun _ _ _ _ _ => (pv 2)))
      (pss_one (ps_ret (pe_sortK (k := 2) (hr.mono (by decide)) (fun _ => rfl) rfl T.b_sorted (pa_cons (pv 1) pa_nil) (pe_lam lk lp rfl (by rfl) (lamFree (sc := defScope s_measured_areas) (by decide +kernel))))))), ?_⟩
  refine ⟨_, rfl, x, CW, dw, _, _, rfl, hw, C.w, C.w_areas, rfl, al, _, rfl, SqL.of S.lst, fun D hD => lc_enum (K := K) (a := al) (xs := as.map V.ref) (fun i H' => Same H H' ∧ H' D = some (.lst (nl ((List.range i).filter fun i => a.full i))))
      ⟨same_new hD, upd_same⟩ (fun i H' _ ⟨s2, _⟩ => SqL.of (s2 _ _ S.lst)) ?_ ?_⟩
  · rintro i v t H' hi hT ⟨s2, hd⟩
    obtain ⟨ar, r, y, rfl, hy, h1, h2, ⟨⟨dc, hA⟩, hR⟩⟩ := S.get hi
    have s3 : Same H (upd H' t (.tup [.int (i : Nat), .ref ar])) := same_upd s2 hT
    refine ⟨t, _, rfl, SqT.of upd_same, rfl, _, _, rfl, _, _, rfl, rfl, rfl, _, rfl, ar, CA, dc, _, _, rfl, s3 _ _ hA, C.a, C.a_readings, rfl, r, y.reads, rfl, s3 _ _ hR, _, rfl, ?_⟩
    have hd4 : (upd H' t (.tup [.int (i : Nat), .ref ar])) D = some (.lst (nl ((List.range i).filter fun i => a.full i))) := by rw [upd_ne (ne_of_none hd hT)]; exact hd
    rw [← full_of hy]
    have il : i < 6 := by
      have q := (List.getElem?_eq_some_iff.mp hy).1
      have := O.len
      omega
    cases c : a.full i with
    | true =>
      refine iteT ⟨_, rfl, _, hd4, ?_, same_set s3 hD, ?_⟩
      · rw [nl_len]
        exact Nat.lt_of_le_of_lt (range_filter_len _ i) (Nat.lt_trans il (by decide))
      · rw [upd_same, range_filter_succ, if_pos c, nl_append]
        rfl
    | false =>
      refine iteF ⟨s3, ?_⟩
      rw [hd4, range_filter_succ, if_neg (by rw [c]; exact Bool.false_ne_true), List.append_nil]
  · rintro H1 ⟨s1, hd⟩
    rw [List.length_map, S.la] at hd
    have hd : H1 D = some (.lst (nl (a.ids.filter fun i => a.full i))) := hd
    have mem : ∀ i, i ∈ a.ids.filter (fun i => a.full i) → i < a.areas.length ∧ a.full i = true := fun i hi => by
      obtain ⟨q1, q2⟩ := List.mem_filter.mp hi
      exact ⟨List.mem_range.mp q1, q2⟩
    refine ⟨_, rfl, ?_⟩
    intro g H2 s2 L
    refine ⟨D, g, nl (a.ids.filter fun i => a.full i), gk a, rfl, rfl, SqL.of (s2 _ _ hd), ?_, fun OO Z H3 s3 => ?_, fun H3 out D' s3 pm pw hD' => ?_⟩
    · rw [nl_len]
      have q := range_filter_len (fun i => a.full i) a.areas.length
      have := O.len
      show ((List.range a.areas.length).filter fun i => a.full i).length < 64
      omega
    · have st : Same H2 (thaw H3 OO) := same_thaw Z.off s3
      have stH : Same H (thaw H3 OO) := s1.trans (s2.trans st)
      refine lam_at (k := 1) (O := OO) (y := "i") (fs := ["waters"]) (vals := [.ref x]) (L.mono ((same_frzC Z.off).trans s3)) (fun b o e => s3 _ _ (frzC_at e)) (clos_of Z (lamFree (sc := defScope s_measured_areas) (by decide +kernel)) rfl fun j x v h3 h4 => ?_)
        ⟨rfl, rfl, rfl, by decide +kernel, rfl⟩ (fun _ _ _ _ => rfl) fun A outer s v cd Q hr hv q => ?_
      · match j, h3, h4 with
        | 0, h3, h4 =>
          cases h3
          cases h4
          exact ⟨rfl, 0, rfl, rfl⟩
      · have hv : v ∈ nl (a.ids.filter fun i => a.full i) := hv
        obtain ⟨i, hi, rfl⟩ := List.mem_map.mp hv
        obtain ⟨hi, hf⟩ := mem i hi
        obtain ⟨c, r, y, hy, ey, hc, hr', ⟨⟨dc, hA⟩, hR⟩, hv'⟩ := S.i hi
        have Y := O.ys i y hy
        refine ⟨_, pe_tup (pa_cons (pe_d D_product_of (hr.mono (by decide)) rfl (pa_cons (pe_fld (pe_ix ix_list (pe_fld (pv 1) rfl) (pv 0) (fun _ _ => rfl)) rfl) pa_nil)) (pa_cons (pv 0) pa_nil)), ?_⟩
        refine ⟨_, rfl, x, CW, dw, _, _, rfl, stH _ _ hw, C.w, C.w_areas, rfl, _, rfl, al, _, _, _, rfl, rfl, SqL.of (stH _ _ S.lst), at_of (j := i) rfl hv', c, CA, dc, _, _, rfl, stH _ _ hA, C.a, C.a_readings, rfl, r, y.reads, rfl, stH _ _ hR, Y.rds, fun H5 s5 => ?_⟩
        refine ⟨_, rfl, (by show 2 ≤ sizeLine; decide), fun t ht => ?_⟩
        refine q _ _ (same_upd s5 ht) fun zO => ⟨t, rfl, ?_⟩
        have nt : OO t = none := by
          cases z : OO t with
          | none => rfl
          | some o =>
            have := zO t o z
            rw [upd_same] at this
            cases this
        rw [frzC_ne nt, upd_same]
        have eg : gk a (V.int (i : Int)) = (((Kv348.prod (Kv348.five y.reads) : Nat) : Int), (i : Int)) := by
          show (((Kv348.prod (Kv348.five (a.area ((i : Int)).toNat).reads) : Nat) : Int), (i : Int)) = _
          rw [show ((i : Int)).toNat = i by omega, ey]
        rw [eg]
    · obtain ⟨m, pm2, rfl⟩ := nl_perm pm
      have sH : Same H H3 := s1.trans (s2.trans s3)
      refine k _ D' m (same_upd sH hD') pm2 ?_ upd_same (sH.free hD')
      have pw2 : m.Pairwise fun (i j : Nat) => lexLe (gk a (V.int (i : Int))) (gk a (V.int (j : Int))) := by
        unfold nl at pw
        rw [List.pairwise_map] at pw
        exact pw
      refine pw2.imp_of_mem fun {i j} hi hj hl => ?_
      exact before_of (mem i (pm2.mem_iff.mp hi)).2 (mem j (pm2.mem_iff.mp hj)).2 hl
/-! ### answer_best -/
theorem ok_answer_best (T : Txt mg) (C : Cl K CA CW) (D_measured_areas : Def P w K mg base 5 "measured_areas" p_measured_areas (sp_measured CA CW)) (D_mean_of : Def P w K mg base 3 "mean_of" p_mean_of sp_mean_of)
    (h : Has K mg "answer_best" s_answer_best p_answer_best) : Def P w K mg base 6 "answer_best" p_answer_best (sp_call CA CW 18) := by
  refine h.ok sc_answer_best (fun vs H Q E h => sp_call_len h) (fun f cdv A outer s H vs Q E hr h => ?_)
  obtain ⟨x, al, l, as, rs, s, args, rfl, S, O, hl, nfl, hlen, hpre, k⟩ := h
  obtain ⟨a, rfl, hi⟩ := hpre.resolve_left (by decide)
  obtain rfl := len0 hlen
  have S : SAt CA CW H x al as rs true a := S
  have O : AOk a := O
  obtain ⟨dw, hw⟩ := S.w
  refine ⟨_, (pss_cons (ps_set (i := 2) sc_answer_best.nd rfl (Or.inl rfl) (pe_d D_measured_areas (hr.mono (by decide)) rfl (pa_cons (pv 0) pa_nil)))
      (pss_cons (ps_if (pt_cmpR op_eq (pe_callB call_len_seq rfl T.b_len PySem.boot_len (pa_cons (pv 2) pa_nil)) pe_int (nomark _)) (pss_one (ps_ret (pe_lst (pa_cons (pe_gint rfl T.c_TOO_FEW) pa_nil)))) pss_nil)
      (pss_one (ps_ret (pe_lst (pa_cons (pe_ix ix_list (pv 2) pe_int (fun _ _ => rfl)) (pa_cons (pe_d D_mean_of (hr.mono (by decide)) rfl (pa_cons (pe_fld (pe_ix ix_list (pe_fld (pv 0) rfl) (pe_ix ix_list (pv 2) pe_int (fun _ _ => rfl)) (fun _ _ => rfl)) rfl) pa_nil)) pa_nil))))))), ?_⟩
  have e : Kv348Neutral.step (some a) [((18 : Nat) : Int) :: cast []] = (some (a.does .best).1, Kv348Neutral.row (a.does .best).2) := rfl
  rw [e] at k
  simp only [Kv348.Abs.does] at k
  refine ⟨_, rfl, x, al, as, rs, a, rfl, S, O, fun H1 q m s1 pm pw hq nq => ?_⟩
  refine ⟨_, rfl, q, _, rfl, .inl (SqL.of hq), rfl, _, rfl, ?_⟩
  have mem : ∀ i, i ∈ m → i ∈ a.ids ∧ a.full i = true := fun i hi => List.mem_filter.mp (pm.mem_iff.mp hi)
  cases m with
  | nil =>
    refine ite2 (fun _ => ?_) (fun z => absurd (decide_eq_true rfl) z)
    have en : ∀ j ∈ a.ids, a.full j = false := fun j hj => by
      cases z : a.full j with
      | false => rfl
      | true =>
        have := pm.mem_iff.mpr (List.mem_filter.mpr ⟨hj, z⟩)
        cases this
    rw [best_none en] at k
    refine ⟨(by show 1 ≤ sizeLine; decide), fun p hp => ?_⟩
    exact k.look (s := some a) S O (same_upd s1 hp) upd_same (s1.free hp)
  | cons i m =>
    refine ite2 (fun z => ?_) (fun _ => ?_)
    · have z := of_decide_eq_true z
      have z : (((nl (i :: m)).length : Nat) : Int) = 0 := by injection z
      rw [nl_len] at z
      have : (i :: m).length = m.length + 1 := rfl
      omega
    obtain ⟨him, hif⟩ := mem i List.mem_cons_self
    have hi : i < a.areas.length := List.mem_range.mp him
    obtain ⟨c, r, y, hy, ey, hc, hr', ⟨⟨dc, hA⟩, hR⟩, hv⟩ := S.i hi
    have Y := O.ys i y hy
    obtain ⟨rest, eb⟩ := best_is (l := a.ids) him hif fun j hj hjf => by
      have hm := pm.mem_iff.mpr (List.mem_filter.mpr ⟨hj, hjf⟩)
      rcases List.mem_cons.mp hm with rfl | hm
      · exact (before_total j j).elim id id
      · exact (List.pairwise_cons.mp pw).1 j hm
    rw [eb] at k
    have ez : (nl (i :: m))[0]? = some (V.int (i : Int)) := rfl
    refine ⟨_, rfl, q, _, _, _, rfl, rfl, SqL.of hq, at_of (j := 0) rfl ez, ?_⟩
    refine ⟨_, rfl, x, CW, dw, _, _, rfl, s1 _ _ hw, C.w, C.w_areas, rfl, _, rfl, q, _, _, _, rfl, rfl, SqL.of hq, at_of (j := 0) rfl ez, al, _, _, _, rfl, rfl, SqL.of (s1 _ _ S.lst), at_of (j := i) rfl hv, c, CA, dc, _, _, rfl, s1 _ _ hA, C.a, C.a_readings, rfl, ?_⟩
    refine ⟨r, y.reads, rfl, s1 _ _ hR, Y.rds, fun H2 s2 => ⟨(by show 2 ≤ sizeLine; decide), fun p hp => ?_⟩⟩
    refine k.look (s := some a) S O (same_upd (s1.trans s2) hp) ?_ ((s1.trans s2).free hp)
    rw [upd_same]
    show _ = some (HO.lst [V.int (i : Int), V.int ((Kv348.mean (a.area i).reads : Nat) : Int)])
    rw [ey]
    rfl
/-! ### answer_order -/
theorem order_list {a : Kv348.Abs} {m : List Nat} (pm : m.Perm (a.ids.filter fun i => a.full i)) (pw : m.Pairwise fun i j => a.before i j = true) : a.ids.mergeSort a.before = m ++ a.ids.filter (fun i => !a.full i) := by
  refine order_is ?_ ?_
  · exact (pm.append_right _).trans (List.filter_append_perm _ _)
  · have memm : ∀ i, i ∈ m → a.full i = true := fun i hi => (List.mem_filter.mp (pm.mem_iff.mp hi)).2
    have memn : ∀ i, i ∈ a.ids.filter (fun i => !a.full i) → a.full i = false := fun i hi => by
      have z := (List.mem_filter.mp hi).2
      cases q : a.full i with
      | false => rfl
      | true => rw [q] at z; cases z
    refine List.pairwise_append.mpr ⟨pw, ?_, fun i hi j hj => ?_⟩
    · have sorted : a.ids.Pairwise fun i j => i ≤ j := List.pairwise_le_range
      refine (sorted.filter _).imp_of_mem fun {i j} hi hj hij => ?_
      unfold Kv348.Abs.before
      rw [memn i hi, memn j hj]
      exact decide_eq_true hij
    · unfold Kv348.Abs.before
      rw [memm i hi, memn j hj]
theorem ok_answer_order (T : Txt mg) (C : Cl K CA CW) (D_has_mean : Def P w K mg base 1 "has_mean" p_has_mean sp_has_mean) (D_measured_areas : Def P w K mg base 5 "measured_areas" p_measured_areas (sp_measured CA CW))
    (h : Has K mg "answer_order" s_answer_order p_answer_order) : Def P w K mg base 6 "answer_order" p_answer_order (sp_call CA CW 19) := by
  refine h.ok sc_answer_order (fun vs H Q E h => sp_call_len h) (fun f cdv A outer s H vs Q E hr h => ?_)
  obtain ⟨x, al, l, as, rs, s, args, rfl, S, O, hl, nfl, hlen, hpre, k⟩ := h
  obtain ⟨a, rfl, hi⟩ := hpre.resolve_left (by decide)
  obtain rfl := len0 hlen
  have S : SAt CA CW H x al as rs true a := S
  have O : AOk a := O
  obtain ⟨dw, hw⟩ := S.w
  refine ⟨_, (pss_cons (ps_setLc (i := 2) (own := [("i", 3), ("area", 4)]) rfl sc_answer_order.nd rfl rfl (sw_true rfl rfl rfl (by decide +kernel)) (pi_enum rfl T.b_enumerate (pa_cons (pe_fld (pv 0) rfl) pa_nil)) (blkOk_by (N := N_answer_order) (sc := defScope s_answer_order) (by decide +kernel)) (fun _ _ _ _ _ => (pg_two (K := K) 3 4 rfl rfl sc_answer_order.nd rfl rfl (Or.inl rfl) (Or.inl rfl) (Or.inr rfl) (Or.inr rfl))) (fun _ _ _ _ _ => pts_one (pt_not (pt_val (pe_d D_has_mean (hr.mono (by decide)) rfl (pa_cons (pe_fldK (K := K) rfl (pv 4) rfl) pa_nil))))) (fun _ _ _ _ _ => (pv 3)))
      (pss_one (ps_ret (pe_op op_cat (pe_op op_cat (pe_lst (pa_cons (pe_callB call_len_seq rfl T.b_len PySem.boot_len (pa_cons (pe_fld (pv 0) rfl) pa_nil)) pa_nil)) (pe_d D_measured_areas (hr.mono (by decide)) rfl (pa_cons (pv 0) pa_nil))) (pv 2))))), ?_⟩
  have e : Kv348Neutral.step (some a) [((19 : Nat) : Int) :: cast []] = (some (a.does .order).1, Kv348Neutral.row (a.does .order).2) := rfl
  rw [e] at k
  simp only [Kv348.Abs.does] at k
  refine ⟨_, rfl, x, CW, dw, _, _, rfl, hw, C.w, C.w_areas, rfl, al, _, rfl, SqL.of S.lst, fun D hD => lc_enum (K := K) (a := al) (xs := as.map V.ref) (fun i H' => Same H H' ∧ H' D = some (.lst (nl ((List.range i).filter fun i => !a.full i))))
      ⟨same_new hD, upd_same⟩ (fun i H' _ ⟨s2, _⟩ => SqL.of (s2 _ _ S.lst)) ?_ ?_⟩
  · rintro i v t H' hi hT ⟨s2, hd⟩
    obtain ⟨ar, r, y, rfl, hy, h1, h2, ⟨⟨dc, hA⟩, hR⟩⟩ := S.get hi
    have s3 : Same H (upd H' t (.tup [.int (i : Nat), .ref ar])) := same_upd s2 hT
    refine ⟨t, _, rfl, SqT.of upd_same, rfl, _, _, rfl, _, _, rfl, rfl, rfl, _, rfl, ar, CA, dc, _, _, rfl, s3 _ _ hA, C.a, C.a_readings, rfl, r, y.reads, rfl, s3 _ _ hR, _, rfl, ?_⟩
    have hd4 : (upd H' t (.tup [.int (i : Nat), .ref ar])) D = some (.lst (nl ((List.range i).filter fun i => !a.full i))) := by rw [upd_ne (ne_of_none hd hT)]; exact hd
    rw [← full_of hy]
    have il : i < 6 := by
      have q := (List.getElem?_eq_some_iff.mp hy).1
      have := O.len
      omega
    cases c : a.full i with
    | false =>
      refine iteT ⟨_, rfl, _, hd4, ?_, same_set s3 hD, ?_⟩
      · rw [nl_len]
        exact Nat.lt_of_le_of_lt (range_filter_len _ i) (Nat.lt_trans il (by decide))
      · rw [upd_same, range_filter_succ, if_pos (by rw [c]; rfl), nl_append]
        rfl
    | true =>
      refine iteF ⟨s3, ?_⟩
      rw [hd4, range_filter_succ, if_neg (by rw [c]; exact Bool.false_ne_true), List.append_nil]
  · rintro H1 ⟨s1, hd⟩
    rw [List.length_map, S.la] at hd
    have hd : H1 D = some (.lst (nl (a.ids.filter fun i => !a.full i))) := hd
    refine ⟨_, rfl, x, CW, dw, _, _, rfl, s1 _ _ hw, C.w, C.w_areas, rfl, al, _, rfl, .inl (SqL.of (s1 _ _ S.lst)), (by show 1 ≤ sizeLine; decide), fun q1 hq1 => ?_⟩
    rw [List.length_map, S.la]
    have s2 := same_upd (o := .lst [V.int ((a.areas.length : Nat) : Int)]) s1 hq1
    have s12 : Same H1 (upd H1 q1 (.lst [V.int ((a.areas.length : Nat) : Int)])) := same_new hq1
    refine ⟨_, rfl, x, al, as, rs, a, rfl, s2.s S, O, fun H2 q m s3 pm pw hq nq => ?_⟩
    have lm : m.length ≤ 6 := by
      have z := pm.length_eq
      have z2 := range_filter_len (fun i => a.full i) a.areas.length
      have z3 : (a.ids.filter fun i => a.full i).length ≤ a.areas.length := z2
      have := O.len
      omega
    refine ⟨q1, q, _, _, rfl, rfl, s3 _ _ upd_same, hq, ?_, fun q2 hq2 => ?_⟩
    · rw [nl_len]
      show 1 + m.length ≤ sizeLine
      exact Nat.le_trans (show 1 + m.length ≤ 7 by omega) (by decide)
    · have s4 := same_upd (o := .lst ([V.int ((a.areas.length : Nat) : Int)] ++ nl m)) (s12.trans s3) hq2
      have ln : (a.ids.filter fun i => !a.full i).length ≤ 6 := by
        have z2 : (a.ids.filter fun i => !a.full i).length ≤ a.areas.length := range_filter_len (fun i => !a.full i) a.areas.length
        have := O.len
        omega
      refine ⟨_, rfl, q2, D, _, _, rfl, rfl, upd_same, s4 _ _ hd, ?_, fun p hp => ?_⟩
      · rw [List.length_append, nl_len, nl_len]
        show 1 + m.length + _ ≤ sizeLine
        exact Nat.le_trans (show 1 + m.length + (a.ids.filter fun i => !a.full i).length ≤ 13 by omega) (by decide)
      · have sH : Same H (upd H2 q2 (.lst ([V.int ((a.areas.length : Nat) : Int)] ++ nl m))) := s1.trans s4
        refine k.look (s := some a) S O (same_upd sH hp) ?_ (sH.free hp)
        rw [upd_same, row_list, order_list pm pw, List.length_append, nl_append]
        have el : m.length + (a.ids.filter fun i => !a.full i).length = a.areas.length := by
          have z := (order_list pm pw)
          have z2 : (a.ids.mergeSort a.before).length = a.ids.length := List.length_mergeSort _
          rw [z, List.length_append] at z2
          rw [z2]
          exact List.length_range
        rw [el]
        rfl
end
end Sh

set_option Elab.async false
set_option maxRecDepth 100000
set_option maxHeartbeats 2000000
namespace Sh
open PySem PySem.Spec PyProof.Rows L2
/-! ### calls as numbers -/
theorem lt23F : ∀ n : Fin 23, n.val = 0 ∨ n.val = 1 ∨ n.val = 2 ∨ n.val = 3 ∨ n.val = 4 ∨ n.val = 5 ∨ n.val = 6 ∨ n.val = 7 ∨ n.val = 8 ∨ n.val = 9 ∨ n.val = 10 ∨ n.val = 11 ∨ n.val = 12 ∨ n.val = 13 ∨ n.val = 14 ∨ n.val = 15 ∨ n.val = 16 ∨ n.val = 17 ∨ n.val = 18 ∨ n.val = 19 ∨ n.val = 20 ∨ n.val = 21 ∨ n.val = 22 := by decide
theorem lt23 {n : Nat} (h : n < 23) : n = 0 ∨ n = 1 ∨ n = 2 ∨ n = 3 ∨ n = 4 ∨ n = 5 ∨ n = 6 ∨ n = 7 ∨ n = 8 ∨ n = 9 ∨ n = 10 ∨ n = 11 ∨ n = 12 ∨ n = 13 ∨ n = 14 ∨ n = 15 ∨ n = 16 ∨ n = 17 ∨ n = 18 ∨ n = 19 ∨ n = 20 ∨ n = 21 ∨ n = 22 := lt23F ⟨n, h⟩
theorem shape_is {p : Int} {k : Nat × Nat} (h : PyKv348.shape p = some k) : ∃ n : Nat, n < 23 ∧ p = (n : Int) ∧ k = (arity n, 0) := by
  unfold PyKv348.shape at h
  by_cases e0 : p = 0
  · rw [if_pos e0] at h; exact ⟨0, by omega, e0, (Option.some.inj h).symm⟩
  rw [if_neg e0] at h
  by_cases e1 : p = 1
  · rw [if_pos e1] at h; exact ⟨1, by omega, e1, (Option.some.inj h).symm⟩
  rw [if_neg e1] at h
  by_cases e2 : p = 2
  · rw [if_pos e2] at h; exact ⟨2, by omega, e2, (Option.some.inj h).symm⟩
  rw [if_neg e2] at h
  by_cases e3 : p = 3
  · rw [if_pos e3] at h; exact ⟨3, by omega, e3, (Option.some.inj h).symm⟩
  rw [if_neg e3] at h
  by_cases e4 : p = 4
  · rw [if_pos e4] at h; exact ⟨4, by omega, e4, (Option.some.inj h).symm⟩
  rw [if_neg e4] at h
  by_cases e5 : p = 5
  · rw [if_pos e5] at h; exact ⟨5, by omega, e5, (Option.some.inj h).symm⟩
  rw [if_neg e5] at h
  by_cases e6 : p = 6
  · rw [if_pos e6] at h; exact ⟨6, by omega, e6, (Option.some.inj h).symm⟩
  rw [if_neg e6] at h
  by_cases e7 : p = 7
  · rw [if_pos e7] at h; exact ⟨7, by omega, e7, (Option.some.inj h).symm⟩
  rw [if_neg e7] at h
  by_cases e8 : p = 8
  · rw [if_pos e8] at h; exact ⟨8, by omega, e8, (Option.some.inj h).symm⟩
  rw [if_neg e8] at h
  by_cases e9 : p = 9
  · rw [if_pos e9] at h; exact ⟨9, by omega, e9, (Option.some.inj h).symm⟩
  rw [if_neg e9] at h
  by_cases e10 : p = 10
  · rw [if_pos e10] at h; exact ⟨10, by omega, e10, (Option.some.inj h).symm⟩
  rw [if_neg e10] at h
  by_cases e11 : p = 11
  · rw [if_pos e11] at h; exact ⟨11, by omega, e11, (Option.some.inj h).symm⟩
  rw [if_neg e11] at h
  by_cases e12 : p = 12
  · rw [if_pos e12] at h; exact ⟨12, by omega, e12, (Option.some.inj h).symm⟩
  rw [if_neg e12] at h
  by_cases e13 : p = 13
  · rw [if_pos e13] at h; exact ⟨13, by omega, e13, (Option.some.inj h).symm⟩
  rw [if_neg e13] at h
  by_cases e14 : p = 14
  · rw [if_pos e14] at h; exact ⟨14, by omega, e14, (Option.some.inj h).symm⟩
  rw [if_neg e14] at h
  by_cases e15 : p = 15
  · rw [if_pos e15] at h; exact ⟨15, by omega, e15, (Option.some.inj h).symm⟩
  rw [if_neg e15] at h
  by_cases e16 : p = 16
  · rw [if_pos e16] at h; exact ⟨16, by omega, e16, (Option.some.inj h).symm⟩
  rw [if_neg e16] at h
  by_cases e17 : p = 17
  · rw [if_pos e17] at h; exact ⟨17, by omega, e17, (Option.some.inj h).symm⟩
  rw [if_neg e17] at h
  by_cases e18 : p = 18
  · rw [if_pos e18] at h; exact ⟨18, by omega, e18, (Option.some.inj h).symm⟩
  rw [if_neg e18] at h
  by_cases e19 : p = 19
  · rw [if_pos e19] at h; exact ⟨19, by omega, e19, (Option.some.inj h).symm⟩
  rw [if_neg e19] at h
  by_cases e20 : p = 20
  · rw [if_pos e20] at h; exact ⟨20, by omega, e20, (Option.some.inj h).symm⟩
  rw [if_neg e20] at h
  by_cases e21 : p = 21
  · rw [if_pos e21] at h; exact ⟨21, by omega, e21, (Option.some.inj h).symm⟩
  rw [if_neg e21] at h
  by_cases e22 : p = 22
  · rw [if_pos e22] at h; exact ⟨22, by omega, e22, (Option.some.inj h).symm⟩
  rw [if_neg e22] at h
  cases h
theorem whole_is {n : Nat} (hn : n < 23) {args : List Int} (h : args.length = arity n) : PyKv348.whole [(n : Int) :: args] = [(n : Int) :: args] := by
  rcases lt23 hn with rfl | rfl | rfl | rfl | rfl | rfl | rfl | rfl | rfl | rfl | rfl | rfl | rfl | rfl | rfl | rfl | rfl | rfl | rfl | rfl | rfl | rfl | rfl
  · obtain ⟨a, b, c, d, e, rfl⟩ := len5 h; rfl
  · obtain rfl := len0 h; rfl
  · obtain ⟨a, b, rfl⟩ := len2 h; rfl
  · obtain ⟨a, rfl⟩ := len1 h; rfl
  · obtain ⟨a, rfl⟩ := len1 h; rfl
  · obtain ⟨a, rfl⟩ := len1 h; rfl
  · obtain ⟨a, rfl⟩ := len1 h; rfl
  · obtain rfl := len0 h; rfl
  · obtain rfl := len0 h; rfl
  · obtain ⟨a, rfl⟩ := len1 h; rfl
  · obtain ⟨a, rfl⟩ := len1 h; rfl
  · obtain ⟨a, rfl⟩ := len1 h; rfl
  · obtain ⟨a, b, rfl⟩ := len2 h; rfl
  · obtain ⟨a, b, rfl⟩ := len2 h; rfl
  · obtain ⟨a, b, c, rfl⟩ := len3 h; rfl
  · obtain ⟨a, b, c, rfl⟩ := len3 h; rfl
  · obtain ⟨a, b, rfl⟩ := len2 h; rfl
  · obtain ⟨a, b, rfl⟩ := len2 h; rfl
  · obtain rfl := len0 h; rfl
  · obtain rfl := len0 h; rfl
  · obtain ⟨a, rfl⟩ := len1 h; rfl
  · obtain ⟨a, rfl⟩ := len1 h; rfl
  · obtain rfl := len0 h; rfl
/-- one call is taken off -/
theorem calls_cons {f : Nat} {p : Int} {r : List Int} {cs : List (List (List Int))} (h : PyFlat.calls PyKv348.shape f (p :: r) = some cs) :
    ∃ (n : Nat) (f' : Nat) (cs' : List (List (List Int))), n < 23 ∧ p = (n : Int) ∧ arity n ≤ r.length ∧ PyFlat.calls PyKv348.shape f' (r.drop (arity n)) = some cs' ∧ cs = [(n : Int) :: r.take (arity n)] :: cs' := by
  cases f with
  | zero => cases h
  | succ f =>
    have h : (match PyFlat.call PyKv348.shape (p :: r) with
      | none => none
      | some (c, t) => match PyFlat.calls PyKv348.shape f t with
        | none => none
        | some cs => some (c :: cs)) = some cs := h
    cases e : PyFlat.call PyKv348.shape (p :: r) with
    | none => rw [e] at h; cases h
    | some ct =>
      obtain ⟨c, t⟩ := ct
      rw [e] at h
      have h : (match PyFlat.calls PyKv348.shape f t with
        | none => none
        | some cs => some (c :: cs)) = some cs := h
      cases e2 : PyFlat.calls PyKv348.shape f t with
      | none => rw [e2] at h; cases h
      | some cs' =>
        rw [e2] at h
        have hcs : c :: cs' = cs := Option.some.inj h
        have e : (match PyKv348.shape p with
          | none => none
          | some (n, k) => if r.length < n then none else match PyFlat.rows k (r.drop n) with
            | none => none
            | some (xs, t) => some ((p :: r.take n) :: xs, t)) = some (c, t) := e
        cases e3 : PyKv348.shape p with
        | none => rw [e3] at e; cases e
        | some k =>
          obtain ⟨n, hn, hp, hk⟩ := shape_is e3
          subst hk
          rw [e3] at e
          have e : (if r.length < arity n then none else some ((p :: r.take (arity n)) :: [], r.drop (arity n))) = some (c, t) := e
          by_cases hl : r.length < arity n
          · rw [if_pos hl] at e; cases e
          · rw [if_neg hl] at e
            have e := Option.some.inj e
            injection e with ec et
            subst ec et hp hcs
            exact ⟨n, f, cs', hn, rfl, by omega, e2, rfl⟩
/-! ### refusals ahead of the call's own -/
theorem step_none {n : Nat} (hn : n < 23) (h0 : n ≠ 0) (args : List Int) : Kv348Neutral.step none [(n : Int) :: args] = (none, [-11]) := by
  rcases lt23 hn with rfl | rfl | rfl | rfl | rfl | rfl | rfl | rfl | rfl | rfl | rfl | rfl | rfl | rfl | rfl | rfl | rfl | rfl | rfl | rfl | rfl | rfl | rfl
  · exact absurd rfl h0
  all_goals rfl
theorem has_f {a : Kv348.Abs} {i : Nat} (h : ¬ i < a.areas.length) : a.has i = false := by
  unfold Kv348.Abs.has
  exact decide_eq_false h
theorem step_area {n : Nat} (hn : n < 23) {a : Kv348.Abs} {args : List Nat} (hl : args.length = arity n) {z : Nat} (hz : z ∈ args.take (places n)) (hb : ¬ z < a.areas.length) : Kv348Neutral.step (some a) [(n : Int) :: cast args] = (some a, [-2]) := by
  have one : ∀ {i : Nat}, z ∈ [i] → a.has i = false := fun {i} m => by
    have e := List.mem_singleton.mp m
    subst e
    exact has_f hb
  rcases lt23 hn with rfl | rfl | rfl | rfl | rfl | rfl | rfl | rfl | rfl | rfl | rfl | rfl | rfl | rfl | rfl | rfl | rfl | rfl | rfl | rfl | rfl | rfl | rfl
  · exact absurd (show z ∈ ([] : List Nat) from hz) (by simp)
  · exact absurd (show z ∈ args.take 0 from hz) (by simp)
  · obtain ⟨i, x, rfl⟩ := len2 hl
    show (some (a.does (.read i x)).1, Kv348Neutral.row (a.does (.read i x)).2) = _
    simp only [Kv348.Abs.does]; rw [if_pos (one hz)]; rfl
  · obtain ⟨i, rfl⟩ := len1 hl
    show (some (a.does (.back i)).1, Kv348Neutral.row (a.does (.back i)).2) = _
    simp only [Kv348.Abs.does]; rw [if_pos (one hz)]; rfl
  · exact absurd (show z ∈ args.take 0 from hz) (by simp)
  · exact absurd (show z ∈ args.take 0 from hz) (by simp)
  · obtain ⟨i, rfl⟩ := len1 hl
    show (some (a.does (.class_ i)).1, Kv348Neutral.row (a.does (.class_ i)).2) = _
    simp only [Kv348.Abs.does]; rw [if_pos (one hz)]; rfl
  · exact absurd (show z ∈ args.take 0 from hz) (by simp)
  · exact absurd (show z ∈ args.take 0 from hz) (by simp)
  · obtain ⟨i, rfl⟩ := len1 hl
    show (some (a.does (.opens i)).1, Kv348Neutral.row (a.does (.opens i)).2) = _
    simp only [Kv348.Abs.does]; rw [if_pos (one hz)]; rfl
  · obtain ⟨i, rfl⟩ := len1 hl
    show (some (a.does (.mean i)).1, Kv348Neutral.row (a.does (.mean i)).2) = _
    simp only [Kv348.Abs.does]; rw [if_pos (one hz)]; rfl
  · obtain ⟨i, rfl⟩ := len1 hl
    show (some (a.does (.evenly i)).1, Kv348Neutral.row (a.does (.evenly i)).2) = _
    simp only [Kv348.Abs.does]; rw [if_pos (one hz)]; rfl
  · obtain ⟨i, x, rfl⟩ := len2 hl
    show (some (a.does (.greatest i x)).1, Kv348Neutral.row (a.does (.greatest i x)).2) = _
    simp only [Kv348.Abs.does]; rw [if_pos (one hz)]; rfl
  · obtain ⟨i, x, rfl⟩ := len2 hl
    show (some (a.does (.would i x)).1, Kv348Neutral.row (a.does (.would i x)).2) = _
    simp only [Kv348.Abs.does]; rw [if_pos (one hz)]; rfl
  · obtain ⟨i, x, c, rfl⟩ := len3 hl
    show (some (a.does (.needs i x c)).1, Kv348Neutral.row (a.does (.needs i x c)).2) = _
    simp only [Kv348.Abs.does]; rw [if_pos (one hz)]; rfl
  · obtain ⟨i, x, c, rfl⟩ := len3 hl
    show (some (a.does (.lasts i x c)).1, Kv348Neutral.row (a.does (.lasts i x c)).2) = _
    simp only [Kv348.Abs.does]; rw [if_pos (one hz)]; rfl
  · obtain ⟨i, x, rfl⟩ := len2 hl
    show (some (a.does (.above i x)).1, Kv348Neutral.row (a.does (.above i x)).2) = _
    simp only [Kv348.Abs.does]; rw [if_pos (one hz)]; rfl
  · obtain ⟨i, j, rfl⟩ := len2 hl
    show (some (a.does (.worse i j)).1, Kv348Neutral.row (a.does (.worse i j)).2) = _
    have q : a.has i = false ∨ a.has j = false := by
      rcases List.mem_cons.mp (show z ∈ [i, j] from hz) with e | m
      · subst e; exact .inl (has_f hb)
      · exact .inr (one m)
    simp only [Kv348.Abs.does]; rw [if_pos q]; rfl
  · exact absurd (show z ∈ args.take 0 from hz) (by simp)
  · exact absurd (show z ∈ args.take 0 from hz) (by simp)
  · obtain ⟨i, rfl⟩ := len1 hl
    show (some (a.does (.why i)).1, Kv348Neutral.row (a.does (.why i)).2) = _
    simp only [Kv348.Abs.does]; rw [if_pos (one hz)]; rfl
  · obtain ⟨i, rfl⟩ := len1 hl
    show (some (a.does (.reads i)).1, Kv348Neutral.row (a.does (.reads i)).2) = _
    simp only [Kv348.Abs.does]; rw [if_pos (one hz)]; rfl
  · exact absurd (show z ∈ args.take 0 from hz) (by simp)
theorem Post.mono {CA CW : Addr} {H H2 : Hp} {x : Addr} {foot : List Addr} {r : Kv348.State × List Int} {Q : VK} (k : Post CA CW H x foot r Q) (s : Same H H2) : Post CA CW H2 x foot r Q := fun H' al as rs p h1 h2 h3 h4 h5 h6 =>
  k H' al as rs p h1 h2 (fun c o e n => h3 c o (s _ _ e) n) (fun c hc => (h4 c hc).imp id fun q => s.free q) h5 (s.free h6)
/-- xs[:k] -/
theorem cut_first (l : List V) (k : Nat) : cutV l none (some (k : Int)) = l.take k := by
  unfold cutV
  rw [HT.sIx_none, HT.sIx_nat, List.drop_zero, Nat.sub_zero]
  by_cases h : k ≤ l.length
  · rw [show min k l.length = k by omega]
  · rw [show min k l.length = l.length by omega, List.take_length, List.take_of_length_le (by omega)]
theorem cut_mid (l : List V) (i j : Nat) (h : j ≤ l.length) : cutV l (some (i : Int)) (some (j : Int)) = (l.drop i).take (j - i) := by
  unfold cutV
  rw [HT.sIx_nat, HT.sIx_nat, show min j l.length = j by omega]
  by_cases hi : i ≤ l.length
  · rw [show min i l.length = i by omega]
  · rw [show min i l.length = l.length by omega, List.drop_length, List.drop_of_length_le (by omega), List.take_nil, List.take_nil]
theorem nl_take (l : List Nat) (k : Nat) : (nl l).take k = nl (l.take k) := (List.map_take).symm
/-! ### the table -/
structure Tab (P : Program) (w : World) (K : PySem.W.Frag) (mg : Str → Option Value) (base : Heap) (CA CW ca : Addr) (rows : List Addr) (k : Nat) : Prop where
  mgc : mg "CALLS" = some (.ref ca)
  sq : ∀ H, SqT K H ca (rows.map V.ref)
  row : ∀ n, n < 23 → ∃ t f fd, rows[n]? = some t ∧ (∀ H, SqT K H t [.ref f, .int (arity n : Nat), .int (places n : Nat)]) ∧ PySem.W.keepIn K (.ref f) = true ∧ Binds K fd ["waters", "arguments"] [] ∧ FnOk P w K mg base CX0 k f fd ["waters", "arguments"] (sp_call CA CW n)
section
variable {P : Program} {w : World} {K : PySem.W.Frag} {mg : Str → Option Value} {base : Heap} {CA CW : Addr}
def sp_answer_call (CA CW : Addr) : Sp := fun vs H Q _ => ∃ (x al l : Addr) (as rs : List Addr) (s : Kv348.State) (args : List Nat) (n : Nat), vs = [.ref x, .int (n : Nat), .ref l] ∧ n < 23 ∧ SAt CA CW H x al as rs (repB s) (repA s) ∧ AOk (repA s) ∧ H l = some (.lst (nl args)) ∧
  l ∉ x :: al :: (as ++ rs) ∧ args.length = arity n ∧ Post CA CW H x (x :: al :: (as ++ rs)) (Kv348Neutral.step s [(n : Int) :: cast args]) Q
theorem ok_answer_call {ca : Addr} {rows : List Addr} {k0 : Nat} (T : Txt mg) (C : Cl K CA CW) (B : Tab P w K mg base CA CW ca rows k0) (h : Has K mg "answer_call" s_answer_call p_answer_call) : Def P w K mg base (k0 + 1) "answer_call" p_answer_call (sp_answer_call CA CW) := by
  refine h.ok sc_answer_call (fun vs H Q E h => ?_) (fun f cdv A outer s H vs Q E hr h => ?_)
  · obtain ⟨x, al, l, as, rs, s, args, n, rfl, _⟩ := h
    rfl
  · obtain ⟨x, al, l, as, rs, s, args, n, rfl, hn, S, O, hl, nfl, hlen, k⟩ := h
    obtain ⟨t, fn, fd, ht, hq, hk, hb, F⟩ := B.row n hn
    obtain ⟨dw, hw⟩ := S.w
    have htv : (rows.map V.ref)[n]? = some (.ref t) := by rw [List.getElem?_map, ht]; rfl
    refine ⟨_, (pss_cons (ps_set (i := 3) sc_answer_call.nd rfl (Or.inl rfl) (pe_ix ix_tup (pe_gref rfl B.mgc) (pv 1) (fun _ _ => rfl)))
      (pss_cons (ps_if (PW.pt (pw_and (pt_cmpR op_ne (pv 1) (pe_gint rfl T.c_BEGIN) (nomark _)) (pw_and1 (pt_not (pt_val (pe_fld (pv 0) rfl)))))) (pss_one (ps_ret (pe_lst (pa_cons (pe_gint rfl T.c_NOT_BEGUN) pa_nil)))) pss_nil)
      (pss_cons (ps_for PassesOwn.never rfl (pi_list (pe_slice sl_list (pv 2) po_none (po_some (pe_ix ix_tup (pv 3) pe_int (fun _ _ => rfl))))) (pg_name (i := 4) sc_answer_call.nd rfl (Or.inl rfl)) (pss_one (ps_if (pt_cmpR op_ge (pv 4) (pe_callB call_len_seq rfl T.b_len PySem.boot_len (pa_cons (pe_fld (pv 0) rfl) pa_nil)) (nomark _)) (pss_one (ps_ret (pe_lst (pa_cons (pe_gint rfl T.c_NO_SUCH_AREA) pa_nil)))) pss_nil)))
      (pss_cons (ps_set (i := 5) sc_answer_call.nd rfl (Or.inl rfl) (pe_ix ix_tup (pv 3) pe_int (fun _ _ => rfl)))
      (pss_one (ps_ret (pe_callV 5 F hk hb (hr.mono (Nat.le_refl _)) (pa_cons (pv 0) (pa_cons (pv 2) pa_nil)))))))) ), ?_⟩
    refine ⟨_, rfl, ca, _, _, _, rfl, rfl, B.sq _, at_of (j := n) rfl htv, ?_⟩
    dsimp only [gName]
    refine seq_rest ((n = 0 ∨ ∃ a, s = some a)) ?b (fun rest => ?a)
    case a =>
      refine ⟨_, rfl, rfl, _, rfl, ?_⟩
      by_cases h0 : n = 0
      · have e : (!decide (V.int ((n : Nat) : Int) = V.int 0)) = false := by rw [h0]; rfl
        rw [e]
        exact iteF (iteF (rest (.inl h0) H (Same.refl H)))
      · have e : (!decide (V.int ((n : Nat) : Int) = V.int 0)) = true := by
          rw [decide_eq_false]
          · rfl
          · intro q
            injection q with q
            omega
        rw [e]
        refine iteT ⟨_, rfl, x, CW, dw, _, _, rfl, hw, C.w, C.w_begun, rfl, _, rfl, ?_⟩
        cases s with
        | none =>
          rw [step_none hn h0] at k
          refine iteT ⟨(by show 1 ≤ sizeLine; decide), fun p hp => ?_⟩
          exact k.look S O (same_new hp) upd_same hp
        | some a => exact iteF (rest (.inr ⟨a, rfl⟩) H (Same.refl H))
    case b =>
      intro hs H0 s0
      have hl0 := s0 _ _ hl
      refine ⟨_, rfl, _, rfl, t, _, _, _, rfl, rfl, hq _, at_of (j := 2) rfl rfl, _, rfl, l, _, rfl, SqL.of hl0, fun p hp => ?_⟩
      rw [cut_first, nl_take]
      have s1 : Same H (upd H0 p (.lst (nl (args.take (places n))))) := same_upd s0 hp
      generalize hH1 : upd H0 p (.lst (nl (args.take (places n)))) = H1 at s1
      have hp1 : H1 p = some (.lst (nl (args.take (places n)))) := by rw [← hH1]; exact upd_same
      refine ⟨p, rfl, ⟨_, SqL.of hp1⟩, for_list (K := K) (a := p) (xs := nl (args.take (places n))) (fun j σ H' => H' = H1 ∧ (∃ v : Option V, σ = [some (.ref x), some (.int (n : Nat)), some (.ref l), some (.ref t), v, none]) ∧ ∀ z ∈ (args.take (places n)).take j, z < (repA s).areas.length)
        ⟨rfl, ⟨none, rfl⟩, fun z hz => (by simp at hz)⟩ (fun j σ H' _ ⟨e, _⟩ => by subst e; exact SqL.of hp1) ?_ ?_⟩
      · rintro j v σ H' hj ⟨rfl, ⟨v', rfl⟩, hz⟩
        obtain ⟨z, hz1, rfl⟩ := get_map hj
        refine ⟨_, rfl, _, rfl, x, CW, dw, _, _, rfl, s1 _ _ hw, C.w, C.w_areas, rfl, al, _, rfl, .inl (SqL.of (s1 _ _ S.lst)), _, _, rfl, rfl, _, rfl, ?_⟩
        have ed : decide (((as.map V.ref).length : Int) ≤ (z : Int)) = decide ((repA s).areas.length ≤ z) := by
          rw [List.length_map, S.la]
          exact dec_le _ z
        rw [ed]
        refine ite2 (fun c => ?_) (fun c => ?_)
        · have c := of_decide_eq_true c
          have mz : z ∈ args.take (places n) := List.mem_of_getElem? hz1
          rcases hs with h0 | ⟨a, rfl⟩
          · subst h0
            exact absurd (show z ∈ args.take 0 from mz) (by simp)
          · rw [step_area hn hlen mz (show ¬ z < a.areas.length from fun q => absurd c (by show ¬ a.areas.length ≤ z; omega))] at k
            refine ⟨(by show 1 ≤ sizeLine; decide), fun q hq' => ?_⟩
            exact k.look (s := some a) S O (same_upd s1 hq') upd_same (s1.free hq')
        · have c : ¬ (repA s).areas.length ≤ z := fun q => c (decide_eq_true q)
          refine ⟨rfl, ⟨some (.int z), rfl⟩, fun u hu => ?_⟩
          rw [take_snoc hz1] at hu
          rcases List.mem_append.mp hu with m | m
          · exact hz u m
          · rw [List.mem_singleton.mp m]; omega
      · rintro σ H' ⟨rfl, ⟨v, rfl⟩, hz⟩
        have hz : ∀ z ∈ args.take (places n), z < (repA s).areas.length := by
          have e : (args.take (places n)).take (nl (args.take (places n))).length = args.take (places n) := by rw [nl_len]; exact List.take_length
          rw [e] at hz
          exact hz
        refine ⟨_, rfl, t, _, _, _, rfl, rfl, hq _, at_of (j := 0) rfl rfl, ?_⟩
        refine ⟨rfl, _, rfl, _, rfl, x, al, l, as, rs, s, args, rfl, s1.s S, O, s1 _ _ hl, nfl, hlen, ?_, k.mono s1⟩
        rcases hs with h0 | ⟨a, rfl⟩
        · exact .inl h0
        · exact .inr ⟨a, rfl, hz⟩
end
end Sh

set_option Elab.async false
set_option maxRecDepth 100000
set_option maxHeartbeats 2000000
namespace Sh
open PySem PySem.Spec PyProof.Rows L2
/-- numbers from 0 on, as naturals -/
def nats (l : List Int) : List Nat := l.map Int.toNat
theorem cast_nats : ∀ {l : List Int}, (∀ z ∈ l, 0 ≤ z) → cast (nats l) = l
  | [], _ => rfl
  | z :: l, h => by
    have h1 := h z List.mem_cons_self
    show ((z.toNat : Nat) : Int) :: cast (nats l) = z :: l
    rw [cast_nats fun u hu => h u (List.mem_cons_of_mem _ hu), Int.toNat_of_nonneg h1]
theorem nl_nats {l : List Int} (h : ∀ z ∈ l, 0 ≤ z) : nl (nats l) = il l := by
  have e : nl (nats l) = il (cast (nats l)) := by
    unfold nl il cast
    rw [List.map_map]
    rfl
  rw [e, cast_nats h]
/-- what's still due: behind what is told already, the answers of the calls that are left -/
def due (s : Kv348.State) (cs : List (List (List Int))) : List Int := PyFlat.told (PyFlat.played Kv348Neutral.step s (cs.map PyKv348.whole))
theorem due_nil (s : Kv348.State) : due s [] = [] := rfl
theorem due_cons (s : Kv348.State) {n : Nat} (hn : n < 23) {args : List Int} (hl : args.length = arity n) (cs : List (List (List Int))) :
    due s ([(n : Int) :: args] :: cs) = (((Kv348Neutral.step s [(n : Int) :: args]).2.length : Nat) : Int) :: ((Kv348Neutral.step s [(n : Int) :: args]).2 ++ due (Kv348Neutral.step s [(n : Int) :: args]).1 cs) := by
  unfold due
  rw [List.map_cons, whole_is hn hl]
  rfl
theorem asked_calls {ns : List Int} (h : PyKv348.answers_asked ns = true) : ∃ raw, PyFlat.calls PyKv348.shape ns.length ns = some raw ∧ PyKv348.answers ns = due none raw ∧ (PyKv348.answers ns).length ≤ 10000000 := by
  unfold PyKv348.answers_asked at h
  cases e : PyFlat.calls PyKv348.shape ns.length ns with
  | none => rw [e] at h; cases h
  | some raw =>
    rw [e] at h
    have h : (!raw.isEmpty && PyFlat.atMost 256 raw && PyInside.calls PyKv348.bound raw && Kv348Neutral.asked (raw.map PyKv348.whole) && PyFlat.short 10000000 (PyKv348.answers ns)) = true := h
    have h := (Bool.and_eq_true_iff.mp h).2
    refine ⟨raw, rfl, ?_, of_decide_eq_true h⟩
    unfold PyKv348.answers PyKv348.calls
    rw [e]
    rfl
section
variable {P : Program} {w : World} {K : PySem.W.Frag} {mg : Str → Option Value} {base : Heap} {CA CW : Addr}
def sp_answers (K : PySem.W.Frag) : Sp := fun vs H Q _ => ∃ (c : Addr) (ns : List Int), vs = [.ref c] ∧ SqL K H c (ns.map V.int) ∧ (∀ z ∈ ns, 0 ≤ z) ∧ PyKv348.answers_asked ns = true ∧ ∀ (H' : Hp) (p : Addr), H' p = some (.lst ((PyKv348.answers ns).map V.int)) → Q (.ref p) H'
/-- between two turns -/
structure Turn (CA CW : Addr) (H0 : Hp) (ns : List Int) (x t : Addr) (i : Nat) (H : Hp) (al : Addr) (as rs : List Addr) (s : Kv348.State) (tl : List Int) (cs : List (List (List Int))) (f : Nat) : Prop where
  S : SAt CA CW H x al as rs (repB s) (repA s)
  O : AOk (repA s)
  same : Same H0 H
  foot : ∀ d ∈ x :: al :: (as ++ rs), H0 d = none
  t0 : H0 t = none
  tn : t ∉ x :: al :: (as ++ rs)
  told : H t = some (.lst (il tl))
  le : i ≤ ns.length
  left : PyFlat.calls PyKv348.shape f (ns.drop i) = some cs
  eq : PyKv348.answers ns = tl ++ due s cs
theorem ok_answers {ca : Addr} {rows : List Addr} {k0 : Nat} (T : Txt mg) (C : Cl K CA CW) (B : Tab P w K mg base CA CW ca rows k0) (D_Waters : MkD P w K mg base 1 "Waters" CW p_Waters_init (sp_Waters_init CA CW))
    (D_answer_call : Def P w K mg base (k0 + 1) "answer_call" p_answer_call (sp_answer_call CA CW)) {f0 : Addr} {fd0 : FuncData} (F0 : Fun K "answers" "answers" s_answers f0 fd0) : FnOk P w K mg base CX0 (k0 + 1 + 1 + 1) f0 fd0 p_answers (sp_answers K) := by
  refine F0.ok sc_answers (fun vs H Q E h => ?_) (fun cdv A outer s H vs Q E hr h => ?_)
  · obtain ⟨c, ns, rfl, _⟩ := h
    rfl
  · obtain ⟨c, ns, rfl, hS, hnn, hask, k⟩ := h
    obtain ⟨raw, hraw, hans, hshort⟩ := asked_calls hask
    refine ⟨_, (pss_cons (ps_set (i := 1) sc_answers.nd rfl (Or.inl rfl) (pe_mk0 D_Waters (hr.mono (by omega)) rfl))
      (pss_cons (ps_set (i := 2) sc_answers.nd rfl (Or.inl rfl) (pe_lst pa_nil))
      (pss_cons (ps_set (i := 3) sc_answers.nd rfl (Or.inl rfl) pe_int)
      (pss_cons (ps_while PassesOwn.never (pt_cmpR op_lt (pv 3) (pe_callB call_len_seq rfl T.b_len PySem.boot_len (pa_cons (pv 0) pa_nil)) (nomark _)) (pss_cons (ps_set (i := 4) sc_answers.nd rfl (Or.inl rfl) (pe_ix ix_list (pv 0) (pv 3) (fun _ _ => rfl)))
      (pss_cons (ps_set (i := 5) sc_answers.nd rfl (Or.inl rfl) (pe_op op_add (pe_op op_add (pv 3) pe_int) (pe_ix ix_tup (pe_ix ix_tup (pe_gref rfl B.mgc) (pv 4) (fun _ _ => rfl)) pe_int (fun _ _ => rfl))))
      (pss_cons (ps_set (i := 6) sc_answers.nd rfl (Or.inl rfl) (pe_d D_answer_call (hr.mono (by omega)) rfl (pa_cons (pv 1) (pa_cons (pv 4) (pa_cons (pe_slice sl_list (pv 0) (po_some (pe_op op_add (pv 3) pe_int)) (po_some (pv 5))) pa_nil)))))
      (pss_cons (ps_expr (pe_bm PySem.F.plainAttrs_list PySem.F.slot_list_append PySem.F.type_list_append mt_append (pv 2) (pa_cons (pe_callB call_len_seq rfl T.b_len PySem.boot_len (pa_cons (pv 6) pa_nil)) pa_nil)))
      (pss_cons (ps_expr (pe_bm PySem.F.plainAttrs_list PySem.F.slot_list_extend PySem.F.type_list_extend mt_extend (pv 2) (pa_cons (pv 6) pa_nil)))
      (pss_one (ps_set (i := 3) sc_answers.nd rfl (Or.inl rfl) (pv 5)))))))))
      (pss_one (ps_ret (pv 2))))))), ?_⟩
    -- waters = Waters(); told = []; at = 0
    intro x dx nx nd ne
    refine ⟨x, dx, rfl, upd_same, fun H1 al hal S kp => ⟨rfl, ?_⟩⟩
    have s1 : Same H H1 := Same.made nx nd kp
    have al0 : H al = none := by
      have q1 : al ≠ x := fun q => by rw [q, upd_same] at hal; cases hal
      rw [upd_ne q1] at hal
      have q2 : al ≠ dx := fun q => by rw [q, upd_same] at hal; cases hal
      rw [upd_ne q2] at hal
      exact hal
    refine ⟨Nat.zero_le _, fun t ht => ?_⟩
    have T0 : Turn CA CW H ns x t 0 (upd H1 t (.lst [])) al [] [] none [] raw ns.length := by
      refine ⟨(same_new ht).s S, ⟨Nat.zero_le _, Nat.zero_le _, Nat.zero_le _, fun i y h => (by cases h)⟩, same_upd s1 ht, fun d hd => ?_, s1.free ht, fun m => ?_, upd_same, Nat.zero_le _, hraw, hans⟩
      · rcases List.mem_cons.mp hd with rfl | hd
        · exact nx
        · rw [List.mem_singleton.mp hd]; exact al0
      · obtain ⟨o, e⟩ := S.old t m
        rw [ht] at e
        cases e
    refine while_by (fun σ H' => ∃ (i : Nat) (v4 v5 v6 : Option V) (al : Addr) (as rs : List Addr) (s : Kv348.State) (tl : List Int) (cs : List (List (List Int))) (f : Nat), σ = [some (.ref c), some (.ref x), some (.ref t), some (.int i), v4, v5, v6] ∧ Turn CA CW H ns x t i H' al as rs s tl cs f)
      (fun σ _ => match σ with | [_, _, _, some (.int i), _, _, _] => ((ns.length : Int) - i).toNat | _ => 0) ⟨0, none, none, none, al, [], [], none, [], raw, ns.length, rfl, T0⟩ ?_ ?_
    · rintro σ H' ⟨i, v4, v5, v6, al, as, rs, s, tl, cs, f, rfl, I⟩
      refine ⟨_, rfl, _, rfl, c, _, rfl, .inl (I.same.seq hS), _, _, rfl, rfl, _, rfl, ?_⟩
      have ed : decide ((i : Int) < ((ns.map V.int).length : Int)) = decide (i < ns.length) := by
        rw [List.length_map]
        exact dec_lt i _
      rw [ed]
      refine ite2 (fun hi => ?_) (fun hi => ?_)
      · have hi : i < ns.length := of_decide_eq_true hi
        have hd : ns.drop i = ns[i] :: ns.drop (i + 1) := List.drop_eq_getElem_cons hi
        have hleft := I.left
        rw [hd] at hleft
        obtain ⟨n, f', cs', hn, hp, hal', hcs', rfl⟩ := calls_cons hleft
        obtain ⟨tn, fn, fd, htn, hq, hk, hb, F⟩ := B.row n hn
        have htv : (rows.map V.ref)[n]? = some (.ref tn) := by rw [List.getElem?_map, htn]; rfl
        have hget : (ns.map V.int)[i]? = some (.int (n : Int)) := by
          rw [List.getElem?_map, List.getElem?_eq_getElem hi, hp]
          rfl
        -- number, behind
        refine ⟨_, rfl, _, rfl, c, _, _, _, rfl, rfl, I.same.seq hS, at_of (j := i) rfl hget, ?_⟩
        refine ⟨_, rfl, _, _, rfl, rfl, _, rfl, ca, _, _, _, rfl, rfl, B.sq _, at_of (j := n) rfl htv, tn, _, _, _, rfl, rfl, hq _, at_of (j := 1) rfl rfl, _, _, rfl, rfl, ?_⟩
        -- reply
        refine ⟨_, rfl, _, rfl, _, rfl, _, rfl, _, _, rfl, rfl, _, rfl, _, rfl, _, rfl, c, _, rfl, I.same.seq hS, fun q hq0 => ?_⟩
        have hlen : (ns.drop (i + 1)).length = ns.length - (i + 1) := List.length_drop
        have ecut : cutV (ns.map V.int) (some ((i : Int) + 1)) (some ((i : Int) + 1 + ((arity n : Nat) : Int))) = nl (nats ((ns.drop (i + 1)).take (arity n))) := by
          have e1 : (i : Int) + 1 = ((i + 1 : Nat) : Int) := by omega
          have e2 : (i : Int) + 1 + ((arity n : Nat) : Int) = ((i + 1 + arity n : Nat) : Int) := by omega
          rw [e2, e1, cut_mid _ _ _ (by rw [List.length_map]; omega), nl_nats fun z hz => hnn z (List.mem_of_mem_drop (List.mem_of_mem_take hz)), show i + 1 + arity n - (i + 1) = arity n by omega]
          unfold il
          rw [List.map_take, List.map_drop]
        have s2 : Same H' (upd H' q (.lst (nl (nats ((ns.drop (i + 1)).take (arity n)))))) := same_new hq0
        show sp_answer_call CA CW _ (upd H' q (.lst (cutV (ns.map V.int) (some ((i : Int) + 1)) (some ((i : Int) + 1 + ((arity n : Nat) : Int)))))) _ E0
        rw [ecut]
        have hargs : ∀ z ∈ (ns.drop (i + 1)).take (arity n), 0 ≤ z := fun z hz => hnn z (List.mem_of_mem_drop (List.mem_of_mem_take hz))
        have hal2 : ((ns.drop (i + 1)).take (arity n)).length = arity n := by rw [List.length_take]; omega
        have nq : q ∉ x :: al :: (as ++ rs) := fun m => by
          obtain ⟨o, e⟩ := I.S.old q m
          rw [hq0] at e
          cases e
        refine ⟨x, al, q, as, rs, s, nats ((ns.drop (i + 1)).take (arity n)), n, rfl, hn, s2.s I.S, I.O, upd_same, nq, by unfold nats; rw [List.length_map]; exact hal2, fun H3 al3 as3 rs3 p S3 O3 fr sub hp3 hp0 => ?_⟩
        rw [cast_nats hargs] at S3 O3 hp3
        have hpt : p ≠ t := fun e => by
          rw [e] at hp0
          rw [s2 _ _ I.told] at hp0
          cases hp0
        have told3 : H3 t = some (.lst (il tl)) := fr t _ (s2 _ _ I.told) I.tn
        have edue := due_cons s hn hal2 cs'
        generalize hst : Kv348Neutral.step s [(n : Int) :: (ns.drop (i + 1)).take (arity n)] = st at S3 O3 hp3 edue
        have heq := I.eq
        rw [edue] at heq
        have hL : tl.length + 1 + st.2.length ≤ 10000000 := by
          rw [heq] at hshort
          rw [List.length_append, List.length_cons, List.length_append] at hshort
          omega
        have hsz : (10000000 : Nat) < sizeLine := by decide
        -- told.append(len(reply)); told.extend(reply)
        refine ⟨_, rfl, .inl ⟨rfl, _, SqL.of told3⟩, _, rfl, p, _, rfl, .inl (SqL.of hp3), t, _, _, rfl, rfl, told3, (by rw [il_len]; omega), ?_⟩
        refine ⟨_, rfl, .inl ⟨rfl, _, SqL.of upd_same⟩, _, rfl, t, p, _, _, rfl, rfl, upd_same, by rw [upd_ne hpt]; exact hp3, (by rw [List.length_append, il_len, il_len]; show tl.length + 1 + st.2.length ≤ sizeLine; omega), ?_⟩
        rw [upd_upd]
        refine ⟨_, rfl, ⟨i + 1 + arity n, some (.int (n : Nat)), some (.int ((i : Int) + 1 + ((arity n : Nat) : Int))), some (.ref p), al3, as3, rs3, st.1, tl ++ (((st.2.length : Nat) : Int) :: st.2), cs', f', ?_, ?_⟩, ?_⟩
        · show [some (V.ref c), some (V.ref x), some (V.ref t), some (V.int ((i : Int) + 1 + ((arity n : Nat) : Int))), some (V.int (n : Nat)), some (V.int ((i : Int) + 1 + ((arity n : Nat) : Int))), some (V.ref p)] = _
          have e2 : (i : Int) + 1 + ((arity n : Nat) : Int) = ((i + 1 + arity n : Nat) : Int) := by omega
          rw [e2]
        · have tn3 : t ∉ x :: al3 :: (as3 ++ rs3) := fun m => by
            rcases List.mem_cons.mp m with e | m
            · exact I.tn (by rw [e]; exact List.mem_cons_self)
            · rcases sub t m with m | e
              · exact I.tn m
              · rw [s2 _ _ I.told] at e
                cases e
          have sH3 : Same H H3 := fun d o e => fr d o (s2 _ _ (I.same _ _ e)) fun m => by
            rw [I.foot d m] at e
            cases e
          have S4 : SAt CA CW (upd H3 t (.lst (il (tl ++ (((st.2.length : Nat) : Int) :: st.2))))) x al3 as3 rs3 (repB st.1) (repA st.1) := by
            obtain ⟨dw, hw⟩ := S3.w
            have nt : ∀ d ∈ x :: al3 :: (as3 ++ rs3), d ≠ t := fun d hd e => tn3 (by rw [← e]; exact hd)
            refine ⟨⟨dw, by rw [upd_ne (nt x List.mem_cons_self)]; exact hw⟩, by rw [upd_ne (nt al3 (List.mem_cons_of_mem _ List.mem_cons_self))]; exact S3.lst, S3.la, S3.lr, fun j y hy => ?_, S3.nd⟩
            obtain ⟨c', r', q1, q2, ⟨⟨dc, q3⟩, q4⟩⟩ := S3.at_ j y hy
            exact ⟨c', r', q1, q2, ⟨dc, by rw [upd_ne (nt c' (List.mem_cons_of_mem _ (List.mem_cons_of_mem _ (List.mem_append_left _ (List.mem_of_getElem? q1)))))]; exact q3⟩,
              by rw [upd_ne (nt r' (List.mem_cons_of_mem _ (List.mem_cons_of_mem _ (List.mem_append_right _ (List.mem_of_getElem? q2)))))]; exact q4⟩
          have econt : (il tl ++ [V.int ((il st.2).length : Int)]) ++ il st.2 = il (tl ++ (((st.2.length : Nat) : Int) :: st.2)) := by
            rw [il_len]
            unfold il
            rw [List.map_append, List.append_assoc]
            rfl
          rw [econt]
          refine ⟨S4, O3, fun d o e => ?_, fun d hd => ?_, I.t0, tn3, upd_same, by omega, ?_, ?_⟩
          · have q1 : d ≠ t := fun e2 => by rw [e2, I.t0] at e; cases e
            rw [upd_ne q1]
            exact sH3 _ _ e
          · rcases List.mem_cons.mp hd with rfl | hd
            · exact I.foot _ List.mem_cons_self
            · rcases sub d hd with m | e
              · exact I.foot d m
              · exact I.same.free (s2.free e)
          · rw [← List.drop_drop]
            exact hcs'
          · rw [heq, List.append_assoc]
            rfl
        · show ((ns.length : Int) - ((i : Int) + 1 + ((arity n : Nat) : Int))).toNat < ((ns.length : Int) - (i : Int)).toNat
          omega
      · have hi : ¬ i < ns.length := fun q => hi (decide_eq_true q)
        refine ⟨_, rfl, k _ t ?_⟩
        have e0 : ns.drop i = [] := List.drop_eq_nil_of_le (by omega)
        have hleft := I.left
        rw [e0] at hleft
        have ecs : cs = [] := by
          have q : PyFlat.calls PyKv348.shape f [] = some [] := by cases f <;> rfl
          rw [q] at hleft
          exact (Option.some.inj hleft).symm
        have heq := I.eq
        rw [ecs, due_nil, List.append_nil] at heq
        rw [heq]
        exact I.told
    · rintro σ H Q Q' hq ⟨v, h1, v', h2, p, ys, e1, e2, i, j, e3, e4, k', e5, q⟩
      exact ⟨v, h1, v', h2, p, ys, e1, e2, i, j, e3, e4, k', e5, hq _ _ q⟩
end
end Sh

set_option Elab.async false
set_option maxRecDepth 100000
set_option maxHeartbeats 2000000
namespace Sh
open PySem PySem.Spec PyProof.Rows L2
section
variable {K : PySem.W.Frag} {h : Heap} {mg : Str → Option Value}
theorem has_mk {x : Str} {st : Stmt} {ps : List Str} {f : Addr} {oc : Value} {od an : Option Addr} {osl : Array (Option Value)} {kV doc pm cdv ct : Value} (X : K.In h) (G : h.Ns mainGlobals mg) (a : PySem.W.nsIn K mainGlobals x = some (some (.ref f)))
    (l : K.lookup f = some ⟨oc, od, .func (PySem.W.fnOf x x (defArgs st) (defBody st) (defScope st) .none kV doc pm an cdv ct), osl⟩) (c : PySem.W.codeIn K cdv x = true) (k : PySem.W.keepIn K (.ref f) = true)
    (hb : ∀ (kV doc pm : Value) (an : Option Addr) (cdv ct : Value) (us : List Value), us.length = ps.length → bindArgs (PySem.W.fnOf x x (defArgs st) (defBody st) (defScope st) .none kV doc pm an cdv ct) ⟨us, []⟩ = pure (ps.zip us)) : Has K mg x st ps := by
  have F := fun_mk (st := st) l c k
  exact ⟨f, _, F, PySem.W.mg_of X G a, F.binds hb⟩
/-- the code at c has a table -/
def tabOk (K : PySem.W.Frag) (c : Addr) : Bool := match K.lookup c with
  | some o => (match o.data with
    | .fields vs => (match (vs[11]? : Option Value) with | some (.ref t) => PySem.W.codeHdIn K c t | _ => false)
    | _ => false)
  | none => false
theorem tabOk_ex {c : Addr} (h : tabOk K c = true) : ∃ t, PySem.W.codeHdIn K c t = true := by
  unfold tabOk at h
  split at h
  · split at h
    · split at h
      · exact ⟨_, h⟩
      · cases h
    · cases h
  · cases h
theorem hasL_mk {x : Str} {st : Stmt} {ps : List Str} {f cc : Addr} {oc : Value} {od an : Option Addr} {osl : Array (Option Value)} {kV doc pm ct : Value} (X : K.In h) (G : h.Ns mainGlobals mg) (a : PySem.W.nsIn K mainGlobals x = some (some (.ref f)))
    (l : K.lookup f = some ⟨oc, od, .func (PySem.W.fnOf x x (defArgs st) (defBody st) (defScope st) .none kV doc pm an (.ref cc) ct), osl⟩) (c : PySem.W.codeIn K (.ref cc) x = true) (k : PySem.W.keepIn K (.ref f) = true) (t : tabOk K cc = true)
    (hb : ∀ (kV doc pm : Value) (an : Option Addr) (cdv ct : Value) (us : List Value), us.length = ps.length → bindArgs (PySem.W.fnOf x x (defArgs st) (defBody st) (defScope st) .none kV doc pm an cdv ct) ⟨us, []⟩ = pure (ps.zip us)) : ∃ Pt, HasL K mg x st ps Pt := by
  have F := fun_mk (st := st) l c k
  obtain ⟨Pt, e⟩ := tabOk_ex t
  exact ⟨Pt, f, _, cc, F, PySem.W.mg_of X G a, F.binds hb, rfl, e⟩
theorem cls_mk {C : Addr} (pg : PySem.W.plainGet K C Str.empty = true) (hd : PySem.W.hasDictIn K C = true) (po : PySem.W.plainOver K C = true) (sa : PySem.W.findIn K (.ref C) "__setattr__" = some (some (.builtin "object.__setattr__"))) : Cls K C := ⟨pg, hd, po, sa⟩
theorem mkd_mk {P : Program} {w : World} {base : Heap} {x q : Str} {C f : Addr} {st : Stmt} {ps : List Str} {sp : Sp} {oc : Value} {od an : Option Addr} {osl : Array (Option Value)} {kV doc pm cdv ct : Value} (X : K.In h) (G : h.Ns mainGlobals mg)
    (a : PySem.W.nsIn K mainGlobals x = some (some (.ref C))) (i : PySem.W.findIn K (.ref C) "__init__" = some (some (.ref f))) (fn : PySem.W.isFn K (.ref f) = true)
    (l : K.lookup f = some ⟨oc, od, .func (PySem.W.fnOf "__init__" q (defArgs st) (defBody st) (defScope st) .none kV doc pm an cdv ct), osl⟩) (c : PySem.W.codeIn K cdv q = true) (k : PySem.W.keepIn K (.ref f) = true) (mk : PySem.W.makesIn K C = true) (kc : PySem.W.keepIn K (.ref C) = true)
    (hb : ∀ (kV doc pm : Value) (an : Option Addr) (cdv ct : Value) (us : List Value), us.length = ps.length → bindArgs (PySem.W.fnOf "__init__" q (defArgs st) (defBody st) (defScope st) .none kV doc pm an cdv ct) ⟨us, []⟩ = pure (ps.zip us))
    (ok : ∀ fd : FuncData, Fun K "__init__" q st f fd → FnOk P w K mg base CX0 1 f fd ps sp) : MkD P w K mg base 1 x C ps sp := by
  have F := fun_mk (st := st) l c k
  exact ⟨f, _, ⟨mk, i, fn, kc⟩, PySem.W.mg_of X G a, F.binds hb, ok _ F⟩
theorem tup_mk {ca : Addr} {od : Option Addr} {its : Array Value} {n : Nat} {sl : Array (Option Value)} {xs : List V} (l : K.lookup ca = some ⟨.type "tuple", od, .seq its n, sl⟩) (hz : its.size ≤ sizeLine) (hv : Vals xs its.toList) : ∀ H, SqT K H ca xs := fun H => .inr ⟨_, its, n, l, rfl, rfl, hz, hv⟩
theorem ref_mk {x : Str} {ca : Addr} (X : K.In h) (G : h.Ns mainGlobals mg) (a : PySem.W.nsIn K mainGlobals x = some (some (.ref ca))) {R : Prop} (r : mg x = some (.ref ca) → R) : R := r (PySem.W.mg_of X G a)
theorem int_mk {x : Str} {n : Int} {t : Tok} (X : K.In h) (G : h.Ns mainGlobals mg) (a : PySem.W.nsIn K mainGlobals x = some (some (.int n t))) : ∃ t, mg x = some (.int n t) := ⟨t, PySem.W.mg_of X G a⟩
theorem ans_mk {fa f : Addr} {oc : Value} {od an : Option Addr} {osl : Array (Option Value)} {kV doc pm cdv ct : Value} (X : K.In h) (G : h.Ns mainGlobals mg) (hfa : mg "answers" = some (.ref fa)) (a : PySem.W.nsIn K mainGlobals "answers" = some (some (.ref f)))
    (l : K.lookup f = some ⟨oc, od, .func (PySem.W.fnOf "answers" "answers" (defArgs s_answers) (defBody s_answers) (defScope s_answers) .none kV doc pm an cdv ct), osl⟩) (c : PySem.W.codeIn K cdv "answers" = true) (k : PySem.W.keepIn K (.ref f) = true) :
    ∃ fd : FuncData, (∀ (s : Shared) (us : List Value), us.length = (["calls"] : List Str).length → BindsTo s fd ⟨us, []⟩ ((["calls"] : List Str).zip us)) ∧ Fun K "answers" "answers" s_answers fa fd := by
  have e := hfa.symm.trans (PySem.W.mg_of X G a)
  cases e
  exact ⟨PySem.W.fnOf "answers" "answers" (defArgs s_answers) (defBody s_answers) (defScope s_answers) .none kV doc pm an cdv ct, fun s us hu => match us, hu with | [_], _ => .of_eq rfl, fun_mk (st := s_answers) l c k⟩
theorem row_mk {P : Program} {w : World} {base : Heap} {CA CW f : Addr} {k n : Nat} {x : Str} (hm : mg x = some (.ref f)) (D : Def P w K mg base k x ["waters", "arguments"] (sp_call CA CW n)) :
    ∃ fd, PySem.W.keepIn K (.ref f) = true ∧ Binds K fd ["waters", "arguments"] [] ∧ FnOk P w K mg base CX0 k f fd ["waters", "arguments"] (sp_call CA CW n) := by
  obtain ⟨f', fd, hm', hk, hb, F⟩ := D
  rw [hm] at hm'
  cases hm'
  exact ⟨fd, hk, hb, F⟩
end
end Sh

set_option Elab.async false
set_option maxRecDepth 100000
set_option maxHeartbeats 2000000
namespace Sh
open PySem PySem.Spec PyProof.Rows L2
section
variable {K : PySem.W.Frag} {h : Heap} {mg : Str → Option Value}
def fname (n : Nat) : Str := (["answer_begin", "answer_area", "answer_read", "answer_back", "answer_rainfall", "answer_days", "answer_class", "answer_open", "answer_shut", "answer_opens", "answer_mean", "answer_evenly", "answer_greatest", "answer_would", "answer_needs", "answer_lasts", "answer_above", "answer_worse", "answer_best", "answer_order", "answer_why", "answer_reads", "answer_state"] : List Str).getD n ""
abbrev deep : Nat := 8
theorem tab_mk {P : Program} {w : World} {CA CW : Addr} {k : Nat} (X : K.In h) (G : h.Ns mainGlobals mg) {ca t0 t1 t2 t3 t4 t5 t6 t7 t8 t9 t10 t11 t12 t13 t14 t15 t16 t17 t18 t19 t20 t21 t22 f0 f1 f2 f3 f4 f5 f6 f7 f8 f9 f10 f11 f12 f13 f14 f15 f16 f17 f18 f19 f20 f21 f22 : Addr}
    {od od0 od1 od2 od3 od4 od5 od6 od7 od8 od9 od10 od11 od12 od13 od14 od15 od16 od17 od18 od19 od20 od21 od22 : Option Addr} {sl sl0 sl1 sl2 sl3 sl4 sl5 sl6 sl7 sl8 sl9 sl10 sl11 sl12 sl13 sl14 sl15 sl16 sl17 sl18 sl19 sl20 sl21 sl22 : Array (Option Value)} {m m0 m1 m2 m3 m4 m5 m6 m7 m8 m9 m10 m11 m12 m13 m14 m15 m16 m17 m18 m19 m20 m21 m22 : Nat} {x0 x1 x2 x3 x4 x5 x6 x7 x8 x9 x10 x11 x12 x13 x14 x15 x16 x17 x18 x19 x20 x21 x22 y0 y1 y2 y3 y4 y5 y6 y7 y8 y9 y10 y11 y12 y13 y14 y15 y16 y17 y18 y19 y20 y21 y22 : Tok}
    (a : PySem.W.nsIn K mainGlobals "CALLS" = some (some (.ref ca))) (l : K.lookup ca = some ⟨.type "tuple", od, .seq #[.ref t0, .ref t1, .ref t2, .ref t3, .ref t4, .ref t5, .ref t6, .ref t7, .ref t8, .ref t9, .ref t10, .ref t11, .ref t12, .ref t13, .ref t14, .ref t15, .ref t16, .ref t17, .ref t18, .ref t19, .ref t20, .ref t21, .ref t22] m, sl⟩)
    (l0 : K.lookup t0 = some ⟨.type "tuple", od0, .seq #[.ref f0, .int 5 x0, .int 0 y0] m0, sl0⟩) (n0 : PySem.W.nsIn K mainGlobals "answer_begin" = some (some (.ref f0)))
    (l1 : K.lookup t1 = some ⟨.type "tuple", od1, .seq #[.ref f1, .int 0 x1, .int 0 y1] m1, sl1⟩) (n1 : PySem.W.nsIn K mainGlobals "answer_area" = some (some (.ref f1)))
    (l2 : K.lookup t2 = some ⟨.type "tuple", od2, .seq #[.ref f2, .int 2 x2, .int 1 y2] m2, sl2⟩) (n2 : PySem.W.nsIn K mainGlobals "answer_read" = some (some (.ref f2)))
    (l3 : K.lookup t3 = some ⟨.type "tuple", od3, .seq #[.ref f3, .int 1 x3, .int 1 y3] m3, sl3⟩) (n3 : PySem.W.nsIn K mainGlobals "answer_back" = some (some (.ref f3)))
    (l4 : K.lookup t4 = some ⟨.type "tuple", od4, .seq #[.ref f4, .int 1 x4, .int 0 y4] m4, sl4⟩) (n4 : PySem.W.nsIn K mainGlobals "answer_rainfall" = some (some (.ref f4)))
    (l5 : K.lookup t5 = some ⟨.type "tuple", od5, .seq #[.ref f5, .int 1 x5, .int 0 y5] m5, sl5⟩) (n5 : PySem.W.nsIn K mainGlobals "answer_days" = some (some (.ref f5)))
    (l6 : K.lookup t6 = some ⟨.type "tuple", od6, .seq #[.ref f6, .int 1 x6, .int 1 y6] m6, sl6⟩) (n6 : PySem.W.nsIn K mainGlobals "answer_class" = some (some (.ref f6)))
    (l7 : K.lookup t7 = some ⟨.type "tuple", od7, .seq #[.ref f7, .int 0 x7, .int 0 y7] m7, sl7⟩) (n7 : PySem.W.nsIn K mainGlobals "answer_open" = some (some (.ref f7)))
    (l8 : K.lookup t8 = some ⟨.type "tuple", od8, .seq #[.ref f8, .int 0 x8, .int 0 y8] m8, sl8⟩) (n8 : PySem.W.nsIn K mainGlobals "answer_shut" = some (some (.ref f8)))
    (l9 : K.lookup t9 = some ⟨.type "tuple", od9, .seq #[.ref f9, .int 1 x9, .int 1 y9] m9, sl9⟩) (n9 : PySem.W.nsIn K mainGlobals "answer_opens" = some (some (.ref f9)))
    (l10 : K.lookup t10 = some ⟨.type "tuple", od10, .seq #[.ref f10, .int 1 x10, .int 1 y10] m10, sl10⟩) (n10 : PySem.W.nsIn K mainGlobals "answer_mean" = some (some (.ref f10)))
    (l11 : K.lookup t11 = some ⟨.type "tuple", od11, .seq #[.ref f11, .int 1 x11, .int 1 y11] m11, sl11⟩) (n11 : PySem.W.nsIn K mainGlobals "answer_evenly" = some (some (.ref f11)))
    (l12 : K.lookup t12 = some ⟨.type "tuple", od12, .seq #[.ref f12, .int 2 x12, .int 1 y12] m12, sl12⟩) (n12 : PySem.W.nsIn K mainGlobals "answer_greatest" = some (some (.ref f12)))
    (l13 : K.lookup t13 = some ⟨.type "tuple", od13, .seq #[.ref f13, .int 2 x13, .int 1 y13] m13, sl13⟩) (n13 : PySem.W.nsIn K mainGlobals "answer_would" = some (some (.ref f13)))
    (l14 : K.lookup t14 = some ⟨.type "tuple", od14, .seq #[.ref f14, .int 3 x14, .int 1 y14] m14, sl14⟩) (n14 : PySem.W.nsIn K mainGlobals "answer_needs" = some (some (.ref f14)))
    (l15 : K.lookup t15 = some ⟨.type "tuple", od15, .seq #[.ref f15, .int 3 x15, .int 1 y15] m15, sl15⟩) (n15 : PySem.W.nsIn K mainGlobals "answer_lasts" = some (some (.ref f15)))
    (l16 : K.lookup t16 = some ⟨.type "tuple", od16, .seq #[.ref f16, .int 2 x16, .int 1 y16] m16, sl16⟩) (n16 : PySem.W.nsIn K mainGlobals "answer_above" = some (some (.ref f16)))
    (l17 : K.lookup t17 = some ⟨.type "tuple", od17, .seq #[.ref f17, .int 2 x17, .int 2 y17] m17, sl17⟩) (n17 : PySem.W.nsIn K mainGlobals "answer_worse" = some (some (.ref f17)))
    (l18 : K.lookup t18 = some ⟨.type "tuple", od18, .seq #[.ref f18, .int 0 x18, .int 0 y18] m18, sl18⟩) (n18 : PySem.W.nsIn K mainGlobals "answer_best" = some (some (.ref f18)))
    (l19 : K.lookup t19 = some ⟨.type "tuple", od19, .seq #[.ref f19, .int 0 x19, .int 0 y19] m19, sl19⟩) (n19 : PySem.W.nsIn K mainGlobals "answer_order" = some (some (.ref f19)))
    (l20 : K.lookup t20 = some ⟨.type "tuple", od20, .seq #[.ref f20, .int 1 x20, .int 1 y20] m20, sl20⟩) (n20 : PySem.W.nsIn K mainGlobals "answer_why" = some (some (.ref f20)))
    (l21 : K.lookup t21 = some ⟨.type "tuple", od21, .seq #[.ref f21, .int 1 x21, .int 1 y21] m21, sl21⟩) (n21 : PySem.W.nsIn K mainGlobals "answer_reads" = some (some (.ref f21)))
    (l22 : K.lookup t22 = some ⟨.type "tuple", od22, .seq #[.ref f22, .int 0 x22, .int 0 y22] m22, sl22⟩) (n22 : PySem.W.nsIn K mainGlobals "answer_state" = some (some (.ref f22)))
    : ∃ ca rows, ∀ base : Heap, (∀ n, n < 23 → Def P w K mg base k (fname n) ["waters", "arguments"] (sp_call CA CW n)) → Tab P w K mg base CA CW ca rows k := by
  refine ⟨ca, [t0, t1, t2, t3, t4, t5, t6, t7, t8, t9, t10, t11, t12, t13, t14, t15, t16, t17, t18, t19, t20, t21, t22], fun base D => ⟨PySem.W.mg_of X G a, tup_mk l (by show 23 ≤ sizeLine; decide) ?_, fun n hn => ?_⟩⟩
  · exact (.cons rfl (.cons rfl (.cons rfl (.cons rfl (.cons rfl (.cons rfl (.cons rfl (.cons rfl (.cons rfl (.cons rfl (.cons rfl (.cons rfl (.cons rfl (.cons rfl (.cons rfl (.cons rfl (.cons rfl (.cons rfl (.cons rfl (.cons rfl (.cons rfl (.cons rfl (.cons rfl .nil)))))))))))))))))))))))
  · have D := D n hn
    rcases lt23 hn with rfl | rfl | rfl | rfl | rfl | rfl | rfl | rfl | rfl | rfl | rfl | rfl | rfl | rfl | rfl | rfl | rfl | rfl | rfl | rfl | rfl | rfl | rfl
    · obtain ⟨fd, h1, h2, h3⟩ := row_mk (PySem.W.mg_of X G n0) D
      exact ⟨t0, f0, fd, rfl, tup_mk l0 (by show 3 ≤ sizeLine; decide) (.cons rfl (.cons ⟨_, rfl⟩ (.cons ⟨_, rfl⟩ .nil))), h1, h2, h3⟩
    · obtain ⟨fd, h1, h2, h3⟩ := row_mk (PySem.W.mg_of X G n1) D
      exact ⟨t1, f1, fd, rfl, tup_mk l1 (by show 3 ≤ sizeLine; decide) (.cons rfl (.cons ⟨_, rfl⟩ (.cons ⟨_, rfl⟩ .nil))), h1, h2, h3⟩
    · obtain ⟨fd, h1, h2, h3⟩ := row_mk (PySem.W.mg_of X G n2) D
      exact ⟨t2, f2, fd, rfl, tup_mk l2 (by show 3 ≤ sizeLine; decide) (.cons rfl (.cons ⟨_, rfl⟩ (.cons ⟨_, rfl⟩ .nil))), h1, h2, h3⟩
    · obtain ⟨fd, h1, h2, h3⟩ := row_mk (PySem.W.mg_of X G n3) D
      exact ⟨t3, f3, fd, rfl, tup_mk l3 (by show 3 ≤ sizeLine; decide) (.cons rfl (.cons ⟨_, rfl⟩ (.cons ⟨_, rfl⟩ .nil))), h1, h2, h3⟩
    · obtain ⟨fd, h1, h2, h3⟩ := row_mk (PySem.W.mg_of X G n4) D
      exact ⟨t4, f4, fd, rfl, tup_mk l4 (by show 3 ≤ sizeLine; decide) (.cons rfl (.cons ⟨_, rfl⟩ (.cons ⟨_, rfl⟩ .nil))), h1, h2, h3⟩
    · obtain ⟨fd, h1, h2, h3⟩ := row_mk (PySem.W.mg_of X G n5) D
      exact ⟨t5, f5, fd, rfl, tup_mk l5 (by show 3 ≤ sizeLine; decide) (.cons rfl (.cons ⟨_, rfl⟩ (.cons ⟨_, rfl⟩ .nil))), h1, h2, h3⟩
    · obtain ⟨fd, h1, h2, h3⟩ := row_mk (PySem.W.mg_of X G n6) D
      exact ⟨t6, f6, fd, rfl, tup_mk l6 (by show 3 ≤ sizeLine; decide) (.cons rfl (.cons ⟨_, rfl⟩ (.cons ⟨_, rfl⟩ .nil))), h1, h2, h3⟩
    · obtain ⟨fd, h1, h2, h3⟩ := row_mk (PySem.W.mg_of X G n7) D
      exact ⟨t7, f7, fd, rfl, tup_mk l7 (by show 3 ≤ sizeLine; decide) (.cons rfl (.cons ⟨_, rfl⟩ (.cons ⟨_, rfl⟩ .nil))), h1, h2, h3⟩
    · obtain ⟨fd, h1, h2, h3⟩ := row_mk (PySem.W.mg_of X G n8) D
      exact ⟨t8, f8, fd, rfl, tup_mk l8 (by show 3 ≤ sizeLine; decide) (.cons rfl (.cons ⟨_, rfl⟩ (.cons ⟨_, rfl⟩ .nil))), h1, h2, h3⟩
    · obtain ⟨fd, h1, h2, h3⟩ := row_mk (PySem.W.mg_of X G n9) D
      exact ⟨t9, f9, fd, rfl, tup_mk l9 (by show 3 ≤ sizeLine; decide) (.cons rfl (.cons ⟨_, rfl⟩ (.cons ⟨_, rfl⟩ .nil))), h1, h2, h3⟩
    · obtain ⟨fd, h1, h2, h3⟩ := row_mk (PySem.W.mg_of X G n10) D
      exact ⟨t10, f10, fd, rfl, tup_mk l10 (by show 3 ≤ sizeLine; decide) (.cons rfl (.cons ⟨_, rfl⟩ (.cons ⟨_, rfl⟩ .nil))), h1, h2, h3⟩
    · obtain ⟨fd, h1, h2, h3⟩ := row_mk (PySem.W.mg_of X G n11) D
      exact ⟨t11, f11, fd, rfl, tup_mk l11 (by show 3 ≤ sizeLine; decide) (.cons rfl (.cons ⟨_, rfl⟩ (.cons ⟨_, rfl⟩ .nil))), h1, h2, h3⟩
    · obtain ⟨fd, h1, h2, h3⟩ := row_mk (PySem.W.mg_of X G n12) D
      exact ⟨t12, f12, fd, rfl, tup_mk l12 (by show 3 ≤ sizeLine; decide) (.cons rfl (.cons ⟨_, rfl⟩ (.cons ⟨_, rfl⟩ .nil))), h1, h2, h3⟩
    · obtain ⟨fd, h1, h2, h3⟩ := row_mk (PySem.W.mg_of X G n13) D
      exact ⟨t13, f13, fd, rfl, tup_mk l13 (by show 3 ≤ sizeLine; decide) (.cons rfl (.cons ⟨_, rfl⟩ (.cons ⟨_, rfl⟩ .nil))), h1, h2, h3⟩
    · obtain ⟨fd, h1, h2, h3⟩ := row_mk (PySem.W.mg_of X G n14) D
      exact ⟨t14, f14, fd, rfl, tup_mk l14 (by show 3 ≤ sizeLine; decide) (.cons rfl (.cons ⟨_, rfl⟩ (.cons ⟨_, rfl⟩ .nil))), h1, h2, h3⟩
    · obtain ⟨fd, h1, h2, h3⟩ := row_mk (PySem.W.mg_of X G n15) D
      exact ⟨t15, f15, fd, rfl, tup_mk l15 (by show 3 ≤ sizeLine; decide) (.cons rfl (.cons ⟨_, rfl⟩ (.cons ⟨_, rfl⟩ .nil))), h1, h2, h3⟩
    · obtain ⟨fd, h1, h2, h3⟩ := row_mk (PySem.W.mg_of X G n16) D
      exact ⟨t16, f16, fd, rfl, tup_mk l16 (by show 3 ≤ sizeLine; decide) (.cons rfl (.cons ⟨_, rfl⟩ (.cons ⟨_, rfl⟩ .nil))), h1, h2, h3⟩
    · obtain ⟨fd, h1, h2, h3⟩ := row_mk (PySem.W.mg_of X G n17) D
      exact ⟨t17, f17, fd, rfl, tup_mk l17 (by show 3 ≤ sizeLine; decide) (.cons rfl (.cons ⟨_, rfl⟩ (.cons ⟨_, rfl⟩ .nil))), h1, h2, h3⟩
    · obtain ⟨fd, h1, h2, h3⟩ := row_mk (PySem.W.mg_of X G n18) D
      exact ⟨t18, f18, fd, rfl, tup_mk l18 (by show 3 ≤ sizeLine; decide) (.cons rfl (.cons ⟨_, rfl⟩ (.cons ⟨_, rfl⟩ .nil))), h1, h2, h3⟩
    · obtain ⟨fd, h1, h2, h3⟩ := row_mk (PySem.W.mg_of X G n19) D
      exact ⟨t19, f19, fd, rfl, tup_mk l19 (by show 3 ≤ sizeLine; decide) (.cons rfl (.cons ⟨_, rfl⟩ (.cons ⟨_, rfl⟩ .nil))), h1, h2, h3⟩
    · obtain ⟨fd, h1, h2, h3⟩ := row_mk (PySem.W.mg_of X G n20) D
      exact ⟨t20, f20, fd, rfl, tup_mk l20 (by show 3 ≤ sizeLine; decide) (.cons rfl (.cons ⟨_, rfl⟩ (.cons ⟨_, rfl⟩ .nil))), h1, h2, h3⟩
    · obtain ⟨fd, h1, h2, h3⟩ := row_mk (PySem.W.mg_of X G n21) D
      exact ⟨t21, f21, fd, rfl, tup_mk l21 (by show 3 ≤ sizeLine; decide) (.cons rfl (.cons ⟨_, rfl⟩ (.cons ⟨_, rfl⟩ .nil))), h1, h2, h3⟩
    · obtain ⟨fd, h1, h2, h3⟩ := row_mk (PySem.W.mg_of X G n22) D
      exact ⟨t22, f22, fd, rfl, tup_mk l22 (by show 3 ≤ sizeLine; decide) (.cons rfl (.cons ⟨_, rfl⟩ (.cons ⟨_, rfl⟩ .nil))), h1, h2, h3⟩
theorem classes_mk {P : Program} {w : World} {CA CW gA gW : Addr} {odA anA odW anW : Option Addr} {slA slW : Array (Option Value)} {ocA kVA dcA pmA cdA ctA ocW kVW dcW pmW cdW ctW : Value} (X : K.In h) (G : h.Ns mainGlobals mg)
    (Aa : PySem.W.nsIn K mainGlobals "Area" = some (some (.ref CA))) (Ai : PySem.W.findIn K (.ref CA) "__init__" = some (some (.ref gA))) (Af : PySem.W.isFn K (.ref gA) = true)
    (Al : K.lookup gA = some ⟨ocA, odA, .func (PySem.W.fnOf "__init__" "Area.__init__" (defArgs s_Area_init) (defBody s_Area_init) (defScope s_Area_init) .none kVA dcA pmA anA cdA ctA), slA⟩)
    (Ac : PySem.W.codeIn K cdA "Area.__init__" = true) (Ak : PySem.W.keepIn K (.ref gA) = true) (Am : PySem.W.makesIn K CA = true) (Aq : PySem.W.keepIn K (.ref CA) = true)
    (Ap : PySem.W.plainGet K CA Str.empty = true) (Ah : PySem.W.hasDictIn K CA = true) (Ao : PySem.W.plainOver K CA = true) (As : PySem.W.findIn K (.ref CA) "__setattr__" = some (some (.builtin "object.__setattr__")))
    (Wa : PySem.W.nsIn K mainGlobals "Waters" = some (some (.ref CW))) (Wi : PySem.W.findIn K (.ref CW) "__init__" = some (some (.ref gW))) (Wf : PySem.W.isFn K (.ref gW) = true)
    (Wl : K.lookup gW = some ⟨ocW, odW, .func (PySem.W.fnOf "__init__" "Waters.__init__" (defArgs s_Waters_init) (defBody s_Waters_init) (defScope s_Waters_init) .none kVW dcW pmW anW cdW ctW), slW⟩)
    (Wc : PySem.W.codeIn K cdW "Waters.__init__" = true) (Wk : PySem.W.keepIn K (.ref gW) = true) (Wm : PySem.W.makesIn K CW = true) (Wq : PySem.W.keepIn K (.ref CW) = true)
    (Wp : PySem.W.plainGet K CW Str.empty = true) (Wh : PySem.W.hasDictIn K CW = true) (Wo : PySem.W.plainOver K CW = true) (Ws : PySem.W.findIn K (.ref CW) "__setattr__" = some (some (.builtin "object.__setattr__")))
    (n_a_readings : PySem.W.findIn K (.ref CA) "readings" = some none)
    (n_a_shut_until : PySem.W.findIn K (.ref CA) "shut_until" = some none)
    (n_w_begun : PySem.W.findIn K (.ref CW) "begun" = some none)
    (n_w_good : PySem.W.findIn K (.ref CW) "good" = some none)
    (n_w_fair : PySem.W.findIn K (.ref CW) "fair" = some none)
    (n_w_peak : PySem.W.findIn K (.ref CW) "peak" = some none)
    (n_w_rain : PySem.W.findIn K (.ref CW) "rain" = some none)
    (n_w_days : PySem.W.findIn K (.ref CW) "days" = some none)
    (n_w_day : PySem.W.findIn K (.ref CW) "day" = some none)
    (n_w_areas : PySem.W.findIn K (.ref CW) "areas" = some none)
    : ∃ CA CW, Cl K CA CW ∧ ∀ base, MkD P w K mg base 1 "Area" CA p_Area_init (sp_Area_init CA) ∧ MkD P w K mg base 1 "Waters" CW p_Waters_init (sp_Waters_init CA CW) := by
  have C : Cl K CA CW := ⟨⟨Ap, Ah, Ao, As⟩, ⟨Wp, Wh, Wo, Ws⟩, n_a_readings, n_a_shut_until, n_w_begun, n_w_good, n_w_fair, n_w_peak, n_w_rain, n_w_days, n_w_day, n_w_areas⟩
  exact ⟨CA, CW, C, fun base => ⟨mkd_mk X G Aa Ai Af Al Ac Ak Am Aq (fun _ _ _ _ _ _ us hl => match us, hl with | [_], _ => rfl) fun fd F => ok_Area_init C F, mkd_mk X G Wa Wi Wf Wl Wc Wk Wm Wq (fun _ _ _ _ _ _ us hl => match us, hl with | [_], _ => rfl) fun fd F => ok_Waters_init C F⟩⟩
theorem inInt_ge {lo hi z : Int} (h : PySem.W.Codec.inInt lo hi z = true) : lo ≤ z := (PySem.W.Codec.inInt_iff.mp h).1
end
end Sh

set_option Elab.async false
set_option maxRecDepth 100000
set_option maxHeartbeats 2000000
namespace Sh
open PySem PySem.Spec PyProof.Rows L2
theorem all_ok {P : Program} {w : World} {K : PySem.W.Frag} {mg : Str → Option Value} {base : Heap} {CA CW ca fa : Addr} {rows : List Addr} {fd : FuncData} (T : Txt mg) (C : Cl K CA CW)
    (M : MkD P w K mg base 1 "Area" CA p_Area_init (sp_Area_init CA) ∧ MkD P w K mg base 1 "Waters" CW p_Waters_init (sp_Waters_init CA CW))
    (TT : ∀ base : Heap, (∀ n, n < 23 → Def P w K mg base deep (fname n) ["waters", "arguments"] (sp_call CA CW n)) → Tab P w K mg base CA CW ca rows deep) (F : Fun K "answers" "answers" s_answers fa fd)
    (tb : ∀ c t, PySem.W.codeHdIn K c t = true → base.get? t = none)
    (h_is_reading : Has K mg "is_reading" s_is_reading p_is_reading)
    (h_is_open_class : Has K mg "is_open_class" s_is_open_class p_is_open_class)
    (h_has_mean : Has K mg "has_mean" s_has_mean p_has_mean)
    (h_product_of : Has K mg "product_of" s_product_of p_product_of)
    (h_greatest_that : Has K mg "greatest_that" s_greatest_that p_greatest_that)
    (h_mean_of : ∃ Pt, HasL K mg "mean_of" s_mean_of p_mean_of Pt)
    (h_is_within : Has K mg "is_within" s_is_within p_is_within)
    (h_count_above : Has K mg "count_above" s_count_above p_count_above)
    (h_is_above_peak : Has K mg "is_above_peak" s_is_above_peak p_is_above_peak)
    (h_class_of : Has K mg "class_of" s_class_of p_class_of)
    (h_is_of_class : Has K mg "is_of_class" s_is_of_class p_is_of_class)
    (h_may_open : Has K mg "may_open" s_may_open p_may_open)
    (h_is_shut : Has K mg "is_shut" s_is_shut p_is_shut)
    (h_is_open : Has K mg "is_open" s_is_open p_is_open)
    (h_open_areas : Has K mg "open_areas" s_open_areas p_open_areas)
    (h_shut_areas : Has K mg "shut_areas" s_shut_areas p_shut_areas)
    (h_measured_areas : ∃ Pt, HasL K mg "measured_areas" s_measured_areas p_measured_areas Pt)
    (h_are_bounds : Has K mg "are_bounds" s_are_bounds p_are_bounds)
    (h_answer_begin : Has K mg "answer_begin" s_answer_begin p_answer_begin)
    (h_answer_area : Has K mg "answer_area" s_answer_area p_answer_area)
    (h_answer_read : Has K mg "answer_read" s_answer_read p_answer_read)
    (h_answer_back : Has K mg "answer_back" s_answer_back p_answer_back)
    (h_answer_rainfall : Has K mg "answer_rainfall" s_answer_rainfall p_answer_rainfall)
    (h_answer_days : Has K mg "answer_days" s_answer_days p_answer_days)
    (h_answer_class : Has K mg "answer_class" s_answer_class p_answer_class)
    (h_answer_open : Has K mg "answer_open" s_answer_open p_answer_open)
    (h_answer_shut : Has K mg "answer_shut" s_answer_shut p_answer_shut)
    (h_answer_opens : Has K mg "answer_opens" s_answer_opens p_answer_opens)
    (h_answer_mean : Has K mg "answer_mean" s_answer_mean p_answer_mean)
    (h_answer_evenly : Has K mg "answer_evenly" s_answer_evenly p_answer_evenly)
    (h_answer_greatest : ∃ Pt, HasL K mg "answer_greatest" s_answer_greatest p_answer_greatest Pt)
    (h_answer_would : Has K mg "answer_would" s_answer_would p_answer_would)
    (h_answer_fewest : Has K mg "answer_fewest" s_answer_fewest p_answer_fewest)
    (h_answer_needs : Has K mg "answer_needs" s_answer_needs p_answer_needs)
    (h_answer_lasts : Has K mg "answer_lasts" s_answer_lasts p_answer_lasts)
    (h_answer_above : Has K mg "answer_above" s_answer_above p_answer_above)
    (h_answer_worse : Has K mg "answer_worse" s_answer_worse p_answer_worse)
    (h_answer_best : Has K mg "answer_best" s_answer_best p_answer_best)
    (h_answer_order : Has K mg "answer_order" s_answer_order p_answer_order)
    (h_answer_why : Has K mg "answer_why" s_answer_why p_answer_why)
    (h_answer_reads : Has K mg "answer_reads" s_answer_reads p_answer_reads)
    (h_answer_state : Has K mg "answer_state" s_answer_state p_answer_state)
    (h_answer_call : Has K mg "answer_call" s_answer_call p_answer_call)
    : FnOk P w K mg base CX0 (deep + 1 + 1 + 1) fa fd ["calls"] (sp_answers K) := by
  obtain ⟨D_Area, D_Waters⟩ := M
  obtain ⟨P1, h_mean_of⟩ := h_mean_of
  obtain ⟨P2, h_measured_areas⟩ := h_measured_areas
  obtain ⟨P3, h_answer_greatest⟩ := h_answer_greatest
  have l1 : base.get? P1 = none := by
    obtain ⟨_, _, c, _, _, _, _, e⟩ := h_mean_of
    exact tb c P1 e
  have l2 : base.get? P2 = none := by
    obtain ⟨_, _, c, _, _, _, _, e⟩ := h_measured_areas
    exact tb c P2 e
  have l3 : base.get? P3 = none := by
    obtain ⟨_, _, c, _, _, _, _, e⟩ := h_answer_greatest
    exact tb c P3 e
  have D_is_reading : Def P w K mg base 1 "is_reading" p_is_reading sp_is_reading := ok_is_reading T h_is_reading
  have D_is_open_class : Def P w K mg base 1 "is_open_class" p_is_open_class sp_is_open_class := ok_is_open_class T h_is_open_class
  have D_has_mean : Def P w K mg base 1 "has_mean" p_has_mean sp_has_mean := ok_has_mean T h_has_mean
  have D_product_of : Def P w K mg base 1 "product_of" p_product_of sp_product_of := ok_product_of T h_product_of
  have D_greatest1 : Def P w K mg base 2 "greatest_that" p_greatest_that (sp_greatest_that P w K mg base 1) := ok_greatest_that 1 T h_greatest_that
  have D_greatest5 : Def P w K mg base 6 "greatest_that" p_greatest_that (sp_greatest_that P w K mg base 5) := ok_greatest_that 5 T h_greatest_that
  have D_mean_of := ok_mean_of T l1 D_product_of D_greatest1 h_mean_of
  have D_is_within := ok_is_within T D_product_of h_is_within
  have D_count_above : Def P w K mg base 1 "count_above" p_count_above sp_count_above := ok_count_above T h_count_above
  have D_is_above_peak := ok_is_above_peak T C D_count_above h_is_above_peak
  have D_class_of := ok_class_of T C D_has_mean D_is_within D_is_above_peak h_class_of
  have D_is_of_class := ok_is_of_class T C D_class_of h_is_of_class
  have D_may_open := ok_may_open T C D_is_open_class D_class_of h_may_open
  have D_is_shut : Def P w K mg base 1 "is_shut" p_is_shut (sp_is_shut CA CW) := ok_is_shut T C h_is_shut
  have D_is_open := ok_is_open T C D_may_open D_is_shut h_is_open
  have D_open_areas := ok_open_areas T C D_is_open h_open_areas
  have D_shut_areas := ok_shut_areas T C D_is_shut h_shut_areas
  have D_measured_areas := ok_measured_areas T C l2 D_has_mean D_product_of h_measured_areas
  have D_are_bounds := ok_are_bounds T D_is_reading h_are_bounds
  have D_answer_fewest := ok_answer_fewest T C D_is_reading D_is_open_class D_is_of_class h_answer_fewest
  have D0 := ok_answer_begin T C D_are_bounds h_answer_begin
  have D1 := ok_answer_area T C D_Area h_answer_area
  have D2 := ok_answer_read T C D_is_reading D_class_of h_answer_read
  have D3 := ok_answer_back T C D_class_of h_answer_back
  have D4 : Def P w K mg base 1 "answer_rainfall" p_answer_rainfall (sp_call CA CW 4) := ok_answer_rainfall T C h_answer_rainfall
  have D5 := ok_answer_days T C D_open_areas h_answer_days
  have D6 := ok_answer_class T C D_class_of D_is_open h_answer_class
  have D7 := ok_answer_open T C D_open_areas h_answer_open
  have D8 := ok_answer_shut T C D_shut_areas h_answer_shut
  have D9 := ok_answer_opens T C D_may_open h_answer_opens
  have D10 := ok_answer_mean T C D_has_mean D_product_of D_mean_of h_answer_mean
  have D11 := ok_answer_evenly T C D_has_mean h_answer_evenly
  have D12 := ok_answer_greatest T C l3 D_is_open_class D_is_of_class D_greatest5 h_answer_greatest
  have D13 := ok_answer_would T C D_is_reading D_class_of h_answer_would
  have D14 := ok_answer_needs T C D_answer_fewest h_answer_needs
  have D15 := ok_answer_lasts T C D_answer_fewest h_answer_lasts
  have D16 := ok_answer_above T C D_is_reading D_count_above h_answer_above
  have D17 := ok_answer_worse T C D_has_mean D_product_of h_answer_worse
  have D18 := ok_answer_best T C D_measured_areas D_mean_of h_answer_best
  have D19 := ok_answer_order T C D_has_mean D_measured_areas h_answer_order
  have D20 := ok_answer_why T C D_is_shut D_has_mean D_is_within D_is_above_peak h_answer_why
  have D21 : Def P w K mg base 1 "answer_reads" p_answer_reads (sp_call CA CW 21) := ok_answer_reads T C h_answer_reads
  have D22 : Def P w K mg base 1 "answer_state" p_answer_state (sp_call CA CW 22) := ok_answer_state T C h_answer_state
  have D : ∀ n, n < 23 → Def P w K mg base deep (fname n) ["waters", "arguments"] (sp_call CA CW n) := by
    intro n hn
    rcases lt23 hn with rfl | rfl | rfl | rfl | rfl | rfl | rfl | rfl | rfl | rfl | rfl | rfl | rfl | rfl | rfl | rfl | rfl | rfl | rfl | rfl | rfl | rfl | rfl
    · exact D0.mono (by decide)
    · exact D1.mono (by decide)
    · exact D2.mono (by decide)
    · exact D3.mono (by decide)
    · exact D4.mono (by decide)
    · exact D5.mono (by decide)
    · exact D6.mono (by decide)
    · exact D7.mono (by decide)
    · exact D8.mono (by decide)
    · exact D9.mono (by decide)
    · exact D10.mono (by decide)
    · exact D11.mono (by decide)
    · exact D12.mono (by decide)
    · exact D13.mono (by decide)
    · exact D14.mono (by decide)
    · exact D15.mono (by decide)
    · exact D16.mono (by decide)
    · exact D17.mono (by decide)
    · exact D18.mono (by decide)
    · exact D19.mono (by decide)
    · exact D20.mono (by decide)
    · exact D21.mono (by decide)
    · exact D22.mono (by decide)
  have B := TT base D
  exact ok_answers T C B D_Waters (ok_answer_call T C B h_answer_call) F
end Sh

set_option Elab.async false
open PySem PySem.W PyProof.Rows
theorem PySem.W.Fast.tw5744344408518277508 : True := trivial
set_option maxRecDepth 100000 in
set_option maxHeartbeats 0 in
theorem PySem.Challenge.cw_shorewaters_s01_answers_holds : PySem.Challenge.rw_shorewaters_s01_answers.Holds := by
  w_on; o_headS (PySem.W.kmHook Sh.K2 ([2, 3, 27, 28, 30, 31, 32, 33, 48, 49, 51, 52, 53, 54, 62, 63, 69, 70, 76, 77, 83, 84, 90, 91, 97, 98, 104, 105, 109, 110, 116, 117, 123, 124, 130, 131, 137, 138, 144, 145, 151, 152, 156, 157, 161, 162, 166, 167, 173, 174, 180, 181, 187, 188, 194, 195, 201, 202, 208, 209, 215, 216, 222, 223, 229, 230, 236, 237, 243, 244, 250, 251, 257, 258, 264, 265, 271, 272, 278, 279, 285, 286, 292, 293, 299, 300, 306, 307, 313, 314, 318, 319, 325, 326, 332, 333, 339, 340, 341, 342, 343, 344, 345, 346, 347, 348, 349, 350, 351, 352, 353, 354, 355, 356, 357, 358, 359, 360, 361, 362, 363, 364, 370, 371, 377, 378] : List Nat) (fun _ => by kernel_rfl) [23, 44, 58, 65, 72, 79, 86, 93, 100, 107, 112, 119, 126, 133, 140, 147, 154, 159, 164, 169, 176, 183, 190, 197, 204, 211, 218, 225, 232, 239, 246, 253, 260, 267, 274, 281, 288, 295, 302, 309, 316, 321, 328, 335, 366, 373]); (case hw => exact ⟨[.list [.int 1]], by decide +kernel, by decide +kernel⟩)
  k_fillS
  refine L2.walk_specT (r := PySem.Challenge.rw_shorewaters_s01_answers) (k := Sh.deep + 1 + 1 + 1) (CX := L2.CX0) (ps := ["calls"]) (sp := Sh.sp_answers) (by decide +kernel) rfl rfl ⟨rfl, by decide, by decide⟩ (fun w h Y => ⟨PySem.W.km_in_of Y, PySem.W.km_tabs_of Y⟩) (fun w => ⟨?t1, ?t2⟩) ?F ?S (fun _ _ _ _ z => z)
  case t1 => kernel_rfl
  case t2 => kernel_rfl
  case F =>
    intro w mg fa h Y KX G hmg
    have T : Sh.Txt mg := by
      refine' Sh.Txt.mk ?c0 ?c1 ?c2 ?c3 ?c4 ?c5 ?c6 ?c7 ?c8 ?c9 ?c10 ?c11 ?c12 ?c13 ?c14 ?c15 ?c16 ?c17 ?c18 ?c19 ?c20 ?c21 ?c22 ?b0 ?b1 ?b2 ?b3 ?b4 ?b5 ?b6 ?b7
      (case c0 => refine' Sh.int_mk KX G ?a; (case a => k_is))
      (case c1 => refine' Sh.int_mk KX G ?a; (case a => k_is))
      (case c2 => refine' Sh.int_mk KX G ?a; (case a => k_is))
      (case c3 => refine' Sh.int_mk KX G ?a; (case a => k_is))
      (case c4 => refine' Sh.int_mk KX G ?a; (case a => k_is))
      (case c5 => refine' Sh.int_mk KX G ?a; (case a => k_is))
      (case c6 => refine' Sh.int_mk KX G ?a; (case a => k_is))
      (case c7 => refine' Sh.int_mk KX G ?a; (case a => k_is))
      (case c8 => refine' Sh.int_mk KX G ?a; (case a => k_is))
      (case c9 => refine' Sh.int_mk KX G ?a; (case a => k_is))
      (case c10 => refine' Sh.int_mk KX G ?a; (case a => k_is))
      (case c11 => refine' Sh.int_mk KX G ?a; (case a => k_is))
      (case c12 => refine' Sh.int_mk KX G ?a; (case a => k_is))
      (case c13 => refine' Sh.int_mk KX G ?a; (case a => k_is))
      (case c14 => refine' Sh.int_mk KX G ?a; (case a => k_is))
      (case c15 => refine' Sh.int_mk KX G ?a; (case a => k_is))
      (case c16 => refine' Sh.int_mk KX G ?a; (case a => k_is))
      (case c17 => refine' Sh.int_mk KX G ?a; (case a => k_is))
      (case c18 => refine' Sh.int_mk KX G ?a; (case a => k_is))
      (case c19 => refine' Sh.int_mk KX G ?a; (case a => k_is))
      (case c20 => refine' Sh.int_mk KX G ?a; (case a => k_is))
      (case c21 => refine' Sh.int_mk KX G ?a; (case a => k_is))
      (case c22 => refine' Sh.int_mk KX G ?a; (case a => k_is))
      (case b0 => refine' PySem.W.mg_none_of KX G ?a; (case a => k_is))
      (case b1 => refine' PySem.W.mg_none_of KX G ?a; (case a => k_is))
      (case b2 => refine' PySem.W.mg_none_of KX G ?a; (case a => k_is))
      (case b3 => refine' PySem.W.mg_none_of KX G ?a; (case a => k_is))
      (case b4 => refine' PySem.W.mg_none_of KX G ?a; (case a => k_is))
      (case b5 => refine' PySem.W.mg_none_of KX G ?a; (case a => k_is))
      (case b6 => refine' PySem.W.mg_none_of KX G ?a; (case a => k_is))
      (case b7 => refine' PySem.W.mg_none_of KX G ?a; (case a => k_is))
    refine' Sh.ref_mk (x := "Area") KX G ?aArea ?_
    (case aArea => k_is)
    intro mgArea
    refine' Sh.ref_mk (x := "Waters") KX G ?aWaters ?_
    (case aWaters => k_is)
    intro mgWaters
    have h_is_reading : Sh.Has (L2.KOf KX) mg "is_reading" Sh.s_is_reading Sh.p_is_reading := by
      dsimp only [L2.KOf]
      refine' Sh.has_mk KX G ?a ?l ?c ?k ?b
      (case a => k_is); (case l => k_is); (case c => k_is); (case k => k_is)
      (case b => exact fun _ _ _ _ _ _ us hl => match us, hl with | [_], _ => rfl)
    have h_is_open_class : Sh.Has (L2.KOf KX) mg "is_open_class" Sh.s_is_open_class Sh.p_is_open_class := by
      dsimp only [L2.KOf]
      refine' Sh.has_mk KX G ?a ?l ?c ?k ?b
      (case a => k_is); (case l => k_is); (case c => k_is); (case k => k_is)
      (case b => exact fun _ _ _ _ _ _ us hl => match us, hl with | [_], _ => rfl)
    have h_has_mean : Sh.Has (L2.KOf KX) mg "has_mean" Sh.s_has_mean Sh.p_has_mean := by
      dsimp only [L2.KOf]
      refine' Sh.has_mk KX G ?a ?l ?c ?k ?b
      (case a => k_is); (case l => k_is); (case c => k_is); (case k => k_is)
      (case b => exact fun _ _ _ _ _ _ us hl => match us, hl with | [_], _ => rfl)
    have h_product_of : Sh.Has (L2.KOf KX) mg "product_of" Sh.s_product_of Sh.p_product_of := by
      dsimp only [L2.KOf]
      refine' Sh.has_mk KX G ?a ?l ?c ?k ?b
      (case a => k_is); (case l => k_is); (case c => k_is); (case k => k_is)
      (case b => exact fun _ _ _ _ _ _ us hl => match us, hl with | [_], _ => rfl)
    have h_greatest_that : Sh.Has (L2.KOf KX) mg "greatest_that" Sh.s_greatest_that Sh.p_greatest_that := by
      dsimp only [L2.KOf]
      refine' Sh.has_mk KX G ?a ?l ?c ?k ?b
      (case a => k_is); (case l => k_is); (case c => k_is); (case k => k_is)
      (case b => exact fun _ _ _ _ _ _ us hl => match us, hl with | [_], _ => rfl)
    have h_mean_of : ∃ Pt, Sh.HasL (L2.KOf KX) mg "mean_of" Sh.s_mean_of Sh.p_mean_of Pt := by
      dsimp only [L2.KOf]
      refine' Sh.hasL_mk KX G ?a ?l ?c ?k ?t ?b
      (case a => k_is); (case l => k_is); (case c => k_is); (case k => k_is); (case t => kernel_rfl)
      (case b => exact fun _ _ _ _ _ _ us hl => match us, hl with | [_], _ => rfl)
    have h_is_within : Sh.Has (L2.KOf KX) mg "is_within" Sh.s_is_within Sh.p_is_within := by
      dsimp only [L2.KOf]
      refine' Sh.has_mk KX G ?a ?l ?c ?k ?b
      (case a => k_is); (case l => k_is); (case c => k_is); (case k => k_is)
      (case b => exact fun _ _ _ _ _ _ us hl => match us, hl with | [_, _], _ => rfl)
    have h_count_above : Sh.Has (L2.KOf KX) mg "count_above" Sh.s_count_above Sh.p_count_above := by
      dsimp only [L2.KOf]
      refine' Sh.has_mk KX G ?a ?l ?c ?k ?b
      (case a => k_is); (case l => k_is); (case c => k_is); (case k => k_is)
      (case b => exact fun _ _ _ _ _ _ us hl => match us, hl with | [_, _], _ => rfl)
    have h_is_above_peak : Sh.Has (L2.KOf KX) mg "is_above_peak" Sh.s_is_above_peak Sh.p_is_above_peak := by
      dsimp only [L2.KOf]
      refine' Sh.has_mk KX G ?a ?l ?c ?k ?b
      (case a => k_is); (case l => k_is); (case c => k_is); (case k => k_is)
      (case b => exact fun _ _ _ _ _ _ us hl => match us, hl with | [_, _], _ => rfl)
    have h_class_of : Sh.Has (L2.KOf KX) mg "class_of" Sh.s_class_of Sh.p_class_of := by
      dsimp only [L2.KOf]
      refine' Sh.has_mk KX G ?a ?l ?c ?k ?b
      (case a => k_is); (case l => k_is); (case c => k_is); (case k => k_is)
      (case b => exact fun _ _ _ _ _ _ us hl => match us, hl with | [_, _], _ => rfl)
    have h_is_of_class : Sh.Has (L2.KOf KX) mg "is_of_class" Sh.s_is_of_class Sh.p_is_of_class := by
      dsimp only [L2.KOf]
      refine' Sh.has_mk KX G ?a ?l ?c ?k ?b
      (case a => k_is); (case l => k_is); (case c => k_is); (case k => k_is)
      (case b => exact fun _ _ _ _ _ _ us hl => match us, hl with | [_, _, _], _ => rfl)
    have h_may_open : Sh.Has (L2.KOf KX) mg "may_open" Sh.s_may_open Sh.p_may_open := by
      dsimp only [L2.KOf]
      refine' Sh.has_mk KX G ?a ?l ?c ?k ?b
      (case a => k_is); (case l => k_is); (case c => k_is); (case k => k_is)
      (case b => exact fun _ _ _ _ _ _ us hl => match us, hl with | [_, _], _ => rfl)
    have h_is_shut : Sh.Has (L2.KOf KX) mg "is_shut" Sh.s_is_shut Sh.p_is_shut := by
      dsimp only [L2.KOf]
      refine' Sh.has_mk KX G ?a ?l ?c ?k ?b
      (case a => k_is); (case l => k_is); (case c => k_is); (case k => k_is)
      (case b => exact fun _ _ _ _ _ _ us hl => match us, hl with | [_, _], _ => rfl)
    have h_is_open : Sh.Has (L2.KOf KX) mg "is_open" Sh.s_is_open Sh.p_is_open := by
      dsimp only [L2.KOf]
      refine' Sh.has_mk KX G ?a ?l ?c ?k ?b
      (case a => k_is); (case l => k_is); (case c => k_is); (case k => k_is)
      (case b => exact fun _ _ _ _ _ _ us hl => match us, hl with | [_, _], _ => rfl)
    have h_open_areas : Sh.Has (L2.KOf KX) mg "open_areas" Sh.s_open_areas Sh.p_open_areas := by
      dsimp only [L2.KOf]
      refine' Sh.has_mk KX G ?a ?l ?c ?k ?b
      (case a => k_is); (case l => k_is); (case c => k_is); (case k => k_is)
      (case b => exact fun _ _ _ _ _ _ us hl => match us, hl with | [_], _ => rfl)
    have h_shut_areas : Sh.Has (L2.KOf KX) mg "shut_areas" Sh.s_shut_areas Sh.p_shut_areas := by
      dsimp only [L2.KOf]
      refine' Sh.has_mk KX G ?a ?l ?c ?k ?b
      (case a => k_is); (case l => k_is); (case c => k_is); (case k => k_is)
      (case b => exact fun _ _ _ _ _ _ us hl => match us, hl with | [_], _ => rfl)
    have h_measured_areas : ∃ Pt, Sh.HasL (L2.KOf KX) mg "measured_areas" Sh.s_measured_areas Sh.p_measured_areas Pt := by
      dsimp only [L2.KOf]
      refine' Sh.hasL_mk KX G ?a ?l ?c ?k ?t ?b
      (case a => k_is); (case l => k_is); (case c => k_is); (case k => k_is); (case t => kernel_rfl)
      (case b => exact fun _ _ _ _ _ _ us hl => match us, hl with | [_], _ => rfl)
    have h_are_bounds : Sh.Has (L2.KOf KX) mg "are_bounds" Sh.s_are_bounds Sh.p_are_bounds := by
      dsimp only [L2.KOf]
      refine' Sh.has_mk KX G ?a ?l ?c ?k ?b
      (case a => k_is); (case l => k_is); (case c => k_is); (case k => k_is)
      (case b => exact fun _ _ _ _ _ _ us hl => match us, hl with | [_, _, _], _ => rfl)
    have h_answer_begin : Sh.Has (L2.KOf KX) mg "answer_begin" Sh.s_answer_begin Sh.p_answer_begin := by
      dsimp only [L2.KOf]
      refine' Sh.has_mk KX G ?a ?l ?c ?k ?b
      (case a => k_is); (case l => k_is); (case c => k_is); (case k => k_is)
      (case b => exact fun _ _ _ _ _ _ us hl => match us, hl with | [_, _], _ => rfl)
    have h_answer_area : Sh.Has (L2.KOf KX) mg "answer_area" Sh.s_answer_area Sh.p_answer_area := by
      dsimp only [L2.KOf]
      refine' Sh.has_mk KX G ?a ?l ?c ?k ?b
      (case a => k_is); (case l => k_is); (case c => k_is); (case k => k_is)
      (case b => exact fun _ _ _ _ _ _ us hl => match us, hl with | [_, _], _ => rfl)
    have h_answer_read : Sh.Has (L2.KOf KX) mg "answer_read" Sh.s_answer_read Sh.p_answer_read := by
      dsimp only [L2.KOf]
      refine' Sh.has_mk KX G ?a ?l ?c ?k ?b
      (case a => k_is); (case l => k_is); (case c => k_is); (case k => k_is)
      (case b => exact fun _ _ _ _ _ _ us hl => match us, hl with | [_, _], _ => rfl)
    have h_answer_back : Sh.Has (L2.KOf KX) mg "answer_back" Sh.s_answer_back Sh.p_answer_back := by
      dsimp only [L2.KOf]
      refine' Sh.has_mk KX G ?a ?l ?c ?k ?b
      (case a => k_is); (case l => k_is); (case c => k_is); (case k => k_is)
      (case b => exact fun _ _ _ _ _ _ us hl => match us, hl with | [_, _], _ => rfl)
    have h_answer_rainfall : Sh.Has (L2.KOf KX) mg "answer_rainfall" Sh.s_answer_rainfall Sh.p_answer_rainfall := by
      dsimp only [L2.KOf]
      refine' Sh.has_mk KX G ?a ?l ?c ?k ?b
      (case a => k_is); (case l => k_is); (case c => k_is); (case k => k_is)
      (case b => exact fun _ _ _ _ _ _ us hl => match us, hl with | [_, _], _ => rfl)
    have h_answer_days : Sh.Has (L2.KOf KX) mg "answer_days" Sh.s_answer_days Sh.p_answer_days := by
      dsimp only [L2.KOf]
      refine' Sh.has_mk KX G ?a ?l ?c ?k ?b
      (case a => k_is); (case l => k_is); (case c => k_is); (case k => k_is)
      (case b => exact fun _ _ _ _ _ _ us hl => match us, hl with | [_, _], _ => rfl)
    have h_answer_class : Sh.Has (L2.KOf KX) mg "answer_class" Sh.s_answer_class Sh.p_answer_class := by
      dsimp only [L2.KOf]
      refine' Sh.has_mk KX G ?a ?l ?c ?k ?b
      (case a => k_is); (case l => k_is); (case c => k_is); (case k => k_is)
      (case b => exact fun _ _ _ _ _ _ us hl => match us, hl with | [_, _], _ => rfl)
    have h_answer_open : Sh.Has (L2.KOf KX) mg "answer_open" Sh.s_answer_open Sh.p_answer_open := by
      dsimp only [L2.KOf]
      refine' Sh.has_mk KX G ?a ?l ?c ?k ?b
      (case a => k_is); (case l => k_is); (case c => k_is); (case k => k_is)
      (case b => exact fun _ _ _ _ _ _ us hl => match us, hl with | [_, _], _ => rfl)
    have h_answer_shut : Sh.Has (L2.KOf KX) mg "answer_shut" Sh.s_answer_shut Sh.p_answer_shut := by
      dsimp only [L2.KOf]
      refine' Sh.has_mk KX G ?a ?l ?c ?k ?b
      (case a => k_is); (case l => k_is); (case c => k_is); (case k => k_is)
      (case b => exact fun _ _ _ _ _ _ us hl => match us, hl with | [_, _], _ => rfl)
    have h_answer_opens : Sh.Has (L2.KOf KX) mg "answer_opens" Sh.s_answer_opens Sh.p_answer_opens := by
      dsimp only [L2.KOf]
      refine' Sh.has_mk KX G ?a ?l ?c ?k ?b
      (case a => k_is); (case l => k_is); (case c => k_is); (case k => k_is)
      (case b => exact fun _ _ _ _ _ _ us hl => match us, hl with | [_, _], _ => rfl)
    have h_answer_mean : Sh.Has (L2.KOf KX) mg "answer_mean" Sh.s_answer_mean Sh.p_answer_mean := by
      dsimp only [L2.KOf]
      refine' Sh.has_mk KX G ?a ?l ?c ?k ?b
      (case a => k_is); (case l => k_is); (case c => k_is); (case k => k_is)
      (case b => exact fun _ _ _ _ _ _ us hl => match us, hl with | [_, _], _ => rfl)
    have h_answer_evenly : Sh.Has (L2.KOf KX) mg "answer_evenly" Sh.s_answer_evenly Sh.p_answer_evenly := by
      dsimp only [L2.KOf]
      refine' Sh.has_mk KX G ?a ?l ?c ?k ?b
      (case a => k_is); (case l => k_is); (case c => k_is); (case k => k_is)
      (case b => exact fun _ _ _ _ _ _ us hl => match us, hl with | [_, _], _ => rfl)
    have h_answer_greatest : ∃ Pt, Sh.HasL (L2.KOf KX) mg "answer_greatest" Sh.s_answer_greatest Sh.p_answer_greatest Pt := by
      dsimp only [L2.KOf]
      refine' Sh.hasL_mk KX G ?a ?l ?c ?k ?t ?b
      (case a => k_is); (case l => k_is); (case c => k_is); (case k => k_is); (case t => kernel_rfl)
      (case b => exact fun _ _ _ _ _ _ us hl => match us, hl with | [_, _], _ => rfl)
    have h_answer_would : Sh.Has (L2.KOf KX) mg "answer_would" Sh.s_answer_would Sh.p_answer_would := by
      dsimp only [L2.KOf]
      refine' Sh.has_mk KX G ?a ?l ?c ?k ?b
      (case a => k_is); (case l => k_is); (case c => k_is); (case k => k_is)
      (case b => exact fun _ _ _ _ _ _ us hl => match us, hl with | [_, _], _ => rfl)
    have h_answer_fewest : Sh.Has (L2.KOf KX) mg "answer_fewest" Sh.s_answer_fewest Sh.p_answer_fewest := by
      dsimp only [L2.KOf]
      refine' Sh.has_mk KX G ?a ?l ?c ?k ?b
      (case a => k_is); (case l => k_is); (case c => k_is); (case k => k_is)
      (case b => exact fun _ _ _ _ _ _ us hl => match us, hl with | [_, _, _], _ => rfl)
    have h_answer_needs : Sh.Has (L2.KOf KX) mg "answer_needs" Sh.s_answer_needs Sh.p_answer_needs := by
      dsimp only [L2.KOf]
      refine' Sh.has_mk KX G ?a ?l ?c ?k ?b
      (case a => k_is); (case l => k_is); (case c => k_is); (case k => k_is)
      (case b => exact fun _ _ _ _ _ _ us hl => match us, hl with | [_, _], _ => rfl)
    have h_answer_lasts : Sh.Has (L2.KOf KX) mg "answer_lasts" Sh.s_answer_lasts Sh.p_answer_lasts := by
      dsimp only [L2.KOf]
      refine' Sh.has_mk KX G ?a ?l ?c ?k ?b
      (case a => k_is); (case l => k_is); (case c => k_is); (case k => k_is)
      (case b => exact fun _ _ _ _ _ _ us hl => match us, hl with | [_, _], _ => rfl)
    have h_answer_above : Sh.Has (L2.KOf KX) mg "answer_above" Sh.s_answer_above Sh.p_answer_above := by
      dsimp only [L2.KOf]
      refine' Sh.has_mk KX G ?a ?l ?c ?k ?b
      (case a => k_is); (case l => k_is); (case c => k_is); (case k => k_is)
      (case b => exact fun _ _ _ _ _ _ us hl => match us, hl with | [_, _], _ => rfl)
    have h_answer_worse : Sh.Has (L2.KOf KX) mg "answer_worse" Sh.s_answer_worse Sh.p_answer_worse := by
      dsimp only [L2.KOf]
      refine' Sh.has_mk KX G ?a ?l ?c ?k ?b
      (case a => k_is); (case l => k_is); (case c => k_is); (case k => k_is)
      (case b => exact fun _ _ _ _ _ _ us hl => match us, hl with | [_, _], _ => rfl)
    have h_answer_best : Sh.Has (L2.KOf KX) mg "answer_best" Sh.s_answer_best Sh.p_answer_best := by
      dsimp only [L2.KOf]
      refine' Sh.has_mk KX G ?a ?l ?c ?k ?b
      (case a => k_is); (case l => k_is); (case c => k_is); (case k => k_is)
      (case b => exact fun _ _ _ _ _ _ us hl => match us, hl with | [_, _], _ => rfl)
    have h_answer_order : Sh.Has (L2.KOf KX) mg "answer_order" Sh.s_answer_order Sh.p_answer_order := by
      dsimp only [L2.KOf]
      refine' Sh.has_mk KX G ?a ?l ?c ?k ?b
      (case a => k_is); (case l => k_is); (case c => k_is); (case k => k_is)
      (case b => exact fun _ _ _ _ _ _ us hl => match us, hl with | [_, _], _ => rfl)
    have h_answer_why : Sh.Has (L2.KOf KX) mg "answer_why" Sh.s_answer_why Sh.p_answer_why := by
      dsimp only [L2.KOf]
      refine' Sh.has_mk KX G ?a ?l ?c ?k ?b
      (case a => k_is); (case l => k_is); (case c => k_is); (case k => k_is)
      (case b => exact fun _ _ _ _ _ _ us hl => match us, hl with | [_, _], _ => rfl)
    have h_answer_reads : Sh.Has (L2.KOf KX) mg "answer_reads" Sh.s_answer_reads Sh.p_answer_reads := by
      dsimp only [L2.KOf]
      refine' Sh.has_mk KX G ?a ?l ?c ?k ?b
      (case a => k_is); (case l => k_is); (case c => k_is); (case k => k_is)
      (case b => exact fun _ _ _ _ _ _ us hl => match us, hl with | [_, _], _ => rfl)
    have h_answer_state : Sh.Has (L2.KOf KX) mg "answer_state" Sh.s_answer_state Sh.p_answer_state := by
      dsimp only [L2.KOf]
      refine' Sh.has_mk KX G ?a ?l ?c ?k ?b
      (case a => k_is); (case l => k_is); (case c => k_is); (case k => k_is)
      (case b => exact fun _ _ _ _ _ _ us hl => match us, hl with | [_, _], _ => rfl)
    have h_answer_call : Sh.Has (L2.KOf KX) mg "answer_call" Sh.s_answer_call Sh.p_answer_call := by
      dsimp only [L2.KOf]
      refine' Sh.has_mk KX G ?a ?l ?c ?k ?b
      (case a => k_is); (case l => k_is); (case c => k_is); (case k => k_is)
      (case b => exact fun _ _ _ _ _ _ us hl => match us, hl with | [_, _, _], _ => rfl)
    have CC : ∃ CA CW, Sh.Cl (L2.KOf KX) CA CW ∧ ∀ base, Sh.MkD PySem.Challenge.rw_shorewaters_s01_answers.prog w (L2.KOf KX) mg base 1 "Area" CA Sh.p_Area_init (Sh.sp_Area_init CA) ∧ Sh.MkD PySem.Challenge.rw_shorewaters_s01_answers.prog w (L2.KOf KX) mg base 1 "Waters" CW Sh.p_Waters_init (Sh.sp_Waters_init CA CW) := by
      dsimp only [L2.KOf]
      refine' Sh.classes_mk KX G ?Aa ?Ai ?Af ?Al ?Ac ?Ak ?Am ?Aq ?Ap ?Ah ?Ao ?As ?Wa ?Wi ?Wf ?Wl ?Wc ?Wk ?Wm ?Wq ?Wp ?Wh ?Wo ?Ws ?n_a_readings ?n_a_shut_until ?n_w_begun ?n_w_good ?n_w_fair ?n_w_peak ?n_w_rain ?n_w_days ?n_w_day ?n_w_areas
      (case Aa => k_is)
      (case Ai => k_is)
      (case Af => k_is)
      (case Al => k_is)
      (case Ac => k_is)
      (case Ak => k_is)
      (case Am => k_is)
      (case Aq => k_is)
      (case Ap => k_is)
      (case Ah => k_is)
      (case Ao => k_is)
      (case As => k_is)
      (case Wa => k_is)
      (case Wi => k_is)
      (case Wf => k_is)
      (case Wl => k_is)
      (case Wc => k_is)
      (case Wk => k_is)
      (case Wm => k_is)
      (case Wq => k_is)
      (case Wp => k_is)
      (case Wh => k_is)
      (case Wo => k_is)
      (case Ws => k_is)
      (case n_a_readings => k_is)
      (case n_a_shut_until => k_is)
      (case n_w_begun => k_is)
      (case n_w_good => k_is)
      (case n_w_fair => k_is)
      (case n_w_peak => k_is)
      (case n_w_rain => k_is)
      (case n_w_days => k_is)
      (case n_w_day => k_is)
      (case n_w_areas => k_is)
    obtain ⟨CA, CW, C, M⟩ := CC
    have TT : ∃ ca rows, ∀ base : Heap, (∀ n, n < 23 → Sh.Def PySem.Challenge.rw_shorewaters_s01_answers.prog w (L2.KOf KX) mg base Sh.deep (Sh.fname n) ["waters", "arguments"] (Sh.sp_call CA CW n)) → Sh.Tab PySem.Challenge.rw_shorewaters_s01_answers.prog w (L2.KOf KX) mg base CA CW ca rows Sh.deep := by
      dsimp only [L2.KOf]
      refine' Sh.tab_mk KX G ?a ?l ?l0 ?n0 ?l1 ?n1 ?l2 ?n2 ?l3 ?n3 ?l4 ?n4 ?l5 ?n5 ?l6 ?n6 ?l7 ?n7 ?l8 ?n8 ?l9 ?n9 ?l10 ?n10 ?l11 ?n11 ?l12 ?n12 ?l13 ?n13 ?l14 ?n14 ?l15 ?n15 ?l16 ?n16 ?l17 ?n17 ?l18 ?n18 ?l19 ?n19 ?l20 ?n20 ?l21 ?n21 ?l22 ?n22
      (case a => k_is); (case l => k_is)
      (case l0 => k_is); (case n0 => k_is)
      (case l1 => k_is); (case n1 => k_is)
      (case l2 => k_is); (case n2 => k_is)
      (case l3 => k_is); (case n3 => k_is)
      (case l4 => k_is); (case n4 => k_is)
      (case l5 => k_is); (case n5 => k_is)
      (case l6 => k_is); (case n6 => k_is)
      (case l7 => k_is); (case n7 => k_is)
      (case l8 => k_is); (case n8 => k_is)
      (case l9 => k_is); (case n9 => k_is)
      (case l10 => k_is); (case n10 => k_is)
      (case l11 => k_is); (case n11 => k_is)
      (case l12 => k_is); (case n12 => k_is)
      (case l13 => k_is); (case n13 => k_is)
      (case l14 => k_is); (case n14 => k_is)
      (case l15 => k_is); (case n15 => k_is)
      (case l16 => k_is); (case n16 => k_is)
      (case l17 => k_is); (case n17 => k_is)
      (case l18 => k_is); (case n18 => k_is)
      (case l19 => k_is); (case n19 => k_is)
      (case l20 => k_is); (case n20 => k_is)
      (case l21 => k_is); (case n21 => k_is)
      (case l22 => k_is); (case n22 => k_is)
    obtain ⟨ca, rows, TT⟩ := TT
    have AA : ∃ fd : FuncData, (∀ (s : Shared) (us : List Value), us.length = (["calls"] : List Str).length → BindsTo s fd ⟨us, []⟩ ((["calls"] : List Str).zip us)) ∧ L2.Fun (L2.KOf KX) "answers" "answers" Sh.s_answers fa fd := by
      dsimp only [L2.KOf]
      refine' Sh.ans_mk KX G hmg ?a ?l ?c ?k
      (case a => k_is); (case l => k_is); (case c => k_is); (case k => k_is)
    obtain ⟨fd, hb, F⟩ := AA
    exact ⟨fd, hb, fun base _ _ tb => Sh.all_ok T C (M base) TT F tb h_is_reading h_is_open_class h_has_mean h_product_of h_greatest_that h_mean_of h_is_within h_count_above h_is_above_peak h_class_of h_is_of_class h_may_open h_is_shut h_is_open h_open_areas h_shut_areas h_measured_areas h_are_bounds h_answer_begin h_answer_area h_answer_read h_answer_back h_answer_rainfall h_answer_days h_answer_class h_answer_open h_answer_shut h_answer_opens h_answer_mean h_answer_evenly h_answer_greatest h_answer_would h_answer_fewest h_answer_needs h_answer_lasts h_answer_above h_answer_worse h_answer_best h_answer_order h_answer_why h_answer_reads h_answer_state h_answer_call⟩
  case S =>
    intro K H H0 xs a hO hwi hask hx
    cases hx with
    | cons h1 h2 =>
      cases h2
      cases h1 with
      | lst hs ha =>
        have e := L2.ints_dw a.1 _ ha
        subst e
        have q : ((Codec.inLen 0 1536 a.1 && a.1.all (Codec.inInt 0 4294967295)) && true) = true := hwi
        rw [Bool.and_eq_true, Bool.and_eq_true] at q
        exact ⟨_, a.1, rfl, hO.seq hs, fun z hz => (Sh.inInt_ge (List.all_eq_true.mp q.1.2 z hz)), hask, fun H' p hp => .lst (L2.SqL.of hp) (L2.dw_ints _)⟩
