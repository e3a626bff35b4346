import PyProof.Rows.All
import Wide.All
import OpenK.AllK
import Wide.FinOn
import Lean
import PyProof.EqAt
import PyProof.EqKinds
import PyProof.TupleCall
import PySem.Challenge.RW_barnlots_k07_whole_all_back
-- Lay
set_option Elab.async false
set_option linter.all false
set_option maxRecDepth 100000
namespace L2
open PySem PySem.Spec PyProof.Rows

abbrev Key := Sum Int Str
def keyIs : Key → Value → Bool
  | .inl k, v => Value.isInt k v
  | .inr x, v => Value.isStrOf x v
def keyH (w : World) : Key → Int
  | .inl k => hashInt k
  | .inr x => hashStr w x
theorem keyIs_shape : ∀ {k : Key} {v : Value}, keyIs k v = true → (∃ i t, k = Sum.inl i ∧ v = Value.int i t) ∨ (∃ x t, k = Sum.inr x ∧ v = Value.str x t)
  | .inl i, v, h => by
    obtain ⟨t, e⟩ := Value.isInt_shape (k := i) (v := v) h
    exact .inl ⟨i, t, rfl, e⟩
  | .inr x, v, h => by
    obtain ⟨t, e⟩ := Value.isStrOf_shape (x := x) (v := v) h
    exact .inr ⟨x, t, rfl, e⟩
theorem keyIs_int (i : Int) (t : Tok) : keyIs (.inl i) (.int i t) = true := by simp [keyIs, Value.isInt]
theorem keyIs_str (x : Str) (t : Tok) : keyIs (.inr x) (.str x t) = true := by simp [keyIs, Value.isStrOf]
theorem key_ll (a b : Int) : decide ((Sum.inl a : Key) = Sum.inl b) = (a == b) := by
  by_cases e : a = b
  · subst e; simp
  · have h : ¬ (Sum.inl a : Key) = Sum.inl b := fun q => e (Sum.inl.inj q)
    rw [decide_eq_false h]
    exact (beq_eq_false_iff_ne.mpr e).symm
theorem key_rr (a b : Str) : decide ((Sum.inr a : Key) = Sum.inr b) = decide (a = b) := by
  by_cases e : a = b
  · subst e; simp
  · have h : ¬ (Sum.inr a : Key) = Sum.inr b := fun q => e (Sum.inr.inj q)
    rw [decide_eq_false h, decide_eq_false e]
theorem key_lr (a : Int) (b : Str) : decide ((Sum.inl a : Key) = Sum.inr b) = false := decide_eq_false (fun q => nomatch q)
theorem key_rl (a : Str) (b : Int) : decide ((Sum.inr a : Key) = Sum.inl b) = false := decide_eq_false (fun q => nomatch q)

def mixKind (prog : Program) (w : World) : PySem.KeyKind prog w Key where
  is := keyIs
  hash := keyH w
  inj := fun v a b ha hb => by
    rcases keyIs_shape ha with ⟨i, t, rfl, rfl⟩ | ⟨x, t, rfl, rfl⟩
    · rcases keyIs_shape hb with ⟨j, u, rfl, e⟩ | ⟨y, u, rfl, e⟩
      · injection e with e1 _; rw [e1]
      · exact nomatch e
    · rcases keyIs_shape hb with ⟨j, u, rfl, e⟩ | ⟨y, u, rfl, e⟩
      · exact nomatch e
      · injection e with e1 _; rw [e1]
  byValue := fun k v h => by
    rcases keyIs_shape h with ⟨i, t, rfl, rfl⟩ | ⟨x, t, rfl, rfl⟩ <;> rfl
  pyHash := fun hv h => by
    rcases keyIs_shape hv with ⟨i, t, rfl, rfl⟩ | ⟨x, t, rfl, rfl⟩
    · exact wpAny_pyHash_int h
    · exact wpAny_pyHash_str h
  eqBool := fun hu hv h => by
    rcases keyIs_shape hu with ⟨i, t, rfl, rfl⟩ | ⟨x, t, rfl, rfl⟩
    · rcases keyIs_shape hv with ⟨j, u, rfl, rfl⟩ | ⟨y, u, rfl, rfl⟩
      · rw [key_ll] at h; exact wpAny_eqBool_int h
      · rw [key_lr] at h; exact SeqAt.EqAt.int_str i t y u _ _ _ _ h
    · rcases keyIs_shape hv with ⟨j, u, rfl, rfl⟩ | ⟨y, u, rfl, rfl⟩
      · rw [key_rl] at h; exact SeqAt.EqAt.str_int x t j u _ _ _ _ h
      · rw [key_rr] at h; exact wpAny_eqBool_str h
  «strs» := fun k x t v h => by
    rcases keyIs_shape h with ⟨i, u, rfl, e⟩ | ⟨y, u, rfl, e⟩
    · exact nomatch e
    · injection e with e1 _
      subst e1
      cases v <;> rfl

theorem mixKind_int (prog : Program) (w : World) (i : Int) (t : Tok) : (mixKind prog w).is (.inl i) (.int i t) = true := keyIs_int i t
theorem mixKind_str (prog : Program) (w : World) (x : Str) (t : Tok) : (mixKind prog w).is (.inr x) (.str x t) = true := keyIs_str x t
end L2

namespace L2
open PySem PySem.Spec PyProof.Rows

inductive V where
  | non | bl (b : Bool) | int (i : Int) | str (x : Str) | byt (b : Array UInt8) | flt (b : UInt64) | ref (a : Addr) | ty (n : String)
  deriving DecidableEq

def RelV : V → Value → Prop
  | .non, u => u = Value.none
  | .bl b, u => u = Value.bool b
  | .int i, u => ∃ t, u = Value.int i t
  | .str x, u => ∃ t, u = Value.str x t
  | .byt b, u => ∃ t, u = Value.bytes b t
  | .flt b, u => ∃ t, u = Value.float b t
  | .ref a, u => u = Value.ref a
  | .ty n, u => u = Value.type n

abbrev Vals : List V → List Value → Prop := Paired RelV
theorem Vals.length {xs : List V} {us : List Value} (r : Vals xs us) : xs.length = us.length := Paired.length r
theorem Vals.get : ∀ {xs : List V} {us : List Value} {i : Nat} {x : V}, Vals xs us → xs[i]? = some x → ∃ u, us[i]? = some u ∧ RelV x u
  | _, _, _, _, .nil, e => by simp at e
  | _, _, 0, _, .cons r _, e => by simp at e; subst e; exact ⟨_, rfl, r⟩
  | _, _, i + 1, x, .cons _ t, e => by
    obtain ⟨u, h1, h2⟩ := Vals.get (i := i) (x := x) t (by simpa using e)
    exact ⟨u, by simpa using h1, h2⟩
theorem Vals.set {x : V} {u : Value} (r : RelV x u) : ∀ {xs : List V} {us : List Value} (i : Nat), Vals xs us → Vals (xs.set i x) (us.set i u)
  | _, _, _, .nil => .nil
  | _, _, 0, .cons _ t => .cons r t
  | _, _, i + 1, .cons q t => .cons q (Vals.set r i t)
theorem Vals.append : ∀ {xs ys : List V} {us ws : List Value}, Vals xs us → Vals ys ws → Vals (xs ++ ys) (us ++ ws)
  | _, _, _, _, .nil, s => s
  | _, _, _, _, .cons r t, s => .cons r (Vals.append t s)
theorem Vals.take : ∀ {xs : List V} {us : List Value} (n : Nat), Vals xs us → Vals (xs.take n) (us.take n)
  | _, _, 0, _ => .nil
  | _, _, _ + 1, .nil => .nil
  | _, _, n + 1, .cons r t => .cons r (Vals.take n t)
theorem Vals.drop : ∀ {xs : List V} {us : List Value} (n : Nat), Vals xs us → Vals (xs.drop n) (us.drop n)
  | _, _, 0, r => r
  | _, _, _ + 1, .nil => .nil
  | _, _, n + 1, .cons _ t => Vals.drop n t

def RelO : Option V → Option Value → Prop
  | some v, some u => RelV v u
  | none, none => True
  | _, _ => False
def KV {κ : Type} : List (κ × V) → List (κ × Value) → Prop := Paired fun (p : κ × V) (q : κ × Value) => p.1 = q.1 ∧ RelV p.2 q.2

def kV : Key → V
  | .inl i => .int i
  | .inr x => .str x

inductive HO where
  /-- a list -/
  | lst (xs : List V)
  /-- a tuple (never changes) -/
  | tup (xs : List V)
  /-- a dict whose keys are ints and texts; one whose keys are tuples of ints and texts (the empty one is both) -/
  | dK (kvs : List (Key × V)) | dT (kvs : List (List Key × V))
  /-- a set of ints: its members, its size -/
  | set (S : Int → Bool) (n : Nat)
  /-- an instance of the class at C, its dict at dx, its attributes -/
  | ins (C dx : Addr) (fs : List (Str × V))
  /-- the dict of the instance at x -/
  | own (x : Addr)
  /-- the dict of an exception -/
  | xd (fs : List (Str × V))
  /-- a bound method, f of x -/
  | met (f x : Addr)
  /-- a range object lo, lo + 1, .. below hi -/
  | rng (lo hi : Int)
  /-- a thing that is known to the object (the script; a dict while a loop walks it): read, never written while it is so -/
  | frz (o : Obj) (u : HO)
  /-- a code object's table -/
  | tbl (ps : Array Value)
  /-- any other thing, by what is true of its one object (a def of one's own: SetO a S n := HO.ext fun h => ..) -/
  | ext (φ : Heap → Prop)

abbrev Hp := Addr → Option HO
def upd (H : Hp) (a : Addr) (o : HO) : Hp := fun b => if b = a then some o else H b
theorem upd_same {H : Hp} {a : Addr} {o : HO} : upd H a o a = some o := by unfold upd; rw [if_pos rfl]
theorem upd_ne {H : Hp} {a b : Addr} {o : HO} (h : b ≠ a) : upd H a o b = H b := by unfold upd; rw [if_neg h]
theorem upd_upd {H : Hp} {a : Addr} {o u : HO} : upd (upd H a o) a u = upd H a u := by
  funext b; unfold upd; split <;> rfl
theorem ne_of {H : Hp} {a b : Addr} {o u : HO} (h : H a = some o) (h' : H b = some u) (d : o ≠ u) : a ≠ b := by
  intro e; subst e; rw [h] at h'; exact d (Option.some.inj h')
theorem ne_of_none {H : Hp} {a b : Addr} {o : HO} (h : H a = some o) (h' : H b = none) : a ≠ b := by
  intro e; subst e; rw [h] at h'; cases h'

section
variable (P : Program) (w : World)
def ObjOk (H : Hp) (h : Heap) (a : Addr) : HO → Prop
  | .lst xs => xs.length ≤ sizeLine ∧ ∃ (its : List Value) (n : Nat), Vals xs its ∧ h.get? a = some { cls := .type "list", data := .seq its.toArray n }
  | .tup xs => xs.length ≤ sizeLine ∧ ∃ its : List Value, Vals xs its ∧ IsTup h a its.toArray
  | .dK kvs => kvs.length ≤ sizeLine ∧ (a == sysModules) = false ∧ ∃ vs, KV kvs vs ∧ h.DictOf (mixKind P w) a vs
  | .dT kvs => kvs.length ≤ sizeLine ∧ (a == sysModules) = false ∧ ∃ xs : List (List Key × Addr × Value),
      Paired (fun (p : List Key × V) (q : List Key × Addr × Value) => p.1 = q.1 ∧ H q.2.1 = some (.tup (p.1.map kV)) ∧ RelV p.2 q.2.2) kvs xs ∧
      ∃ o es ep, h.get? a = some o ∧ o.ExactDict ∧ o.data = .dict es ep ∧ es.toList = xs.map (entryOfKey (tupleKind (mixKind P w))) ∧ (xs.map (·.1)).Nodup
  | .set S n => h.SetOf (intKind P w) a S n
  | .ins C dx fs => H dx = some (.own a) ∧ fs.length ≤ 1000 ∧ dx ≠ a ∧ h.get? a = some (PySem.W.instObj C dx) ∧
      ∃ mA, h.Ns1 dx mA ∧ (∀ f, RelO (fs.lookup f) (mA f)) ∧ PySem.Within mA (fs.map (·.1))
  | .own _ => ∃ o, h.get? a = some o
  | .xd fs => ∃ mA, h.Ns1 a mA ∧ ∀ f, RelO (fs.lookup f) (mA f)
  | .rng lo hi => ∃ t u v, h.get? a = some { cls := .type "range", data := .fields #[.int lo t, .int hi u, .int 1 v] }
  | .frz o u => h.get? a = some o ∧ ObjOk H h a u
  | .tbl ps => h.get? a = some { cls := .none, data := .fields ps }
  | .met f x => h.get? a = some (PySem.W.methodObj (.ref f) (.ref x))
  | .ext φ => φ h ∧ (∃ o, h.get? a = some o) ∧ ∀ h1 h2 : Heap, φ h1 → (∀ o, h1.get? a = some o → h2.get? a = some o) → φ h2
def HOk (H : Hp) (h : Heap) : Prop := ∀ a o, H a = some o → ObjOk P w H h a o
end

section
variable {P : Program} {w : World} {H H' : Hp} {h h' : Heap} {a : Addr} {o : HO}
theorem ObjOk.lt (x : ObjOk P w H h a o) : a < h.objs.size := by
  cases o with
  | lst xs => obtain ⟨_, _, _, _, e⟩ := x; exact Heap.lt_size e
  | tup xs => obtain ⟨_, _, _, p⟩ := x; exact p.lt
  | dK kvs => obtain ⟨_, _, _, _, o, _, _, e, _⟩ := x; exact Heap.lt_size e
  | dT kvs => obtain ⟨_, _, _, _, o, _, _, e, _⟩ := x; exact Heap.lt_size e
  | set S n => obtain ⟨o, _, _, _, e, _⟩ := x; exact Heap.lt_size e
  | ins C dx fs => obtain ⟨_, _, _, e, _⟩ := x; exact Heap.lt_size e
  | own y => obtain ⟨_, e⟩ := x; exact Heap.lt_size e
  | xd fs => obtain ⟨_, ⟨_, _, _, e, _⟩, _⟩ := x; exact Heap.lt_size e
  | rng lo hi => obtain ⟨_, _, _, e⟩ := x; exact Heap.lt_size e
  | frz ob u => obtain ⟨e, _⟩ := x; exact Heap.lt_size e
  | tbl ps => exact Heap.lt_size (show h.get? a = some _ from x)
  | met f y => exact Heap.lt_size (show h.get? a = some _ from x)
  | ext φ => obtain ⟨_, ⟨_, e⟩, _⟩ := x; exact Heap.lt_size e
theorem Paired.mapP {α β : Type} {F G : α → β → Prop} : ∀ {l₁ : List α} {l₂ : List β}, Paired F l₁ l₂ → (∀ a b, F a b → G a b) → Paired G l₁ l₂
  | _, _, .nil, _ => .nil
  | _, _, .cons r t, f => .cons (f _ _ r) (Paired.mapP t f)
theorem Paired.imp' {α β : Type} {F G : α → β → Prop} (f : ∀ a b, F a b → G a b) {l₁ : List α} {l₂ : List β} (r : Paired F l₁ l₂) : Paired G l₁ l₂ := Paired.mapP r f
theorem ObjOk.stay (x : ObjOk P w H h a o) (k : ∀ b u, (b = a ∨ H b = some (.own a)) → h.get? b = some u → h'.get? b = some u)
    (ho : ∀ b, H b = some (.own a) → H' b = some (.own a)) (ht : ∀ b xs, H b = some (.tup xs) → H' b = some (.tup xs)) : ObjOk P w H' h' a o := by
  induction o with
  | lst xs => obtain ⟨z, its, n, r, e⟩ := x; exact ⟨z, its, n, r, k _ _ (.inl rfl) e⟩
  | tup xs => obtain ⟨z, its, r, ob, e, c⟩ := x; exact ⟨z, its, r, ob, k _ _ (.inl rfl) e, c⟩
  | dK kvs => obtain ⟨z, y, vs, r, ob, es, ep, e, c⟩ := x; exact ⟨z, y, vs, r, ob, es, ep, k _ _ (.inl rfl) e, c⟩
  | dT kvs =>
    obtain ⟨z, y, xs, r, ob, es, ep, e, c⟩ := x
    exact ⟨z, y, xs, Paired.mapP r fun p q z => ⟨z.1, ht _ _ z.2.1, z.2.2⟩, ob, es, ep, k _ _ (.inl rfl) e, c⟩
  | set S n => obtain ⟨ob, es, ep, t, e, c⟩ := x; exact ⟨ob, es, ep, t, k _ _ (.inl rfl) e, c⟩
  | ins C dx fs =>
    obtain ⟨d, z, ne, e, mA, ⟨od, es, ep, e2, c⟩, r⟩ := x
    exact ⟨ho _ d, z, ne, k _ _ (.inl rfl) e, mA, ⟨od, es, ep, k _ _ (.inr d) e2, c⟩, r⟩
  | own y => obtain ⟨ob, e⟩ := x; exact ⟨ob, k _ _ (.inl rfl) e⟩
  | xd fs => obtain ⟨mA, ⟨od, es, ep, e, c⟩, r⟩ := x; exact ⟨mA, ⟨od, es, ep, k _ _ (.inl rfl) e, c⟩, r⟩
  | rng lo hi => obtain ⟨t, u, v, e⟩ := x; exact ⟨t, u, v, k _ _ (.inl rfl) e⟩
  | frz ob u ih => obtain ⟨e, q⟩ := x; exact ⟨k _ _ (.inl rfl) e, ih q⟩
  | tbl ps =>
    have e : h.get? a = some { cls := .none, data := .fields ps } := x
    show h'.get? a = some { cls := .none, data := .fields ps }
    exact k a _ (.inl rfl) e
  | met f y =>
    have e : h.get? a = some (PySem.W.methodObj (.ref f) (.ref y)) := x
    show h'.get? a = some (PySem.W.methodObj (.ref f) (.ref y))
    exact k a _ (.inl rfl) e
  | ext φ => obtain ⟨p, ⟨o, e⟩, st⟩ := x; exact ⟨st _ _ p fun o q => k _ _ (.inl rfl) q, ⟨o, k _ _ (.inl rfl) e⟩, st⟩
theorem HOk.lt (x : HOk P w H h) (e : H a = some o) : a < h.objs.size := (x a o e).lt
theorem HOk.fresh (x : HOk P w H h) (e : h.objs.size ≤ a) : H a = none := by
  cases q : H a with
  | none => rfl
  | some u => exact absurd (Nat.lt_of_lt_of_le (x.lt q) e) (Nat.lt_irrefl _)
theorem HOk.kept (x : HOk P w H h) (k : ∀ b u, h.get? b = some u → h'.get? b = some u) : HOk P w H h' := fun a o e =>
  (x a o e).stay (fun b u _ q => k b u q) (fun _ q => q) fun _ _ q => q
theorem HOk.laid (x : HOk P w H h) (k : ∀ b u, h.get? b = some u → h'.get? b = some u) (hp : h.objs.size ≤ a) (new : ObjOk P w (upd H a o) h' a o) : HOk P w (upd H a o) h' := fun b u e => by
  have hn := x.fresh hp
  by_cases hb : b = a
  · subst hb; rw [upd_same] at e; cases e; exact new
  · rw [upd_ne hb] at e
    exact (x b u e).stay (fun c v _ q => k c v q) (fun c q => by rw [upd_ne (ne_of_none q hn)]; exact q) fun c xs q => by rw [upd_ne (ne_of_none q hn)]; exact q
end

def Rd (H : Hp) (a : Addr) (u : HO) : Prop := H a = some u ∨ ∃ o, H a = some (.frz o u)
theorem Rd.ok {P : Program} {w : World} {H : Hp} {h : Heap} {a : Addr} {u : HO} (r : Rd H a u) (x : HOk P w H h) : ObjOk P w H h a u := by
  rcases r with r | ⟨o, r⟩
  · exact x a u r
  · obtain ⟨_, q⟩ := x a _ r
    exact q
def Mut : Option HO → Prop
  | some (.lst _) => True
  | some (.dK _) => True
  | some (.dT _) => True
  | some (.set _ _) => True
  | some (.ins _ _ _) => True
  | some (.ext _) => True
  | _ => False
section
variable {P : Program} {w : World} {H : Hp} {h h' : Heap} {x e : Addr} {o' : HO}
theorem HOk.write (ok : HOk P w H h) (mu : Mut (H x)) (he : e = x ∨ H e = some (.own x)) (k : ∀ b u, b ≠ e → h.get? b = some u → h'.get? b = some u) (heo : ∃ u, h'.get? e = some u)
    (new : ObjOk P w (upd H x o') h' x o') : HOk P w (upd H x o') h' := fun b u q => by
  have nown : ∀ c y, H c = some (.own y) → c ≠ x := fun c y r z => by subst z; rw [r] at mu; exact mu
  have ntup : ∀ c xs, H c = some (.tup xs) → c ≠ x := fun c xs r z => by subst z; rw [r] at mu; exact mu
  by_cases hb : b = x
  · subst hb; rw [upd_same] at q; cases q; exact new
  · rw [upd_ne hb] at q
    by_cases hbe : b = e
    · have q' : H b = some (.own x) := by
        rcases he with z | z
        · exact absurd (hbe.trans z) hb
        · rw [hbe]; exact z
      rw [q] at q'; cases q'
      obtain ⟨v, hv⟩ := heo
      exact ⟨v, by rw [hbe]; exact hv⟩
    · refine (ok b u q).stay (fun c v hc r => k c v ?_ r) (fun c r => by rw [upd_ne (nown c b r)]; exact r) fun c xs r => by rw [upd_ne (ntup c xs r)]; exact r
      rcases hc with rfl | hc
      · exact hbe
      · rintro rfl
        rcases he with z | z
        · exact nown c b hc z
        · rw [hc] at z; cases z; exact hb rfl
end

/-! ### kept unless tracked; of the frames at fs (the callers') the slots may change (an exception that passes writes there); of the records at ex (iterators) nothing is said -/
structure Un (fs ex : List Addr) (H H' : Hp) (h h' : Heap) : Prop where
  keep : ∀ b o, h.get? b = some o → H b = none → b ∉ fs → b ∉ ex → h'.get? b = some o
  slot : ∀ b o, h.get? b = some o → H b = none → b ∈ fs → b ∉ ex → ∃ sl, h'.get? b = some { o with slots := sl }
  free : ∀ b o, h.get? b = some o → H b = none → b ∉ ex → H' b = none
  there : ∀ b o, h.get? b = some o → b ∉ ex → ∃ o', h'.get? b = some o'
  tups : ∀ b xs, H b = some (.tup xs) → H' b = some (.tup xs)
  frzs : ∀ b o u, H b = some (.frz o u) → H' b = some (.frz o u)
  tbls : ∀ b ps, H b = some (.tbl ps) → ∃ more, H' b = some (.tbl (ps ++ more))
section
variable {fs fs' ex ex' : List Addr} {H H1 H2 : Hp} {h h1 h2 h' : Heap} {a x e : Addr} {o : HO}
theorem Un.any (u : Un fs ex H H1 h h1) {b : Addr} {ob : Obj} (q : h.get? b = some ob) (n : H b = none) (hx : b ∉ ex) : ∃ sl, h1.get? b = some { ob with slots := sl } := by
  by_cases hb : b ∈ fs
  · exact u.slot b ob q n hb hx
  · exact ⟨ob.slots, u.keep b ob q n hb hx⟩
theorem Un.kept (k : ∀ b u, h.get? b = some u → h'.get? b = some u) : Un fs ex H H h h' :=
  ⟨fun b ob q _ _ _ => k b ob q, fun b ob q _ _ _ => ⟨ob.slots, k b ob q⟩, fun _ _ _ n _ => n, fun b ob q _ => ⟨ob, k b ob q⟩, fun _ _ q => q, fun _ _ _ q => q, fun _ ps q => ⟨#[], by rw [q]; simp⟩⟩
theorem Un.refl : Un fs ex H H h h := Un.kept fun _ _ q => q
theorem Un.laid (k : ∀ b u, h.get? b = some u → h'.get? b = some u) (hp : h.objs.size ≤ a) (hn : H a = none) : Un fs ex H (upd H a o) h h' where
  keep := fun b u q _ _ _ => k b u q
  slot := fun b u q _ _ _ => ⟨u.slots, k b u q⟩
  free := fun b u q n _ => by rw [upd_ne (Nat.ne_of_lt (Nat.lt_of_lt_of_le (Heap.lt_size q) hp))]; exact n
  there := fun b u q _ => ⟨u, k b u q⟩
  tups := fun b xs q => by rw [upd_ne (ne_of_none q hn)]; exact q
  frzs := fun b u xs q => by rw [upd_ne (ne_of_none q hn)]; exact q
  tbls := fun b ps q => ⟨#[], by rw [upd_ne (ne_of_none q hn), q]; simp⟩
theorem Un.write (mu : Mut (H x)) (he : e = x ∨ H e = some (.own x)) (k : ∀ b u, b ≠ e → h.get? b = some u → h'.get? b = some u) (heo : ∃ u, h'.get? e = some u) : Un fs ex H (upd H x o) h h' := by
  have hx : ∀ b, H b = none → b ≠ x := fun b n z => by subst z; rw [n] at mu; exact mu
  have hb : ∀ b, H b = none → b ≠ e := fun b n z => by
    subst z
    rcases he with r | r
    · exact hx b n r
    · rw [n] at r; cases r
  have hm : ∀ b u, H b = some u → ¬ Mut (some u) → b ≠ x := fun b u q nm z => by subst z; rw [q] at mu; exact nm mu
  refine ⟨fun b u q n _ _ => k b u (hb b n) q, fun b u q n _ _ => ⟨u.slots, k b u (hb b n) q⟩, fun b u q n _ => by rw [upd_ne (hx b n)]; exact n, fun b u q _ => ?_,
    fun b xs q => by rw [upd_ne (hm b _ q fun z => z)]; exact q, fun b u xs q => by rw [upd_ne (hm b _ q fun z => z)]; exact q, fun b ps q => ⟨#[], by rw [upd_ne (hm b _ q fun z => z), q]; simp⟩⟩
  by_cases hbe : b = e
  · subst hbe; exact heo
  · exact ⟨u, k b u hbe q⟩
end

/-! ### the heap without what is tracked -/
def trk (h : Heap) (H : Hp) : List Addr := (List.range h.objs.size).filter fun a => (H a).isSome
def hidT (h : Heap) (H : Hp) : Heap := PySem.W.hideAll h (trk h H)
theorem hidT_size (h : Heap) (H : Hp) : (hidT h H).objs.size = h.objs.size := PySem.W.hideAll_size _ _
theorem hidT_get {h : Heap} {H : Hp} {b : Addr} {o : Obj} (e : h.get? b = some o) (n : H b = none) : (hidT h H).get? b = some o :=
  PySem.W.hideAll_get _ e fun hm => by
    have q : (H b).isSome = true := (List.mem_filter.mp hm).2
    rw [n] at q; simp at q
theorem of_hidT {h : Heap} {H : Hp} {b : Addr} {o : Obj} (e : (hidT h H).get? b = some o) : h.get? b = some o ∧ H b = none := by
  have e' : h.get? b = some o := PySem.W.of_hideAll (trk h H) e
  refine ⟨e', ?_⟩
  cases q : H b with
  | none => rfl
  | some x =>
    have hm : b ∈ trk h H := List.mem_filter.mpr ⟨List.mem_range.mpr (Heap.lt_size e'), by simp [q]⟩
    have z : (hidT h H).get? b = none := PySem.W.hideAll_none (trk h H) hm
    rw [z] at e; cases e

/-! ### OpenK's ledger, filled with every new object but one -/
def allNews (g h : Heap) (L : Addr) : List (Addr × Obj) := (List.range h.objs.size).filterMap fun a => if a = L ∨ (g.get? a).isSome = true then none else (h.get? a).map fun o => (a, o)
theorem mem_allNews {g h : Heap} {L a : Addr} {o : Obj} (h1 : a ≠ L) (h2 : g.get? a = none) (h3 : h.get? a = some o) : (a, o) ∈ allNews g h L :=
  List.mem_filterMap.mpr ⟨a, List.mem_range.mpr (Heap.lt_size h3), by simp [h1, h2, h3]⟩
theorem of_mem_allNews {g h : Heap} {L : Addr} {p : Addr × Obj} (hp : p ∈ allNews g h L) : p.1 ≠ L ∧ g.get? p.1 = none ∧ h.get? p.1 = some p.2 := by
  obtain ⟨b, _, e⟩ := List.mem_filterMap.mp hp
  split at e
  · cases e
  · rename_i hn
    cases q : h.get? b with
    | none => rw [q] at e; simp at e
    | some u =>
      rw [q] at e
      simp only [Option.map_some, Option.some.injEq] at e
      subst e
      refine ⟨fun z => hn (.inl z), ?_, q⟩
      show g.get? b = none
      cases r : g.get? b with
      | none => rfl
      | some v => exact (hn (.inr (by simp [r]))).elim
def rest (g h : Heap) (L d : Addr) : List (Addr × Obj) := (allNews g h L).filter fun p => decide (p.1 ≠ d)
theorem news_all {g h : Heap} {L : Addr} : News g L h (allNews g h L) := fun p hp => let ⟨a, b, c⟩ := of_mem_allNews hp; ⟨c, a, b⟩
end L2

namespace L2
open PySem PySem.Spec PyProof.Rows

structure Mod (K : PySem.W.Frag) (mg : Str → Option Value) (base : Heap) : Prop where
  kin : K.In base
  glob : base.Ns mainGlobals mg
  blt : ∃ mb, base.Ns builtinsNs mb ∧ ∀ x : Str, x ≠ "__name__" → mb x = bootBuiltins x
  nolimit : base.NoLimit

structure Cx where
  prog : Program
  w : World
  K : PySem.W.Frag
  mg : Str → Option Value
  base : Heap
  A : Around
  N : List Str
  s₀ : Shared
  H₀ : Hp
  env : Env
  outer : List Env
  stack : List Env
  ex : List Addr
  fn : Str → Bool
  calm : Bool
  pn : List (Addr × Obj)
  xe : Value → Shared → Prop
def frs (l : List Env) : List Addr := l.filterMap (·.frame)
abbrev Cx.fs (X : Cx) : List Addr := frs X.outer

def Vis (sc : Scope) (x : Str) : Prop := sc.names.lookup x = some .local ∨ sc.names.lookup x = some .cell ∨ sc.names.lookup x = some .free
def Loc (sc : Scope) (x : Str) : Prop := sc.names.lookup x = some .local ∨ sc.names.lookup x = some .cell
def Look (env : Env) (h : Heap) (m : Str → Option Value) (x : Str) (u : Value) : Prop :=
  (env.kindOf x = some .local ∧ m x = some u) ∨ ((env.kindOf x = some .cell ∨ env.kindOf x = some .free) ∧ ∃ c, env.cells.lookup x = some c ∧ h.IsCell c (some u))

structure Cx.Ok (X : Cx) : Prop where
  mod : Mod X.K X.mg X.base
  kind : X.env.scope.kind = .function
  glob : X.env.globals = mainGlobals
  blt : X.env.builtins = builtinsNs
  above : X.s₀.heap.objs.size ≤ X.env.locals
  inj : ∀ x y c, X.env.cells.lookup x = some c → X.env.cells.lookup y = some c → x = y
  has : ∀ x, (X.env.kindOf x = some .cell ∨ X.env.kindOf x = some .free) → ∃ c, X.env.cells.lookup x = some c
  cab : ∀ x c, X.fn x = true → X.env.cells.lookup x = some c → X.s₀.heap.objs.size ≤ c
  hd : X.calm = true → X.A.handled = none
  frames : X.A.frames = some X.stack
  stk : X.stack = X.outer ∨ (X.stack = X.env :: X.outer ∧ X.env.frame = some X.env.locals)
  exf : ∀ b ∈ X.ex, b ≠ X.env.locals ∧ ∀ x c, X.env.cells.lookup x = some c → c ≠ b
  bs : ∀ b o, X.base.get? b = some o → X.s₀.heap.get? b = some o ∧ X.H₀ b = none
  bsz : X.base.objs.size ≤ X.s₀.heap.objs.size
  noex : ∀ b o, X.base.get? b = some o → b ∉ X.ex
  exfs : ∀ b ∈ X.ex, b ∉ X.fs
  funs : X.s₀.heap.FunFrames X.base X.outer
  frf : ∀ b ∈ X.fs, X.H₀ b = none

structure Inv (X : Cx) (pins : List (Addr × Obj)) (σ : List (Option V)) (H : Hp) (s : Shared) : Prop where
  ok : X.Ok
  os : s.os = X.s₀.os
  bare : AllBare s.gens
  base : Un X.fs X.ex X.H₀ H X.s₀.heap s.heap
  loc : ∃ m, s.heap.Ns X.env.locals m ∧ ∀ (i : Nat) (x : Str) (v : V), X.N[i]? = some x → σ[i]? = some (some v) → Vis X.env.scope x → ∃ u, RelV v u ∧ Look X.env s.heap m x u
  cell : ∀ x c, X.env.cells.lookup x = some c → ∃ v, s.heap.IsCell c v
  free : H X.env.locals = none
  freeC : ∀ x c, X.env.cells.lookup x = some c → H c = none
  pin : ∀ p ∈ X.pn ++ pins, s.heap.get? p.1 = some p.2 ∧ H p.1 = none ∧ p.1 ≠ X.env.locals ∧ p.1 ∉ X.fs ∧ ∀ v, p.2.data ≠ .cell v
  hok : HOk X.prog X.w H s.heap
  len : σ.length = X.N.length

section
variable {X : Cx} {pins : List (Addr × Obj)} {σ : List (Option V)} {H H' : Hp} {s : Shared} {h' : Heap}

theorem Cx.Ok.nofr (ok : X.Ok) {b : Addr} {o : Obj} (e : X.base.get? b = some o) : b ∉ X.fs := fun hb => by
  have := (ok.funs.mem hb).1
  rw [e] at this; cases this
theorem Inv.bs (I : Inv X pins σ H s) : ∀ b o, X.base.get? b = some o → s.heap.get? b = some o ∧ H b = none := fun b o e =>
  ⟨I.base.keep b o (I.ok.bs b o e).1 (I.ok.bs b o e).2 (I.ok.nofr e) (I.ok.noex b o e), I.base.free b o (I.ok.bs b o e).1 (I.ok.bs b o e).2 (I.ok.noex b o e)⟩
theorem Inv.bk (I : Inv X pins σ H s) : ∀ b o, X.base.get? b = some o → s.heap.get? b = some o := fun b o e => (I.bs b o e).1
theorem Inv.mod (I : Inv X pins σ H s) : Mod X.K X.mg X.base := I.ok.mod
theorem Inv.kIn (I : Inv X pins σ H s) : X.K.In s.heap := I.ok.mod.kin.keeps I.bk
theorem Inv.lt (I : Inv X pins σ H s) : X.env.locals < s.heap.objs.size := let ⟨_, hn, _⟩ := I.loc; hn.lt
theorem Inv.sz (I : Inv X pins σ H s) : X.s₀.heap.objs.size ≤ s.heap.objs.size := Nat.le_trans I.ok.above (Nat.le_of_lt I.lt)
theorem Inv.nofs (I : Inv X pins σ H s) {a : Addr} (h : s.heap.objs.size ≤ a) : a ∉ X.fs := fun hb => by
  obtain ⟨_, o, ho, _⟩ := I.ok.funs.mem hb
  exact absurd (Nat.lt_of_lt_of_le (Heap.lt_size ho) (Nat.le_trans I.sz h)) (Nat.lt_irrefl _)
theorem Inv.cne (I : Inv X pins σ H s) : ∀ x c, X.env.cells.lookup x = some c → c ≠ X.env.locals := fun x c e z => by
  obtain ⟨v, o, ho, hd⟩ := I.cell x c e
  obtain ⟨m, ⟨o', es, ep, ho', hd', _⟩, _⟩ := I.loc
  rw [z, ho'] at ho; cases ho; rw [hd'] at hd; cases hd
theorem Inv.funs (I : Inv X pins σ H s) : s.heap.FunFrames X.base X.outer := by
  have all : ∀ (l : List Env), (∀ b ∈ frs l, b ∈ X.fs) → X.s₀.heap.FunFrames X.base l → s.heap.FunFrames X.base l := by
    intro l
    induction l with
    | nil => intro _ _; trivial
    | cons env r ih =>
      intro hs hl
      obtain ⟨hk, ⟨L, o, hf, hn, ho, hd⟩, hr⟩ := hl
      have hL : L ∈ X.fs := hs L (by unfold frs; rw [List.filterMap_cons, hf]; exact List.mem_cons_self)
      obtain ⟨sl, e⟩ := I.base.slot L o ho (I.ok.frf L hL) hL fun z => I.ok.exfs L z hL
      exact ⟨hk, ⟨L, _, hf, hn, e, hd⟩, ih (fun b hb => hs b (by unfold frs; rw [List.filterMap_cons, hf]; exact List.mem_cons_of_mem _ hb)) hr⟩
  exact all X.outer (fun _ hb => hb) I.ok.funs

theorem Inv.stack (I : Inv X pins σ H s) : s.heap.FunFrames X.base X.stack := by
  rcases I.ok.stk with e | ⟨e, hf⟩
  · rw [e]; exact I.funs
  · rw [e]
    obtain ⟨m, hn, _⟩ := I.loc
    refine .cons (by rw [I.ok.kind]; decide) hf hn ?_ I.funs
    exact Heap.get?_none_of_le (Nat.le_trans I.ok.bsz I.ok.above)
theorem Inv.stkSub (I : Inv X pins σ H s) : ∀ b ∈ frs X.stack, b ∈ X.env.locals :: X.fs := fun b hb => by
  rcases I.ok.stk with e | ⟨e, hf⟩
  · rw [e] at hb; exact List.mem_cons_of_mem _ hb
  · rw [e] at hb
    unfold frs at hb
    rw [List.filterMap_cons, hf] at hb
    exact hb
theorem Inv.stkFree (I : Inv X pins σ H s) : ∀ b ∈ frs X.stack, H b = none := fun b hb => by
  rcases List.mem_cons.mp (I.stkSub b hb) with e | hb
  · rw [e]; exact I.free
  · obtain ⟨_, o, ho, _⟩ := I.ok.funs.mem hb
    exact I.base.free b o ho (I.ok.frf b hb) fun z => I.ok.exfs b z hb

theorem Inv.step {g' : Array GenState} {t' : Nat} {d' : Drawn} {ch : List Addr} (I : Inv X pins σ H s)
    (hch : ∀ b ∈ ch, (b ∈ X.ex ∨ X.s₀.heap.objs.size ≤ b) ∧ b ≠ X.env.locals ∧ (∀ x c, X.env.cells.lookup x = some c → c ≠ b) ∧ ∀ p ∈ X.pn ++ pins, p.1 ≠ b)
    (keep : ∀ b o, b ≠ X.env.locals → b ∉ X.fs → b ∉ ch → s.heap.get? b = some o → H b = none → h'.get? b = some o)
    (slot : ∀ b o, b ≠ X.env.locals → b ∈ X.fs → b ∉ ch → s.heap.get? b = some o → H b = none → ∃ sl, h'.get? b = some { o with slots := sl }) (free : ∀ b o, b ∉ ch → s.heap.get? b = some o → H b = none → H' b = none)
    (there : ∀ b o, b ∉ ch → s.heap.get? b = some o → ∃ o', h'.get? b = some o')
    (tups : ∀ b xs, H b = some (.tup xs) → H' b = some (.tup xs)) (frzs : ∀ b o u, H b = some (.frz o u) → H' b = some (.frz o u)) (tbls : ∀ b ps, H b = some (.tbl ps) → ∃ more, H' b = some (.tbl (ps ++ more)))
    (ns : ∀ m, s.heap.Ns X.env.locals m → h'.Ns X.env.locals m) (hok : HOk X.prog X.w H' h') (hg : AllBare g') :
    Inv X pins σ H' { s with heap := h', gens := g', drawn := d', toks := t' } := by
  have neL : ∀ b o, X.s₀.heap.get? b = some o → b ≠ X.env.locals := fun b o e => Nat.ne_of_lt (Nat.lt_of_lt_of_le (Heap.lt_size e) I.ok.above)
  have neC : ∀ b o, X.s₀.heap.get? b = some o → b ∉ X.ex → b ∉ ch := fun b o e hx hb => by
    rcases (hch b hb).1 with z | z
    · exact hx z
    · exact absurd (Nat.lt_of_lt_of_le (Heap.lt_size e) z) (Nat.lt_irrefl _)
  have cellK : ∀ x c, X.env.cells.lookup x = some c → ∀ v, s.heap.IsCell c v → h'.IsCell c v := fun x c e v ⟨o, ho, hd⟩ => by
    have nch : c ∉ ch := fun z => (hch c z).2.2.1 x c e rfl
    by_cases hc : c ∈ X.fs
    · obtain ⟨sl, q⟩ := slot c o (I.cne x c e) hc nch ho (I.freeC x c e)
      exact ⟨_, q, hd⟩
    · exact ⟨o, keep c o (I.cne x c e) hc nch ho (I.freeC x c e), hd⟩
  refine ⟨I.ok, I.os, hg, ⟨fun b o e n hb hx => ?_, fun b o e n hb hx => ?_, fun b o e n hx => ?_, fun b o e hx => ?_, fun b xs e => tups b xs (I.base.tups b xs e), fun b o xs e => frzs b o xs (I.base.frzs b o xs e), fun b ps e => ?_⟩, ?_, fun x c e => ?_, ?_, fun x c e => ?_, fun p hp => ?_, hok, I.len⟩
  · exact keep b o (neL b o e) hb (neC b o e hx) (I.base.keep b o e n hb hx) (I.base.free b o e n hx)
  · obtain ⟨sl, e1⟩ := I.base.slot b o e n hb hx
    obtain ⟨sl', e2⟩ := slot b _ (neL b o e) hb (neC b o e hx) e1 (I.base.free b o e n hx)
    exact ⟨sl', e2⟩
  · obtain ⟨o', e1⟩ := I.base.there b o e hx
    exact free b o' (neC b o e hx) e1 (I.base.free b o e n hx)
  · obtain ⟨o', e1⟩ := I.base.there b o e hx
    exact there b o' (neC b o e hx) e1
  · obtain ⟨m1, e1⟩ := I.base.tbls b ps e
    obtain ⟨m2, e2⟩ := tbls b _ e1
    exact ⟨m1 ++ m2, by rw [e2, Array.append_assoc]⟩
  · obtain ⟨m, hn, hl⟩ := I.loc
    refine ⟨m, ns m hn, fun i x v e1 e2 e3 => ?_⟩
    obtain ⟨u, r, l⟩ := hl i x v e1 e2 e3
    refine ⟨u, r, ?_⟩
    rcases l with l | ⟨k, c, e, z⟩
    · exact .inl l
    · exact .inr ⟨k, c, e, cellK x c e _ z⟩
  · obtain ⟨v, z⟩ := I.cell x c e
    exact ⟨v, cellK x c e v z⟩
  · obtain ⟨m, ⟨o, _, _, ho, _⟩, _⟩ := I.loc
    exact free _ o (fun z => (hch _ z).2.1 rfl) ho I.free
  · obtain ⟨v, o, ho, hd⟩ := I.cell x c e
    exact free c o (fun z => (hch c z).2.2.1 x c e rfl) ho (I.freeC x c e)
  · obtain ⟨e, n, ne, nf, d⟩ := I.pin p hp
    have nch : p.1 ∉ ch := fun z => (hch p.1 z).2.2.2 p hp rfl
    exact ⟨keep p.1 p.2 ne nf nch e n, free p.1 p.2 nch e n, ne, nf, d⟩
theorem Inv.un {t' : Nat} (I : Inv X pins σ H s) (u : Un X.fs [] H H' s.heap h') (hok : HOk X.prog X.w H' h') : Inv X pins σ H' { s with heap := h', toks := t' } := by
  obtain ⟨m, ⟨o, es, ep, ho, r⟩, _⟩ := id I.loc
  obtain ⟨sl, hL⟩ := u.any ho I.free (by simp)
  exact I.step (g' := s.gens) (d' := s.drawn) (ch := []) (fun _ z => nomatch z) (fun b o _ hb _ e n => u.keep b o e n hb (by simp)) (fun b o _ hb _ e n => u.slot b o e n hb (by simp)) (fun b o _ e n => u.free b o e n (by simp)) (fun b o _ e => u.there b o e (by simp)) u.tups u.frzs u.tbls (fun m' hm => by
    obtain ⟨o', es', ep', ho', r'⟩ := hm
    rw [ho] at ho'; cases ho'
    exact ⟨_, es', ep', hL, r'⟩) hok I.bare
theorem Inv.call {g' : Array GenState} {t' : Nat} {d' : Drawn} {ch : List Addr} (I : Inv X pins σ H s) (u : Un (frs X.stack) ch H H' s.heap h') (hok : HOk X.prog X.w H' h') (hg : AllBare g')
    (hch : ∀ b ∈ ch, (b ∈ X.ex ∨ X.s₀.heap.objs.size ≤ b) ∧ b ≠ X.env.locals ∧ (∀ x c, X.env.cells.lookup x = some c → c ≠ b) ∧ ∀ p ∈ X.pn ++ pins, p.1 ≠ b) :
    Inv X pins σ H' { s with heap := h', gens := g', drawn := d', toks := t' } := by
  obtain ⟨m, ⟨o, es, ep, ho, r⟩, _⟩ := id I.loc
  obtain ⟨sl, hL⟩ := u.any ho I.free fun z => (hch _ z).2.1 rfl
  exact I.step (ch := ch) hch (fun b o hL hb hc e n => u.keep b o e n (fun z => (List.mem_cons.mp (I.stkSub b z)).elim hL hb) hc) (fun b o _ _ hc e n => u.any e n hc) (fun b o hc e n => u.free b o e n hc) (fun b o hc e => u.there b o e hc) u.tups u.frzs u.tbls (fun m' hm => by
    obtain ⟨o', es', ep', ho', r'⟩ := hm
    rw [ho] at ho'; cases ho'
    exact ⟨_, es', ep', hL, r'⟩) hok hg
theorem Inv.turned {t' : Nat} {it : Addr} (I : Inv X pins σ H s) (k : ∀ b o, b ≠ it → s.heap.get? b = some o → h'.get? b = some o) (hn : H it = none) (hL : it ≠ X.env.locals)
    (h1 : it ∈ X.ex ∨ X.s₀.heap.objs.size ≤ it) (h2 : ∀ x c, X.env.cells.lookup x = some c → c ≠ it) (h3 : ∀ p ∈ X.pn ++ pins, p.1 ≠ it) : Inv X pins σ H { s with heap := h', toks := t' } := by
  have nit : ∀ b u, H b = some u → b ≠ it := fun b u e z => by rw [z, hn] at e; cases e
  refine I.step (g' := s.gens) (d' := s.drawn) (ch := [it]) (fun b hb => ?_) (fun b o _ _ hc e _ => k b o (fun z => hc (by simp [z])) e) (fun b o _ _ hc e _ => ⟨o.slots, k b o (fun z => hc (by simp [z])) e⟩) (fun _ _ _ _ n => n)
    (fun b o hc e => ⟨o, k b o (fun z => hc (by simp [z])) e⟩) (fun _ _ e => e) (fun _ _ _ e => e) (fun b ps e => ⟨#[], by rw [e]; simp⟩) (fun m hm => ?_) (fun b u e => ?_) I.bare
  · have e : b = it := by simpa using hb
    subst e
    exact ⟨h1, hL, h2, h3⟩
  · obtain ⟨o, es, ep, ho, r⟩ := hm
    exact ⟨o, es, ep, k _ o (Ne.symm hL) ho, r⟩
  · refine (I.hok b u e).stay (fun c v hc q => k c v ?_ q) (fun _ q => q) fun _ _ q => q
    rcases hc with z | z
    · rw [z]; exact nit b u e
    · exact nit c _ z
theorem Inv.tok (I : Inv X pins σ H s) (t : Nat) : Inv X pins σ H { s with toks := t } := I.un (h' := s.heap) (t' := t) Un.refl I.hok
theorem Inv.kept {t' : Nat} (I : Inv X pins σ H s) (k : ∀ b u, s.heap.get? b = some u → h'.get? b = some u) : Inv X pins σ H { s with heap := h', toks := t' } := I.un (Un.kept k) (I.hok.kept k)
theorem Inv.laid {a : Addr} {o : HO} {t' : Nat} (I : Inv X pins σ H s) (k : ∀ b u, s.heap.get? b = some u → h'.get? b = some u) (hp : s.heap.objs.size ≤ a) (new : ObjOk X.prog X.w (upd H a o) h' a o) :
    Inv X pins σ (upd H a o) { s with heap := h', toks := t' } := I.un (Un.laid k hp (I.hok.fresh hp)) (I.hok.laid k hp new)
theorem Inv.write {x e : Addr} {o : HO} {t' : Nat} (I : Inv X pins σ H s) (mu : Mut (H x)) (he : e = x ∨ H e = some (.own x)) (k : ∀ b u, b ≠ e → s.heap.get? b = some u → h'.get? b = some u) (heo : ∃ u, h'.get? e = some u)
    (new : ObjOk X.prog X.w (upd H x o) h' x o) : Inv X pins σ (upd H x o) { s with heap := h', toks := t' } := I.un (Un.write mu he k heo) (I.hok.write mu he k heo new)
theorem Inv.pins_of {pins' : List (Addr × Obj)} (I : Inv X pins σ H s) (h : ∀ p ∈ pins', s.heap.get? p.1 = some p.2 ∧ H p.1 = none ∧ p.1 ≠ X.env.locals ∧ p.1 ∉ X.fs ∧ ∀ v, p.2.data ≠ .cell v) : Inv X pins' σ H s :=
  ⟨I.ok, I.os, I.bare, I.base, I.loc, I.cell, I.free, I.freeC, fun p hp => (List.mem_append.mp hp).elim (fun z => I.pin p (List.mem_append_left _ z)) (h p), I.hok, I.len⟩

theorem nodup_ix {N : List Str} (hN : N.Nodup) {i j : Nat} {x : Str} (a : N[i]? = some x) (b : N[j]? = some x) : i = j := by
  obtain ⟨h1, e1⟩ := List.getElem?_eq_some_iff.mp a
  obtain ⟨h2, e2⟩ := List.getElem?_eq_some_iff.mp b
  exact (List.getElem_inj hN).mp (e1.trans e2.symm)

theorem store_ok2 {M : Model} {A : Around} {E : Value → Shared → Prop} {i : Nat} {x : Str} {v : V} {u : Value} {Q : Unit → Shared → Prop} (I : Inv X pins σ H s) (hN : X.N.Nodup) (hi : X.N[i]? = some x) (hx : Loc X.env.scope x) (r : RelV v u)
    (h : ∀ s', Inv X pins (σ.set i (some v)) H s' → (∃ a, Heap.SameBut a s.heap s'.heap ∧ (a = X.env.locals ∨ X.env.cells.lookup x = some a)) → Q () s') (hf : X.fn x = true ∨ X.env.scope.names.lookup x = some .local := by first | exact .inl rfl | exact .inr rfl | assumption) : wpAny M A (storeName X.env x u) Q E s := by
  obtain ⟨m, hn, hl⟩ := id I.loc
  have hcls : (X.env.scope.kind == .class || (X.env.scope.kind == .module && X.env.locals != X.env.globals)) = false := by rw [I.ok.kind]; rfl
  have hiσ : i < σ.length := by rw [I.len]; exact (List.getElem?_eq_some_iff.mp hi).1
  have cne := I.cne
  have tracked : ∀ {a : Addr} {h' : Heap}, (∃ o, s.heap.get? a = some o ∧ H a = none) → Heap.SameBut a s.heap h' → HOk X.prog X.w H h' := fun {a h'} ha hs b ob e => by
    obtain ⟨_, _, hfree⟩ := ha
    refine (I.hok b ob e).stay (fun c w' hc q => (hs.2 c ?_).trans q) (fun _ q => q) fun _ _ q => q
    rintro rfl
    rcases hc with rfl | hc
    · rw [hfree] at e; cases e
    · rw [hfree] at hc; cases hc
  rcases hx with hk | hk
  · refine wpAny_storeName_local hk hn (fun h' hn' hs => ?_) hcls
    obtain ⟨oL, _, _, hoL, _⟩ := id hn
    refine h _ ⟨I.ok, I.os, I.bare, ⟨fun b o e n hb hx => ?_, fun b o e n hb hx => ?_, I.base.free, fun b o e hx => ?_, I.base.tups, I.base.frzs, I.base.tbls⟩, ⟨_, hn', fun j y v' e1 e2 e3 => ?_⟩, fun y c e => ?_, I.free, I.freeC, fun p hp => ?_, tracked ⟨oL, hoL, I.free⟩ hs, by simpa using I.len⟩ ⟨_, hs, .inl rfl⟩
    · exact (hs.2 b (Nat.ne_of_lt (Nat.lt_of_lt_of_le (Heap.lt_size e) I.ok.above))).trans (I.base.keep b o e n hb hx)
    · obtain ⟨sl, e1⟩ := I.base.slot b o e n hb hx
      exact ⟨sl, (hs.2 b (Nat.ne_of_lt (Nat.lt_of_lt_of_le (Heap.lt_size e) I.ok.above))).trans e1⟩
    · obtain ⟨o', e1⟩ := I.base.there b o e hx
      exact ⟨o', (hs.2 b (Nat.ne_of_lt (Nat.lt_of_lt_of_le (Heap.lt_size e) I.ok.above))).trans e1⟩
    · by_cases hj : j = i
      · subst hj
        rw [hi] at e1; cases e1
        rw [List.getElem?_set_self hiσ] at e2
        cases e2
        exact ⟨u, r, .inl ⟨hk, by simp⟩⟩
      · rw [List.getElem?_set_ne (Ne.symm hj)] at e2
        obtain ⟨u', r', q⟩ := hl j y v' e1 e2 e3
        refine ⟨u', r', ?_⟩
        rcases q with ⟨k, e⟩ | ⟨k, c, e, z⟩
        · refine .inl ⟨k, ?_⟩
          have : y ≠ x := fun e => hj (nodup_ix hN e1 (e ▸ hi))
          simp [this, e]
        · exact .inr ⟨k, c, e, z.sameBut hs (cne y c e)⟩
    · obtain ⟨w', z⟩ := I.cell y c e
      exact ⟨w', z.sameBut hs (cne y c e)⟩
    · obtain ⟨e, n, ne, nf, d⟩ := I.pin p hp
      exact ⟨(hs.2 p.1 ne).trans e, n, ne, nf, d⟩
  · have hfn : X.fn x = true := by
      rcases hf with z | z
      · exact z
      · rw [z] at hk; cases hk
    obtain ⟨c, hc⟩ := I.ok.has x (.inl hk)
    obtain ⟨w', z⟩ := I.cell x c hc
    refine wpAny_storeName_cell I.ok.kind hk hc z (fun h' hc' hs => ?_)
    obtain ⟨oc, hoc, hocd⟩ := id z
    refine h { s with heap := h' } ⟨I.ok, I.os, I.bare, ⟨fun b o e n hb hx => ?_, fun b o e n hb hx => ?_, I.base.free, fun b o e hx => ?_, I.base.tups, I.base.frzs, I.base.tbls⟩, ⟨m, hn.sameBut hs (Ne.symm (cne x c hc)), fun j y v' e1 e2 e3 => ?_⟩, fun y c' e => ?_, I.free, I.freeC, fun p hp => ?_, tracked ⟨oc, hoc, I.freeC x c hc⟩ hs, by simpa using I.len⟩ ⟨c, hs, .inr hc⟩
    · exact (hs.2 b (Nat.ne_of_lt (Nat.lt_of_lt_of_le (Heap.lt_size e) (I.ok.cab x c hfn hc)))).trans (I.base.keep b o e n hb hx)
    · obtain ⟨sl, e1⟩ := I.base.slot b o e n hb hx
      exact ⟨sl, (hs.2 b (Nat.ne_of_lt (Nat.lt_of_lt_of_le (Heap.lt_size e) (I.ok.cab x c hfn hc)))).trans e1⟩
    · obtain ⟨o', e1⟩ := I.base.there b o e hx
      exact ⟨o', (hs.2 b (Nat.ne_of_lt (Nat.lt_of_lt_of_le (Heap.lt_size e) (I.ok.cab x c hfn hc)))).trans e1⟩
    · by_cases hj : j = i
      · subst hj
        rw [hi] at e1; cases e1
        rw [List.getElem?_set_self hiσ] at e2
        cases e2
        exact ⟨u, r, .inr ⟨.inl hk, c, hc, hc'⟩⟩
      · rw [List.getElem?_set_ne (Ne.symm hj)] at e2
        obtain ⟨u', r', q⟩ := hl j y v' e1 e2 e3
        refine ⟨u', r', ?_⟩
        rcases q with q | ⟨k, c', e, z'⟩
        · exact .inl q
        · refine .inr ⟨k, c', e, z'.sameBut hs ?_⟩
          rintro rfl
          exact hj (nodup_ix hN e1 (I.ok.inj _ _ _ e hc ▸ hi))
    · by_cases hcc : c' = c
      · subst hcc; exact ⟨_, hc'⟩
      · obtain ⟨w2, z2⟩ := I.cell y c' e
        exact ⟨w2, z2.sameBut hs hcc⟩
    · obtain ⟨e, n, ne, nf, d⟩ := I.pin p hp
      refine ⟨(hs.2 p.1 ?_).trans e, n, ne, nf, d⟩
      intro q
      rw [q, hoc] at e
      have q' : oc = p.2 := Option.some.inj e
      exact d w' (by rw [← q']; exact hocd)
theorem store_ok {M : Model} {A : Around} {E : Value → Shared → Prop} {i : Nat} {x : Str} {v : V} {u : Value} {Q : Unit → Shared → Prop} (I : Inv X pins σ H s) (hN : X.N.Nodup) (hi : X.N[i]? = some x) (hx : Loc X.env.scope x) (r : RelV v u)
    (h : ∀ s', Inv X pins (σ.set i (some v)) H s' → Q () s') (hf : X.fn x = true ∨ X.env.scope.names.lookup x = some .local := by first | exact .inl rfl | exact .inr rfl | assumption) : wpAny M A (storeName X.env x u) Q E s :=
  store_ok2 I hN hi hx r (fun s' I' _ => h s' I') hf
theorem Inv.call' {s' : Shared} {ch : List Addr} (I : Inv X pins σ H s) (ho : s'.os = s.os) (u : Un (frs X.stack) ch H H' s.heap s'.heap) (hok : HOk X.prog X.w H' s'.heap) (hg : AllBare s'.gens)
    (hch : ∀ b ∈ ch, (b ∈ X.ex ∨ X.s₀.heap.objs.size ≤ b) ∧ b ≠ X.env.locals ∧ (∀ x c, X.env.cells.lookup x = some c → c ≠ b) ∧ ∀ p ∈ X.pn ++ pins, p.1 ≠ b) : Inv X pins σ H' s' := by
  obtain ⟨h', g', d', t', o'⟩ := s'
  have e : o' = s.os := ho
  subst e
  exact I.call (g' := g') (t' := t') (d' := d') u hok hg hch
end

/-! ### the judgements -/
abbrev XK := Value → Option Addr → Hp → Prop
abbrev St := List (Option V)
abbrev VK := V → Hp → Prop
abbrev TE := St → Hp → VK → Prop
abbrev TT := St → Hp → (Bool → Hp → Prop) → Prop
abbrev TA := St → Hp → (List V → Hp → Prop) → Prop
structure Ends where
  nx : St → Hp → Prop
  rt : VK
  bk : St → Hp → Prop := fun _ _ => False
  ct : St → Hp → Prop := fun _ _ => False
abbrev TS := Ends → St → Hp → Prop

def EP (X : Cx) (pins : List (Addr × Obj)) (σ : St) (Q : VK) (u : Value) (s' : Shared) : Prop := ∃ v H', Inv X pins σ H' s' ∧ RelV v u ∧ Q v H'
def TP (X : Cx) (pins : List (Addr × Obj)) (σ : St) (Q : Bool → Hp → Prop) (b : Bool) (s' : Shared) : Prop := ∃ H', Inv X pins σ H' s' ∧ Q b H'
def AP (X : Cx) (pins : List (Addr × Obj)) (σ : St) (Q : List V → Hp → Prop) (us : List Value) (s' : Shared) : Prop := ∃ vs H', Inv X pins σ H' s' ∧ Vals vs us ∧ Q vs H'
def SP (X : Cx) (pins : List (Addr × Obj)) (D : Ends) (f : Flow) (s' : Shared) : Prop :=
  match f with
  | .next => ∃ σ' H', Inv X pins σ' H' s' ∧ D.nx σ' H'
  | .brk => ∃ σ' H', Inv X pins σ' H' s' ∧ D.bk σ' H'
  | .cont => ∃ σ' H', Inv X pins σ' H' s' ∧ D.ct σ' H'
  | .ret u => ∃ v σ' H', Inv X pins σ' H' s' ∧ RelV v u ∧ D.rt v H'

def PE (X : Cx) (e : Expr) (t : TE) : Prop :=
  ∀ (pins : List (Addr × Obj)) (s : Shared) (σ : St) (H : Hp) (Q : VK), Inv X pins σ H s → t σ H Q → wpAny (model X.prog X.w) X.A (eval e X.env) (EP X pins σ Q) X.xe s
def PT (X : Cx) (e : Expr) (t : TT) : Prop :=
  ∀ (pins : List (Addr × Obj)) (s : Shared) (σ : St) (H : Hp) (Q : Bool → Hp → Prop), Inv X pins σ H s → t σ H Q → wpAny (model X.prog X.w) X.A (isTrue e X.env (eval e X.env)) (TP X pins σ Q) X.xe s
def PW (X : Cx) (e : Expr) (t : TT) : Prop :=
  ∀ (whole : Sem Value) (pins : List (Addr × Obj)) (s : Shared) (σ : St) (H : Hp) (Q : Bool → Hp → Prop), Inv X pins σ H s → t σ H Q → wpAny (model X.prog X.w) X.A (isTrue e X.env whole) (TP X pins σ Q) X.xe s
theorem PW.pt {X : Cx} {e : Expr} {t : TT} (h : PW X e t) : PT X e t := h _
def PA (X : Cx) (es : List Expr) (t : TA) : Prop :=
  ∀ (pos : Pos) (pins : List (Addr × Obj)) (s : Shared) (σ : St) (H : Hp) (Q : List V → Hp → Prop), Inv X pins σ H s → t σ H Q → wpAny (model X.prog X.w) X.A (spliced (backTo pos (starEach es X.env))) (AP X pins σ Q) X.xe s
def PS (X : Cx) (st : Stmt) (t : TS) : Prop :=
  ∀ (pins : List (Addr × Obj)) (s : Shared) (σ : St) (H : Hp) (D : Ends), Inv X pins σ H s → t D σ H → wpAny (model X.prog X.w) X.A (exec st X.env) (SP X pins D) X.xe s
def PSs (X : Cx) (st : List Stmt) (t : TS) : Prop :=
  ∀ (pins : List (Addr × Obj)) (s : Shared) (σ : St) (H : Hp) (D : Ends), Inv X pins σ H s → t D σ H → wpAny (model X.prog X.w) X.A (execs st X.env) (SP X pins D) X.xe s
theorem thn {α : Type} {t : Sem α} {Q Q' : α → Shared → Prop} {M : Model} {A : Around} {E : Value → Shared → Prop} {s : Shared} (h : wpAny M A t Q E s) (hQ : ∀ a s, Q a s → Q' a s) : wpAny M A t Q' E s := wpAny_mono h hQ fun _ _ x => x
end L2

namespace L2
open PySem PySem.Spec PyProof.Rows
section
variable {X : Cx}


/-! ### names and constants -/
def tVar (i : Nat) : TE := fun σ H Q => ∃ v, σ[i]? = some (some v) ∧ Q v H
def tC (v : V) : TE := fun _ H Q => Q v H
theorem pe_var {i : Nat} {x : Str} {pos : Pos} (hN : X.N[i]? = some x) (hv : Vis X.env.scope x) (hd : (x == ("__debug__" : Str)) = false := by decide) (hcd : (x == ("__classdict__" : Str)) = false := by decide) : PE X (.Name x pos) (tVar i) := by
  intro pins s σ H Q I h
  obtain ⟨v, e, h⟩ := h
  obtain ⟨m, hn, hl⟩ := I.loc
  obtain ⟨u, r, l⟩ := hl i x v hN e hv
  have fin : EP X pins σ Q u s := ⟨v, H, I, r, h⟩
  rcases l with ⟨hk, hm⟩ | ⟨hk, c, hc, hcell⟩
  · exact wpAny_Name (wpAny_loadName_local I.ok.kind hk hn hm fin) hd
  · rcases hk with hk | hk
    · exact wpAny_Name (wpAny_loadName_cell I.ok.kind hk hc hcell fin) hd
    · exact wpAny_Name (wpAny_loadName_free I.ok.kind hk hc hcell fin hcd) hd
theorem pe_int {i j pos} : PE X (.Constant (.int i) j pos) (tC (.int i)) := fun _ _ _ H _ I h => wpAny_Constant_int ⟨.int i, H, I.tok _, ⟨_, rfl⟩, h⟩
theorem pe_bl {b j pos} : PE X (.Constant (.bool b) j pos) (tC (.bl b)) := fun _ _ _ H _ I h => Constant_bool ⟨.bl b, H, I, rfl, h⟩
theorem pe_non {j pos} : PE X (.Constant .none j pos) (tC .non) := fun _ _ _ H _ I h => Constant_none ⟨.non, H, I, rfl, h⟩
theorem pe_str {x j pos} : PE X (.Constant (.str x) j pos) (tC (.str x)) := fun _ _ _ H _ I h => Calls.Constant_str ⟨.str x, H, I.tok _, ⟨_, rfl⟩, h⟩

def Gl (X : Cx) (x : Str) : Prop := X.env.kindOf x = some .globalImplicit
theorem ld_glob {E : Value → Shared → Prop} {pins : List (Addr × Obj)} {s : Shared} {σ : St} {H : Hp} {x : Str} {u : Value} {pos : Pos} {Q : Value → Shared → Prop} (I : Inv X pins σ H s) (hg : Gl X x) (hm : X.mg x = some u) (h : Q u s)
    (hd : (x == ("__debug__" : Str)) = false := by decide) : wpAny (model X.prog X.w) X.A (eval (.Name x pos) X.env) Q E s :=
  Calls.Name_function_global I.ok.kind hg (Calls.loadGlobal_global (by rw [I.ok.glob]; exact I.mod.glob.keeps I.bk) hm h) hd
theorem ld_blt {E : Value → Shared → Prop} {pins : List (Addr × Obj)} {s : Shared} {σ : St} {H : Hp} {x : Str} {u : Value} {pos : Pos} {Q : Value → Shared → Prop} (I : Inv X pins σ H s) (hg : Gl X x) (hm : X.mg x = none) (hv : bootBuiltins x = some u) (h : Q u s)
    (hn : x ≠ "__name__" := by decide) (hd : (x == ("__debug__" : Str)) = false := by decide) : wpAny (model X.prog X.w) X.A (eval (.Name x pos) X.env) Q E s := by
  obtain ⟨mb, h1, h2⟩ := I.mod.blt
  exact Calls.Name_function_global I.ok.kind hg (Calls.loadGlobal_builtin (by rw [I.ok.glob]; exact I.mod.glob.keeps I.bk) hm (by rw [I.ok.blt]; exact h1.keeps I.bk) ((h2 x hn).trans hv) h) hd
theorem pe_bltn {x : Str} {v : V} {u : Value} {pos : Pos} (hg : Gl X x) (hm : X.mg x = none) (hv : bootBuiltins x = some u) (r : RelV v u) (hn : x ≠ "__name__" := by decide) (hd : (x == ("__debug__" : Str)) = false := by decide) : PE X (.Name x pos) (tC v) :=
  fun _ _ _ H _ I h => ld_blt I hg hm hv ⟨v, H, I, r, h⟩ hn hd

/-! ### arithmetic -/
def t2I (ta tb : TE) (k : Int → Int → Hp → Prop) : St → Hp → Prop := fun σ H => ta σ H fun x H1 => tb σ H1 fun y H2 => ∃ i j, x = .int i ∧ y = .int j ∧ k i j H2
def tAdd (ta tb : TE) : TE := fun σ H Q => t2I ta tb (fun i j H2 => Q (.int (i + j)) H2) σ H
def tSub (ta tb : TE) : TE := fun σ H Q => t2I ta tb (fun i j H2 => Q (.int (i - j)) H2) σ H
def tMul (ta tb : TE) : TE := fun σ H Q => t2I ta tb (fun i j H2 => (-(2 ^ 64) < i ∧ i < 2 ^ 64) ∧ Q (.int (i * j)) H2) σ H
variable {a b : Expr} {ta tb : TE} {pos : Pos}

/-! ### comparisons -/
def PC (X : Cx) (op : CmpOp) (a b : Expr) (t : TE) : Prop :=
  ∀ (pins : List (Addr × Obj)) (s : Shared) (σ : St) (H : Hp) (Q : VK), Inv X pins σ H s → t σ H Q →
    wpAny (model X.prog X.w) X.A (eval a X.env) (fun v s₁ => wpAny (model X.prog X.w) X.A (eval b X.env) (fun u s₂ => wpAny (model X.prog X.w) X.A (compareOp op v u) (EP X pins σ Q) X.xe s₂) X.xe s₁) X.xe s
def tCmp (p : Int → Int → Bool) (ta tb : TE) : TE := fun σ H Q => t2I ta tb (fun i j H2 => Q (.bl (p i j)) H2) σ H
abbrev tLt : TE → TE → TE := tCmp fun i j => decide (i < j)
abbrev tLe : TE → TE → TE := tCmp fun i j => decide (i ≤ j)
abbrev tGt : TE → TE → TE := tCmp fun i j => decide (j < i)
abbrev tGe : TE → TE → TE := tCmp fun i j => decide (j ≤ i)
abbrev tEqI : TE → TE → TE := tCmp fun i j => decide (i = j)
abbrev tNeI : TE → TE → TE := tCmp fun i j => !decide (i = j)
def tIsN (ta : TE) : TE := fun σ H Q => ta σ H fun x H1 => Q (.bl (decide (x = .non))) H1
def tNotN (ta : TE) : TE := fun σ H Q => ta σ H fun x H1 => Q (.bl (!decide (x = .non))) H1
def tB (t : TE) : TT := fun σ H Q => t σ H fun x H1 => ∃ c, x = .bl c ∧ Q c H1
theorem pt_cmp {op : CmpOp} {t : TE} (h : PC X op a b t) (h1 : behindInMarks op b = false := by first | exact nobehind _ (by decide) (by decide) | rfl) : PT X (.Compare a [op] [b] pos) (tB t) := by
  intro pins s σ H Q I hw
  refine wpAny_isTrue_Compare1 (thn (h pins s σ H _ I hw) fun v s1 h1 => thn h1 fun u s2 h2 => thn h2 fun c s3 ⟨x, H1, I1, r1, q1⟩ => ?_) h1
  obtain ⟨d, rfl, q⟩ := q1
  cases r1
  exact wpAny_truthy_bool ⟨H1, I1, q⟩
theorem pt_val {e : Expr} {t : TE} (h : PE X e t) (he : ∀ whole, isTrue e X.env whole = (do let v ← whole; standAt e.pos; holding [v] (truthy v)) := by intro _; rfl) : PT X e (tB t) := by
  intro pins s σ H Q I hw
  refine isTrue_plain (thn (h pins s σ H _ I hw) fun v s1 ⟨x, H1, I1, r1, q1⟩ => ?_) (he _)
  obtain ⟨d, rfl, q⟩ := q1
  cases r1
  exact wpAny_truthy_bool ⟨H1, I1, q⟩

/-! ### and, or, not -/
variable {tA tB' : TT} {rest : List Expr}
def tAnd (t u : TT) : TT := fun σ H Q => t σ H fun c H1 => if c = true then u σ H1 Q else Q false H1
def tOr (t u : TT) : TT := fun σ H Q => t σ H fun c H1 => if c = true then Q true H1 else u σ H1 Q
def tNot (t : TT) : TT := fun σ H Q => t σ H fun c H1 => Q (!c) H1
theorem pw_and1 (ha : PT X a tA) : PW X (.BoolOp .And [a] pos) tA := by
  intro wh pins s σ H Q I h
  refine isTrue_and (thn (ha pins s σ H Q I h) fun c s1 e => ?_)
  cases c with
  | true => exact isTrue_and_nil e
  | false => exact e
theorem pw_or1 (ha : PT X a tA) : PW X (.BoolOp .Or [a] pos) tA := by
  intro wh pins s σ H Q I h
  refine isTrue_or (thn (ha pins s σ H Q I h) fun c s1 e => ?_)
  cases c with
  | false => exact isTrue_or_nil e
  | true => exact e
theorem pw_and (ha : PT X a tA) (hb : PW X (.BoolOp .And (b :: rest) pos) tB') : PW X (.BoolOp .And (a :: b :: rest) pos) (tAnd tA tB') := by
  intro wh pins s σ H Q I h
  refine isTrue_and (thn (ha pins s σ H _ I h) fun c s1 ⟨H1, I1, q1⟩ => ?_)
  cases c with
  | true => exact hb wh pins s1 σ H1 Q I1 q1
  | false => exact ⟨H1, I1, q1⟩
theorem pw_or (ha : PT X a tA) (hb : PW X (.BoolOp .Or (b :: rest) pos) tB') : PW X (.BoolOp .Or (a :: b :: rest) pos) (tOr tA tB') := by
  intro wh pins s σ H Q I h
  refine isTrue_or (thn (ha pins s σ H _ I h) fun c s1 ⟨H1, I1, q1⟩ => ?_)
  cases c with
  | true => exact ⟨H1, I1, q1⟩
  | false => exact hb wh pins s1 σ H1 Q I1 q1
theorem pt_not (ha : PT X a tA) : PT X (.UnaryOp .Not a pos) (tNot tA) := by
  intro pins s σ H Q I h
  exact isTrue_not (ha pins s σ H (fun c H1 => Q (!c) H1) I h)
def tAndV (ta tb : TE) : TE := fun σ H Q => ta σ H fun x H1 => ∃ c, x = .bl c ∧ if c = true then tb σ H1 Q else Q (.bl false) H1
def tOrV (ta tb : TE) : TE := fun σ H Q => ta σ H fun x H1 => ∃ c, x = .bl c ∧ if c = true then Q (.bl true) H1 else tb σ H1 Q
def tNotV (ta : TE) : TE := fun σ H Q => ta σ H fun x H1 => ∃ c, x = .bl c ∧ Q (.bl (!c)) H1
theorem pe_one {op} {t : TE} (h : PE X a t) : PE X (.BoolOp op [a] pos) t := fun pins s σ H Q I hw => BoolOp_one (h pins s σ H Q I hw)
theorem pe_and (ha : PE X a ta) (hb : PE X (.BoolOp .And (b :: rest) pos) tb) : PE X (.BoolOp .And (a :: b :: rest) pos) (tAndV ta tb) := by
  intro pins s σ H Q I h
  refine BoolOp_and (thn (ha pins s σ H _ I h) fun v s1 ⟨x, H1, I1, r1, q1⟩ => ?_)
  obtain ⟨c, rfl, q1⟩ := q1
  cases r1
  refine wpAny_truthy_bool ?_
  cases c with
  | true => exact hb pins s1 σ H1 Q I1 q1
  | false => exact ⟨.bl false, H1, I1, rfl, q1⟩
theorem pe_not (ha : PE X a ta) : PE X (.UnaryOp .Not a pos) (tNotV ta) := by
  intro pins s σ H Q I h
  refine UnaryOp_ (thn (ha pins s σ H _ I h) fun v s1 ⟨x, H1, I1, r1, q1⟩ => ?_)
  obtain ⟨c, rfl, q1⟩ := q1
  cases r1
  exact not_of (wpAny_truthy_bool ⟨.bl (!c), H1, I1, rfl, q1⟩)
def tIf (t : TT) (ta tb : TE) : TE := fun σ H Q => t σ H fun c H1 => if c = true then ta σ H1 Q else tb σ H1 Q
theorem pe_ifExp {c : Expr} (hc : PT X c tA) (ha : PE X a ta) (hb : PE X b tb) : PE X (.IfExp c a b pos) (tIf tA ta tb) := by
  intro pins s σ H Q I h
  refine wpAny_IfExp (thn (hc pins s σ H _ I h) fun d s1 ⟨H1, I1, q1⟩ => ?_)
  cases d with
  | true => exact ha pins s1 σ H1 Q I1 q1
  | false => exact hb pins s1 σ H1 Q I1 q1
end
end L2

namespace L2
open PySem PySem.Spec PyProof.Rows

/-! ### a list, a tuple that is read: tracked, frozen, or an object of the module -/
def SqL (K : PySem.W.Frag) (H : Hp) (a : Addr) (xs : List V) : Prop :=
  Rd H a (.lst xs) ∨
    ∃ (o : Obj) (its : Array Value) (n : Nat), K.lookup a = some o ∧ o.cls = .type "list" ∧ o.dict = none ∧ o.data = .seq its n ∧ its.size ≤ sizeLine ∧ Vals xs its.toList
def SqT (K : PySem.W.Frag) (H : Hp) (a : Addr) (xs : List V) : Prop :=
  Rd H a (.tup xs) ∨
    ∃ (o : Obj) (its : Array Value) (n : Nat), K.lookup a = some o ∧ o.cls = .type "tuple" ∧ o.data = .seq its n ∧ its.size ≤ sizeLine ∧ Vals xs its.toList
def absV : Value → Option V
  | .none => some .non
  | .bool b => some (.bl b)
  | .int i _ => some (.int i)
  | .str x _ => some (.str x)
  | .bytes b _ => some (.byt b)
  | .float b _ => some (.flt b)
  | .ref a => some (.ref a)
  | .type n => some (.ty n)
  | _ => none
theorem RelV.abs {x : V} {u : Value} (r : RelV x u) : absV u = some x := by
  cases x with
  | non => cases r; rfl
  | bl _ => cases r; rfl
  | int _ => obtain ⟨t, rfl⟩ := r; rfl
  | str _ => obtain ⟨t, rfl⟩ := r; rfl
  | byt _ => obtain ⟨t, rfl⟩ := r; rfl
  | flt _ => obtain ⟨t, rfl⟩ := r; rfl
  | ref _ => cases r; rfl
  | ty _ => cases r; rfl
theorem RelV.inj {x y : V} {u : Value} (r : RelV x u) (q : RelV y u) : x = y := Option.some.inj (r.abs.symm.trans q.abs)
theorem Vals.inj : ∀ {xs ys : List V} {us : List Value}, Vals xs us → Vals ys us → xs = ys
  | _, _, _, .nil, .nil => rfl
  | _, _, _, .cons r t, .cons r' t' => by rw [r.inj r', Vals.inj t t']
section
variable {X : Cx} {pins : List (Addr × Obj)} {σ : St} {H : Hp} {s : Shared} {a : Addr} {xs ys : List V}
theorem SqL.of {K : PySem.W.Frag} (h : H a = some (.lst xs)) : SqL K H a xs := .inl (.inl h)
theorem SqT.of {K : PySem.W.Frag} (h : H a = some (.tup xs)) : SqT K H a xs := .inl (.inl h)
theorem Inv.list (I : Inv X pins σ H s) (h : SqL X.K H a xs) : ∃ its : List Value, Vals xs its ∧ PlainL s.heap a its.toArray ∧ xs.length ≤ sizeLine := by
  rcases h with h | ⟨o, its, n, hk, hc, hd, hs, hz, r⟩
  · obtain ⟨z, its, n, r, e⟩ := h.ok I.hok
    exact ⟨its, r, ⟨_, n, e, rfl, rfl, rfl⟩, z⟩
  · refine ⟨its.toList, r, ⟨o, n, I.kIn a o hk, hc, hd, by simpa using hs⟩, ?_⟩
    have e := r.length
    simp only [Array.length_toList] at e
    omega
theorem Inv.tuple (I : Inv X pins σ H s) (h : SqT X.K H a xs) : ∃ its : List Value, Vals xs its ∧ IsTup s.heap a its.toArray ∧ xs.length ≤ sizeLine := by
  rcases h with h | ⟨o, its, n, hk, hc, hs, hz, r⟩
  · obtain ⟨z, its, r, p⟩ := h.ok I.hok
    exact ⟨its, r, p, z⟩
  · refine ⟨its.toList, r, ⟨o, I.kIn a o hk, hc, n, by simpa using hs⟩, ?_⟩
    have e := r.length
    simp only [Array.length_toList] at e
    omega
theorem Inv.list_inj (I : Inv X pins σ H s) (h : SqL X.K H a xs) (h' : SqL X.K H a ys) : xs = ys := by
  obtain ⟨its, r, ⟨o, n, e, _, _, d⟩, _⟩ := I.list h
  obtain ⟨its', r', ⟨o', n', e', _, _, d'⟩, _⟩ := I.list h'
  rw [e] at e'; cases e'
  rw [d] at d'
  injection d' with d1 _
  have : its = its' := by simpa using congrArg Array.toList d1
  subst this
  exact r.inj r'
end

/-! ### another wish about exceptions -/
abbrev Cx.wish (X : Cx) (E : Value → Shared → Prop) : Cx := { X with xe := E }
abbrev Cx.nox (X : Cx) : Cx := X.wish fun _ _ => False
theorem Cx.Ok.wish {X : Cx} (ok : X.Ok) (E : Value → Shared → Prop) : (X.wish E).Ok :=
  ⟨ok.mod, ok.kind, ok.glob, ok.blt, ok.above, ok.inj, ok.has, ok.cab, ok.hd, ok.frames, ok.stk, ok.exf, ok.bs, ok.bsz, ok.noex, ok.exfs, ok.funs, ok.frf⟩
theorem Cx.Ok.unwish {X : Cx} {E : Value → Shared → Prop} (ok : (X.wish E).Ok) : X.Ok :=
  ⟨ok.mod, ok.kind, ok.glob, ok.blt, ok.above, ok.inj, ok.has, ok.cab, ok.hd, ok.frames, ok.stk, ok.exf, ok.bs, ok.bsz, ok.noex, ok.exfs, ok.funs, ok.frf⟩
section
variable {X : Cx} {pins : List (Addr × Obj)} {σ : St} {H : Hp} {s : Shared} {E : Value → Shared → Prop}
theorem Inv.wish (I : Inv X pins σ H s) (E : Value → Shared → Prop) : Inv (X.wish E) pins σ H s := ⟨I.ok.wish E, I.os, I.bare, I.base, I.loc, I.cell, I.free, I.freeC, I.pin, I.hok, I.len⟩
theorem Inv.unwish (I : Inv (X.wish E) pins σ H s) : Inv X pins σ H s := ⟨I.ok.unwish, I.os, I.bare, I.base, I.loc, I.cell, I.free, I.freeC, I.pin, I.hok, I.len⟩
theorem SP.unwish {D : Ends} {f : Flow} {s' : Shared} (h : SP (X.wish E) pins D f s') : SP X pins D f s' := by
  cases f with
  | next => obtain ⟨σ', H', I, q⟩ := h; exact ⟨σ', H', I.unwish, q⟩
  | brk => obtain ⟨σ', H', I, q⟩ := h; exact ⟨σ', H', I.unwish, q⟩
  | cont => obtain ⟨σ', H', I, q⟩ := h; exact ⟨σ', H', I.unwish, q⟩
  | ret u => obtain ⟨v, σ', H', I, r, q⟩ := h; exact ⟨v, σ', H', I.unwish, r, q⟩
theorem PSs.nox {st : List Stmt} {t : TS} (h : PSs X.nox st t) : PSs X st t := fun pins s σ H D I hw =>
  wpAny_mono (h pins s σ H D (I.wish _) hw) (fun _ _ q => q.unwish) fun _ _ z => False.elim z
end

/-! ### blocks and small statements -/
section
variable {X : Cx} {st : Stmt} {rest : List Stmt} {t u : TS} {e : Expr} {te : TE} {pos : Pos}
def tNext : TS := fun D σ H => D.nx σ H
def tSeq (t u : TS) : TS := fun D σ H => t { D with nx := u D } σ H
theorem pss_nil : PSs X [] tNext := fun _ _ σ H _ I h => wpAny_execs_nil ⟨σ, H, I, h⟩
theorem pss_cons (h1 : PS X st t) (h2 : PSs X rest u) : PSs X (st :: rest) (tSeq t u) := by
  intro pins s σ H D I h
  refine wpAny_execs_cons (thn (h1 pins s σ H { D with nx := u D } I h) fun f s1 q => ?_)
  cases f with
  | next =>
    obtain ⟨σ', H', I', q⟩ := q
    exact h2 pins s1 σ' H' D I' q
  | ret v => exact q
  | brk => exact q
  | cont => exact q
theorem pss_one (h1 : PS X st t) : PSs X [st] t := by
  intro pins s σ H D I h
  refine wpAny_execs_cons (thn (h1 pins s σ H D I h) fun f s1 q => ?_)
  cases f with
  | next => exact wpAny_execs_nil q
  | ret v => exact q
  | brk => exact q
  | cont => exact q
def tBreak : TS := fun D σ H => D.bk σ H
def tCont : TS := fun D σ H => D.ct σ H
theorem Inv.quiet {pins : List (Addr × Obj)} {σ : St} {H : Hp} {s : Shared} (I : Inv X pins σ H s) : interactive X.env = false := by simp [interactive, I.ok.kind]
def tDrop (te : TE) : TS := fun D σ H => te σ H fun _ H1 => D.nx σ H1
theorem ps_expr (he : PE X e te) (hs : swapsWith e none pos.line X.env = pure false := by rfl) : PS X (.Expr e pos) (tDrop te) := by
  intro pins s σ H D I h
  exact wpAny_Expr_any (thn (he pins s σ H _ I h) fun v s1 ⟨x, H1, I1, r1, q1⟩ => ⟨σ, H1, I1, q1⟩) I.quiet hs
def tRet (te : TE) : TS := fun D σ H => te σ H D.rt
theorem ps_ret (he : PE X e te) : PS X (.Return (some e) pos) (tRet te) := by
  intro pins s σ H D I h
  exact wpAny_Return_some (thn (he pins s σ H _ I h) fun v s1 ⟨x, H1, I1, r1, q1⟩ => ⟨x, σ, H1, I1, r1, q1⟩)
def tRetN : TS := fun D _ H => D.rt .non H
def tIfS (c : TT) (t u : TS) : TS := fun D σ H => c σ H fun b H1 => if b = true then t D σ H1 else u D σ H1
theorem ps_if {c : Expr} {a b : List Stmt} {tc : TT} (hc : PT X c tc) (ha : PSs X a t) (hb : PSs X b u) : PS X (.If c a b pos) (tIfS tc t u) := by
  intro pins s σ H D I h
  refine wpAny_If (thn (hc pins s σ H _ I h) fun d s1 ⟨H1, I1, q1⟩ => ?_)
  cases d with
  | true => exact ha pins s1 σ H1 D I1 q1
  | false => exact hb pins s1 σ H1 D I1 q1
def tNever : TS := fun _ _ _ => False
end

/-! ### targets -/
abbrev TG := V → St → Hp → (St → Hp → Prop) → Prop
abbrev TGs := List V → St → Hp → (St → Hp → Prop) → Prop
def PG (X : Cx) (target : Expr) (t : TG) : Prop :=
  ∀ (pins : List (Addr × Obj)) (s : Shared) (σ : St) (H : Hp) (v : V) (u : Value) (Q : St → Hp → Prop), Inv X pins σ H s → RelV v u → t v σ H Q →
    wpAny (model X.prog X.w) X.A (assign target X.env u) (fun _ s' => ∃ σ' H', Inv X pins σ' H' s' ∧ Q σ' H') X.xe s
def PGs (X : Cx) (ts : List Expr) (t : TGs) : Prop :=
  ∀ (pins : List (Addr × Obj)) (s : Shared) (σ : St) (H : Hp) (vs : List V) (us : List Value) (Q : St → Hp → Prop), Inv X pins σ H s → Vals vs us → t vs σ H Q →
    wpAny (model X.prog X.w) X.A (assignInOrder ((assignEach ts X.env).map (·.2)) us) (fun _ s' => ∃ σ' H', Inv X pins σ' H' s' ∧ Q σ' H') X.xe s
abbrev TSet := V → V → V → Hp → (Hp → Prop) → Prop
def PSet (X : Cx) (t : TSet) : Prop :=
  ∀ (pins : List (Addr × Obj)) (s : Shared) (σ : St) (H : Hp) (o i v : V) (ov iv u : Value) (Q : Hp → Prop), Inv X pins σ H s → RelV o ov → RelV i iv → RelV v u → t o i v H Q →
    wpAny (model X.prog X.w) X.A (setItem ov iv u) (fun _ s' => ∃ H', Inv X pins σ H' s' ∧ Q H') X.xe s
abbrev TIp := V → V → Hp → VK → Prop
def PIp (X : Cx) (op : Operator) (t : TIp) : Prop :=
  ∀ (pins : List (Addr × Obj)) (s : Shared) (σ : St) (H : Hp) (x y : V) (v u : Value) (Q : VK), Inv X pins σ H s → RelV x v → RelV y u → t x y H Q →
    wpAny (model X.prog X.w) X.A (inplaceOp op v u) (EP X pins σ Q) X.xe s
section
variable {X : Cx} {pos : Pos}
def gName (i : Nat) : TG := fun v σ H Q => Q (σ.set i (some v)) H
theorem pg_name {i : Nat} {x : Str} (hN : X.N.Nodup) (hi : X.N[i]? = some x) (hx : Loc X.env.scope x) (hf : X.fn x = true ∨ X.env.scope.names.lookup x = some .local := by first | exact .inl rfl | exact .inr rfl | assumption) : PG X (.Name x pos) (gName i) := by
  intro pins s σ H v u Q I r h
  exact wpAny_assign_Name (store_ok I hN hi hx r (fun s' I' => ⟨_, H, I', h⟩) hf)
def gNil : TGs := fun vs σ H Q => vs = [] ∧ Q σ H
def gCons (t : TG) (u : TGs) : TGs := fun vs σ H Q => ∃ v r, vs = v :: r ∧ t v σ H fun σ' H' => u r σ' H' Q
theorem pgs_nil : PGs X [] gNil := by
  intro pins s σ H vs us Q I r h
  obtain ⟨e, h⟩ := h
  subst e
  cases r
  exact assignInOrder_nil ⟨σ, H, I, h⟩
theorem pgs_cons {e : Expr} {es : List Expr} {t : TG} {u : TGs} (h1 : PG X e t) (h2 : PGs X es u)
    (hs : (assignEach (e :: es) X.env).map (·.2) = assign e X.env :: (assignEach es X.env).map (·.2) := by rfl) : PGs X (e :: es) (gCons t u) := by
  intro pins s σ H vs us Q I r h
  obtain ⟨v, vr, e1, h⟩ := h
  subst e1
  cases r with
  | cons r rr =>
    rw [hs]
    refine assignInOrder_cons (thn (h1 pins s σ H _ _ _ I r h) fun _ s1 ⟨σ1, H1, I1, q1⟩ => ?_)
    exact h2 pins s1 σ1 H1 _ _ Q I1 rr q1
def gTup (K : PySem.W.Frag) (n : Nat) (t : TGs) : TG := fun v σ H Q => ∃ a xs, v = .ref a ∧ SqT K H a xs ∧ xs.length = n ∧ t xs σ H Q
theorem pg_tup {es : List Expr} {k : Nat} {t : TGs} {n : Nat} (hc : X.calm = true) (h : PGs X es t)
    (hn : (assignEach es X.env).length = n := by rfl) (hst : (assignEach es X.env).findIdx? (·.1) = none := by rfl) : PG X (.Tuple es k pos) (gTup X.K n t) := by
  intro pins s σ H v u Q I r hw
  obtain ⟨a, xs, e1, hq, hl, hw⟩ := hw
  subst e1
  cases r
  obtain ⟨its, rv, ht, hz⟩ := I.tuple hq
  refine assign_Tuple_tuple (I.ok.hd hc) ht (by simp [hn, ← hl, rv.length]) hst fun h' hx => ?_
  have I1 : Inv X pins σ H { s with heap := h' } := I.kept (t' := s.toks) fun b o e => hx b o (Nat.ne_of_lt (Heap.lt_size e)) e
  exact h pins _ σ H xs _ Q I1 (by simpa using rv) hw
def gSub (to ti : TE) (t : TSet) : TG := fun v σ H Q => to σ H fun o H1 => ti σ H1 fun i H2 => t o i v H2 fun H3 => Q σ H3
theorem pg_sub {o i : Expr} {to ti : TE} {t : TSet} (ho : PE X o to) (hi : PE X i ti) (hs : PSet X t)
    (ha : ∀ v, assign (.Subscript o i pos) X.env v = (do
      let ov ← holding [v] (eval o X.env)
      let iv ← holding [v, ov] (eval i X.env)
      standAt pos
      holding [v, ov, iv] (setItem ov iv v)
      release [v, ov, iv] []) := by intro _; rfl) : PG X (.Subscript o i pos) (gSub to ti t) := by
  intro pins s σ H v u Q I r h
  rw [ha]
  refine wpAny_bind (wpAny_holding (thn (ho pins s σ H _ I h) fun ov s1 ⟨x, H1, I1, r1, q1⟩ => ?_))
  refine wpAny_bind (wpAny_holding (thn (hi pins s1 σ H1 _ I1 q1) fun iv s2 ⟨y, H2, I2, r2, q2⟩ => ?_))
  refine wpAny_bind (wpAny_standAt (wpAny_bind (wpAny_holding (thn (hs pins s2 σ H2 x y v ov iv u _ I2 r1 r2 r q2) fun _ s3 ⟨H3, I3, q3⟩ => ?_))))
  exact wpAny_release ⟨σ, H3, I3, q3⟩
def tAsg (te : TE) (g : TG) : TS := fun D σ H => te σ H fun x H1 => g x σ H1 D.nx
theorem ps_asg {tg e : Expr} {te : TE} {g : TG} (he : PE X e te) (hg : PG X tg g) (hs : swapsWithSole [tg] e pos.line X.env = pure false := by rfl) (hw : swappedStores [tg] e X.env = pure none := by rfl)
    (h1 : (assignEach [tg] X.env).map (·.2) = [assign tg X.env] := by rfl) : PS X (.Assign [tg] e pos) (tAsg te g) := by
  intro pins s σ H D I h
  refine wpAny_Assign_stores (thn (he pins s σ H _ I h) fun v s1 ⟨x, H1, I1, r1, q1⟩ => ?_) hs hw
  rw [h1]
  exact thn (hg pins s1 σ H1 x v _ I1 r1 q1) fun _ s2 q => q
theorem ps_set {i : Nat} {x : Str} {e : Expr} {te : TE} {pos' : Pos} (hN : X.N.Nodup) (hi : X.N[i]? = some x) (hx : Loc X.env.scope x) (he : PE X e te) (hs : swapsWith e (some (.Name x pos')) pos.line X.env = pure false := by rfl) (hf : X.fn x = true ∨ X.env.scope.names.lookup x = some .local := by first | exact .inl rfl | exact .inr rfl | assumption) :
    PS X (.Assign [.Name x pos'] e pos) (tAsg te (gName i)) := by
  intro pins s σ H D I h
  refine wpAny_Assign_Name (thn (he pins s σ H _ I h) fun v s1 ⟨y, H1, I1, r1, q1⟩ => ?_) hs
  exact store_ok I1 hN hi hx r1 (fun s2 I2 => ⟨_, H1, I2, q1⟩) hf
def tPar (i j : Nat) (ta : TA) : TS := fun D σ H => ta σ H fun vs H1 => ∃ v w, vs = [v, w] ∧ D.nx ((σ.set i (some v)).set j (some w)) H1
def tAug (i : Nat) (te : TE) (ti : TIp) : TS := fun D σ H => ∃ x, σ[i]? = some (some x) ∧ te σ H fun y H1 => ti x y H1 fun z H2 => D.nx (σ.set i (some z)) H2
def tAugS (to ti te : TE) (tget : V → V → Hp → VK → Prop) (tip : TIp) (tset : TSet) : TS := fun D σ H => to σ H fun o H1 => ti σ H1 fun i H2 => tget o i H2 fun x H3 => te σ H3 fun y H4 => tip x y H4 fun z H5 => tset o i z H5 fun H6 => D.nx σ H6
def PGet (X : Cx) (t : V → V → Hp → VK → Prop) : Prop :=
  ∀ (pins : List (Addr × Obj)) (s : Shared) (σ : St) (H : Hp) (o i : V) (ov iv : Value) (Q : VK), Inv X pins σ H s → RelV o ov → RelV i iv → t o i H Q →
    wpAny (model X.prog X.w) X.A (getItem ov iv) (EP X pins σ Q) X.xe s
def ipI (f : Int → Int → Int) : TIp := fun x y H Q => ∃ i j, x = .int i ∧ y = .int j ∧ Q (.int (f i j)) H
end

/-! ### while -/
section
variable {X : Cx} {pos : Pos}
def tWhile (c : TT) (tb : TS) : TS := fun D σ H => ∃ W : Nat → St → Hp → Prop, (∃ m, W m σ H) ∧ ∀ m σ H, W m σ H →
  c σ H fun b H1 => if b = true then ∃ N : St → Hp → Prop, (∀ σ' H', N σ' H' → ∃ m', m' < m ∧ W m' σ' H') ∧ tb { D with nx := N, ct := N, bk := D.nx } σ H1 else D.nx σ H1
theorem ps_while {c : Expr} {body : List Stmt} {tc : TT} {tb : TS} (hp : PassesOwn (model X.prog X.w) X.A X.env X.xe) (hc : PT X c tc) (hb : PSs X body tb) : PS X (.While c body [] pos) (tWhile tc tb) := by
  intro pins s σ H D I h
  obtain ⟨W, ⟨m0, w0⟩, turn⟩ := h
  refine wpAny_While (codeAny_whileLoop (fun n s' => ∃ σ' H', Inv X pins σ' H' s' ∧ W n σ' H') ?_ m0 ⟨σ, H, I, w0⟩)
  rintro n s1 ⟨σ1, H1, I1, w1⟩
  refine wpAny_passesOwn hp (thn (hc pins s1 σ1 H1 _ I1 (turn n σ1 H1 w1)) fun b s2 ⟨H2, I2, q2⟩ => ?_)
  cases b with
  | true =>
    obtain ⟨N, hN, q2⟩ := q2
    rw [if_pos rfl]
    refine wpAny_passesOwn hp (thn (hb pins s2 σ1 H2 _ I2 q2) fun f s3 q3 => ?_)
    cases f with
    | next =>
      obtain ⟨σ3, H3, I3, n3⟩ := q3
      obtain ⟨m', hm, w3⟩ := hN σ3 H3 n3
      exact ⟨m', hm, σ3, H3, I3, w3⟩
    | cont =>
      obtain ⟨σ3, H3, I3, n3⟩ := q3
      obtain ⟨m', hm, w3⟩ := hN σ3 H3 n3
      exact ⟨m', hm, σ3, H3, I3, w3⟩
    | brk => exact q3
    | ret v => exact q3
  | false =>
    rw [if_neg Bool.false_ne_true]
    exact wpAny_execs_nil ⟨σ1, H2, I2, q2⟩
end

/-! ### what a loop or a comprehension walks -/
structure It where
  go : Nat → Hp → Prop
  yld : Nat → Hp → V → Hp → Prop
  stop : Nat → Hp → Prop
def FpOk (X : Cx) (pins : List (Addr × Obj)) (H : Hp) (b : Addr) : Prop :=
  H b = none ∧ b ≠ X.env.locals ∧ b ∉ X.fs ∧ (b ∈ X.ex ∨ X.s₀.heap.objs.size ≤ b) ∧ (∀ x c, X.env.cells.lookup x = some c → c ≠ b) ∧ ∀ p ∈ X.pn ++ pins, p.1 ≠ b
theorem Inv.fpOk {X : Cx} {pins : List (Addr × Obj)} {σ : St} {H H' : Hp} {s : Shared} {b : Addr} (I : Inv X pins σ H s) (hb : s.heap.objs.size ≤ b) (hn : H' b = none) : FpOk X pins H' b := by
  refine ⟨hn, Nat.ne_of_gt (Nat.lt_of_lt_of_le I.lt hb), I.nofs hb, .inr (Nat.le_trans I.sz hb), fun x c e z => ?_, fun p hp z => ?_⟩
  · obtain ⟨v, q⟩ := I.cell x c e
    exact absurd (Nat.lt_of_lt_of_le q.lt (by rw [z]; exact hb)) (Nat.lt_irrefl _)
  · exact absurd (Nat.lt_of_lt_of_le (Heap.lt_size (I.pin p hp).1) (by rw [z]; exact hb)) (Nat.lt_irrefl _)
structure Turn (P : Program) (w : World) (K : PySem.W.Frag) (tg : Expr) (J : It) (fp : List Addr) (it : Addr) (tn : Nat → Heap → Prop) : Prop where
  mem : it ∈ fp
  obj : ∀ i h, tn i h → ∀ b ∈ fp, ∃ o, h.get? b = some o ∧ ∀ v, o.data ≠ .cell v
  keep : ∀ i h h', tn i h → (∀ b ∈ fp, ∀ o, h.get? b = some o → h'.get? b = some o) → tn i h'
  item : ∀ (X : Cx), X.prog = P → X.w = w → X.K = K → X.calm = true → ∀ (i : Nat) (pins : List (Addr × Obj)) (s : Shared) (σ : St) (H : Hp) (E : Value → Shared → Prop), Inv X pins σ H s → (∀ b ∈ fp, FpOk X pins H b) → tn i s.heap → J.go i H →
    wpAny (model P w) X.A (pyNext (.ref it)) (fun r s1 => ∃ u, r = some u ∧
      wpAny (model P w) X.A (letOwnedTupleGo tg (.ref it) u) (fun _ s2 => ∃ x H', Inv X pins σ H' s2 ∧ RelV x u ∧ J.yld i H x H' ∧ tn (i + 1) s2.heap ∧ ∀ b ∈ fp, H' b = none) E s1) E s
  done : ∀ (X : Cx), X.prog = P → X.w = w → X.K = K → X.calm = true → ∀ (i : Nat) (pins : List (Addr × Obj)) (s : Shared) (σ : St) (H : Hp) (E : Value → Shared → Prop), Inv X pins σ H s → (∀ b ∈ fp, FpOk X pins H b) → tn i s.heap → J.stop i H →
    wpAny (model P w) X.A (pyNext (.ref it)) (fun r s1 => r = none ∧ Inv X pins σ H s1) E s
  self : ∀ (A : Around) (i : Nat) (s : Shared) (Q : Value → Shared → Prop) (E : Value → Shared → Prop), tn i s.heap → Q (.ref it) s → wpAny (model P w) A (pyIter (.ref it)) Q E s
abbrev TI := St → Hp → (It → Hp → Prop) → Prop
def PIE (X : Cx) (pins : List (Addr × Obj)) (σ : St) (tg : Expr) (R : It → Hp → Prop) (itv : Value) (s2 : Shared) : Prop :=
  ∃ (it : Addr) (fp : List Addr) (tn : Nat → Heap → Prop) (J : It) (H' : Hp), itv = .ref it ∧ Inv X pins σ H' s2 ∧ Turn X.prog X.w X.K tg J fp it tn ∧ tn 0 s2.heap ∧ (∀ b ∈ fp, FpOk X pins H' b) ∧ R J H'
def PI (X : Cx) (tg iter : Expr) (wi : TI) : Prop :=
  ∀ (pins : List (Addr × Obj)) (s : Shared) (σ : St) (H : Hp) (R : It → Hp → Prop), Inv X pins σ H s → wi σ H R →
    wpAny (model X.prog X.w) X.A (eval iter X.env) (fun v s1 => wpAny (model X.prog X.w) X.A (pyIter v) (PIE X pins σ tg R) X.xe s1) X.xe s

theorem go_of {M : Model} {A : Around} {E : Value → Shared → Prop} {s : Shared} {tg : Expr} {it : Addr} {u : Value} {o : Obj} {n : String} {vs : Array Value} {Q : Unit → Shared → Prop} (ho : s.heap.get? it = some o) (hc : o.cls = .type n) (hd : o.data = .fields vs)
    (hn : ["enumerate", "zip", "dict_itemiterator", "dict_reverseitemiterator", "odict_iterator", "itertools.zip_longest", "itertools.pairwise"].contains n = false) (hQ : Q () s) : wpAny M A (letOwnedTupleGo tg (.ref it) u) Q E s := by
  unfold letOwnedTupleGo
  cases tg <;> first
    | exact wpAny_pure hQ
    | (cases u <;> first
        | exact wpAny_pure hQ
        | (refine wpAny_bind (wpAny_load ho ?_)
           rw [hc, hd]
           show wpAny M A (if (["enumerate", "zip", "dict_itemiterator", "dict_reverseitemiterator", "odict_iterator", "itertools.zip_longest", "itertools.pairwise"].contains n && vs[0]? == some (rawInt _)) = true then _ else _) Q E s
           rw [if_neg (by intro h; rw [hn, Bool.false_and] at h; cases h)]
           exact wpAny_pure hQ))

def Itl (K : PySem.W.Frag) (a : Addr) : It :=
  ⟨fun i H => ∃ xs x, SqL K H a xs ∧ xs[i]? = some x, fun i H x H' => H' = H ∧ ∀ xs, SqL K H a xs → xs[i]? = some x, fun i H => ∃ xs, SqL K H a xs ∧ xs.length ≤ i⟩
def Itt (K : PySem.W.Frag) (a : Addr) : It :=
  ⟨fun i H => ∃ xs x, SqT K H a xs ∧ xs[i]? = some x, fun i H x H' => H' = H ∧ ∀ xs, SqT K H a xs → xs[i]? = some x, fun i H => ∃ xs, SqT K H a xs ∧ xs.length ≤ i⟩
def Itr (lo : Int) (n : Nat) : It := ⟨fun i _ => i < n, fun i H x H' => H' = H ∧ x = .int (lo + i), fun i _ => n ≤ i⟩
theorem turn_list {P : Program} {w : World} {K : PySem.W.Frag} {tg : Expr} (a it : Addr) : Turn P w K tg (Itl K a) [it] it (fun i h => h.IsListIter it a i) where
  mem := by simp
  obj := fun i h st b hb => by
    have e : b = it := by simpa using hb
    subst e
    obtain ⟨o, e, c, d⟩ := st
    exact ⟨o, e, fun v z => by rw [d] at z; cases z⟩
  keep := fun i h h' st k => st.at fun o e => k it (by simp) o e
  item := by
    intro X hP hw hK hc i pins s σ H E I hf st hg
    subst hP hw hK
    obtain ⟨xs, x, hq, hx⟩ := hg
    obtain ⟨its, rv, p, hz⟩ := I.list hq
    obtain ⟨u, hu, ru⟩ := rv.get hx
    obtain ⟨f0, f1, f2, f3, f4, f5⟩ := hf it (by simp)
    refine wpAny_pyNext_list_item st p.isList (x := u) (by simpa using hu) fun h' st' sb => ?_
    have I1 : Inv X pins σ H { s with heap := h' } := I.turned (t' := s.toks) (fun b o hb e => (sb.2 b hb).trans e) f0 f1 f3 f4 f5
    obtain ⟨o, e, c, d⟩ := id st'
    exact ⟨u, rfl, go_of (s := { s with heap := h' }) e c d (by decide) ⟨x, H, I1, ru, ⟨rfl, fun ys hy => by rw [I.list_inj hy hq]; exact hx⟩, st', fun b hb => (hf b hb).1⟩⟩
  done := by
    intro X hP hw hK hc i pins s σ H E I hf st hg
    subst hP hw hK
    obtain ⟨xs, hq, hx⟩ := hg
    obtain ⟨its, rv, p, hz⟩ := I.list hq
    obtain ⟨f0, f1, f2, f3, f4, f5⟩ := hf it (by simp)
    have hl := rv.length
    exact wpAny_pyNext_list_end (I.ok.hd hc) st p.isList (by simp; omega) fun h' eb => ⟨rfl, I.turned (t' := s.toks) (fun b o hb e => eb b o hb e) f0 f1 f3 f4 f5⟩
  self := fun _ _ _ _ _ st h => wpAny_pyIter_listiter st h
theorem turn_range {P : Program} {w : World} {K : PySem.W.Frag} {tg : Expr} (it : Addr) (lo : Int) (n : Nat) : Turn P w K tg (Itr lo n) [it] it (fun i h => IsRangeIter h it (lo + (i : Nat) * 1) ((n : Int) - (i : Nat)) 1) where
  mem := by simp
  obj := fun i h st b hb => by
    have e : b = it := by simpa using hb
    subst e
    exact ⟨_, st, fun v z => by
      have z' : Data.fields _ = Data.cell v := z
      cases z'⟩
  keep := fun i h h' st k => k it (by simp) _ st
  item := by
    intro X hP hw hK hc i pins s σ H E I hf st hg
    subst hP hw hK
    obtain ⟨f0, f1, f2, f3, f4, f5⟩ := hf it (by simp)
    have W := Walks.range (prog := X.prog) (w := X.w) (I.ok.hd hc) it lo 1 n
    refine W.item i s _ _ hg st fun v h' tk hv st' kk => ?_
    obtain ⟨t, rfl⟩ := hv
    have I1 : Inv X pins σ H { s with heap := h', toks := tk } := I.turned (fun b o hb e => kk b o (by simpa using hb) e) f0 f1 f3 f4 f5
    refine ⟨_, rfl, go_of (s := { s with heap := h', toks := tk }) (n := "range_iterator") st' rfl rfl (by decide) ⟨.int (lo + i), H, I1, ⟨t, ?_⟩, ⟨rfl, rfl⟩, st', fun b hb => (hf b hb).1⟩⟩
    rw [Int.mul_one]
  done := by
    intro X hP hw hK hc i pins s σ H E I hf st hg
    subst hP hw hK
    obtain ⟨f0, f1, f2, f3, f4, f5⟩ := hf it (by simp)
    exact wpAny_pyNext_range_end (I.ok.hd hc) st (by have : n ≤ i := hg; omega) fun h' eb => ⟨rfl, I.turned (t' := s.toks) (fun b o hb e => eb b o hb e) f0 f1 f3 f4 f5⟩
  self := fun _ _ _ _ _ st h => wpAny_pyIter_rangeiter st h
end L2

namespace L2
open PySem PySem.Spec PyProof.Rows
section
variable {X : Cx} {tg : Expr}
def iList (K : PySem.W.Frag) (tl : TE) : TI := fun σ H R => tl σ H fun x H1 => ∃ a, x = .ref a ∧ (∃ xs, SqL K H1 a xs) ∧ R (Itl K a) H1
def iTup (K : PySem.W.Frag) (tl : TE) : TI := fun σ H R => tl σ H fun x H1 => ∃ a, x = .ref a ∧ (∃ xs, SqT K H1 a xs) ∧ R (Itt K a) H1
theorem pi_list {l : Expr} {tl : TE} (hl : PE X l tl) : PI X tg l (iList X.K tl) := by
  intro pins s σ H R I h
  refine thn (hl pins s σ H _ I h) fun v s1 ⟨x, H1, I1, r1, q1⟩ => ?_
  obtain ⟨a, e, ⟨xs, hq⟩, q⟩ := q1
  subst e
  cases r1
  obtain ⟨its, rv, p, hz⟩ := I1.list hq
  refine wpAny_pyIter_list p.isList ?_
  refine ⟨s1.heap.objs.size, [s1.heap.objs.size], _, _, H1, rfl, I1.kept (t' := s1.toks) fun b o e => Heap.get?_push_of_some _ e, turn_list a _, ⟨_, Heap.get?_push_size _ rfl, rfl, rfl⟩, fun b hb => ?_, q⟩
  have e : b = s1.heap.objs.size := by simpa using hb
  subst e
  exact I1.fpOk (Nat.le_refl _) (I1.hok.fresh (Nat.le_refl _))
theorem range_it {pins : List (Addr × Obj)} {σ : St} {H : Hp} {s : Shared} {R : It → Hp → Prop} {E : Value → Shared → Prop} {lo hi : Int} {t u v : Tok} {tk : Nat} (I : Inv X pins σ H s) (h1 : -(2 ^ 62) ≤ lo) (h2 : lo < 2 ^ 62) (h3 : -(2 ^ 62) ≤ hi) (h4 : hi < 2 ^ 62)
    (q : R (Itr lo (hi - lo).toNat) H) : wpAny (model X.prog X.w) X.A (pyIter (.ref s.heap.objs.size)) (PIE X pins σ tg R) E { s with heap := s.heap.push { cls := .type "range", data := .fields #[.int lo t, .int hi u, .int 1 v] }, toks := tk } := by
  refine wpAny_pyIter_range (IsRange.new ..) (small_one h1 h2 h3 h4) ?_
  have I1 : Inv X pins σ H { s with heap := s.heap.push { cls := .type "range", data := .fields #[.int lo t, .int hi u, .int 1 v] }, toks := tk } := I.kept fun b o e => Heap.get?_push_of_some _ e
  refine ⟨(s.heap.push { cls := .type "range", data := .fields #[.int lo t, .int hi u, .int 1 v] }).objs.size, [(s.heap.push { cls := .type "range", data := .fields #[.int lo t, .int hi u, .int 1 v] }).objs.size], _, _, H, rfl,
    I1.kept (t' := tk) fun b o e => Heap.get?_push_of_some _ e, turn_range _ lo (hi - lo).toNat, ?_, fun b hb => ?_, q⟩
  · have e1 : lo + ((0 : Nat) : Int) * 1 = lo := by simp
    have e2 : (((hi - lo).toNat : Nat) : Int) - ((0 : Nat) : Int) = Builtin.Range.rangeSize lo hi 1 := by rw [rangeSize_one]; split <;> omega
    show IsRangeIter _ _ (lo + ((0 : Nat) : Int) * 1) ((((hi - lo).toNat : Nat) : Int) - ((0 : Nat) : Int)) 1
    rw [e1, e2]
    exact Heap.get?_push_size _ rfl
  · have e : b = (s.heap.push { cls := .type "range", data := .fields #[.int lo t, .int hi u, .int 1 v] }).objs.size := by simpa using hb
    subst e
    exact I1.fpOk (Nat.le_refl _) (I1.hok.fresh (Nat.le_refl _))
def iRng1 (ta : TA) : TI := fun σ H R => ta σ H fun vs H1 => ∃ j : Int, vs = [.int j] ∧ -(2 ^ 62) ≤ j ∧ j < 2 ^ 62 ∧ R (Itr 0 j.toNat) H1
def iRng2 (ta : TA) : TI := fun σ H R => ta σ H fun vs H1 => ∃ i j : Int, vs = [.int i, .int j] ∧ (-(2 ^ 62) ≤ i ∧ i < 2 ^ 62 ∧ -(2 ^ 62) ≤ j ∧ j < 2 ^ 62) ∧ R (Itr i (j - i).toNat) H1
theorem pi_range1 {a : Expr} {ta : TA} {p pos : Pos} (hg : Gl X "range") (hm : X.mg "range" = none) (ha : PA X [a] ta) (hs : starEach [a] X.env = [(false, eval a X.env)] := by rfl) : PI X tg (.Call (.Name "range" p) [a] [] pos) (iRng1 ta) := by
  intro pins s σ H R I h
  refine Call_ (ld_blt I hg hm boot_range (PyProof.Rows.callWith_type1 (thn (ha pos pins s σ H _ I h) fun us s1 ⟨vs, H1, I1, r1, q1⟩ => ?_) hs rfl))
  obtain ⟨j, e, q1, q2, q⟩ := q1
  subst e
  cases r1 with
  | cons r rr =>
    cases rr
    obtain ⟨t, rfl⟩ := r
    exact call_range_1 (range_it I1 (by omega) (by omega) q1 q2 (by simpa using q))

/-! ### for -/
def tFor (wi : TI) (g : TG) (tb : TS) : TS := fun D σ H => wi σ H fun J H1 => ∃ W : Nat → Nat → St → Hp → Prop, (∃ m, W 0 m σ H1) ∧ ∀ i m σ H, W i m σ H →
  (J.stop i H ∧ D.nx σ H) ∨ (J.go i H ∧ ∃ N : St → Hp → Prop, (∀ σ' H', N σ' H' → ∃ m', m' < m ∧ W (i + 1) m' σ' H') ∧ ∀ x H', J.yld i H x H' → g x σ H' fun σ2 H2 => tb { D with nx := N, ct := N, bk := D.nx } σ2 H2)
def pinsAt (fp : List Addr) (h : Heap) : List (Addr × Obj) := fp.filterMap fun b => (h.get? b).map fun o => (b, o)
theorem mem_pinsAt {fp : List Addr} {h : Heap} {b : Addr} {o : Obj} (hb : b ∈ fp) (e : h.get? b = some o) : (b, o) ∈ pinsAt fp h := List.mem_filterMap.mpr ⟨b, hb, by rw [e]; rfl⟩
theorem of_pinsAt {fp : List Addr} {h : Heap} {p : Addr × Obj} (hp : p ∈ pinsAt fp h) : p.1 ∈ fp ∧ h.get? p.1 = some p.2 := by
  obtain ⟨b, hb, e⟩ := List.mem_filterMap.mp hp
  cases q : h.get? b with
  | none => rw [q] at e; cases e
  | some o =>
    rw [q] at e
    have e' : (b, o) = p := Option.some.inj e
    subst e'
    exact ⟨hb, q⟩
theorem Inv.pinned {pins : List (Addr × Obj)} {σ : St} {H : Hp} {s : Shared} {fp : List Addr} (I : Inv X pins σ H s) (hf : ∀ b ∈ fp, FpOk X pins H b) (ho : ∀ b ∈ fp, ∃ o, s.heap.get? b = some o ∧ ∀ v, o.data ≠ .cell v) : Inv X (pins ++ pinsAt fp s.heap) σ H s :=
  I.pins_of fun p hp => (List.mem_append.mp hp).elim (fun z => I.pin p (List.mem_append_right _ z)) fun z => by
    obtain ⟨hb, e⟩ := of_pinsAt z
    obtain ⟨f0, f1, f2, _⟩ := hf p.1 hb
    obtain ⟨o, e', d⟩ := ho p.1 hb
    rw [e] at e'; cases e'
    exact ⟨e, f0, f1, f2, d⟩
theorem Inv.unpinned {pins pl : List (Addr × Obj)} {σ : St} {H : Hp} {s : Shared} (I : Inv X (pins ++ pl) σ H s) : Inv X pins σ H s := I.pins_of fun p hp => I.pin p (List.mem_append_right _ (List.mem_append_left _ hp))
theorem ps_for {iter : Expr} {body : List Stmt} {wi : TI} {g : TG} {tb : TS} {pos : Pos} (hp : PassesOwn (model X.prog X.w) X.A X.env X.xe) (hc : X.calm = true) (hi : PI X tg iter wi) (hg : PG X tg g) (hb : PSs X body tb)
    (hs : ∀ x, foldedSetIterable iter X.env x = pure x := by intro _; rfl) : PS X (.For tg iter body [] pos) (tFor wi g tb) := by
  intro pins s σ H D I h
  refine wpAny_For (thn (hi pins s σ H _ I h) fun v s1 h1 => thn h1 fun itv s2 h2 => ?_) hs
  obtain ⟨it, fp, tn, J, H2, e, I2, T, st2, f2, W, ⟨m0, w0⟩, turn⟩ := h2
  subst e
  -- what stays true of the iterator's objects through the loop
  have stat : ∀ {H' : Hp}, (∀ b ∈ fp, H' b = none) → ∀ b ∈ fp, FpOk X pins H' b := fun hn b hb => ⟨hn b hb, (f2 b hb).2⟩
  refine codeAny_forLoop_any (fun n s' => ∃ i σ' H', Inv X pins σ' H' s' ∧ tn i s'.heap ∧ (∀ b ∈ fp, H' b = none) ∧ W i n σ' H') ?_ m0 ⟨0, σ, H2, I2, st2, fun b hb => (f2 b hb).1, w0⟩
  rintro n s3 ⟨i, σ3, H3, I3, st3, fr3, w3⟩
  rcases turn i n σ3 H3 w3 with ⟨stop, qn⟩ | ⟨go, N, hN, step⟩
  · refine wpAny_passesOwn hp (thn (T.done X rfl rfl rfl hc i pins s3 σ3 H3 X.xe I3 (stat fr3) st3 stop) fun r s4 ⟨hr, I4⟩ => ?_)
    subst hr
    exact wpAny_execs_nil ⟨σ3, H3, I4, qn⟩
  · refine wpAny_passesOwn hp (thn (T.item X rfl rfl rfl hc i pins s3 σ3 H3 X.xe I3 (stat fr3) st3 go) fun r s4 ⟨u, hr, h4⟩ => ?_)
    subst hr
    refine wpAny_passesOwn hp (thn h4 fun _ s5 ⟨x, H5, I5, r5, y5, st5, fr5⟩ => ?_)
    have I5' := I5.pinned (stat fr5) (T.obj _ _ st5)
    refine wpAny_passesOwn hp (thn (hg _ s5 σ3 H5 x u _ I5' r5 (step x H5 y5)) fun _ s6 ⟨σ6, H6, I6, q6⟩ => ?_)
    refine wpAny_passesOwn hp (thn (hb _ s6 σ6 H6 _ I6 q6) fun f s7 q7 => ?_)
    have again : ∀ {σ7 : St} {H7 : Hp}, Inv X (pins ++ pinsAt fp s5.heap) σ7 H7 s7 → N σ7 H7 → ∃ m, m < n ∧ ∃ i σ' H', Inv X pins σ' H' s7 ∧ tn i s7.heap ∧ (∀ b ∈ fp, H' b = none) ∧ W i m σ' H' := fun {σ7 H7} I7 n7 => by
      obtain ⟨m', hm, w7⟩ := hN σ7 H7 n7
      refine ⟨m', hm, i + 1, σ7, H7, I7.unpinned, T.keep _ _ _ st5 fun b hb o e => (I7.pin (b, o) (List.mem_append_right _ (List.mem_append_right _ (mem_pinsAt hb e)))).1, fun b hb => ?_, w7⟩
      obtain ⟨o, e, d⟩ := T.obj _ _ st5 b hb
      exact (I7.pin (b, o) (List.mem_append_right _ (List.mem_append_right _ (mem_pinsAt hb e)))).2.1
    cases f with
    | next => obtain ⟨σ7, H7, I7, n7⟩ := q7; exact again I7 n7
    | cont => obtain ⟨σ7, H7, I7, n7⟩ := q7; exact again I7 n7
    | brk => obtain ⟨σ7, H7, I7, q7⟩ := q7; exact ⟨σ7, H7, I7.unpinned, q7⟩
    | ret v => obtain ⟨x7, σ7, H7, I7, r7, q7⟩ := q7; exact ⟨x7, σ7, H7, I7.unpinned, r7, q7⟩
end

/-! ### the forms one uses -/
theorem for_list {K : PySem.W.Frag} {a : Addr} {xs : List V} {g : TG} {tb : TS} {D : Ends} {σ : St} {H : Hp} (Pv : Nat → St → Hp → Prop) (h0 : Pv 0 σ H) (hl : ∀ i σ H, i ≤ xs.length → Pv i σ H → SqL K H a xs)
    (hs : ∀ i x σ H, xs[i]? = some x → Pv i σ H → g x σ H fun σ2 H2 => tb { D with nx := Pv (i + 1), ct := Pv (i + 1), bk := D.nx } σ2 H2) (hd : ∀ σ H, Pv xs.length σ H → D.nx σ H) :
    ∃ W : Nat → Nat → St → Hp → Prop, (∃ m, W 0 m σ H) ∧ ∀ i m σ H, W i m σ H →
      ((Itl K a).stop i H ∧ D.nx σ H) ∨ ((Itl K a).go i H ∧ ∃ N : St → Hp → Prop, (∀ σ' H', N σ' H' → ∃ m', m' < m ∧ W (i + 1) m' σ' H') ∧ ∀ x H', (Itl K a).yld i H x H' → g x σ H' fun σ2 H2 => tb { D with nx := N, ct := N, bk := D.nx } σ2 H2) := by
  refine ⟨fun i m σ H => m = xs.length - i ∧ i ≤ xs.length ∧ Pv i σ H, ⟨xs.length, by simp, Nat.zero_le _, h0⟩, ?_⟩
  rintro i m σ H ⟨rfl, hi, p⟩
  have q := hl i σ H hi p
  by_cases hlt : i < xs.length
  · refine .inr ⟨⟨xs, xs[i], q, by simp [hlt]⟩, Pv (i + 1), fun σ' H' p' => ⟨xs.length - (i + 1), by omega, rfl, hlt, p'⟩, fun x H' y => ?_⟩
    obtain ⟨e, y⟩ := y
    subst e
    exact hs i x σ _ (y xs q) p
  · have e : i = xs.length := by omega
    subst e
    exact .inl ⟨⟨xs, q, Nat.le_refl _⟩, hd σ H p⟩
theorem for_range {lo : Int} {n : Nat} {g : TG} {tb : TS} {D : Ends} {σ : St} {H : Hp} (Pv : Nat → St → Hp → Prop) (h0 : Pv 0 σ H)
    (hs : ∀ i σ H, i < n → Pv i σ H → g (.int (lo + i)) σ H fun σ2 H2 => tb { D with nx := Pv (i + 1), ct := Pv (i + 1), bk := D.nx } σ2 H2) (hd : ∀ σ H, Pv n σ H → D.nx σ H) :
    ∃ W : Nat → Nat → St → Hp → Prop, (∃ m, W 0 m σ H) ∧ ∀ i m σ H, W i m σ H →
      ((Itr lo n).stop i H ∧ D.nx σ H) ∨ ((Itr lo n).go i H ∧ ∃ N : St → Hp → Prop, (∀ σ' H', N σ' H' → ∃ m', m' < m ∧ W (i + 1) m' σ' H') ∧ ∀ x H', (Itr lo n).yld i H x H' → g x σ H' fun σ2 H2 => tb { D with nx := N, ct := N, bk := D.nx } σ2 H2) := by
  refine ⟨fun i m σ H => m = n - i ∧ i ≤ n ∧ Pv i σ H, ⟨n, by simp, Nat.zero_le _, h0⟩, ?_⟩
  rintro i m σ H ⟨rfl, hi, p⟩
  by_cases hlt : i < n
  · refine .inr ⟨hlt, Pv (i + 1), fun σ' H' p' => ⟨n - (i + 1), by omega, rfl, hlt, p'⟩, fun x H' y => ?_⟩
    obtain ⟨e, y⟩ := y
    subst e y
    exact hs i σ _ hlt p
  · have e : i = n := by omega
    subst e
    exact .inl ⟨Nat.le_refl _, hd σ H p⟩
end L2

namespace L2
open PySem PySem.Spec PyProof.Rows

abbrev R2 := V → V → Hp → VK → Prop
def OpR (X : Cx) (f : Value → Value → Sem Value) (r : R2) : Prop :=
  ∀ (pins : List (Addr × Obj)) (s : Shared) (σ : St) (H : Hp) (x y : V) (v u : Value) (Q : VK), Inv X pins σ H s → RelV x v → RelV y u → r x y H Q →
    wpAny (model X.prog X.w) X.A (f v u) (EP X pins σ Q) X.xe s
def UnR (X : Cx) (f : Value → Sem Value) (r : V → Hp → VK → Prop) : Prop :=
  ∀ (pins : List (Addr × Obj)) (s : Shared) (σ : St) (H : Hp) (x : V) (v : Value) (Q : VK), Inv X pins σ H s → RelV x v → r x H Q →
    wpAny (model X.prog X.w) X.A (f v) (EP X pins σ Q) X.xe s
def CallR (X : Cx) (f : Value) (r : List V → Hp → VK → Prop) : Prop :=
  ∀ (pins : List (Addr × Obj)) (s : Shared) (σ : St) (H : Hp) (xs : List V) (us : List Value) (Q : VK), Inv X pins σ H s → Vals xs us → r xs H Q →
    wpAny (model X.prog X.w) X.A (call f us) (EP X pins σ Q) X.xe s
def TruR (X : Cx) (r : V → Hp → (Bool → Hp → Prop) → Prop) : Prop :=
  ∀ (pins : List (Addr × Obj)) (s : Shared) (σ : St) (H : Hp) (x : V) (v : Value) (Q : Bool → Hp → Prop), Inv X pins σ H s → RelV x v → r x H Q →
    wpAny (model X.prog X.w) X.A (truthy v) (TP X pins σ Q) X.xe s

def tOp (r : R2) (ta tb : TE) : TE := fun σ H Q => ta σ H fun x H1 => tb σ H1 fun y H2 => r x y H2 Q
def tUn (r : V → Hp → VK → Prop) (ta : TE) : TE := fun σ H Q => ta σ H fun x H1 => r x H1 Q
def rI (C : Int → Int → Prop) (g : Int → Int → V) : R2 := fun x y H Q => ∃ i j, x = .int i ∧ y = .int j ∧ C i j ∧ Q (g i j) H
def rI0 (g : Int → Int → V) : R2 := fun x y H Q => ∃ i j, x = .int i ∧ y = .int j ∧ Q (g i j) H
def rU (g : Int → V) : V → Hp → VK → Prop := fun x H Q => ∃ i, x = .int i ∧ Q (g i) H

section
variable {X : Cx} {a b c : Expr} {ta tb tc : TE} {pos : Pos}

theorem binT (ha : PE X a ta) (hb : PE X b tb) {pins : List (Addr × Obj)} {s : Shared} {σ : St} {H : Hp} {R : V → V → Hp → Prop} (I : Inv X pins σ H s)
    (h : ta σ H fun x H1 => tb σ H1 fun y H2 => R x y H2) {Q : Value → Shared → Prop} {f : Value → Value → Sem Value}
    (hf : ∀ v u s2 x y H2, Inv X pins σ H2 s2 → RelV x v → RelV y u → R x y H2 → wpAny (model X.prog X.w) X.A (f v u) Q X.xe s2) :
    wpAny (model X.prog X.w) X.A (eval a X.env) (fun v s₁ => wpAny (model X.prog X.w) X.A (eval b X.env) (fun u s₂ => wpAny (model X.prog X.w) X.A (f v u) Q X.xe s₂) X.xe s₁) X.xe s := by
  refine thn (ha pins s σ H _ I h) fun v s1 ⟨x, H1, I1, r1, q1⟩ => ?_
  refine thn (hb pins s1 σ H1 _ I1 q1) fun u s2 ⟨y, H2, I2, r2, q2⟩ => ?_
  exact hf v u s2 x y H2 I2 r1 r2 q2

theorem pe_op {op : Operator} {r : R2} (ho : OpR X (binaryOp op) r) (ha : PE X a ta) (hb : PE X b tb) : PE X (.BinOp a op b pos) (tOp r ta tb) := by
  intro pins s σ H Q I h
  exact wpAny_BinOp (binT ha hb I h fun v u s2 x y H2 I2 rx ry q => ho pins s2 σ H2 x y v u Q I2 rx ry q)
theorem pe_un {op : UnaryOp} {r : V → Hp → VK → Prop} (ho : UnR X (unaryOp op) r) (ha : PE X a ta) : PE X (.UnaryOp op a pos) (tUn r ta) := by
  intro pins s σ H Q I h
  exact UnaryOp_ (thn (ha pins s σ H _ I h) fun v s1 ⟨x, H1, I1, r1, q1⟩ => ho pins s1 σ H1 x v Q I1 r1 q1)

/-! ### ints -/
theorem opI {f : Value → Value → Sem Value} {C : Int → Int → Prop} {g : Int → Int → Int}
    (rule : ∀ (i j : Int) (t u : Tok) (s : Shared) (Q : Value → Shared → Prop) (E : Value → Shared → Prop), C i j → Q (.int (g i j) s.toks) { s with toks := s.toks + 1 } → wpAny (model X.prog X.w) X.A (f (.int i t) (.int j u)) Q E s) :
    OpR X f (rI C fun i j => .int (g i j)) := by
  intro pins s σ H x y v u Q I rx ry h
  obtain ⟨i, j, rfl, rfl, hc, q⟩ := h
  obtain ⟨t, rfl⟩ := rx
  obtain ⟨t', rfl⟩ := ry
  exact rule i j t t' s _ _ hc ⟨.int (g i j), H, I.tok _, ⟨_, rfl⟩, q⟩
theorem opI0 {f : Value → Value → Sem Value} {g : Int → Int → Int}
    (rule : ∀ (i j : Int) (t u : Tok) (s : Shared) (Q : Value → Shared → Prop) (E : Value → Shared → Prop), Q (.int (g i j) s.toks) { s with toks := s.toks + 1 } → wpAny (model X.prog X.w) X.A (f (.int i t) (.int j u)) Q E s) :
    OpR X f (rI0 fun i j => .int (g i j)) := by
  intro pins s σ H x y v u Q I rx ry h
  obtain ⟨i, j, rfl, rfl, q⟩ := h
  obtain ⟨t, rfl⟩ := rx
  obtain ⟨t', rfl⟩ := ry
  exact rule i j t t' s _ _ ⟨.int (g i j), H, I.tok _, ⟨_, rfl⟩, q⟩
theorem opB0 {f : Value → Value → Sem Value} {g : Int → Int → Bool}
    (rule : ∀ (i j : Int) (t u : Tok) (s : Shared) (Q : Value → Shared → Prop) (E : Value → Shared → Prop), Q (.bool (g i j)) s → wpAny (model X.prog X.w) X.A (f (.int i t) (.int j u)) Q E s) :
    OpR X f (rI0 fun i j => .bl (g i j)) := by
  intro pins s σ H x y v u Q I rx ry h
  obtain ⟨i, j, rfl, rfl, q⟩ := h
  obtain ⟨t, rfl⟩ := rx
  obtain ⟨t', rfl⟩ := ry
  exact rule i j t t' s _ _ ⟨.bl (g i j), H, I, rfl, q⟩

def CDiv (i j : Int) : Prop := 0 < j ∧ j < 1073741824
def CDivN (i j : Int) : Prop := j ≠ 0 ∧ j.natAbs < 1073741824
def CPow (i j : Int) : Prop := 0 ≤ j ∧ j ≤ 1000000 ∧ i.natAbs < 2 ^ 64
def CMul (i j : Int) : Prop := (-(2 ^ 64) < i ∧ i < 2 ^ 64) ∨ (-(2 ^ 64) < j ∧ j < 2 ^ 64)
theorem CMul.ok {i j : Int} (h : CMul i j) : IntMulOk i j := by
  rcases h with ⟨h1, h2⟩ | ⟨h1, h2⟩
  · exact .of_left (intBits_le_64 h1 h2)
  · exact .of_right (intBits_le_64 h1 h2)

theorem op_add : OpR X (binaryOp .Add) (rI0 fun i j => .int (i + j)) := opI0 fun _ _ _ _ _ _ _ q => add_int q
theorem op_sub : OpR X (binaryOp .Sub) (rI0 fun i j => .int (i - j)) := opI0 fun _ _ _ _ _ _ _ q => sub_int q
theorem op_mul : OpR X (binaryOp .Mult) (rI CMul fun i j => .int (i * j)) := opI fun _ _ _ _ _ _ _ hc q => mul_int q hc.ok
theorem op_fdiv : OpR X (binaryOp .FloorDiv) (rI CDiv fun i j => .int (i / j)) := opI fun i j _ _ _ _ _ hc q => by
  have h1 : (0 : Int) < j := hc.1
  have h2 : j < 1073741824 := hc.2
  exact floordiv_int (by omega) (by rw [Int.fdiv_eq_ediv_of_nonneg i (by omega)]; exact q) (.inl (PyProof.noPylong_small (by omega)))
theorem op_mod : OpR X (binaryOp .Mod) (rI (fun _ j => 0 < j) fun i j => .int (i % j)) := opI fun i j _ _ _ _ _ hc q => by
  have h1 : (0 : Int) < j := hc
  exact mod_int' (by omega) (by rw [Int.fmod_eq_emod_of_nonneg i (by omega)]; exact q)
theorem op_pow : OpR X (binaryOp .Pow) (rI CPow fun i j => .int (i ^ j.toNat)) := opI fun _ _ _ _ _ _ _ hc q => pow_int_small hc.1 hc.2.1 hc.2.2 q


theorem unI {f : Value → Sem Value} {g : Int → Int}
    (rule : ∀ (i : Int) (t : Tok) (s : Shared) (Q : Value → Shared → Prop) (E : Value → Shared → Prop), Q (.int (g i) s.toks) { s with toks := s.toks + 1 } → wpAny (model X.prog X.w) X.A (f (.int i t)) Q E s) :
    UnR X f (rU fun i => .int (g i)) := by
  intro pins s σ H x v Q I rx h
  obtain ⟨i, rfl, q⟩ := h
  obtain ⟨t, rfl⟩ := rx
  exact rule i t s _ _ ⟨.int (g i), H, I.tok _, ⟨_, rfl⟩, q⟩
theorem un_neg : UnR X (unaryOp .USub) (rU fun i => .int (-i)) := unI fun _ _ _ _ _ q => neg_int q

/-! ### bools among ints: n += (a < b) -/
end

/-! ### comparisons -/
def scal : V → V → Bool
  | .non, .non => true | .non, .int _ => true | .int _, .non => true | .non, .bl _ => true | .bl _, .non => true | .non, .str _ => true | .str _, .non => true
  | .int _, .int _ => true | .bl _, .bl _ => true | .str _, .str _ => true | .byt _, .byt _ => true
  | .int _, .str _ => true | .str _, .int _ => true | .bl _, .str _ => true | .str _, .bl _ => true
  | _, _ => false
def rEq : R2 := fun x y H Q => scal x y = true ∧ Q (.bl (decide (x = y))) H
def rNe : R2 := fun x y H Q => scal x y = true ∧ Q (.bl (!decide (x = y))) H

theorem dec_int {i j : Int} : decide (V.int i = V.int j) = (i == j) := by
  rw [Bool.eq_iff_iff]
  simp
theorem dec_bl {i j : Bool} : decide (V.bl i = V.bl j) = (i == j) := by
  rw [Bool.eq_iff_iff]
  simp
theorem dec_str {i j : Str} : decide (V.str i = V.str j) = (i == j) := by
  rw [Bool.eq_iff_iff]
  simp
theorem dec_byt {i j : Array UInt8} : decide (V.byt i = V.byt j) = (i.toList == j.toList) := by
  rw [Bool.eq_iff_iff]
  cases i
  cases j
  simp

section
variable {X : Cx} {a b c : Expr} {ta tb tc : TE} {pos : Pos}
theorem fin_bl {pins : List (Addr × Obj)} {σ : St} {H : Hp} {s : Shared} {Q : VK} {k k' : Bool} (I : Inv X pins σ H s) (q : Q (.bl k) H) (e : k = k') : EP X pins σ Q (.bool k') s := by
  subst e
  exact ⟨.bl k, H, I, rfl, q⟩
theorem op_eq : OpR X (compareOp .Eq) rEq := by
  intro pins s σ H x y v u Q I rx ry h
  obtain ⟨hs, q⟩ := h
  cases x with
  | non =>
    cases rx
    cases y with
    | non => cases ry; exact PySem.EqNone.eq_none_none (fin_bl I q (by simp))
    | bl j => cases ry; exact PySem.EqNone.eq_none_bool (fin_bl I q (by simp))
    | int j => obtain ⟨t', rfl⟩ := ry; exact PySem.EqNone.eq_none_int (fin_bl I q (by simp))
    | str j => obtain ⟨t', rfl⟩ := ry; exact PySem.EqNone.eq_none_str (fin_bl I q (by simp))
    | _ => exact absurd (show false = true from hs) Bool.false_ne_true
  | bl i =>
    cases rx
    cases y with
    | non => cases ry; exact PySem.EqNone.eq_bool_none (fin_bl I q (by simp))
    | bl j => cases ry; exact eq_bool (fin_bl I q dec_bl)
    | str j => obtain ⟨t', rfl⟩ := ry; exact PySem.EqMixed.eq_bool_str (fin_bl I q (by simp))
    | _ => exact absurd (show false = true from hs) Bool.false_ne_true
  | int i =>
    obtain ⟨t, rfl⟩ := rx
    cases y with
    | non => cases ry; exact PySem.EqNone.eq_int_none (fin_bl I q (by simp))
    | int j => obtain ⟨t', rfl⟩ := ry; exact eq_int (fin_bl I q dec_int)
    | str j => obtain ⟨t', rfl⟩ := ry; exact PySem.EqMixed.eq_int_str (fin_bl I q (by simp))
    | _ => exact absurd (show false = true from hs) Bool.false_ne_true
  | str i =>
    obtain ⟨t, rfl⟩ := rx
    cases y with
    | non => cases ry; exact PySem.EqNone.eq_str_none (fin_bl I q (by simp))
    | bl j => cases ry; exact PySem.EqMixed.eq_str_bool (fin_bl I q (by simp))
    | int j => obtain ⟨t', rfl⟩ := ry; exact PySem.EqMixed.eq_str_int (fin_bl I q (by simp))
    | str j => obtain ⟨t', rfl⟩ := ry; exact eq_str (fin_bl I q dec_str)
    | _ => exact absurd (show false = true from hs) Bool.false_ne_true
  | byt i =>
    obtain ⟨t, rfl⟩ := rx
    cases y with
    | byt j => obtain ⟨t', rfl⟩ := ry; exact PySem.W.eq_bytes (fin_bl I q dec_byt)
    | _ => exact absurd (show false = true from hs) Bool.false_ne_true
  | _ => cases y <;> exact absurd (show false = true from hs) Bool.false_ne_true
theorem op_ne : OpR X (compareOp .NotEq) rNe := by
  intro pins s σ H x y v u Q I rx ry h
  obtain ⟨hs, q⟩ := h
  cases x with
  | non =>
    cases rx
    cases y with
    | non => cases ry; exact PySem.EqNone.ne_none_none (fin_bl I q (by simp))
    | bl j => cases ry; exact PySem.EqNone.ne_none_bool (fin_bl I q (by simp))
    | int j => obtain ⟨t', rfl⟩ := ry; exact PySem.EqNone.ne_none_int (fin_bl I q (by simp))
    | str j => obtain ⟨t', rfl⟩ := ry; exact PySem.EqNone.ne_none_str (fin_bl I q (by simp))
    | _ => exact absurd (show false = true from hs) Bool.false_ne_true
  | bl i =>
    cases rx
    cases y with
    | non => cases ry; exact PySem.EqNone.ne_bool_none (fin_bl I q (by simp))
    | bl j => cases ry; exact ne_bool (fin_bl I q (congrArg not dec_bl))
    | str j => obtain ⟨t', rfl⟩ := ry; exact PySem.EqMixed.ne_bool_str (fin_bl I q (by simp))
    | _ => exact absurd (show false = true from hs) Bool.false_ne_true
  | int i =>
    obtain ⟨t, rfl⟩ := rx
    cases y with
    | non => cases ry; exact PySem.EqNone.ne_int_none (fin_bl I q (by simp))
    | int j => obtain ⟨t', rfl⟩ := ry; exact ne_int (fin_bl I q (congrArg not dec_int))
    | str j => obtain ⟨t', rfl⟩ := ry; exact PySem.EqMixed.ne_int_str (fin_bl I q (by simp))
    | _ => exact absurd (show false = true from hs) Bool.false_ne_true
  | str i =>
    obtain ⟨t, rfl⟩ := rx
    cases y with
    | non => cases ry; exact PySem.EqNone.ne_str_none (fin_bl I q (by simp))
    | bl j => cases ry; exact PySem.EqMixed.ne_str_bool (fin_bl I q (by simp))
    | int j => obtain ⟨t', rfl⟩ := ry; exact PySem.EqMixed.ne_str_int (fin_bl I q (by simp))
    | str j => obtain ⟨t', rfl⟩ := ry; exact ne_str (fin_bl I q (congrArg not dec_str))
    | _ => exact absurd (show false = true from hs) Bool.false_ne_true
  | byt i =>
    obtain ⟨t, rfl⟩ := rx
    cases y with
    | byt j => obtain ⟨t', rfl⟩ := ry; exact PySem.W.ne_bytes (fin_bl I q (congrArg not dec_byt))
    | _ => exact absurd (show false = true from hs) Bool.false_ne_true
  | _ => cases y <;> exact absurd (show false = true from hs) Bool.false_ne_true

theorem op_lt : OpR X (compareOp .Lt) (rI0 fun i j => .bl (decide (i < j))) := opB0 fun _ _ _ _ _ _ _ q => lt_int q
theorem op_le : OpR X (compareOp .LtE) (rI0 fun i j => .bl (decide (i ≤ j))) := opB0 fun _ _ _ _ _ _ _ q => le_int q
theorem op_gt : OpR X (compareOp .Gt) (rI0 fun i j => .bl (decide (j < i))) := opB0 fun _ _ _ _ _ _ _ q => gt_int q
theorem op_ge : OpR X (compareOp .GtE) (rI0 fun i j => .bl (decide (j ≤ i))) := opB0 fun _ _ _ _ _ _ _ q => ge_int q

theorem op_isN : OpR X (compareOp .Is) (fun x y H Q => y = .non ∧ Q (.bl (decide (x = .non))) H) := by
  intro pins s σ H x y v u Q I rx ry h
  obtain ⟨rfl, q⟩ := h
  cases ry
  refine is_none_gen (fin_bl I q ?_)
  cases x <;> first
    | (cases rx; rfl)
    | (obtain ⟨t, rfl⟩ := rx; rfl)
theorem op_notN : OpR X (compareOp .IsNot) (fun x y H Q => y = .non ∧ Q (.bl (!decide (x = .non))) H) := by
  intro pins s σ H x y v u Q I rx ry h
  obtain ⟨rfl, q⟩ := h
  cases ry
  refine isnot_none_gen (fin_bl I q ?_)
  cases x <;> first
    | (cases rx; rfl)
    | (obtain ⟨t, rfl⟩ := rx; rfl)

def isObj : HO → Bool
  | .lst _ => true
  | .ins _ _ _ => true
  | _ => false


theorem nomark (b : Expr) {op : CmpOp} (h : op ≠ .In := by decide) (h2 : op ≠ .NotIn := by decide) : behindInMarks op b = false := by
  have e1 : (op == CmpOp.In) = false := by cases op <;> first | rfl | exact absurd rfl h
  have e2 : (op == CmpOp.NotIn) = false := by cases op <;> first | rfl | exact absurd rfl h2
  cases b <;> simp [behindInMarks, e1, e2]
theorem pe_cmpR {op : CmpOp} {r : R2} (ho : OpR X (compareOp op) r) (ha : PE X a ta) (hb : PE X b tb) (hm : behindInMarks op b = false) : PE X (.Compare a [op] [b] pos) (tOp r ta tb) := by
  intro pins s σ H Q I h
  exact wpAny_Compare1 (binT ha hb I h fun v u s2 x y H2 I2 rx ry q => ho pins s2 σ H2 x y v u Q I2 rx ry q) hm
def tTest (t : TE) : TT := fun σ H Q => t σ H fun x H' => ∃ k, x = .bl k ∧ Q k H'
theorem pt_cmpR {op : CmpOp} {r : R2} (ho : OpR X (compareOp op) r) (ha : PE X a ta) (hb : PE X b tb) (hm : behindInMarks op b = false) : PT X (.Compare a [op] [b] pos) (tTest (tOp r ta tb)) := by
  intro pins s σ H Q I h
  refine wpAny_isTrue_Compare1 (thn (ha pins s σ H _ I h) fun v s1 ⟨x, H1, I1, r1, q1⟩ => thn (hb pins s1 σ H1 _ I1 q1) fun u s2 ⟨y, H2, I2, r2, q2⟩ =>
    thn (ho pins s2 σ H2 x y v u _ I2 r1 r2 q2) fun c s3 ⟨z, H3, I3, r3, k, e, q3⟩ => ?_) hm
  subst e
  cases r3
  exact wpAny_truthy_bool ⟨H3, I3, q3⟩
def tChain (r r' : R2) (ta tb tc : TE) : TE := fun σ H Q => ta σ H fun x H1 => tb σ H1 fun y H2 => r x y H2 fun z H3 => ∃ k, z = .bl k ∧
  (if k = true then tc σ H3 fun w' H4 => r' y w' H4 Q else Q (.bl false) H3)

/-! ### truth -/
def TruV (K : PySem.W.Frag) (x : V) (H : Hp) (k : Bool) : Prop :=
  match x with
  | .non => k = false
  | .bl b => k = b
  | .int i => k = (i != 0)
  | .str y => y.length ≤ sizeLine ∧ k = ((y.length : Int) != 0)
  | .byt y => y.size ≤ sizeLine ∧ k = ((y.size : Int) != 0)
  | .ref p => (∃ xs, SqL K H p xs ∧ k = !xs.isEmpty) ∨ (∃ xs, SqT K H p xs ∧ k = !xs.isEmpty) ∨ ∃ kvs, H p = some (.dK kvs) ∧ k = !kvs.isEmpty
  | _ => False
theorem line63 : (sizeLine : Nat) < 2 ^ 63 := by rw [sizeLine_eq]; decide

/-! ### strs and bytes -/
theorem op_add_str : OpR X (binaryOp .Add) (fun x y H Q => ∃ i j, x = .str i ∧ y = .str j ∧ i.length + j.length ≤ sizeLine ∧ Q (.str (i ++ j)) H) := by
  intro pins s σ H x y v u Q I rx ry h
  obtain ⟨i, j, rfl, rfl, hz, q⟩ := h
  obtain ⟨t, rfl⟩ := rx
  obtain ⟨t', rfl⟩ := ry
  exact add_str (fun t' tk => ⟨.str (i ++ j), H, I.tok _, ⟨_, rfl⟩, q⟩) hz

def PlainIxT (b : Expr) : Prop := ∀ o i, subscripted b false o i = operate [o, i] (getItem o i)

/-! ### scalar builtins, by CallR -/
theorem vals1 {x : V} {us : List Value} (r : Vals [x] us) : ∃ u, us = [u] ∧ RelV x u := by
  cases r with
  | cons r1 r2 => cases r2; exact ⟨_, rfl, r1⟩
theorem vals2 {x y : V} {us : List Value} (r : Vals [x, y] us) : ∃ u w', us = [u, w'] ∧ RelV x u ∧ RelV y w' := by
  cases r with
  | cons r1 r2 =>
    cases r2 with
    | cons r3 r4 => cases r4; exact ⟨_, _, rfl, r1, r3⟩
theorem call_max2 (hc : X.calm = true) : CallR X (.builtin "max") (fun xs H Q => ∃ i j, xs = [.int i, .int j] ∧ Q (.int (if j > i then j else i)) H) := by
  intro pins s σ H xs us Q I r h
  obtain ⟨i, j, rfl, q⟩ := h
  obtain ⟨u, w', rfl, ⟨t, rfl⟩, ⟨t', rfl⟩⟩ := vals2 r
  refine max_two_ints (I.ok.hd hc) fun h' tk k => ⟨_, H, I.kept k, ?_, q⟩
  by_cases hj : j > i
  · rw [if_pos hj, if_pos hj]; exact ⟨_, rfl⟩
  · rw [if_neg hj, if_neg hj]; exact ⟨_, rfl⟩
theorem call_min2 (hc : X.calm = true) : CallR X (.builtin "min") (fun xs H Q => ∃ i j, xs = [.int i, .int j] ∧ Q (.int (if j < i then j else i)) H) := by
  intro pins s σ H xs us Q I r h
  obtain ⟨i, j, rfl, q⟩ := h
  obtain ⟨u, w', rfl, ⟨t, rfl⟩, ⟨t', rfl⟩⟩ := vals2 r
  refine min_two_ints (I.ok.hd hc) fun h' tk k => ⟨_, H, I.kept k, ?_, q⟩
  by_cases hj : j < i
  · rw [if_pos hj, if_pos hj]; exact ⟨_, rfl⟩
  · rw [if_neg hj, if_neg hj]; exact ⟨_, rfl⟩
theorem call_int1 : CallR X (.type "int") (fun xs H Q => (∃ i, xs = [.int i] ∧ Q (.int i) H) ∨ ∃ k, xs = [.bl k] ∧ Q (.int (if k then 1 else 0)) H) := by
  intro pins s σ H xs us Q I r h
  rcases h with ⟨i, rfl, q⟩ | ⟨k, rfl, q⟩
  · obtain ⟨u, rfl, t, rfl⟩ := vals1 r
    exact call_int_int ⟨.int i, H, I, ⟨_, rfl⟩, q⟩
  · obtain ⟨u, rfl, r1⟩ := vals1 r
    cases r1
    exact call_int_bool ⟨.int (if k then 1 else 0), H, I.tok _, ⟨_, rfl⟩, q⟩
def LenV (K : PySem.W.Frag) (x : V) (H : Hp) (n : Nat) : Prop :=
  match x with
  | .str y => y.length ≤ sizeLine ∧ n = y.length
  | .byt y => y.size ≤ sizeLine ∧ n = y.size
  | .ref p => (∃ xs, SqL K H p xs ∧ n = xs.length) ∨ ∃ xs, SqT K H p xs ∧ n = xs.length
  | _ => False
end
end L2

namespace L2
open PySem PySem.Spec PyProof.Rows

/-! ### an instance, its attributes a map -/
structure ObjM (h : Heap) (x dx C : Addr) (mA : Str → Option Value) : Prop where
  obj : h.get? x = some (PySem.W.instObj C dx)
  ns : h.Ns1 dx mA
  ne : dx ≠ x

theorem lookIn_ns {h : Heap} {dx : Addr} {mA : Str → Option Value} (n : h.Ns1 dx mA) : ∃ od, h.get? dx = some od ∧ ∀ name, PySem.W.lookIn name od = some (mA name) := by
  obtain ⟨o, es, ep, ho, hd, hk, _, hm⟩ := n
  refine ⟨o, ho, fun name => ?_⟩
  have e := hm name
  unfold nsFind findBy at e
  rw [← Array.find?_toList] at e
  unfold PySem.W.lookIn
  rw [hd]
  dsimp only
  split
  · rename_i y q
    rw [q] at e
    exact congrArg some e
  · rename_i q
    rw [q] at e
    have a : es.toList.any (·.refKey) = false := by
      rw [List.any_eq_false]
      intro y hy
      obtain ⟨z, t, hkey⟩ := hk y (Array.mem_toList_iff.mp hy)
      simp [DictEntry.refKey, hkey]
    have a' : ¬ es.toList.any (·.refKey) = true := by rw [a]; exact Bool.false_ne_true
    rw [if_neg a']
    exact congrArg some e

theorem ObjM.look {h : Heap} {x dx C : Addr} {mA : Str → Option Value} (I : ObjM h x dx C mA) : ∃ od, PySem.W.InstAt h x (PySem.W.instObj C dx) C (some od) ∧ ∀ name, PySem.W.lookIn name od = some (mA name) :=
  let ⟨od, ho, hl⟩ := lookIn_ns I.ns
  ⟨od, ⟨I.obj, rfl, rfl, ho⟩, hl⟩

section
variable {prog : Program} {w : World} {A : Around} {E : Value → Shared → Prop} {s : Shared} {K : PySem.W.Frag} {x dx C f : Addr} {mA : Str → Option Value} {name : Str} {v : Value}

theorem get_map {expr : Bool} {Q : Value → Shared → Prop} (X : K.In s.heap) (I : ObjM s.heap x dx C mA) (hg : PySem.W.plainGet K C name = true) (hh : PySem.W.hasDictIn K C = true)
    (ha : PySem.W.findIn K (.ref C) name = some none) (hv : mA name = some v) (hv' : PySem.W.handedIn v = true) (h : Q v { s with toks := s.toks + 1 }) :
    wpAny (model prog w) A (getAttr (.ref x) name expr) Q E s := by
  obtain ⟨od, J, hl⟩ := I.look
  exact PySem.W.get_value X J (PySem.W.plainGet_of hg).1 (PySem.W.findObj_own hh ha rfl (by rw [hl, hv])) hv' h


theorem get_meth {pl : Sem Bool} {Q : Value × List Value → Shared → Prop} (X : K.In s.heap) (I : ObjM s.heap x dx C mA) (hg : PySem.W.plainGet K C name = true)
    (hf : PySem.W.findIn K (.ref C) name = some (some (.ref f))) (ht : PySem.W.isFn K (.ref f) = true) (hv : mA name = none) (h : Q (.ref f, [.ref x]) s) :
    wpAny (model prog w) A (getMethod (.ref x) name pl) Q E s := by
  obtain ⟨od, J, hl⟩ := I.look
  exact PySem.W.method_fn X J (PySem.W.plainGet_of hg).1 (PySem.W.plainGet_of hg).2 hf (beq_iff_eq.mp ht) (by show (PySem.W.lookIn name od).map (·.isSome) = some false; rw [hl, hv]; rfl) h

theorem set_map {ns : List Str} {Q : Unit → Shared → Prop} (X : K.In s.heap) (I : ObjM s.heap x dx C mA)
    (hs : PySem.W.findIn K (.ref C) "__setattr__" = some (some (.builtin "object.__setattr__"))) (hp : PySem.W.plainOver K C = true) (ht : PySem.W.takerIn K C name = some none) (hh : PySem.W.hasDictIn K C = true)
    (hw : PySem.Within mA ns) (hsz : ns.length ≤ sizeLine)
    (h : ∀ h', ObjM h' x dx C (fun y => if y = name then some v else mA y) → Heap.SameBut dx s.heap h' → Q () { s with heap := h', toks := s.toks + 2 }) :
    wpAny (model prog w) A (setAttr (.ref x) name v) Q E s := by
  obtain ⟨od, J, hl⟩ := I.look
  refine PySem.W.set_plain X J hs (PySem.W.osa_open (s := { s with toks := s.toks + 1 }) (r := none) X J hp ht fun b => ?_)
  obtain ⟨cd, hc, hd'⟩ := PySem.W.any_some hh
  have hx : s.heap.get? x = some ⟨.ref C, some dx, .plain, #[]⟩ := I.obj
  refine wpAny_bind (wpAny_pure (wpAny_bind (wpAny_bind (wpAny_loadPart hx (wpAny_bind (PySem.W.Looks.here (s := { s with toks := s.toks + 1 }) (PySem.W.looks_clsIn X hc) ?_))))))
  rw [hd']
  refine wpAny_pure (a := some dx) (wpAny_bind (wpAny_pure (wpAny_bind ?_)))
  refine wpAny_nsSet1 (s := { s with toks := s.toks + 1 }) I.ns fun h' hn2 hs2 => ?_
  obtain ⟨oD, esD, epD, hoD, hdD, hcD⟩ := hn2.count (PySem.Within.cons name v hw)
  refine wpAny_bind (wpAny_lookBehind hoD (by rw [hdD]; exact pastItsLine_dict (Nat.le_trans hcD (by rw [List.length_cons]; omega))) ?_)
  exact wpAny_pure (h _ ⟨(hs2.2 _ (Ne.symm I.ne)).trans I.obj, hn2, I.ne⟩ hs2)

theorem make_map {R : Result → Shared → Prop} {vs : List Value} {kw : List (Str × Value)} (X : K.In s.heap) (hm : PySem.W.makesIn K C = true)
    (hi : PySem.W.findIn K (.ref C) "__init__" = some (some (.ref f))) (hf : PySem.W.typeIn K (.ref f) = some (.type "function"))
    (h : codeAny (model prog w) (A.under (.builtin "type.__call__" ⟨.ref C :: vs, kw⟩)) (.call (.ref f) ⟨.ref (s.heap.objs.size + 1) :: vs, kw⟩) (PySem.W.InitBack (s.heap.objs.size + 1) R)
      { s with heap := (s.heap.push PySem.W.emptyDict).push (PySem.W.instObj C s.heap.objs.size) }) :
    codeAny (model prog w) A (.call (.ref C) ⟨vs, kw⟩) R s := by
  obtain ⟨hh, g, d, t, os⟩ := s
  exact PySem.W.make_core (PySem.W.makes_of X hm) (PySem.W.looks_findIn X hi) (fun self => PySem.W.bind_fn X self hf) (.inl rfl) h
end

/-! ### the attributes as a list of pairs -/
def putF (f : Str) (v : V) : List (Str × V) → List (Str × V)
  | [] => [(f, v)]
  | (g, x) :: r => if g = f then (g, v) :: r else (g, x) :: putF f v r
theorem lookup_putF (f g : Str) (v : V) : ∀ fs : List (Str × V), (putF f v fs).lookup g = if g = f then some v else fs.lookup g
  | [] => by
    show List.lookup g [(f, v)] = _
    by_cases h : g = f
    · have hb : (g == f) = true := beq_iff_eq.mpr h
      simp only [List.lookup, hb, if_pos h]
    · have hb : (g == f) = false := beq_eq_false_iff_ne.mpr h
      simp only [List.lookup, hb, if_neg h]
  | (k, x) :: r => by
    have ih := lookup_putF f g v r
    rw [show putF f v ((k, x) :: r) = (if k = f then (k, v) :: r else (k, x) :: putF f v r) from rfl]
    by_cases hk : k = f
    · rw [if_pos hk]
      by_cases h : g = k
      · have hb : (g == k) = true := beq_iff_eq.mpr h
        simp only [List.lookup, hb, if_pos (h.trans hk)]
      · have hb : (g == k) = false := beq_eq_false_iff_ne.mpr h
        simp only [List.lookup, hb, if_neg (fun e : g = f => h (e.trans hk.symm))]
    · rw [if_neg hk]
      by_cases h : g = k
      · have hb : (g == k) = true := beq_iff_eq.mpr h
        simp only [List.lookup, hb, if_neg (fun e : g = f => hk (h.symm.trans e))]
      · have hb : (g == k) = false := beq_eq_false_iff_ne.mpr h
        simp only [List.lookup, hb]
        exact ih
theorem keys_putF (f : Str) (v : V) : ∀ fs : List (Str × V), f ∈ (putF f v fs).map (·.1) ∧ ∀ g, g ∈ fs.map (·.1) → g ∈ (putF f v fs).map (·.1)
  | [] => ⟨by simp [putF], fun g h => by simp at h⟩
  | (k, x) :: r => by
    obtain ⟨i1, i2⟩ := keys_putF f v r
    rw [show putF f v ((k, x) :: r) = (if k = f then (k, v) :: r else (k, x) :: putF f v r) from rfl]
    by_cases hk : k = f
    · rw [if_pos hk]
      subst hk
      exact ⟨by simp, fun g h => by simpa using h⟩
    · rw [if_neg hk]
      refine ⟨?_, fun g h => ?_⟩
      · rw [List.map_cons]
        exact List.mem_cons_of_mem _ i1
      · rw [List.map_cons] at h ⊢
        rcases List.mem_cons.mp h with e | e
        · exact List.mem_cons.mpr (.inl e)
        · exact List.mem_cons_of_mem _ (i2 g e)
theorem length_putF (f : Str) (v : V) : ∀ fs : List (Str × V), (putF f v fs).length ≤ fs.length + 1
  | [] => by simp [putF]
  | (k, x) :: r => by
    have ih := length_putF f v r
    rw [show putF f v ((k, x) :: r) = (if k = f then (k, v) :: r else (k, x) :: putF f v r) from rfl]
    by_cases hk : k = f
    · rw [if_pos hk, List.length_cons, List.length_cons]; omega
    · rw [if_neg hk, List.length_cons, List.length_cons]; omega

theorem RelO.some_of {v : V} {o : Option Value} (r : RelO (some v) o) : ∃ u, o = some u ∧ RelV v u := by
  cases o with
  | none => exact (show False from r).elim
  | some u => exact ⟨u, rfl, r⟩
theorem RelO.none_of {o : Option Value} (r : RelO none o) : o = none := by
  cases o with
  | none => rfl
  | some u => exact (show False from r).elim
theorem handed_of {v : V} {u : Value} (r : RelV v u) : PySem.W.handedIn u = true := by
  cases v with
  | non => cases (show u = Value.none from r); rfl
  | bl b => cases (show u = Value.bool b from r); rfl
  | int i => obtain ⟨t, e⟩ := (show ∃ t, u = Value.int i t from r); cases e; rfl
  | str x => obtain ⟨t, e⟩ := (show ∃ t, u = Value.str x t from r); cases e; rfl
  | byt b => obtain ⟨t, e⟩ := (show ∃ t, u = Value.bytes b t from r); cases e; rfl
  | flt b => obtain ⟨t, e⟩ := (show ∃ t, u = Value.float b t from r); cases e; rfl
  | ref a => cases (show u = Value.ref a from r); rfl
  | ty n => cases (show u = Value.type n from r); rfl

section
variable {P : Program} {w : World} {H H' : Hp} {h h' : Heap} {a C dx : Addr} {fs fs' : List (Str × V)}
theorem ins_get (hok : HOk P w H h) (e : H a = some (.ins C dx fs)) : ∃ mA, ObjM h a dx C mA ∧ (∀ f, RelO (fs.lookup f) (mA f)) ∧ PySem.Within mA (fs.map (·.1)) ∧ fs.length ≤ 1000 ∧ H dx = some (.own a) := by
  obtain ⟨d, z, ne, ob, mA, n, r, q⟩ := (show ObjOk P w H h a (.ins C dx fs) from hok a _ e)
  exact ⟨mA, ⟨ob, n, ne⟩, r, q, z, d⟩
end

/-! ### what of the text a class must have -/
structure Cls (K : PySem.W.Frag) (C : Addr) : Prop where
  pg : PySem.W.plainGet K C Str.empty = true
  hd : PySem.W.hasDictIn K C = true
  po : PySem.W.plainOver K C = true
  sa : PySem.W.findIn K (.ref C) "__setattr__" = some (some (.builtin "object.__setattr__"))
theorem Cls.get {K : PySem.W.Frag} {C : Addr} (c : Cls K C) (f : Str) : PySem.W.plainGet K C f = true := c.pg
def NoAttr (K : PySem.W.Frag) (C : Addr) (f : Str) : Prop := PySem.W.findIn K (.ref C) f = some none
theorem NoAttr.taker {K : PySem.W.Frag} {C : Addr} {f : Str} (n : NoAttr K C f) : PySem.W.takerIn K C f = some none := by
  unfold PySem.W.takerIn
  rw [show PySem.W.findIn K (.ref C) f = some none from n]
  rfl
structure Con (K : PySem.W.Frag) (C : Addr) (f : Str) (v : V) (u : Value) : Prop where
  at_ : PySem.W.findIn K (.ref C) f = some (some u)
  rel : RelV v u
  get : PySem.W.specialIn K u "__get__" = some none
  cp : PySem.W.copiedNames.contains f = false
structure Meth (K : PySem.W.Frag) (C : Addr) (m : Str) (f : Addr) : Prop where
  at_ : PySem.W.findIn K (.ref C) m = some (some (.ref f))
  fn : PySem.W.isFn K (.ref f) = true
  kp : PySem.W.keepIn K (.ref f) = true

section
variable {X : Cx} {pins : List (Addr × Obj)} {σ : St} {H : Hp} {s : Shared} {a C dx : Addr} {fs : List (Str × V)} {f : Str} {v : V} {A : Around} {E : Value → Shared → Prop}

theorem getattr_ok {b : Bool} {Q : Value → Shared → Prop} (I : Inv X pins σ H s) (e : H a = some (.ins C dx fs)) (c : Cls X.K C) (n : NoAttr X.K C f) (l : fs.lookup f = some v)
    (h : ∀ u s', Inv X pins σ H s' → RelV v u → Q u s') : wpAny (model X.prog X.w) A (getAttr (.ref a) f b) Q E s := by
  obtain ⟨mA, O, r, _, _, _⟩ := ins_get I.hok e
  obtain ⟨u, hu, ru⟩ := RelO.some_of (v := v) (o := mA f) (by rw [← l]; exact r f)
  exact get_map I.kIn O (c.get f) c.hd n hu (handed_of ru) (h u _ (I.tok _) ru)


theorem getmeth_ok {m : Str} {g : Addr} {pl : Sem Bool} {Q : Value × List Value → Shared → Prop} (I : Inv X pins σ H s) (e : H a = some (.ins C dx fs)) (c : Cls X.K C) (k : Meth X.K C m g) (l : fs.lookup m = none)
    (h : Q (.ref g, [.ref a]) s) : wpAny (model X.prog X.w) A (getMethod (.ref a) m pl) Q E s := by
  obtain ⟨mA, O, r, _, _, _⟩ := ins_get I.hok e
  have hn : mA m = none := RelO.none_of (by rw [← l]; exact r m)
  exact get_meth I.kIn O (c.get m) k.at_ k.fn hn h

theorem setattr_ok {y : V} {u : Value} {Q : Unit → Shared → Prop} (I : Inv X pins σ H s) (e : H a = some (.ins C dx fs)) (c : Cls X.K C) (n : NoAttr X.K C f) (hl : fs.length < 1000) (ry : RelV y u)
    (h : ∀ s', Inv X pins σ (upd H a (.ins C dx (putF f y fs))) s' → Q () s') : wpAny (model X.prog X.w) A (setAttr (.ref a) f u) Q E s := by
  obtain ⟨mA, O, r, wi, _, ho⟩ := ins_get I.hok e
  have hz : (fs.map (·.1)).length ≤ sizeLine := by rw [List.length_map, sizeLine_eq]; omega
  refine set_map I.kIn O c.sa c.po n.taker c.hd wi hz fun h' O' sb => h _ ?_
  have hd : ∃ o, h'.get? dx = some o := let ⟨o, _, _, e', _⟩ := O'.ns; ⟨o, e'⟩
  refine I.write (x := a) (e := dx) (by rw [e]; exact True.intro) (.inr ho) (fun b q hb z => (sb.2 b hb).trans z) hd ?_
  refine ⟨by rw [upd_ne O.ne]; exact ho, ?_, O.ne, O'.obj, _, O'.ns, fun g => ?_, fun g hg => ?_⟩
  · have := length_putF f y fs; omega
  · show RelO ((putF f y fs).lookup g) (if g = f then some u else mA g)
    rw [lookup_putF]
    by_cases q : g = f
    · rw [if_pos q, if_pos q]; exact ry
    · rw [if_neg q, if_neg q]; exact r g
  · by_cases q : g = f
    · rw [q]; exact (keys_putF f y fs).1
    · refine (keys_putF f y fs).2 g (wi g fun z => hg ?_)
      show (if g = f then some u else mA g) = none
      rw [if_neg q]; exact z

theorem Inv.made (I : Inv X pins σ H s) : Inv X pins σ (upd (upd H s.heap.objs.size (.own (s.heap.objs.size + 1))) (s.heap.objs.size + 1) (.ins C s.heap.objs.size []))
    { s with heap := (s.heap.push PySem.W.emptyDict).push (PySem.W.instObj C s.heap.objs.size) } := by
  have e1 : (s.heap.push PySem.W.emptyDict).get? s.heap.objs.size = some PySem.W.emptyDict := Heap.get?_push_size s.heap rfl
  have e2 : ((s.heap.push PySem.W.emptyDict).push (PySem.W.instObj C s.heap.objs.size)).get? (s.heap.objs.size + 1) = some (PySem.W.instObj C s.heap.objs.size) := by
    have := Heap.get?_push_size (s.heap.push PySem.W.emptyDict) (o := PySem.W.instObj C s.heap.objs.size) rfl
    rwa [Heap.size_push] at this
  have e3 : (s.heap.push PySem.W.emptyDict).Ns s.heap.objs.size (fun _ => none) := ⟨PySem.W.emptyDict, #[], _, e1, rfl, (fun e he => absurd he (by simp)), fun _ => rfl⟩
  have I1 := I.laid (a := s.heap.objs.size) (o := .own (s.heap.objs.size + 1)) (h' := s.heap.push PySem.W.emptyDict) (t' := s.toks) (fun b u q => Heap.get?_push_of_some _ q) (Nat.le_refl _) ⟨_, e1⟩
  refine I1.laid (a := s.heap.objs.size + 1) (o := .ins C s.heap.objs.size []) (t' := s.toks) (fun b u q => Heap.get?_push_of_some _ q) (Nat.le_of_eq (Heap.size_push _ _)) ?_
  have ne : s.heap.objs.size ≠ s.heap.objs.size + 1 := Nat.ne_of_lt (Nat.lt_succ_self _)
  refine ⟨by rw [upd_ne ne, upd_same], Nat.zero_le _, ne, e2, fun _ => none, (Heap.Ns1.of_empty e3).at fun o q => Heap.get?_push_of_some _ q, fun _ => True.intro, fun y hy => absurd rfl hy⟩

theorem attr_of {prog : Program} {w : World} {env : Env} {e : Expr} {f : Str} {pos : Pos} {s : Shared} {Q : Value → Shared → Prop} (hb : attributeBase e f env (eval e env) = eval e env)
    (h : wpAny (model prog w) A (eval e env) (fun o s₁ => wpAny (model prog w) A (getAttr o f true) Q E s₁) E s) : wpAny (model prog w) A (eval (.Attribute e f pos) env) Q E s :=
  Attribute_any_ h (by rw [arm_eval_Attribute, hb])
end

/-! ### readings and rules -/
def tFld (K : PySem.W.Frag) (ta : TE) (f : Str) : TE := fun σ H Q => ta σ H fun x H1 => ∃ a C dx fs v, x = .ref a ∧ H1 a = some (.ins C dx fs) ∧ Cls K C ∧ NoAttr K C f ∧ fs.lookup f = some v ∧ Q v H1
def tCon (K : PySem.W.Frag) (ta : TE) (f : Str) : TE := fun σ H Q => ta σ H fun x H1 => ∃ a C dx fs v u, x = .ref a ∧ H1 a = some (.ins C dx fs) ∧ Cls K C ∧ Con K C f v u ∧ fs.lookup f = none ∧ Q v H1
def sFld (K : PySem.W.Frag) (ta tv : TE) (f : Str) : TS := fun D σ H => tv σ H fun y H1 => ta σ H1 fun x H2 => ∃ a C dx fs, x = .ref a ∧ H2 a = some (.ins C dx fs) ∧ Cls K C ∧ NoAttr K C f ∧ fs.length < 1000 ∧
  D.nx σ (upd H2 a (.ins C dx (putF f y fs)))
def InOp (X : Cx) (op : Operator) (rd : V → V → Hp → VK → Prop) : Prop :=
  ∀ (pins : List (Addr × Obj)) (s : Shared) (σ : St) (H : Hp) (x y : V) (u v : Value) (Q : VK), Inv X pins σ H s → RelV x u → RelV y v → rd x y H Q → wpAny (model X.prog X.w) X.A (inplaceOp op u v) (EP X pins σ Q) X.xe s
def sFldAug (K : PySem.W.Frag) (ta tv : TE) (rd : V → V → Hp → VK → Prop) (f : Str) : TS := fun D σ H => ta σ H fun x H1 => ∃ a C dx fs v, x = .ref a ∧ H1 a = some (.ins C dx fs) ∧ Cls K C ∧ NoAttr K C f ∧ fs.lookup f = some v ∧
  tv σ H1 fun y H2 => rd v y H2 fun z H3 => ∃ dx' fs', H3 a = some (.ins C dx' fs') ∧ fs'.length < 1000 ∧ D.nx σ (upd H3 a (.ins C dx' (putF f z fs')))

section
variable {X : Cx} {o e value : Expr} {f : Str} {pos pos' tpos : Pos} {ta tv : TE}
theorem pe_fld (he : PE X e ta) (hb : attributeBase e f X.env (eval e X.env) = eval e X.env) : PE X (.Attribute e f pos) (tFld X.K ta f) := by
  intro pins s σ H Q I h
  refine attr_of hb (thn (he pins s σ H _ I h) fun u s1 ⟨x, H1, I1, rx, a, C, dx, fs, v, ex, ea, c, n, l, q⟩ => ?_)
  subst ex
  obtain rfl : u = Value.ref a := rx
  exact getattr_ok I1 ea c n l fun u' s2 I2 ru => ⟨v, H1, I2, ru, q⟩
theorem ps_fld (ha : PE X o ta) (hv : PE X value tv) (hs : swapsWith value (some (.Attribute o f pos')) pos.line X.env = pure false) : PS X (.Assign [.Attribute o f pos'] value pos) (sFld X.K ta tv f) := by
  intro pins s σ H D I h
  refine plainObj_wpAny_Assign_Attribute (thn (hv pins s σ H _ I h) fun u s1 ⟨y, H1, I1, ry, q⟩ => thn (ha pins s1 σ H1 _ I1 q) fun ov s2 ⟨x, H2, I2, rx, a, C, dx, fs, ex, ea, c, n, l, q2⟩ => ?_) hs
  subst ex
  obtain rfl : ov = Value.ref a := rx
  exact setattr_ok I2 ea c n l ry fun s3 I3 => ⟨σ, _, I3, q2⟩
def rAdd : V → V → Hp → VK → Prop := fun x y H Q => ∃ i j, x = .int i ∧ y = .int j ∧ Q (.int (i + j)) H
def rSub : V → V → Hp → VK → Prop := fun x y H Q => ∃ i j, x = .int i ∧ y = .int j ∧ Q (.int (i - j)) H

end

/-! ### isinstance -/
section
variable {X : Cx} {pins : List (Addr × Obj)} {σ : St} {H : Hp} {s : Shared} {A : Around} {E : Value → Shared → Prop} {Q : Value → Shared → Prop} {c : Value} {b : Bool}
inductive TyOf (K : PySem.W.Frag) (H : Hp) : V → Value → Prop where
  | non : TyOf K H .non (.type "NoneType")
  | bl (x : Bool) : TyOf K H (.bl x) (.type "bool")
  | int (i : Int) : TyOf K H (.int i) (.type "int")
  | str (x : Str) : TyOf K H (.str x) (.type "str")
  | flt (x : UInt64) : TyOf K H (.flt x) (.type "float")
  | lst {a : Addr} {xs : List V} (e : H a = some (.lst xs)) : TyOf K H (.ref a) (.type "list")
  | frz {a : Addr} {o : Obj} {xs : List V} (e : H a = some (.frz o (.lst xs))) : TyOf K H (.ref a) (.type "list")
  | tup {a : Addr} {xs : List V} (e : H a = some (.tup xs)) : TyOf K H (.ref a) (.type "tuple")
  | dK {a : Addr} {kvs : List (Key × V)} (e : H a = some (.dK kvs)) : TyOf K H (.ref a) (.type "dict")
  | dT {a : Addr} {kvs : List (List Key × V)} (e : H a = some (.dT kvs)) : TyOf K H (.ref a) (.type "dict")
  | ins {a C dx : Addr} {fs : List (Str × V)} (e : H a = some (.ins C dx fs)) (cl : Cls K C) (ha : PySem.W.findIn K (.ref C) "__class__" = some (some (.builtin "object.__class__")))
      (hn : PySem.W.specialIn K (.builtin "object.__class__") "__get__" = some (some (.builtin "getset_descriptor.__get__"))) (htk : PySem.W.takesIn K (.builtin "object.__class__") = some true)
      (hm : PySem.W.mroIn K C (.type "object") = some true) : TyOf K H (.ref a) (.ref C)
theorem isinst_ok {x : V} {u t : Value} (I : Inv X pins σ H s) (rx : RelV x u) (ty : TyOf X.K H x t) (e : PySem.W.kitOne X.K t c = some b) (h : ∀ tk, Q (.bool b) { s with toks := tk }) :
    wpAny (model X.prog X.w) A (call (.builtin "isinstance") [u, c]) Q E s := by
  cases ty with
  | non => cases (show u = Value.none from rx); exact PySem.W.kia_one PySem.W.kitx_none I.kIn True.intro e (fun z => nomatch z) h
  | bl y => cases (show u = Value.bool y from rx); exact PySem.W.kia_one PySem.W.kitx_bool I.kIn True.intro e (fun z => nomatch z) h
  | int i => obtain ⟨t, q⟩ := (show ∃ t, u = Value.int i t from rx); cases q; exact PySem.W.kia_one PySem.W.kitx_int I.kIn True.intro e (fun z => nomatch z) h
  | str y => obtain ⟨t, q⟩ := (show ∃ t, u = Value.str y t from rx); cases q; exact PySem.W.kia_one PySem.W.kitx_str I.kIn True.intro e (fun z => nomatch z) h
  | flt y => obtain ⟨t, q⟩ := (show ∃ t, u = Value.float y t from rx); cases q; exact PySem.W.kia_one PySem.W.kitx_float I.kIn True.intro e (fun z => nomatch z) h
  | @lst a xs ea =>
    cases (show u = Value.ref a from rx)
    obtain ⟨_, _, n, _, h1⟩ := (show ObjOk X.prog X.w H s.heap a (.lst xs) from I.hok a _ ea)
    exact PySem.W.kia_one PySem.W.kitx_list I.kIn ⟨_, h1, rfl⟩ e (fun z => nomatch z) h
  | @frz a ob xs ea =>
    cases (show u = Value.ref a from rx)
    obtain ⟨_, _, _, n, _, h1⟩ := (show ObjOk X.prog X.w H s.heap a (.frz ob (.lst xs)) from I.hok a _ ea)
    exact PySem.W.kia_one PySem.W.kitx_list I.kIn ⟨_, h1, rfl⟩ e (fun z => nomatch z) h
  | @tup a xs ea =>
    cases (show u = Value.ref a from rx)
    obtain ⟨_, _, _, p⟩ := (show ObjOk X.prog X.w H s.heap a (.tup xs) from I.hok a _ ea)
    obtain ⟨o, h1, h2, _⟩ := p
    exact PySem.W.kia_one PySem.W.kitx_tuple I.kIn ⟨o, h1, h2⟩ e (fun z => nomatch z) h
  | @dK a kvs ea =>
    cases (show u = Value.ref a from rx)
    obtain ⟨_, _, vs, _, p⟩ := (show ObjOk X.prog X.w H s.heap a (.dK kvs) from I.hok a _ ea)
    obtain ⟨o, es, ep, h1, h2, _⟩ := p
    exact PySem.W.kia_one PySem.W.kitx_dict I.kIn ⟨o, h1, h2.1⟩ e (fun z => nomatch z) h
  | @dT a kvs ea =>
    cases (show u = Value.ref a from rx)
    obtain ⟨_, _, xs, _, o, es, ep, h1, h2, _⟩ := (show ObjOk X.prog X.w H s.heap a (.dT kvs) from I.hok a _ ea)
    exact PySem.W.kia_one PySem.W.kitx_dict I.kIn ⟨o, h1, h2.1⟩ e (fun z => nomatch z) h
  | @ins a C dx fs ea cl ha hn htk hm =>
    cases (show u = Value.ref a from rx)
    obtain ⟨mA, O, _⟩ := ins_get I.hok ea
    obtain ⟨od, J, _⟩ := O.look
    exact PySem.W.kia_one (PySem.W.kitx_own (cl.get _) cl.hd ha hn htk hm) I.kIn J e (fun z => nomatch z) h
end
end L2

namespace L2
open PySem PySem.Spec PyProof.Rows

/-! ### room -/
structure Room (k : Nat) (A : Around) : Prop where
  hd : A.handled = none
  dp : A.depth + 3 * k + 5 < recursionLimit
  un : A.units + 16 * k + 200 < cLine
theorem Room.mono {j k : Nat} {A : Around} (r : Room k A) (h : j ≤ k) : Room j A := ⟨r.hd, by have := r.dp; omega, by have := r.un; omega⟩
theorem Room.deeper {k : Nat} {A : Around} (r : Room (k + 1) A) (env : Env) : Room k (A.deeper env) :=
  ⟨r.hd, by have := r.dp; show A.depth + 1 + 3 * k + 5 < _; omega, by have := r.un; show A.units + 3 + 16 * k + 200 < _; omega⟩
theorem make_depth {A : Around} {C : Addr} {us : List Value} {kw : List (Str × Value)} : (A.under (.builtin "type.__call__" ⟨.ref C :: us, kw⟩)).depth = A.depth + 1 := by
  first | rfl | simp [Around.under, Code.weight, Code.isCreation, Code.isGuard, Code.isCaller, Code.frames, Code.isFrame, guardIds]
theorem make_units {A : Around} {C : Addr} {us : List Value} {kw : List (Str × Value)} : (A.under (.builtin "type.__call__" ⟨.ref C :: us, kw⟩)).units = A.units + 1 := by
  first | rfl | simp [Around.under, Code.cUnits, Code.frames, Code.isFrame]
theorem Room.make {k : Nat} {A : Around} (r : Room (k + 1) A) (C : Addr) (us : List Value) (kw : List (Str × Value)) : Room k (A.under (.builtin "type.__call__" ⟨.ref C :: us, kw⟩)) :=
  ⟨r.hd, by have := r.dp; rw [make_depth]; omega, by have := r.un; rw [make_units]; omega⟩
theorem Room.depth {k : Nat} {A : Around} (r : Room k A) : A.depth < recursionLimit := by have := r.dp; omega
theorem Room.units {k : Nat} {A : Around} (r : Room k A) : A.units + 64 < cLine := by have := r.un; omega

/-! ### argument lists and displays -/
def tNil : TA := fun _ H Q => Q [] H
def tCons (ta : TE) (tr : TA) : TA := fun σ H Q => ta σ H fun x H1 => tr σ H1 fun xs H2 => Q (x :: xs) H2
section
variable {X : Cx} {e : Expr} {es : List Expr} {te : TE} {t : TA} {pos : Pos}
theorem pa_nil : PA X [] tNil := fun _ _ _ _ H Q I h => Calls.spliced_nil ⟨[], H, I, .nil, h⟩
theorem pa_cons (ha : PE X e te) (hr : PA X es t) (hs : starEach (e :: es) X.env = (false, eval e X.env) :: starEach es X.env := by rfl) : PA X (e :: es) (tCons te t) := by
  intro pos pins s σ H Q I h
  rw [hs]
  show wpAny _ _ (spliced ((false, eval e X.env) :: backTo pos (starEach es X.env))) _ _ s
  refine Calls.spliced_cons (thn (ha pins s σ H _ I h) fun u s1 ⟨x, H1, I1, r1, q1⟩ => ?_)
  exact thn (hr pos pins s1 σ H1 _ I1 q1) fun us s2 ⟨xs, H2, I2, r2, q2⟩ => ⟨x :: xs, H2, I2, .cons r1 r2, q2⟩

def tTup (t : TA) : TE := fun σ H Q => t σ H fun xs H1 => xs.length ≤ sizeLine ∧ ∀ p, H1 p = none → Q (.ref p) (upd H1 p (.tup xs))
def tLst (t : TA) : TE := fun σ H Q => t σ H fun xs H1 => xs.length ≤ sizeLine ∧ ∀ p, H1 p = none → Q (.ref p) (upd H1 p (.lst xs))
theorem pe_tup {x1} (h : PA X es t) : PE X (.Tuple es x1 pos) (tTup t) := by
  intro pins s σ H Q I hq
  refine wpAny_Tuple_spliced (thn (h pos pins s σ H _ I hq) fun us s1 ⟨xs, H1, I1, r, z, q⟩ => ⟨by rw [← r.length]; exact z, ?_⟩)
  have hf : H1 s1.heap.objs.size = none := I1.hok.fresh (Nat.le_refl _)
  refine ⟨.ref s1.heap.objs.size, upd H1 s1.heap.objs.size (.tup xs), I1.laid (t' := s1.toks) (fun b u e => Heap.get?_push_of_some _ e) (Nat.le_refl _) ?_, rfl, q _ hf⟩
  exact ⟨z, us, r, ⟨_, Heap.get?_push_size _ rfl, rfl, _, rfl⟩⟩
theorem pe_lst (h : PA X es t) : PE X (.List es pos) (tLst t) := by
  intro pins s σ H Q I hq
  refine wpAny_List_spliced (thn (h pos pins s σ H _ I hq) fun us s1 ⟨xs, H1, I1, r, z, q⟩ => ⟨by rw [← r.length]; exact z, ?_⟩)
  have hf : H1 s1.heap.objs.size = none := I1.hok.fresh (Nat.le_refl _)
  refine ⟨.ref s1.heap.objs.size, upd H1 s1.heap.objs.size (.lst xs), I1.laid (t' := s1.toks) (fun b u e => Heap.get?_push_of_some _ e) (Nat.le_refl _) ?_, rfl, q _ hf⟩
  exact ⟨z, us, 0, r, Heap.get?_push_size _ rfl⟩
end

/-! ### what a def promises -/
abbrev Sp := List V → Hp → VK → XK → Prop
abbrev CXT := List Env → Hp → Shared → XK → Value → Shared → Prop

structure Env0 (P : Program) (w : World) (K : PySem.W.Frag) (mg : Str → Option Value) (base : Heap) (A : Around) (outer : List Env) (s : Shared) (H : Hp) : Prop where
  frames : A.frames = some outer
  mod : Mod K mg base
  bs : ∀ b o, base.get? b = some o → s.heap.get? b = some o ∧ H b = none
  bsz : base.objs.size ≤ s.heap.objs.size
  funs : s.heap.FunFrames base outer
  frf : ∀ b ∈ frs outer, H b = none
  hok : HOk P w H s.heap
  bare : AllBare s.gens
def CE (outer : List Env) (P : Program) (w : World) (H : Hp) (s : Shared) (Q : VK) (u : Value) (s' : Shared) : Prop :=
  ∃ v H', s'.os = s.os ∧ AllBare s'.gens ∧ Un (frs outer) [] H H' s.heap s'.heap ∧ HOk P w H' s'.heap ∧ RelV v u ∧ Q v H'
def CR (CX : CXT) (outer : List Env) (P : Program) (w : World) (H : Hp) (s : Shared) (Q : VK) (E : XK) (r : Result) (s' : Shared) : Prop :=
  match r with
  | .ok (.ret u) => CE outer P w H s Q u s'
  | .ok _ => False
  | .error e => CX outer H s E e s'
structure FnOk (P : Program) (w : World) (K : PySem.W.Frag) (mg : Str → Option Value) (base : Heap) (CX : CXT) (k : Nat) (f : Addr) (fd : FuncData) (ps : List Str) (sp : Sp) : Prop where
  len : ∀ vs H Q E, sp vs H Q E → vs.length = ps.length
  run : ∀ (A : Around) (outer : List Env) (s : Shared) (H : Hp) (args : Args) (us : List Value) (vs : List V) (Q : VK) (E : XK), Room k A → Env0 P w K mg base A outer s H → BindsTo s fd args (ps.zip us) → Vals vs us → sp vs H Q E →
    codeAny (model P w) A (.call (.ref f) args) (CR CX outer P w H s Q E) s
theorem FnOk.mono {P : Program} {w : World} {K : PySem.W.Frag} {mg : Str → Option Value} {base : Heap} {CX : CXT} {j k : Nat} {f : Addr} {fd : FuncData} {ps : List Str} {sp : Sp} (F : FnOk P w K mg base CX j f fd ps sp) (h : j ≤ k) :
    FnOk P w K mg base CX k f fd ps sp := ⟨F.len, fun A outer s H args us vs Q E hr => F.run A outer s H args us vs Q E (hr.mono h)⟩

theorem Env0.make {P : Program} {w : World} {K : PySem.W.Frag} {mg : Str → Option Value} {base : Heap} {A : Around} {outer : List Env} {s : Shared} {H : Hp} (e : Env0 P w K mg base A outer s H) (C : Addr) (us : List Value) (kw : List (Str × Value)) :
    Env0 P w K mg base (A.under (.builtin "type.__call__" ⟨.ref C :: us, kw⟩)) outer s H := ⟨by first | exact e.frames | (simpa [Around.under, Code.envs, Code.isFrame, pushEnvs] using e.frames), e.mod, e.bs, e.bsz, e.funs, e.frf, e.hok, e.bare⟩

section
variable {X : Cx} {pins : List (Addr × Obj)} {σ : St} {H : Hp} {s s' : Shared}
theorem Inv.env0 (I : Inv X pins σ H s) : Env0 X.prog X.w X.K X.mg X.base X.A X.stack s H :=
  ⟨I.ok.frames, I.ok.mod, I.bs, Nat.le_trans I.ok.bsz I.sz, I.stack, I.stkFree, I.hok, I.bare⟩
theorem Inv.after {Q : VK} {u : Value} (I : Inv X pins σ H s) (h : CE X.stack X.prog X.w H s Q u s') : EP X pins σ Q u s' := by
  obtain ⟨v, H', os, bare, un, hok, r, q⟩ := h
  obtain ⟨hh, g, d, t, os'⟩ := s'
  obtain rfl : os' = s.os := os
  exact ⟨v, H', I.call (h' := hh) (g' := g) (d' := d) (t' := t) (ch := []) un hok bare (fun b z => absurd z (by simp)), r, q⟩
end

/-! ### calls -/
def tCall (sp : Sp) (dvs : List V) (E : XK) (t : TA) : TE := fun σ H Q => t σ H fun vs H1 => sp (vs ++ dvs) H1 Q E
def tMeth (C : Addr) (m : Str) (sp : Sp) (dvs : List V) (E : XK) (ta : TE) (t : TA) : TE := fun σ H Q => ta σ H fun x H1 => ∃ a dx fs, x = .ref a ∧ H1 a = some (.ins C dx fs) ∧ fs.lookup m = none ∧
  t σ H1 fun vs H2 => sp (x :: (vs ++ dvs)) H2 Q E
def tMake (C : Addr) (sp : Sp) (dvs : List V) (E : XK) (t : TA) : TE := fun σ H Q => t σ H fun vs H1 => ∀ x dx, H1 x = none → H1 dx = none → dx ≠ x →
  sp (.ref x :: (vs ++ dvs)) (upd (upd H1 dx (.own x)) x (.ins C dx [])) (fun v H2 => v = .non ∧ Q (.ref x) H2) E

def Binds (K : PySem.W.Frag) (fd : FuncData) (ps : List Str) (ds : List Value) : Prop :=
  ∀ (s : Shared) (us : List Value), K.In s.heap → (us ++ ds).length = ps.length → BindsTo s fd ⟨us, []⟩ (ps.zip (us ++ ds))
theorem Binds.all {K : PySem.W.Frag} {fd : FuncData} {ps : List Str} (h : ∀ us : List Value, us.length = ps.length → bindArgs fd ⟨us, []⟩ = pure (ps.zip us)) : Binds K fd ps [] := fun s us _ hl => by
  rw [List.append_nil] at hl ⊢
  exact .of_eq (h us hl)

def Passes (CX : CXT) (X : Cx) (E : XK) : Prop := ∀ (pins : List (Addr × Obj)) (σ : St) (H : Hp) (s : Shared) (e : Value) (s' : Shared), Inv X pins σ H s → CX X.stack H s E e s' → X.xe e s'

section
variable {X : Cx} {CX : CXT} {k : Nat} {f C : Addr} {fd : FuncData} {ps : List Str} {sp : Sp} {dvs : List V} {ds : List Value} {E : XK} {x m : Str} {p pos apos : Pos} {e o : Expr} {es : List Expr} {ta : TE} {t : TA}

theorem run_fn {pins : List (Addr × Obj)} {σ : St} {H : Hp} {s : Shared} {Q : VK} {us : List Value} {vs : List V} (F : FnOk X.prog X.w X.K X.mg X.base CX k f fd ps sp) (hr : Room k X.A) (hb : Binds X.K fd ps ds) (hd : Vals dvs ds) (hx : Passes CX X E)
    (I : Inv X pins σ H s) (r : Vals vs us) (h : sp (vs ++ dvs) H Q E) : wpAny (model X.prog X.w) X.A (call (.ref f) us) (EP X pins σ Q) X.xe s := by
  have r2 : Vals (vs ++ dvs) (us ++ ds) := r.append hd
  have hl : (us ++ ds).length = ps.length := by rw [← r2.length]; exact F.len _ _ _ _ h
  refine wpAny_call (codeAny_mono (F.run X.A X.stack s H ⟨us, []⟩ (us ++ ds) (vs ++ dvs) Q E hr I.env0 (hb s us I.kIn hl) r2 h) fun r s' hq => ?_)
  cases r with
  | error e => exact hx pins σ H s e s' I hq
  | ok fl =>
    cases fl with
    | ret u => exact I.after hq
    | next => exact False.elim hq
    | brk => exact False.elim hq
    | cont => exact False.elim hq

theorem pe_call (F : FnOk X.prog X.w X.K X.mg X.base CX k f fd ps sp) (hr : Room k X.A) (hg : Gl X x) (hm : X.mg x = some (.ref f)) (hk : PySem.W.keepIn X.K (.ref f) = true) (hb : Binds X.K fd ps ds) (hd : Vals dvs ds) (hx : Passes CX X E)
    (ha : PA X (e :: es) t) (hdb : (x == ("__debug__" : Str)) = false := by decide) (he : starEach (e :: es) X.env = (false, eval e X.env) :: starEach es X.env := by rfl) (hpl : (backTo pos (starEach es X.env)).any (·.1) = false := by rfl) :
    PE X (.Call (.Name x p) (e :: es) [] pos) (tCall sp dvs E t) := by
  intro pins s σ H Q I h
  refine wpAny_Call_Name_kw (ld_glob I hg hm ?_ hdb)
  refine PySem.W.callWith_K (h₀ := X.base) I.ok.mod.kin hk (thn (ha pos pins s σ H _ I h) fun us s1 ⟨vs, H1, I1, r, q⟩ => ⟨I1.kIn, ?_⟩) he hpl
  exact run_fn F hr hb hd hx I1 r q

theorem pe_meth {pl : Sem Bool} (he : PE X o ta) (c : Cls X.K C) (hm : Meth X.K C m f) (F : FnOk X.prog X.w X.K X.mg X.base CX k f fd ps sp) (hr : Room k X.A) (hb : Binds X.K fd ps ds) (hd : Vals dvs ds) (hx : Passes CX X E) (ha : PA X (e :: es) t)
    (hst : starEach (e :: es) X.env = (false, eval e X.env) :: starEach es X.env := by rfl) (hpl : (backTo pos (starEach es X.env)).any (·.1) = false := by rfl)
    (ht : eval (.Call (.Attribute o m apos) (e :: es) [] pos) X.env = (do
      let ov ← eval o X.env
      standAt apos.atName
      let (f, first) ← holding [ov] (getMethod ov m pl)
      callWith pos f first (backTo pos (starEach (e :: es) X.env)) (backToKw pos (keywordEach [] X.env))) := by rfl) :
    PE X (.Call (.Attribute o m apos) (e :: es) [] pos) (tMeth C m sp dvs E ta t) := by
  intro pins s σ H Q I h
  refine PySem.W.methodCall_KW (pl := pl) (thn (he pins s σ H _ I h) fun u s1 ⟨x, H1, I1, rx, a, dx, fs, ex, ea, l, q⟩ => ?_) ht
  subst ex
  obtain rfl : u = Value.ref a := rx
  refine getmeth_ok I1 ea c hm l ?_
  refine PySem.W.callWith_K (first := [.ref a]) (h₀ := X.base) I.ok.mod.kin hm.kp (thn (ha pos pins s1 σ H1 _ I1 q) fun us s2 ⟨vs, H2, I2, r, q2⟩ => ⟨I2.kIn, ?_⟩) hst hpl
  exact run_fn (us := .ref a :: us) (vs := .ref a :: vs) F hr hb hd hx I2 (.cons rfl r) q2
theorem pe_meth0 {pl : Sem Bool} (he : PE X o ta) (c : Cls X.K C) (hm : Meth X.K C m f) (F : FnOk X.prog X.w X.K X.mg X.base CX k f fd ps sp) (hr : Room k X.A) (hb : Binds X.K fd ps ds) (hd : Vals dvs ds) (hx : Passes CX X E)
    (ht : eval (.Call (.Attribute o m apos) [] [] pos) X.env = (do
      let ov ← eval o X.env
      standAt apos.atName
      let (f, first) ← holding [ov] (getMethod ov m pl)
      callWith pos f first (backTo pos (starEach [] X.env)) (backToKw pos (keywordEach [] X.env))) := by rfl) :
    PE X (.Call (.Attribute o m apos) [] [] pos) (tMeth C m sp dvs E ta tNil) := by
  intro pins s σ H Q I h
  refine PySem.W.methodCall_KW (pl := pl) (thn (he pins s σ H _ I h) fun u s1 ⟨x, H1, I1, rx, a, dx, fs, ex, ea, l, q⟩ => ?_) ht
  subst ex
  obtain rfl : u = Value.ref a := rx
  refine getmeth_ok I1 ea c hm l ?_
  exact PySem.W.callWith_K0 (first := [.ref a]) I1.kIn hm.kp (run_fn (us := [.ref a]) (vs := [.ref a]) F hr hb hd hx I1 (.cons rfl .nil) q)

structure Mk (K : PySem.W.Frag) (C f : Addr) : Prop where
  makes : PySem.W.makesIn K C = true
  init : PySem.W.findIn K (.ref C) "__init__" = some (some (.ref f))
  fn : PySem.W.isFn K (.ref f) = true
  kp : PySem.W.keepIn K (.ref C) = true

theorem run_make {pins : List (Addr × Obj)} {σ : St} {H : Hp} {s : Shared} {Q : VK} {us : List Value} {vs : List V} (M : Mk X.K C f) (F : FnOk X.prog X.w X.K X.mg X.base CX k f fd ps sp) (hr : Room (k + 1) X.A) (hb : Binds X.K fd ps ds) (hd : Vals dvs ds)
    (hx : Passes CX X E) (I : Inv X pins σ H s) (r : Vals vs us)
    (h : ∀ x dx, H x = none → H dx = none → dx ≠ x → sp (.ref x :: (vs ++ dvs)) (upd (upd H dx (.own x)) x (.ins C dx [])) (fun v H2 => v = .non ∧ Q (.ref x) H2) E) :
    wpAny (model X.prog X.w) X.A (call (.ref C) us) (EP X pins σ Q) X.xe s := by
  have hq := h (s.heap.objs.size + 1) s.heap.objs.size (I.hok.fresh (Nat.le_succ _)) (I.hok.fresh (Nat.le_refl _)) (Nat.ne_of_lt (Nat.lt_succ_self _))
  have I2 := Inv.made (C := C) I
  have r2 : Vals (V.ref (s.heap.objs.size + 1) :: (vs ++ dvs)) (Value.ref (s.heap.objs.size + 1) :: (us ++ ds)) := .cons rfl (r.append hd)
  have hl : (Value.ref (s.heap.objs.size + 1) :: us ++ ds).length = ps.length := by
    have e := r2.length
    rw [F.len _ _ _ _ hq] at e
    exact e.symm
  refine wpAny_call (make_map (f := f) I.kIn M.makes M.init (beq_iff_eq.mp M.fn) (codeAny_mono (F.run _ X.stack _ _ ⟨Value.ref (s.heap.objs.size + 1) :: us, []⟩ (Value.ref (s.heap.objs.size + 1) :: (us ++ ds)) _ _ E (hr.make C us [])
    (I2.env0.make C us []) (hb _ (Value.ref (s.heap.objs.size + 1) :: us) I2.kIn hl) r2 hq) fun r s' hq' => ?_))
  cases r with
  | error e => exact hx pins σ _ _ e s' I2 hq'
  | ok fl =>
    cases fl with
    | ret u =>
      obtain ⟨v, H', I3, rv, ev, q3⟩ := I2.after hq'
      subst ev
      exact ⟨rv, ⟨V.ref (s.heap.objs.size + 1), H', I3, rfl, q3⟩⟩
    | next => exact False.elim hq'
    | brk => exact False.elim hq'
    | cont => exact False.elim hq'
theorem pe_make0 (M : Mk X.K C f) (F : FnOk X.prog X.w X.K X.mg X.base CX k f fd ps sp) (hr : Room (k + 1) X.A) (hg : Gl X x) (hm : X.mg x = some (.ref C)) (hb : Binds X.K fd ps ds) (hd : Vals dvs ds) (hx : Passes CX X E)
    (hdb : (x == ("__debug__" : Str)) = false := by decide) : PE X (.Call (.Name x p) [] [] pos) (tMake C sp dvs E tNil) := by
  intro pins s σ H Q I h
  refine wpAny_Call_Name_kw (ld_glob I hg hm ?_ hdb)
  exact PySem.W.callWith_K0 I.kIn M.kp (run_make (us := []) M F hr hb hd hx I .nil h)
end

/-! ### keywords -/
def PK (X : Cx) (kws : List Keyword) (t : TA) : Prop :=
  ∀ (pos : Pos) (pins : List (Addr × Obj)) (s : Shared) (σ : St) (H : Hp) (Q : List V → Hp → Prop), Inv X pins σ H s → t σ H Q → wpAny (model X.prog X.w) X.A (evalAll ((backToKw pos (keywordEach kws X.env)).map (·.2))) (AP X pins σ Q) X.xe s
section
variable {X : Cx} {CX : CXT} {k : Nat} {f C : Addr} {fd : FuncData} {ps ks : List Str} {sp : Sp} {E : XK} {x m : Str} {p pos apos kpos : Pos} {e o : Expr} {es : List Expr} {kws : List Keyword} {te ta : TE} {t tk : TA} {nm : Option Str}

structure KBinds (K : PySem.W.Frag) (fd : FuncData) (ps ks : List Str) (g : List Value → List Value → List Value) (gV : List V → List V → List V) : Prop where
  to : ∀ (s : Shared) (us ws : List Value), K.In s.heap → (g us ws).length = ps.length → BindsTo s fd ⟨us, ks.zip ws⟩ (ps.zip (g us ws))
  rel : ∀ {vs : List V} {us : List Value} {zs : List V} {ws : List Value}, Vals vs us → Vals zs ws → Vals (gV vs zs) (g us ws)
def tCallK (sp : Sp) (gV : List V → List V → List V) (E : XK) (t tk : TA) : TE := fun σ H Q => t σ H fun vs H1 => tk σ H1 fun zs H2 => sp (gV vs zs) H2 Q E
variable {g : List Value → List Value → List Value} {gV : List V → List V → List V}
end

/-! ### a def's body keeps its promise -/
structure FnScope (N P : List Str) (sc : Scope) : Prop where
  kind : sc.kind = .function
  co : sc.isCoroutine = false
  gen : sc.isGenerator = false
  nd : N.Nodup
  pre : N.take P.length = P
  par : ∀ x ∈ P, sc.names.lookup x = some .local ∨ sc.names.lookup x = some .cell
  nofree : ∀ y ∈ sc.names, y.2 ≠ .free

theorem bindL_out {kindOf : Str → Option NameKind} {x : Str} : ∀ {binds : List (Str × Value)} {m : Str → Option Value}, (∀ v, (x, v) ∉ binds) → bindL kindOf binds m x = m x
  | [], _, _ => rfl
  | (n, v) :: r, m, h => by
    unfold bindL
    rw [bindL_out fun w hw => h w (List.mem_cons_of_mem _ hw)]
    split
    · have : x ≠ n := by rintro rfl; exact h v List.mem_cons_self
      simp [this]
    · rfl
theorem bindC_out {kindOf : Str → Option NameKind} {x : Str} : ∀ {binds : List (Str × Value)} {m : Str → Option Value}, (∀ v, (x, v) ∉ binds) → bindC kindOf binds m x = m x
  | [], _, _ => rfl
  | (n, v) :: r, m, h => by
    unfold bindC
    rw [bindC_out fun w hw => h w (List.mem_cons_of_mem _ hw)]
    split
    · rfl
    · have : x ≠ n := by rintro rfl; exact h v List.mem_cons_self
      simp [this]
theorem bindL_get {kindOf : Str → Option NameKind} {x : Str} {v : Value} : ∀ {P : List Str} {vs : List Value} {i : Nat} {m : Str → Option Value}, P.Nodup → P[i]? = some x → vs[i]? = some v → kindOf x = some .local →
    bindL kindOf (P.zip vs) m x = some v
  | [], _, _, _, _, h, _, _ => by simp at h
  | _ :: _, [], _, _, _, _, h, _ => by simp at h
  | p :: P, w :: vs, 0, m, nd, h1, h2, hk => by
    simp at h1 h2; subst h1; subst h2
    show bindL kindOf ((p, w) :: P.zip vs) m p = _
    unfold bindL
    rw [bindL_out fun v hv => (List.nodup_cons.mp nd).1 (List.of_mem_zip hv).1, if_pos hk]
    simp
  | p :: P, w :: vs, i + 1, m, nd, h1, h2, hk => by
    show bindL kindOf ((p, w) :: P.zip vs) m x = _
    unfold bindL
    exact bindL_get (i := i) (List.nodup_cons.mp nd).2 (by simpa using h1) (by simpa using h2) hk
theorem bindC_get {kindOf : Str → Option NameKind} {x : Str} {v : Value} : ∀ {P : List Str} {vs : List Value} {i : Nat} {m : Str → Option Value}, P.Nodup → P[i]? = some x → vs[i]? = some v → kindOf x ≠ some .local →
    bindC kindOf (P.zip vs) m x = some v
  | [], _, _, _, _, h, _, _ => by simp at h
  | _ :: _, [], _, _, _, _, h, _ => by simp at h
  | p :: P, w :: vs, 0, m, nd, h1, h2, hk => by
    simp at h1 h2; subst h1; subst h2
    show bindC kindOf ((p, w) :: P.zip vs) m p = _
    unfold bindC
    rw [bindC_out fun v hv => (List.nodup_cons.mp nd).1 (List.of_mem_zip hv).1, if_neg hk]
    simp
  | p :: P, w :: vs, i + 1, m, nd, h1, h2, hk => by
    show bindC kindOf ((p, w) :: P.zip vs) m x = _
    unfold bindC
    exact bindC_get (i := i) (List.nodup_cons.mp nd).2 (by simpa using h1) (by simpa using h2) hk

def start (N : List Str) (vs : List V) : St := vs.map some ++ List.replicate (N.length - vs.length) none

def cxOf (CX : CXT) (P : Program) (w : World) (K : PySem.W.Frag) (mg : Str → Option Value) (base : Heap) (N : List Str) (qual : Str) (scope : Scope) (f : Addr) (cd : Value) (A : Around) (outer : List Env) (s : Shared) (H : Hp) (E : XK) : Cx where
  prog := P
  w := w
  K := K
  mg := mg
  base := base
  A := A.deeper (envOfC qual scope s.heap.objs.size f cd)
  N := N
  s₀ := s
  H₀ := H
  env := envOfC qual scope s.heap.objs.size f cd
  outer := outer
  stack := envOfC qual scope s.heap.objs.size f cd :: outer
  ex := []
  calm := true
  fn := fun _ => true
  pn := []
  xe := fun e s' => wpAny (model P w) (A.deeper (envOfC qual scope s.heap.objs.size f cd)) (leaving (envOfC qual scope s.heap.objs.size f cd) e) (fun _ s'' => CX outer H s E e s'') (fun e' s'' => CX outer H s E e' s'') s'

theorem cell_has {sc : Scope} {n : Nat} {x : Str} (h : sc.names.lookup x = some .cell) : ∃ c, (cellsFrom n sc.names []).lookup x = some c := by
  have q := PySem.W.cellsFrom_some sc.names n [] (.inl h)
  exact Option.isSome_iff_exists.mp q

theorem inv_start {CX : CXT} {P : Program} {w : World} {K : PySem.W.Frag} {mg : Str → Option Value} {base : Heap} {N ps : List Str} {qual : Str} {scope : Scope} {f : Addr} {cd : Value} {A : Around} {outer : List Env} {s s1 : Shared} {H : Hp} {E : XK} {us : List Value} {vs : List V}
    (S : FnScope N ps scope) (hd : A.handled = none) (e0 : Env0 P w K mg base A outer s H) (hl : vs.length = ps.length) (r : Vals vs us)
    (x : InCallC s s.heap.objs.size (bindL (envOfC qual scope s.heap.objs.size f cd).kindOf (ps.zip us) fun _ => none) (cellsFrom (s.heap.objs.size + 1) scope.names []) (bindC (envOfC qual scope s.heap.objs.size f cd).kindOf (ps.zip us) fun _ => none) s1) :
    Inv (cxOf CX P w K mg base N qual scope f cd A outer s H E) [] (start N vs) H s1 := by
  have hpl : ps.length ≤ N.length := by have := congrArg List.length S.pre; rw [List.length_take] at this; omega
  obtain ⟨h1, tk, rfl, hk⟩ := x.done
  have noA : ∀ b : Addr, b ∉ (cxOf CX P w K mg base N qual scope f cd A outer s H E).ex := fun b z => absurd (show b ∈ ([] : List Addr) from z) (by simp)
  refine ⟨⟨e0.mod, S.kind, rfl, rfl, Nat.le_refl _, fun y z c h1 h2 => ?_, fun y hy => ?_, fun y c _ h => ?_, fun _ => hd, Around.frames_deeper e0.frames, .inr ⟨rfl, rfl⟩, fun b z => absurd z (noA b), e0.bs, e0.bsz, fun b _ _ => noA b, fun b z => absurd z (noA b), e0.funs, e0.frf⟩,
    rfl, e0.bare, Un.kept hk, ⟨_, x.toInCall.ns, fun i y v h1 h2 h3 => ?_⟩, fun y c h => ⟨_, x.cell y c h⟩, e0.hok.fresh (Nat.le_refl _), fun y c h => ?_, fun p hp => absurd (show p ∈ ([] : List (Addr × Obj)) from hp) (by simp), e0.hok.kept hk, ?_⟩
  · exact name_of_addr x.apart (PySem.mem_of_lookup h1) (PySem.mem_of_lookup h2)
  · have hy : scope.names.lookup y = some .cell ∨ scope.names.lookup y = some .free := hy
    rcases hy with hy | hy
    · exact cell_has hy
    · exact absurd rfl (S.nofree _ (PySem.mem_of_lookup hy))
  · exact Nat.le_of_lt (x.above y c (PySem.mem_of_lookup h))
  · have hi : i < vs.length := by
      unfold start at h2
      by_cases hi : i < vs.length
      · exact hi
      · rw [List.getElem?_append_right (by simpa using hi)] at h2
        rw [List.getElem?_replicate] at h2
        split at h2 <;> cases h2
    have ha : vs[i]? = some v := by
      unfold start at h2
      rw [List.getElem?_append_left (by simpa using hi), List.getElem?_map] at h2
      cases e : vs[i]? with
      | none => rw [e] at h2; cases h2
      | some a => rw [e] at h2; cases h2; rfl
    obtain ⟨u, hu, rv⟩ := r.get ha
    have hp : ps[i]? = some y := by
      rw [← S.pre, List.getElem?_take_of_lt (by omega)]; exact h1
    have ndP : ps.Nodup := by rw [← S.pre]; exact S.nd.sublist (List.take_sublist _ _)
    refine ⟨u, rv, ?_⟩
    rcases S.par y (List.mem_of_getElem? hp) with k | k
    · exact .inl ⟨k, bindL_get ndP hp hu k⟩
    · obtain ⟨c, e⟩ := cell_has (n := s.heap.objs.size + 1) k
      refine .inr ⟨.inl k, c, e, ?_⟩
      have q := x.cell y c e
      rw [bindC_get ndP hp hu (by show scope.names.lookup y ≠ _; rw [k]; decide)] at q
      exact q
  · exact e0.hok.fresh (Nat.le_of_lt (x.above y c (PySem.mem_of_lookup h)))
  · unfold start
    show _ = N.length
    rw [List.length_append, List.length_map, List.length_replicate]
    omega

theorem fn_of {CX : CXT} {P : Program} {w : World} {K : PySem.W.Frag} {mg : Str → Option Value} {base : Heap} {k : Nat} {f : Addr} {name qual : Str} {params : Arguments} {body : List Stmt} {scope : Scope} {dV kV doc pm cdv ct oc : Value} {an od : Option Addr}
    {osl : Array (Option Value)} {N ps : List Str} {sp : Sp} (lk : K.lookup f = some ⟨oc, od, .func (PySem.W.fnOf name qual params body scope dV kV doc pm an cdv ct), osl⟩) (hcd : PySem.W.codeIn K cdv qual = true) (S : FnScope N ps scope)
    (len : ∀ vs H Q E, sp vs H Q E → vs.length = ps.length)
    (hbody : ∀ (A : Around) (outer : List Env) (s : Shared) (H : Hp) (vs : List V) (Q : VK) (E : XK), Room k (A.deeper (envOfC qual scope s.heap.objs.size f cdv)) → sp vs H Q E →
      ∃ t, PSs (cxOf CX P w K mg base N qual scope f cdv A outer s H E) body t ∧ t { nx := fun _ H' => Q .non H', rt := Q } (start N vs) H) :
    FnOk P w K mg base CX (k + 1) f (PySem.W.fnOf name qual params body scope dV kV doc pm an cdv ct) ps sp := by
  refine ⟨len, fun A outer s H args us vs Q E hr e0 hb r hsp => ?_⟩
  have hl := len _ _ _ _ hsp
  have KX : K.In s.heap := e0.mod.kin.keeps fun b o e => (e0.bs b o e).1
  have lim : s.heap.NoLimit := e0.mod.nolimit.keeps fun b o e => (e0.bs b o e).1
  have hkind : ∀ y ∈ ps.zip us, scope.names.lookup y.1 = some .local ∨ (scope.names.lookup y.1 = some .cell ∧ ((cellsFrom (s.heap.objs.size + 1) scope.names []).lookup y.1).isSome = true) := fun ⟨n, v⟩ hy => by
    rcases S.par n (List.of_mem_zip hy).1 with q | q
    · exact .inl q
    · exact .inr ⟨q, PySem.W.cellsFrom_some _ _ _ (.inl q)⟩
  refine codeAny_call_function hr.depth (KX _ _ lk) rfl S.co S.gen rfl (PySem.W.codeRec_of KX hcd) (hb _ _ _ _ ?_)
  refine wpAny_newFunctionEnv_cells S.kind hkind fun env he s1 x => ?_
  subst he
  refine ⟨lim.keeps x.toInCall.keep, codeAny_func ?_⟩
  obtain ⟨t, ht, hq⟩ := hbody A outer s H vs Q E (hr.deeper _) hsp
  have I : Inv (cxOf CX P w K mg base N qual scope f cdv A outer s H E) [] (start N vs) H s1 := inv_start S hr.hd e0 hl r x
  refine wpAny_mono (ht [] s1 (start N vs) H _ I hq) (fun fl s' hs => ?_) fun e s' hs => hs
  have fin : ∀ {σ' : St} {H' : Hp} {v : V} {u : Value}, Inv (cxOf CX P w K mg base N qual scope f cdv A outer s H E) [] σ' H' s' → RelV v u → Q v H' → CE outer P w H s Q u s' :=
    fun {σ' H' v u} J rv q => ⟨v, H', J.os, J.bare, J.base, J.hok, rv, q⟩
  cases fl with
  | ret u =>
    obtain ⟨v, σ', H', J, rv, q⟩ := hs
    exact fin J rv q
  | next =>
    obtain ⟨σ', H', J, q⟩ := hs
    exact fin (v := V.non) (u := Value.none) J rfl q
  | brk =>
    obtain ⟨_, _, _, q⟩ := hs
    exact False.elim q
  | cont =>
    obtain ⟨_, _, _, q⟩ := hs
    exact False.elim q
end L2

namespace L2
open PySem PySem.Spec PyProof.Rows
section
variable {X : Cx} {x : Str} {p pos : Pos} {e : Expr} {es : List Expr} {t : TA} {id T : String} {r : List V → Hp → VK → Prop}

def tCB (r : List V → Hp → VK → Prop) (t : TA) : TE := fun σ H Q => t σ H fun vs H1 => r vs H1 Q
theorem pe_callB (hc : CallR X (.builtin id) r) (hg : Gl X x) (hm : X.mg x = none) (hv : bootBuiltins x = some (.builtin id)) (ha : PA X (e :: es) t) (hn : x ≠ "__name__" := by decide) (hdb : (x == ("__debug__" : Str)) = false := by decide)
    (he : starEach (e :: es) X.env = (false, eval e X.env) :: starEach es X.env := by rfl) (hpl : (backTo pos (starEach es X.env)).any (·.1) = false := by rfl) : PE X (.Call (.Name x p) (e :: es) [] pos) (tCB r t) := by
  intro pins s σ H Q I h
  refine wpAny_Call_Name_kw (ld_blt I hg hm hv ?_ hn hdb)
  exact PyProof.Rows.callWith_builtin1 (thn (ha pos pins s σ H _ I h) fun us s1 ⟨vs, H1, I1, r1, q1⟩ => hc pins s1 σ H1 vs us Q I1 r1 q1) he hpl
theorem pe_callTy (hc : CallR X (.type T) r) (hg : Gl X x) (hm : X.mg x = none) (hv : bootBuiltins x = some (.type T)) (ha : PA X (e :: es) t) (hn : x ≠ "__name__" := by decide) (hdb : (x == ("__debug__" : Str)) = false := by decide)
    (he : starEach (e :: es) X.env = (false, eval e X.env) :: starEach es X.env := by rfl) (hpl : (backTo pos (starEach es X.env)).any (·.1) = false := by rfl) : PE X (.Call (.Name x p) (e :: es) [] pos) (tCB r t) := by
  intro pins s σ H Q I h
  refine wpAny_Call_Name_kw (ld_blt I hg hm hv ?_ hn hdb)
  exact PyProof.Rows.callWith_type1 (thn (ha pos pins s σ H _ I h) fun us s1 ⟨vs, H1, I1, r1, q1⟩ => hc pins s1 σ H1 vs us Q I1 r1 q1) he hpl
end
end L2

namespace HT
open PySem PyProof.Rows

def lexLt : List Int → List Int → Bool
  | [], [] => false
  | [], _ :: _ => true
  | _ :: _, [] => false
  | x :: xs, y :: ys => if x = y then lexLt xs ys else decide (x < y)


section
open PySem.SeqAt
open PySem.AutoSeq1 (wpAny_loadPart')
open PySem.MeetsSeq PySem.MeetsSeq2 PySem.MeetsSeq3

end

section
variable {prog : Program} {w : World} {A : Around} {E : Value → Shared → Prop} {s : Shared}



/-! ### t[a:b], not the whole -/
def sIx (n d : Nat) : Option Int → Nat
  | none => d
  | some v => if v < 0 then (v + (n : Int)).toNat else min v.toNat n
theorem sIx_none (n d : Nat) : sIx n d none = d := rfl
theorem sIx_nat (n d k : Nat) : sIx n d (some (k : Int)) = min k n := by
  show (if (k : Int) < 0 then ((k : Int) + (n : Int)).toNat else min (k : Int).toNat n) = min k n
  rw [if_neg (by omega), Int.toNat_natCast]

end
end HT

namespace L2
open PySem PySem.Spec PyProof.Rows

/-! ### the parts of a slice -/
abbrev TO := St → Hp → (Option Int → Hp → Prop) → Prop
def PO (X : Cx) (e : Option Expr) (t : TO) : Prop :=
  ∀ (pins : List (Addr × Obj)) (s : Shared) (σ : St) (H : Hp) (Q : Option Int → Hp → Prop), Inv X pins σ H s → t σ H Q →
    wpAny (model X.prog X.w) X.A (evalPart e X.env) (fun u s' => ∃ o H', Inv X pins σ H' s' ∧ IsPart u o ∧ Q o H') X.xe s
def tNoPart : TO := fun _ H Q => Q none H
def tPart (t : TE) : TO := fun σ H Q => t σ H fun x H1 => ∃ i, x = .int i ∧ Q (some i) H1


section
variable {X : Cx} {e : Expr} {te : TE} {lo hi : Option Expr} {tl th : TO} {pos p2 : Pos}

theorem po_none : PO X none tNoPart := by
  intro pins s σ H Q I h
  rw [evalPart_none]
  exact wpAny_pure ⟨none, H, I, .none, h⟩
theorem po_some (h : PE X e te) : PO X (some e) (tPart te) := by
  intro pins s σ H Q I hw
  rw [evalPart_some]
  refine thn (h pins s σ H _ I hw) fun u s1 ⟨x, H1, I1, r1, q1⟩ => ?_
  obtain ⟨i, rfl, q⟩ := q1
  obtain ⟨t, rfl⟩ := r1
  exact ⟨some i, H1, I1, .int i t, q⟩

def SlR (X : Cx) (r : V → Option Int → Option Int → Hp → VK → Prop) : Prop :=
  ∀ (pins : List (Addr × Obj)) (s : Shared) (σ : St) (H : Hp) (x : V) (v vl vu : Value) (lo hi : Option Int) (sl : Addr) (Q : VK), Inv X pins σ H s → RelV x v → s.heap.IsSliceOf sl vl vu .none → IsPart vl lo → IsPart vu hi → r x lo hi H Q →
    ∃ T id, typeLookup (.type T) "__getitem__" = pure (some (.builtin id)) ∧ s.TypeIs v T ∧ wpAny (model X.prog X.w) X.A (getItem v (.ref sl)) (EP X pins σ Q) X.xe s
def tSl (r : V → Option Int → Option Int → Hp → VK → Prop) (te : TE) (tl th : TO) : TE := fun σ H Q => te σ H fun x H1 => tl σ H1 fun l H2 => th σ H2 fun u H3 => r x l u H3 Q
theorem pe_slice {r : V → Option Int → Option Int → Hp → VK → Prop} (hr : SlR X r) (he : PE X e te) (hl : PO X lo tl) (hu : PO X hi th) : PE X (.Subscript e (.Slice lo hi none p2) pos) (tSl r te tl th) := by
  intro pins s σ H Q I h
  refine Subscript_ (thn (he pins s σ H _ I h) fun v s1 ⟨x, H1, I1, r1, q1⟩ => ?_)
  refine wpAny_Slice (thn (hl pins s1 σ H1 _ I1 q1) fun vl s2 ⟨l, H2, I2, pl, q2⟩ => thn (hu pins s2 σ H2 _ I2 q2) fun vu s3 ⟨u, H3, I3, pu, q3⟩ => ?_)
  rw [evalPart_none]
  refine wpAny_pure ?_
  have I4 : Inv X pins σ H3 { s3 with heap := s3.heap.push { cls := .type "slice", data := .fields #[vl, vu, .none] } } := I3.kept (t' := s3.toks) fun b ob q => Heap.get?_push_of_some _ q
  obtain ⟨T, id, hT, ht, hg⟩ := hr pins { s3 with heap := s3.heap.push { cls := .type "slice", data := .fields #[vl, vu, .none] } } σ H3 x v vl vu l u s3.heap.objs.size Q I4 r1 (Heap.IsSliceOf.new ..) pl pu q3
  show wpAny (model X.prog X.w) X.A (subscriptTail e (.Slice lo hi none p2) v (.ref s3.heap.objs.size)) (EP X pins σ Q) X.xe { s3 with heap := s3.heap.push { cls := .type "slice", data := .fields #[vl, vu, .none] } }
  exact tail_any (ops := [.ref s3.heap.objs.size, v]) ht hT hg (by with_unfolding_all rfl)

def cutV (xs : List V) (lo hi : Option Int) : List V := (xs.drop (HT.sIx xs.length 0 lo)).take (HT.sIx xs.length xs.length hi - HT.sIx xs.length 0 lo)
theorem cutV_length (xs : List V) (lo hi : Option Int) : (cutV xs lo hi).length ≤ xs.length := by
  unfold cutV
  rw [List.length_take, List.length_drop]
  omega
def rSlT (K : PySem.W.Frag) : V → Option Int → Option Int → Hp → VK → Prop := fun x lo hi H Q => ∃ a xs, x = .ref a ∧ SqT K H a xs ∧
  ¬ (HT.sIx xs.length 0 lo = 0 ∧ HT.sIx xs.length xs.length hi = xs.length) ∧ ∀ p, H p = none → Q (.ref p) (upd H p (.tup (cutV xs lo hi)))

/-! ### t < u, t + u -/
def rLtT (K : PySem.W.Frag) : R2 := fun x y H Q => ∃ a b ns ms, x = .ref a ∧ y = .ref b ∧ SqT K H a (ns.map V.int) ∧ SqT K H b (ms.map V.int) ∧ Q (.bl (HT.lexLt ns ms)) H
def rCatT (K : PySem.W.Frag) : R2 := fun x y H Q => ∃ a b xs ys, x = .ref a ∧ y = .ref b ∧ SqT K H a xs ∧ SqT K H b ys ∧ xs ≠ [] ∧ xs.length + ys.length ≤ sizeLine ∧
  (ys = [] → Q (.ref a) H) ∧ (ys ≠ [] → ∀ p, H p = none → Q (.ref p) (upd H p (.tup (xs ++ ys))))
end
end L2

namespace L2
open PySem PySem.Spec PyProof.Rows

/-! ### places -/
def ixN (n : Nat) (i : Int) : Option Nat := if 0 ≤ i then (if i < n then some i.toNat else none) else if -(n : Int) ≤ i then some (i + n).toNat else none
def atI {α : Type} (xs : List α) (i : Int) : Option α := (ixN xs.length i).bind fun j => xs[j]?
theorem ixN_seq {n : Nat} {i : Int} {j : Nat} (h : ixN n i = some j) : seqIndex? i n = some j ∧ j < n ∧ -(n : Int) ≤ i ∧ i < n := by
  unfold ixN at h
  by_cases h0 : 0 ≤ i
  · rw [if_pos h0] at h
    by_cases h1 : i < n
    · rw [if_pos h1] at h
      have e : i.toNat = j := Option.some.inj h
      exact ⟨by rw [seqIndex_of h0 h1, e], by omega, by omega, h1⟩
    · rw [if_neg h1] at h; cases h
  · rw [if_neg h0] at h
    by_cases h1 : -(n : Int) ≤ i
    · rw [if_pos h1] at h
      have e : (i + n).toNat = j := Option.some.inj h
      exact ⟨by rw [seqIndex_neg (by omega) h1, e], by omega, h1, by omega⟩
    · rw [if_neg h1] at h; cases h
theorem atI_get {α : Type} {xs : List α} {i : Int} {v : α} (h : atI xs i = some v) : ∃ j, seqIndex? i xs.length = some j ∧ xs[j]? = some v ∧ j < xs.length ∧ -(xs.length : Int) ≤ i ∧ i < xs.length := by
  unfold atI at h
  cases e : ixN xs.length i with
  | none => rw [e] at h; cases h
  | some j =>
    rw [e] at h
    obtain ⟨h1, h2, h3, h4⟩ := ixN_seq e
    exact ⟨j, h1, h, h2, h3, h4⟩
theorem atI_nat {α : Type} {xs : List α} {j : Nat} {v : α} (h : xs[j]? = some v) : atI xs (j : Int) = some v := by
  have hj : j < xs.length := (List.getElem?_eq_some_iff.mp h).1
  have e : ixN xs.length (j : Int) = some j := by
    unfold ixN
    rw [if_pos (by omega), if_pos (by omega)]; simp
  unfold atI; rw [e]; exact h
theorem atI_last {α : Type} (xs : List α) (v : α) : atI (xs ++ [v]) (-1) = some v := by
  have hl : (xs ++ [v]).length = xs.length + 1 := by simp
  have e : ixN (xs ++ [v]).length (-1) = some xs.length := by
    unfold ixN
    rw [hl, if_neg (by decide), if_pos (by omega)]
    congr 1
    omega
  unfold atI
  rw [e]
  show (xs ++ [v])[xs.length]? = some v
  simp

/-! ### what may be subscripted -/
def PlainIx (b : Expr) : Prop := ∀ o i, subscripted b false o i = operate [o, i] (getItem o i)
def IxR (X : Cx) (r : R2) : Prop :=
  ∀ (value slice : Expr) (pins : List (Addr × Obj)) (s : Shared) (σ : St) (H : Hp) (x y : V) (v u : Value) (Q : VK), Inv X pins σ H s → RelV x v → RelV y u → r x y H Q →
    subscripted slice false v u = operate [v, u] (getItem v u) → wpAny (model X.prog X.w) X.A (subscriptTail value slice v u) (EP X pins σ Q) X.xe s
def MtR (X : Cx) (id : String) (r : V → List V → Hp → VK → Prop) : Prop :=
  ∀ (pins : List (Addr × Obj)) (s : Shared) (σ : St) (H : Hp) (x : V) (xs : List V) (v : Value) (us : List Value) (Q : VK), Inv X pins σ H s → RelV x v → Vals xs us → r x xs H Q →
    wpAny (model X.prog X.w) X.A (call (.builtin id) (v :: us)) (EP X pins σ Q) X.xe s
section
variable {X : Cx} {a b : Expr} {ta tb : TE} {pos : Pos}
theorem pe_ix {r : R2} (hr : IxR X r) (ha : PE X a ta) (hb : PE X b tb) (hs : PlainIx b) : PE X (.Subscript a b pos) (tOp r ta tb) := by
  intro pins s σ H Q I h
  exact Subscript_ (binT ha hb I h fun v u s2 x y H2 I2 rx ry q => hr a b pins s2 σ H2 x y v u Q I2 rx ry q (hs _ _))

def rIxL (K : PySem.W.Frag) : R2 := fun x y H Q => ∃ p xs i v, x = .ref p ∧ y = .int i ∧ SqL K H p xs ∧ atI xs i = some v ∧ Q v H
def rIxT (K : PySem.W.Frag) : R2 := fun x y H Q => ∃ p xs i v, x = .ref p ∧ y = .int i ∧ SqT K H p xs ∧ atI xs i = some v ∧ Q v H
def rIxS : R2 := fun x y H Q => ∃ z i c, x = .str z ∧ y = .int i ∧ z.length ≤ sizeLine ∧ atI z.cps.toList i = some c ∧ Q (.str ⟨#[c]⟩) H
theorem ix_list : IxR X (rIxL X.K) := by
  intro value slice pins s σ H x y v u Q I rx ry h hs
  obtain ⟨p, xs, i, z, rfl, rfl, hq, he, q⟩ := h
  cases rx
  obtain ⟨t, rfl⟩ := ry
  obtain ⟨its, r, pl, hz⟩ := I.list hq
  obtain ⟨j, h1, h2, h3, h4, h5⟩ := atI_get he
  obtain ⟨w, ew, rw'⟩ := r.get h2
  have hl := r.length
  have hn := line63
  have fin : EP X pins σ Q w s := ⟨z, H, I, rw', q⟩
  by_cases h0 : 0 ≤ i
  · have hj : i.toNat = j := by
      rw [seqIndex_of h0 h5] at h1
      exact Option.some.inj h1
    exact item_listR pl.isList h0 (by omega) (by rw [hj]; simpa using ew) fin hs
  · have hj : (i + (its.toArray.size : Int)).toNat = j := by
      rw [seqIndex_neg (by omega) h4] at h1
      rw [List.size_toArray, ← hl]
      exact Option.some.inj h1
    exact subscriptTail_builtinR (x := w) pl.isList.typeIs slot_list_getitem.lookup
      (wpAny_getItem_list_neg (Q := fun r s' => r = w ∧ EP X pins σ Q r s') pl.isList (by omega) (by rw [List.size_toArray] <;> omega) (by omega) (by rw [hj]; simpa using ew) ⟨rfl, fin⟩) hs
theorem ix_tup : IxR X (rIxT X.K) := by
  intro value slice pins s σ H x y v u Q I rx ry h hs
  obtain ⟨p, xs, i, z, rfl, rfl, hq, he, q⟩ := h
  cases rx
  obtain ⟨t, rfl⟩ := ry
  obtain ⟨its, r, pl, hz⟩ := I.tuple hq
  obtain ⟨j, h1, h2, h3, h4, h5⟩ := atI_get he
  obtain ⟨w, ew, rw'⟩ := r.get h2
  have hl := r.length
  have hn := line63
  have fin : EP X pins σ Q w s := ⟨z, H, I, rw', q⟩
  exact subscriptTail_builtinR (x := w) pl.typeIs slot_tuple_getitem.lookup
    (getItem_tuple (j := j) (Q := fun r s' => r = w ∧ EP X pins σ Q r s') pl (by omega) (by omega) (by rw [List.size_toArray, ← hl]; exact h1) (by simpa using ew) ⟨rfl, fin⟩) hs
def rIx (K : PySem.W.Frag) : R2 := fun x y H Q => rIxL K x y H Q ∨ rIxT K x y H Q ∨ rIxS x y H Q

/-! ### xs[i] = v, any sign -/
theorem mapSeq_set (its : List Value) (n j : Nat) (u : Value) : Obj.mapSeq (·.setIfInBounds j u) { cls := .type "list", data := .seq its.toArray n } = { cls := .type "list", data := .seq (its.set j u).toArray n } := by
  simp [Obj.mapSeq]
theorem Inv.lst {pins : List (Addr × Obj)} {σ : St} {H : Hp} {s : Shared} {p : Addr} {xs : List V} (I : Inv X pins σ H s) (h : H p = some (.lst xs)) :
    ∃ (its : List Value) (n : Nat), Vals xs its ∧ s.heap.get? p = some { cls := .type "list", data := .seq its.toArray n } ∧ xs.length ≤ sizeLine := by
  obtain ⟨z, its, n, r, e⟩ := I.hok p _ h
  exact ⟨its, n, r, e, z⟩
theorem Inv.lstUpd {pins : List (Addr × Obj)} {σ : St} {H : Hp} {s : Shared} {p : Addr} {xs ys : List V} {its its' : List Value} {n n' : Nat} {f : Obj → Obj} (I : Inv X pins σ H s) (h : H p = some (.lst xs))
    (ho : s.heap.get? p = some { cls := .type "list", data := .seq its.toArray n }) (hf : f { cls := .type "list", data := .seq its.toArray n } = { cls := .type "list", data := .seq its'.toArray n' }) (r : Vals ys its') (hz : ys.length ≤ sizeLine) (t : Nat) :
    Inv X pins σ (upd H p (.lst ys)) { s with heap := s.heap.update p f, toks := t } := by
  have e : (s.heap.update p f).get? p = some { cls := .type "list", data := .seq its'.toArray n' } := by
    rw [Heap.get?_update_self f ho (by rw [hf] <;> rfl), hf]
  refine I.write (x := p) (e := p) (by rw [h]; trivial) (.inl rfl) (fun b u hb q => (Heap.get?_update_other _ _ (Ne.symm hb)).trans q) ⟨_, e⟩ ?_
  exact ⟨hz, its', n', r, e⟩
def rSetL : V → V → V → Hp → (Hp → Prop) → Prop := fun o i v H Q => ∃ p xs k j, o = .ref p ∧ i = .int k ∧ H p = some (.lst xs) ∧ ixN xs.length k = some j ∧ Q (upd H p (.lst (xs.set j v)))
theorem set_list : PSet X rSetL := by
  intro pins s σ H o i v ov iv u Q I ro ri rv h
  obtain ⟨p, xs, k, j, rfl, rfl, hp, hj, q⟩ := h
  cases ro
  obtain ⟨t, rfl⟩ := ri
  obtain ⟨its, n, r, ho, hz⟩ := I.lst hp
  obtain ⟨h1, h2, h3, h4⟩ := ixN_seq hj
  have hl := r.length
  have hn := line63
  have I' : Inv X pins σ (upd H p (.lst (xs.set j v))) { s with heap := s.heap.update p (Obj.mapSeq (·.setIfInBounds j u)) } :=
    I.lstUpd hp ho (mapSeq_set its n j u) (r.set rv j) (by rw [List.length_set]; exact hz) s.toks
  by_cases h0 : 0 ≤ k
  · have hk : k.toNat = j := by
      rw [seqIndex_of h0 h4] at h1
      exact Option.some.inj h1
    exact PySem.W.ki_setAt ho h0 (by omega) (by rw [List.size_toArray, ← hl]; exact h4) (by rw [hk]; exact ⟨_, I', q⟩)
  · have hk : (k + (its.toArray.size : Int)).toNat = j := by
      rw [seqIndex_neg (by omega) h3] at h1
      rw [List.size_toArray, ← hl]
      exact Option.some.inj h1
    exact PySem.W.ki_setBack ho (by omega) (by rw [List.size_toArray, ← hl]; exact h3) (by omega) (by rw [hk]; exact ⟨_, I', q⟩)

/-! ### slices -/
theorem slice_bounds (lo hi : Option Int) (n : Nat) : (sliceBounds lo hi none n).1 = ((HT.sIx n 0 lo : Nat) : Int) ∧ (sliceBounds lo hi none n).2.1 = ((HT.sIx n n hi : Nat) : Int) ∧ (sliceBounds lo hi none n).2.2 = 1 := by
  refine ⟨?_, ?_, rfl⟩
  · cases lo with
    | none => simp [sliceBounds, HT.sIx]
    | some i =>
      simp only [sliceBounds, HT.sIx, Option.getD_none, show (1 : Int) > 0 by decide, if_true]
      by_cases h : i < 0
      · simp only [h, if_true] <;> omega
      · simp only [h, if_false] <;> omega
  · cases hi with
    | none => simp [sliceBounds, HT.sIx]
    | some i =>
      simp only [sliceBounds, HT.sIx, Option.getD_none, show (1 : Int) > 0 by decide, if_true]
      by_cases h : i < 0
      · simp only [h, if_true] <;> omega
      · simp only [h, if_false] <;> omega
theorem slicePick_cut (its : List Value) (lo hi : Option Int) : slicePick its.toArray lo hi none = ((its.drop (HT.sIx its.length 0 lo)).take (HT.sIx its.length its.length hi - HT.sIx its.length 0 lo)).toArray := by
  obtain ⟨h1, h2, h3⟩ := slice_bounds lo hi its.toArray.size
  unfold slicePick
  rw [h1, h2, h3]
  simp only [sliceRange_one, pick_run, List.size_toArray] <;> rfl
def rSlL (K : PySem.W.Frag) : V → Option Int → Option Int → Hp → VK → Prop := fun x lo hi H Q => ∃ a xs, x = .ref a ∧ SqL K H a xs ∧ ∀ p, H p = none → Q (.ref p) (upd H p (.lst (cutV xs lo hi)))
theorem sl_list : SlR X (rSlL X.K) := by
  intro pins s σ H x v vl vu lo hi sl Q I rx hs pl pu h
  obtain ⟨a, xs, rfl, hx, q⟩ := h
  cases rx
  obtain ⟨its, r, ht, hz⟩ := I.list hx
  have hlen := r.length
  refine ⟨"list", _, slot_list_getitem.lookup, ht.isList.typeIs, ?_⟩
  refine wpAny_getItem_list_slice ht.isList hs pl pu .none (by simp) ?_ (by rw [List.size_toArray] <;> omega)
  rw [slicePick_cut, ← hlen]
  refine ⟨.ref s.heap.objs.size, _, I.laid (t' := s.toks) (o := .lst (cutV xs lo hi)) (fun b ob q => Heap.get?_push_of_some _ q) (Nat.le_refl _) ?_, rfl, q _ (I.hok.fresh (Nat.le_refl _))⟩
  exact ⟨Nat.le_trans (cutV_length xs lo hi) hz, _, 0, (r.drop (HT.sIx xs.length 0 lo)).take (HT.sIx xs.length xs.length hi - HT.sIx xs.length 0 lo), Heap.get?_push_size _ rfl⟩

/-! ### in, not in: flat items -/
def flatV : V → Bool
  | .non => true
  | .bl _ => true
  | .int _ => true
  | .str _ => true
  | _ => false
def eqV : V → V → Bool
  | .non, .non => true
  | .bl a, .bl b => a == b
  | .bl a, .int b => (if a then 1 else 0) == b
  | .int a, .bl b => a == (if b then 1 else 0)
  | .int a, .int b => a == b
  | .str a, .str b => a == b
  | _, _ => false
def eqU (x : V) (u : Value) : Bool := match u with
  | .none => eqV .non x
  | .bool b => eqV (.bl b) x
  | .int i _ => eqV (.int i) x
  | .str z _ => eqV (.str z) x
  | _ => false
def inV (x : V) (xs : List V) : Bool := xs.any fun y => eqV y x
def rIn (K : PySem.W.Frag) (neg : Bool) : R2 := fun x y H Q => ∃ p xs, y = .ref p ∧ (SqL K H p xs ∨ SqT K H p xs) ∧ flatV x = true ∧ xs.all flatV = true ∧ Q (.bl (if neg then !inV x xs else inV x xs)) H

/-! ### len, list(x), tuple(x) of any list or tuple that is read -/
theorem call_len_seq : CallR X (.builtin "len") (fun xs H Q => ∃ p ys, xs = [.ref p] ∧ (SqL X.K H p ys ∨ SqT X.K H p ys) ∧ Q (.int ys.length) H) := by
  intro pins s σ H xs us Q I r h
  obtain ⟨p, ys, rfl, hq, q⟩ := h
  obtain ⟨u, rfl, rx⟩ := vals1 r
  cases rx
  have hn := line63
  rcases hq with hq | hq
  · obtain ⟨its, r', pl, hz⟩ := I.list hq
    have hlen := r'.length
    exact Calls.call_len_list pl.isList (by simp only [List.size_toArray] <;> omega) ⟨.int ys.length, H, I.tok _, ⟨s.toks + 1, by rw [List.size_toArray, hlen]⟩, q⟩
  · obtain ⟨its, r', pl, hz⟩ := I.tuple hq
    have hlen := r'.length
    exact len_tuple pl (by simp only [List.size_toArray] <;> omega) ⟨.int ys.length, H, I.tok _, ⟨s.toks + 1, by rw [List.size_toArray, hlen]⟩, q⟩
theorem call_list_of : CallR X (.type "list") (fun xs H Q => ∃ p ys, xs = [.ref p] ∧ (SqL X.K H p ys ∨ SqT X.K H p ys) ∧ ∀ l, H l = none → Q (.ref l) (upd H l (.lst ys))) := by
  intro pins s σ H xs us Q I r h
  obtain ⟨p, ys, rfl, hq, q⟩ := h
  obtain ⟨u, rfl, rx⟩ := vals1 r
  cases rx
  have fin : ∀ (its : List Value), Vals ys its → ys.length ≤ sizeLine → ∀ (h' : Heap) (c' : Nat), (∀ b o', s.heap.get? b = some o' → h'.get? b = some o') →
      h'.get? s.heap.objs.size = some { cls := .type "list", dict := none, data := .seq its.toArray c', slots := #[] } → EP X pins σ Q (.ref s.heap.objs.size) { s with heap := h' } := fun its r' hz h' c' kp e =>
    ⟨.ref s.heap.objs.size, _, I.laid (t' := s.toks) kp (Nat.le_refl _) (show ObjOk X.prog X.w _ h' _ (.lst ys) from ⟨hz, its, c', r', e⟩), rfl, q _ (I.hok.fresh (Nat.le_refl _))⟩
  rcases hq with hq | hq
  · obtain ⟨its, r', pl, hz⟩ := I.list hq
    have hlen := r'.length
    obtain ⟨o, ho, hc, n, hd⟩ := pl.isList
    exact call_list_seq p (.inl rfl) ho hc hd (fun h' c' kp e => fin its r' hz h' c' kp e) (by simp only [List.size_toArray] <;> omega)
  · obtain ⟨its, r', pl, hz⟩ := I.tuple hq
    have hlen := r'.length
    obtain ⟨o, ho, hc, n, hd⟩ := pl
    exact call_list_seq p (.inr rfl) ho hc hd (fun h' c' kp e => fin its r' hz h' c' kp e) (by simp only [List.size_toArray] <;> omega)

/-! ### the call of a builtin's method: o.m(..) -/
def tyV (K : PySem.W.Frag) (T : String) (x : V) (H : Hp) : Prop := match x with
  | .str _ => T = "str"
  | .int _ => T = "int"
  | .ref p => (T = "list" ∧ ∃ xs, SqL K H p xs) ∨ (T = "tuple" ∧ ∃ o, K.lookup p = some o ∧ o.cls = .type "tuple" ∧ o.dict = none) ∨
      (T = "dict" ∧ ((∃ kvs, H p = some (.dK kvs)) ∨ ∃ kvs, H p = some (.dT kvs))) ∨ (T = "set" ∧ ∃ S n, H p = some (.set S n))
  | _ => False
theorem tyV_is {pins : List (Addr × Obj)} {σ : St} {H : Hp} {s : Shared} {T : String} {x : V} {v : Value} (I : Inv X pins σ H s) (r : RelV x v) (ty : tyV X.K T x H) :
    s.TypeIs v T ∧ ∀ a, v = .ref a → ∃ ob, s.heap.get? a = some ob ∧ ob.dict = none := by
  cases x with
  | str z =>
    obtain ⟨t, rfl⟩ := r
    cases (show T = "str" from ty)
    exact ⟨typeIs_str s z t, fun _ e => nomatch e⟩
  | int i =>
    obtain ⟨t, rfl⟩ := r
    cases (show T = "int" from ty)
    exact ⟨typeIs_int s i t, fun _ e => nomatch e⟩
  | ref p =>
    cases r
    rcases ty with ⟨rfl, xs, hq⟩ | ⟨rfl, o, hk, hc, hd⟩ | ⟨rfl, hk⟩ | ⟨rfl, S, n, hk⟩
    · obtain ⟨its, _, pl, _⟩ := I.list hq
      refine ⟨pl.isList.typeIs, fun a e => ?_⟩
      cases e
      obtain ⟨o, n, e, c, hd, _⟩ := pl
      exact ⟨o, e, hd⟩
    · refine ⟨⟨o, I.kIn p o hk, hc⟩, fun a e => ?_⟩
      cases e
      exact ⟨o, I.kIn _ o hk, hd⟩
    · have z : ∃ o, s.heap.get? p = some o ∧ o.ExactDict := by
        rcases hk with ⟨kvs, hk⟩ | ⟨kvs, hk⟩
        · obtain ⟨_, _, _, _, o, _, _, e, ex, _⟩ := I.hok p _ hk
          exact ⟨o, e, ex⟩
        · obtain ⟨_, _, _, _, o, _, _, e, ex, _⟩ := I.hok p _ hk
          exact ⟨o, e, ex⟩
      obtain ⟨o, e, ex⟩ := z
      refine ⟨⟨o, e, ex.1⟩, fun a e2 => ?_⟩
      cases e2
      exact ⟨o, e, ex.2.1⟩
    · obtain ⟨o, _, _, _, e, ex, _⟩ := I.hok p _ hk
      refine ⟨⟨o, e, ex.1⟩, fun a e2 => ?_⟩
      cases e2
      exact ⟨o, e, ex.2.1⟩
  | _ => exact False.elim ty
def tBM0 (K : PySem.W.Frag) (T : String) (r : V → List V → Hp → VK → Prop) (to : TE) : TE := fun σ H Q => to σ H fun x H1 => tyV K T x H1 ∧ r x [] H1 Q
def tBM (K : PySem.W.Frag) (T : String) (r : V → List V → Hp → VK → Prop) (to : TE) (t : TA) : TE := fun σ H Q => to σ H fun x H1 => tyV K T x H1 ∧ t σ H1 fun xs H2 => r x xs H2 Q
variable {o e : Expr} {es : List Expr} {to : TE} {t : TA} {name : Str} {apos cpos : Pos} {T id : String} {r : V → List V → Hp → VK → Prop}
theorem pe_bm (pa : PlainAttrs T) (slot : Slot T name id) (hty : typeOf (.builtin id) = pure (.type "method_descriptor")) (hm : MtR X id r) (ho : PE X o to) (ha : PA X (e :: es) t)
    (hbase : attributeBase o name X.env (eval o X.env) = eval o X.env := by rfl)
    (hfew : ((backTo cpos (starEach (e :: es) X.env)).all (fun x => !x.1) && (backToKw cpos (keywordEach [] X.env)).all (fun x => x.1.isSome)
      && decide ((e :: es).length + ([] : List Keyword).length + (if ([] : List Keyword).isEmpty then 0 else 1) < 30)) = true := by rfl)
    (hline : (apos.endLine == cpos.line) = true := by rfl) (hs : starEach (e :: es) X.env = (false, eval e X.env) :: starEach es X.env := by rfl) (hplain : (backTo cpos (starEach es X.env)).any (·.1) = false := by rfl) :
    PE X (.Call (.Attribute o name apos) (e :: es) [] cpos) (tBM X.K T r to t) := by
  intro pins s σ H Q I h
  refine wpAny_Call_method_late hbase hfew hline rfl (thn (ho pins s σ H _ I h) fun v s1 ⟨x, H1, I1, r1, ty, q1⟩ => ?_)
  obtain ⟨h1, h2⟩ := tyV_is I1 r1 ty
  refine ⟨T, id, pa, slot, hty, h1, h2, ?_⟩
  have hA := ha cpos pins s1 σ H1 _ I1 q1
  rw [hs] at hA ⊢
  refine Calls.callWith_builtin (by show (false || (backTo cpos (starEach es X.env)).any (·.1)) = false; rw [hplain] <;> rfl) (Calls.evalArgs_plain ?_)
  exact thn hA fun us s2 ⟨vs, H2, I2, r2, q2⟩ => hm pins s2 σ H2 x vs v us Q I2 r1 r2 q2
/- xs.append(e), list.index on a module's tuple .. are MtR facts of 06m -/
end
end L2

namespace L2
open PySem PySem.Spec PyProof.Rows

def MtM (X : Cx) (id : String) (r : V → List V → Hp → VK → Prop) : Prop :=
  ∀ (pins : List (Addr × Obj)) (s : Shared) (σ : St) (H : Hp) (x : V) (xs : List V) (v : Value) (us : List Value) (Q : VK), Inv X pins σ H s → RelV x v → Vals xs us → r x xs H Q →
    wpAny (model X.prog X.w) X.A (call (.builtin id) (v :: us)) (EP X pins σ Q) X.xe s

/-! ### lists of values -/
theorem Vals.one : ∀ {x : V} {us : List Value}, Vals [x] us → ∃ u, us = [u] ∧ RelV x u
  | _, _, .cons r .nil => ⟨_, rfl, r⟩

section
variable {X : Cx} {pins : List (Addr × Obj)} {σ : St} {H : Hp} {s : Shared} {l b : Addr} {xs ys zs : List V}

/-! ### the two steps: a tracked list is rewritten, a new list is laid -/
theorem Inv.lset {its its' : List Value} {n : Nat} {f : Array Value → Array Value} {t' : Nat} (I : Inv X pins σ H s) (hH : H l = some (.lst xs))
    (e : s.heap.get? l = some { cls := .type "list", data := .seq its.toArray n }) (hf : f its.toArray = its'.toArray) (hv : Vals ys its') (hz : ys.length ≤ sizeLine) :
    Inv X pins σ (upd H l (.lst ys)) { s with heap := s.heap.update l (Obj.mapSeq f), toks := t' } := by
  have q := PySem.IsL.update e f
  rw [hf] at q
  refine I.write (x := l) (e := l) (by rw [hH]; exact trivial) (.inl rfl) (fun b' u hb hu => (Heap.get?_update_other s.heap (Obj.mapSeq f) (Ne.symm hb)).trans hu) ⟨_, q⟩ ?_
  exact ⟨hz, its', _, hv, q⟩
theorem Inv.lnew {its : List Value} {t' : Nat} (I : Inv X pins σ H s) (hv : Vals ys its) (hz : ys.length ≤ sizeLine) :
    Inv X pins σ (upd H s.heap.objs.size (.lst ys)) { s with heap := s.heap.push { cls := .type "list", data := .seq its.toArray }, toks := t' } :=
  I.laid (fun _ _ q => Heap.get?_push_of_some _ q) (Nat.le_refl _) ⟨hz, its, 0, hv, Heap.get?_push_size _ rfl⟩
theorem Inv.fresh (I : Inv X pins σ H s) : H s.heap.objs.size = none := I.hok.fresh (Nat.le_refl _)
theorem Inv.lstM (I : Inv X pins σ H s) (hH : H l = some (.lst xs)) : xs.length ≤ sizeLine ∧ ∃ (its : List Value) (n : Nat), Vals xs its ∧ xs.length = its.length ∧ s.heap.get? l = some { cls := .type "list", data := .seq its.toArray n } := by
  obtain ⟨z, its, n, r, e⟩ := I.hok l _ hH
  exact ⟨z, its, n, r, r.length, e⟩

theorem notLongL {n : Nat} (h : n ≤ sizeLine) : Builtin.List.listTooLong n = false := by
  unfold Builtin.List.listTooLong
  exact decide_eq_false (by omega)
end

section
variable {X : Cx}

/-! ### methods -/
def rAppend : V → List V → Hp → VK → Prop := fun x vs H Q => ∃ l xs y, x = .ref l ∧ vs = [y] ∧ H l = some (.lst xs) ∧ xs.length < sizeLine ∧ Q .non (upd H l (.lst (xs ++ [y])))
theorem mt_append : MtM X "list.append" rAppend := by
  intro pins s σ H x vs v us Q I rx rv h
  obtain ⟨l, xs, y, rfl, rfl, hH, hz, q⟩ := h
  cases rx
  obtain ⟨u, rfl, ru⟩ := rv.one
  obtain ⟨z, its, n, r, hl, e⟩ := I.lstM hH
  refine call_meets F.slot_list_append ⟨_, e, rfl⟩ F.entry_list_append (F.args_list_append_2 _ _) (PySem.list_append l its.toArray n u (by rw [List.size_toArray]; omega)) ⟨e, ?_⟩
  refine ⟨.non, _, I.lset (its' := its ++ [u]) hH e (by simp) (r.append (.cons ru .nil)) ?_, rfl, q⟩
  rw [List.length_append, List.length_singleton]
  omega

def rExtend : V → List V → Hp → VK → Prop := fun x vs H Q => ∃ l b xs zs, x = .ref l ∧ vs = [.ref b] ∧ H l = some (.lst xs) ∧ H b = some (.lst zs) ∧ xs.length + zs.length ≤ sizeLine ∧ Q .non (upd H l (.lst (xs ++ zs)))
theorem mt_extend : MtM X "list.extend" rExtend := by
  intro pins s σ H x vs v us Q I rx rv h
  obtain ⟨l, b, xs, zs, rfl, rfl, hH, hB, hz, q⟩ := h
  cases rx
  obtain ⟨u, rfl, ru⟩ := rv.one
  cases ru
  obtain ⟨z, its, n, r, hl, e⟩ := I.lstM hH
  obtain ⟨z2, its2, n2, r2, hl2, e2⟩ := I.lstM hB
  have hsz : its.toArray.size + its2.toArray.size ≤ sizeLine := by rw [List.size_toArray, List.size_toArray]; omega
  have hlong : ¬ (!its.toArray.isEmpty && Builtin.List.listTooLong (its.toArray.size + its2.toArray.size)) = true := by
    rw [notLongL hsz, Bool.and_false]
    exact Bool.false_ne_true
  refine call_meets F.slot_list_extend ⟨_, e, rfl⟩ F.entry_list_extend (F.args_list_extend_2 _ _)
    (AutoSeq1.list_extend_list_list_0 l its.toArray n b its2.toArray n2 hlong (by rw [List.size_toArray]; omega) (by omega)) ⟨e, e2, ?_⟩
  refine ⟨.non, _, I.lset (its' := its ++ its2) hH e (by simp) (r.append r2) ?_, rfl, q⟩
  rw [List.length_append]
  omega

def rPop : V → List V → Hp → VK → Prop := fun x vs H Q => ∃ l xs y, x = .ref l ∧ vs = [] ∧ H l = some (.lst xs) ∧ xs[xs.length - 1]? = some y ∧ Q y (upd H l (.lst xs.dropLast))

def rPopAt : V → List V → Hp → VK → Prop := fun x vs H Q => ∃ l xs i k y, x = .ref l ∧ vs = [.int i] ∧ H l = some (.lst xs) ∧ -(2 ^ 63) ≤ i ∧ i < 2 ^ 63 ∧ seqIndex? i xs.length = some k ∧ xs[k]? = some y ∧ Q y (upd H l (.lst (xs.eraseIdx k)))

def rReverse : V → List V → Hp → VK → Prop := fun x vs H Q => ∃ l xs, x = .ref l ∧ vs = [] ∧ H l = some (.lst xs) ∧ Q .non (upd H l (.lst xs.reverse))

def rClear : V → List V → Hp → VK → Prop := fun x vs H Q => ∃ l xs, x = .ref l ∧ vs = [] ∧ H l = some (.lst xs) ∧ Q .non (upd H l (.lst []))

/-! ### list + list, list += list, list * int -/
def rCat : R2 := fun x y H Q => ∃ l b xs zs, x = .ref l ∧ y = .ref b ∧ H l = some (.lst xs) ∧ H b = some (.lst zs) ∧ xs.length + zs.length ≤ sizeLine ∧ ∀ p, H p = none → Q (.ref p) (upd H p (.lst (xs ++ zs)))
theorem op_cat : OpR X (binaryOp .Add) rCat := by
  intro pins s σ H x y v u Q I rx ry h
  obtain ⟨l, b, xs, zs, rfl, rfl, hH, hB, hz, q⟩ := h
  cases rx
  cases ry
  obtain ⟨z, its, n, r, hl, e⟩ := I.lstM hH
  obtain ⟨z2, its2, n2, r2, hl2, e2⟩ := I.lstM hB
  refine PySem.P.add_list e e2 ?_ (by rw [List.size_toArray, List.size_toArray]; omega)
  have ea : its.toArray ++ its2.toArray = (its ++ its2).toArray := by simp
  rw [ea]
  exact ⟨.ref _, _, I.lnew (t' := s.toks) (r.append r2) (by rw [List.length_append]; omega), rfl, q _ I.fresh⟩
def rRep : R2 := fun x y H Q => ∃ l k xs, x = .ref l ∧ y = .int k ∧ H l = some (.lst xs) ∧ -(2 ^ 63) ≤ k ∧ k < 2 ^ 63 ∧ xs.length * k.toNat ≤ sizeLine ∧
  ∀ p, H p = none → Q (.ref p) (upd H p (.lst (List.replicate k.toNat xs).flatten))

/-! ### del xs[i] -/
end

/-! ### xs[a:b] = ys -/
section
variable {prog : Program} {w : World} {A : Around} {E : Value → Shared → Prop} {s : Shared}
set_option maxRecDepth 100000 in
end

section
variable {X : Cx}
end
end L2

namespace L2
open PySem PySem.Spec PyProof.Rows

/-! ### lists of pairs as tables -/
section
variable {κ : Type} [DecidableEq κ]
def valV (kvs : List (κ × V)) (k : κ) : Option V := (kvs.find? fun kv => decide (kv.1 = k)).map (·.2)
def putK (kvs : List (κ × V)) (k : κ) (v : V) : List (κ × V) :=
  if (kvs.any fun kv => decide (kv.1 = k)) = true then kvs.map (fun kv => if kv.1 = k then (kv.1, v) else kv) else kvs ++ [(k, v)]
def dropK (kvs : List (κ × V)) (k : κ) : List (κ × V) := kvs.filter fun kv => decide (kv.1 ≠ k)

theorem valV_pos {p : κ × V} {r : List (κ × V)} {k : κ} (e : p.1 = k) : valV (p :: r) k = some p.2 := by simp [valV, List.find?_cons, e]
theorem valV_neg {p : κ × V} {r : List (κ × V)} {k : κ} (e : ¬ p.1 = k) : valV (p :: r) k = valV r k := by simp [valV, List.find?_cons, e]
theorem valV_any (k : κ) : ∀ kvs : List (κ × V), (kvs.any fun kv => decide (kv.1 = k)) = (valV kvs k).isSome
  | [] => rfl
  | p :: r => by
    rw [List.any_cons]
    by_cases e : p.1 = k
    · simp only [valV_pos e, decide_eq_true e, Bool.true_or, Option.isSome_some]
    · rw [valV_neg e, decide_eq_false e, Bool.false_or]; exact valV_any k r
theorem valV_map (k j : κ) (y : V) : ∀ kvs : List (κ × V), valV (kvs.map fun kv => if kv.1 = k then (kv.1, y) else kv) j = (valV kvs j).map fun x => if j = k then y else x
  | [] => rfl
  | p :: r => by
    have ih := valV_map k j y r
    rw [List.map_cons]
    by_cases h : p.1 = k
    · rw [if_pos h]
      by_cases e : p.1 = j
      · rw [valV_pos (p := (p.1, y)) e, valV_pos e, Option.map_some, if_pos (e.symm.trans h)]
      · rw [valV_neg (p := (p.1, y)) e, valV_neg e, ih]
    · rw [if_neg h]
      by_cases e : p.1 = j
      · rw [valV_pos (p := p) e, valV_pos e, Option.map_some, if_neg (fun z => h (e.trans z))]
      · rw [valV_neg (p := p) e, valV_neg e, ih]
theorem valV_snoc (k j : κ) (y : V) : ∀ kvs : List (κ × V), valV kvs k = none → valV (kvs ++ [(k, y)]) j = if j = k then some y else valV kvs j
  | [], _ => by
    by_cases e : k = j
    · rw [if_pos e.symm]; exact valV_pos (p := (k, y)) e
    · rw [if_neg (fun z => e z.symm)]; exact valV_neg (p := (k, y)) e
  | p :: r, hn => by
    rw [List.cons_append]
    have hk : ¬ p.1 = k := fun z => by rw [valV_pos z] at hn; cases hn
    rw [valV_neg hk] at hn
    have ih := valV_snoc k j y r hn
    by_cases e : p.1 = j
    · rw [valV_pos e, valV_pos e, if_neg (fun z => hk (e.trans z))]
    · rw [valV_neg e, valV_neg e, ih]
theorem valV_put (kvs : List (κ × V)) (k j : κ) (y : V) : valV (putK kvs k y) j = if j = k then some y else valV kvs j := by
  unfold putK
  by_cases a : (kvs.any fun kv => decide (kv.1 = k)) = true
  · rw [if_pos a, valV_map]
    rw [valV_any] at a
    by_cases e : j = k
    · obtain ⟨x, hx⟩ := Option.isSome_iff_exists.mp a
      rw [if_pos e, e, hx, Option.map_some, if_pos rfl]
    · rw [if_neg e]
      cases valV kvs j with
      | none => rfl
      | some x => rw [Option.map_some, if_neg e]
  · rw [if_neg a]
    refine valV_snoc k j y kvs ?_
    rw [valV_any] at a
    cases q : valV kvs k with
    | none => rfl
    | some x => rw [q] at a; exact (a rfl).elim
theorem length_putK (kvs : List (κ × V)) (k : κ) (v : V) : (putK kvs k v).length ≤ kvs.length + 1 := by
  unfold putK
  split
  · rw [List.length_map]; omega
  · rw [List.length_append, List.length_cons, List.length_nil]; omega
theorem putK_new {kvs : List (κ × V)} {k : κ} (v : V) (h : valV kvs k = none) : putK kvs k v = kvs ++ [(k, v)] := by
  unfold putK
  rw [valV_any, h]
  exact if_neg (by decide)

theorem RelO.isSome_eq {o : Option V} {u : Option Value} (r : RelO o u) : o.isSome = u.isSome := by
  cases o with
  | none => cases u with
    | none => rfl
    | some _ => exact (show False from r).elim
  | some _ => cases u with
    | none => exact (show False from r).elim
    | some _ => rfl
theorem RelO.getD {o : Option V} {u : Option Value} {d : V} {d' : Value} (r : RelO o u) (rd : RelV d d') : RelV (o.getD d) (u.getD d') := by
  cases o with
  | none => cases u with
    | none => exact rd
    | some _ => exact (show False from r).elim
  | some _ => cases u with
    | none => exact (show False from r).elim
    | some _ => exact r

theorem KV.val {kvs : List (κ × V)} {vs : List (κ × Value)} (r : KV kvs vs) (k : κ) : RelO (valV kvs k) (valueAt vs k) := by
  unfold KV at r
  induction r with
  | nil => exact True.intro
  | @cons p q ps qs h t ih =>
    obtain ⟨h1, h2⟩ := h
    by_cases e : p.1 = k
    · have e' : q.1 = k := h1.symm.trans e
      have b : valueAt (q :: qs) k = some q.2 := by simp [valueAt, List.find?_cons, e']
      rw [valV_pos e, b]; exact h2
    · have e' : ¬ q.1 = k := fun z => e (h1.trans z)
      have b : valueAt (q :: qs) k = valueAt qs k := by simp [valueAt, List.find?_cons, e']
      rw [valV_neg e, b]; exact ih
theorem KV.any {kvs : List (κ × V)} {vs : List (κ × Value)} (r : KV kvs vs) (k : κ) : (kvs.any fun kv => decide (kv.1 = k)) = vs.any fun kv => decide (kv.1 = k) := by
  unfold KV at r
  induction r with
  | nil => rfl
  | cons h t ih => rw [List.any_cons, List.any_cons, ih, h.1]
theorem KV.repl {kvs : List (κ × V)} {vs : List (κ × Value)} (r : KV kvs vs) (k : κ) {y : V} {u : Value} (ry : RelV y u) :
    KV (kvs.map fun kv => if kv.1 = k then (kv.1, y) else kv) (vs.map fun kv => if kv.1 = k then (kv.1, u) else kv) := by
  unfold KV at r ⊢
  induction r with
  | nil => exact .nil
  | @cons p q ps qs h t ih =>
    rw [List.map_cons, List.map_cons]
    refine .cons ?_ ih
    obtain ⟨h1, h2⟩ := h
    by_cases e : p.1 = k
    · rw [if_pos e, if_pos (h1.symm.trans e)]; exact ⟨h1, ry⟩
    · rw [if_neg e, if_neg (fun z => e (h1.trans z))]; exact ⟨h1, h2⟩
theorem KV.put {kvs : List (κ × V)} {vs : List (κ × Value)} (r : KV kvs vs) (k : κ) {y : V} {u : Value} (ry : RelV y u) : KV (putK kvs k y) (stored vs k u) := by
  unfold putK stored
  rw [r.any k]
  by_cases e : (vs.any fun kv => decide (kv.1 = k)) = true
  · rw [if_pos e, if_pos e]; exact r.repl k ry
  · rw [if_neg e, if_neg e]; exact Paired.snoc r ⟨rfl, ry⟩
theorem KV.length {kvs : List (κ × V)} {vs : List (κ × Value)} (r : KV kvs vs) : kvs.length = vs.length := Paired.length r
end


/-! ### a tracked dict, its keys ints and texts or tuples of these -/
theorem kV_is {P : Program} {w : World} {k : Key} {u : Value} (r : RelV (kV k) u) : (mixKind P w).is k u = true := by
  cases k with
  | inl i => obtain ⟨t, e⟩ := (show ∃ t, u = Value.int i t from r); subst e; exact mixKind_int P w i t
  | inr x => obtain ⟨t, e⟩ := (show ∃ t, u = Value.str x t from r); subst e; exact mixKind_str P w x t
theorem items_are {P : Program} {w : World} : ∀ {ks : List Key} {us : List Value}, Vals (ks.map kV) us → ItemsAre (mixKind P w) ks us
  | [], _, r => by rw [List.map_nil] at r; cases r; exact .nil
  | k :: ks, _, r => by
    rw [List.map_cons] at r
    cases r with
    | cons h t => exact .cons (kV_is h) (items_are t)

abbrev KT (H : Hp) : List (List Key × V) → List (List Key × Addr × Value) → Prop := Paired fun p q => p.1 = q.1 ∧ H q.2.1 = some (.tup (p.1.map kV)) ∧ RelV p.2 q.2.2
theorem KT.val {H : Hp} {kvs : List (List Key × V)} {xs : List (List Key × Addr × Value)} (r : KT H kvs xs) (k : List Key) : RelO (valV kvs k) ((atKey xs k).map (·.2)) := by
  induction r with
  | nil => exact True.intro
  | @cons p q ps qs h t ih =>
    obtain ⟨h1, _, h2⟩ := h
    by_cases e : p.1 = k
    · have e' : q.1 = k := h1.symm.trans e
      have b : atKey (q :: qs) k = some q.2 := by simp [atKey, List.find?_cons, e']
      rw [valV_pos e, b]; exact h2
    · have e' : ¬ q.1 = k := fun z => e (h1.trans z)
      have b : atKey (q :: qs) k = atKey qs k := by simp [atKey, List.find?_cons, e']
      rw [valV_neg e, b]; exact ih
theorem KT.repl {H : Hp} {kvs : List (List Key × V)} {xs : List (List Key × Addr × Value)} (r : KT H kvs xs) (k : List Key) {y : V} {u : Value} (ry : RelV y u) :
    KT H (kvs.map fun kv => if kv.1 = k then (kv.1, y) else kv) (xs.map (putAt k u)) := by
  induction r with
  | nil => exact .nil
  | @cons p q ps qs h t ih =>
    rw [List.map_cons, List.map_cons]
    refine .cons ?_ ih
    obtain ⟨h1, h2, h3⟩ := h
    unfold putAt
    by_cases e : p.1 = k
    · rw [if_pos e, if_pos (h1.symm.trans e)]; exact ⟨h1, h2, ry⟩
    · rw [if_neg e, if_neg (fun z => e (h1.trans z))]; exact ⟨h1, h2, h3⟩
theorem KT.put {H : Hp} {kvs : List (List Key × V)} {xs : List (List Key × Addr × Value)} (r : KT H kvs xs) (k : List Key) {b : Addr} {y : V} {u : Value} (hb : H b = some (.tup (k.map kV))) (ry : RelV y u) :
    KT H (putK kvs k y) (storedH xs k b u) := by
  have e : (kvs.any fun kv => decide (kv.1 = k)) = (atKey xs k).isSome := by
    rw [valV_any, (r.val k).isSome_eq, Option.isSome_map]
  unfold putK storedH
  rw [e]
  by_cases q : (atKey xs k).isSome = true
  · rw [if_pos q, if_pos q]; exact r.repl k ry
  · rw [if_neg q, if_neg q]; exact Paired.snoc r ⟨rfl, hb, ry⟩
theorem KT.keeps {H H' : Hp} {kvs : List (List Key × V)} {xs : List (List Key × Addr × Value)} (r : KT H kvs xs) (ht : ∀ b ys, H b = some (.tup ys) → H' b = some (.tup ys)) : KT H' kvs xs :=
  Paired.mapP r fun _ _ z => ⟨z.1, ht _ _ z.2.1, z.2.2⟩

section
variable {P : Program} {w : World} {H : Hp} {h : Heap} {a : Addr}
theorem rd_of {u : HO} (ok : HOk P w H h) (e : Rd H a u) : ObjOk P w H h a u := e.ok ok
theorem dk_rd {kvs : List (Key × V)} (ok : HOk P w H h) (e : Rd H a (.dK kvs)) : kvs.length ≤ sizeLine ∧ (a == sysModules) = false ∧ ∃ vs, KV kvs vs ∧ h.DictOf (mixKind P w) a vs :=
  show ObjOk P w H h a (.dK kvs) from rd_of ok e
theorem dk_of {kvs : List (Key × V)} (ok : HOk P w H h) (e : H a = some (.dK kvs)) : kvs.length ≤ sizeLine ∧ (a == sysModules) = false ∧ ∃ vs, KV kvs vs ∧ h.DictOf (mixKind P w) a vs := dk_rd ok (.inl e)
theorem key_of {ks : List Key} (ok : HOk P w H h) (e : H a = some (.tup (ks.map kV))) : (tupleKind (mixKind P w)).is h ks a := by
  obtain ⟨_, its, r, o, h1, h2, n, h3⟩ := (show ObjOk P w H h a (.tup (ks.map kV)) from ok a _ e)
  exact ⟨o, its.toArray, n, h1, h2, h3, by simpa using items_are r⟩
theorem dt_rd {kvs : List (List Key × V)} (ok : HOk P w H h) (e : Rd H a (.dT kvs)) : kvs.length ≤ sizeLine ∧ (a == sysModules) = false ∧
    ∃ xs, KT H kvs xs ∧ h.DictOfH (tupleKind (mixKind P w)) a xs := by
  obtain ⟨z, y, xs, r, o, es, ep, h1, h2, h3, h4, h5⟩ := (show ObjOk P w H h a (.dT kvs) from rd_of ok e)
  refine ⟨z, y, xs, r, o, es, ep, h1, h2, h3, h4, fun x hx => ?_, h5⟩
  have all : ∀ {l : List (List Key × V)} {m : List (List Key × Addr × Value)}, KT H l m → ∀ x ∈ m, (tupleKind (mixKind P w)).is h x.1 x.2.1 := by
    intro l m q
    induction q with
    | nil => intro x hx; exact nomatch hx
    | @cons p q ps qs hq t ih =>
      intro x hx
      rcases List.mem_cons.mp hx with e | hx
      · subst e
        exact key_of ok (by rw [← hq.1]; exact hq.2.1)
      · exact ih x hx
  exact all r x hx
theorem dt_of {kvs : List (List Key × V)} (ok : HOk P w H h) (e : H a = some (.dT kvs)) : kvs.length ≤ sizeLine ∧ (a == sysModules) = false ∧
    ∃ xs, KT H kvs xs ∧ h.DictOfH (tupleKind (mixKind P w)) a xs := dt_rd ok (.inl e)
end

def DGet (H : Hp) (a : Addr) (y : V) (r : Option V) : Prop :=
  (∃ kvs k, Rd H a (.dK kvs) ∧ y = kV k ∧ r = valV kvs k) ∨ ∃ kvs k b, Rd H a (.dT kvs) ∧ y = .ref b ∧ H b = some (.tup (k.map kV)) ∧ r = valV kvs k
def DPut (H : Hp) (a : Addr) (y v : V) (H' : Hp) : Prop :=
  (∃ kvs k, H a = some (.dK kvs) ∧ y = kV k ∧ kvs.length < sizeLine ∧ H' = upd H a (.dK (putK kvs k v))) ∨
  ∃ kvs k b, H a = some (.dT kvs) ∧ y = .ref b ∧ H b = some (.tup (k.map kV)) ∧ kvs.length < sizeLine ∧ H' = upd H a (.dT (putK kvs k v))
theorem DGet.k {H : Hp} {a : Addr} {kvs : List (Key × V)} {k : Key} (e : H a = some (.dK kvs)) : DGet H a (kV k) (valV kvs k) := .inl ⟨kvs, k, .inl e, rfl, rfl⟩
theorem DPut.k {H : Hp} {a : Addr} {kvs : List (Key × V)} {k : Key} {v : V} (e : H a = some (.dK kvs)) (hl : kvs.length < sizeLine) : DPut H a (kV k) v (upd H a (.dK (putK kvs k v))) := .inl ⟨kvs, k, e, rfl, hl, rfl⟩


section
variable {X : Cx} {pins : List (Addr × Obj)} {σ : St} {H : Hp} {s : Shared} {a : Addr} {y v : V} {u r : Value} {o : Option V} {A : Around} {E : Value → Shared → Prop}

theorem Inv.big (I : Inv X pins σ H s) : sysModules < s.heap.objs.size := by
  have h : mainGlobals < s.heap.objs.size := (I.mod.glob.keeps I.bk).lt
  exact Nat.lt_trans (by decide) h

theorem d_getItem {Q : Value → Shared → Prop} (hu : A.units + 1 < cLine) (I : Inv X pins σ H s) (g : DGet H a y (some v)) (ry : RelV y u) (h : ∀ w' s', Inv X pins σ H s' → RelV v w' → Q w' s') :
    wpAny (model X.prog X.w) A (getItem (.ref a) u) Q E s := by
  rcases g with ⟨kvs, k, e, ey, l⟩ | ⟨kvs, k, b, e, ey, eb, l⟩
  · subst ey
    obtain ⟨z, hd, vs, rel, dd⟩ := dk_rd I.hok e
    obtain ⟨w', hw, rw'⟩ := RelO.some_of (v := v) (o := valueAt vs k) (by rw [l]; exact rel.val k)
    exact wpAny_getItem_of (kV_is ry) dd.mapOf hw (h w' _ (I.tok _) rw')
  · subst ey
    cases (show u = Value.ref b from ry)
    obtain ⟨z, hd, xs, rel, dd⟩ := dt_rd I.hok e
    obtain ⟨w', hw, rw'⟩ := RelO.some_of (v := v) (o := (atKey xs k).map (·.2)) (by rw [l]; exact rel.val k)
    obtain ⟨p, hp, hp2⟩ := Option.map_eq_some_iff.mp hw
    refine wpAny_getItem_heap (tupleKind_room_in1 hu) (key_of I.hok eb) dd hp ?_
    rw [hp2]
    exact h w' _ (I.tok _) rw'
theorem d_in {Q : Value → Shared → Prop} (hu : A.units + 1 < cLine) (I : Inv X pins σ H s) (g : DGet H a y o) (ry : RelV y u) (h : ∀ s', Inv X pins σ H s' → Q (.bool o.isSome) s') :
    wpAny (model X.prog X.w) A (compareOp .In u (.ref a)) Q E s := by
  rcases g with ⟨kvs, k, e, ey, l⟩ | ⟨kvs, k, b, e, ey, eb, l⟩
  · subst ey
    obtain ⟨z, hd, vs, rel, dd⟩ := dk_rd I.hok e
    refine wpAny_in_of (kV_is ry) hd dd.mapOf ?_
    rw [← (rel.val k).isSome_eq, ← l]
    exact h _ (I.tok _)
  · subst ey
    cases (show u = Value.ref b from ry)
    obtain ⟨z, hd, xs, rel, dd⟩ := dt_rd I.hok e
    refine wpAny_in_heap (tupleKind_room_in1 hu) (key_of I.hok eb) hd dd ?_
    have q := (rel.val k).isSome_eq
    rw [Option.isSome_map] at q
    rw [← q, ← l]
    exact h _ (I.tok _)
theorem d_write {h' : Heap} {t' : Nat} {ob : HO} (I : Inv X pins σ H s) (mu : Mut (H a)) (hs : Heap.SameBut a s.heap h') (he : ∃ q, h'.get? a = some q) (new : ObjOk X.prog X.w (upd H a ob) h' a ob) :
    Inv X pins σ (upd H a ob) { s with heap := h', toks := t' } :=
  I.write (x := a) (e := a) mu (.inl rfl) (fun b q hb z => (hs.2 b hb).trans z) he new
theorem dk_new {P : Program} {w : World} {H' : Hp} {h' : Heap} {kvs : List (Key × V)} {vs : List (Key × Value)} (z : kvs.length ≤ sizeLine) (hd : (a == sysModules) = false) (rel : KV kvs vs) (dd : h'.DictOf (mixKind P w) a vs) :
    ObjOk P w H' h' a (.dK kvs) := ⟨z, hd, vs, rel, dd⟩
theorem d_setItem {H' : Hp} {Q : Unit → Shared → Prop} (hu : A.units + 1 < cLine) (I : Inv X pins σ H s) (g : DPut H a y v H') (ry : RelV y u) (rv : RelV v r) (h : ∀ s', Inv X pins σ H' s' → Q () s') :
    wpAny (model X.prog X.w) A (setItem (.ref a) u r) Q E s := by
  rcases g with ⟨kvs, k, e, ey, l, eH⟩ | ⟨kvs, k, b, e, ey, eb, l, eH⟩
  · subst ey eH
    obtain ⟨z, hd, vs, rel, dd⟩ := dk_of I.hok e
    have hz : vs.length ≤ sizeLine := by rw [← rel.length]; exact z
    have hl : (putK kvs k v).length ≤ sizeLine := by have := length_putK kvs k v; omega
    refine wpAny_setItem_pairs (hsz := hz) (kV_is ry) dd fun h' dd' hs => h _ ?_
    have he : ∃ q, h'.get? a = some q := let ⟨q, _, _, hq, _⟩ := dd'; ⟨q, hq⟩
    exact d_write I (by rw [e]; exact True.intro) hs he (dk_new hl hd (rel.put k rv) dd')
  · subst ey eH
    cases (show u = Value.ref b from ry)
    obtain ⟨z, hd, xs, rel, dd⟩ := dt_of I.hok e
    have hz : xs.length ≤ sizeLine := by rw [← Paired.length rel]; exact z
    have hl : (putK kvs k v).length ≤ sizeLine := by have := length_putK kvs k v; omega
    refine wpAny_setItem_heap (hsz := hz) (tupleKind_room_in1 hu) (key_of I.hok eb) dd fun h' dd' hs => h _ ?_
    obtain ⟨q, es, ep, hq, h2, h3, h4, _, h5⟩ := dd'
    refine d_write I (by rw [e]; exact True.intro) hs ⟨q, hq⟩ ⟨hl, hd, _, (rel.put k eb rv).keeps fun c ys ec => ?_, q, es, ep, hq, h2, h3, h4, h5⟩
    rw [upd_ne (ne_of ec e (fun z => nomatch z))]
    exact ec
end

section
variable {X : Cx} {pins : List (Addr × Obj)} {σ : St} {H : Hp} {s : Shared} {a : Addr} {kvs : List (Key × V)} {k : Key} {u : Value} {A : Around} {E : Value → Shared → Prop}
theorem d_len {Q : Value → Shared → Prop} (I : Inv X pins σ H s) (e : Rd H a (.dK kvs)) (h : ∀ t s', Inv X pins σ H s' → Q (.int kvs.length t) s') : wpAny (model X.prog X.w) A (call (.builtin "len") [.ref a]) Q E s := by
  obtain ⟨z, hd, vs, rel, dd⟩ := dk_rd I.hok e
  refine call_len_dict hd dd (by rw [← rel.length]; rw [sizeLine_eq] at z; omega) ?_
  rw [← rel.length]
  exact h _ _ (I.tok _)
end


/-! ### readings and rules -/
def NoSl (i : Expr) : Prop := ∀ ov iv, subscripted i false ov iv = operate [ov, iv] (getItem ov iv)
theorem subD_of {prog : Program} {w : World} {A : Around} {E : Value → Shared → Prop} {s : Shared} {env : Env} {value slice : Expr} {pos : Pos} {T id : String} {Q : Value → Shared → Prop}
    (hl : typeLookup (.type T) "__getitem__" = pure (some (.builtin id))) (hs : NoSl slice)
    (h : wpAny (model prog w) A (eval value env) (fun o s₁ => wpAny (model prog w) A (eval slice env) (fun i s₂ => s₂.TypeIs o T ∧ wpAny (model prog w) A (getItem o i) Q E s₂) E s₁) E s) :
    wpAny (model prog w) A (eval (.Subscript value slice pos) env) Q E s := by
  refine Subscript_ (wpAny_mono h (fun o s₁ h₁ => wpAny_mono h₁ (fun i s₂ h₂ => ?_) fun _ _ x => x) fun _ _ x => x)
  obtain ⟨hT, h₂⟩ := h₂
  unfold subscriptTail
  refine wpAny_bind ?_
  rw [getitemInPython_of_ne hT.not_modules]
  refine wpAny_bind (wpAny_specialOf hT hl ?_)
  have fin : wpAny (model prog w) A (subscripted slice false o i) (fun r s₃ => wpAny (model prog w) A (letTemporaryGo value o r >>= fun _ => pure r) Q E s₃) E s₂ := by
    rw [hs o i]
    exact wpAny_operating (wpAny_mono h₂ (fun r s₃ h₃ => wpAny_bind (wpAny_letTemporaryGo (wpAny_pure h₃))) fun _ _ x => x)
  first
    | exact wpAny_pure (wpAny_bind fin)
    | exact wpAny_bind (wpAny_pure (wpAny_bind fin))
    | exact wpAny_bind fin

theorem dict_typeIs {X : Cx} {pins : List (Addr × Obj)} {σ : St} {H : Hp} {s : Shared} {a : Addr} {y : V} {o : Option V} (I : Inv X pins σ H s) (g : DGet H a y o) : s.TypeIs (.ref a) "dict" := by
  rcases g with ⟨kvs, k, e, _, _⟩ | ⟨kvs, k, b, e, _, _, _⟩
  · obtain ⟨_, _, vs, _, dd⟩ := dk_rd I.hok e
    exact dd.typeIs
  · obtain ⟨_, _, xs, _, dd⟩ := dt_rd I.hok e
    exact dd.typeIs

def tDGet (td ty : TE) : TE := fun σ H Q => td σ H fun x H1 => ty σ H1 fun y H2 => ∃ a v, x = .ref a ∧ DGet H2 a y (some v) ∧ Q v H2
def tDIn (ty td : TE) : TE := fun σ H Q => ty σ H fun y H1 => td σ H1 fun x H2 => ∃ a o, x = .ref a ∧ DGet H2 a y o ∧ Q (.bl o.isSome) H2
def tDNotIn (ty td : TE) : TE := fun σ H Q => ty σ H fun y H1 => td σ H1 fun x H2 => ∃ a o, x = .ref a ∧ DGet H2 a y o ∧ Q (.bl (!o.isSome)) H2
def sDPut (td ty tv : TE) : TS := fun D σ H => tv σ H fun v H1 => td σ H1 fun x H2 => ty σ H2 fun y H3 => ∃ a H4, x = .ref a ∧ DPut H3 a y v H4 ∧ D.nx σ H4
def sDAug (td ty tv : TE) (rd : V → V → Hp → VK → Prop) : TS := fun D σ H => td σ H fun x H1 => ty σ H1 fun y H2 => ∃ a v, x = .ref a ∧ DGet H2 a y (some v) ∧
  tv σ H2 fun y2 H3 => rd v y2 H3 fun z H4 => ∃ H5, DPut H4 a y z H5 ∧ D.nx σ H5
def sDDel (td ty : TE) : TS := fun D σ H => td σ H fun x H1 => ty σ H1 fun y H2 => ∃ a kvs k, x = .ref a ∧ H2 a = some (.dK kvs) ∧ y = kV k ∧ (valV kvs k).isSome = true ∧ D.nx σ (upd H2 a (.dK (dropK kvs k)))

section
variable {X : Cx} {o i e value : Expr} {pos pos' tpos : Pos} {td ty tv : TE}
theorem pe_dget (hu : X.A.units + 1 < cLine) (ho : PE X o td) (hi : PE X i ty) (hs : NoSl i) : PE X (.Subscript o i pos) (tDGet td ty) := by
  intro pins s σ H Q I h
  refine subD_of PySem.F.slot_dict_getitem.lookup hs (thn (ho pins s σ H _ I h) fun u s1 ⟨x, H1, I1, rx, q1⟩ => thn (hi pins s1 σ H1 _ I1 q1) fun iv s2 ⟨y, H2, I2, ry, a, v, ex, g, q2⟩ => ?_)
  subst ex
  obtain rfl : u = Value.ref a := rx
  exact ⟨dict_typeIs I2 g, d_getItem hu I2 g ry fun w' s3 I3 rw' => ⟨v, H2, I3, rw', q2⟩⟩
theorem pc_din (hu : X.A.units + 1 < cLine) (hi : PE X i ty) (ho : PE X o td) : PC X .In i o (tDIn ty td) := by
  intro pins s σ H Q I h
  refine thn (hi pins s σ H _ I h) fun iv s1 ⟨y, H1, I1, ry, q1⟩ => thn (ho pins s1 σ H1 _ I1 q1) fun u s2 ⟨x, H2, I2, rx, a, ov, ex, g, q2⟩ => ?_
  subst ex
  obtain rfl : u = Value.ref a := rx
  exact d_in hu I2 g ry fun s3 I3 => ⟨.bl ov.isSome, H2, I3, rfl, q2⟩
theorem ps_dput (hu : X.A.units + 1 < cLine) (ho : PE X o td) (hi : PE X i ty) (hv : PE X value tv) (hs : swapsWith value (some (.Subscript o i pos')) pos.line X.env = pure false) :
    PS X (.Assign [.Subscript o i pos'] value pos) (sDPut td ty tv) := by
  intro pins s σ H D I h
  refine wpAny_Assign_Subscript (thn (hv pins s σ H _ I h) fun r s1 ⟨v, H1, I1, rv, q1⟩ => thn (ho pins s1 σ H1 _ I1 q1) fun u s2 ⟨x, H2, I2, rx, q2⟩ => thn (hi pins s2 σ H2 _ I2 q2) fun iv s3 ⟨y, H3, I3, ry, a, H4, ex, g, q3⟩ => ?_) hs
  subst ex
  obtain rfl : u = Value.ref a := rx
  exact d_setItem hu I3 g ry rv fun s4 I4 => ⟨σ, H4, I4, q3⟩
end


/-! ### displays -/
theorem dk_empty {P : Program} {w : World} {H : Hp} (h : Heap) (hb : sysModules < h.objs.size) : ObjOk P w H (h.push { cls := .type "dict", data := .dict #[] }) h.objs.size (.dK []) :=
  ⟨Nat.zero_le _, beq_eq_false_iff_ne.mpr (Ne.symm (Nat.ne_of_lt hb)), [], .nil, Heap.DictOf.new h⟩
def tDNewK : TE := fun _ H Q => ∀ p, H p = none → Q (.ref p) (upd H p (.dK []))
def tDNewT : TE := fun _ H Q => ∀ p, H p = none → Q (.ref p) (upd H p (.dT []))
section
variable {X : Cx} {pos : Pos}
theorem pe_dnewK : PE X (.Dict [] [] pos) tDNewK := fun pins s σ H Q I h =>
  wpAny_Dict_empty ⟨.ref s.heap.objs.size, _, I.laid (a := s.heap.objs.size) (o := .dK []) (t' := s.toks) (fun _ _ q => Heap.get?_push_of_some _ q) (Nat.le_refl _) (dk_empty s.heap I.big), rfl, h _ (I.hok.fresh (Nat.le_refl _))⟩
end

def tPairs : List (TE × TE) → St → Hp → (List (V × V) → Hp → Prop) → Prop
  | [], _, H, Q => Q [] H
  | (tk, tv) :: r, σ, H, Q => tk σ H fun x H1 => tv σ H1 fun y H2 => tPairs r σ H2 fun ps H3 => Q ((x, y) :: ps) H3
abbrev VV : List (V × V) → List (Value × Value) → Prop := Paired fun p q => RelV p.1 q.1 ∧ RelV p.2 q.2
def PPs (X : Cx) (pos : Pos) (keys : List (Option Expr)) (values : List Expr) (trs : List (TE × TE)) : Prop :=
  ∀ (pins : List (Addr × Obj)) (s : Shared) (σ : St) (H : Hp) (Q : List (V × V) → Hp → Prop), Inv X pins σ H s → tPairs trs σ H Q →
    wpAny (model X.prog X.w) X.A (evalPairs (pairTrees keys values X.env pos)) (fun vs s' => ∃ ps H', Inv X pins σ H' s' ∧ VV ps vs ∧ Q ps H') X.xe s
theorem pps_nil {X : Cx} {pos : Pos} : PPs X pos [] [] [] := fun pins s σ H Q I h => pairTrees_nil_walk ⟨[], H, I, .nil, h⟩
theorem pps_cons {X : Cx} {pos : Pos} {k v : Expr} {ks : List (Option Expr)} {vs : List Expr} {tk tv : TE} {trs : List (TE × TE)} (hk : PE X k tk) (hv : PE X v tv) (hr : PPs X pos ks vs trs) :
    PPs X pos (some k :: ks) (v :: vs) ((tk, tv) :: trs) := fun pins s σ H Q I h =>
  pairTrees_cons_walk (thn (hk pins s σ H _ I h) fun u s1 ⟨x, H1, I1, rx, q1⟩ => thn (hv pins s1 σ H1 _ I1 q1) fun w2 s2 ⟨y, H2, I2, ry, q2⟩ =>
    thn (hr pins s2 σ H2 _ I2 q2) fun ws s3 ⟨ps, H3, I3, rel, q3⟩ => ⟨(x, y) :: ps, H3, I3, .cons ⟨rx, ry⟩ rel, q3⟩)

def mergeK (kvs more : List (Key × V)) : List (Key × V) := more.foldl (fun acc kv => putK acc kv.1 kv.2) kvs
theorem KV.merge : ∀ {more : List (Key × V)} {rs : List (Key × Value)} {kvs : List (Key × V)} {vs : List (Key × Value)}, KV more rs → KV kvs vs → KV (mergeK kvs more) (merged vs rs) := by
  intro more rs kvs vs r
  unfold KV at r
  induction r generalizing kvs vs with
  | nil => intro q; exact q
  | @cons p q ps qs h t ih =>
    intro r0
    have e : KV (putK kvs p.1 p.2) (stored vs q.1 q.2) := by
      have := r0.put p.1 h.2
      rw [← h.1]; exact this
    exact ih e
theorem length_mergeK : ∀ (more kvs : List (Key × V)), (mergeK kvs more).length ≤ kvs.length + more.length
  | [], kvs => by show kvs.length ≤ kvs.length + 0; omega
  | p :: r, kvs => by
    have h1 := length_mergeK r (putK kvs p.1 p.2)
    have h2 := length_putK kvs p.1 p.2
    show (mergeK (putK kvs p.1 p.2) r).length ≤ _
    rw [List.length_cons]; omega
theorem carries_of {P : Program} {w : World} : ∀ {kvs : List (Key × V)} {ws : List (Value × Value)}, VV (kvs.map fun kv => (kV kv.1, kv.2)) ws → ∃ rs, Carries (mixKind P w) ws rs ∧ KV kvs rs
  | [], _, r => by rw [List.map_nil] at r; cases r; exact ⟨[], True.intro, .nil⟩
  | p :: kvs, _, r => by
    rw [List.map_cons] at r
    cases r with
    | @cons a b as bs h t =>
      obtain ⟨rs, c, q⟩ := carries_of (P := P) (w := w) t
      obtain ⟨b1, b2⟩ := b
      exact ⟨(p.1, b2) :: rs, ⟨kV_is h.1, rfl, c⟩, .cons ⟨rfl, h.2⟩ q⟩
def tDisp (trs : List (TE × TE)) : TE := fun σ H Q => ∀ p, H p = none → tPairs trs σ (upd H p (.dK [])) fun ps H2 => H2 p = some (.dK []) ∧ ∃ kvs : List (Key × V), ps = kvs.map (fun kv => (kV kv.1, kv.2)) ∧ kvs.length ≤ 15 ∧ Q (.ref p) (upd H2 p (.dK (mergeK [] kvs)))
theorem pe_disp {X : Cx} {pos : Pos} {keys : List (Option Expr)} {values : List Expr} {trs : List (TE × TE)} (h : PPs X pos keys values trs) (hall : keys.all (·.isSome) = true) (hl : keys.length = values.length) (h0 : keys ≠ [])
    (h15 : keys.length ≤ 15) : PE X (.Dict keys values pos) (tDisp trs) := by
  intro pins s σ H Q I q
  have hn := I.hok.fresh (Nat.le_refl s.heap.objs.size)
  have I1 := I.laid (a := s.heap.objs.size) (o := .dK []) (h' := s.heap.push { cls := .type "dict", data := .dict #[] }) (t' := s.toks) (fun _ _ q => Heap.get?_push_of_some _ q) (Nat.le_refl _) (dk_empty s.heap I.big)
  refine wpAny_Dict_walk (knd := mixKind X.prog X.w) hall hl h0 h15 (thn (h pins _ σ _ _ I1 (q _ hn)) fun ws s2 ⟨ps, H2, I2, rel, e, kvs, ep, lk, q2⟩ => ?_)
  subst ep
  obtain ⟨rs, c, rk⟩ := carries_of (P := X.prog) (w := X.w) rel
  obtain ⟨z, hd, vs0, r0, dd⟩ := dk_of I2.hok e
  cases r0
  refine ⟨rs, c, dd, fun h' dd' hs => ⟨.ref s.heap.objs.size, _, ?_, rfl, q2⟩⟩
  have hz : (mergeK [] kvs).length ≤ sizeLine := by
    have h1 := length_mergeK kvs []
    rw [List.length_nil] at h1
    rw [sizeLine_eq]; omega
  have he : ∃ q, h'.get? s.heap.objs.size = some q := let ⟨q, _, _, hq, _⟩ := dd'; ⟨q, hq⟩
  exact d_write I2 (by rw [e]; exact True.intro) hs he (dk_new hz hd (rk.merge .nil) dd')


/-! ### methods -/
structure M1 (X : Cx) (o : Expr) (m : Str) (apos : Pos) (e : Expr) (cpos : Pos) : Prop where
  base : attributeBase o m X.env (eval o X.env) = eval o X.env
  few : ((backTo cpos (starEach [e] X.env)).all (fun x => !x.1) && (backToKw cpos (keywordEach [] X.env)).all (fun x => x.1.isSome)
    && decide (([e] : List Expr).length + ([] : List Keyword).length + (if ([] : List Keyword).isEmpty then 0 else 1) < 30)) = true
  line : (apos.endLine == cpos.line) = true
  trees : backTo cpos (starEach [e] X.env) = [(false, eval e X.env)]
structure M2 (X : Cx) (o : Expr) (m : Str) (apos : Pos) (e f : Expr) (cpos : Pos) : Prop where
  base : attributeBase o m X.env (eval o X.env) = eval o X.env
  few : ((backTo cpos (starEach [e, f] X.env)).all (fun x => !x.1) && (backToKw cpos (keywordEach [] X.env)).all (fun x => x.1.isSome)
    && decide (([e, f] : List Expr).length + ([] : List Keyword).length + (if ([] : List Keyword).isEmpty then 0 else 1) < 30)) = true
  line : (apos.endLine == cpos.line) = true
  trees : backTo cpos (starEach [e, f] X.env) = [(false, eval e X.env), (false, eval f X.env)]

def IsD (H : Hp) (a : Addr) : Prop := (∃ kvs, Rd H a (.dK kvs)) ∨ ∃ kvs, Rd H a (.dT kvs)
theorem isD_at {X : Cx} {pins : List (Addr × Obj)} {σ : St} {H : Hp} {s : Shared} {a : Addr} (I : Inv X pins σ H s) (d : IsD H a) :
    s.TypeIs (.ref a) "dict" ∧ (∀ b, Value.ref a = .ref b → ∃ ob, s.heap.get? b = some ob ∧ ob.dict = none) ∧ (a == sysModules) = false := by
  rcases d with ⟨kvs, e⟩ | ⟨kvs, e⟩
  · obtain ⟨_, hd, vs, _, dd⟩ := dk_rd I.hok e
    refine ⟨dd.typeIs, fun b q => ?_, hd⟩
    cases q
    obtain ⟨ob, _, _, h1, h2, _⟩ := dd
    exact ⟨ob, h1, h2.2.1⟩
  · obtain ⟨_, hd, xs, _, dd⟩ := dt_rd I.hok e
    refine ⟨dd.typeIs, fun b q => ?_, hd⟩
    cases q
    obtain ⟨ob, _, _, h1, h2, _⟩ := dd
    exact ⟨ob, h1, h2.2.1⟩

section
variable {X : Cx} {pins : List (Addr × Obj)} {σ : St} {H : Hp} {s : Shared} {a : Addr} {y d : V} {u r : Value} {o : Option V} {A : Around} {E : Value → Shared → Prop}
theorem d_get2 {Q : Value → Shared → Prop} (hu : A.units + 1 < cLine) (I : Inv X pins σ H s) (g : DGet H a y o) (ry : RelV y u) (rd : RelV d r) (h : ∀ w' s', Inv X pins σ H s' → RelV (o.getD d) w' → Q w' s') :
    wpAny (model X.prog X.w) A (call (.builtin "dict.get") [.ref a, u, r]) Q E s := by
  rcases g with ⟨kvs, k, e, ey, l⟩ | ⟨kvs, k, b, e, ey, eb, l⟩
  · subst ey
    obtain ⟨z, hd, vs, rel, dd⟩ := dk_rd I.hok e
    refine call_meetsIn PySem.F.slot_dict_get dd.typeIs PySem.F.entry_dict_get (PySem.F.args_dict_get_3 _ _ _) (meets_dict_get_default (mixKind X.prog X.w) a (kV_is ry) hd r) ⟨_, dd.mapOf, h _ _ (I.tok _) ?_⟩
    rw [l]
    exact (rel.val k).getD rd
  · subst ey
    cases (show u = Value.ref b from ry)
    obtain ⟨z, hd, xs, rel, dd⟩ := dt_rd I.hok e
    refine call_meetsIn PySem.F.slot_dict_get dd.typeIs PySem.F.entry_dict_get (PySem.F.args_dict_get_3 _ _ _) (meetsH_dict_get_default (tupleKind (mixKind X.prog X.w)) a b hd r) ⟨tupleKind_room_in1 hu, k, xs, key_of I.hok eb, dd, h _ _ (I.tok _) ?_⟩
    rw [l]
    exact (rel.val k).getD rd
end

def tDGet1 (td ty : TE) : TE := fun σ H Q => td σ H fun x H1 => ∃ a, x = .ref a ∧ IsD H1 a ∧ ty σ H1 fun y H2 => ∃ o, DGet H2 a y o ∧ Q (o.getD .non) H2
def tDGet2 (td ty tx : TE) : TE := fun σ H Q => td σ H fun x H1 => ∃ a, x = .ref a ∧ IsD H1 a ∧ ty σ H1 fun y H2 => tx σ H2 fun z H3 => ∃ o, DGet H3 a y o ∧ Q (o.getD z) H3
def tDPop1 (td ty : TE) : TE := fun σ H Q => td σ H fun x H1 => ∃ a, x = .ref a ∧ IsD H1 a ∧ ty σ H1 fun y H2 => ∃ kvs k v, H2 a = some (.dK kvs) ∧ y = kV k ∧ valV kvs k = some v ∧ Q v (upd H2 a (.dK (dropK kvs k)))
def tDPop2 (td ty tx : TE) : TE := fun σ H Q => td σ H fun x H1 => ∃ a, x = .ref a ∧ IsD H1 a ∧ ty σ H1 fun y H2 => tx σ H2 fun z H3 => ∃ kvs k, H3 a = some (.dK kvs) ∧ y = kV k ∧
  (∀ v, valV kvs k = some v → Q v (upd H3 a (.dK (dropK kvs k)))) ∧ (valV kvs k = none → Q z H3)
section
variable {X : Cx} {o e f : Expr} {apos cpos : Pos} {td ty tx : TE}
theorem pe_dget2 (hu : X.A.units + 1 < cLine) (ho : PE X o td) (he : PE X e ty) (hf : PE X f tx) (m : M2 X o "get" apos e f cpos) : PE X (.Call (.Attribute o "get" apos) [e, f] [] cpos) (tDGet2 td ty tx) := by
  intro pins s σ H Q I h
  refine wpAny_Call_method m.base m.few m.line PySem.F.plainAttrs_dict PySem.F.slot_dict_get PySem.F.type_dict_get (thn (ho pins s σ H _ I h) fun u s1 ⟨x, H1, I1, rx, a, ex, d, q1⟩ => ?_)
  subst ex
  obtain rfl : u = Value.ref a := rx
  obtain ⟨t1, t2, _⟩ := isD_at I1 d
  refine ⟨t1, t2, ?_⟩
  rw [m.trees]
  refine Calls.callWith_builtin rfl (Calls.evalArgs_plain (Calls.spliced_cons (thn (he pins s1 σ H1 _ I1 q1) fun iv s2 ⟨y, H2, I2, ry, q2⟩ =>
    Calls.spliced_cons (thn (hf pins s2 σ H2 _ I2 q2) fun fv s3 ⟨z, H3, I3, rz, ov, g, q3⟩ => Calls.spliced_nil ?_))))
  exact d_get2 hu I3 g ry rz fun w' s4 I4 rw' => ⟨_, H3, I4, rw', q3⟩
end

/-! ### dict(d): a copy -/
section
variable {X : Cx} {pins : List (Addr × Obj)} {σ : St} {H : Hp} {s : Shared} {a : Addr} {kvs : List (Key × V)} {A : Around} {E : Value → Shared → Prop}
end


section
variable {X : Cx} {pins : List (Addr × Obj)} {σ : St} {H : Hp} {s : Shared} {a : Addr} {y : V} {u : Value} {A : Around} {E : Value → Shared → Prop}
end
end L2

namespace Att
open PySem PySem.W PySem.Calls PyProof.Rows

/-! ### the script -/
theorem ints_of_wellAll {P : Params} {h : Heap} : ∀ (ns : List Int) (vs : List Value), WellAll P h vs (ns.map WData.int) → IntsAre vs ns := by
  intro ns
  induction ns with
  | nil =>
    intro vs w
    rw [List.map_nil] at w
    cases w
    exact .nil
  | cons n ns ih =>
    intro vs w
    rw [List.map_cons] at w
    cases w with
    | cons a b =>
      cases a
      exact .cons _ _ (ih _ b)

theorem script_of {l : OpenLaw} {n : Nat} (hn : l.most = some n) {P : Params} {h : Heap} {args : List WData} {vals : List Value}
    (hpre : l.row.toRowW.claim.pre args = true) (hwl : WellAll P h vals args) :
    ∃ a vs ns, vals = [Value.ref a] ∧ args = [WData.list (ns.map WData.int)] ∧ h.get? a = some { cls := .type "list", data := .seq vs.toArray } ∧ IntsAre vs ns ∧ ns.length ≤ n := by
  have hsh : WShape.hasAll [] args [.list .int] = true := (pre_splitW hpre).1
  have hc : l.pre.holds [] { args := args } = true := (pre_splitW hpre).2
  obtain ⟨d, r, rfl, h1, h2⟩ := hasAllW_cons hsh
  obtain rfl := hasAllW_nil h2
  obtain ⟨xs, rfl, h3⟩ := hasW_list h1
  obtain ⟨ns, rfl⟩ := items_int h3
  have hlen : ns.length ≤ n := by
    unfold OpenLaw.pre at hc
    have h4 : (WTm.not (.lt (.lit (.int (n : Int))) (.len (.arg 0)))).holds [] { args := [.list (ns.map .int)] } = true := by
      have h4 := (holds_andW hc).1
      rw [hn] at h4
      exact h4
    have h5 := condW_of h4 (w_not (w_lt w_lit (w_len_list (w_arg rfl))))
    rw [List.length_map] at h5
    refine Nat.le_of_not_lt fun q => ?_
    have q' : (n : Int) < ((ns.length : Nat) : Int) := by omega
    first
      | (rw [decide_eq_true q'] at h5; exact absurd h5 (by decide))
      | (simp at h5; omega)
  cases hwl with
  | cons w1 w2 =>
    cases w2
    cases w1 with
    | list ho hall => exact ⟨_, _, ns, rfl, rfl, ho, ints_of_wellAll ns _ hall, hlen⟩

theorem post_true (l : OpenLaw) (args : List WData) : l.row.toRowW.claim.post args (.bool true) args = true :=
  postW_of (r := l.row.toRowW) (X := (true == true))
    (show WShape.has [] (.bool true) .bool = true by first | rfl | decide | simp [WShape.has, WShape.arms, WShape.armsAll])
    (show (WTm.eq .res (.lit (.bool true))).value [] { args := args, res := some (.bool true), after := args } = some (.bool (true == true)) from w_eq_bool (w_res rfl) w_lit) rfl

/-! ### the attachment: holds_open's last premise (the goal 'hc' behind k_head) from a wpAny of the law's body -/



/-! ### rules over ANY heap (no ledger) from facts about the written part K: the library's own take a ledger (News) for what they write -/
section
variable {prog : Program} {w : World} {A : Around} {E : Value → Shared → Prop} {s : Shared} {K : Frag}





/-! the whole heap as the ledger: makes every rule that writes through a ledger a rule over any heap -/
def noObjs (h : Heap) : Heap := { h with objs := #[] }
theorem noObjs_get (h : Heap) (b : Addr) : (noObjs h).get? b = none := by
  cases e : (noObjs h).get? b with
  | none => rfl
  | some o => exact absurd (Heap.lt_size e) (Nat.not_lt_zero _)
def ledger (h : Heap) (L d : Addr) : List (Addr × Obj) := (List.range h.objs.size).filterMap fun a => if a = L ∨ a = d then none else (h.get? a).map fun o => (a, o)
theorem fr_all {h : Heap} {L : Addr} {m : Str → Option Value} (n : h.Ns L m) : Fr (noObjs h) L h m :=
  ⟨n, fun b o e => (by rw [noObjs_get] at e; cases e), Nat.zero_le _⟩

end
end Att

namespace L2
open PySem PySem.Spec PyProof.Rows

theorem vals_ints : ∀ {vs : List Value} {ns : List Int}, IntsAre vs ns → Vals (ns.map V.int) vs
  | _, _, .nil => .nil
  | _, _, .cons n t h => .cons ⟨t, rfl⟩ (vals_ints h)

def Only (H : Hp) : Prop := ∀ b, H b = none ∨ ∃ o xs, H b = some (.frz o (.lst xs))

end L2

namespace L2
open PySem PySem.Spec PyProof.Rows

abbrev KOf {K : PySem.W.Frag} {h : Heap} (_ : K.In h) : PySem.W.Frag := K

end L2

/- THE LAST THEOREM (shape; LID, My.* are yours):
   My.Adr: a structure of the addresses that your layer names (classes, functions); My.Txt K t: a structure (Prop) of the equations over K;
   My.txt_mk : {K} {implicit addresses ..} (e1 : nsIn K mainGlobals "law" = some (some (.ref f))) (e2 : K.lookup f = some ⟨oc, od, .func (fnOf "law" "law" params body scope dV kV doc pm an cdv ct), sl⟩) (e3 : codeIn K cdv "law" = true) .. : ∃ t, My.Txt K t

set_option maxRecDepth 100000 in
set_option maxHeartbeats 0 in
theorem PySem.Challenge.cw_LID_holds : PySem.Challenge.rw_LID.Holds := by
  w_on; o_law; k_head; (case hw => w_witness2)
  k_fill
  refine L2.walk_of (l := PySem.Challenge.rw_LID) (n := 63) (k := 40) (x := "script") (CX := fun w => ..) (sp := fun _ => My.sp_law) rfl (by decide) rfl ⟨rfl, by decide, by decide⟩ (fun w h Y => PySem.W.kIn_of Y) ?F ?S ?C
  case F =>
    intro w mg fa h KX G hmg
    have T : ∃ t, My.Txt (L2.KOf KX) t := by
      dsimp only [L2.KOf]                          -- K must stand as «<heap const> w.params» for k_is
      refine' My.txt_mk ?e1 ?e2 ?e3 ..
      (case e1 => PySem.W.k_is)                    -- in the order: a name -> its address -> its object -> its parts
      (case e2 => PySem.W.k_is)
      ..
    obtain ⟨t, T⟩ := T
    have e0 := hmg.symm.trans (PySem.W.mg_of KX G T.law)
    cases e0                                       -- fa is the law's own address
    exact ⟨_, fun s u => .of_eq rfl, fun base kb nb => My.law_fn T kb nb⟩     -- if «.of_eq rfl» comes too early: refine' ⟨_, ?b, fun base kb nb => My.law_fn T kb nb⟩; exact fun s u => .of_eq rfl
  case S => exact fun w H a ns hl hO hS => ..
  case C => exact ..
(the tactic k_is has no namespace: write k_is) -/

/-! SHORT WORDS over the layer: a def of the text, its body, what a loop and a test want. -/
namespace L2
open PySem PySem.Spec PyProof.Rows

/-! ### the text by places -/
def inClass (s : Stmt) (j : Nat) : Stmt := match s with
  | .ClassDef _ _ _ body _ _ _ _ _ _ _ => body.getD j (.Pass ⟨0, 0, 0, 0⟩)
  | _ => .Pass ⟨0, 0, 0, 0⟩
def defArgs (s : Stmt) : Arguments := match s with
  | .FunctionDef _ a _ _ _ _ _ _ _ _ => a
  | _ => { posonlyargs := [], args := [], vararg := none, kwonlyargs := [], kw_defaults := [], kwarg := none, defaults := [] }
def defBody (s : Stmt) : List Stmt := match s with
  | .FunctionDef _ _ b _ _ _ _ _ _ _ => b
  | _ => []
def defScope (s : Stmt) : Scope := match s with
  | .FunctionDef _ _ _ _ _ _ sc _ _ _ => sc
  | _ => { kind := .function, names := [], isGenerator := false, isCoroutine := false }

/-! ### no exception leaves a def -/
abbrev CX0 : CXT := fun _ _ _ _ _ _ => False
abbrev E0 : XK := fun _ _ _ => False
theorem pass0 {X : Cx} : Passes CX0 X E0 := fun _ _ _ _ _ _ _ h => h.elim

/-! ### a def (or method) of the text as it stands behind the top -/
structure Fun (K : PySem.W.Frag) (x qual : Str) (st : Stmt) (f : Addr) (fd : FuncData) : Prop where
  ex : ∃ (oc : Value) (od : Option Addr) (kV doc pm : Value) (an : Option Addr) (cdv ct : Value) (osl : Array (Option Value)),
    fd = PySem.W.fnOf x qual (defArgs st) (defBody st) (defScope st) .none kV doc pm an cdv ct ∧ K.lookup f = some ⟨oc, od, .func fd, osl⟩ ∧ PySem.W.codeIn K cdv qual = true
  kp : PySem.W.keepIn K (.ref f) = true
section
variable {P : Program} {w : World} {K : PySem.W.Frag} {mg : Str → Option Value} {base : Heap}
theorem Fun.ok {x qual : Str} {st : Stmt} {f : Addr} {fd : FuncData} {N ps : List Str} {k : Nat} {sp : Sp} (F : Fun K x qual st f fd) (S : FnScope N ps (defScope st)) (len : ∀ vs H Q E, sp vs H Q E → vs.length = ps.length)
    (hbody : ∀ (cdv : Value) (A : Around) (outer : List Env) (s : Shared) (H : Hp) (vs : List V) (Q : VK) (E : XK), Room k (A.deeper (envOfC qual (defScope st) s.heap.objs.size f cdv)) → sp vs H Q E →
      ∃ t, PSs (cxOf CX0 P w K mg base N qual (defScope st) f cdv A outer s H E).nox (defBody st) t ∧ t { nx := fun _ H' => Q .non H', rt := Q } (start N vs) H) : FnOk P w K mg base CX0 (k + 1) f fd ps sp := by
  obtain ⟨oc, od, kV, doc, pm, an, cdv, ct, osl, rfl, lk, hcd⟩ := F.ex
  refine fn_of lk hcd S len fun A outer s H vs Q E hr hsp => ?_
  obtain ⟨t, h, q⟩ := hbody cdv A outer s H vs Q E hr hsp
  exact ⟨t, h.nox, q⟩
theorem Fun.binds {x qual : Str} {st : Stmt} {f : Addr} {fd : FuncData} {ps : List Str} (F : Fun K x qual st f fd)
    (h : ∀ (kV doc pm : Value) (an : Option Addr) (cdv ct : Value) (us : List Value), us.length = ps.length → bindArgs (PySem.W.fnOf x qual (defArgs st) (defBody st) (defScope st) .none kV doc pm an cdv ct) ⟨us, []⟩ = pure (ps.zip us)) : Binds K fd ps [] := by
  obtain ⟨oc, od, kV, doc, pm, an, cdv, ct, osl, rfl, lk, hcd⟩ := F.ex
  exact .all (h kV doc pm an cdv ct)
theorem fun_mk {x qual : Str} {st : Stmt} {f : Addr} {oc : Value} {od an : Option Addr} {osl : Array (Option Value)} {kV doc pm cdv ct : Value} (l : K.lookup f = some ⟨oc, od, .func (PySem.W.fnOf x qual (defArgs st) (defBody st) (defScope st) .none kV doc pm an cdv ct), osl⟩)
    (c : PySem.W.codeIn K cdv qual = true) (k : PySem.W.keepIn K (.ref f) = true) : Fun K x qual st f (PySem.W.fnOf x qual (defArgs st) (defBody st) (defScope st) .none kV doc pm an cdv ct) := ⟨⟨oc, od, kV, doc, pm, an, cdv, ct, osl, rfl, l, c⟩, k⟩
end
theorem hu_of {A : Around} {k : Nat} (hr : Room k A) : A.units + 1 < cLine := Nat.lt_of_le_of_lt (Nat.add_le_add_left (by decide : 1 ≤ 64) _) hr.units
theorem small1000 {n : Nat} (h : n ≤ 1000) : n < sizeLine := Nat.lt_of_le_of_lt h (by decide)

/-! ### expressions in short: the name that stands in the i-th slot -/
section
variable {X : Cx}
theorem pv (i : Nat) {x : Str} {pos : Pos} (hN : X.N[i]? = some x := by rfl) (hv : Vis X.env.scope x := by first | exact Or.inl rfl | exact Or.inr (Or.inl rfl) | exact Or.inr (Or.inr rfl)) (hd : (x == ("__debug__" : Str)) = false := by decide)
    (hcd : (x == ("__classdict__" : Str)) = false := by decide) : PE X (.Name x pos) (tVar i) := pe_var hN hv hd hcd
end

/-! ### tests -/
theorem iteF {A B : Prop} (h : B) : if false = true then A else B := by
  rw [if_neg Bool.false_ne_true]
  exact h
theorem iteT {A B : Prop} (h : A) : if true = true then A else B := by
  rw [if_pos rfl]
  exact h
theorem ite2 {c A B : Prop} [Decidable c] (h1 : c → A) (h2 : ¬ c → B) : if c then A else B := by
  by_cases h : c
  · rw [if_pos h]
    exact h1 h
  · rw [if_neg h]
    exact h2 h
theorem iteNS {c A B : Prop} [Decidable c] (hc : c) (h : B) : if (!decide c) = true then A else B := by
  rw [decide_eq_true hc]
  exact iteF h

/-! ### heaps -/
def Same (H H' : Hp) : Prop := ∀ b o, H b = some o → H' b = some o
theorem Same.trans {H H1 H2 : Hp} (a : Same H H1) (b : Same H1 H2) : Same H H2 := fun c o h => b c o (a c o h)
theorem Same.free {H H' : Hp} (e : Same H H') {l : Addr} (h : H' l = Option.none) : H l = Option.none := by
  cases q : H l with
  | none => rfl
  | some o =>
    rw [e l o q] at h
    cases h
theorem Same.seq {K : PySem.W.Frag} {H H' : Hp} {a : Addr} {xs : List V} (e : Same H H') (h : SqL K H a xs) : SqL K H' a xs := by
  rcases h with (h | ⟨o, h⟩) | h
  · exact .inl (.inl (e _ _ h))
  · exact .inl (.inr ⟨o, e _ _ h⟩)
  · exact .inr h

section
variable {X : Cx}
theorem call_lenD : CallR X (.builtin "len") (fun xs H Q => ∃ a kvs, xs = [V.ref a] ∧ H a = some (.dK kvs) ∧ Q (.int kvs.length) H) := by
  intro pins s σ H xs us Q I r h
  obtain ⟨a, kvs, rfl, ha, q⟩ := h
  obtain ⟨u, rfl, ru⟩ := vals1 r
  cases ru
  exact d_len I (.inl ha) fun t s' I' => ⟨.int kvs.length, H, I', ⟨t, rfl⟩, q⟩
end
/-! ### a dict's pairs: keys that differ -/
section
variable {κ : Type} [DecidableEq κ]
theorem valV_in {kvs : List (κ × V)} {k : κ} {v : V} (h : valV kvs k = some v) : k ∈ kvs.map (·.1) := by
  have q : (kvs.any fun kv => decide (kv.1 = k)) = true := by
    rw [valV_any, h]
    all_goals rfl
  obtain ⟨p, hp, e⟩ := List.any_eq_true.mp q
  exact List.mem_map.mpr ⟨p, hp, of_decide_eq_true e⟩
end
end L2
-- Own1
set_option Elab.async false
set_option linter.all false
set_option maxRecDepth 100000
set_option maxHeartbeats 4000000
/-! Rules of our own over the layer, 1: a list comprehension with one clause and no test. -/
namespace L2
open PySem PySem.Spec PyProof.Rows

/-! ### the cells that a block closes over -/
def closF (cells : List (Str × Addr)) : List (Str × NameKind) → List (Str × Addr) → Option (List (Str × Addr))
  | [], acc => some acc
  | (n, k) :: r, acc => if k == .free then (match cells.lookup n with | some c => closF cells r ((n, c) :: acc) | none => none) else closF cells r acc
theorem closF_go {env : Env} : ∀ (names : List (Str × NameKind)) (acc cl : List (Str × Addr)), closF env.cells names acc = some cl →
    (forIn names acc fun (x : Str × NameKind) (cs : List (Str × Addr)) => (match x with
      | (name, kind) => if (kind == NameKind.free) = true then (do let c ← cellOf env name; pure (ForInStep.yield ((name, c) :: cs))) else pure (ForInStep.yield cs) : Sem (ForInStep (List (Str × Addr))))) = pure cl
  | [], acc, cl, h => by
    cases h
    rfl
  | (n, k) :: r, acc, cl, h => by
    unfold closF at h
    rw [List.forIn_cons]
    by_cases hk : (k == NameKind.free) = true
    · rw [if_pos hk] at h
      cases e : env.cells.lookup n with
      | none => rw [e] at h; cases h
      | some c =>
        rw [e] at h
        have ih := closF_go r _ cl h
        simp only [hk, if_true, cellOf, e, pure_bind]
        exact ih
    · rw [if_neg hk] at h
      have ih := closF_go r _ cl h
      simp only [hk, if_false, pure_bind]
      exact ih
theorem closureFor_of {scope : Scope} {env : Env} {cl : List (Str × Addr)} (h : closF env.cells scope.names [] = some cl) : closureFor scope env = pure cl := by
  have e := closF_go scope.names [] cl h
  unfold closureFor
  simp only [bind_pure_comp, map_pure] at e ⊢
  first
    | exact e
    | (rw [e]; rfl)
    | (simp [e])
theorem closF_sub {cells : List (Str × Addr)} : ∀ (names : List (Str × NameKind)) (acc cl : List (Str × Addr)), closF cells names acc = some cl → (∀ p ∈ acc, cells.lookup p.1 = some p.2) → ∀ p ∈ cl, cells.lookup p.1 = some p.2
  | [], acc, cl, h, ha => by cases h; exact ha
  | (n, k) :: r, acc, cl, h, ha => by
    unfold closF at h
    split at h
    · cases e : cells.lookup n with
      | none => rw [e] at h; cases h
      | some c =>
        rw [e] at h
        refine closF_sub r _ cl h fun p hp => ?_
        rcases List.mem_cons.mp hp with rfl | hp
        · exact e
        · exact ha p hp
    · exact closF_sub r _ cl h ha
theorem closF_mem {cells : List (Str × Addr)} : ∀ (names : List (Str × NameKind)) (acc cl : List (Str × Addr)), closF cells names acc = some cl → (∀ p ∈ acc, p ∈ cl) ∧ ∀ n, (n, NameKind.free) ∈ names → ∃ c, (n, c) ∈ cl
  | [], acc, cl, h => by cases h; exact ⟨fun p hp => hp, fun n hn => by simp at hn⟩
  | (n, k) :: r, acc, cl, h => by
    unfold closF at h
    split at h
    · cases e : cells.lookup n with
      | none => rw [e] at h; cases h
      | some c =>
        rw [e] at h
        obtain ⟨h1, h2⟩ := closF_mem r _ cl h
        refine ⟨fun p hp => h1 p (List.mem_cons_of_mem _ hp), fun m hm => ?_⟩
        rcases List.mem_cons.mp hm with q | hm
        · injection q with q1 q2
          subst q1
          exact ⟨c, h1 _ List.mem_cons_self⟩
        · exact h2 m hm
    · rename_i hk
      obtain ⟨h1, h2⟩ := closF_mem r _ cl h
      refine ⟨h1, fun m hm => ?_⟩
      rcases List.mem_cons.mp hm with q | hm
      · injection q with q1 q2
        subst q2
        exact absurd rfl hk
      · exact h2 m hm
theorem lookup_of_mem {cl : List (Str × Addr)} {n : Str} {c : Addr} : (n, c) ∈ cl → ∃ d, cl.lookup n = some d := by
  induction cl with
  | nil => intro h; simp at h
  | cons p r ih =>
    intro h
    obtain ⟨a, b⟩ := p
    by_cases e : n = a
    · subst e; exact ⟨b, by simp [List.lookup_cons]⟩
    · rcases List.mem_cons.mp h with q | h
      · injection q with q1 _; exact absurd q1 e
      · obtain ⟨d, hd⟩ := ih h
        refine ⟨d, ?_⟩
        rw [List.lookup_cons]
        have : (n == a) = false := by simpa using e
        rw [this]
        exact hd

/-! ### the block's context -/
def cxComp (X : Cx) (N : List Str) (scope : Scope) (cl : List (Str × Addr)) (C : Addr) (s : Shared) (H : Hp) (ex : List Addr) : Cx where
  prog := X.prog
  w := X.w
  K := X.K
  mg := X.mg
  base := X.base
  A := X.A
  N := N
  s₀ := s
  H₀ := H
  env := compEnvC scope cl C X.env
  outer := X.stack
  stack := X.stack
  ex := ex
  fn := fun _ => false
  calm := X.calm
  pn := []
  xe := fun _ _ => False
def CapOk (X : Cx) (scope : Scope) : List (Nat × Str) → Prop
  | [] => True
  | p :: r => (X.N[p.1]? = some p.2 ∧ X.env.kindOf p.2 = some .cell ∧ (relabel scope X.env).names.lookup p.2 = some .cell) ∧ CapOk X scope r
theorem CapOk.at {X : Cx} {scope : Scope} : ∀ {caps : List (Nat × Str)} {i : Nat} {p : Nat × Str}, CapOk X scope caps → caps[i]? = some p → X.N[p.1]? = some p.2 ∧ X.env.kindOf p.2 = some .cell ∧ (relabel scope X.env).names.lookup p.2 = some .cell
  | [], _, _, _, e => by simp at e
  | _ :: _, 0, _, h, e => by simp at e; subst e; exact h.1
  | _ :: r, i + 1, p, h, e => CapOk.at (caps := r) (i := i) h.2 (by simpa using e)
def capσ (caps : List (Nat × Str)) (n : Nat) (σ : St) : St := caps.map (fun p => (σ[p.1]?).getD none) ++ List.replicate n none

def tComp (wi : TI) (caps : List (Nat × Str)) (n : Nat) (g : TG) (te : TE) : TE := fun σ H Q => wi σ H fun J H1 => ∀ acc, H1 acc = none → ∃ W : Nat → Nat → List V → St → Hp → Prop,
  (∃ m, W 0 m [] (capσ caps n σ) (upd H1 acc (.lst []))) ∧ ∀ i m ys σ' H', W i m ys σ' H' →
    H' acc = some (.lst ys) ∧ ((J.stop i H' ∧ Q (.ref acc) H') ∨ (J.go i H' ∧ ys.length < sizeLine ∧ ∃ Nx : V → St → Hp → Prop, (∀ y σ2 H4, Nx y σ2 H4 → ∃ m', m' < m ∧ W (i + 1) m' (ys ++ [y]) σ2 (upd H4 acc (.lst (ys ++ [y])))) ∧
      ∀ x H2, J.yld i H' x H2 → g x σ' H2 fun σ2 H3 => te σ2 H3 fun y H4 => H4 acc = some (.lst ys) ∧ Nx y σ2 H4))

section
variable {prog : Program} {w : World} {A : Around} {R : Result → Shared → Prop} {s : Shared}
theorem compLoop_any {elt target iter : Expr} {scope : Scope} {pos : Pos} {it acc : Value} {env : Env} (I : Nat → Shared → Prop)
    (turn : ∀ n s, I n s → wpAny (model prog w) A (pyNext it) (fun r s₁ => match r with
      | none => R (.ok .next) s₁
      | some v => wpAny (model prog w) A (letOwnedTupleGo target it v) (fun _ s₂ => wpAny (model prog w) A (assign target env v) (fun _ s₃ => wpAny (model prog w) A (eval elt env) (fun x s₄ =>
          wpAny (model prog w) A (call (.builtin "list.append") [acc, x]) (fun _ s₅ => ∃ m, m < n ∧ I m s₅) (fun _ _ => False) s₄)
          (fun _ _ => False) s₃) (fun _ _ => False) s₂) (fun _ _ => False) s₁) (fun _ _ => False) s)
    (n : Nat) (h : I n s) :
    codeAny (model prog w) A (.compLoop (.ListComp elt [⟨target, iter, [], 0⟩] scope pos) 0 it acc env) R s := by
  refine codeAny_loop rfl I (fun n s hI => ?_) n h
  show wpAny _ _ ((compTurn (.ListComp elt [⟨target, iter, [], 0⟩] scope pos) 0 it acc env).onRaise (fun x => do noteFrame x env; theTreesLotGoes x)) _ _ s
  refine wpAny_noted ?_
  rw [compTurn_list1]
  refine wpAny_bind (wpAny_standAt (wpAny_bind (wpAny_mono (turn n s hI) (fun r s₁ h₁ => ?_) fun _ _ z => False.elim z)))
  cases r with
  | none => exact wpAny_pure h₁
  | some v =>
    refine wpAny_bind (wpAny_mono h₁ (fun _ s₂ h₂ => ?_) fun _ _ z => False.elim z)
    exact wpAny_bind (wpAny_mono h₂ (fun _ s₃ h₃ => wpAny_bind (wpAny_bind (wpAny_mono h₃ (fun x s₄ h₄ => wpAny_bind (wpAny_mono h₄
      (fun _ s₅ h₅ => wpAny_pure (wpAny_pure ⟨rfl, h₅⟩)) fun _ _ z => False.elim z)) fun _ _ z => False.elim z))) fun _ _ z => False.elim z)
end

section
variable {X : Cx} {elt tg iter : Expr} {scope : Scope} {pos : Pos} {wi : TI} {g : TG} {te : TE} {caps : List (Nat × Str)} {own N : List Str} {cl : List (Str × Addr)}

theorem comp_ok {pins : List (Addr × Obj)} {σ : St} {H : Hp} {s : Shared} {fp : List Addr} {C : Addr} (I : Inv X pins σ H s) (hf : ∀ b ∈ fp, FpOk X pins H b)
    (hcl : closF X.env.cells scope.names [] = some cl) (hcell : ∀ y ∈ scope.names, y.2 ≠ .cell) (hkind : scope.kind = .function) (hC : s.heap.objs.size ≤ C)
    (hfs : ∀ b ∈ fp, b < s.heap.objs.size) : (cxComp X N scope cl C s H fp).Ok := by
  have sub := closF_sub scope.names [] cl hcl (fun p hp => by simp at hp)
  have sub' : ∀ x c, cl.lookup x = some c → X.env.cells.lookup x = some c := fun x c e => sub (x, c) (PySem.mem_of_lookup e)
  refine ⟨I.ok.mod, hkind, I.ok.glob, I.ok.blt, hC, fun x y c h1 h2 => I.ok.inj x y c (sub' x c h1) (sub' y c h2), fun x hx => ?_, fun x c h => ?_, I.ok.hd, I.ok.frames, .inl rfl, fun b hb => ⟨?_, fun x c e => ?_⟩, I.bs, ?_, fun b o e hb => ?_, fun b hb z => ?_, I.stack, I.stkFree⟩
  · have key : (x, NameKind.free) ∈ scope.names := by
      have hx : (relabel scope X.env).names.lookup x = some .cell ∨ (relabel scope X.env).names.lookup x = some .free := hx
      have hm : (x, NameKind.cell) ∈ (relabel scope X.env).names ∨ (x, NameKind.free) ∈ (relabel scope X.env).names := hx.imp PySem.mem_of_lookup PySem.mem_of_lookup
      rcases hm with hm | hm
      all_goals
        unfold relabel at hm
        obtain ⟨⟨n, k⟩, hn, e⟩ := List.mem_map.mp hm
        dsimp only at e
        split at e
        · rename_i hc
          injection e with e1 e2
          subst e1
          have hk : k = NameKind.free := by
            rcases Bool.and_eq_true_iff.mp hc with ⟨h1, _⟩
            rcases Bool.and_eq_true_iff.mp h1 with ⟨h1, _⟩
            exact eq_of_beq h1
          rw [← hk]
          exact hn
        · injection e with e1 e2
          subst e1
          subst e2
          first
            | exact hn
            | exact absurd rfl (hcell _ hn)
    obtain ⟨_, h2⟩ := closF_mem scope.names [] cl hcl
    obtain ⟨c, hc⟩ := h2 x key
    exact lookup_of_mem hc
  · exact absurd (show false = true from h) Bool.false_ne_true
  · exact Nat.ne_of_lt (Nat.lt_of_lt_of_le (hfs b hb) hC)
  · exact (hf b hb).2.2.2.2.1 x c (sub' x c e)
  · exact Nat.le_trans I.ok.bsz I.sz
  · rcases (hf b hb).2.2.2.1 with z | z
    · exact I.ok.noex b o e z
    · exact absurd (Nat.lt_of_lt_of_le (Heap.lt_size e) (Nat.le_trans I.ok.bsz z)) (Nat.lt_irrefl _)
  · rcases List.mem_cons.mp (I.stkSub b z) with q | q
    · exact (hf b hb).2.1 q
    · exact (hf b hb).2.2.1 q

theorem comp_core (hc : X.calm = true) (hcl : closF X.env.cells scope.names [] = some cl) (hcell : ∀ y ∈ scope.names, y.2 ≠ .cell) (hkind : scope.kind = .function) (hcap : CapOk X scope caps)
    (hg : ∀ C s H ex, PG (cxComp X (caps.map (·.2) ++ own) scope cl C s H ex) tg g) (he : ∀ C s H ex, PE (cxComp X (caps.map (·.2) ++ own) scope cl C s H ex) elt te)
    {pins : List (Addr × Obj)} {σ : St} {H2 : Hp} {s2 : Shared} {fp : List Addr} {it : Addr} {tn : Nat → Heap → Prop} {J : It} {Qv : VK} {E : Value → Shared → Prop} {RR : Value → Addr → Result → Shared → Prop}
    (I2 : Inv X pins σ H2 s2) (T : Turn X.prog X.w X.K tg J fp it tn) (st2 : tn 0 s2.heap) (f2 : ∀ b ∈ fp, FpOk X pins H2 b)
    (rd : ∀ acc, H2 acc = none → ∃ W : Nat → Nat → List V → St → Hp → Prop, (∃ m, W 0 m [] (capσ caps own.length σ) (upd H2 acc (.lst []))) ∧ ∀ i m ys σ' H', W i m ys σ' H' →
      H' acc = some (.lst ys) ∧ ((J.stop i H' ∧ Qv (.ref acc) H') ∨ (J.go i H' ∧ ys.length < sizeLine ∧ ∃ Nx : V → St → Hp → Prop, (∀ y σ2 H4, Nx y σ2 H4 → ∃ m', m' < m ∧ W (i + 1) m' (ys ++ [y]) σ2 (upd H4 acc (.lst (ys ++ [y])))) ∧
        ∀ x H3, J.yld i H' x H3 → g x σ' H3 fun σ2 H4 => te σ2 H4 fun y H5 => H5 acc = some (.lst ys) ∧ Nx y σ2 H5)))
    (hRR : ∀ (D C : Addr) (H' : Hp) (s4 : Shared), Inv X pins σ H' s4 → Qv (.ref D) H' → (∃ m, s4.heap.Ns C m) → H' C = none → s2.heap.objs.size ≤ C → RR (.ref D) C (.ok .next) s4) :
    wpAny (model X.prog X.w) X.A (newList []) (fun acc s₃ => wpAny (model X.prog X.w) X.A (newFunctionEnv scope X.env.globals cl [] X.env.qual none .none (some X.env)) (fun cenv s₄ =>
      codeAny (model X.prog X.w) X.A (.compStart (.ListComp elt [⟨tg, iter, [], 0⟩] scope pos) 0 (.ref it) acc { cenv with scope := relabel scope X.env }) (RR acc cenv.locals) s₄) E s₃) E s2 := by
  refine wpAny_newObj_type (wpAny_newFunctionEnv hcell (by intro y hy; simp at hy) (fun h₁ hns₁ hsb₁ => ?_) hkind)
  dsimp only at hns₁ hsb₁ ⊢
  generalize hG : s2.heap.push { cls := .type "list", dict := none, data := .seq ([] : List Value).toArray } = G at hns₁ hsb₁ ⊢
  generalize hD : s2.heap.objs.size = D at *
  generalize hCe : G.objs.size = C at *
  have hC : C = D + 1 := by rw [← hCe, ← hG, Heap.size_push, hD]
  have hDC : D ≠ C := by rw [hC]; exact Nat.ne_of_lt (Nat.lt_succ_self _)
  have hCle : s2.heap.objs.size ≤ C := by rw [hD, hC]; exact Nat.le_succ _
  have old : ∀ b o, s2.heap.get? b = some o → h₁.get? b = some o := fun b o e => by
    have hb : b < D := by rw [← hD]; exact Heap.lt_size e
    have e1 : G.get? b = some o := by rw [← hG]; exact Heap.get?_push_of_some _ e
    exact hsb₁.extBut b o (by rw [hC]; exact Nat.ne_of_lt (Nat.lt_succ_of_lt hb)) (Heap.get?_push_of_some _ e1)
  have hacc : h₁.get? D = some { cls := .type "list", dict := none, data := .seq ([] : List Value).toArray } := by
    have e1 : G.get? D = some { cls := .type "list", dict := none, data := .seq ([] : List Value).toArray } := by rw [← hG, ← hD]; exact Heap.get?_push_size _ rfl
    exact hsb₁.extBut _ _ hDC (Heap.get?_push_of_some _ e1)
  have fpl : ∀ b ∈ fp, b < s2.heap.objs.size := fun b hb => by
    obtain ⟨o, e, _⟩ := T.obj 0 _ st2 b hb
    exact Heap.lt_size e
  have hDn : H2 D = none := I2.hok.fresh (Nat.le_of_eq hD)
  have hCn : H2 C = none := I2.hok.fresh hCle
  obtain ⟨W, ⟨m0, w0⟩, turn⟩ := rd D hDn
  have ok' : (cxComp X (caps.map (·.2) ++ own) scope cl C s2 H2 fp).Ok := comp_ok I2 f2 hcl hcell hkind hCle fpl
  have sub := closF_sub scope.names [] cl hcl (fun p hp => by simp at hp)
  have sub' : ∀ x c, cl.lookup x = some c → X.env.cells.lookup x = some c := fun x c e => sub (x, c) (PySem.mem_of_lookup e)
  have clt : ∀ x c, X.env.cells.lookup x = some c → c < s2.heap.objs.size := fun x c e => by
    obtain ⟨v, q⟩ := I2.cell x c e
    exact q.lt
  have hokD : HOk X.prog X.w (upd H2 D (.lst [])) h₁ := I2.hok.laid old (Nat.le_of_eq hD) ⟨Nat.zero_le _, [], _, .nil, hacc⟩
  have I3 : Inv (cxComp X (caps.map (·.2) ++ own) scope cl C s2 H2 fp) [] (capσ caps own.length σ) (upd H2 D (.lst [])) { s2 with heap := h₁, toks := s2.toks + ([] : List (Str × Value)).length } := by
    refine ⟨ok', rfl, I2.bare, Un.laid old (Nat.le_of_eq hD) hDn, ⟨_, hns₁, fun i x v e1 e2 e3 => ?_⟩, fun x c e => ?_, ?_, fun x c e => ?_, fun p hp => ?_, hokD, ?_⟩
    · have hi : i < caps.length := by
        by_cases hi : i < caps.length
        · exact hi
        · unfold capσ at e2
          rw [List.getElem?_append_right (by simpa using hi), List.getElem?_replicate] at e2
          split at e2 <;> cases e2
      have ex : (caps.map (·.2))[i]? = some x := by
        have e1 : (caps.map (·.2) ++ own)[i]? = some x := e1
        rw [List.getElem?_append_left (by simpa using hi)] at e1
        exact e1
      obtain ⟨p, hp, rfl⟩ : ∃ p, caps[i]? = some p ∧ p.2 = x := by
        rw [List.getElem?_map] at ex
        cases q : caps[i]? with
        | none => rw [q] at ex; cases ex
        | some p => rw [q] at ex; exact ⟨p, rfl, Option.some.inj ex⟩
      obtain ⟨hN, hk, hkl⟩ := hcap.at hp
      have ev : σ[p.1]? = some (some v) := by
        unfold capσ at e2
        rw [List.getElem?_append_left (by simpa using hi), List.getElem?_map, hp] at e2
        have e2 : (σ[p.1]?).getD none = some v := Option.some.inj e2
        cases q : σ[p.1]? with
        | none => rw [q] at e2; cases e2
        | some z => rw [q] at e2; exact congrArg some e2
      obtain ⟨m, hn, hl⟩ := I2.loc
      obtain ⟨u, r, l⟩ := hl p.1 p.2 v hN ev (.inr (.inl hk))
      refine ⟨u, r, ?_⟩
      rcases l with ⟨hk', _⟩ | ⟨_, c, hcl', hce⟩
      · rw [hk] at hk'; cases hk'
      · have hv : (relabel scope X.env).names.lookup p.2 = some .local ∨ (relabel scope X.env).names.lookup p.2 = some .cell ∨ (relabel scope X.env).names.lookup p.2 = some .free := e3
        rcases hv with hv | hv
        · -- a name of the block's own stands among the own ones
          rw [hkl] at hv
          cases hv
        · obtain ⟨c', hc'⟩ := ok'.has p.2 hv
          have hc'' : cl.lookup p.2 = some c' := hc'
          have e4 := sub' _ _ hc''
          rw [hcl'] at e4
          cases e4
          exact .inr ⟨hv, c, hc', let ⟨o, ho, hd⟩ := hce; ⟨o, old _ o ho, hd⟩⟩
    · have e' : cl.lookup x = some c := e
      obtain ⟨v, q⟩ := I2.cell x c (sub' x c e')
      exact ⟨v, let ⟨o, ho, hd⟩ := q; ⟨o, old _ o ho, hd⟩⟩
    · show upd H2 D (.lst []) C = none
      rw [upd_ne hDC.symm]
      exact hCn
    · have e' : X.env.cells.lookup x = some c := sub' x c e
      have : c ≠ D := Nat.ne_of_lt (by rw [← hD]; exact clt x c e')
      rw [upd_ne this]
      exact I2.freeC x c e'
    · exact absurd hp (by simp [cxComp])
    · show (capσ caps own.length σ).length = (caps.map (·.2) ++ own).length
      simp [capσ]
  have stat : ∀ {H' : Hp}, (∀ b ∈ fp, H' b = none) → ∀ b ∈ fp, FpOk (cxComp X (caps.map (·.2) ++ own) scope cl C s2 H2 fp) [] H' b := fun {H'} hn b hb =>
    ⟨hn b hb, Nat.ne_of_lt (Nat.lt_of_lt_of_le (fpl b hb) hCle), ok'.exfs b hb, .inl hb, fun x c e => (ok'.exf b hb).2 x c e, fun p hp => absurd hp (by simp [cxComp])⟩
  have stD : ∀ b ∈ fp, upd H2 D (.lst []) b = none := fun b hb => by
    have hb' : b ≠ D := Nat.ne_of_lt (by rw [← hD]; exact fpl b hb)
    rw [upd_ne hb']
    exact (f2 b hb).1
  have hst1 : tn 0 h₁ := T.keep 0 _ _ st2 fun b _ o e => old b o e
  have loop : ∀ s₃ : Shared, s₃ = { s2 with heap := h₁, toks := s2.toks + ([] : List (Str × Value)).length } →
      codeAny (model X.prog X.w) X.A (.compLoop (.ListComp elt [⟨tg, iter, [], 0⟩] scope pos) 0 (.ref it) (.ref D) (compEnvC scope cl C X.env)) (RR (.ref D) C) s₃ := by
    rintro s₃ rfl
    refine compLoop_any (fun n s' => ∃ i σ' H' ys, Inv (cxComp X (caps.map (·.2) ++ own) scope cl C s2 H2 fp) [] σ' H' s' ∧ tn i s'.heap ∧ (∀ b ∈ fp, H' b = none) ∧ W i n ys σ' H') ?_ m0 ⟨0, _, _, [], I3, hst1, stD, w0⟩
    rintro n s3 ⟨i, σ3, H3, ys, J3, st3, fr3, w3⟩
    obtain ⟨ha, hh⟩ := turn i n ys σ3 H3 w3
    rcases hh with ⟨stop, q⟩ | ⟨go, hl, Nx, hNx, step⟩
    · refine thn (T.done (cxComp X (caps.map (·.2) ++ own) scope cl C s2 H2 fp) rfl rfl rfl hc i [] s3 σ3 H3 _ J3 (stat fr3) st3 stop) fun r s4 ⟨hr, I4⟩ => ?_
      subst hr
      obtain ⟨m, hn, _⟩ := I4.loc
      exact hRR D C H3 s4 (I2.call' I4.os I4.base I4.hok I4.bare fun b hb => ⟨(f2 b hb).2.2.2.1, (f2 b hb).2.1, (f2 b hb).2.2.2.2.1, (f2 b hb).2.2.2.2.2⟩) q ⟨m, hn⟩ I4.free (by rw [hD] at hCle; exact hCle)
    · refine thn (T.item (cxComp X (caps.map (·.2) ++ own) scope cl C s2 H2 fp) rfl rfl rfl hc i [] s3 σ3 H3 _ J3 (stat fr3) st3 go) fun r s4 ⟨u, hr, h4⟩ => ?_
      subst hr
      refine thn h4 fun _ s5 ⟨x, H5, I5, r5, y5, st5, fr5⟩ => ?_
      have I5' := I5.pinned (stat fr5) (T.obj _ _ st5)
      refine thn (hg _ _ _ _ _ s5 σ3 H5 x u _ I5' r5 (step x H5 y5)) fun _ s6 ⟨σ6, H6, I6, q6⟩ => ?_
      refine thn (he _ _ _ _ _ s6 σ6 H6 _ I6 q6) fun yv s7 ⟨y, H7, I7, r7, hacc7, n7⟩ => ?_
      obtain ⟨m', hm, w7⟩ := hNx y σ6 H7 n7
      refine thn (mt_append _ s7 σ6 H7 (.ref D) [y] (.ref D) [yv] (fun _ H8 => H8 = upd H7 D (.lst (ys ++ [y]))) I7 rfl (.cons r7 .nil) ⟨D, ys, y, rfl, rfl, hacc7, hl, rfl⟩) fun _ s8 ⟨_, H8, I8, _, q8⟩ => ?_
      subst q8
      have pinned : ∀ b ∈ fp, ∀ o, s5.heap.get? b = some o → s8.heap.get? b = some o ∧ upd H7 D (.lst (ys ++ [y])) b = none := fun b hb o e => by
        have q := I8.pin (b, o) (List.mem_append_right _ (List.mem_append_right _ (mem_pinsAt hb e)))
        exact ⟨q.1, q.2.1⟩
      refine ⟨m', hm, i + 1, σ6, _, ys ++ [y], I8.unpinned, T.keep _ _ _ st5 fun b hb o e => (pinned b hb o e).1, fun b hb => ?_, w7⟩
      obtain ⟨o, e, _⟩ := T.obj _ _ st5 b hb
      exact (pinned b hb o e).2
  exact codeAny_compStart_list (loop _ rfl) (T.self X.A 0 _ _ _ hst1 (loop _ rfl))

theorem pe_comp (hc : X.calm = true) (hcl : closF X.env.cells scope.names [] = some cl) (hcell : ∀ y ∈ scope.names, y.2 ≠ .cell) (hkind : scope.kind = .function)
    (hnames : ∀ y ∈ scope.names, y.2 = .local → scope.names.lookup y.1 = some .local) (hcap : CapOk X scope caps)
    (hi : PI X tg iter wi)
    (hg : ∀ C s H ex, PG (cxComp X (caps.map (·.2) ++ own) scope cl C s H ex) tg g) (he : ∀ C s H ex, PE (cxComp X (caps.map (·.2) ++ own) scope cl C s H ex) elt te)
    (hs : ∀ x, foldedSetIterable iter X.env x = pure x := by intro _; rfl) : PE X (.ListComp elt [⟨tg, iter, [], 0⟩] scope pos) (tComp wi caps own.length g te) := by
  intro pins s σ H Q I h
  rw [eval_ListComp]
  refine wpAny_comprehension_free (use := none) rfl hs (closureFor_of hcl) hkind hnames (thn (hi pins s σ H _ I h) fun v s1 h1 => thn h1 fun itv s2 h2 => ?_)
  obtain ⟨it, fp, tn, J, H2, rfl, I2, T, st2, f2, rd⟩ := h2
  refine comp_core (RR := fun acc C => compPost (model X.prog X.w) X.A X.xe none (EP X pins σ Q) acc C) (Qv := Q) hc hcl hcell hkind hcap hg he I2 T st2 f2 rd fun D C H' s4 J4 q hm hn hC => ?_
  obtain ⟨m, hm⟩ := hm
  refine ⟨m, hm, fun h' hs' => ⟨.ref D, H', J4.turned (t' := s4.toks) (it := C) (fun b o hb e => (hs'.2 b hb).trans e) hn ?_ (.inr (Nat.le_trans I2.sz hC)) ?_ ?_, rfl, q⟩⟩
  · exact Nat.ne_of_gt (Nat.lt_of_lt_of_le I2.lt hC)
  · intro x c e z
    obtain ⟨v, q⟩ := I2.cell x c e
    exact absurd (Nat.lt_of_lt_of_le q.lt hC) (by rw [z]; exact Nat.lt_irrefl _)
  · intro p hp z
    exact absurd (Nat.lt_of_lt_of_le (Heap.lt_size (I2.pin p hp).1) hC) (by rw [z]; exact Nat.lt_irrefl _)
def tSetComp (i : Nat) (t : TE) : TS := fun D σ H => t σ H fun x H1 => D.nx (σ.set i (some x)) H1
end

/-! ### the form one uses: over a list that the block leaves as it is -/
theorem comp_list {K : PySem.W.Frag} {a acc : Addr} {xs : List V} {g : TG} {te : TE} {Qd : Hp → Prop} {σ0 : St} {H1 : Hp} (Pv : Nat → List V → St → Hp → Prop) (h0 : Pv 0 [] σ0 (upd H1 acc (.lst [])))
    (hlen : xs.length < sizeLine) (hl : ∀ i ys σ H, i ≤ xs.length → Pv i ys σ H → SqL K H a xs ∧ H acc = some (.lst ys) ∧ ys.length = i)
    (hs : ∀ i x ys σ H, xs[i]? = some x → Pv i ys σ H → g x σ H fun σ2 H2 => te σ2 H2 fun y H3 => H3 acc = some (.lst ys) ∧ Pv (i + 1) (ys ++ [y]) σ2 (upd H3 acc (.lst (ys ++ [y]))))
    (hd : ∀ ys σ H, Pv xs.length ys σ H → Qd H) :
    ∃ W : Nat → Nat → List V → St → Hp → Prop, (∃ m, W 0 m [] σ0 (upd H1 acc (.lst []))) ∧ ∀ i m ys σ' H', W i m ys σ' H' →
      H' acc = some (.lst ys) ∧ (((Itl K a).stop i H' ∧ Qd H') ∨ ((Itl K a).go i H' ∧ ys.length < sizeLine ∧ ∃ Nx : V → St → Hp → Prop, (∀ y σ2 H4, Nx y σ2 H4 → ∃ m', m' < m ∧ W (i + 1) m' (ys ++ [y]) σ2 (upd H4 acc (.lst (ys ++ [y])))) ∧
        ∀ x H2, (Itl K a).yld i H' x H2 → g x σ' H2 fun σ2 H3 => te σ2 H3 fun y H4 => H4 acc = some (.lst ys) ∧ Nx y σ2 H4)) := by
  refine ⟨fun i m ys σ H => m = xs.length - i ∧ i ≤ xs.length ∧ Pv i ys σ H, ⟨xs.length, by simp, Nat.zero_le _, h0⟩, ?_⟩
  rintro i m ys σ H ⟨rfl, hi, p⟩
  obtain ⟨q, hacc, hly⟩ := hl i ys σ H hi p
  refine ⟨hacc, ?_⟩
  by_cases hlt : i < xs.length
  · refine .inr ⟨⟨xs, xs[i], q, by simp [hlt]⟩, by omega, fun y σ2 H4 => Pv (i + 1) (ys ++ [y]) σ2 (upd H4 acc (.lst (ys ++ [y]))), fun y σ2 H4 z => ⟨xs.length - (i + 1), by omega, rfl, hlt, z⟩, fun x H' y => ?_⟩
    obtain ⟨e, y⟩ := y
    subst e
    exact hs i x ys σ _ (y xs q) p
  · have e : i = xs.length := by omega
    subst e
    exact .inl ⟨⟨xs, q, Nat.le_refl _⟩, hd ys σ H p⟩
end L2
-- Own2
set_option Elab.async false
set_option linter.all false
set_option maxRecDepth 100000
set_option maxHeartbeats 4000000
/-! Rules of our own over the layer, 2: isinstance, sum, == and != of lists of tuples, list(d), products. -/
namespace L2
open PySem PySem.Spec PyProof.Rows
section
variable {X : Cx}
theorem call_isinst : CallR X (.builtin "isinstance") (fun xs H Q => ∃ x T t b, xs = [x, .ty T] ∧ TyOf X.K H x t ∧ PySem.W.kitOne X.K t (.type T) = some b ∧ Q (.bl b) H) := by
  intro pins s σ H xs us Q I r h
  obtain ⟨x, T, t, b, rfl, ty, e, q⟩ := h
  obtain ⟨u, w', rfl, ru, rw'⟩ := vals2 r
  cases (show w' = Value.type T from rw')
  exact isinst_ok I ru ty e fun tk => ⟨.bl b, H, I.tok tk, rfl, q⟩
theorem kit_same (K : PySem.W.Frag) (T : String) : PySem.W.kitOne K (.type T) (.type T) = some true := by
  unfold PySem.W.kitOne
  rw [if_pos (beq_self_eq_true _)]
theorem kit_int_bool (K : PySem.W.Frag) : PySem.W.kitOne K (.type "int") (.type "bool") = some false := by
  first
    | rfl
    | (with_unfolding_all rfl)
    | kernel_rfl
    | (unfold PySem.W.kitOne; rw [if_neg (by decide +kernel)]; unfold PySem.W.kitCls; first | rfl | kernel_rfl)

/-! ### values by their places -/
theorem Vals.of_get : ∀ {xs : List V} {us : List Value}, xs.length = us.length → (∀ (i : Nat) x u, xs[i]? = some x → us[i]? = some u → RelV x u) → Vals xs us
  | [], [], _, _ => .nil
  | [], _ :: _, h, _ => by simp at h
  | _ :: _, [], h, _ => by simp at h
  | x :: xs, u :: us, h, f => .cons (f 0 x u (by simp) (by simp)) (Vals.of_get (by simpa using h) fun i y v hy hv => f (i + 1) y v (by simpa using hy) (by simpa using hv))
theorem Vals.get' {xs : List V} {us : List Value} {i : Nat} {u : Value} (r : Vals xs us) (e : us[i]? = some u) : ∃ x, xs[i]? = some x ∧ RelV x u := by
  have hl := r.length
  have hi : i < us.length := (List.getElem?_eq_some_iff.mp e).1
  have hx : xs[i]? = some (xs[i]'(by omega)) := List.getElem?_eq_getElem (by omega)
  obtain ⟨u', h1, h2⟩ := r.get hx
  rw [e] at h1
  cases h1
  exact ⟨_, hx, h2⟩

/-! ### sum of a list of ints -/
theorem call_sumL (hc : X.calm = true) : CallR X (.builtin "sum") (fun xs H Q => ∃ (p : Addr) (ns : List Int), xs = [.ref p] ∧ SqL X.K H p (ns.map V.int) ∧ Q (.int ns.sum) H) := by
  intro pins s σ H xs us Q I r h
  obtain ⟨p, ns, rfl, hq, q⟩ := h
  obtain ⟨u, rfl, ru⟩ := vals1 r
  cases ru
  obtain ⟨its, rv, pl, hz⟩ := I.list hq
  have hlen : its.length = ns.length := by rw [← rv.length, List.length_map]
  obtain ⟨op, hop, hopc, nn, hopd⟩ := id pl.isList
  have hlt : p < s.heap.objs.size := Heap.lt_size hop
  refine call_sum_walkG (wpAny_pyIter_list pl.isList ?_)
  refine ⟨s.heap.objs.size, [s.heap.objs.size, p], [s.heap.objs.size], its.toArray.size, fun i v => its.toArray[i]? = some v, fun i h => h.IsListIter s.heap.objs.size p i ∧ h.IsList p its.toArray, fun i => ns.getD i 0, rfl, Walks.list (A := X.A.in1) (I.ok.hd hc) s.heap.objs.size p (Nat.ne_of_lt hlt) its.toArray,
    ⟨⟨_, Heap.get?_push_size _ rfl, rfl, rfl⟩, pl.isList.at fun o e => Heap.get?_push_of_some _ e⟩, fun b hb => ?_, fun i v hv => ?_, fun h' tk t' hk => ?_⟩
  · rw [Heap.size_push]
    simp only [List.mem_cons, List.not_mem_nil, or_false] at hb
    rcases hb with rfl | rfl
    · exact Nat.lt_succ_self _
    · exact Nat.lt_succ_of_lt hlt
  · obtain ⟨x, hx, rx⟩ := rv.get' (i := i) (u := v) (by simpa using hv)
    rw [List.getElem?_map] at hx
    cases e : ns[i]? with
    | none => rw [e] at hx; cases hx
    | some n =>
      rw [e] at hx
      have hx' : V.int n = x := Option.some.inj hx
      subst hx'
      obtain ⟨t, rfl⟩ := rx
      refine ⟨t, ?_⟩
      show Value.int n t = Value.int (ns.getD i 0) t
      rw [List.getD_eq_getElem?_getD, e]
      rfl
  · have e : preSum (fun i => ns.getD i 0) its.toArray.size = ns.sum := by
      have e1 : its.toArray.size = ns.length := by simpa using hlen
      rw [e1, preSum_getD, List.take_length]
    refine ⟨.int ns.sum, H, I.kept (t' := tk) (h' := h') fun b o eb => hk b o (fun hm => ?_) (Heap.get?_push_of_some _ eb), ⟨t', by rw [e]⟩, q⟩
    have := Heap.lt_size eb
    rw [List.mem_singleton.mp hm] at this
    exact Nat.lt_irrefl _ this

/-! ### lists whose items are alike -/
def SameItem (K : PySem.W.Frag) (H : Hp) (x y : V) : Prop := (x = y ∧ flatV x = true) ∨ ∃ a b zs, x = .ref a ∧ y = .ref b ∧ SqT K H a zs ∧ SqT K H b zs ∧ zs.all flatV = true
theorem Paired.at {α β : Type} {F : α → β → Prop} : ∀ {l₁ : List α} {l₂ : List β} {i : Nat} {a : α} {b : β}, Paired F l₁ l₂ → l₁[i]? = some a → l₂[i]? = some b → F a b
  | _, _, _, _, _, .nil, e, _ => by simp at e
  | _, _, 0, _, _, .cons r _, e, e' => by simp at e e'; subst e e'; exact r
  | _, _, i + 1, _, _, .cons _ t, e, e' => Paired.at (i := i) t (by simpa using e) (by simpa using e')
def rSameL (K : PySem.W.Frag) (k : Bool) : R2 := fun x y H Q => ∃ a b xs ys, x = .ref a ∧ y = .ref b ∧ SqL K H a xs ∧ SqL K H b ys ∧ Paired (SameItem K H) xs ys ∧ Q (.bl k) H

/-! ### list(d): the keys -/
theorem rel_of_keyIs {k : Key} {v : Value} (h : keyIs k v = true) : RelV (kV k) v := by
  rcases keyIs_shape h with ⟨i, t, rfl, rfl⟩ | ⟨x, t, rfl, rfl⟩
  · exact ⟨t, rfl⟩
  · exact ⟨t, rfl⟩
theorem KV.at {kvs : List (Key × V)} {vs : List (Key × Value)} {i : Nat} {k : Key} {u : Value} (r : KV kvs vs) (e : vs[i]? = some (k, u)) : ∃ v, kvs[i]? = some (k, v) ∧ RelV v u := by
  have hl := KV.length r
  have hi : i < vs.length := (List.getElem?_eq_some_iff.mp e).1
  have hx : kvs[i]? = some (kvs[i]'(by omega)) := List.getElem?_eq_getElem (by omega)
  have q := Paired.at r hx e
  refine ⟨(kvs[i]'(by omega)).2, ?_, q.2⟩
  rw [hx]
  exact congrArg some (Prod.ext q.1 rfl)
theorem call_list_dict (hc : X.calm = true) : CallR X (.type "list") (fun xs H Q => ∃ (p : Addr) (kvs : List (Key × V)), xs = [.ref p] ∧ Rd H p (.dK kvs) ∧ ∀ l, H l = none → Q (.ref l) (upd H l (.lst (kvs.map fun kv => kV kv.1)))) := by
  intro pins s σ H xs us Q I r h
  obtain ⟨p, kvs, rfl, hp, q⟩ := h
  obtain ⟨u, rfl, ru⟩ := vals1 r
  cases ru
  obtain ⟨hz, lo, vs, rel, dd⟩ := dk_rd I.hok hp
  obtain ⟨ep, hat⟩ := dd.dictAt
  have hl := KV.length rel
  refine PySem.W.kdl_call (PySem.W.kdl_dict (knd := mixKind X.prog X.w) (kvs := vs) (ep := ep) lo) (I.ok.hd hc) hat (by omega) fun h' tk acc' c' hk hD hacc => ?_
  have hv : Vals (kvs.map fun kv => kV kv.1) acc'.toList := by
    refine Vals.of_get (by rw [List.length_map, Array.length_toList]; exact hl.trans hacc.1.symm) fun i x u hx hu => ?_
    obtain ⟨k, z, hkz, hkk⟩ := hacc.2 i u (by rw [← Array.getElem?_toList]; exact hu)
    obtain ⟨v, hv, _⟩ := KV.at rel hkz
    rw [List.getElem?_map, hv] at hx
    have hx' : kV k = x := Option.some.inj hx
    subst hx'
    exact rel_of_keyIs hkk
  refine ⟨.ref s.heap.objs.size, _, I.laid (t' := tk) (o := .lst (kvs.map fun kv => kV kv.1)) hk (Nat.le_refl _) ⟨by rw [List.length_map]; exact hz, acc'.toList, c', hv, by rw [Array.toArray_toList]; exact hD⟩, rfl, q _ (I.hok.fresh (Nat.le_refl _))⟩

/-! ### products of any bounded size -/
theorem op_mulB : OpR X (binaryOp .Mult) (rI IntMulOk fun i j => .int (i * j)) := opI fun _ _ _ _ _ _ _ hc q => mul_int q hc
end
theorem bt_len : bootBuiltins "len" = some (.builtin "len") := by decide +kernel
theorem bt_min : bootBuiltins "min" = some (.builtin "min") := by decide +kernel
theorem bt_max : bootBuiltins "max" = some (.builtin "max") := by decide +kernel
theorem bt_sum : bootBuiltins "sum" = some (.builtin "sum") := by decide +kernel
theorem bt_isinstance : bootBuiltins "isinstance" = some (.builtin "isinstance") := by decide +kernel
theorem bt_sorted : bootBuiltins "sorted" = some (.builtin "sorted") := by decide +kernel
theorem bt_int : bootBuiltins "int" = some (.type "int") := by decide +kernel
theorem bt_bool : bootBuiltins "bool" = some (.type "bool") := by decide +kernel
theorem bt_list : bootBuiltins "list" = some (.type "list") := by decide +kernel
theorem bt_tuple : bootBuiltins "tuple" = some (.type "tuple") := by decide +kernel
theorem bt_str : bootBuiltins "str" = some (.type "str") := by decide +kernel
theorem bt_reversed : bootBuiltins "reversed" = some (.type "reversed") := by decide +kernel
section
variable {X : Cx}
theorem ix_tupK (K : PySem.W.Frag) (h : X.K = K := by rfl) : IxR X (rIxT K) := h ▸ ix_tup
theorem ix_listK (K : PySem.W.Frag) (h : X.K = K := by rfl) : IxR X (rIxL K) := h ▸ ix_list
theorem pg_tupK (K : PySem.W.Frag) {es : List Expr} {k : Nat} {t : TGs} {n : Nat} {pos : Pos} (hc : X.calm = true) (h : PGs X es t) (hK : X.K = K := by rfl)
    (hn : (assignEach es X.env).length = n := by rfl) (hst : (assignEach es X.env).findIdx? (·.1) = none := by rfl) : PG X (.Tuple es k pos) (gTup K n t) := hK ▸ pg_tup hc h hn hst
theorem call_intB : CallR X (.type "int") (fun xs H Q => ∃ k, xs = [.bl k] ∧ Q (.int (if k then 1 else 0)) H) := fun pins s σ H xs us Q I r h => call_int1 pins s σ H xs us Q I r (.inr h)
end
theorem mul_10_50 : IntMulOk (10 ^ 50) (10 ^ 50) := IntMulOk.of_bits (by decide +kernel) (by decide +kernel)
end L2
-- Own3
set_option Elab.async false
set_option linter.all false
set_option maxRecDepth 100000
set_option maxHeartbeats 4000000
/-! Rules of our own over the layer, 3: list(reversed(xs)). -/
namespace L2
open PySem PySem.Spec PyProof.Rows
theorem rev_nolen : typeLookup (.type "list_reverseiterator") "__len__" = pure none := by
  rw [typeLookup_type, builtinLookup_eq_fast]
  kernel_rfl
theorem rev_hints : typeLookup (.type "list_reverseiterator") "__length_hint__" = pure (some (.builtin "list_reverseiterator.__length_hint__")) := by
  rw [typeLookup_type, builtinLookup_eq_fast]
  kernel_rfl
section
variable {prog : Program} {w : World} {A : Around} {E : Value → Shared → Prop} {s : Shared}
theorem rev_hint {it : Addr} {Q : Bool → Shared → Prop} (hT : s.TypeIs (.ref it) "list_reverseiterator") (h : Q false s) : wpAny (model prog w) A (Builtin.List.listLengthHint (.ref it)) Q E s := by
  unfold Builtin.List.listLengthHint
  refine wpAny_bind (wpAny_specialOf hT rev_nolen ?_)
  show wpAny _ A (specialOf (Value.ref it) (Str.ofString "__length_hint__") >>= _) _ _ s
  refine wpAny_bind (wpAny_specialOf hT rev_hints ?_)
  generalize hid : ("list_reverseiterator.__length_hint__" : String) = id0
  wp_delta
  rw [show splitId id0 = some ("list_reverseiterator", "__length_hint__") from by subst hid; decide +kernel]
  subst hid
  refine wpAny_bind (wpAny_isInstance (T := "list_reverseiterator") (b := true) hT (by rw [isSubtype_type]; kernel_rfl) ?_)
  exact wpAny_pure h
theorem rev_extend {R : Result → Shared → Prop} {it l S : Addr} {items : Array Value} {c₀ : Nat} (hh : A.handled = none) (hit : s.heap.IsRevIter it l ((items.size : Int) - 1)) (hl : s.heap.IsList l items) (hne : l ≠ it) (hSi : S ≠ it) (hSl : S ≠ l)
    (hS : s.heap.get? S = some { cls := .type "list", data := .seq #[] c₀ }) (hn : items.size ≤ sizeLine)
    (hR : ∀ h' tk acc' c', (∀ b o, b ≠ S → b ≠ it → s.heap.get? b = some o → h'.get? b = some o) → h'.get? S = some { cls := .type "list", dict := none, data := .seq acc' c', slots := #[] } →
      ItemsOf (fun i v => items[items.size - 1 - i]? = some v) acc' items.size → R (.ok (.ret .none)) { s with heap := h', toks := tk }) :
    wpAny (model prog w) A.in1 (Builtin.List.listExtendWith (.ref S) (.ref it) .none)
      (fun fin s' => match fin with | .done f => R (.ok f) s' | .again c' => c'.quiet = true ∧ codeAny (model prog w) A c' R s') (fun e s' => R (.error e) s') s := by
  have W := Walks.listRev (prog := prog) (w := w) (A := A.in1) hh it l hne items
  have hSf : S ∉ [it, l] := by simp [hSi, hSl]
  unfold Builtin.List.listExtendWith
  refine wpAny_bind (wpAny_typeOf (T := "list_reverseiterator") hit.typeIs ?_)
  have h1 : Builtin.List.listSameRef (.ref S) (.ref it) = false := by simp [Builtin.List.listSameRef, hSi]
  rw [if_neg (by rw [h1]; decide)]
  refine wpAny_bind (wpAny_pyIter_revIter hit ?_)
  refine wpAny_bind (wpAny_holding (rev_hint hit.typeIs ?_))
  rw [if_neg (by decide)]
  refine wpAny_pure ⟨plainId_quiet PySem.F.plain_extend_loop _, ?_⟩
  refine codeAny_extend_loopS W.toS hn S hSf .none items.size 0 s #[] c₀ rfl (Nat.zero_le _) ⟨Nat.zero_le _, ?_, hl⟩ hS (ItemsOf.nil _) fun s' acc' c' hm hS' hacc => ?_
  · simpa using hit
  · rw [Moved.eq_with hm]
    refine hR s'.heap s'.toks acc' c' (fun b o hb hb2 e => hm.heap b o (fun hmem => ?_) e) hS' hacc
    rcases List.mem_cons.mp hmem with e' | hmem
    · exact hb e'
    · exact hb2 (List.mem_singleton.mp hmem)
theorem rev_list {Q : Value → Shared → Prop} {it l : Addr} {items : Array Value} (hh : A.handled = none) (hit : s.heap.IsRevIter it l ((items.size : Int) - 1)) (hl : s.heap.IsList l items) (hne : l ≠ it) (hn : items.size ≤ sizeLine)
    (hQ : ∀ h' tk acc' c', (∀ b o, b ≠ it → s.heap.get? b = some o → h'.get? b = some o) → h'.get? s.heap.objs.size = some { cls := .type "list", dict := none, data := .seq acc' c', slots := #[] } →
      ItemsOf (fun i v => items[items.size - 1 - i]? = some v) acc' items.size → Q (.ref s.heap.objs.size) { s with heap := h', toks := tk }) :
    wpAny (model prog w) A (call (.type "list") [.ref it]) Q E s := by
  obtain ⟨oi, hoi, _⟩ := id hit
  obtain ⟨ol, hol, _⟩ := id hl
  have hi1 := Heap.lt_size hoi
  have hl1 := Heap.lt_size hol
  refine callType_codes (Q₁ := fun obj s₁ => obj = .ref s.heap.objs.size ∧ s₁ = { s with heap := s.heap.push { cls := .type "list", data := .seq #[] } }) PySem.F.called_list (PySem.F.typeCall_list_1 _) PySem.F.entry_list_init (code_list_new _ ⟨rfl, rfl⟩) fun obj s₁ h₁ => ?_
  obtain ⟨rfl, rfl⟩ := h₁
  have hS : (s.heap.push { cls := .type "list", data := .seq #[] }).get? s.heap.objs.size = some { cls := .type "list", data := .seq #[] } := Heap.get?_push_size _ rfl
  refine ⟨⟨_, hS, rfl⟩, PySem.F.args_list_init_2 _ _, ?_⟩
  show wpAny _ _ (do let old ← Builtin.List.listItems (.ref s.heap.objs.size); Builtin.List.listUpdate (.ref s.heap.objs.size) (fun _ => #[]); letGo old.toList.reverse; Builtin.List.listExtendWith (.ref s.heap.objs.size) (.ref it) .none) _ _ _
  refine wpAny_bind ?_
  unfold Builtin.List.listItems
  refine wpAny_bind (wpAny_seqItems hS rfl (wpAny_pure ?_))
  show wpAny _ _ (updateSeq s.heap.objs.size (fun _ => #[]) >>= fun _ => letGo (#[] : Array Value).toList.reverse >>= fun _ => Builtin.List.listExtendWith (.ref s.heap.objs.size) (.ref it) .none) _ _ _
  refine wpAny_bind (wpAny_updateSeq hS rfl ?_)
  have hS2 := Heap.get?_update_self (Obj.mapSeq (fun _ => (#[] : Array Value))) hS rfl
  have oth : ∀ b o, s.heap.get? b = some o → ((s.heap.push { cls := .type "list", data := .seq #[] }).update s.heap.objs.size (Obj.mapSeq (fun _ => (#[] : Array Value)))).get? b = some o := fun b o e =>
    (Heap.get?_update_other _ _ (Nat.ne_of_gt (Heap.lt_size e))).trans (Heap.get?_push_of_some _ e)
  refine wpAny_bind (wpAny_letGo ?_)
  refine rev_extend (A := A.in1) hh (hit.at fun o e => oth _ o e) (hl.at fun o e => oth _ o e) hne (Nat.ne_of_gt hi1) (Nat.ne_of_gt hl1) hS2 hn fun h' tk acc' c' hk hS' hacc => ?_
  exact ⟨rfl, hQ h' tk acc' c' (fun b o hb e => hk b o (Nat.ne_of_lt (Heap.lt_size e)) hb (oth b o e)) hS' hacc⟩
end
section
variable {X : Cx} {e : Expr} {te : TE} {p1 p2 q1 q2 : Pos}
def tListRev (K : PySem.W.Frag) (te : TE) : TE := fun σ H Q => te σ H fun x H1 => ∃ (a : Addr) (xs : List V), x = .ref a ∧ SqL K H1 a xs ∧ ∀ l, H1 l = none → Q (.ref l) (upd H1 l (.lst xs.reverse))
theorem pe_listrev (hc : X.calm = true) (hg : Gl X "list") (hm : X.mg "list" = none) (hg2 : Gl X "reversed") (hm2 : X.mg "reversed" = none) (he : PE X e te)
    (hs : starEach [Expr.Call (.Name "reversed" q1) [e] [] q2] X.env = [(false, eval (.Call (.Name "reversed" q1) [e] [] q2) X.env)] := by rfl) (hs2 : starEach [e] X.env = [(false, eval e X.env)] := by rfl) :
    PE X (.Call (.Name "list" p1) [.Call (.Name "reversed" q1) [e] [] q2] [] p2) (tListRev X.K te) := by
  intro pins s σ H Q I h
  refine Call_ (ld_blt I hg hm bt_list (PyProof.Rows.callWith_type1 ?_ hs rfl))
  rw [hs]
  refine Calls.spliced_cons (Call_ (ld_blt I hg2 hm2 bt_reversed (PyProof.Rows.callWith_type1 ?_ hs2 rfl)))
  rw [hs2]
  refine Calls.spliced_cons (thn (he pins s σ H _ I h) fun v s1 ⟨x, H1, I1, r1, q⟩ => ?_)
  obtain ⟨a, xs, rfl, hq, q⟩ := q
  cases r1
  refine Calls.spliced_nil ?_
  obtain ⟨its, rv, pl, hz⟩ := I1.list hq
  have hlen := rv.length
  refine call_reversed_list pl.isList ?_
  refine Calls.spliced_nil ?_
  obtain ⟨oa, hoa, _⟩ := id pl.isList
  have hlt := Heap.lt_size hoa
  refine rev_list (I.ok.hd hc) (l := a) (items := its.toArray) ⟨_, Heap.get?_push_size _ rfl, rfl, rfl⟩ (pl.isList.at fun o e => Heap.get?_push_of_some _ e) (Nat.ne_of_lt hlt) (by simp; omega) fun h' tk acc' c' hk hD hacc => ?_
  have hv : Vals xs.reverse acc'.toList := by
    refine Vals.of_get (by
      have e1 : acc'.toList.length = its.toArray.size := hacc.1
      rw [List.length_reverse, e1]
      simpa using hlen) fun i x u hx hu => ?_
    have hi : i < xs.length := by have := (List.getElem?_eq_some_iff.mp hx).1; rwa [List.length_reverse] at this
    have h2 := hacc.2 i u (by rw [← Array.getElem?_toList]; exact hu)
    simp only [List.size_toArray, List.getElem?_toArray] at h2
    obtain ⟨y, hy, ry⟩ := rv.get' h2
    rw [List.getElem?_reverse hi, hlen] at hx
    rw [hy] at hx
    cases hx
    exact ry
  have hsz : (s1.heap.push (revObj a ((its.toArray.size : Int) - 1))).objs.size = s1.heap.objs.size + 1 := Heap.size_push _ _
  refine ⟨.ref (s1.heap.objs.size + 1), _, I1.laid (t' := tk) (o := .lst xs.reverse) (a := s1.heap.objs.size + 1) (fun b u e => hk b u (Nat.ne_of_lt (Heap.lt_size e)) (Heap.get?_push_of_some _ e)) (Nat.le_succ _) ⟨by rw [List.length_reverse]; exact hz, acc'.toList, c', hv, ?_⟩, ?_, q _ (I1.hok.fresh (Nat.le_succ _))⟩
  · rw [Array.toArray_toList, ← hsz]
    exact hD
  · show Value.ref _ = Value.ref _
    rw [hsz]
end
end L2
-- Mth
set_option Elab.async false
set_option linter.all false
/-! The mathematics of lots and parts, without a heap. -/
namespace Bm
abbrev T3 := Int × Int × Int
def mn (l w : Int) : Int := if w < l then w else l
theorem mn_le_l (l w : Int) : mn l w ≤ l := by unfold mn; split <;> omega
theorem mn_le_w (l w : Int) : mn l w ≤ w := by unfold mn; split <;> omega
theorem mn_nn {l w : Int} (h1 : 0 ≤ l) (h2 : 0 ≤ w) : 0 ≤ mn l w := by unfold mn; split <;> omega
def takeB : List T3 → Int → List T3
  | [], _ => []
  | t :: r, w => (t.1, t.2.1 - mn t.2.1 w, t.2.2) :: takeB r (w - mn t.2.1 w)
def takeP : List T3 → Int → List T3
  | [], _ => []
  | t :: r, w => if 0 < mn t.2.1 w then (t.1, mn t.2.1 w, t.2.2) :: takeP r (w - mn t.2.1 w) else takeP r (w - mn t.2.1 w)
def held (ts : List T3) : Int := (ts.map (·.2.1)).sum
def keys (ts : List T3) : List Int := ts.map (·.1)
def NN (ts : List T3) : Prop := ∀ t ∈ ts, 0 ≤ t.2.1
theorem held_cons (t : T3) (r : List T3) : held (t :: r) = t.2.1 + held r := by simp [held]
theorem held_append (a b : List T3) : held (a ++ b) = held a + held b := by simp [held]
theorem held_nn : ∀ {ts : List T3}, NN ts → 0 ≤ held ts
  | [], _ => by simp [held]
  | t :: r, h => by
    rw [held_cons]
    have h1 := h t List.mem_cons_self
    have h2 := held_nn (ts := r) fun x hx => h x (List.mem_cons_of_mem _ hx)
    omega
theorem sum_reverse : ∀ l : List Int, l.reverse.sum = l.sum := fun l => by
  induction l with
  | nil => rfl
  | cons a r ih => rw [List.reverse_cons, List.sum_append, ih]; simp; omega
theorem held_reverse (ts : List T3) : held ts.reverse = held ts := by
  unfold held; rw [List.map_reverse, sum_reverse]
theorem takeB_len (ts : List T3) : ∀ w, (takeB ts w).length = ts.length := by
  induction ts with
  | nil => intro w; rfl
  | cons t r ih => intro w; simp [takeB, ih]
theorem takeP_len (ts : List T3) : ∀ w, (takeP ts w).length ≤ ts.length := by
  induction ts with
  | nil => intro w; simp [takeP]
  | cons t r ih => intro w; simp only [takeP]; split <;> simp <;> have := ih (w - mn t.2.1 w) <;> omega
theorem takeB_keys (ts : List T3) : ∀ w, keys (takeB ts w) = keys ts := by
  induction ts with
  | nil => intro w; rfl
  | cons t r ih => intro w; simp only [takeB, keys, List.map_cons]; exact congrArg _ (ih _)
theorem takeP_keys (ts : List T3) : ∀ w, ∀ n ∈ keys (takeP ts w), n ∈ keys ts := by
  induction ts with
  | nil => intro w n h; exact h
  | cons t r ih =>
    intro w n h
    simp only [takeP] at h
    split at h
    · rcases List.mem_cons.mp h with h | h
      · exact List.mem_cons.mpr (.inl h)
      · exact List.mem_cons_of_mem _ (ih _ n h)
    · exact List.mem_cons_of_mem _ (ih _ n h)
theorem takeB_nn : ∀ {ts : List T3} {w : Int}, NN ts → NN (takeB ts w)
  | [], _, _ => by intro t ht; simp [takeB] at ht
  | t :: r, w, h => by
    intro x hx
    rcases List.mem_cons.mp hx with rfl | hx
    · have := mn_le_l t.2.1 w
      show 0 ≤ t.2.1 - mn t.2.1 w
      omega
    · exact takeB_nn (ts := r) (fun y hy => h y (List.mem_cons_of_mem _ hy)) x hx
theorem takeP_pos : ∀ {ts : List T3} {w : Int}, ∀ p ∈ takeP ts w, 0 < p.2.1
  | [], _ => by intro p hp; simp [takeP] at hp
  | t :: r, w => by
    intro p hp
    simp only [takeP] at hp
    split at hp
    · rcases List.mem_cons.mp hp with rfl | hp
      · assumption
      · exact takeP_pos p hp
    · exact takeP_pos p hp
theorem held_take : ∀ {ts : List T3} {w : Int}, NN ts → 0 ≤ w → w ≤ held ts → held (takeP ts w) = w ∧ held (takeB ts w) = held ts - w
  | [], w, _, h0, h1 => by
    have : w = 0 := by simp [held] at h1; omega
    subst this
    exact ⟨rfl, rfl⟩
  | t :: r, w, h, h0, h1 => by
    have hl := h t List.mem_cons_self
    have hr : NN r := fun y hy => h y (List.mem_cons_of_mem _ hy)
    have hn := held_nn hr
    rw [held_cons] at h1
    have e : mn t.2.1 w = t.2.1 ∧ t.2.1 ≤ w ∨ mn t.2.1 w = w ∧ w < t.2.1 := by unfold mn; split <;> omega
    have hm := mn_nn hl h0
    have hw := mn_le_w t.2.1 w
    obtain ⟨i1, i2⟩ := held_take (ts := r) (w := w - mn t.2.1 w) hr (by omega) (by omega)
    refine ⟨?_, ?_⟩
    · simp only [takeP]
      split
      · rw [held_cons]; show mn t.2.1 w + _ = w; omega
      · omega
    · simp only [takeB]
      rw [held_cons, held_cons]
      show t.2.1 - mn t.2.1 w + _ = _
      omega

/-! ### the law's own walk -/
def look (R : List T3) (n : Int) : Option (Int × Int) := (R.find? fun t => decide (t.1 = n)).map (·.2)
def sub1 (R : List T3) (n m : Int) : List T3 := R.map fun t => if t.1 = n then (t.1, t.2.1 - m, t.2.2) else t
theorem nodup_reverse {l : List Int} (h : l.Nodup) : l.reverse.Nodup := by
  unfold List.Nodup at h ⊢
  rw [List.pairwise_reverse]
  exact h.imp fun h e => h e.symm
theorem keys_reverse (R : List T3) : keys R.reverse = (keys R).reverse := by simp [keys, List.map_reverse]
def okPart (up : Bool) (R : List T3) (last : Option Int) (p : T3) : Prop :=
  ∃ l, look R p.1 = some (l, p.2.2) ∧ 1 ≤ p.2.1 ∧ p.2.1 ≤ l ∧ ∀ x, last = some x → decide (x < p.1) = up
inductive Walk (up : Bool) : List T3 → Option Int → List T3 → List T3 → Option Int → Prop
  | nil {R last} : Walk up R last [] R last
  | cons {R last p ps R' last'} : okPart up R last p → Walk up (sub1 R p.1 p.2.1) (some p.1) ps R' last' → Walk up R last (p :: ps) R' last'
def okEnd (up : Bool) (R : List T3) (last : Option Int) : Prop := ∀ t ∈ R, ∀ x, last = some x → 0 < t.2.1 → t.1 ≠ x → decide (t.1 < x) ≠ up
def Ord (up : Bool) : List T3 → Prop
  | [] => True
  | t :: r => (∀ u ∈ r, t.1 ≠ u.1 ∧ decide (t.1 < u.1) = up) ∧ Ord up r
theorem Ord.nodup {up : Bool} : ∀ {ts : List T3}, Ord up ts → (keys ts).Nodup
  | [], _ => List.nodup_nil
  | t :: r, h => by
    refine List.nodup_cons.mpr ⟨fun hm => ?_, Ord.nodup h.2⟩
    obtain ⟨u, hu, e⟩ := List.mem_map.mp hm
    exact (h.1 u hu).1 e.symm

theorem NN.reverse {ts : List T3} (h : NN ts) : NN ts.reverse := fun t ht => h t (List.mem_reverse.mp ht)
/-! ### the law's stock -/
def num (ns : List Int) : Nat → Int
  | 0 => 0
  | k + 1 => num ns k + 1 + ns.getD k 0 % 3
def scl (c : Int) : Int := if c % 13 = 7 then 10 ^ 12 else 1
def near (ns : List Int) (k : Nat) : Int := ns.getD (((k : Int) + 1) % (ns.length : Int)).toNat 0
def leftOf (c n : Int) : Int := if c % 17 = 5 then n % (10 ^ 50 * 10 ^ 50 - 1) else c / 3 % 8 * scl c
def stockAt (ns : List Int) (k : Nat) : T3 := (num ns (k + 1), leftOf (ns.getD k 0) (near ns k), (near ns k + (k : Int)) % 7 * scl (ns.getD k 0))
def stockM (ns : List Int) : List T3 := (List.range ns.length).map (stockAt ns)

/-! ### given back -/
def addUp (ps : List T3) (n : Int) : Int := ((ps.filter fun p => decide (p.1 = n)).map (·.2.1)).sum
theorem addUp_nil (n : Int) : addUp [] n = 0 := rfl
theorem addUp_snoc (ps : List T3) (p : T3) (n : Int) : addUp (ps ++ [p]) n = addUp ps n + if n = p.1 then p.2.1 else 0 := by
  unfold addUp
  rw [List.filter_append, List.map_append, List.sum_append]
  by_cases h : p.1 = n
  · subst h; simp
  · have h' : ¬ n = p.1 := fun e => h e.symm
    simp [h, h']
def backM (ts ps : List T3) : List T3 := ts.map fun t => (t.1, t.2.1 + addUp ps t.1, t.2.2)
def worthM (ts : List T3) : Int := (ts.map fun t => t.2.1 * t.2.2).sum
theorem backM_len (ts ps : List T3) : (backM ts ps).length = ts.length := by simp [backM]
theorem backM_get {ts ps : List T3} {i : Nat} {t : T3} (h : ts[i]? = some t) : (backM ts ps)[i]? = some (t.1, t.2.1 + addUp ps t.1, t.2.2) := by
  unfold backM
  rw [List.getElem?_map, h]
  rfl
end Bm
-- Dat
set_option Elab.async false
set_option linter.all false
set_option maxRecDepth 100000
set_option maxHeartbeats 4000000
/-! Lots and parts in the abstract heap. -/
namespace Bl
open PySem L2 Bm
def v3 (t : T3) : List V := [.int t.1, .int t.2.1, .int t.2.2]
def Tri (H : Hp) (x : V) (t : T3) : Prop := ∃ a, x = .ref a ∧ H a = some (.tup (v3 t))
def Tris (H : Hp) (l : Addr) (ts : List T3) : Prop := ∃ xs, H l = some (.lst xs) ∧ Paired (Tri H) xs ts
def TK (H H' : Hp) : Prop := ∀ b xs, H b = some (.tup xs) → H' b = some (.tup xs)
theorem Tri.keep {H H' : Hp} (k : TK H H') {x : V} {t : T3} (h : Tri H x t) : Tri H' x t := by
  obtain ⟨a, e, h⟩ := h
  exact ⟨a, e, k a _ h⟩
theorem tris_keep {H H' : Hp} (k : TK H H') {xs : List V} {ts : List T3} (h : Paired (Tri H) xs ts) : Paired (Tri H') xs ts := L2.Paired.imp' (fun _ _ z => z.keep k) h
theorem tk_same {H H' : Hp} (s : Same H H') : TK H H' := fun b xs h => s b _ h
theorem Tris.same {H H' : Hp} (s : Same H H') {l : Addr} {ts : List T3} (h : Tris H l ts) : Tris H' l ts := by
  obtain ⟨xs, h1, h2⟩ := h
  exact ⟨xs, s _ _ h1, tris_keep (tk_same s) h2⟩
theorem same_new {H : Hp} {p : Addr} {o : HO} (h : H p = none) : Same H (upd H p o) := fun b u e => by rw [upd_ne (ne_of_none e h)]; exact e
def ButL (b : Addr) (H H' : Hp) : Prop := ∀ c o, H c = some o → c ≠ b → H' c = some o
theorem tk_butL {b : Addr} {H H' : Hp} {xs : List V} (k : ButL b H H') (hb : H b = some (.lst xs)) : TK H H' := fun c ys h => k c _ h (by rintro rfl; rw [hb] at h; cases h)
theorem Tris.but {b : Addr} {H H' : Hp} {xs : List V} (k : ButL b H H') (hb : H b = some (.lst xs)) {q : Addr} (hq : q ≠ b) {ts : List T3} (h : Tris H q ts) : Tris H' q ts := by
  obtain ⟨ys, h1, h2⟩ := h
  exact ⟨ys, k _ _ h1 hq, tris_keep (tk_butL k hb) h2⟩
theorem butL_push {H : Hp} {b p : Addr} {xs : List V} {o : HO} (hp : H p = none) (hb : H b = some (.lst xs)) : ButL b H (upd (upd H p o) b (.lst (xs ++ [.ref p]))) := fun c u e hc => by
  rw [upd_ne hc, upd_ne (ne_of_none e hp)]
  exact e
theorem tris_push {H : Hp} {b p : Addr} {xs : List V} {ts : List T3} {t : T3} (hp : H p = none) (hb : H b = some (.lst xs)) (h : Tris H b ts) : Tris (upd (upd H p (.tup (v3 t))) b (.lst (xs ++ [.ref p]))) b (ts ++ [t]) := by
  obtain ⟨ys, h1, h2⟩ := h
  rw [hb] at h1
  cases h1
  refine ⟨_, upd_same, Paired.snoc (tris_keep (tk_butL (butL_push hp hb) hb) h2) ⟨p, rfl, ?_⟩⟩
  have : p ≠ b := (ne_of_none hb hp).symm
  rw [upd_ne this, upd_same]
theorem tri_at {H : Hp} {xs : List V} {ts : List T3} {i : Nat} {x : V} (h : Paired (Tri H) xs ts) (hx : xs[i]? = some x) : ∃ t, ts[i]? = some t ∧ Tri H x t := by
  have hl := Paired.length h
  have hi : i < xs.length := (List.getElem?_eq_some_iff.mp hx).1
  have ht : ts[i]? = some (ts[i]'(by omega)) := List.getElem?_eq_getElem (by omega)
  exact ⟨_, ht, L2.Paired.at h hx ht⟩
theorem drop_at {ts : List T3} {i : Nat} {t : T3} (h : ts[i]? = some t) : ts.drop i = t :: ts.drop (i + 1) := by
  obtain ⟨hi, e⟩ := List.getElem?_eq_some_iff.mp h
  rw [List.drop_eq_getElem_cons hi, e]

/-! ### a list's type, short lengths -/
theorem tyL {K : PySem.W.Frag} {H : Hp} {b : Addr} {xs : List V} (h : H b = some (.lst xs)) : tyV K "list" (.ref b) H := .inl ⟨rfl, xs, SqL.of h⟩
theorem line_lt {n : Nat} (h : n ≤ 1000) : n < sizeLine := small1000 h
theorem line_le {n : Nat} (h : n ≤ 1000) : n ≤ sizeLine := Nat.le_of_lt (small1000 h)
theorem cmul_l {i j : Int} (h0 : 0 ≤ i) (h1 : i < 1000) : CMul i j := by
  have e1 : (-(2 ^ 64) : Int) < 0 := by decide
  have e2 : (1000 : Int) < 2 ^ 64 := by decide
  exact .inl ⟨Int.lt_of_lt_of_le e1 h0, Int.lt_trans h1 e2⟩
theorem rlo (n : Nat) : (-(2 ^ 62) : Int) ≤ (n : Int) := Int.le_trans (show (-(2 ^ 62) : Int) ≤ 0 by decide) (Int.natCast_nonneg n)
theorem rhi {n : Nat} (h : n ≤ 1000) : (n : Int) < 2 ^ 62 := Int.lt_of_le_of_lt (Int.ofNat_le.mpr h) (show ((1000 : Nat) : Int) < 2 ^ 62 by decide)
theorem atI_ix {α : Type} {xs : List α} {i : Int} {v : α} (h0 : 0 ≤ i) (h : xs[i.toNat]? = some v) : atI xs i = some v := by
  have e : i = ((i.toNat : Nat) : Int) := by omega
  rw [e]
  exact atI_nat h
theorem atI_ints {ns : List Int} {i : Int} (h0 : 0 ≤ i) (h1 : i < ns.length) : atI (ns.map V.int) i = some (.int (ns.getD i.toNat 0)) := by
  refine atI_ix h0 ?_
  have hi : i.toNat < ns.length := by omega
  rw [List.getElem?_map, List.getElem?_eq_getElem hi, List.getD_eq_getElem?_getD, List.getElem?_eq_getElem hi]
  rfl

/-! ### the law's rows: a dict of numbers, each with a list of its own -/
structure RowsL (H : Hp) (d : Addr) (L : List (T3 × Addr)) : Prop where
  dc : H d = some (.dK (L.map fun p => (Sum.inl p.1.1, V.ref p.2)))
  nd : (L.map (·.1.1)).Nodup
  na : (L.map (·.2)).Nodup
  own : ∀ p ∈ L, H p.2 = some (.lst [.int p.1.2.1, .int p.1.2.2])
def setL (L : List (T3 × Addr)) (n l : Int) : List (T3 × Addr) := L.map fun p => if p.1.1 = n then ((p.1.1, l, p.1.2.2), p.2) else p
def lastV : Option Int → V
  | none => .non
  | some x => .int x


theorem take_snoc {α : Type} {ts : List α} {i : Nat} {t : α} (h : ts[i]? = some t) : ts.take (i + 1) = ts.take i ++ [t] := by
  obtain ⟨hi, e⟩ := List.getElem?_eq_some_iff.mp h
  rw [List.take_succ, h]
  rfl

/-! ### from the newest on -/
def downB (ts : List T3) (w : Int) : List T3 := (takeB ts.reverse w).reverse
def downP (ts : List T3) (w : Int) : List T3 := takeP ts.reverse w
theorem downB_len (ts : List T3) (w : Int) : (downB ts w).length = ts.length := by unfold downB; rw [List.length_reverse, takeB_len, List.length_reverse]
theorem paired_reverse {α β : Type} {F : α → β → Prop} : ∀ {l₁ : List α} {l₂ : List β}, Paired F l₁ l₂ → Paired F l₁.reverse l₂.reverse
  | _, _, .nil => .nil
  | _, _, .cons r t => by
    rw [List.reverse_cons, List.reverse_cons]
    exact Paired.snoc (paired_reverse t) r
end Bl
-- Sps
set_option Elab.async false
set_option linter.all false
set_option maxRecDepth 100000
set_option maxHeartbeats 4000000
/-! The promises of the defs that several laws share. -/
namespace Bl
open PySem L2 Bm
def spWhole : Sp := fun vs H Q _ => ∃ i : Int, vs = [.int i] ∧ Q (.bl true) H
def spAt (K : PySem.W.Frag) : Sp := fun vs H Q _ => ∃ (a : Addr) (ns : List Int) (k : Int), vs = [.ref a, .int k] ∧ SqL K H a (ns.map V.int) ∧ 0 ≤ k ∧ Q (.int (ns.getD k.toNat 0)) H
def spTri : Sp := fun vs H Q _ => ∃ (l : Addr) (ts : List T3), vs = [.ref l] ∧ Tris H l ts ∧ Q (.bl true) H
def spTakeBy (fB fP : List T3 → Int → List T3) : Sp := fun vs H Q _ => ∃ (l : Addr) (ts : List T3) (am : Int), vs = [.ref l, .int am] ∧ Tris H l ts ∧ ts.length ≤ 500 ∧
  ∀ (p b q : Addr) (H' : Hp), Same H H' → H p = none → H b = none → H q = none → b ≠ q → H' p = some (.tup [.ref b, .ref q]) → Tris H' b (fB ts am) → Tris H' q (fP ts am) → Q (.ref p) H'
def spTake : Sp := spTakeBy takeB takeP
def spStock (K : PySem.W.Frag) : Sp := fun vs H Q _ => ∃ (a : Addr) (ns : List Int), vs = [.ref a] ∧ SqL K H a (ns.map V.int) ∧ ns.length ≤ 500 ∧
  ∀ (l : Addr) (H' : Hp), Same H H' → H l = none → Tris H' l (stockM ns) → Q (.ref l) H'
def spFair : Sp := fun vs H Q _ => ∃ (d q : Addr) (L : List (T3 × Addr)) (ps R' : List T3) (am : Int) (up : Bool) (last : Option Int), vs = [.ref d, .ref q, .int am, .bl up] ∧ RowsL H d L ∧ Tris H q ps ∧ L.length ≤ 500 ∧
  Walk up (L.map (·.1)) none ps R' last ∧ okEnd up R' last ∧ held ps = am ∧
  ∀ (L' : List (T3 × Addr)) (H' : Hp), RowsL H' d L' → L'.map (·.1) = R' → L'.map (·.2) = L.map (·.2) → (∀ c o, H c = some o → c ∉ L.map (·.2) → H' c = some o) → Q (.bl true) H'
def spLaw (K : PySem.W.Frag) : Sp := fun vs H Q _ => ∃ (a : Addr) (ns : List Int), vs = [.ref a] ∧ SqL K H a (ns.map V.int) ∧ ns.length ≤ 63 ∧ ∀ H', Q (.bl true) H'

def spBack : Sp := fun vs H Q _ => ∃ (l q : Addr) (ts ps : List T3), vs = [.ref l, .ref q] ∧ Tris H l ts ∧ Tris H q ps ∧ ts.length ≤ 500 ∧ ps.length ≤ 500 ∧
  ∀ (r : Addr) (H' : Hp), Same H H' → H r = none → Tris H' r (backM ts ps) → Q (.ref r) H'
def spHeld : Sp := fun vs H Q _ => ∃ (l : Addr) (ts : List T3), vs = [.ref l] ∧ Tris H l ts ∧ ts.length ≤ 500 ∧ ∀ H', Same H H' → Q (.int (held ts)) H'
def spWorth : Sp := fun vs H Q _ => ∃ (l : Addr) (ts : List T3), vs = [.ref l] ∧ Tris H l ts ∧ ts.length ≤ 500 ∧ (∀ t ∈ ts, IntMulOk t.2.1 t.2.2) ∧ ∀ H', Same H H' → Q (.int (worthM ts)) H'
def SumsAt (H : Hp) (d : Addr) (ps : List T3) (n : Nat) : Prop := ∃ kvs, H d = some (.dK kvs) ∧ kvs.length ≤ n ∧ ∀ k : Int, (valV kvs (Sum.inl k : Key)).getD (.int 0) = .int (addUp ps k)
theorem sums_put {kvs : List (Key × V)} {ps : List T3} {p : T3} (h : ∀ k : Int, (valV kvs (Sum.inl k : Key)).getD (.int 0) = .int (addUp ps k)) (k : Int) :
    (valV (putK kvs (Sum.inl p.1 : Key) (.int (addUp ps p.1 + p.2.1))) (Sum.inl k : Key)).getD (.int 0) = .int (addUp (ps ++ [p]) k) := by
  rw [valV_put, addUp_snoc]
  by_cases e : k = p.1
  · subst e
    rw [if_pos rfl, if_pos rfl]
    rfl
  · rw [if_neg (fun z => e (Sum.inl.inj z)), if_neg e, h k, Int.add_zero]

end Bl
-- Own4
set_option Elab.async false
set_option linter.all false
set_option maxRecDepth 100000
set_option maxHeartbeats 4000000
/-! Rules of our own over the layer, 4: text * int, sorted of texts, max of ints; the law's head with the ints' sizes. -/
namespace L2
open PySem PySem.Spec PyProof.Rows
section
variable {X : Cx}
theorem op_mul_str : OpR X (binaryOp .Mult) (fun x y H Q => ∃ i n, x = .str i ∧ y = .int n ∧ MulOk i n ∧ Q (.str (Txt.mul i n)) H) := by
  intro pins s σ H x y v u Q I rx ry h
  obtain ⟨i, n, rfl, rfl, hok, q⟩ := h
  obtain ⟨t, rfl⟩ := rx
  obtain ⟨t', rfl⟩ := ry
  exact SB.mul hok fun t2 k => ⟨.str _, H, I.tok k, ⟨t2, rfl⟩, q⟩
theorem strsAre_of : ∀ {ss : List Str} {us : List Value}, Vals (ss.map V.str) us → StrsAre us ss
  | [], _, r => by cases r; exact .nil
  | x :: ss, _, r => by
    cases r with
    | cons a b =>
      obtain ⟨t, rfl⟩ := a
      exact .cons x t (strsAre_of b)
theorem vals_strs : ∀ {us : List Value} {ss : List Str}, StrsAre us ss → Vals (ss.map V.str) us
  | _, _, .nil => .nil
  | _, _, .cons y t r => .cons ⟨t, rfl⟩ (vals_strs r)
theorem call_sortedS : CallR X (.builtin "sorted") (fun xs H Q => ∃ (p : Addr) (ss : List Str), xs = [.ref p] ∧ SqL X.K H p (ss.map V.str) ∧ ss.length < 64 ∧ ∀ l, H l = none → ∀ ss' : List Str, ss'.Perm ss → Q (.ref l) (upd H l (.lst (ss'.map V.str)))) := by
  intro pins s σ H xs us Q I r h
  obtain ⟨p, ss, rfl, hq, h64, q⟩ := h
  obtain ⟨u, rfl, ru⟩ := vals1 r
  cases ru
  obtain ⟨its, rv, pl, hz⟩ := I.list hq
  have hlen := rv.length
  rw [List.length_map] at hlen
  refine sorted_strs pl.isList (strsAre_of rv) (by omega) fun out ss' h1 h2 _ => ?_
  obtain ⟨e, he⟩ := sortedAll_at s.heap its out
  have hv : Vals (ss'.map V.str) out.toList := vals_strs h1
  refine ⟨.ref (s.heap.objs.size + 1), _, I.laid (t' := s.toks) (o := .lst (ss'.map V.str)) (a := s.heap.objs.size + 1) (fun b u e => sortedAll_old e) (Nat.le_succ _) ⟨?_, out.toList, e, hv, by rw [Array.toArray_toList]; exact he⟩, rfl, q _ (I.hok.fresh (Nat.le_succ _)) ss' h2⟩
  rw [List.length_map, h2.length_eq]
  rw [List.length_map] at hz
  exact hz
end
/-! ### the head: the script's ints are of bounded size -/
theorem bits_of_weight : ∀ {ns : List Int} {m : Nat}, PySem.W.WData.weightAll (ns.map PySem.W.WData.int) ≤ m → ∀ n ∈ ns, Builtin.Int.intBits n ≤ m
  | [], _, _, n, h => by simp at h
  | a :: r, m, h, n, hn => by
    have h' : PySem.W.WData.weight (.int a) + 1 + PySem.W.WData.weightAll (r.map PySem.W.WData.int) ≤ m := h
    rcases List.mem_cons.mp hn with rfl | hn
    · have e : PySem.W.WData.weight (.int n) = Builtin.Int.intBits n := by
        unfold PySem.W.WData.weight Builtin.Int.intBits
        first | rfl | simp
      omega
    · exact bits_of_weight (ns := r) (by omega) n hn
theorem bits_of_lay {ns : List Int} (h : PySem.W.WData.layableAll [PySem.W.WData.list (ns.map PySem.W.WData.int)] = true) : ∀ n ∈ ns, Builtin.Int.intBits n ≤ 2 ^ 20 := by
  unfold PySem.W.WData.layableAll at h
  simp only [List.all_cons, List.all_nil, Bool.and_true] at h
  obtain ⟨_, _, h3⟩ := PySem.W.layableW_iff.mp h
  have h4 : PySem.W.WData.weightAll (ns.map PySem.W.WData.int) ≤ 2 ^ 20 := by
    unfold PySem.W.WData.weight at h3
    exact h3
  exact bits_of_weight h4
end L2
namespace Att
open PySem PySem.W PySem.Calls PyProof.Rows
theorem attach_callL {l : OpenLaw} {n : Nat} {q : Program} {loose : List Str} {XP : (Str → Option Value) → Heap → Prop} {YP : World → Heap → Prop} {d : DefRec}
    (hn : l.most = some n) (hdf : d.params.defaults = [])
    (call : ∀ (w : World) (s₀ s₁ : Shared) (mg mb : Str → Option Value) (fa : Addr) (o : Obj) (pm cd doc : Value) (a : Addr) (vs : List Value) (ns : List Int),
      Ground q loose [] XP w s₀ mg mb s₁.heap → YP w s₁.heap →
      s₁.heap.get? fa = some o → o.data = .func (docDef d.name d.params d.body d.scope pm cd doc) → s₁.heap.CodeRec cd d.name → mg d.name = some (.ref fa) →
      s₁.heap.get? a = some { cls := .type "list", data := .seq vs.toArray } → IntsAre vs ns → ns.length ≤ n → (∀ n ∈ ns, Builtin.Int.intBits n ≤ 2 ^ 20) → s₁.gens = #[] →
      codeAny (model l.prog w) callerA (.call (.ref fa) ⟨[.ref a], []⟩) (fun r s' => r = .ok (.ret (.bool true)) ∧ OldK s₁.heap s'.heap ∧ s'.os = s₁.os ∧ AllBare s'.gens) s₁) :
    WalkO q loose XP YP l.row.toRowW d [] (fun f vs => PySem.call f vs) := by
  intro w s₀ s₁ mg mb G Y fa o pm cd doc dV kV ho hd hcd hD hmg hg args vals as hpre hlay hrd hwl hlo
  obtain rfl : dV = .none := Dflts.none hD hdf
  obtain rfl : kV = .none := Dflts.noKw hD
  obtain ⟨a, vs, ns, rfl, rfl, hobj, hints, hlen⟩ := script_of hn hpre hwl
  refine enter_call (codeAny_mono (call w s₀ s₁ mg mb fa o pm cd doc a vs ns G Y ho (fd_plain hd) hcd hmg hobj hints hlen (L2.bits_of_lay hlay) hg) fun r s' hq => ?_)
  obtain ⟨rfl, h2, h3, h4⟩ := hq
  exact ⟨.inl ⟨.bool true, .bool true, [], rfl, fun _ => rfl, .bool true, post_true l _, fun _ => ⟨List.Pairwise.nil, fun _ hm => (nomatch hm)⟩⟩, h2, h3, h4⟩
end Att
namespace L2
open PySem PySem.Spec PyProof.Rows
end L2
-- Barn
set_option Elab.async false
set_option linter.all false
set_option maxRecDepth 100000
set_option maxHeartbeats 4000000
/-! The barn: what it holds, what a deed makes of it, and how it lies in the abstract heap. -/
namespace Bl
open PySem L2 Bm
abbrev WL := List (Str × List T3)
structure Bst where
  L : WL
  n : Nat
  U : WL
def lotsW (L : WL) (w : Str) : List T3 := ((L.find? fun p => decide (p.1 = w)).map (·.2)).getD []
def putW (L : WL) (w : Str) (ts : List T3) : WL := if (L.any fun p => decide (p.1 = w)) = true then L.map (fun p => if p.1 = w then (p.1, ts) else p) else L ++ [(w, ts)]
inductive Ans where
  | num (n : Nat) | no | use (k : Nat) (ps : List T3) | parts (ps : List T3) | cnt (x : Str) (ps : List T3)
inductive Deed where
  | come (w : Str) (am pr : Int) | use (w : Str) (am : Int) | back (k am : Int) | count (w : Str) (f : Int)
def newestPrice (ts : List T3) : Int := ((ts.getLast?).map (·.2.2)).getD 0
def comeB (b : Bst) (w : Str) (am pr : Int) : Bst := ⟨putW b.L w (lotsW b.L w ++ [((b.n : Int), am, pr)]), b.n + 1, b.U⟩
def useB (b : Bst) (w : Str) (am : Int) : Bst × Ans :=
  if held (lotsW b.L w) < am then (b, .no) else (⟨putW b.L w (takeB (lotsW b.L w) am), b.n, b.U ++ [(w, takeP (lotsW b.L w) am)]⟩, .use b.U.length (takeP (lotsW b.L w) am))
def backB (b : Bst) (k am : Int) : Bst × Ans :=
  if 0 ≤ k then match b.U[k.toNat]? with
    | some (w, out) => if held out < am then (b, .no) else (⟨putW b.L w (backM (lotsW b.L w) (downP out am)), b.n, b.U.set k.toNat (w, downB out am)⟩, .parts (downP out am))
    | none => (b, .no)
  else (b, .no)
def countB (b : Bst) (w : Str) (f : Int) : Bst × Ans :=
  if f < held (lotsW b.L w) then (⟨putW b.L w (downB (lotsW b.L w) (held (lotsW b.L w) - f)), b.n, b.U⟩, .cnt "lost" (downP (lotsW b.L w) (held (lotsW b.L w) - f)))
  else if held (lotsW b.L w) < f then (comeB b w (f - held (lotsW b.L w)) (newestPrice (lotsW b.L w)), .cnt "more" [((b.n : Int), f - held (lotsW b.L w), newestPrice (lotsW b.L w))])
  else (b, .cnt "same" [])
def step (b : Bst) : Deed → Bst × Ans
  | .come w am pr => (comeB b w am pr, .num b.n)
  | .use w am => useB b w am
  | .back k am => backB b k am
  | .count w f => countB b w f
structure Small (b : Bst) (k : Nat) : Prop where
  l : b.L.length ≤ k
  u : b.U.length ≤ k
  t : ∀ w, (lotsW b.L w).length ≤ k
  o : ∀ q ∈ b.U, q.2.length ≤ k
  n : b.n ≤ k
theorem lotsW_cons (p : Str × List T3) (L : WL) (w : Str) : lotsW (p :: L) w = if p.1 = w then p.2 else lotsW L w := by
  unfold lotsW
  rw [List.find?_cons]
  by_cases h : p.1 = w
  · simp [h]
  · simp [h]
theorem lotsW_map (w : Str) (ts : List T3) (v : Str) : ∀ L : WL, lotsW (L.map fun p => if p.1 = w then (p.1, ts) else p) v = if v = w ∧ (L.any fun p => decide (p.1 = w)) = true then ts else lotsW L v
  | [] => by simp [lotsW]
  | p :: L => by
    rw [List.map_cons, lotsW_cons, lotsW_map w ts v L, lotsW_cons]
    by_cases h : p.1 = w
    · by_cases hv : v = w
      · subst hv; simp [h]
      · have : ¬ w = v := fun e => hv e.symm
        simp [h, hv, this]
    · by_cases hv : p.1 = v
      · subst hv; simp [h]
      · rw [if_neg h, if_neg hv, if_neg hv, List.any_cons, decide_eq_false h, Bool.false_or]
theorem lotsW_snoc (w : Str) (ts : List T3) (v : Str) : ∀ L : WL, ¬ (L.any fun p => decide (p.1 = w)) = true → lotsW (L ++ [(w, ts)]) v = if v = w then ts else lotsW L v
  | [], _ => by
    rw [List.nil_append, lotsW_cons]
    by_cases h : v = w
    · subst h; simp
    · have : ¬ w = v := fun e => h e.symm
      simp [h, this]
  | p :: L, h => by
    simp only [List.any_cons, Bool.or_eq_true, not_or, decide_eq_true_eq] at h
    rw [List.cons_append, lotsW_cons, lotsW_snoc w ts v L h.2, lotsW_cons]
    by_cases hv : p.1 = v
    · subst hv; simp [h.1]
    · simp [hv]
theorem lotsW_put (L : WL) (w v : Str) (ts : List T3) : lotsW (putW L w ts) v = if v = w then ts else lotsW L v := by
  unfold putW
  split
  · rename_i h
    rw [lotsW_map]
    by_cases hv : v = w <;> simp [hv, h]
  · rename_i h
    exact lotsW_snoc w ts v L h
theorem putW_len (L : WL) (w : Str) (ts : List T3) : (putW L w ts).length ≤ L.length + 1 := by unfold putW; split <;> simp
theorem lotsW_mem : ∀ {L : WL} {w : Str}, lotsW L w = [] ∨ (w, lotsW L w) ∈ L
  | [], _ => .inl rfl
  | p :: L, w => by
    rw [lotsW_cons]
    split
    · rename_i h; subst h; exact .inr List.mem_cons_self
    · rcases lotsW_mem (L := L) (w := w) with h | h
      · exact .inl h
      · exact .inr (List.mem_cons_of_mem _ h)

/-! ### in the heap -/
def flds (d : Addr) (n : Nat) (u : Addr) : List (Str × V) := putF "uses" (.ref u) (putF "lots_come" (.int (n : Int)) (putF "lots_by_ware" (.ref d) []))
theorem f12 : ¬ (("lots_come" : Str) = "uses") := by decide +kernel
theorem f13 : ¬ (("lots_by_ware" : Str) = "uses") := by decide +kernel
theorem f23 : ¬ (("lots_by_ware" : Str) = "lots_come") := by decide +kernel
theorem flds_eq (d : Addr) (n : Nat) (u : Addr) : flds d n u = ([("lots_by_ware", V.ref d), ("lots_come", V.int (n : Int)), ("uses", V.ref u)] : List (Str × V)) := by
  unfold flds
  simp only [putF, if_neg f12, if_neg f13, if_neg f23]
theorem flds_ware (d : Addr) (n : Nat) (u : Addr) : (flds d n u).lookup ("lots_by_ware" : Str) = some (.ref d) := by
  unfold flds
  rw [lookup_putF, if_neg f13, lookup_putF, if_neg f23, lookup_putF, if_pos rfl]
theorem flds_come (d : Addr) (n : Nat) (u : Addr) : (flds d n u).lookup ("lots_come" : Str) = some (.int (n : Int)) := by
  unfold flds
  rw [lookup_putF, if_neg f12, lookup_putF, if_pos rfl]
theorem flds_uses (d : Addr) (n : Nat) (u : Addr) : (flds d n u).lookup ("uses" : Str) = some (.ref u) := by
  unfold flds
  rw [lookup_putF, if_pos rfl]
theorem flds_no (d : Addr) (n : Nat) (u : Addr) {m : Str} (h1 : ¬ m = "uses") (h2 : ¬ m = "lots_come") (h3 : ¬ m = "lots_by_ware") : (flds d n u).lookup m = none := by
  unfold flds
  rw [lookup_putF, if_neg h1, lookup_putF, if_neg h2, lookup_putF, if_neg h3]
  rfl
theorem flds_put (d : Addr) (n m : Nat) (u : Addr) : putF "lots_come" (.int (m : Int)) (flds d n u) = flds d m u := by
  rw [flds_eq, flds_eq]
  simp only [putF]
  rw [if_neg f23]
  simp
theorem flds_few (d : Addr) (n : Nat) (u : Addr) : (flds d n u).length < 1000 := by rw [flds_eq]; show 3 < 1000; decide
def WareAt (Z : List Addr) (H : Hp) (kv : Key × V) (p : Str × List T3) : Prop := kv.1 = Sum.inr p.1 ∧ ∃ a, kv.2 = .ref a ∧ a ∉ Z ∧ Tris H a p.2
def UseAt (Z : List Addr) (H : Hp) (x : V) (q : Str × List T3) : Prop := ∃ a l, x = .ref a ∧ H a = some (.tup [.str q.1, .ref l]) ∧ l ∉ Z ∧ Tris H l q.2
structure BarnAt (C : Addr) (Z : List Addr) (H : Hp) (p d u : Addr) (b : Bst) : Prop where
  zu : u ∈ Z
  occ : ∀ z ∈ Z, ∃ o, H z = some o
  ob : ∃ dx, H p = some (.ins C dx (flds d b.n u))
  dc : ∃ kvs, H d = some (.dK kvs) ∧ Paired (WareAt Z H) kvs b.L
  us : ∃ xs, H u = some (.lst xs) ∧ Paired (UseAt Z H) xs b.U
def KB (p d u : Addr) (H H' : Hp) : Prop := ∀ c o, H c = some o → c ≠ p → c ≠ d → c ≠ u → H' c = some o
theorem KB.trans {p d u : Addr} {H H1 H2 : Hp} (a : KB p d u H H1) (b : KB p d u H1 H2) : KB p d u H H2 := fun c o e h1 h2 h3 => b c o (a c o e h1 h2 h3) h1 h2 h3
theorem kb_same {p d u : Addr} {H H' : Hp} (s : Same H H') : KB p d u H H' := fun c o e _ _ _ => s c o e
structure KL (Z : List Addr) (H H' : Hp) : Prop where
  t : ∀ c xs, H c = some (.tup xs) → H' c = some (.tup xs)
  l : ∀ c xs, H c = some (.lst xs) → c ∉ Z → H' c = some (.lst xs)
theorem Tris.kl {Z : List Addr} {H H' : Hp} (k : KL Z H H') {q : Addr} {ts : List T3} (hq : q ∉ Z) (h : Tris H q ts) : Tris H' q ts := by
  obtain ⟨xs, h1, h2⟩ := h
  exact ⟨xs, k.l _ _ h1 hq, tris_keep k.t h2⟩
theorem kl_same {Z : List Addr} {H H' : Hp} (s : Same H H') : KL Z H H' := ⟨fun c xs e => s _ _ e, fun c xs e _ => s _ _ e⟩
theorem WareAt.kl {Z : List Addr} {H H' : Hp} (k : KL Z H H') {kv : Key × V} {p : Str × List T3} (h : WareAt Z H kv p) : WareAt Z H' kv p := by
  obtain ⟨e, a, h1, h2, h3⟩ := h
  exact ⟨e, a, h1, h2, h3.kl k h2⟩
theorem UseAt.kl {Z : List Addr} {H H' : Hp} (k : KL Z H H') {x : V} {q : Str × List T3} (h : UseAt Z H x q) : UseAt Z H' x q := by
  obtain ⟨a, l, h1, h2, h3, h4⟩ := h
  exact ⟨a, l, h1, k.t _ _ h2, h3, h4.kl k h3⟩
theorem BarnAt.same {C : Addr} {Z : List Addr} {H H' : Hp} {p d u : Addr} {b : Bst} (B : BarnAt C Z H p d u b) (s : Same H H') : BarnAt C Z H' p d u b := by
  obtain ⟨zu, occ, ⟨dx, h1⟩, ⟨kvs, h2, h3⟩, ⟨xs, h4, h5⟩⟩ := B
  exact ⟨zu, fun z hz => let ⟨o, e⟩ := occ z hz; ⟨o, s _ _ e⟩, ⟨dx, s _ _ h1⟩, ⟨kvs, s _ _ h2, L2.Paired.imp' (fun _ _ z => z.kl (kl_same s)) h3⟩, ⟨xs, s _ _ h4, L2.Paired.imp' (fun _ _ z => z.kl (kl_same s)) h5⟩⟩
theorem BarnAt.fresh {C : Addr} {Z : List Addr} {H : Hp} {p d u : Addr} {b : Bst} (B : BarnAt C Z H p d u b) {a : Addr} (h : H a = none) : a ∉ Z := fun hz => by
  obtain ⟨o, e⟩ := B.occ a hz
  rw [h] at e
  cases e
theorem kl_kb {C : Addr} {Z : List Addr} {H H' : Hp} {p d u : Addr} {b : Bst} (B : BarnAt C Z H p d u b) (k : KB p d u H H') : KL Z H H' := by
  obtain ⟨zu, occ, ⟨dx, h1⟩, ⟨kvs, h2, h3⟩, ⟨xs, h4, h5⟩⟩ := B
  refine ⟨fun c ys e => k c _ e ?_ ?_ ?_, fun c ys e hc => k c _ e ?_ ?_ fun z => hc (z ▸ zu)⟩
  · rintro rfl; rw [h1] at e; cases e
  · rintro rfl; rw [h2] at e; cases e
  · rintro rfl; rw [h4] at e; cases e
  · rintro rfl; rw [h1] at e; cases e
  · rintro rfl; rw [h2] at e; cases e
theorem ware_val {Z : List Addr} {H : Hp} {w : Str} : ∀ {kvs : List (Key × V)} {L : WL}, Paired (WareAt Z H) kvs L → (valV kvs (Sum.inr w : Key) = none ∧ lotsW L w = []) ∨ ∃ a, valV kvs (Sum.inr w : Key) = some (.ref a) ∧ a ∉ Z ∧ Tris H a (lotsW L w)
  | _, _, .nil => .inl ⟨rfl, rfl⟩
  | kv :: _, p :: L, .cons h r => by
    obtain ⟨e, a, h1, h2, h3⟩ := h
    by_cases hw : p.1 = w
    · refine .inr ⟨a, ?_, h2, ?_⟩
      · rw [valV_pos (by rw [e, hw]), h1]
      · rw [lotsW_cons, if_pos hw]; exact h3
    · rw [valV_neg (by rw [e]; exact fun z => hw (Sum.inr.inj z)), lotsW_cons, if_neg hw]
      exact ware_val r
theorem ware_any {Z : List Addr} {H : Hp} {w : Str} : ∀ {kvs : List (Key × V)} {L : WL}, Paired (WareAt Z H) kvs L → (kvs.any fun kv => decide (kv.1 = (Sum.inr w : Key))) = L.any fun p => decide (p.1 = w)
  | _, _, .nil => rfl
  | kv :: _, p :: L, .cons h r => by
    rw [List.any_cons, List.any_cons, ware_any r]
    congr 1
    rw [h.1]
    by_cases hw : p.1 = w
    · rw [hw]; simp
    · rw [decide_eq_false hw, decide_eq_false (fun z => hw (Sum.inr.inj z))]
theorem ware_put {Z : List Addr} {H : Hp} {w : Str} {a : Addr} {ts : List T3} {kvs : List (Key × V)} {L : WL} (h : Paired (WareAt Z H) kvs L) (ha : a ∉ Z) (hT : Tris H a ts) : Paired (WareAt Z H) (putK kvs (Sum.inr w : Key) (.ref a)) (putW L w ts) := by
  unfold putK putW
  rw [ware_any h]
  split
  · have go : ∀ {kvs : List (Key × V)} {L : WL}, Paired (WareAt Z H) kvs L → Paired (WareAt Z H) (kvs.map fun kv => if kv.1 = (Sum.inr w : Key) then (kv.1, V.ref a) else kv) (L.map fun p => if p.1 = w then (p.1, ts) else p) := by
      intro kvs L h
      induction h with
      | nil => exact .nil
      | @cons kv p kvs L h r ih =>
        refine .cons ?_ ih
        by_cases hw : p.1 = w
        · show WareAt Z H (if kv.1 = (Sum.inr w : Key) then (kv.1, V.ref a) else kv) (if p.1 = w then (p.1, ts) else p)
          rw [if_pos (by rw [h.1, hw]), if_pos hw]
          exact ⟨h.1, a, rfl, ha, hT⟩
        · show WareAt Z H (if kv.1 = (Sum.inr w : Key) then (kv.1, V.ref a) else kv) (if p.1 = w then (p.1, ts) else p)
          rw [if_neg (by rw [h.1]; exact fun z => hw (Sum.inr.inj z)), if_neg hw]
          exact h
    exact go h
  · exact Paired.snoc h ⟨rfl, a, rfl, ha, hT⟩
def AnsV (Z : List Addr) (H : Hp) (v : V) : Ans → Prop
  | .num n => v = .int (n : Int)
  | .no => v = .non
  | .use k ps => ∃ a l, v = .ref a ∧ H a = some (.tup [.int (k : Int), .ref l]) ∧ l ∉ Z ∧ Tris H l ps
  | .parts ps => ∃ l, v = .ref l ∧ l ∉ Z ∧ Tris H l ps
  | .cnt x ps => ∃ a l, v = .ref a ∧ H a = some (.tup [.str x, .ref l]) ∧ l ∉ Z ∧ Tris H l ps
theorem AnsV.kl {Z : List Addr} {H H' : Hp} (k : KL Z H H') {v : V} {a : Ans} (h : AnsV Z H v a) : AnsV Z H' v a := by
  cases a with
  | num n => exact h
  | no => exact h
  | use n ps => obtain ⟨a, l, h1, h2, h3, h4⟩ := h; exact ⟨a, l, h1, k.t _ _ h2, h3, h4.kl k h3⟩
  | parts ps => obtain ⟨l, h1, h3, h4⟩ := h; exact ⟨l, h1, h3, h4.kl k h3⟩
  | cnt x ps => obtain ⟨a, l, h1, h2, h3, h4⟩ := h; exact ⟨a, l, h1, k.t _ _ h2, h3, h4.kl k h3⟩
def deedVs : Deed → List V
  | .come w am pr => [.str "come", .str w, .int am, .int pr]
  | .use w am => [.str "use", .str w, .int am]
  | .back k am => [.str "back", .int k, .int am]
  | .count w f => [.str "count", .str w, .int f]
def DeedV (H : Hp) (x : V) (dd : Deed) : Prop := ∃ a, x = .ref a ∧ H a = some (.tup (deedVs dd))
def DeedsAt (H : Hp) (l : Addr) (ds : List Deed) : Prop := ∃ xs, H l = some (.lst xs) ∧ Paired (DeedV H) xs ds
/-! ### promises -/
def spInit (C : Addr) : Sp := fun vs H Q _ => ∃ (p dx : Addr), vs = [.ref p] ∧ H p = some (.ins C dx []) ∧ ∀ (d u : Addr) (H' : Hp), H d = none → H u = none → d ≠ u → (∀ Z : List Addr, (∀ z ∈ Z, ∃ o, H z = some o) → BarnAt C (u :: Z) H' p d u ⟨[], 0, []⟩) → (∀ b o, H b = some o → b ≠ p → H' b = some o) → Q .non H'
def spLotsOf (C : Addr) : Sp := fun vs H Q _ => ∃ (Z : List Addr) (p d u : Addr) (b : Bst) (w : Str), vs = [.ref p, .str w] ∧ BarnAt C Z H p d u b ∧ ∀ (l : Addr) (H' : Hp), Same H H' → l ∉ Z → Tris H' l (lotsW b.L w) → Q (.ref l) H'
def spOp (C : Addr) (arg : Deed → List V) (f : Bst → Deed → Bst × Ans) : Sp := fun vs H Q _ => ∃ (Z : List Addr) (p d u : Addr) (b : Bst) (dd : Deed), vs = .ref p :: arg dd ∧ BarnAt C Z H p d u b ∧ Small b 300 ∧
  ∀ (v : V) (H' : Hp), BarnAt C Z H' p d u (f b dd).1 → AnsV Z H' v (f b dd).2 → KB p d u H H' → Q v H'
def spCome (C : Addr) : Sp := fun vs H Q _ => ∃ (Z : List Addr) (p d u : Addr) (b : Bst) (w : Str) (am pr : Int), vs = [.ref p, .str w, .int am, .int pr] ∧ BarnAt C Z H p d u b ∧ Small b 300 ∧
  ∀ (H' : Hp), BarnAt C Z H' p d u (comeB b w am pr) → KB p d u H H' → Q (.int (b.n : Int)) H'
def spUse (C : Addr) : Sp := fun vs H Q _ => ∃ (Z : List Addr) (p d u : Addr) (b : Bst) (w : Str) (am : Int), vs = [.ref p, .str w, .int am] ∧ BarnAt C Z H p d u b ∧ Small b 300 ∧
  ∀ (v : V) (H' : Hp), BarnAt C Z H' p d u (useB b w am).1 → AnsV Z H' v (useB b w am).2 → KB p d u H H' → Q v H'
def spGive (C : Addr) : Sp := fun vs H Q _ => ∃ (Z : List Addr) (p d u : Addr) (b : Bst) (k am : Int), vs = [.ref p, .int k, .int am] ∧ BarnAt C Z H p d u b ∧ Small b 300 ∧
  ∀ (v : V) (H' : Hp), BarnAt C Z H' p d u (backB b k am).1 → AnsV Z H' v (backB b k am).2 → KB p d u H H' → Q v H'
def spCounted (C : Addr) : Sp := fun vs H Q _ => ∃ (Z : List Addr) (p d u : Addr) (b : Bst) (w : Str) (f : Int), vs = [.ref p, .str w, .int f] ∧ BarnAt C Z H p d u b ∧ Small b 300 ∧
  ∀ (v : V) (H' : Hp), BarnAt C Z H' p d u (countB b w f).1 → AnsV Z H' v (countB b w f).2 → KB p d u H H' → Q v H'
def spLose (C : Addr) : Sp := fun vs H Q _ => ∃ (Z : List Addr) (p d u : Addr) (b : Bst) (w : Str) (m : Int), vs = [.ref p, .str w, .int m] ∧ BarnAt C Z H p d u b ∧ Small b 300 ∧
  ∀ (l : Addr) (H' : Hp), BarnAt C Z H' p d u ⟨putW b.L w (downB (lotsW b.L w) m), b.n, b.U⟩ → l ∉ Z → Tris H' l (downP (lotsW b.L w) m) → KB p d u H H' → Q (.ref l) H'
def spGain (C : Addr) : Sp := fun vs H Q _ => ∃ (Z : List Addr) (p d u : Addr) (b : Bst) (w : Str) (m : Int), vs = [.ref p, .str w, .int m] ∧ BarnAt C Z H p d u b ∧ Small b 300 ∧
  ∀ (l : Addr) (H' : Hp), BarnAt C Z H' p d u (comeB b w m (newestPrice (lotsW b.L w))) → l ∉ Z → Tris H' l [((b.n : Int), m, newestPrice (lotsW b.L w))] → KB p d u H H' → Q (.ref l) H'
def spDo (C : Addr) : Sp := fun vs H Q _ => ∃ (Z : List Addr) (p d u x : Addr) (b : Bst) (dd : Deed), vs = [.ref p, .ref x] ∧ H x = some (.tup (deedVs dd)) ∧ BarnAt C Z H p d u b ∧ Small b 300 ∧
  ∀ (v : V) (H' : Hp), BarnAt C Z H' p d u (step b dd).1 → AnsV Z H' v (step b dd).2 → KB p d u H H' → Q v H'
def stepsB (b : Bst) : List Deed → Bst
  | [] => b
  | dd :: r => stepsB (step b dd).1 r
def answersB (b : Bst) : List Deed → List Ans
  | [] => []
  | dd :: r => (step b dd).2 :: answersB (step b dd).1 r
/-! ### stores into the barn -/
theorem occ_upd {Z : List Addr} {H : Hp} {a : Addr} {o : HO} (h : ∀ z ∈ Z, ∃ o, H z = some o) : ∀ z ∈ Z, ∃ u, (upd H a o) z = some u := fun z hz => by
  by_cases e : z = a
  · subst e; exact ⟨o, upd_same⟩
  · rw [upd_ne e]; exact h z hz
theorem barn_dput {C : Addr} {Z : List Addr} {H : Hp} {p d u a : Addr} {b : Bst} {kvs : List (Key × V)} (B : BarnAt C Z H p d u b) (hd : H d = some (.dK kvs)) {w : Str} {ts : List T3} (ha : a ∉ Z) (hT : Tris H a ts) :
    BarnAt C Z (upd H d (.dK (putK kvs (Sum.inr w : Key) (.ref a)))) p d u ⟨putW b.L w ts, b.n, b.U⟩ ∧ KB p d u H (upd H d (.dK (putK kvs (Sum.inr w : Key) (.ref a)))) := by
  have kb : KB p d u H (upd H d (.dK (putK kvs (Sum.inr w : Key) (.ref a)))) := fun c o e _ h2 _ => by rw [upd_ne h2]; exact e
  have kl := kl_kb B kb
  obtain ⟨zu, occ, ⟨dx, h1⟩, ⟨kvs', h2, h3⟩, ⟨xs, h4, h5⟩⟩ := B
  rw [hd] at h2
  cases h2
  refine ⟨⟨zu, occ_upd occ, ⟨dx, by rw [upd_ne (ne_of h1 hd (by intro z; cases z))]; exact h1⟩, ⟨_, upd_same, L2.Paired.imp' (fun _ _ z => z.kl kl) (ware_put h3 ha hT)⟩, ⟨xs, by rw [upd_ne (ne_of h4 hd (by intro z; cases z))]; exact h4, L2.Paired.imp' (fun _ _ z => z.kl kl) h5⟩⟩, kb⟩
theorem barn_uses {C : Addr} {Z : List Addr} {H : Hp} {p d u : Addr} {b : Bst} (B : BarnAt C Z H p d u b) {ys : List V} {U : WL} (hU : Paired (UseAt Z H) ys U) :
    BarnAt C Z (upd H u (.lst ys)) p d u ⟨b.L, b.n, U⟩ ∧ KB p d u H (upd H u (.lst ys)) := by
  have kb : KB p d u H (upd H u (.lst ys)) := fun c o e _ _ h3 => by rw [upd_ne h3]; exact e
  have kl := kl_kb B kb
  obtain ⟨zu, occ, ⟨dx, h1⟩, ⟨kvs, h2, h3⟩, ⟨xs, h4, h5⟩⟩ := B
  exact ⟨⟨zu, occ_upd occ, ⟨dx, by rw [upd_ne (ne_of h1 h4 (by intro z; cases z))]; exact h1⟩, ⟨kvs, by rw [upd_ne (ne_of h2 h4 (by intro z; cases z))]; exact h2, L2.Paired.imp' (fun _ _ z => z.kl kl) h3⟩, ⟨ys, upd_same, L2.Paired.imp' (fun _ _ z => z.kl kl) hU⟩⟩, kb⟩
theorem barn_come {C : Addr} {Z : List Addr} {H : Hp} {p d u dx : Addr} {b : Bst} (B : BarnAt C Z H p d u b) (hp : H p = some (.ins C dx (flds d b.n u))) (m : Nat) :
    BarnAt C Z (upd H p (.ins C dx (flds d m u))) p d u ⟨b.L, m, b.U⟩ ∧ KB p d u H (upd H p (.ins C dx (flds d m u))) := by
  have kb : KB p d u H (upd H p (.ins C dx (flds d m u))) := fun c o e h1 _ _ => by rw [upd_ne h1]; exact e
  have kl := kl_kb B kb
  obtain ⟨zu, occ, _, ⟨kvs, h2, h3⟩, ⟨xs, h4, h5⟩⟩ := B
  exact ⟨⟨zu, occ_upd occ, ⟨dx, upd_same⟩, ⟨kvs, by rw [upd_ne (ne_of h2 hp (by intro z; cases z))]; exact h2, L2.Paired.imp' (fun _ _ z => z.kl kl) h3⟩, ⟨xs, by rw [upd_ne (ne_of h4 hp (by intro z; cases z))]; exact h4, L2.Paired.imp' (fun _ _ z => z.kl kl) h5⟩⟩, kb⟩
theorem lt300 {n : Nat} (h : n ≤ 300) : n < sizeLine := line_lt (by omega)

theorem paired_set {α β : Type} {F : α → β → Prop} {a : α} {b : β} (h : F a b) : ∀ {l₁ : List α} {l₂ : List β} (i : Nat), Paired F l₁ l₂ → Paired F (l₁.set i a) (l₂.set i b)
  | _, _, _, .nil => .nil
  | _, _, 0, .cons _ t => .cons h t
  | _, _, i + 1, .cons q t => .cons q (paired_set h i t)

theorem kl_upd {Z : List Addr} {H : Hp} {a : Addr} {ys zs : List V} (ha : a ∈ Z) (h : H a = some (.lst ys)) : KL Z H (upd H a (.lst zs)) :=
  ⟨fun c xs e => by rw [upd_ne (ne_of e h (by intro z; cases z))]; exact e, fun c xs e hc => by
    have hca : c ≠ a := fun z => hc (by rw [z]; exact ha)
    rw [upd_ne hca]
    exact e⟩
theorem barn_other {C : Addr} {Z : List Addr} {H : Hp} {p d u a : Addr} {b : Bst} {ys zs : List V} (B : BarnAt C Z H p d u b) (ha : a ∈ Z) (h : H a = some (.lst ys)) (hu : a ≠ u) : BarnAt C Z (upd H a (.lst zs)) p d u b := by
  have kl : KL Z H (upd H a (.lst zs)) := kl_upd ha h
  obtain ⟨zu, occ, ⟨dx, h1⟩, ⟨kvs, h2, h3⟩, ⟨xs, h4, h5⟩⟩ := B
  exact ⟨zu, occ_upd occ, ⟨dx, by rw [upd_ne (ne_of h1 h (by intro z; cases z))]; exact h1⟩, ⟨kvs, by rw [upd_ne (ne_of h2 h (by intro z; cases z))]; exact h2, L2.Paired.imp' (fun _ _ z => z.kl kl) h3⟩, ⟨xs, by rw [upd_ne hu.symm]; exact h4, L2.Paired.imp' (fun _ _ z => z.kl kl) h5⟩⟩
theorem AnsV.weak {Z : List Addr} {H : Hp} {v : V} {a : Ans} (h : AnsV Z H v a) : AnsV [] H v a := by
  cases a with
  | num n => exact h
  | no => exact h
  | use n ps => obtain ⟨a, l, h1, h2, h3, h4⟩ := h; exact ⟨a, l, h1, h2, by simp, h4⟩
  | parts ps => obtain ⟨l, h1, h3, h4⟩ := h; exact ⟨l, h1, by simp, h4⟩
  | cnt x ps => obtain ⟨a, l, h1, h2, h3, h4⟩ := h; exact ⟨a, l, h1, h2, by simp, h4⟩
theorem Small.mono {b : Bst} {j k : Nat} (s : Small b j) (h : j ≤ k) : Small b k :=
  ⟨Nat.le_trans s.l h, Nat.le_trans s.u h, fun w => Nat.le_trans (s.t w) h, fun q hq => Nat.le_trans (s.o q hq) h, Nat.le_trans s.n h⟩
theorem small_put {b : Bst} {k : Nat} (s : Small b k) {w : Str} {ts : List T3} (hts : ts.length ≤ k + 1) {n : Nat} (hn : n ≤ k + 1) {U : WL} (hU : U.length ≤ k + 1) (hO : ∀ q ∈ U, q.2.length ≤ k + 1) : Small ⟨putW b.L w ts, n, U⟩ (k + 1) := by
  refine ⟨Nat.le_trans (putW_len _ _ _) (Nat.succ_le_succ s.l), hU, fun v => ?_, hO, hn⟩
  show (lotsW (putW b.L w ts) v).length ≤ k + 1
  rw [lotsW_put]
  split
  · exact hts
  · exact Nat.le_succ_of_le (s.t v)
theorem small_step {b : Bst} {k : Nat} (s : Small b k) (dd : Deed) : Small (step b dd).1 (k + 1) := by
  have hn := s.n
  have hu := s.u
  have ho : ∀ q ∈ b.U, q.2.length ≤ k + 1 := fun q hq => Nat.le_succ_of_le (s.o q hq)
  cases dd with
  | come w am pr =>
    have h := s.t w
    exact small_put s (by simp; omega) (by omega) (by omega) ho
  | use w am =>
    show Small (useB b w am).1 (k + 1)
    unfold useB
    split
    · exact s.mono (by omega)
    · have h := s.t w
      refine small_put s (by rw [takeB_len]; omega) (by omega) (by simp; omega) fun q hq => ?_
      rcases List.mem_append.mp hq with hq | hq
      · exact ho q hq
      · have : q = (w, takeP (lotsW b.L w) am) := by simpa using hq
        subst this
        have := takeP_len (lotsW b.L w) am
        show (takeP (lotsW b.L w) am).length ≤ k + 1
        omega
  | back kn am =>
    show Small (backB b kn am).1 (k + 1)
    unfold backB
    split
    · cases hU : b.U[kn.toNat]? with
      | none => exact s.mono (by omega)
      | some wo =>
        obtain ⟨w, out⟩ := wo
        show Small (if held out < am then (b, Ans.no) else _).1 (k + 1)
        split
        · exact s.mono (by omega)
        · have h := s.t w
          have hout := s.o _ (List.mem_of_getElem? hU)
          refine small_put s (by rw [backM_len]; omega) (by omega) (by simp; omega) fun q hq => ?_
          rcases List.mem_or_eq_of_mem_set hq with hq | hq
          · exact ho q hq
          · subst hq
            show (downB out am).length ≤ k + 1
            rw [downB_len]
            exact Nat.le_succ_of_le hout
    · exact s.mono (by omega)
  | count w f =>
    show Small (countB b w f).1 (k + 1)
    unfold countB
    have h := s.t w
    split
    · exact small_put s (by rw [downB_len]; omega) (by omega) (by omega) ho
    · split
      · exact small_put s (by simp; omega) (by omega) (by omega) ho
      · exact s.mono (by omega)
theorem stepsB_snoc (b : Bst) (ds : List Deed) (dd : Deed) : stepsB b (ds ++ [dd]) = (step (stepsB b ds) dd).1 := by
  induction ds generalizing b with
  | nil => rfl
  | cons x r ih => exact ih _
theorem answersB_snoc (b : Bst) (ds : List Deed) (dd : Deed) : answersB b (ds ++ [dd]) = answersB b ds ++ [(step (stepsB b ds) dd).2] := by
  induction ds generalizing b with
  | nil => rfl
  | cons x r ih =>
    show _ :: answersB _ (r ++ [dd]) = _ :: (answersB _ r ++ _)
    rw [ih]
    rfl
theorem answersB_len (b : Bst) (ds : List Deed) : (answersB b ds).length = ds.length := by
  induction ds generalizing b with
  | nil => rfl
  | cons x r ih => show (answersB _ r).length + 1 = _; rw [ih]; rfl
def b0 : Bst := ⟨[], 0, []⟩
theorem small_b0 : Small b0 0 := ⟨Nat.le_refl _, Nat.le_refl _, fun _ => Nat.le_refl _, fun q hq => by simp [b0] at hq, Nat.le_refl _⟩
def AnssAt (H : Hp) (r : Addr) (as : List Ans) : Prop := ∃ ys, H r = some (.lst ys) ∧ Paired (AnsV [] H) ys as
def spAnswers : Sp := fun vs H Q _ => ∃ (l : Addr) (ds : List Deed), vs = [.ref l] ∧ DeedsAt H l ds ∧ ds.length ≤ 200 ∧ ∀ (r : Addr) (H' : Hp), Same H H' → H r = none → AnssAt H' r (answersB b0 ds) → Q (.ref r) H'
theorem deed_at {H : Hp} {xs : List V} {ds : List Deed} {i : Nat} {x : V} (h : Paired (DeedV H) xs ds) (hx : xs[i]? = some x) : ∃ dd, ds[i]? = some dd ∧ DeedV H x dd := by
  have hl := Paired.length h
  have hi : i < xs.length := (List.getElem?_eq_some_iff.mp hx).1
  have ht : ds[i]? = some (ds[i]'(by omega)) := List.getElem?_eq_getElem (by omega)
  exact ⟨_, ht, L2.Paired.at h hx ht⟩
theorem s_cu : ¬ (("come" : Str) = "use") := by decide +kernel
theorem s_cb : ¬ (("come" : Str) = "back") := by decide +kernel
theorem s_ub : ¬ (("use" : Str) = "back") := by decide +kernel
theorem s_oc : ¬ (("count" : Str) = "come") := by decide +kernel
theorem s_ou : ¬ (("count" : Str) = "use") := by decide +kernel
theorem s_ob : ¬ (("count" : Str) = "back") := by decide +kernel
theorem iteStr {x : Str} {A B : Prop} (h : A) : if decide (V.str x = V.str x) = true then A else B := by
  rw [if_pos (decide_eq_true rfl)]
  exact h
theorem iteStrN {x y : Str} {A B : Prop} (e : ¬ x = y) (h : B) : if decide (V.str x = V.str y) = true then A else B := by
  rw [if_neg (fun z => e (V.str.inj (of_decide_eq_true z)))]
  exact h
end Bl
-- Day
set_option Elab.async false
set_option linter.all false
set_option maxRecDepth 100000
set_option maxHeartbeats 4000000
/-! The law's own day: its wares, its deeds. -/
namespace Bl
open PySem L2 Bm
/-! ### the wares -/
def spot (ns : List Int) : Int := (ns.take 1).sum / 24 % 40
def twS (k : Int) (x : Str) : Str := Txt.mul "n" k ++ x ++ Txt.mul "n" (39 - k)
def wares (k : Int) : List Str := ["nail", twS k "a", twS k "b", "", " Nail "]
theorem mul40 : ∀ k : Fin 41, MulOk "n" ((k : Nat) : Int) := by
  intro k
  refine ⟨?_, ?_, ?_⟩
  · revert k; decide +kernel
  · revert k; decide +kernel
  · revert k; decide +kernel
theorem mul40' {k : Int} (h0 : 0 ≤ k) (h1 : k < 41) : MulOk "n" k := by
  have := mul40 ⟨k.toNat, by omega⟩
  have e : ((k.toNat : Nat) : Int) = k := by omega
  simpa [e] using this
theorem len40 : ∀ k : Fin 41, (Txt.mul "n" ((k : Nat) : Int)).length ≤ 40 := by decide +kernel
theorem len40' {k : Int} (h0 : 0 ≤ k) (h1 : k < 41) : (Txt.mul "n" k).length ≤ 40 := by
  have := len40 ⟨k.toNat, by omega⟩
  have e : ((k.toNat : Nat) : Int) = k := by omega
  simpa [e] using this
theorem wares_nd : ∀ k : Fin 40, (wares ((k : Nat) : Int)).Nodup := by decide +kernel
theorem wares_nd' {k : Int} (h0 : 0 ≤ k) (h1 : k < 40) : (wares k).Nodup := by
  have := wares_nd ⟨k.toNat, by omega⟩
  have e : ((k.toNat : Nat) : Int) = k := by omega
  simpa [e] using this
theorem spot_nn (ns : List Int) : 0 ≤ spot ns := Int.emod_nonneg _ (by decide)
theorem spot_lt (ns : List Int) : spot ns < 40 := Int.emod_lt_of_pos _ (by decide)
def spTwin (K : PySem.W.Frag) : Sp := fun vs H Q _ => ∃ (a : Addr) (ns : List Int) (x : Str), vs = [.ref a, .str x] ∧ SqL K H a (ns.map V.int) ∧ x.length ≤ 1 ∧ ∀ H', Same H H' → Q (.str (twS (spot ns) x)) H'
theorem cut_to1 (ns : List Int) : cutV (ns.map V.int) none (some 1) = (ns.take 1).map V.int := by
  unfold cutV
  rw [HT.sIx_none]
  have e1 : HT.sIx (ns.map V.int).length (ns.map V.int).length (some 1) = min 1 ns.length := by
    have := HT.sIx_nat (ns.map V.int).length (ns.map V.int).length 1
    rw [show ((1 : Nat) : Int) = 1 from rfl] at this
    rw [this, List.length_map]
  rw [e1, List.drop_zero, Nat.sub_zero, ← List.map_take]
  cases ns with
  | nil => rfl
  | cons a r => simp
/-! ### how large a number may grow -/
def cap : Nat → Int
  | 0 => 10 ^ 101
  | i + 1 => 4 * cap i
theorem cap_succ (i : Nat) : cap (i + 1) = 4 * cap i := rfl
theorem cap_nn : ∀ i : Nat, 0 ≤ cap i
  | 0 => by show (0 : Int) ≤ 10 ^ 101; decide +kernel
  | i + 1 => by rw [cap_succ]; have := cap_nn i; omega
theorem cap_ge (i : Nat) : 10 ^ 101 ≤ cap i := by
  induction i with
  | zero => exact Int.le_refl _
  | succ i ih => rw [cap_succ]; have := cap_nn i; omega
theorem cap_mono {i j : Nat} (h : i ≤ j) : cap i ≤ cap j := by
  induction j with
  | zero => have : i = 0 := by omega
            subst this; exact Int.le_refl _
  | succ j ih =>
    by_cases e : i = j + 1
    · subst e; exact Int.le_refl _
    · have := ih (by omega); rw [cap_succ]; have := cap_nn j; omega
theorem ten100 : (10 : Int) ^ Int.toNat 50 * 10 ^ Int.toNat 50 - 1 ≤ 10 ^ 100 := by decide +kernel
theorem ten100b : (10 : Int) ^ 100 * 10 = 10 ^ 101 := by decide +kernel
theorem ten9 : (10 : Int) ^ Int.toNat 9 ≤ 10 ^ 100 := by decide +kernel
theorem small100 : (1000 : Int) ≤ 10 ^ 100 := by decide +kernel
def spSized : Sp := fun vs H Q _ => ∃ (seed other most : Int), vs = [.int seed, .int other, .int most] ∧ IntMulOk other other ∧ 0 < most ∧ most ≤ 1000 ∧ ∀ r, 0 ≤ r → r ≤ 10 ^ 100 → Q (.int r) H
def spSome : Sp := fun vs H Q _ => ∃ (first most seed turn : Int), vs = [.int first, .int most, .int seed, .int turn] ∧ 1 ≤ first ∧ ∀ r, 1 ≤ r → Q (.int r) H
/-! ### the law's stock by ware -/
def stk (W : List Str) (st : Str → Int) : List (Key × V) := W.map fun w => (Sum.inr w, .int (st w))
def setS (st : Str → Int) (w : Str) (v : Int) : Str → Int := fun x => if x = w then v else st x
theorem stk_val {W : List Str} {st : Str → Int} {w : Str} (h : w ∈ W) : valV (stk W st) (Sum.inr w : Key) = some (.int (st w)) := by
  induction W with
  | nil => simp at h
  | cons x r ih =>
    by_cases e : x = w
    · subst e; exact valV_pos rfl
    · have h' : w ∈ r := (List.mem_cons.mp h).resolve_left fun z => e z.symm
      show valV ((Sum.inr x, V.int (st x)) :: stk r st) _ = _
      rw [valV_neg (fun z => e (Sum.inr.inj z))]
      exact ih h'
theorem stk_put {W : List Str} {st : Str → Int} {w : Str} {v : Int} (h : w ∈ W) : putK (stk W st) (Sum.inr w : Key) (.int v) = stk W (setS st w v) := by
  have hany : ((stk W st).any fun kv => decide (kv.1 = (Sum.inr w : Key))) = true := by
    refine List.any_eq_true.mpr ⟨(Sum.inr w, .int (st w)), List.mem_map.mpr ⟨w, h, rfl⟩, by simp⟩
  unfold putK
  rw [if_pos hany]
  unfold stk
  rw [List.map_map]
  refine List.map_congr_left fun x _ => ?_
  simp only [Function.comp, setS]
  by_cases e : x = w
  · subst e; simp
  · rw [if_neg (fun z => e (Sum.inr.inj z)), if_neg e]
theorem stk_len (W : List Str) (st : Str → Int) : (stk W st).length = W.length := by simp [stk]
def UD (W : List Str) (S : Int) (H : Hp) (kvs : List (Key × V)) : Prop := ∀ (k : Int) (v : V), valV kvs (Sum.inl k : Key) = some v → ∃ a w am, v = .ref a ∧ H a = some (.lst [.str w, .int am]) ∧ w ∈ W ∧ 0 ≤ am ∧ am ≤ S
theorem UD.keep {W : List Str} {S S' : Int} {H H' : Hp} {kvs : List (Key × V)} (h : UD W S H kvs) (hS : S ≤ S') (k : ∀ a w am, H a = some (.lst [.str w, .int am]) → H' a = some (.lst [.str w, .int am])) : UD W S' H' kvs := fun n v e => by
  obtain ⟨a, w, am, h1, h2, h3, h4, h5⟩ := h n v e
  exact ⟨a, w, am, h1, k _ _ _ h2, h3, h4, by omega⟩
def spHandIn : Sp := fun vs H Q _ => ∃ (e d : Addr) (kvs : List (Key × V)) (W : List Str) (st : Str → Int) (S k am : Int), vs = [.ref e, .ref d, .int k, .int am] ∧ H e = some (.dK kvs) ∧ UD W S H kvs ∧ e ≠ d ∧ W.length ≤ 5 ∧
  H d = some (.dK (stk W st)) ∧ (∀ w, 0 ≤ st w ∧ st w ≤ S) ∧ 1 ≤ am ∧ ∀ (H' : Hp) (st' : Str → Int), H' e = some (.dK kvs) → UD W S H' kvs → H' d = some (.dK (stk W st')) → (∀ w, 0 ≤ st' w ∧ st' w ≤ 2 * S) →
  (∀ c o, H c = some o → c ≠ d → (∀ k : Int, valV kvs (Sum.inl k : Key) ≠ some (.ref c)) → H' c = some o) → Q .non H'
/-! ### the deeds that the law draws -/
def DOk (W : List Str) (S : Int) : Deed → Prop
  | .come w am pr => w ∈ W ∧ 1 ≤ am ∧ am ≤ S ∧ 0 ≤ pr ∧ pr ≤ S
  | .use w am => w ∈ W ∧ 1 ≤ am
  | .back _ am => 1 ≤ am
  | .count w f => w ∈ W ∧ 0 ≤ f ∧ f ≤ S
def spDeeds (K : PySem.W.Frag) : Sp := fun vs H Q _ => ∃ (a : Addr) (ns : List Int), vs = [.ref a] ∧ SqL K H a (ns.map V.int) ∧ ns.length ≤ 63 ∧ (∀ n ∈ ns, Builtin.Int.intBits n ≤ 2 ^ 20) ∧
  ∀ (l : Addr) (H' : Hp) (ds : List Deed), Same H H' → H l = none → DeedsAt H' l ds → ds.length = ns.length → (∀ dd ∈ ds, DOk (wares (spot ns)) (cap 64) dd) → Q (.ref l) H'
theorem deeds_push {H : Hp} {b p : Addr} {xs : List V} {ds : List Deed} {dd : Deed} (hp : H p = none) (hb : H b = some (.lst xs)) (h : DeedsAt H b ds) : DeedsAt (upd (upd H p (.tup (deedVs dd))) b (.lst (xs ++ [.ref p]))) b (ds ++ [dd]) := by
  obtain ⟨ys, h1, h2⟩ := h
  rw [hb] at h1
  cases h1
  have k : TK H (upd (upd H p (.tup (deedVs dd))) b (.lst (xs ++ [.ref p]))) := tk_butL (butL_push hp hb) hb
  refine ⟨_, upd_same, Paired.snoc (L2.Paired.imp' (fun _ _ ⟨a, e, h⟩ => ⟨a, e, k _ _ h⟩) h2) ⟨p, rfl, ?_⟩⟩
  have : p ≠ b := (ne_of_none hb hp).symm
  rw [upd_ne this, upd_same]
theorem DeedsAt.keep {H H' : Hp} {l : Addr} {ds : List Deed} (h : DeedsAt H l ds) (k : TK H H') (hl : ∀ xs, H l = some (.lst xs) → H' l = some (.lst xs)) : DeedsAt H' l ds := by
  obtain ⟨xs, h1, h2⟩ := h
  exact ⟨xs, hl _ h1, L2.Paired.imp' (fun _ _ ⟨a, e, h⟩ => ⟨a, e, k _ _ h⟩) h2⟩
theorem bits_div {c : Int} {d : Int} {m : Nat} (hd : 1 ≤ d) (h : Builtin.Int.intBits c ≤ m) : Builtin.Int.intBits (c / d) ≤ m := by
  have hle : (c / d).natAbs ≤ c.natAbs := by
    by_cases hc : 0 ≤ c
    · have h1 : 0 ≤ c / d := Int.ediv_nonneg hc (by omega)
      have h2 : c / d ≤ c := Int.ediv_le_self _ hc
      omega
    · have h1 : c ≤ c / d := by
        have := Int.mul_ediv_add_emod c d
        have h3 := Int.emod_nonneg c (show d ≠ 0 by omega)
        have h4 : c / d < 0 := Int.ediv_neg_of_neg_of_pos (by omega) (by omega)
        have h5 : d * (c / d) ≤ 1 * (c / d) := Int.mul_le_mul_of_nonpos_right (by omega) (by omega)
        have h6 := Int.emod_lt_of_pos c (show 0 < d by omega)
        have h7 : c = d * (c / d) + c % d := by omega
        by_cases h8 : c / d = -1
        · rw [h8] at h7 ⊢; omega
        · have h9 : d * (c / d) + d ≤ (c / d) + 1 + 0 := by
            have : (d - 1) * (c / d + 1) ≤ 0 := Int.mul_nonpos_of_nonneg_of_nonpos (by omega) (by omega)
            have e : (d - 1) * (c / d + 1) = d * (c / d) + d - (c / d) - 1 := by
              rw [Int.sub_mul, Int.mul_add, Int.one_mul]; omega
            omega
          omega
      have h2 : c / d < 0 := Int.ediv_neg_of_neg_of_pos (by omega) (by omega)
      omega
  unfold Builtin.Int.intBits at h ⊢
  split
  · exact Nat.zero_le _
  · rename_i hne
    split at h
    · rename_i hz
      have : c = 0 := by simpa using hz
      subst this
      simp at hne
    · have hne' : (c / d).natAbs ≠ 0 := fun z => hne (beq_iff_eq.mpr (Int.natAbs_eq_zero.mp z))
      have : (c / d).natAbs.log2 ≤ c.natAbs.log2 := by
        refine Nat.le_of_not_lt fun hlt => ?_
        have h1 := Nat.log2_self_le hne'
        have h2 : c.natAbs < 2 ^ (c / d).natAbs.log2 := (Nat.log2_lt (by omega)).mp hlt
        omega
      omega

structure DInv (H0 : Hp) (W : List Str) (l sd ud : Addr) (i m ul : Nat) (H : Hp) (ds : List Deed) (st : Str → Int) (kvs : List (Key × V)) : Prop where
  s : Same H0 H
  D : DeedsAt H l ds
  n : ds.length = m
  ok : ∀ dd ∈ ds, DOk W (cap 64) dd
  sd : H sd = some (.dK (stk W st))
  st : ∀ w, 0 ≤ st w ∧ st w ≤ cap i
  ud : H ud = some (.dK kvs)
  ul : kvs.length ≤ ul
  U : UD W (cap i) H kvs
  F : ∀ (k : Int) (a : Addr), valV kvs (Sum.inl k : Key) = some (.ref a) → H0 a = none
section
variable {H0 H H' : Hp} {W : List Str} {l sd ud : Addr} {i m ul : Nat} {ds : List Deed} {st : Str → Int} {kvs : List (Key × V)}
theorem DInv.same (I : DInv H0 W l sd ud i m ul H ds st kvs) (s : Same H H') : DInv H0 W l sd ud i m ul H' ds st kvs :=
  ⟨I.s.trans s, I.D.keep (tk_same s) fun xs e => s _ _ e, I.n, I.ok, s _ _ I.sd, I.st, s _ _ I.ud, I.ul, I.U.keep (Int.le_refl _) (fun a w am e => s _ _ e), I.F⟩
theorem DInv.up (I : DInv H0 W l sd ud i m ul H ds st kvs) {j ul' : Nat} (h : i ≤ j) (h2 : ul ≤ ul') : DInv H0 W l sd ud j m ul' H ds st kvs :=
  ⟨I.s, I.D, I.n, I.ok, I.sd, fun w => ⟨(I.st w).1, Int.le_trans (I.st w).2 (cap_mono h)⟩, I.ud, Nat.le_trans I.ul h2, I.U.keep (cap_mono h) (fun _ _ _ e => e), I.F⟩
theorem DInv.push (I : DInv H0 W l sd ud i m ul H ds st kvs) (hl0 : H0 l = none) {p : Addr} {xs : List V} {dd : Deed} (hp : H p = none) (hl : H l = some (.lst xs)) (hdd : DOk W (cap 64) dd) :
    DInv H0 W l sd ud i (m + 1) ul (upd (upd H p (.tup (deedVs dd))) l (.lst (xs ++ [.ref p]))) (ds ++ [dd]) st kvs := by
  have bu := butL_push (o := .tup (deedVs dd)) hp hl
  refine ⟨fun c o e => bu c o (I.s c o e) (ne_of_none e hl0), deeds_push hp hl I.D, by rw [List.length_append, I.n]; rfl, fun d hd => ?_, bu _ _ I.sd (ne_of I.sd hl (by intro z; cases z)), I.st, bu _ _ I.ud (ne_of I.ud hl (by intro z; cases z)), I.ul, I.U.keep (Int.le_refl _) (fun a w am e => bu _ _ e ?_), I.F⟩
  · rcases List.mem_append.mp hd with hd | hd
    · exact I.ok d hd
    · have : d = dd := by simpa using hd
      subst this
      exact hdd
  · rintro rfl
    obtain ⟨ys, h1, h2⟩ := I.D
    rw [e] at h1
    have e2 : [V.str w, V.int am] = ys := HO.lst.inj (Option.some.inj h1)
    subst e2
    cases h2 with
    | cons a _ =>
      obtain ⟨z, hz, _⟩ := a
      cases hz
theorem DInv.stock (I : DInv H0 W l sd ud i m ul H ds st kvs) (hs0 : H0 sd = none) (hsu : ud ≠ sd) {w : Str} (hw : w ∈ W) {v : Int} {j : Nat} (hij : i ≤ j) (h0 : 0 ≤ v) (h1 : v ≤ cap j) :
    DInv H0 W l sd ud j m ul (upd H sd (.dK (putK (stk W st) (Sum.inr w : Key) (.int v)))) ds (setS st w v) kvs := by
  have bu : ∀ c o, H c = some o → c ≠ sd → (upd H sd (.dK (putK (stk W st) (Sum.inr w : Key) (.int v)))) c = some o := fun c o e hc => by rw [upd_ne hc]; exact e
  refine ⟨fun c o e => bu c o (I.s c o e) (ne_of_none e hs0), I.D.keep (fun b xs e => bu _ _ e (ne_of e I.sd (by intro z; cases z))) fun xs e => bu _ _ e (ne_of e I.sd (by intro z; cases z)), I.n, I.ok, by rw [upd_same, stk_put hw], fun x => ?_, bu _ _ I.ud hsu, I.ul, I.U.keep (cap_mono hij) (fun a w am e => bu _ _ e (ne_of e I.sd (by intro z; cases z))), I.F⟩
  unfold setS
  split
  · exact ⟨h0, h1⟩
  · exact ⟨(I.st x).1, Int.le_trans (I.st x).2 (cap_mono hij)⟩
theorem DInv.use (I : DInv H0 W l sd ud i m ul H ds st kvs) (hu0 : H0 ud = none) (hsu : ud ≠ sd) {p : Addr} (hp : H p = none) {w : Str} (hw : w ∈ W) {am n : Int} (h0 : 0 ≤ am) (h1 : am ≤ cap i) :
    DInv H0 W l sd ud i m (ul + 1) (upd (upd H p (.lst [.str w, .int am])) ud (.dK (putK kvs (Sum.inl n : Key) (.ref p)))) ds st (putK kvs (Sum.inl n : Key) (.ref p)) := by
  have bu : ∀ c o, H c = some o → c ≠ ud → (upd (upd H p (.lst [.str w, .int am])) ud (.dK (putK kvs (Sum.inl n : Key) (.ref p)))) c = some o := fun c o e hc => by rw [upd_ne hc, upd_ne (ne_of_none e hp)]; exact e
  refine ⟨fun c o e => bu c o (I.s c o e) (ne_of_none e hu0), I.D.keep (fun b xs e => bu _ _ e (ne_of e I.ud (by intro z; cases z))) fun xs e => bu _ _ e (ne_of e I.ud (by intro z; cases z)), I.n, I.ok, bu _ _ I.sd hsu.symm, I.st, upd_same, Nat.le_trans (length_putK _ _ _) (Nat.succ_le_succ I.ul), fun k v e => ?_, fun k a e => ?_⟩
  rotate_left
  · rw [valV_put] at e
    split at e
    · cases e
      exact I.s.free hp
    · exact I.F k a e
  rw [valV_put] at e
  split at e
  · cases e
    exact ⟨p, w, am, rfl, by rw [upd_ne (ne_of_none I.ud hp).symm, upd_same], hw, h0, h1⟩
  · obtain ⟨a, w', am', h2, h3, h4⟩ := I.U k v e
    exact ⟨a, w', am', h2, bu _ _ h3 (ne_of h3 I.ud (by intro z; cases z)), h4⟩
end
theorem merge_nd : ∀ (more acc : List (Key × V)), (acc.map (·.1) ++ more.map (·.1)).Nodup → mergeK acc more = acc ++ more
  | [], acc, _ => by simp [mergeK]
  | kv :: r, acc, h => by
    have hk : kv.1 ∉ acc.map (·.1) := fun hm => by
      obtain ⟨_, _, h3⟩ := List.nodup_append.mp h
      exact h3 _ hm _ (List.mem_map.mpr ⟨kv, List.mem_cons_self, rfl⟩) rfl
    have hv : valV acc kv.1 = none := by
      cases e : valV acc kv.1 with
      | none => rfl
      | some v => exact absurd (valV_in e) hk
    have e1 : putK acc kv.1 kv.2 = acc ++ [kv] := putK_new _ hv
    show mergeK (putK acc kv.1 kv.2) r = _
    rw [e1, merge_nd r (acc ++ [kv]) (by simpa using h)]
    simp
theorem stk_merge {W : List Str} {st : Str → Int} (h : W.Nodup) : mergeK [] (stk W st) = stk W st := by
  rw [merge_nd]
  · rfl
  · simp only [List.map_nil, List.nil_append]
    unfold stk
    rw [List.map_map]
    show (W.map fun w => (Sum.inr w : Key)).Nodup
    exact List.Pairwise.map _ (fun a b hab z => hab (Sum.inr.inj z)) h
theorem stk_keys (W : List Str) (st : Str → Int) : ((stk W st).map fun kv => kV kv.1) = W.map V.str := by
  unfold stk
  rw [List.map_map]
  rfl
theorem perm_at {W ss : List Str} (hp : ss.Perm W) (h5 : W.length = 5) (n : Int) : ∃ w, w ∈ W ∧ atI (ss.map V.str) (n % 5) = some (.str w) := by
  have hl : ss.length = 5 := by rw [hp.length_eq, h5]
  have h0 := Int.emod_nonneg n (show (5 : Int) ≠ 0 by decide)
  have h1 := Int.emod_lt_of_pos n (show (0 : Int) < 5 by decide)
  generalize n % 5 = j at h0 h1
  have hj : ss[j.toNat]? = some (ss[j.toNat]'(by omega)) := List.getElem?_eq_getElem (by omega)
  have hm : (ss[j.toNat]'(by omega)) ∈ W := hp.mem_iff.mp (List.getElem_mem _)
  exact ⟨_, hm, atI_ix h0 (by rw [List.getElem?_map, hj]; rfl)⟩
end Bl
-- Mir
set_option Elab.async false
set_option linter.all false
set_option maxRecDepth 100000
set_option maxHeartbeats 4000000
/-! What a day keeps of the barn's mirror. -/
namespace Bl
open PySem L2 Bm
theorem ord_iff {up : Bool} : ∀ {ts : List T3}, Bm.Ord up ts ↔ (keys ts).Pairwise fun x y => x ≠ y ∧ decide (x < y) = up
  | [] => ⟨fun _ => .nil, fun _ => trivial⟩
  | t :: r => by
    show ((∀ u ∈ r, t.1 ≠ u.1 ∧ decide (t.1 < u.1) = up) ∧ Bm.Ord up r) ↔ (t.1 :: keys r).Pairwise _
    rw [List.pairwise_cons, ord_iff (ts := r)]
    refine and_congr ⟨fun h x hx => ?_, fun h u hu => h _ (List.mem_map.mpr ⟨u, hu, rfl⟩)⟩ Iff.rfl
    obtain ⟨u, hu, rfl⟩ := List.mem_map.mp hx
    exact h u hu
theorem ord_keys {up : Bool} {a c : List T3} (e : keys a = keys c) (h : Bm.Ord up c) : Bm.Ord up a := ord_iff.mpr (by rw [e]; exact ord_iff.mp h)
theorem takeP_sub : ∀ (ts : List T3) (w : Int), (keys (takeP ts w)).Sublist (keys ts)
  | [], _ => List.Sublist.slnil
  | t :: r, w => by
    simp only [takeP]
    split
    · exact List.Sublist.cons₂ _ (takeP_sub r _)
    · exact List.Sublist.cons _ (takeP_sub r _)
theorem takeP_ord {up : Bool} {ts : List T3} {w : Int} (h : Bm.Ord up ts) : Bm.Ord up (takeP ts w) := ord_iff.mpr ((ord_iff.mp h).sublist (takeP_sub ts w))
theorem takeP_nn {ts : List T3} {w : Int} : NN (takeP ts w) := fun p hp => Int.le_of_lt (takeP_pos p hp)
theorem downP_nn {ts : List T3} {w : Int} : NN (downP ts w) := takeP_nn
theorem downB_keys (ts : List T3) (w : Int) : keys (downB ts w) = keys ts := by
  unfold downB
  rw [keys_reverse, takeB_keys, keys_reverse, List.reverse_reverse]
theorem downB_nn {ts : List T3} {w : Int} (h : NN ts) : NN (downB ts w) := (takeB_nn (w := w) h.reverse).reverse
theorem backM_keys (ts ps : List T3) : keys (backM ts ps) = keys ts := by
  unfold keys backM
  rw [List.map_map]
  rfl
theorem addUp_nn {ps : List T3} (h : NN ps) (n : Int) : 0 ≤ addUp ps n := by
  unfold addUp
  have : ∀ l : List T3, NN l → 0 ≤ (l.map (·.2.1)).sum := fun l hl => held_nn hl
  exact this _ fun t ht => h t (List.mem_filter.mp ht).1
theorem backM_nn {ts ps : List T3} (h : NN ts) (hp : NN ps) : NN (backM ts ps) := fun t ht => by
  obtain ⟨u, hu, rfl⟩ := List.mem_map.mp ht
  have h1 := h u hu
  have h2 := addUp_nn hp u.1
  show 0 ≤ u.2.1 + addUp ps u.1
  omega
theorem ord_snoc {ts : List T3} {t : T3} (h : Bm.Ord true ts) (hl : ∀ u ∈ ts, u.1 < t.1) : Bm.Ord true (ts ++ [t]) := by
  refine ord_iff.mpr ?_
  have e : keys (ts ++ [t]) = keys ts ++ [t.1] := by simp [keys]
  rw [e, List.pairwise_append]
  refine ⟨ord_iff.mp h, List.pairwise_singleton _ _, fun a ha c hc => ?_⟩
  obtain ⟨u, hu, rfl⟩ := List.mem_map.mp ha
  have : c = t.1 := by simpa using hc
  subst this
  have := hl u hu
  exact ⟨by omega, by simpa using this⟩
structure BInv (W : List Str) (b : Bst) : Prop where
  o : ∀ w, Bm.Ord true (lotsW b.L w)
  nn : ∀ w, NN (lotsW b.L w)
  k : ∀ w, ∀ x ∈ keys (lotsW b.L w), x < (b.n : Int)
  u : ∀ q ∈ b.U, q.1 ∈ W ∧ Bm.Ord true q.2 ∧ NN q.2 ∧ ∀ x ∈ keys q.2, x ∈ keys (lotsW b.L q.1)
  s : (W.map fun w => (lotsW b.L w).length).sum = b.n
theorem binv_b0 {W : List Str} : BInv W b0 := by
  refine ⟨fun w => trivial, fun w t h => by simp [b0, lotsW] at h, fun w x h => by simp [b0, lotsW, keys] at h, fun q hq => by simp [b0] at hq, ?_⟩
  show (W.map fun w => 0).sum = 0
  induction W with
  | nil => rfl
  | cons a r ih => simpa using ih
theorem sum_put_same (L : WL) (v : Str) (ts : List T3) (h : ts.length = (lotsW L v).length) (W : List Str) : (W.map fun w => (lotsW (putW L v ts) w).length).sum = (W.map fun w => (lotsW L w).length).sum := by
  congr 1
  refine List.map_congr_left fun w _ => ?_
  rw [lotsW_put]
  split
  · rename_i e; rw [e, h]
  · rfl
theorem sum_put_one (L : WL) (v : Str) (ts : List T3) (h : ts.length = (lotsW L v).length + 1) : ∀ W : List Str, W.Nodup → (W.map fun w => (lotsW (putW L v ts) w).length).sum = (W.map fun w => (lotsW L w).length).sum + if v ∈ W then 1 else 0
  | [], _ => rfl
  | a :: r, nd => by
    obtain ⟨h1, h2⟩ := List.nodup_cons.mp nd
    have ih := sum_put_one L v ts h r h2
    rw [List.map_cons, List.sum_cons, List.map_cons, List.sum_cons, ih, lotsW_put]
    by_cases e : a = v
    · subst e
      rw [if_pos rfl, if_neg h1, if_pos List.mem_cons_self]
      omega
    · have e' : ¬ v = a := fun z => e z.symm
      rw [if_neg e]
      by_cases hv : v ∈ r
      · rw [if_pos hv, if_pos (List.mem_cons_of_mem _ hv)]; omega
      · rw [if_neg hv, if_neg (by simp [e', hv])]; omega
theorem binv_put {W : List Str} {b : Bst} (I : BInv W b) {v : Str} {ts : List T3} (hk : keys ts = keys (lotsW b.L v)) (hn : NN ts) : BInv W ⟨putW b.L v ts, b.n, b.U⟩ := by
  have hkw : ∀ w, keys (lotsW (putW b.L v ts) w) = keys (lotsW b.L w) := fun w => by
    rw [lotsW_put]
    split
    · rename_i e; rw [e, hk]
    · rfl
  refine ⟨fun w => ord_keys (hkw w) (I.o w), fun w => ?_, fun w x hx => I.k w x (by rw [← hkw w]; exact hx), fun q hq => ?_, ?_⟩
  · show NN (lotsW (putW b.L v ts) w)
    rw [lotsW_put]
    split
    · exact hn
    · exact I.nn w
  · obtain ⟨h1, h2, h3, h4⟩ := I.u q hq
    refine ⟨h1, h2, h3, fun x hx => ?_⟩
    show x ∈ keys (lotsW (putW b.L v ts) q.1)
    rw [hkw]
    exact h4 x hx
  · show (W.map fun w => (lotsW (putW b.L v ts) w).length).sum = b.n
    rw [sum_put_same _ _ _ _ W, I.s]
    have := congrArg List.length hk
    simpa [keys] using this
theorem binv_come {W : List Str} {b : Bst} (nd : W.Nodup) (I : BInv W b) {v : Str} {am pr : Int} (hv : v ∈ W) (h : 0 ≤ am) : BInv W (comeB b v am pr) := by
  have hl : ∀ w, lotsW (putW b.L v (lotsW b.L v ++ [((b.n : Int), am, pr)])) w = if w = v then lotsW b.L v ++ [((b.n : Int), am, pr)] else lotsW b.L w := fun w => lotsW_put _ _ _ _
  have hke : keys (lotsW b.L v ++ [((b.n : Int), am, pr)]) = keys (lotsW b.L v) ++ [(b.n : Int)] := by simp [keys]
  refine ⟨fun w => ?_, fun w => ?_, fun w x hx => ?_, fun q hq => ?_, ?_⟩
  · show Bm.Ord true (lotsW (putW b.L v _) w)
    rw [hl]
    split
    · exact ord_snoc (I.o v) fun u hu => I.k v _ (List.mem_map.mpr ⟨u, hu, rfl⟩)
    · exact I.o w
  · show NN (lotsW (putW b.L v _) w)
    rw [hl]
    split
    · intro t ht
      rcases List.mem_append.mp ht with ht | ht
      · exact I.nn v t ht
      · have : t = ((b.n : Int), am, pr) := by simpa using ht
        subst this
        exact h
    · exact I.nn w
  · have hx' : x ∈ keys (lotsW (putW b.L v (lotsW b.L v ++ [((b.n : Int), am, pr)])) w) := hx
    show x < ((b.n + 1 : Nat) : Int)
    rw [hl] at hx'
    split at hx'
    · rw [hke] at hx'
      rcases List.mem_append.mp hx' with hx' | hx'
      · have := I.k v x hx'; omega
      · have : x = (b.n : Int) := by simpa using hx'
        omega
    · have := I.k w x hx'; omega
  · obtain ⟨h1, h2, h3, h4⟩ := I.u q hq
    refine ⟨h1, h2, h3, fun x hx => ?_⟩
    show x ∈ keys (lotsW (putW b.L v _) q.1)
    rw [hl]
    split
    · rename_i e
      rw [hke]
      exact List.mem_append_left _ (e ▸ h4 x hx)
    · exact h4 x hx
  · show (W.map fun w => (lotsW (putW b.L v _) w).length).sum = b.n + 1
    rw [sum_put_one _ _ _ (by simp) W nd, I.s, if_pos hv]
theorem binv_uses {W : List Str} {b : Bst} (I : BInv W b) {U : WL} (h : ∀ q ∈ U, q ∈ b.U ∨ (q.1 ∈ W ∧ Bm.Ord true q.2 ∧ NN q.2 ∧ ∀ x ∈ keys q.2, x ∈ keys (lotsW b.L q.1))) : BInv W ⟨b.L, b.n, U⟩ :=
  ⟨I.o, I.nn, I.k, fun q hq => (h q hq).elim (I.u q) id, I.s⟩
theorem binv_step {W : List Str} {S : Int} {b : Bst} {dd : Deed} (nd : W.Nodup) (I : BInv W b) (h : DOk W S dd) : BInv W (step b dd).1 := by
  cases dd with
  | come w am pr => exact binv_come nd I h.1 (by have := h.2.1; omega)
  | use w am =>
    show BInv W (useB b w am).1
    unfold useB
    split
    · exact I
    · have I2 := binv_put I (v := w) (takeB_keys (lotsW b.L w) am) (takeB_nn (I.nn w))
      refine binv_uses I2 fun q hq => ?_
      rcases List.mem_append.mp hq with hq | hq
      · exact .inl hq
      · have : q = (w, takeP (lotsW b.L w) am) := by simpa using hq
        subst this
        refine .inr ⟨h.1, takeP_ord (I.o w), takeP_nn, fun x hx => ?_⟩
        show x ∈ keys (lotsW (putW b.L w _) w)
        rw [lotsW_put, if_pos rfl, takeB_keys]
        exact takeP_keys _ _ x hx
  | back k am =>
    show BInv W (backB b k am).1
    unfold backB
    split
    · cases hU : b.U[k.toNat]? with
      | none => exact I
      | some wo =>
        obtain ⟨w, out⟩ := wo
        show BInv W (if held out < am then (b, Ans.no) else _).1
        split
        · exact I
        · obtain ⟨h1, h2, h3, h4⟩ := I.u _ (List.mem_of_getElem? hU)
          have I2 := binv_put I (v := w) (backM_keys (lotsW b.L w) (downP out am)) (backM_nn (I.nn w) downP_nn)
          refine binv_uses I2 fun q hq => ?_
          rcases List.mem_or_eq_of_mem_set hq with hq | hq
          · exact .inl hq
          · subst hq
            refine .inr ⟨h1, ord_keys (downB_keys out am) h2, downB_nn h3, fun x hx => ?_⟩
            show x ∈ keys (lotsW (putW b.L w _) w)
            rw [lotsW_put, if_pos rfl, backM_keys]
            have hx' : x ∈ keys (downB out am) := hx
            rw [downB_keys] at hx'
            exact h4 x hx'
    · exact I
  | count w f =>
    show BInv W (countB b w f).1
    unfold countB
    split
    · exact binv_put I (downB_keys _ _) (downB_nn (I.nn w))
    · split
      · exact binv_come nd I h.1 (by omega)
      · exact I
/-! ### promises that the laws over a day share -/
theorem kit_int_str (K : PySem.W.Frag) : PySem.W.kitOne K (.type "int") (.type "str") = some false := by
  first
    | rfl
    | (with_unfolding_all rfl)
    | kernel_rfl
    | (unfold PySem.W.kitOne; rw [if_neg (by decide +kernel)]; unfold PySem.W.kitCls; first | rfl | kernel_rfl)
def spSame : Sp := fun vs H Q _ => ∃ (l r : Addr) (ds : List Deed) (xs : List V), vs = [.ref l, .ref r] ∧ H l = some (.lst xs) ∧ H r = some (.lst xs) ∧ Paired (DeedV H) xs ds ∧ ds.length ≤ 300 ∧ Q (.bl true) H
def spLawL (K : PySem.W.Frag) : Sp := fun vs H Q _ => ∃ (a : Addr) (ns : List Int), vs = [.ref a] ∧ SqL K H a (ns.map V.int) ∧ ns.length ≤ 63 ∧ (∀ n ∈ ns, Builtin.Int.intBits n ≤ 2 ^ 20) ∧ ∀ H', Q (.bl true) H'
end Bl
-- Own5
set_option Elab.async false
set_option linter.all false
set_option maxRecDepth 100000
set_option maxHeartbeats 4000000
/-! Rules of our own over the layer, 5: a dict that stands still while it is walked (values, items), reversed in a for, a comprehension with a test. -/
namespace L2
open PySem PySem.Spec PyProof.Rows
/-! ### a tracked object told otherwise -/
def NF (X : Cx) (d : Addr) : Prop := ∀ o u, X.H₀ d ≠ some (.frz o u)
theorem Inv.swap {X : Cx} {pins : List (Addr × Obj)} {σ : St} {H : Hp} {s : Shared} {d : Addr} {u1 u2 : HO} (I : Inv X pins σ H s) (hd : H d = some u1) (n1 : ∀ xs, u1 ≠ .tup xs) (n2 : ∀ y, u1 ≠ .own y) (n3 : ∀ ps, u1 ≠ .tbl ps) (n4 : NF X d)
    (new : ObjOk X.prog X.w (upd H d u2) s.heap d u2) : Inv X pins σ (upd H d u2) s := by
  have ne : ∀ {b : Addr}, H b = none → upd H d u2 b = none := fun {b} e => by rw [upd_ne (fun z => by rw [z, hd] at e; cases e)]; exact e
  refine ⟨I.ok, I.os, I.bare, ⟨I.base.keep, I.base.slot, fun b o q n hx => ne (I.base.free b o q n hx), I.base.there, fun b xs q => ?_, fun b o u q => ?_, fun b ps q => ?_⟩, I.loc, I.cell, ne I.free, fun x c e => ne (I.freeC x c e), fun p hp => ?_, fun b u e => ?_, I.len⟩
  · have z := I.base.tups b xs q
    rw [upd_ne (fun y => by rw [y, hd] at z; exact n1 _ (Option.some.inj z))]
    exact z
  · have z := I.base.frzs b o u q
    rw [upd_ne (fun y => by rw [y] at q; exact n4 _ _ q)]
    exact z
  · obtain ⟨more, z⟩ := I.base.tbls b ps q
    refine ⟨more, ?_⟩
    rw [upd_ne (fun y => by rw [y, hd] at z; exact n3 _ (Option.some.inj z))]
    exact z
  · obtain ⟨h1, h2, h3⟩ := I.pin p hp
    exact ⟨h1, ne h2, h3⟩
  · by_cases hb : b = d
    · subst hb
      rw [upd_same] at e
      cases e
      exact new
    · rw [upd_ne hb] at e
      refine (I.hok b u e).stay (fun c v _ r => r) (fun c r => ?_) fun c xs r => ?_
      · rw [upd_ne (fun y => by rw [y, hd] at r; exact n2 _ (Option.some.inj r))]
        exact r
      · rw [upd_ne (fun y => by rw [y, hd] at r; exact n1 _ (Option.some.inj r))]
        exact r
theorem dk_stay {P : Program} {w : World} {H H' : Hp} {h : Heap} {d : Addr} {kvs : List (Key × V)} (x : ObjOk P w H h d (.dK kvs)) : ObjOk P w H' h d (.dK kvs) := x
theorem Inv.freeze {X : Cx} {pins : List (Addr × Obj)} {σ : St} {H : Hp} {s : Shared} {d : Addr} {kvs : List (Key × V)} (I : Inv X pins σ H s) (hd : H d = some (.dK kvs)) :
    ∃ o, s.heap.get? d = some o ∧ NF X d ∧ Inv X pins σ (upd H d (.frz o (.dK kvs))) s := by
  have ok := I.hok d _ hd
  have nf : NF X d := fun o u z => by
    have := I.base.frzs d o u z
    rw [hd] at this
    cases this
  obtain ⟨z, y, vs, r, ob, es, ep, e, c⟩ := id ok
  exact ⟨ob, e, nf, I.swap hd (by intro _ z; cases z) (by intro _ z; cases z) (by intro _ z; cases z) nf ⟨e, dk_stay ok⟩⟩
theorem Inv.thaw {X : Cx} {pins : List (Addr × Obj)} {σ : St} {H : Hp} {s : Shared} {d : Addr} {o : Obj} {kvs : List (Key × V)} (I : Inv X pins σ H s) (nf : NF X d) (hd : H d = some (.frz o (.dK kvs))) : Inv X pins σ (upd H d (.dK kvs)) s :=
  I.swap hd (by intro _ z; cases z) (by intro _ z; cases z) (by intro _ z; cases z) nf (dk_stay (I.hok d _ hd).2)
def tThaw (X : Cx) (t : TE) : TE := fun σ H Q => t σ H fun v H' => ∃ d o kvs, NF X d ∧ H' d = some (.frz o (.dK kvs)) ∧ Q v (upd H' d (.dK kvs))
def sThaw (X : Cx) (t : TS) : TS := fun D σ H => t { nx := fun σ H => ∃ d o kvs, NF X d ∧ H d = some (.frz o (.dK kvs)) ∧ D.nx σ (upd H d (.dK kvs)), rt := fun _ _ => False, bk := fun _ _ => False, ct := fun _ _ => False } σ H
theorem ps_thaw {X : Cx} {st : Stmt} {t : TS} (h : PS X st t) : PS X st (sThaw X t) := by
  intro pins s σ H D I q
  refine thn (h pins s σ H _ I q) fun f s1 hf => ?_
  cases f with
  | next =>
    obtain ⟨σ1, H1, I1, d, o, kvs, nf, hd, q1⟩ := hf
    exact ⟨σ1, _, I1.thaw nf hd, q1⟩
  | brk => obtain ⟨_, _, _, z⟩ := hf; exact z.elim
  | cont => obtain ⟨_, _, _, z⟩ := hf; exact z.elim
  | ret u => obtain ⟨_, _, _, _, _, z⟩ := hf; exact z.elim
/-! ### d.values() -/
def Itv (d : Addr) (o : Obj) (kvs : List (Key × V)) : It :=
  ⟨fun i H => H d = some (.frz o (.dK kvs)) ∧ i < kvs.length, fun i H x H' => H' = H ∧ ∃ k, kvs[i]? = some (k, x), fun i H => H d = some (.frz o (.dK kvs)) ∧ kvs.length ≤ i⟩
theorem frz_at {X : Cx} {pins : List (Addr × Obj)} {σ : St} {H : Hp} {s : Shared} {d : Addr} {o : Obj} {kvs : List (Key × V)} (I : Inv X pins σ H s) (hd : H d = some (.frz o (.dK kvs))) {es : Array _} {ep : Nat} (ho : o.data = .dict es ep) :
    ∃ vs, KV kvs vs ∧ s.heap.DictAt (mixKind X.prog X.w) d vs ep := by
  obtain ⟨e, _, _, vs, r, dd⟩ := I.hok d _ hd
  obtain ⟨ep', hat⟩ := dd.dictAt
  obtain ⟨o', es', e', c', d', rest⟩ := id hat
  rw [e] at e'
  cases e'
  rw [ho] at d'
  cases d'
  exact ⟨vs, r, hat⟩
section
variable {X : Cx} {tg o : Expr} {te : TE} {apos pos : Pos}
def iVals (X : Cx) (te : TE) : TI := fun σ H R => te σ H fun x H1 => ∃ d kvs, x = .ref d ∧ H1 d = some (.dK kvs) ∧ ∀ o, NF X d → R (Itv d o kvs) (upd H1 d (.frz o (.dK kvs)))
/-! ### reversed(xs) -/
def Itrev (K : PySem.W.Frag) (a : Addr) (n : Nat) : It :=
  ⟨fun i H => ∃ xs x, SqL K H a xs ∧ xs.length = n ∧ xs.reverse[i]? = some x, fun i H x H' => H' = H ∧ ∀ xs, SqL K H a xs → xs.reverse[i]? = some x, fun i H => n ≤ i⟩
theorem turn_rev {P : Program} {w : World} {K : PySem.W.Frag} {tg : Expr} (a it : Addr) (n : Nat) : Turn P w K tg (Itrev K a n) [it] it (fun i h => i ≤ n ∧ h.IsRevIter it a ((n : Int) - 1 - (i : Int))) where
  mem := by simp
  obj := fun i h st b hb => by
    have e : b = it := by simpa using hb
    subst e
    obtain ⟨_, o, e, c, d⟩ := st
    exact ⟨o, e, fun v z => by rw [d] at z; cases z⟩
  keep := fun i h h' st k => ⟨st.1, st.2.at fun o e => k it (by simp) o e⟩
  item := by
    intro X hP hw hK hc i pins s σ H E I hf st hg
    subst hP hw hK
    obtain ⟨xs, x, hq, hn, hx⟩ := hg
    obtain ⟨its, rv, p, hz⟩ := I.list hq
    have hl := rv.length
    have hi : i < xs.length := by have := (List.getElem?_eq_some_iff.mp hx).1; rwa [List.length_reverse] at this
    rw [List.getElem?_reverse hi] at hx
    obtain ⟨u, hu, ru⟩ := rv.get hx
    obtain ⟨f0, f1, f2, f3, f4, f5⟩ := hf it (by simp)
    obtain ⟨_, st⟩ := st
    have e : (n : Int) - 1 - (i : Int) = ((xs.length - 1 - i : Nat) : Int) := by omega
    rw [e] at st
    refine wpAny_pyNext_rev_item st p.isList (x := u) (by simpa using hu) fun h' st' sb => ?_
    have I1 : Inv X pins σ H { s with heap := h' } := I.turned (t' := s.toks) (fun b o hb e => (sb.2 b hb).trans e) f0 f1 f3 f4 f5
    have e2 : ((xs.length - 1 - i : Nat) : Int) - 1 = (n : Int) - 1 - ((i + 1 : Nat) : Int) := by omega
    rw [e2] at st'
    obtain ⟨o, e, c, d⟩ := id st'
    refine ⟨u, rfl, go_of (s := { s with heap := h' }) e c d (by decide) ⟨x, H, I1, ru, ⟨rfl, fun ys hy => ?_⟩, ⟨by omega, st'⟩, fun b hb => (hf b hb).1⟩⟩
    rw [I.list_inj hy hq, List.getElem?_reverse hi]
    exact hx
  done := by
    intro X hP hw hK hc i pins s σ H E I hf st hg
    subst hP hw hK
    obtain ⟨f0, f1, f2, f3, f4, f5⟩ := hf it (by simp)
    have hg : n ≤ i := hg
    obtain ⟨hi, st⟩ := st
    have e : (n : Int) - 1 - (i : Int) = -1 := by omega
    rw [e] at st
    exact wpAny_pyNext_rev_end (I.ok.hd hc) st fun h' eb => ⟨rfl, I.turned (t' := s.toks) (fun b o hb e => eb b o hb e) f0 f1 f3 f4 f5⟩
  self := fun _ _ _ _ _ st h => wpAny_pyIter_revIter st.2 h
def iRev (K : PySem.W.Frag) (te : TE) : TI := fun σ H R => te σ H fun x H1 => ∃ a xs, x = .ref a ∧ SqL K H1 a xs ∧ R (Itrev K a xs.length) H1
theorem pi_rev {e : Expr} {q1 q2 : Pos} (hg : Gl X "reversed") (hm : X.mg "reversed" = none) (he : PE X e te) (hs2 : starEach [e] X.env = [(false, eval e X.env)] := by rfl) : PI X tg (.Call (.Name "reversed" q1) [e] [] q2) (iRev X.K te) := by
  intro pins s σ H R I h
  refine Call_ (ld_blt I hg hm bt_reversed (PyProof.Rows.callWith_type1 ?_ hs2 rfl))
  rw [hs2]
  refine Calls.spliced_cons (thn (he pins s σ H _ I h) fun v s1 ⟨x, H1, I1, r1, q⟩ => ?_)
  obtain ⟨a, xs, rfl, hq, q⟩ := q
  cases r1
  refine Calls.spliced_nil ?_
  obtain ⟨its, rv, pl, hz⟩ := I1.list hq
  have hlen := rv.length
  refine call_reversed_list pl.isList ?_
  refine wpAny_pyIter_revIter (it := s1.heap.objs.size) (l := a) (i := (its.toArray.size : Int) - 1) ⟨_, Heap.get?_push_size _ rfl, rfl, rfl⟩ ?_
  refine ⟨s1.heap.objs.size, [s1.heap.objs.size], _, _, H1, rfl, I1.kept (t' := s1.toks) fun b o e => Heap.get?_push_of_some _ e, turn_rev a _ xs.length, ⟨Nat.zero_le _, _, Heap.get?_push_size _ rfl, rfl, ?_⟩, fun b hb => ?_, q⟩
  · have e : (its.toArray.size : Int) - 1 = (xs.length : Int) - 1 - ((0 : Nat) : Int) := by
      have : its.toArray.size = xs.length := by simp [hlen]
      omega
    rw [← e]
    rfl
  · have e : b = s1.heap.objs.size := by simpa using hb
    subst e
    exact I1.fpOk (Nat.le_refl _) (I1.hok.fresh (Nat.le_refl _))
end
theorem for_rev {K : PySem.W.Frag} {a : Addr} {xs : List V} {g : TG} {tb : TS} {D : Ends} {σ : St} {H : Hp} (Pv : Nat → St → Hp → Prop) (h0 : Pv 0 σ H) (hl : ∀ i σ H, i ≤ xs.length → Pv i σ H → SqL K H a xs)
    (hs : ∀ i x σ H, xs.reverse[i]? = some x → Pv i σ H → g x σ H fun σ2 H2 => tb { D with nx := Pv (i + 1), ct := Pv (i + 1), bk := D.nx } σ2 H2) (hd : ∀ σ H, Pv xs.length σ H → D.nx σ H) :
    ∃ W : Nat → Nat → St → Hp → Prop, (∃ m, W 0 m σ H) ∧ ∀ i m σ H, W i m σ H →
      ((Itrev K a xs.length).stop i H ∧ D.nx σ H) ∨ ((Itrev K a xs.length).go i H ∧ ∃ N : St → Hp → Prop, (∀ σ' H', N σ' H' → ∃ m', m' < m ∧ W (i + 1) m' σ' H') ∧ ∀ x H', (Itrev K a xs.length).yld i H x H' → g x σ H' fun σ2 H2 => tb { D with nx := N, ct := N, bk := D.nx } σ2 H2) := by
  refine ⟨fun i m σ H => m = xs.length - i ∧ i ≤ xs.length ∧ Pv i σ H, ⟨xs.length, by simp, Nat.zero_le _, h0⟩, ?_⟩
  rintro i m σ H ⟨rfl, hi, p⟩
  have q := hl i σ H hi p
  by_cases hlt : i < xs.length
  · have hx : xs.reverse[i]? = some (xs.reverse[i]'(by simpa using hlt)) := List.getElem?_eq_getElem _
    refine .inr ⟨⟨xs, _, q, rfl, hx⟩, Pv (i + 1), fun σ' H' p' => ⟨xs.length - (i + 1), by omega, rfl, hlt, p'⟩, fun x H' y => ?_⟩
    obtain ⟨e, y⟩ := y
    subst e
    exact hs i x σ _ (y xs q) p
  · have e : i = xs.length := by omega
    subst e
    exact .inl ⟨Nat.le_refl _, hd σ H p⟩
/-! ### d.items() -/
theorem Inv.adopt {X : Cx} {pins : List (Addr × Obj)} {σ : St} {H : Hp} {s : Shared} {a : Addr} {o : HO} (I : Inv X pins σ H s) (hn : H a = none) (h0 : X.s₀.heap.objs.size ≤ a) (hL : a ≠ X.env.locals) (hc : ∀ x c, X.env.cells.lookup x = some c → c ≠ a) (hp : ∀ p ∈ X.pn ++ pins, p.1 ≠ a)
    (new : ObjOk X.prog X.w (upd H a o) s.heap a o) : Inv X pins σ (upd H a o) s := by
  refine ⟨I.ok, I.os, I.bare, ⟨I.base.keep, I.base.slot, fun b ob q n hx => ?_, I.base.there, fun b xs q => ?_, fun b ob u q => ?_, fun b ps q => ?_⟩, I.loc, I.cell, ?_, fun x c e => ?_, fun p hpp => ?_, fun b u e => ?_, I.len⟩
  · rw [upd_ne (Nat.ne_of_lt (Nat.lt_of_lt_of_le (Heap.lt_size q) h0))]
    exact I.base.free b ob q n hx
  · have z := I.base.tups b xs q
    rw [upd_ne (ne_of_none z hn)]
    exact z
  · have z := I.base.frzs b ob u q
    rw [upd_ne (ne_of_none z hn)]
    exact z
  · obtain ⟨more, z⟩ := I.base.tbls b ps q
    refine ⟨more, ?_⟩
    rw [upd_ne (ne_of_none z hn)]
    exact z
  · rw [upd_ne hL.symm]; exact I.free
  · rw [upd_ne (hc x c e)]; exact I.freeC x c e
  · obtain ⟨h1, h2, h3⟩ := I.pin p hpp
    exact ⟨h1, by rw [upd_ne (hp p hpp)]; exact h2, h3⟩
  · by_cases hb : b = a
    · subst hb
      rw [upd_same] at e
      cases e
      exact new
    · rw [upd_ne hb] at e
      refine (I.hok b u e).stay (fun c v _ r => r) (fun c r => ?_) fun c xs r => ?_
      · rw [upd_ne (ne_of_none r hn)]; exact r
      · rw [upd_ne (ne_of_none r hn)]; exact r
theorem entry_itemiter_iter : entryFor table "dict_itemiterator.__iter__" = some Builtin.«dict_keyiterator.__iter__» :=
  entryFor_alias (id' := "dict_keyiterator.__iter__") (by kernel_rfl) rfl (by decide +kernel) (by kernel_rfl)
theorem pyIter_itemiter {prog : Program} {w : World} {A : Around} {E : Value → Shared → Prop} {s : Shared} {it d : Addr} {i n ep : Nat} {ok ov : Value} {Q : Value → Shared → Prop} (hit : IsItemIter s.heap it d i n ep ok ov) (h : Q (.ref it) s) : wpAny (model prog w) A (pyIter (.ref it)) Q E s := by
  have hT : s.TypeIs (.ref it) "dict_itemiterator" := ⟨_, hit, rfl⟩
  refine wpAny_pyIter_slot hT F.slot_dict_itemiterator_iter (wpAny_call_entry F.slot_dict_itemiterator_iter hT entry_itemiter_iter ?_ (F.args_dict_itemiterator_iter_1 _))
  show wpAny _ _ (ret (.ref it)) _ _ s
  exact wpAny_pure ⟨_, rfl, "dict_itemiterator", _, hT, F.slot_dict_itemiterator_next.lookup, h⟩
def Iti (d : Addr) (o : Obj) (kvs : List (Key × V)) : It :=
  ⟨fun i H => H d = some (.frz o (.dK kvs)) ∧ i < kvs.length, fun i H x H' => ∃ p k v, H p = none ∧ kvs[i]? = some (k, v) ∧ x = .ref p ∧ H' = upd H p (.tup [kV k, v]), fun i H => H d = some (.frz o (.dK kvs)) ∧ kvs.length ≤ i⟩
theorem turn_items {P : Program} {w : World} {K : PySem.W.Frag} {elts : List Expr} {x1 : Nat} {tpos : Pos} (d it : Addr) (hne : d ≠ it) (o : Obj) (es : Array _) (ep : Nat) (ho : o.data = .dict es ep) (kvs : List (Key × V)) :
    Turn P w K (.Tuple elts x1 tpos) (Iti d o kvs) [it] it (fun i h => ∃ ok ov, IsItemIter h it d i kvs.length ep ok ov) where
  mem := by simp
  obj := fun i h st b hb => by
    have e : b = it := by simpa using hb
    subst e
    obtain ⟨ok, ov, st⟩ := st
    exact ⟨_, st, fun v z => by
      have z' : Data.fields _ = Data.cell v := z
      cases z'⟩
  keep := fun i h h' st k => let ⟨ok, ov, e⟩ := st; ⟨ok, ov, k it (by simp) _ e⟩
  item := by
    intro X hP hw hK hc i pins s σ H E I hf st hg
    subst hP hw hK
    obtain ⟨hd, hi⟩ := hg
    obtain ⟨vs, rv, hat⟩ := frz_at I hd ho
    have hl := KV.length rv
    obtain ⟨f0, f1, f2, f3, f4, f5⟩ := hf it (by simp)
    obtain ⟨⟨k0, v0⟩, hx⟩ : ∃ q, vs[i]? = some q := ⟨_, List.getElem?_eq_getElem (show i < vs.length by omega)⟩
    obtain ⟨v, hv, rvv⟩ := KV.at rv hx
    obtain ⟨ok, ov, st⟩ := st
    have hit : it < s.heap.objs.size := Heap.lt_size st
    rw [hl] at st
    refine wpAny_pyNext_items_item st hat (k := k0) (v := v0) hx fun key h' hkey st' hT hsz hk => ?_
    refine ⟨_, rfl, wpAny_letOwnedTupleGo_items st' fun h2 st2 sb2 => ?_⟩
    have hTit : s.heap.objs.size ≠ it := Nat.ne_of_gt hit
    have I1 : Inv X pins σ H { s with heap := h2 } := I.turned (t' := s.toks) (fun b ob hb e => sb2.extBut b ob hb (hk b ob hb e)) f0 f1 f3 f4 f5
    have hT2 := sb2.extBut _ _ hTit hT
    have hTn : H s.heap.objs.size = none := I.hok.fresh (Nat.le_refl _)
    have I2 : Inv X pins σ (upd H s.heap.objs.size (.tup [kV k0, v])) { s with heap := h2 } := by
      refine I1.adopt hTn I.sz (Nat.ne_of_gt I.lt) (fun x c e z => ?_) (fun p hp z => ?_) ⟨by show 2 ≤ sizeLine; decide, [key, v0], .cons (rel_of_keyIs hkey) (.cons rvv .nil), _, hT2, rfl, 0, rfl⟩
      · obtain ⟨v, q⟩ := I.cell x c e
        exact absurd q.lt (by rw [z]; exact Nat.lt_irrefl _)
      · exact absurd (Heap.lt_size (I.pin p hp).1) (by rw [z]; exact Nat.lt_irrefl _)
    rw [← hl] at st2
    refine ⟨.ref s.heap.objs.size, _, I2, rfl, ⟨_, _, _, hTn, hv, rfl, rfl⟩, ⟨_, _, st2⟩, fun b hb => ?_⟩
    have e : b = it := by simpa using hb
    subst e
    rw [upd_ne hTit.symm]
    exact f0
  done := by
    intro X hP hw hK hc i pins s σ H E I hf st hg
    subst hP hw hK
    obtain ⟨hd, hi⟩ := hg
    obtain ⟨vs, rv, hat⟩ := frz_at I hd ho
    have hl := KV.length rv
    obtain ⟨f0, f1, f2, f3, f4, f5⟩ := hf it (by simp)
    obtain ⟨ok, ov, st⟩ := st
    rw [hl] at st
    exact wpAny_pyNext_items_end (I.ok.hd hc) st hat (List.getElem?_eq_none (by omega)) fun h' eb => ⟨rfl, I.turned (t' := s.toks) (fun b o hb e => eb b o hb e) f0 f1 f3 f4 f5⟩
  self := fun _ _ _ _ _ st h => let ⟨_, _, e⟩ := st; pyIter_itemiter e h
section
variable {X : Cx} {o : Expr} {te : TE} {apos pos : Pos} {elts : List Expr} {x1 : Nat} {tpos : Pos}
def iItems (X : Cx) (te : TE) : TI := fun σ H R => te σ H fun x H1 => ∃ d kvs, x = .ref d ∧ H1 d = some (.dK kvs) ∧ ∀ o, NF X d → R (Iti d o kvs) (upd H1 d (.frz o (.dK kvs)))
theorem pi_items (he : PE X o te) (hbase : attributeBase o "items" X.env (eval o X.env) = eval o X.env := by rfl) (hline : (apos.endLine == pos.line) = true := by rfl) : PI X (.Tuple elts x1 tpos) (.Call (.Attribute o "items" apos) [] [] pos) (iItems X te) := by
  intro pins s σ H R I h
  refine wpAny_Call_method (T := "dict") (id := "dict.items") hbase rfl hline F.plainAttrs_dict F.slot_dict_items F.type_dict_items (thn (he pins s σ H _ I h) fun v s1 ⟨x, H1, I1, r1, q⟩ => ?_)
  obtain ⟨d, kvs, rfl, hd, q⟩ := q
  cases r1
  obtain ⟨hz, lo, vs, rv, dd⟩ := I1.hok d _ hd
  refine ⟨dd.typeIs, dd.mapOf.noDict, ?_⟩
  show wpAny _ _ (callWith pos (.builtin "dict.items") [.ref d] [] []) _ _ s1
  refine method_meetsIn F.slot_dict_items F.entry_dict_items rfl (PySem.evalArgs_none ⟨rfl, dd.typeIs, F.args_dict_items_1 _, _, meets_dict_items (mixKind X.prog X.w) d lo, ⟨vs, dd⟩, ?_⟩)
  have I2 : Inv X pins σ H1 { s1 with heap := s1.heap.push { cls := .type "dict_items", data := .fields #[.ref d] } } := I1.kept (t' := s1.toks) fun b o e => Heap.get?_push_of_some _ e
  obtain ⟨ob, hob, nf, I3⟩ := I2.freeze hd
  obtain ⟨_, _, _, vs2, rv2, dd2⟩ := I3.hok d _ upd_same
  obtain ⟨ep, hat⟩ := dd2.dictAt
  obtain ⟨o', es, e', c', d', rest⟩ := id hat
  rw [hob] at e'
  cases e'
  have hlt : d < (s1.heap.push { cls := .type "dict_items", data := .fields #[.ref d] }).objs.size := Heap.lt_size hob
  have hl := KV.length rv2
  refine wpAny_pyIter_items (v := s1.heap.objs.size) ⟨_, Heap.get?_push_size _ rfl, rfl, rfl⟩ hat ?_
  refine ⟨_, [(s1.heap.push { cls := .type "dict_items", data := .fields #[.ref d] }).objs.size], _, _, _, rfl, I3.kept (t' := s1.toks) fun b o e => Heap.get?_push_of_some _ e, turn_items d _ (Nat.ne_of_lt hlt) ob es ep d' kvs, ?_, fun b hb => ?_, q ob nf⟩
  · rw [hl]
    exact ⟨.none, .none, Heap.get?_push_size _ rfl⟩
  · have e : b = (s1.heap.push { cls := .type "dict_items", data := .fields #[.ref d] }).objs.size := by simpa using hb
    subst e
    exact I3.fpOk (Nat.le_refl _) (I3.hok.fresh (Nat.le_refl _))
end
theorem for_items {d : Addr} {ob : Obj} {kvs : List (Key × V)} {g : TG} {tb : TS} {D : Ends} {σ : St} {H : Hp} (Pv : Nat → St → Hp → Prop) (h0 : Pv 0 σ H) (hl : ∀ i σ H, i ≤ kvs.length → Pv i σ H → H d = some (.frz ob (.dK kvs)))
    (hs : ∀ i k v p σ H, kvs[i]? = some (k, v) → Pv i σ H → H p = none → g (.ref p) σ (upd H p (.tup [kV k, v])) fun σ2 H2 => tb { D with nx := Pv (i + 1), ct := Pv (i + 1), bk := D.nx } σ2 H2) (hd : ∀ σ H, Pv kvs.length σ H → D.nx σ H) :
    ∃ W : Nat → Nat → St → Hp → Prop, (∃ m, W 0 m σ H) ∧ ∀ i m σ H, W i m σ H →
      ((Iti d ob kvs).stop i H ∧ D.nx σ H) ∨ ((Iti d ob kvs).go i H ∧ ∃ N : St → Hp → Prop, (∀ σ' H', N σ' H' → ∃ m', m' < m ∧ W (i + 1) m' σ' H') ∧ ∀ x H', (Iti d ob kvs).yld i H x H' → g x σ H' fun σ2 H2 => tb { D with nx := N, ct := N, bk := D.nx } σ2 H2) := by
  refine ⟨fun i m σ H => m = kvs.length - i ∧ i ≤ kvs.length ∧ Pv i σ H, ⟨kvs.length, by simp, Nat.zero_le _, h0⟩, ?_⟩
  rintro i m σ H ⟨rfl, hi, p⟩
  have q := hl i σ H hi p
  by_cases hlt : i < kvs.length
  · refine .inr ⟨⟨q, hlt⟩, Pv (i + 1), fun σ' H' p' => ⟨kvs.length - (i + 1), by omega, rfl, hlt, p'⟩, fun x H' y => ?_⟩
    obtain ⟨a, k, v, y1, y2, rfl, rfl⟩ := y
    exact hs i k v a σ H y2 p y1
  · have e : i = kvs.length := by omega
    subst e
    exact .inl ⟨⟨q, Nat.le_refl _⟩, hd σ H p⟩
def tCompIf (wi : TI) (caps : List (Nat × Str)) (n : Nat) (g : TG) (tc : TT) (te : TE) : TE := fun σ H Q => wi σ H fun J H1 => ∀ acc, H1 acc = none → ∃ W : Nat → Nat → List V → St → Hp → Prop,
  (∃ m, W 0 m [] (capσ caps n σ) (upd H1 acc (.lst []))) ∧ ∀ i m ys σ' H', W i m ys σ' H' →
    H' acc = some (.lst ys) ∧ ((J.stop i H' ∧ Q (.ref acc) H') ∨ (J.go i H' ∧ ys.length < sizeLine ∧ ∃ (Nx : V → St → Hp → Prop) (Ns : St → Hp → Prop), (∀ y σ2 H4, Nx y σ2 H4 → ∃ m', m' < m ∧ W (i + 1) m' (ys ++ [y]) σ2 (upd H4 acc (.lst (ys ++ [y])))) ∧ (∀ σ2 H4, Ns σ2 H4 → ∃ m', m' < m ∧ W (i + 1) m' ys σ2 H4) ∧
        ∀ x H3, J.yld i H' x H3 → g x σ' H3 fun σ2 H4 => tc σ2 H4 fun b H5 => if b = true then te σ2 H5 fun y H6 => H6 acc = some (.lst ys) ∧ Nx y σ2 H6 else Ns σ2 H5))
section
variable {prog : Program} {w : World} {A : Around} {R : Result → Shared → Prop} {s : Shared}
theorem compLoop_anyIf {elt target iter c : Expr} {scope : Scope} {pos : Pos} {it acc : Value} {env : Env} (I : Nat → Shared → Prop)
    (turn : ∀ n s, I n s → wpAny (model prog w) A (pyNext it) (fun r s₁ => match r with
      | none => R (.ok .next) s₁
      | some v => wpAny (model prog w) A (letOwnedTupleGo target it v) (fun _ s₂ => wpAny (model prog w) A (assign target env v) (fun _ s₃ => wpAny (model prog w) A (isTrue c env (eval c env)) (fun b s₃' => if b = true then wpAny (model prog w) A (eval elt env) (fun x s₄ =>
          wpAny (model prog w) A (call (.builtin "list.append") [acc, x]) (fun _ s₅ => ∃ m, m < n ∧ I m s₅) (fun _ _ => False) s₄) (fun _ _ => False) s₃' else ∃ m, m < n ∧ I m s₃')
          (fun _ _ => False) s₃) (fun _ _ => False) s₂) (fun _ _ => False) s₁) (fun _ _ => False) s)
    (n : Nat) (h : I n s) :
    codeAny (model prog w) A (.compLoop (.ListComp elt [⟨target, iter, [c], 0⟩] scope pos) 0 it acc env) R s := by
  refine codeAny_loop rfl I (fun n s hI => ?_) n h
  show wpAny _ _ ((compTurn (.ListComp elt [⟨target, iter, [c], 0⟩] scope pos) 0 it acc env).onRaise (fun x => do noteFrame x env; theTreesLotGoes x)) _ _ s
  refine wpAny_noted ?_
  rw [compTurn_list]
  refine wpAny_bind (wpAny_standAt (wpAny_bind (wpAny_mono (turn n s hI) (fun r s₁ h₁ => ?_) fun _ _ z => False.elim z)))
  cases r with
  | none => exact wpAny_pure h₁
  | some v =>
    refine wpAny_bind (wpAny_mono h₁ (fun _ s₂ h₂ => ?_) fun _ _ z => False.elim z)
    refine wpAny_bind (wpAny_mono h₂ (fun _ s₃ h₃ => wpAny_bind (wpAny_tests_one (wpAny_mono h₃ (fun ok s₄ h₄ => ?_) fun _ _ z => False.elim z))) fun _ _ z => False.elim z)
    cases ok with
    | false => exact wpAny_pure ⟨rfl, h₄⟩
    | true =>
      exact wpAny_bind (wpAny_bind (wpAny_mono h₄ (fun x s₄ h₄ => wpAny_bind (wpAny_mono h₄ (fun _ s₅ h₅ => wpAny_pure (wpAny_pure ⟨rfl, h₅⟩)) fun _ _ z => False.elim z)) fun _ _ z => False.elim z))
end
section
variable {X : Cx} {elt tg iter ct : Expr} {scope : Scope} {pos : Pos} {wi : TI} {g : TG} {tc : TT} {te : TE} {caps : List (Nat × Str)} {own N : List Str} {cl : List (Str × Addr)}
theorem comp_coreIf (hc : X.calm = true) (hcl : closF X.env.cells scope.names [] = some cl) (hcell : ∀ y ∈ scope.names, y.2 ≠ .cell) (hkind : scope.kind = .function) (hcap : CapOk X scope caps)
    (hg : ∀ C s H ex, PG (cxComp X (caps.map (·.2) ++ own) scope cl C s H ex) tg g) (ht : ∀ C s H ex, PT (cxComp X (caps.map (·.2) ++ own) scope cl C s H ex) ct tc) (he : ∀ C s H ex, PE (cxComp X (caps.map (·.2) ++ own) scope cl C s H ex) elt te)
    {pins : List (Addr × Obj)} {σ : St} {H2 : Hp} {s2 : Shared} {fp : List Addr} {it : Addr} {tn : Nat → Heap → Prop} {J : It} {Qv : VK} {E : Value → Shared → Prop} {RR : Value → Addr → Result → Shared → Prop}
    (I2 : Inv X pins σ H2 s2) (T : Turn X.prog X.w X.K tg J fp it tn) (st2 : tn 0 s2.heap) (f2 : ∀ b ∈ fp, FpOk X pins H2 b)
    (rd : ∀ acc, H2 acc = none → ∃ W : Nat → Nat → List V → St → Hp → Prop, (∃ m, W 0 m [] (capσ caps own.length σ) (upd H2 acc (.lst []))) ∧ ∀ i m ys σ' H', W i m ys σ' H' →
      H' acc = some (.lst ys) ∧ ((J.stop i H' ∧ Qv (.ref acc) H') ∨ (J.go i H' ∧ ys.length < sizeLine ∧ ∃ (Nx : V → St → Hp → Prop) (Ns : St → Hp → Prop), (∀ y σ2 H4, Nx y σ2 H4 → ∃ m', m' < m ∧ W (i + 1) m' (ys ++ [y]) σ2 (upd H4 acc (.lst (ys ++ [y])))) ∧ (∀ σ2 H4, Ns σ2 H4 → ∃ m', m' < m ∧ W (i + 1) m' ys σ2 H4) ∧
        ∀ x H3, J.yld i H' x H3 → g x σ' H3 fun σ2 H4 => tc σ2 H4 fun b H5 => if b = true then te σ2 H5 fun y H6 => H6 acc = some (.lst ys) ∧ Nx y σ2 H6 else Ns σ2 H5)))
    (hRR : ∀ (D C : Addr) (H' : Hp) (s4 : Shared), Inv X pins σ H' s4 → Qv (.ref D) H' → (∃ m, s4.heap.Ns C m) → H' C = none → s2.heap.objs.size ≤ C → RR (.ref D) C (.ok .next) s4) :
    wpAny (model X.prog X.w) X.A (newList []) (fun acc s₃ => wpAny (model X.prog X.w) X.A (newFunctionEnv scope X.env.globals cl [] X.env.qual none .none (some X.env)) (fun cenv s₄ =>
      codeAny (model X.prog X.w) X.A (.compStart (.ListComp elt [⟨tg, iter, [ct], 0⟩] scope pos) 0 (.ref it) acc { cenv with scope := relabel scope X.env }) (RR acc cenv.locals) s₄) E s₃) E s2 := by
  refine wpAny_newObj_type (wpAny_newFunctionEnv hcell (by intro y hy; simp at hy) (fun h₁ hns₁ hsb₁ => ?_) hkind)
  dsimp only at hns₁ hsb₁ ⊢
  generalize hG : s2.heap.push { cls := .type "list", dict := none, data := .seq ([] : List Value).toArray } = G at hns₁ hsb₁ ⊢
  generalize hD : s2.heap.objs.size = D at *
  generalize hCe : G.objs.size = C at *
  have hC : C = D + 1 := by rw [← hCe, ← hG, Heap.size_push, hD]
  have hDC : D ≠ C := by rw [hC]; exact Nat.ne_of_lt (Nat.lt_succ_self _)
  have hCle : s2.heap.objs.size ≤ C := by rw [hD, hC]; exact Nat.le_succ _
  have old : ∀ b o, s2.heap.get? b = some o → h₁.get? b = some o := fun b o e => by
    have hb : b < D := by rw [← hD]; exact Heap.lt_size e
    have e1 : G.get? b = some o := by rw [← hG]; exact Heap.get?_push_of_some _ e
    exact hsb₁.extBut b o (by rw [hC]; exact Nat.ne_of_lt (Nat.lt_succ_of_lt hb)) (Heap.get?_push_of_some _ e1)
  have hacc : h₁.get? D = some { cls := .type "list", dict := none, data := .seq ([] : List Value).toArray } := by
    have e1 : G.get? D = some { cls := .type "list", dict := none, data := .seq ([] : List Value).toArray } := by rw [← hG, ← hD]; exact Heap.get?_push_size _ rfl
    exact hsb₁.extBut _ _ hDC (Heap.get?_push_of_some _ e1)
  have fpl : ∀ b ∈ fp, b < s2.heap.objs.size := fun b hb => by
    obtain ⟨o, e, _⟩ := T.obj 0 _ st2 b hb
    exact Heap.lt_size e
  have hDn : H2 D = none := I2.hok.fresh (Nat.le_of_eq hD)
  have hCn : H2 C = none := I2.hok.fresh hCle
  obtain ⟨W, ⟨m0, w0⟩, turn⟩ := rd D hDn
  have ok' : (cxComp X (caps.map (·.2) ++ own) scope cl C s2 H2 fp).Ok := comp_ok I2 f2 hcl hcell hkind hCle fpl
  have sub := closF_sub scope.names [] cl hcl (fun p hp => by simp at hp)
  have sub' : ∀ x c, cl.lookup x = some c → X.env.cells.lookup x = some c := fun x c e => sub (x, c) (PySem.mem_of_lookup e)
  have clt : ∀ x c, X.env.cells.lookup x = some c → c < s2.heap.objs.size := fun x c e => by
    obtain ⟨v, q⟩ := I2.cell x c e
    exact q.lt
  have hokD : HOk X.prog X.w (upd H2 D (.lst [])) h₁ := I2.hok.laid old (Nat.le_of_eq hD) ⟨Nat.zero_le _, [], _, .nil, hacc⟩
  have I3 : Inv (cxComp X (caps.map (·.2) ++ own) scope cl C s2 H2 fp) [] (capσ caps own.length σ) (upd H2 D (.lst [])) { s2 with heap := h₁, toks := s2.toks + ([] : List (Str × Value)).length } := by
    refine ⟨ok', rfl, I2.bare, Un.laid old (Nat.le_of_eq hD) hDn, ⟨_, hns₁, fun i x v e1 e2 e3 => ?_⟩, fun x c e => ?_, ?_, fun x c e => ?_, fun p hp => ?_, hokD, ?_⟩
    · have hi : i < caps.length := by
        by_cases hi : i < caps.length
        · exact hi
        · unfold capσ at e2
          rw [List.getElem?_append_right (by simpa using hi), List.getElem?_replicate] at e2
          split at e2 <;> cases e2
      have ex : (caps.map (·.2))[i]? = some x := by
        have e1 : (caps.map (·.2) ++ own)[i]? = some x := e1
        rw [List.getElem?_append_left (by simpa using hi)] at e1
        exact e1
      obtain ⟨p, hp, rfl⟩ : ∃ p, caps[i]? = some p ∧ p.2 = x := by
        rw [List.getElem?_map] at ex
        cases q : caps[i]? with
        | none => rw [q] at ex; cases ex
        | some p => rw [q] at ex; exact ⟨p, rfl, Option.some.inj ex⟩
      obtain ⟨hN, hk, hkl⟩ := hcap.at hp
      have ev : σ[p.1]? = some (some v) := by
        unfold capσ at e2
        rw [List.getElem?_append_left (by simpa using hi), List.getElem?_map, hp] at e2
        have e2 : (σ[p.1]?).getD none = some v := Option.some.inj e2
        cases q : σ[p.1]? with
        | none => rw [q] at e2; cases e2
        | some z => rw [q] at e2; exact congrArg some e2
      obtain ⟨m, hn, hl⟩ := I2.loc
      obtain ⟨u, r, l⟩ := hl p.1 p.2 v hN ev (.inr (.inl hk))
      refine ⟨u, r, ?_⟩
      rcases l with ⟨hk', _⟩ | ⟨_, c, hcl', hce⟩
      · rw [hk] at hk'; cases hk'
      · have hv : (relabel scope X.env).names.lookup p.2 = some .local ∨ (relabel scope X.env).names.lookup p.2 = some .cell ∨ (relabel scope X.env).names.lookup p.2 = some .free := e3
        rcases hv with hv | hv
        · -- a name of the block's own stands among the own ones
          rw [hkl] at hv
          cases hv
        · obtain ⟨c', hc'⟩ := ok'.has p.2 hv
          have hc'' : cl.lookup p.2 = some c' := hc'
          have e4 := sub' _ _ hc''
          rw [hcl'] at e4
          cases e4
          exact .inr ⟨hv, c, hc', let ⟨o, ho, hd⟩ := hce; ⟨o, old _ o ho, hd⟩⟩
    · have e' : cl.lookup x = some c := e
      obtain ⟨v, q⟩ := I2.cell x c (sub' x c e')
      exact ⟨v, let ⟨o, ho, hd⟩ := q; ⟨o, old _ o ho, hd⟩⟩
    · show upd H2 D (.lst []) C = none
      rw [upd_ne hDC.symm]
      exact hCn
    · have e' : X.env.cells.lookup x = some c := sub' x c e
      have : c ≠ D := Nat.ne_of_lt (by rw [← hD]; exact clt x c e')
      rw [upd_ne this]
      exact I2.freeC x c e'
    · exact absurd hp (by simp [cxComp])
    · show (capσ caps own.length σ).length = (caps.map (·.2) ++ own).length
      simp [capσ]
  have stat : ∀ {H' : Hp}, (∀ b ∈ fp, H' b = none) → ∀ b ∈ fp, FpOk (cxComp X (caps.map (·.2) ++ own) scope cl C s2 H2 fp) [] H' b := fun {H'} hn b hb =>
    ⟨hn b hb, Nat.ne_of_lt (Nat.lt_of_lt_of_le (fpl b hb) hCle), ok'.exfs b hb, .inl hb, fun x c e => (ok'.exf b hb).2 x c e, fun p hp => absurd hp (by simp [cxComp])⟩
  have stD : ∀ b ∈ fp, upd H2 D (.lst []) b = none := fun b hb => by
    have hb' : b ≠ D := Nat.ne_of_lt (by rw [← hD]; exact fpl b hb)
    rw [upd_ne hb']
    exact (f2 b hb).1
  have hst1 : tn 0 h₁ := T.keep 0 _ _ st2 fun b _ o e => old b o e
  have loop : ∀ s₃ : Shared, s₃ = { s2 with heap := h₁, toks := s2.toks + ([] : List (Str × Value)).length } →
      codeAny (model X.prog X.w) X.A (.compLoop (.ListComp elt [⟨tg, iter, [ct], 0⟩] scope pos) 0 (.ref it) (.ref D) (compEnvC scope cl C X.env)) (RR (.ref D) C) s₃ := by
    rintro s₃ rfl
    refine compLoop_anyIf (fun n s' => ∃ i σ' H' ys, Inv (cxComp X (caps.map (·.2) ++ own) scope cl C s2 H2 fp) [] σ' H' s' ∧ tn i s'.heap ∧ (∀ b ∈ fp, H' b = none) ∧ W i n ys σ' H') ?_ m0 ⟨0, _, _, [], I3, hst1, stD, w0⟩
    rintro n s3 ⟨i, σ3, H3, ys, J3, st3, fr3, w3⟩
    obtain ⟨ha, hh⟩ := turn i n ys σ3 H3 w3
    rcases hh with ⟨stop, q⟩ | ⟨go, hl, Nx, Ns, hNx, hNs, step⟩
    · refine thn (T.done (cxComp X (caps.map (·.2) ++ own) scope cl C s2 H2 fp) rfl rfl rfl hc i [] s3 σ3 H3 _ J3 (stat fr3) st3 stop) fun r s4 ⟨hr, I4⟩ => ?_
      subst hr
      obtain ⟨m, hn, _⟩ := I4.loc
      exact hRR D C H3 s4 (I2.call' I4.os I4.base I4.hok I4.bare fun b hb => ⟨(f2 b hb).2.2.2.1, (f2 b hb).2.1, (f2 b hb).2.2.2.2.1, (f2 b hb).2.2.2.2.2⟩) q ⟨m, hn⟩ I4.free (by rw [hD] at hCle; exact hCle)
    · refine thn (T.item (cxComp X (caps.map (·.2) ++ own) scope cl C s2 H2 fp) rfl rfl rfl hc i [] s3 σ3 H3 _ J3 (stat fr3) st3 go) fun r s4 ⟨u, hr, h4⟩ => ?_
      subst hr
      refine thn h4 fun _ s5 ⟨x, H5, I5, r5, y5, st5, fr5⟩ => ?_
      have I5' := I5.pinned (stat fr5) (T.obj _ _ st5)
      refine thn (hg _ _ _ _ _ s5 σ3 H5 x u _ I5' r5 (step x H5 y5)) fun _ s6 ⟨σ6, H6, I6, q6⟩ => ?_
      refine thn (ht _ _ _ _ _ s6 σ6 H6 _ I6 q6) fun bv s6' ⟨H6', I6', q6'⟩ => ?_
      cases bv with
      | false =>
        rw [if_neg (by decide)]
        have q6'' : Ns σ6 H6' := q6'
        obtain ⟨m', hm, w7⟩ := hNs σ6 H6' q6''
        have pinned : ∀ b ∈ fp, ∀ o, s5.heap.get? b = some o → s6'.heap.get? b = some o ∧ H6' b = none := fun b hb o e => by
          have q := I6'.pin (b, o) (List.mem_append_right _ (List.mem_append_right _ (mem_pinsAt hb e)))
          exact ⟨q.1, q.2.1⟩
        refine ⟨m', hm, i + 1, σ6, _, ys, I6'.unpinned, T.keep _ _ _ st5 fun b hb o e => (pinned b hb o e).1, fun b hb => ?_, w7⟩
        obtain ⟨o, e, _⟩ := T.obj _ _ st5 b hb
        exact (pinned b hb o e).2
      | true =>
        rw [if_pos rfl]
        have q6'' : te σ6 H6' fun y H6 => H6 D = some (.lst ys) ∧ Nx y σ6 H6 := q6'
        refine thn (he _ _ _ _ _ s6' σ6 H6' _ I6' q6'') fun yv s7 ⟨y, H7, I7, r7, hacc7, n7⟩ => ?_
        obtain ⟨m', hm, w7⟩ := hNx y σ6 H7 n7
        refine thn (mt_append _ s7 σ6 H7 (.ref D) [y] (.ref D) [yv] (fun _ H8 => H8 = upd H7 D (.lst (ys ++ [y]))) I7 rfl (.cons r7 .nil) ⟨D, ys, y, rfl, rfl, hacc7, hl, rfl⟩) fun _ s8 ⟨_, H8, I8, _, q8⟩ => ?_
        subst q8
        have pinned : ∀ b ∈ fp, ∀ o, s5.heap.get? b = some o → s8.heap.get? b = some o ∧ upd H7 D (.lst (ys ++ [y])) b = none := fun b hb o e => by
          have q := I8.pin (b, o) (List.mem_append_right _ (List.mem_append_right _ (mem_pinsAt hb e)))
          exact ⟨q.1, q.2.1⟩
        refine ⟨m', hm, i + 1, σ6, _, ys ++ [y], I8.unpinned, T.keep _ _ _ st5 fun b hb o e => (pinned b hb o e).1, fun b hb => ?_, w7⟩
        obtain ⟨o, e, _⟩ := T.obj _ _ st5 b hb
        exact (pinned b hb o e).2
  exact codeAny_compStart_list (loop _ rfl) (T.self X.A 0 _ _ _ hst1 (loop _ rfl))

theorem pe_compIf (hc : X.calm = true) (hcl : closF X.env.cells scope.names [] = some cl) (hcell : ∀ y ∈ scope.names, y.2 ≠ .cell) (hkind : scope.kind = .function)
    (hnames : ∀ y ∈ scope.names, y.2 = .local → scope.names.lookup y.1 = some .local) (hcap : CapOk X scope caps)
    (hi : PI X tg iter wi)
    (hg : ∀ C s H ex, PG (cxComp X (caps.map (·.2) ++ own) scope cl C s H ex) tg g) (ht : ∀ C s H ex, PT (cxComp X (caps.map (·.2) ++ own) scope cl C s H ex) ct tc) (he : ∀ C s H ex, PE (cxComp X (caps.map (·.2) ++ own) scope cl C s H ex) elt te)
    (hs : ∀ x, foldedSetIterable iter X.env x = pure x := by intro _; rfl) : PE X (.ListComp elt [⟨tg, iter, [ct], 0⟩] scope pos) (tCompIf wi caps own.length g tc te) := by
  intro pins s σ H Q I h
  rw [eval_ListComp]
  refine wpAny_comprehension_free (use := none) rfl hs (closureFor_of hcl) hkind hnames (thn (hi pins s σ H _ I h) fun v s1 h1 => thn h1 fun itv s2 h2 => ?_)
  obtain ⟨it, fp, tn, J, H2, rfl, I2, T, st2, f2, rd⟩ := h2
  refine comp_coreIf (RR := fun acc C => compPost (model X.prog X.w) X.A X.xe none (EP X pins σ Q) acc C) (Qv := Q) hc hcl hcell hkind hcap hg ht he I2 T st2 f2 rd fun D C H' s4 J4 q hm hn hC => ?_
  obtain ⟨m, hm⟩ := hm
  refine ⟨m, hm, fun h' hs' => ⟨.ref D, H', J4.turned (t' := s4.toks) (it := C) (fun b o hb e => (hs'.2 b hb).trans e) hn ?_ (.inr (Nat.le_trans I2.sz hC)) ?_ ?_, rfl, q⟩⟩
  · exact Nat.ne_of_gt (Nat.lt_of_lt_of_le I2.lt hC)
  · intro x c e z
    obtain ⟨v, q⟩ := I2.cell x c e
    exact absurd (Nat.lt_of_lt_of_le q.lt hC) (by rw [z]; exact Nat.lt_irrefl _)
  · intro p hp z
    exact absurd (Nat.lt_of_lt_of_le (Heap.lt_size (I2.pin p hp).1) hC) (by rw [z]; exact Nat.lt_irrefl _)
theorem ps_set_compIf {i : Nat} {y : Str} {py spos : Pos} (hN : X.N.Nodup) (hiN : X.N[i]? = some y) (hy : X.env.scope.names.lookup y = some .local)
    (hsw : swapsWith (.ListComp elt [⟨tg, iter, [ct], 0⟩] scope pos) (some (.Name y py)) spos.line X.env = pure true)
    (hc : X.calm = true) (hcl : closF X.env.cells scope.names [] = some cl) (hcell : ∀ y ∈ scope.names, y.2 ≠ .cell) (hkind : scope.kind = .function)
    (hnames : ∀ y ∈ scope.names, y.2 = .local → scope.names.lookup y.1 = some .local) (hcap : CapOk X scope caps)
    (hi : PI X tg iter wi)
    (hg : ∀ C s H ex, PG (cxComp X (caps.map (·.2) ++ own) scope cl C s H ex) tg g) (ht : ∀ C s H ex, PT (cxComp X (caps.map (·.2) ++ own) scope cl C s H ex) ct tc) (he : ∀ C s H ex, PE (cxComp X (caps.map (·.2) ++ own) scope cl C s H ex) elt te)
    (hs : ∀ x, foldedSetIterable iter X.env x = pure x := by intro _; rfl) :
    PS X (.Assign [.Name y py] (.ListComp elt [⟨tg, iter, [ct], 0⟩] scope pos) spos) (tSetComp i (tCompIf wi caps own.length g tc te)) := by
  intro pins s σ H D I h
  rw [exec_Assign_Name_used _ _ _ _ hsw]
  refine wpAny_bind (wpAny_standAt (wpAny_bind ?_))
  show wpAny _ X.A (do let _ ← comprehension (.ListComp elt [⟨tg, iter, [ct], 0⟩] scope pos) scope X.env _ (newList []) false (eval iter X.env) (some (assign (.Name y py) X.env))) _ _ s
  refine wpAny_bind (wpAny_mono (wpAny_comprehension_free (use := some (assign (.Name y py) X.env)) (Q := fun _ s' => SP X pins D .next s') rfl hs (closureFor_of hcl) hkind hnames
    (thn (hi pins s σ H _ I h) fun v s1 h1 => thn h1 fun itv s2 h2 => ?_)) (fun _ s' hq => wpAny_pure (wpAny_pure hq)) fun _ _ e => e)
  obtain ⟨it, fp, tn, J, H2, rfl, I2, T, st2, f2, rd⟩ := h2
  refine comp_coreIf (RR := fun acc C => compPost (model X.prog X.w) X.A X.xe (some (assign (.Name y py) X.env)) (fun _ s' => SP X pins D .next s') acc C) (Qv := fun x H1 => D.nx (σ.set i (some x)) H1)
    hc hcl hcell hkind hcap hg ht he I2 T st2 f2 rd fun Da C H' s4 J4 q hm hn hC => ?_
  obtain ⟨m, hm⟩ := hm
  have hCL : C ≠ X.env.locals := Nat.ne_of_gt (Nat.lt_of_lt_of_le I2.lt hC)
  have hCc : ∀ x c, X.env.cells.lookup x = some c → c ≠ C := fun x c e z => by
    obtain ⟨v, q⟩ := I2.cell x c e
    exact absurd (Nat.lt_of_lt_of_le q.lt hC) (by rw [z]; exact Nat.lt_irrefl _)
  show wpAny _ X.A (assign (.Name y py) X.env (.ref Da)) _ _ _
  refine wpAny_assign_Name (store_ok2 J4 hN hiN (.inl hy) (v := .ref Da) rfl (fun s5 J5 ⟨a, hs5, ha⟩ => ?_) (.inr hy))
  have hCa : C ≠ a := by
    rcases ha with rfl | ha
    · exact hCL
    · exact (hCc _ _ ha).symm
  refine ⟨m, hm.sameBut hs5 hCa, fun h' hs' => ⟨_, H', J5.turned (t' := s5.toks) (it := C) (fun b o hb e => (hs'.2 b hb).trans e) hn hCL (.inr (Nat.le_trans I2.sz hC)) hCc ?_, q⟩⟩
  intro p hp z
  exact absurd (Nat.lt_of_lt_of_le (Heap.lt_size (I2.pin p hp).1) hC) (by rw [z]; exact Nat.lt_irrefl _)
end
theorem comp_listIf {K : PySem.W.Frag} {a acc : Addr} {xs : List V} {g : TG} {tc : TT} {te : TE} {Qd : Hp → Prop} {σ0 : St} {H1 : Hp} (Pv : Nat → List V → St → Hp → Prop) (h0 : Pv 0 [] σ0 (upd H1 acc (.lst [])))
    (hlen : xs.length < sizeLine) (hl : ∀ i ys σ H, i ≤ xs.length → Pv i ys σ H → SqL K H a xs ∧ H acc = some (.lst ys) ∧ ys.length ≤ i)
    (hs : ∀ i x ys σ H, xs[i]? = some x → Pv i ys σ H → g x σ H fun σ2 H2 => tc σ2 H2 fun b H3 => if b = true then te σ2 H3 fun y H4 => H4 acc = some (.lst ys) ∧ Pv (i + 1) (ys ++ [y]) σ2 (upd H4 acc (.lst (ys ++ [y]))) else Pv (i + 1) ys σ2 H3)
    (hd : ∀ ys σ H, Pv xs.length ys σ H → Qd H) :
    ∃ W : Nat → Nat → List V → St → Hp → Prop, (∃ m, W 0 m [] σ0 (upd H1 acc (.lst []))) ∧ ∀ i m ys σ' H', W i m ys σ' H' →
      H' acc = some (.lst ys) ∧ (((Itl K a).stop i H' ∧ Qd H') ∨ ((Itl K a).go i H' ∧ ys.length < sizeLine ∧ ∃ (Nx : V → St → Hp → Prop) (Ns : St → Hp → Prop), (∀ y σ2 H4, Nx y σ2 H4 → ∃ m', m' < m ∧ W (i + 1) m' (ys ++ [y]) σ2 (upd H4 acc (.lst (ys ++ [y])))) ∧ (∀ σ2 H4, Ns σ2 H4 → ∃ m', m' < m ∧ W (i + 1) m' ys σ2 H4) ∧
        ∀ x H3, (Itl K a).yld i H' x H3 → g x σ' H3 fun σ2 H4 => tc σ2 H4 fun b H5 => if b = true then te σ2 H5 fun y H6 => H6 acc = some (.lst ys) ∧ Nx y σ2 H6 else Ns σ2 H5)) := by
  refine ⟨fun i m ys σ H => m = xs.length - i ∧ i ≤ xs.length ∧ Pv i ys σ H, ⟨xs.length, by simp, Nat.zero_le _, h0⟩, ?_⟩
  rintro i m ys σ H ⟨rfl, hi, p⟩
  obtain ⟨q, hacc, hly⟩ := hl i ys σ H hi p
  refine ⟨hacc, ?_⟩
  by_cases hlt : i < xs.length
  · refine .inr ⟨⟨xs, xs[i], q, by simp [hlt]⟩, by omega, fun y σ2 H4 => Pv (i + 1) (ys ++ [y]) σ2 (upd H4 acc (.lst (ys ++ [y]))), fun σ2 H4 => Pv (i + 1) ys σ2 H4, fun y σ2 H4 z => ⟨xs.length - (i + 1), by omega, rfl, hlt, z⟩, fun σ2 H4 z => ⟨xs.length - (i + 1), by omega, rfl, hlt, z⟩, fun x H' y => ?_⟩
    obtain ⟨e, y⟩ := y
    subst e
    exact hs i x ys σ _ (y xs q) p
  · have e : i = xs.length := by omega
    subst e
    exact .inl ⟨⟨xs, q, Nat.le_refl _⟩, hd ys σ H p⟩
theorem comp_rangeIf {acc : Addr} {lo : Int} {n : Nat} {g : TG} {tc : TT} {te : TE} {Qd : Hp → Prop} {σ0 : St} {H1 : Hp} (Pv : Nat → List V → St → Hp → Prop) (h0 : Pv 0 [] σ0 (upd H1 acc (.lst [])))
    (hlen : n < sizeLine) (hl : ∀ i ys σ H, i ≤ n → Pv i ys σ H → H acc = some (.lst ys) ∧ ys.length ≤ i)
    (hs : ∀ i ys σ H, i < n → Pv i ys σ H → g (.int (lo + i)) σ H fun σ2 H2 => tc σ2 H2 fun b H3 => if b = true then te σ2 H3 fun y H4 => H4 acc = some (.lst ys) ∧ Pv (i + 1) (ys ++ [y]) σ2 (upd H4 acc (.lst (ys ++ [y]))) else Pv (i + 1) ys σ2 H3)
    (hd : ∀ ys σ H, Pv n ys σ H → Qd H) :
    ∃ W : Nat → Nat → List V → St → Hp → Prop, (∃ m, W 0 m [] σ0 (upd H1 acc (.lst []))) ∧ ∀ i m ys σ' H', W i m ys σ' H' →
      H' acc = some (.lst ys) ∧ (((Itr lo n).stop i H' ∧ Qd H') ∨ ((Itr lo n).go i H' ∧ ys.length < sizeLine ∧ ∃ (Nx : V → St → Hp → Prop) (Ns : St → Hp → Prop), (∀ y σ2 H4, Nx y σ2 H4 → ∃ m', m' < m ∧ W (i + 1) m' (ys ++ [y]) σ2 (upd H4 acc (.lst (ys ++ [y])))) ∧ (∀ σ2 H4, Ns σ2 H4 → ∃ m', m' < m ∧ W (i + 1) m' ys σ2 H4) ∧
        ∀ x H3, (Itr lo n).yld i H' x H3 → g x σ' H3 fun σ2 H4 => tc σ2 H4 fun b H5 => if b = true then te σ2 H5 fun y H6 => H6 acc = some (.lst ys) ∧ Nx y σ2 H6 else Ns σ2 H5)) := by
  refine ⟨fun i m ys σ H => m = n - i ∧ i ≤ n ∧ Pv i ys σ H, ⟨n, by simp, Nat.zero_le _, h0⟩, ?_⟩
  rintro i m ys σ H ⟨rfl, hi, p⟩
  obtain ⟨hacc, hly⟩ := hl i ys σ H hi p
  refine ⟨hacc, ?_⟩
  by_cases hlt : i < n
  · refine .inr ⟨hlt, by omega, fun y σ2 H4 => Pv (i + 1) (ys ++ [y]) σ2 (upd H4 acc (.lst (ys ++ [y]))), fun σ2 H4 => Pv (i + 1) ys σ2 H4, fun y σ2 H4 z => ⟨n - (i + 1), by omega, rfl, hlt, z⟩, fun σ2 H4 z => ⟨n - (i + 1), by omega, rfl, hlt, z⟩, fun x H' y => ?_⟩
    obtain ⟨e, e2⟩ := y
    subst e
    subst e2
    exact hs i ys σ _ hlt p
  · have e : i = n := by omega
    subst e
    exact .inl ⟨Nat.le_refl _, hd ys σ H p⟩
/-! ### != of two tuples that are alike -/
def rSameT (K : PySem.W.Frag) (k : Bool) : R2 := fun x y H Q => ∃ a b zs, x = .ref a ∧ y = .ref b ∧ SqT K H a zs ∧ SqT K H b zs ∧ zs.all flatV = true ∧ Q (.bl k) H
end L2
-- Own6
set_option Elab.async false
set_option linter.all false
set_option maxRecDepth 100000
set_option maxHeartbeats 4000000
/-! Rules of our own over the layer, 6: sorted by a lambda that tells an item of a tuple; a law's head that tracks a code's table. -/
namespace L2
open PySem PySem.Spec PyProof.Rows

def TabOk (H : Hp) (T : Addr) (pos : Pos) (qual : Str) : Prop :=
  ∃ ps : Array Value, H T = some (.tbl ps) ∧ TriplesOk ps.toList ∧
    (codeAmong pos ps.toList = none ∨ ∃ (c : Addr) (o : Obj), codeAmong pos ps.toList = some (.ref c) ∧ H c = some (.frz o (.ext fun h => h.CodeRec (.ref c) qual)))
theorem TabOk.new {H : Hp} {T : Addr} {pos : Pos} {qual : Str} (h : H T = some (.tbl #[])) : TabOk H T pos qual := ⟨#[], h, trivial, .inl rfl⟩
theorem TabOk.same {H H' : Hp} {T : Addr} {pos : Pos} {qual : Str} (x : TabOk H T pos qual) (s : Same H H') : TabOk H' T pos qual := by
  obtain ⟨ps, h1, h2, h3⟩ := x
  refine ⟨ps, s _ _ h1, h2, ?_⟩
  rcases h3 with h3 | ⟨c, o, h3, h4⟩
  · exact .inl h3
  · exact .inr ⟨c, o, h3, s _ _ h4⟩
def SameT (T : Addr) (H H' : Hp) : Prop := ∀ b o, b ≠ T → H b = some o → H' b = some o
def BmIn (mg : Str → Option Value) (base : Heap) : Prop :=
  ∃ bm ob, mg "__builtins__" = some (.ref bm) ∧ bm ≠ builtinsNs ∧ base.get? bm = some ob ∧ ob.cls = .type "module" ∧ ob.dict = some builtinsNs ∧ ob.data = .plain

theorem vals_refs : ∀ {rs : List Addr} {us : List Value}, Vals (rs.map V.ref) us → us = rs.map Value.ref
  | [], _, r => by cases r; rfl
  | a :: rs, _, r => by
    cases r with
    | cons x y =>
      have e := vals_refs y
      cases x
      rw [e]
      rfl
theorem vals_of_refs : ∀ (rs : List Addr), Vals (rs.map V.ref) (rs.map Value.ref)
  | [] => .nil
  | _ :: rs => .cons rfl (vals_of_refs rs)

section
variable {X : Cx} {pins : List (Addr × Obj)} {σ : St} {H : Hp} {s : Shared}

theorem Inv.allFr (I : Inv X pins σ H s) : ∃ m, s.heap.Ns X.env.locals m ∧ Fr (Att.noObjs s.heap) X.env.locals s.heap m ∧ News (Att.noObjs s.heap) X.env.locals s.heap (allNews (Att.noObjs s.heap) s.heap X.env.locals) := by
  obtain ⟨m, hn, _⟩ := id I.loc
  exact ⟨m, hn, Att.fr_all hn, news_all⟩
theorem mem_all {h : Heap} {L a : Addr} {o : Obj} (h1 : a ≠ L) (h3 : h.get? a = some o) : (a, o) ∈ allNews (Att.noObjs h) h L := mem_allNews h1 (Att.noObjs_get _ _) h3
theorem ne_ns {h : Heap} {L a : Addr} {m : Str → Option Value} {o : Obj} (hn : h.Ns L m) (ho : h.get? a = some o) (hd : ∀ es ep, o.data ≠ .dict es ep) : a ≠ L := fun e => by
  obtain ⟨o', es, ep, ho', hd', _⟩ := hn
  rw [e, ho'] at ho
  cases ho
  exact hd es ep hd'

theorem Inv.laidAll {h' : Heap} {tk : Nat} {D : Addr} {xs : List V} {its : List Value} {n : Nat} (I : Inv X pins σ H s) (hD : s.heap.objs.size ≤ D)
    (k : ∀ b o, b ≠ X.env.locals → s.heap.get? b = some o → h'.get? b = some o) (ns : ∀ m, s.heap.Ns X.env.locals m → h'.Ns X.env.locals m)
    (hl : xs.length ≤ sizeLine) (hv : Vals xs its) (ho : h'.get? D = some { cls := .type "list", data := .seq its.toArray n }) :
    Inv X pins σ (upd H D (.lst xs)) { s with heap := h', toks := tk } := by
  have hnD : H D = none := I.hok.fresh hD
  refine I.step (g' := s.gens) (d' := s.drawn) (ch := []) (fun _ z => nomatch z) (fun b o h1 _ _ e _ => k b o h1 e) (fun b o h1 _ _ e _ => ⟨o.slots, k b o h1 e⟩) (fun b o _ e n => ?_) (fun b o _ e => ?_)
    (fun b xs e => by rw [upd_ne (ne_of_none e hnD)]; exact e) (fun b o u e => by rw [upd_ne (ne_of_none e hnD)]; exact e) (fun b ps e => ⟨#[], by rw [upd_ne (ne_of_none e hnD), e]; simp⟩) ns (fun b u e => ?_) I.bare
  · rw [upd_ne (Nat.ne_of_lt (Nat.lt_of_lt_of_le (Heap.lt_size e) hD))]
    exact n
  · by_cases hb : b = X.env.locals
    · obtain ⟨m, hn, _⟩ := id I.loc
      obtain ⟨o', _, _, e', _⟩ := ns m hn
      exact ⟨o', by rw [hb]; exact e'⟩
    · exact ⟨o, k b o hb e⟩
  · by_cases hb : b = D
    · subst hb
      rw [upd_same] at e
      cases e
      exact ⟨hl, its, n, hv, ho⟩
    · rw [upd_ne hb] at e
      refine (I.hok b u e).stay (fun c v hc q => k c v ?_ q) (fun c q => by rw [upd_ne (ne_of_none q hnD)]; exact q) fun c xs q => by rw [upd_ne (ne_of_none q hnD)]; exact q
      rcases hc with z | z
      · rw [z]; exact ne_of_none e I.free
      · exact ne_of_none z I.free

theorem sortK_call {E : Value → Shared → Prop} {Q : VK} {f c l : Addr} {x qual : Str} {params : Arguments} {sc : Scope} {p1 p2 p3 : Pos} {i : Int} {j : Nat} {pm ctv : Value} {rows : List (Addr × Int)} (I : Inv X pins σ H s)
    (hf : s.heap.get? f = some (PySem.W.kla_obj "<lambda>" qual params (.Subscript (.Name x p1) (.Constant (.int i) j p2) p3) sc [] pm c ctv)) (hlast : f + 1 = s.heap.objs.size) (hrec : s.heap.CodeRec (.ref c) qual)
    (hl : SqL X.K H l (rows.map fun r => V.ref r.1)) (h64 : rows.length < 64) (hr : ∀ r ∈ rows, ∃ xs, SqT X.K H r.1 xs ∧ atI xs i = some (.int r.2)) (room : X.A.depth < recursionLimit)
    (hbind : ∀ v : Value, bindArgs (PySem.W.kla_fn "<lambda>" qual params (.Subscript (.Name x p1) (.Constant (.int i) j p2) p3) sc [] pm (.ref c) ctv) ⟨[v], []⟩ = pure [(x, v)])
    (hk : sc.kind = .function) (hco : sc.isCoroutine = false) (hgen : sc.isGenerator = false) (hloc : sc.names.lookup x = some .local) (hcell : ∀ y ∈ sc.names, y.2 ≠ .cell) (hdb : (x == ("__debug__" : Str)) = false)
    (q : ∀ (D : Addr) (rows' : List (Addr × Int)), H D = none → rows'.Perm rows → rows'.Pairwise (fun a b => a.2 ≤ b.2) → Q (.ref D) (upd H D (.lst (rows'.map fun r => V.ref r.1)))) :
    wpAny (model X.prog X.w) X.A (call (.builtin "sorted") [.ref l] [(Str.ofString "key", .ref f)]) (EP X pins σ Q) E s := by
  obtain ⟨m, hn, F, N⟩ := I.allFr
  obtain ⟨its, rv, pl, hz⟩ := I.list hl
  have hits : its = (rows.map (·.1)).map Value.ref := vals_refs (by rw [List.map_map]; exact rv)
  have hlen : its.length = rows.length := by rw [hits]; simp
  have hfL : f ≠ X.env.locals := ne_ns hn hf fun _ _ z => by cases z
  refine ksk_sorted (b := false) (kz := rows.map (·.2)) F N pl.isList (by rw [List.length_map, hlen]) (by omega) (ksk_s1 _ _) (fun z => ksk_l1 _ _) (fun z => ksk_t1 f z) (fun n v k hv hkz h tk own F' N' => ?_) fun D h' tk out cc F' N' hlt ho => ?_
  · -- one key
    obtain ⟨r, hrn⟩ : ∃ r, rows[n]? = some r := by
      rw [List.getElem?_map] at hkz
      cases e : rows[n]? with
      | none => rw [e] at hkz; cases hkz
      | some r => exact ⟨r, rfl⟩
    have ek : k = r.2 := by
      rw [List.getElem?_map, hrn] at hkz
      exact (Option.some.inj hkz).symm
    have ev : v = .ref r.1 := by
      rw [hits, List.getElem?_map, List.getElem?_map, hrn] at hv
      exact (Option.some.inj hv).symm
    subst ek
    subst ev
    obtain ⟨xs, hq, hat⟩ := hr r (List.mem_of_getElem? hrn)
    obtain ⟨its2, rv2, ⟨ot, hot, hotc, nt, hotd⟩, hz2⟩ := I.tuple hq
    have keep : ∀ b o, b ≠ X.env.locals → s.heap.get? b = some o → h.get? b = some o := fun b o h1 e => (N' (b, o) (List.mem_append_left _ (mem_all h1 e))).1
    have hbase : ∀ b o, X.base.get? b = some o → h.get? b = some o := fun b o e => keep b o (Nat.ne_of_lt (Nat.lt_of_lt_of_le (Heap.lt_size (I.ok.bs b o e).1) I.ok.above)) (I.bk b o e)
    have hft := keep f _ hfL hf
    have hrt : h.get? r.1 = some ot := keep r.1 ot (ne_ns hn hot fun es ep z => by rw [hotd] at z; cases z) hot
    have htup : IsTup h r.1 its2.toArray := ⟨ot, hrt, hotc, nt, hotd⟩
    have hrec' : h.CodeRec (.ref c) qual := by
      obtain ⟨c2, oc, vs, t, e2, hoc, hd, hv⟩ := hrec
      cases e2
      exact ⟨c, oc, vs, t, rfl, keep c oc (ne_ns hn hoc fun es ep z => by rw [hd] at z; cases z) hoc, hd, hv⟩
    refine wpAny_call (PySem.W.kla_callFunE room hft rfl hco hgen rfl hrec' ?_)
    rw [hbind]
    refine wpAny_pure (wpAny_newFunctionEnv hcell (fun y hy => ?_) (fun h₁ hns hsb => ⟨(I.ok.mod.nolimit.keeps hbase).fresh _ hsb, ?_⟩) hk)
    · rw [List.mem_singleton.mp hy]
      exact hloc
    have hk₁ : ∀ b o, h.get? b = some o → h₁.get? b = some o := fun b o e => hsb.extBut b o (Nat.ne_of_lt (Heap.lt_size e)) (Heap.get?_push_of_some _ e)
    refine PySem.W.kla_codeExpr ?_
    obtain ⟨jj, h1, h2, h3, h4, h5⟩ := atI_get hat
    obtain ⟨wv, ew, rw'⟩ := rv2.get h2
    obtain ⟨t2, rfl⟩ := rw'
    have hl2 := rv2.length
    have hn63 := line63
    refine Subscript_ (wpAny_Name (wpAny_loadName_local (m := fun y => [(x, Value.ref r.1)].reverse.lookup y) (v := .ref r.1) hk hloc hns (by simp) ?_) hdb)
    refine wpAny_Constant_int ?_
    have htup1 : IsTup h₁ r.1 its2.toArray := ⟨ot, hk₁ _ _ hrt, hotc, nt, hotd⟩
    refine subscriptTail_builtinR (x := .int r.2 t2) htup1.typeIs slot_tuple_getitem.lookup (getItem_tuple (j := jj) htup1 (by omega) (by omega) (by rw [List.size_toArray, ← hl2]; exact h1) (by simpa using ew) ⟨rfl, ?_⟩)
    exact KskEnd.intro (F'.kept hk₁) (N'.grown hk₁) fun p hp => hp
  · -- the end
    obtain ⟨ps, hp, hout, hs⟩ := ho
    have hND := N' (D, seqObj "list" out cc) (List.Mem.head _)
    have hD : s.heap.objs.size ≤ D := by
      have h2 : f < D := hlt (f, _) (mem_all hfL hf)
      rw [← hlast]
      exact h2
    have keep : ∀ b o, b ≠ X.env.locals → s.heap.get? b = some o → h'.get? b = some o := fun b o h1 e => (N' (b, o) (List.Mem.tail _ (mem_all h1 e))).1
    have hzip : (rows.map (·.2)).zip its = rows.map fun r => (r.2, Value.ref r.1) := by
      rw [hits, List.map_map, List.zip_map']
      rfl
    rw [hzip] at hp
    have hmem : ∀ p ∈ ps, ∃ r : Addr × Int, p = (r.2, Value.ref r.1) := fun p hm => by
      obtain ⟨r, _, e⟩ := List.mem_map.mp (hp.mem_iff.mp hm)
      exact ⟨r, e.symm⟩
    let g : Int × Value → Addr × Int := fun p => ((match p.2 with | .ref a => a | _ => 0), p.1)
    have hg : ∀ r : Addr × Int, g (r.2, Value.ref r.1) = r := fun r => rfl
    have hperm : (ps.map g).Perm rows := by
      have e := hp.map g
      rw [List.map_map] at e
      have e2 : rows.map (g ∘ fun r => (r.2, Value.ref r.1)) = rows := by
        have : (g ∘ fun r : Addr × Int => (r.2, Value.ref r.1)) = id := funext fun r => rfl
        rw [this, List.map_id]
      rw [e2] at e
      exact e
    have hsorted : (ps.map g).Pairwise (fun a b => a.2 ≤ b.2) := by
      rw [List.pairwise_map]
      exact hs.imp fun {a b} h => by simpa using h
    have houtv : out.toList = ((ps.map g).map (·.1)).map Value.ref := by
      rw [hout, List.map_map, List.map_map]
      refine List.map_congr_left fun p hm => ?_
      obtain ⟨r, rfl⟩ := hmem p hm
      rfl
    have hlenO : (ps.map g).length = rows.length := hperm.length_eq
    refine ⟨.ref D, _, I.laidAll (its := out.toList) (n := cc) hD keep (fun m' hm' => ?_) ?_ ?_ ?_, rfl, q D (ps.map g) (I.hok.fresh hD) hperm hsorted⟩
    · rw [hm'.eq_nsMap, ← hn.eq_nsMap]
      exact F'.ns
    · rw [List.length_map, hlenO]
      rw [List.length_map] at hz
      exact hz
    · rw [houtv]
      have e : ((ps.map g).map fun r => V.ref r.1) = ((ps.map g).map (·.1)).map V.ref := by simp [List.map_map, Function.comp_def]
      rw [e]
      exact vals_of_refs _
    · rw [Array.toArray_toList]
      exact hND.1

theorem lamK {E : Value → Shared → Prop} {cA T : Addr} {params : Arguments} {body : Expr} {sc : Scope} {lpos : Pos} {Q : Value → Shared → Prop} (I : Inv X pins σ H s) (hcd : X.env.code = .ref cA) (hC : PySem.W.codeHdIn X.K cA T = true) (hB : BmIn X.mg X.base)
    (hT : TabOk H T lpos (X.env.qual ++ "<lambda>")) (hdef : defaultsOf params X.env = ([], [])) (hcl : closureFor sc X.env = pure [])
    (h : ∀ (f c : Addr) (pm ctv : Value) (H2 : Hp) (s2 : Shared), Inv X pins σ H2 s2 → SameT T H H2 → TabOk H2 T lpos (X.env.qual ++ "<lambda>") → s2.heap.get? f = some (PySem.W.kla_obj "<lambda>" (X.env.qual ++ "<lambda>") params body sc [] pm c ctv) →
      f + 1 = s2.heap.objs.size → s2.heap.CodeRec (.ref c) (X.env.qual ++ "<lambda>") → Q (.ref f) s2) :
    wpAny (model X.prog X.w) X.A (eval (.Lambda params body sc lpos) X.env) Q E s := by
  obtain ⟨ps, hH, htr, hor⟩ := hT
  have hP : s.heap.get? T = some (PySem.W.tabObj ps) := I.hok T _ hH
  have hG : s.heap.Ns mainGlobals X.mg := I.mod.glob.keeps I.bk
  have hGT : mainGlobals ≠ T := fun e => ne_ns hG hP (fun _ _ z => by cases z) e.symm
  have hBA : s.heap.BuiltinsAt X.mg T := by
    obtain ⟨bm, ob, b1, b2, b3, b4, b5, b6⟩ := hB
    have e := I.bk _ _ b3
    refine ⟨bm, ob, b1, b2, ne_ns hG e (fun _ _ z => by rw [b6] at z; cases z), fun z => ?_, e, b4, b5, b6⟩
    rw [z, hP] at e
    cases e
    cases b4
  have hHd := PySem.W.codeHd_of_K I.kIn hC
  refine PySem.W.kla_eval hdef ?_
  rcases hor with hnf | ⟨c, oc, hit, hc⟩
  · refine PySem.W.kla_makeFunction (mg := X.mg) hcl I.ok.glob hG hcd hHd hP htr hnf hGT hBA fun c ctv h' tk hx hge hlt hrec htb => ?_
    obtain ⟨c2, oc, vs, t, e2, hoc, hd, hv⟩ := id hrec
    cases e2
    have hnc : H c = none := I.hok.fresh hge
    have hTc : T ≠ c := Nat.ne_of_lt (Nat.lt_of_lt_of_le (Heap.lt_size hP) hge)
    have nT : ∀ b u, H b = some u → (∀ ps, u ≠ .tbl ps) → b ≠ T := fun b u e n z => by
      rw [z, hH] at e
      exact n ps (Option.some.inj e).symm
    have k : ∀ b o, b ≠ T → s.heap.get? b = some o → (h'.push (PySem.W.kla_obj "<lambda>" (X.env.qual ++ "<lambda>") params body sc [] ((X.mg "__name__").getD .none) c ctv)).get? b = some o := fun b o hb e => Heap.get?_push_of_some _ (hx b o hb e)
    have kc := Heap.get?_push_of_some (PySem.W.kla_obj "<lambda>" (X.env.qual ++ "<lambda>") params body sc [] ((X.mg "__name__").getD .none) c ctv) hoc
    have kT := Heap.get?_push_of_some (PySem.W.kla_obj "<lambda>" (X.env.qual ++ "<lambda>") params body sc [] ((X.mg "__name__").getD .none) c ctv) htb
    have hrec2 : (h'.push (PySem.W.kla_obj "<lambda>" (X.env.qual ++ "<lambda>") params body sc [] ((X.mg "__name__").getD .none) c ctv)).CodeRec (.ref c) (X.env.qual ++ "<lambda>") := ⟨c, oc, vs, t, rfl, kc, hd, hv⟩
    have a1 : ∀ b, b ≠ T → b ≠ c → upd (upd H T (.tbl (ps ++ #[rawInt lpos.line, rawInt lpos.col, .ref c]))) c (.frz oc (.ext fun h => h.CodeRec (.ref c) (X.env.qual ++ "<lambda>"))) b = H b := fun b h1 h2 => by rw [upd_ne h2, upd_ne h1]
    have aT : upd (upd H T (.tbl (ps ++ #[rawInt lpos.line, rawInt lpos.col, .ref c]))) c (.frz oc (.ext fun h => h.CodeRec (.ref c) (X.env.qual ++ "<lambda>"))) T = some (.tbl (ps ++ #[rawInt lpos.line, rawInt lpos.col, .ref c])) := by rw [upd_ne hTc, upd_same]
    have ac : upd (upd H T (.tbl (ps ++ #[rawInt lpos.line, rawInt lpos.col, .ref c]))) c (.frz oc (.ext fun h => h.CodeRec (.ref c) (X.env.qual ++ "<lambda>"))) c = some (.frz oc (.ext fun h => h.CodeRec (.ref c) (X.env.qual ++ "<lambda>"))) := upd_same
    refine h h'.objs.size c ((X.mg "__name__").getD .none) ctv (upd (upd H T (.tbl (ps ++ #[rawInt lpos.line, rawInt lpos.col, .ref c]))) c (.frz oc (.ext fun h => h.CodeRec (.ref c) (X.env.qual ++ "<lambda>")))) _
      (I.un (t' := tk) ⟨fun b o e n _ _ => k b o (ne_of_none hH n).symm e, fun b o e n _ _ => ⟨o.slots, k b o (ne_of_none hH n).symm e⟩, fun b o e n _ => ?_, fun b o e _ => ?_, fun b xs e => ?_, fun b o u e => ?_, fun b ps' e => ?_⟩ fun b u e => ?_)
      (fun b o hb e => ?_) ⟨_, aT, by rw [Array.toList_append]; exact TriplesOk_snoc _ _ _ _ htr, .inr ⟨c, oc, by rw [Array.toList_append]; exact codeAmong_snoc _ htr hnf, ac⟩⟩ (Heap.get?_push_size _ rfl) (by rw [Heap.size_push]) hrec2
    · rw [a1 b (ne_of_none hH n).symm (Nat.ne_of_lt (Nat.lt_of_lt_of_le (Heap.lt_size e) hge))]
      exact n
    · by_cases hb : b = T
      · exact ⟨_, by rw [hb]; exact kT⟩
      · exact ⟨o, k b o hb e⟩
    · rw [a1 b (nT b _ e fun _ z => by cases z) (ne_of_none e hnc)]
      exact e
    · rw [a1 b (nT b _ e fun _ z => by cases z) (ne_of_none e hnc)]
      exact e
    · by_cases hb : b = T
      · subst hb
        rw [hH] at e
        cases e
        exact ⟨_, aT⟩
      · exact ⟨#[], by rw [a1 b hb (ne_of_none e hnc), e]; simp⟩
    · by_cases hb : b = c
      · subst hb
        rw [ac] at e
        cases e
        refine ⟨kc, hrec2, ⟨_, kc⟩, fun h1 h2 z w => ?_⟩
        obtain ⟨c2, oc, vs, t, e2, hoc, hd, hv⟩ := z
        cases e2
        exact ⟨_, oc, vs, t, rfl, w oc hoc, hd, hv⟩
      · by_cases hbT : b = T
        · subst hbT
          rw [aT] at e
          cases e
          exact kT
        · rw [a1 b hbT hb] at e
          refine (I.hok b u e).stay (fun d v hd q => k d v ?_ q) (fun d q => ?_) fun d xs q => ?_
          · rcases hd with z | z
            · rw [z]; exact hbT
            · exact nT d _ z fun _ z => by cases z
          · rw [a1 d (nT d _ q fun _ z => by cases z) (ne_of_none q hnc)]
            exact q
          · rw [a1 d (nT d _ q fun _ z => by cases z) (ne_of_none q hnc)]
            exact q
    · rw [a1 b hb (ne_of_none e hnc)]
      exact e
  · have hco := I.hok c _ hc
    obtain ⟨hoc, hrec, _⟩ := hco
    refine PySem.W.kla_makeFunctionHit (mg := X.mg) hcl I.ok.glob hG hcd hHd hP htr hit hBA fun ctv h' tk hk hsz => ?_
    have k : ∀ b o, s.heap.get? b = some o → (h'.push (PySem.W.kla_obj "<lambda>" (X.env.qual ++ "<lambda>") params body sc [] ((X.mg "__name__").getD .none) c ctv)).get? b = some o := fun b o e => Heap.get?_push_of_some _ (hk b o e)
    refine h h'.objs.size c ((X.mg "__name__").getD .none) ctv H _ (I.kept (t' := tk) k) (fun b o _ e => e) ⟨ps, hH, htr, .inr ⟨c, oc, hit, hc⟩⟩ (Heap.get?_push_size _ rfl) (by rw [Heap.size_push]) ?_
    obtain ⟨c2, oc2, vs, t, e2, hoc2, hd, hv⟩ := hrec
    cases e2
    exact ⟨c, oc2, vs, t, rfl, k _ _ hoc2, hd, hv⟩

def tSortK (K : PySem.W.Frag) (t : TA) (T : Addr) (pos : Pos) (qual : Str) (i : Int) : TE := fun σ H Q => t σ H fun vs H1 => ∃ (l : Addr) (rows : List (Addr × Int)), vs = [.ref l] ∧ SqL K H1 l (rows.map fun r => V.ref r.1) ∧ rows.length < 64 ∧
  (∀ r ∈ rows, ∃ xs, SqT K H1 r.1 xs ∧ atI xs i = some (.int r.2)) ∧ TabOk H1 T pos qual ∧
  ∀ (H2 : Hp) (D : Addr) (rows' : List (Addr × Int)), SameT T H1 H2 → TabOk H2 T pos qual → H2 D = none → rows'.Perm rows → rows'.Pairwise (fun a b => a.2 ≤ b.2) → Q (.ref D) (upd H2 D (.lst (rows'.map fun r => V.ref r.1)))
theorem SameT.sqL {K : PySem.W.Frag} {T : Addr} {H H' : Hp} {a : Addr} {xs : List V} {ps : Array Value} (e : SameT T H H') (hT : H T = some (.tbl ps)) (h : SqL K H a xs) : SqL K H' a xs := by
  rcases h with (h | ⟨o, h⟩) | h
  · exact .inl (.inl (e _ _ (ne_of h hT (by simp)) h))
  · exact .inl (.inr ⟨o, e _ _ (ne_of h hT (by simp)) h⟩)
  · exact .inr h
theorem SameT.sqT {K : PySem.W.Frag} {T : Addr} {H H' : Hp} {a : Addr} {xs : List V} {ps : Array Value} (e : SameT T H H') (hT : H T = some (.tbl ps)) (h : SqT K H a xs) : SqT K H' a xs := by
  rcases h with (h | ⟨o, h⟩) | h
  · exact .inl (.inl (e _ _ (ne_of h hT (by simp)) h))
  · exact .inl (.inr ⟨o, e _ _ (ne_of h hT (by simp)) h⟩)
  · exact .inr h
theorem pe_sortK {cA T : Addr} {e : Expr} {t : TA} {p p1 p2 p3 lpos kpos pos : Pos} {x : Str} {params : Arguments} {sc : Scope} {i : Int} {j : Nat} (hg : Gl X "sorted") (hm : X.mg "sorted" = none) (room : X.A.depth < recursionLimit)
    (hcd : X.env.code = .ref cA) (hC : PySem.W.codeHdIn X.K cA T = true) (hB : BmIn X.mg X.base) (ha : PA X [e] t)
    (hbind : ∀ (qual : Str) (pm cv ctv v : Value), bindArgs (PySem.W.kla_fn "<lambda>" qual params (.Subscript (.Name x p1) (.Constant (.int i) j p2) p3) sc [] pm cv ctv) ⟨[v], []⟩ = pure [(x, v)] := by intros; rfl)
    (hk : sc.kind = .function := by rfl) (hco : sc.isCoroutine = false := by rfl) (hgen : sc.isGenerator = false := by rfl) (hloc : sc.names.lookup x = some .local := by rfl) (hcell : ∀ y ∈ sc.names, y.2 ≠ .cell := by decide +kernel) (hdb : (x == ("__debug__" : Str)) = false := by decide)
    (hdef : defaultsOf params X.env = ([], []) := by rfl) (hcl : closureFor sc X.env = pure [] := by rfl)
    (he : backTo pos (starEach [e] X.env) = (false, eval e X.env) :: backTo pos (starEach [] X.env) := by rfl) (hpl : (backTo pos (starEach [e] X.env)).any (·.1) = false := by rfl) :
    PE X (.Call (.Name "sorted" p) [e] [⟨some "key", .Lambda params (.Subscript (.Name x p1) (.Constant (.int i) j p2) p3) sc lpos, kpos⟩] pos) (tSortK X.K t T lpos (X.env.qual ++ "<lambda>") i) := by
  intro pins s σ H Q I h
  refine wpAny_Call_Name_kw (ld_blt I hg hm boot_sorted ?_)
  refine callWith_kw (id := "sorted") ?_ he hpl rfl rfl
  refine thn (ha pos pins s σ H _ I h) fun us s1 ⟨vs, H1, I1, r1, q1⟩ => ?_
  obtain ⟨l, rows, rfl, hl, h64, hr, hT, q⟩ := q1
  obtain ⟨u, rfl, ru⟩ := vals1 r1
  cases ru
  obtain ⟨tp, hTt, _⟩ := id hT
  refine kws_cons (lamK I1 hcd hC hB hT hdef hcl fun f c pm ctv H2 s2 I2 hsm hT2 hf hlast hrec => kws_nil ?_)
  exact sortK_call I2 hf hlast hrec (hsm.sqL hTt hl) h64 (fun r hm => let ⟨xs, a, b⟩ := hr r hm; ⟨xs, hsm.sqT hTt a, b⟩) room (fun v => hbind _ _ _ _ v) hk hco hgen hloc hcell hdb fun D rows' hD hp hs => q H2 D rows' hsm hT2 hD hp hs
end
end L2

namespace L2
open PySem PySem.Spec PyProof.Rows
section
variable {P : Program} {w : World} {K : PySem.W.Frag} {mg : Str → Option Value} {base : Heap}
theorem Fun.okC {x qual : Str} {st : Stmt} {f : Addr} {fd : FuncData} {N ps : List Str} {k : Nat} {sp : Sp} {cv : Value} (F : Fun K x qual st f fd) (hc : fd.code = cv) (S : FnScope N ps (defScope st)) (len : ∀ vs H Q E, sp vs H Q E → vs.length = ps.length)
    (hbody : ∀ (A : Around) (outer : List Env) (s : Shared) (H : Hp) (vs : List V) (Q : VK) (E : XK), Room k (A.deeper (envOfC qual (defScope st) s.heap.objs.size f cv)) → sp vs H Q E →
      ∃ t, PSs (cxOf CX0 P w K mg base N qual (defScope st) f cv A outer s H E).nox (defBody st) t ∧ t { nx := fun _ H' => Q .non H', rt := Q } (start N vs) H) : FnOk P w K mg base CX0 (k + 1) f fd ps sp := by
  obtain ⟨oc, od, kV, doc, pm, an, cdv, ct, osl, rfl, lk, hcd⟩ := F.ex
  obtain rfl : cdv = cv := hc
  refine fn_of lk hcd S len fun A outer s H vs Q E hr hsp => ?_
  obtain ⟨t, h, q⟩ := hbody A outer s H vs Q E hr hsp
  exact ⟨t, h.nox, q⟩
end

theorem law_callT {P : Program} {w : World} {K : PySem.W.Frag} {mg mb : Str → Option Value} {CX : CXT} {k : Nat} {fa a c T : Addr} {fd : FuncData} {x : Str} {sp : Sp} {s₁ : Shared} {vs : List Value} {ns : List Int}
    (KX : K.In s₁.heap) (hns : s₁.heap.Ns mainGlobals mg) (hb : s₁.heap.Ns builtinsNs mb) (hbb : ∀ x : Str, x ≠ "__name__" → mb x = bootBuiltins x) (hlim : s₁.heap.NoLimit) (hg : s₁.gens = #[])
    (ha : s₁.heap.get? a = some { cls := .type "list", data := .seq vs.toArray }) (hi : IntsAre vs ns) (hl : ns.length ≤ sizeLine) (hr : Room k callerA)
    (hT : s₁.heap.get? T = some (PySem.W.tabObj #[])) (hC : PySem.W.codeHdIn K c T = true) (hKT : K.lookup T = none) (hB : BmIn mg s₁.heap)
    (F : ∀ base : Heap, K.In base → base.Ns mainGlobals mg → BmIn mg base → FnOk P w K mg base CX k fa fd [x] sp) (hbind : ∀ (s : Shared) (u : Value), BindsTo s fd ⟨[u], []⟩ [(x, u)])
    (hsp : ∀ H : Hp, H T = some (.tbl #[]) → SqL K H a (ns.map V.int) → sp [.ref a] H (fun v _ => v = .bl true) fun _ _ _ => False)
    (hCX : ∀ H e s', CX [] H s₁ (fun _ _ _ => False) e s' → False) :
    codeAny (model P w) callerA (.call (.ref fa) ⟨[.ref a], []⟩) (fun r s' => r = .ok (.ret (.bool true)) ∧ OldK s₁.heap s'.heap ∧ s'.os = s₁.os ∧ AllBare s'.gens) s₁ := by
  have rv := vals_ints hi
  have lenV := hi.length
  have haT : a ≠ T := fun e => by
    rw [e, hT] at ha
    cases ha
  obtain ⟨H, hHT, hHa, hok, hon⟩ : ∃ H : Hp, H T = some (.tbl #[]) ∧ SqL K H a (ns.map V.int) ∧ HOk P w H s₁.heap ∧
      ∀ b, H b = none ∨ b = T ∨ (b = a ∧ K.lookup a = none ∧ ∃ o u, H b = some (.frz o u)) := by
    cases hk : K.lookup a with
    | some o =>
      have e := KX a o hk
      rw [ha] at e
      cases e
      refine ⟨upd (fun _ => none) T (.tbl #[]), upd_same, .inr ⟨_, vs.toArray, _, hk, rfl, rfl, rfl, by rw [List.size_toArray, lenV]; exact hl, by simpa using rv⟩, fun b u z => ?_, fun b => ?_⟩
      · by_cases hb : b = T
        · subst hb
          rw [upd_same] at z
          cases z
          exact hT
        · rw [upd_ne hb] at z
          cases z
      · by_cases hb : b = T
        · exact .inr (.inl hb)
        · exact .inl (by rw [upd_ne hb])
    | none =>
      refine ⟨upd (upd (fun _ => none) a (.frz { cls := .type "list", data := .seq vs.toArray } (.lst (ns.map V.int)))) T (.tbl #[]), upd_same, .inl (.inr ⟨{ cls := .type "list", data := .seq vs.toArray }, by rw [upd_ne haT, upd_same]⟩), fun b u z => ?_, fun b => ?_⟩
      · by_cases hb : b = T
        · subst hb
          rw [upd_same] at z
          cases z
          exact hT
        · rw [upd_ne hb] at z
          by_cases hba : b = a
          · subst hba
            rw [upd_same] at z
            cases z
            exact ⟨ha, by rw [List.length_map]; exact hl, vs, _, rv, ha⟩
          · rw [upd_ne hba] at z
            cases z
      · by_cases hb : b = T
        · exact .inr (.inl hb)
        · by_cases hba : b = a
          · exact .inr (.inr ⟨hba, rfl, _, _, by rw [upd_ne hb, hba, upd_same]⟩)
          · exact .inl (by rw [upd_ne hb, upd_ne hba])
  have noD : ∀ {b : Addr} {o : Obj}, s₁.heap.get? b = some o → (∀ z, o.data ≠ .fields z) → (∀ z n, o.data ≠ .seq z n) → H b = none := fun {b o} e d1 d2 => by
    rcases hon b with q | q | ⟨q, _⟩
    · exact q
    · rw [q, hT] at e
      cases e
      exact (d1 _ rfl).elim
    · rw [q, ha] at e
      cases e
      exact (d2 _ _ rfl).elim
  have nsK : ∀ {b : Addr} {m : Str → Option Value}, s₁.heap.Ns b m → (hidT s₁.heap H).Ns b m := fun {b m} ⟨o, es, ep, e, d, r⟩ => ⟨o, es, ep, hidT_get e (noD e (fun z q => by rw [d] at q; cases q) fun z n q => by rw [d] at q; cases q), d, r⟩
  have hKb : K.In (hidT s₁.heap H) := fun b o e => hidT_get (KX b o e) (by
    rcases hon b with q | q | ⟨q, q2, _⟩
    · exact q
    · rw [q, hKT] at e; cases e
    · rw [q, q2] at e; cases e)
  have hBb : BmIn mg (hidT s₁.heap H) := by
    obtain ⟨bm, ob, b1, b2, b3, b4, b5, b6⟩ := hB
    exact ⟨bm, ob, b1, b2, hidT_get b3 (noD b3 (fun z q => by rw [b6] at q; cases q) fun z n q => by rw [b6] at q; cases q), b4, b5, b6⟩
  have hM : Mod K mg (hidT s₁.heap H) := ⟨hKb, nsK hns, ⟨mb, nsK hb, hbb⟩, let ⟨mc, h1, h2⟩ := hlim; ⟨mc, nsK h1, h2⟩⟩
  have e0 : Env0 P w K mg (hidT s₁.heap H) callerA [] s₁ H := ⟨rfl, hM, fun b o e => of_hidT e, Nat.le_of_eq (hidT_size _ _), trivial, fun b hb => absurd (show b ∈ ([] : List Addr) from hb) (by simp), hok, .of_eq hg⟩
  refine codeAny_mono ((F _ hKb (nsK hns) hBb).run callerA [] s₁ H ⟨[.ref a], []⟩ [.ref a] [.ref a] _ _ hr e0 (hbind s₁ (.ref a)) (.cons rfl .nil) (hsp H hHT hHa)) fun r s' h => ?_
  cases r with
  | error e => exact (hCX H e s' h).elim
  | ok fl =>
    cases fl with
    | next => exact False.elim h
    | brk => exact False.elim h
    | cont => exact False.elim h
    | ret u =>
      obtain ⟨v, H', os, bare, un, hok', r', q⟩ := h
      have q' : v = .bl true := q
      subst q'
      obtain rfl : u = Value.bool true := r'
      have hd := PySem.W.codeHd_of_K KX hC
      have all : ∀ b o, s₁.heap.get? b = some o → asItWas s₁.heap s'.heap b o ∧ ∃ o', s'.heap.get? b = some o' := fun b o e => by
        rcases hon b with n | rfl | ⟨_, _, ob, u, n⟩
        · have z := un.keep b o e n (by intro z; exact absurd (show b ∈ ([] : List Addr) from z) (by simp)) (by simp)
          exact ⟨.inl z, _, z⟩
        · obtain ⟨more, z⟩ := un.tbls b #[] hHT
          have z2 : s'.heap.get? b = some { cls := .none, data := .fields (#[] ++ more) } := hok' b _ z
          rw [hT] at e
          cases e
          exact ⟨.inr (.inl ⟨(hd.tab hT).isCodeTable, rfl, #[], more, rfl, z2⟩), _, z2⟩
        · have z2 := un.frzs b ob u n
          obtain ⟨e1, _⟩ := hok b _ n
          obtain ⟨e2, _⟩ := hok' b _ z2
          rw [e] at e1; cases e1
          exact ⟨.inl e2, _, e2⟩
      exact ⟨rfl, ⟨fun b o e => (all b o e).1, fun b o e => (all b o e).2⟩, os, bare⟩

theorem walk_ofT {l : PySem.W.OpenLaw} {n k : Nat} {q : Program} {loose : List Str} {XP : (Str → Option Value) → Heap → Prop} {YP : World → Heap → Prop} {d : DefRec} {K : Params → PySem.W.Frag} {CX : World → CXT} {sp : World → Addr → Sp} {x : Str}
    (hn : l.most = some n) (hn2 : n ≤ sizeLine) (hdf : d.params.defaults = []) (hr : Room k callerA)
    (hY : ∀ (w : World) (h : Heap), YP w h → (K w.params).In h)
    (F : ∀ (w : World) (mg : Str → Option Value) (fa : Addr) (h : Heap), YP w h → (K w.params).In h → h.Ns mainGlobals mg → mg d.name = some (.ref fa) →
      ∃ (fd : FuncData) (c T : Addr), h.get? T = some (PySem.W.tabObj #[]) ∧ PySem.W.codeHdIn (K w.params) c T = true ∧ (K w.params).lookup T = none ∧ (∀ (s : Shared) (u : Value), BindsTo s fd ⟨[u], []⟩ [(x, u)]) ∧
        ∀ base : Heap, (K w.params).In base → base.Ns mainGlobals mg → BmIn mg base → FnOk l.prog w (K w.params) mg base (CX w) k fa fd [x] (sp w T))
    (hsp : ∀ (w : World) (T : Addr) (H : Hp) (a : Addr) (ns : List Int), ns.length ≤ n → (∀ n ∈ ns, Builtin.Int.intBits n ≤ 2 ^ 20) → H T = some (.tbl #[]) → SqL (K w.params) H a (ns.map V.int) → sp w T [.ref a] H (fun v _ => v = .bl true) fun _ _ _ => False)
    (hCX : ∀ (w : World) (H : Hp) (s : Shared) (e : Value) (s' : Shared), CX w [] H s (fun _ _ _ => False) e s' → False) :
    PySem.W.WalkO q loose XP YP l.row.toRowW d [] (fun f vs => PySem.call f vs) := by
  refine Att.attach_callL hn hdf fun w s₀ s₁ mg mb fa o pm cd doc a vs ns G Y ho hd hcd hmg hobj hints hlen hbits hg => ?_
  have KX := hY w _ Y
  obtain ⟨fd, c, T, hT, hC, hKT, hb, hF⟩ := F w mg fa _ Y KX G.T.g hmg
  exact law_callT KX G.T.g G.T.b G.T.builtins G.T.nolimit hg hobj hints (Nat.le_trans hlen hn2) hr hT hC hKT G.T.bmain hF hb (fun H hO hS => hsp w T H a ns hlen hbits hO hS) fun H e s' => hCX w H s₁ e s'
end L2
-- Book
set_option Elab.async false
set_option linter.all false
set_option maxRecDepth 100000
set_option maxHeartbeats 4000000
/-! The book that the laws keep beside: one row a lot, one list of parts a use. -/
namespace Bl
open PySem L2 Bm
abbrev F3 := Str × Int × Int
abbrev P2 := Nat × Int
def lf (F : List F3) (k : Nat) : Int := ((F[k]?).map (·.2.1)).getD 0
def pf (F : List F3) (k : Nat) : Int := ((F[k]?).map (·.2.2)).getD 0
def wf (F : List F3) (k : Nat) : Option Str := (F[k]?).map (·.1)
def addL (F : List F3) (k : Nat) (m : Int) : List F3 := F.modify k fun f => (f.1, f.2.1 + m, f.2.2)
theorem addL_len (F : List F3) (k : Nat) (m : Int) : (addL F k m).length = F.length := by simp [addL]
theorem addL_get (F : List F3) (k j : Nat) (m : Int) : (addL F k m)[j]? = if k = j then (F[j]?).map fun f => (f.1, f.2.1 + m, f.2.2) else F[j]? := by
  unfold addL
  rw [List.getElem?_modify]
  by_cases e : k = j
  · rw [if_pos e]; simp [e]
  · rw [if_neg e]; simp [e]
theorem addL_wf (F : List F3) (k j : Nat) (m : Int) : wf (addL F k m) j = wf F j := by
  unfold wf
  rw [addL_get]
  split
  · cases F[j]? <;> rfl
  · rfl
theorem addL_pf (F : List F3) (k j : Nat) (m : Int) : pf (addL F k m) j = pf F j := by
  unfold pf
  rw [addL_get]
  split
  · cases F[j]? <;> rfl
  · rfl
theorem addL_lf (F : List F3) (k j : Nat) (m : Int) (h : k < F.length) : lf (addL F k m) j = lf F j + if k = j then m else 0 := by
  unfold lf
  rw [addL_get]
  split
  · rename_i e
    subst e
    rw [List.getElem?_eq_getElem h]
    rfl
  · rw [Int.add_zero]
def addAll (F : List F3) (zs : List P2) : List F3 := zs.foldl (fun F z => addL F z.1 z.2) F
theorem addAll_snoc (F : List F3) (zs : List P2) (z : P2) : addAll F (zs ++ [z]) = addL (addAll F zs) z.1 z.2 := by simp [addAll]
theorem addAll_cons (F : List F3) (zs : List P2) (z : P2) : addAll F (z :: zs) = addAll (addL F z.1 z.2) zs := rfl
theorem addAll_len (zs : List P2) : ∀ F : List F3, (addAll F zs).length = F.length := by
  induction zs with
  | nil => intro F; rfl
  | cons z r ih => intro F; rw [addAll_cons, ih, addL_len]
theorem addAll_wf (zs : List P2) : ∀ (F : List F3) (j : Nat), wf (addAll F zs) j = wf F j := by
  induction zs with
  | nil => intro F j; rfl
  | cons z r ih => intro F j; rw [addAll_cons, ih, addL_wf]
theorem addAll_pf (zs : List P2) : ∀ (F : List F3) (j : Nat), pf (addAll F zs) j = pf F j := by
  induction zs with
  | nil => intro F j; rfl
  | cons z r ih => intro F j; rw [addAll_cons, ih, addL_pf]
def addU (zs : List P2) (n : Nat) : Int := (zs.map fun z => if z.1 = n then z.2 else 0).sum
theorem addU_cons (z : P2) (zs : List P2) (n : Nat) : addU (z :: zs) n = (if z.1 = n then z.2 else 0) + addU zs n := by simp [addU]
theorem addAll_lf (zs : List P2) : ∀ (F : List F3) (j : Nat), (∀ z ∈ zs, z.1 < F.length) → lf (addAll F zs) j = lf F j + addU zs j := by
  induction zs with
  | nil => intro F j _; simp [addAll, addU]
  | cons z r ih =>
    intro F j h
    rw [addAll_cons, ih _ _ (fun y hy => by rw [addL_len]; exact h y (List.mem_cons_of_mem _ hy)), addL_lf _ _ _ _ (h z List.mem_cons_self), addU_cons]
    omega
def row (F : List F3) (k : Nat) : T3 := ((k : Int), lf F k, pf F k)
def spots (F : List F3) (w : Str) : List Nat := (List.range F.length).filter fun k => decide (wf F k = some w)
def rowsOf (F : List F3) (w : Str) : List T3 := (spots F w).map (row F)
theorem spots_lt {F : List F3} {w : Str} {k : Nat} (h : k ∈ spots F w) : k < F.length := List.mem_range.mp (List.mem_filter.mp h).1
theorem spots_wf {F : List F3} {w : Str} {k : Nat} (h : k ∈ spots F w) : wf F k = some w := of_decide_eq_true (List.mem_filter.mp h).2
theorem spots_nd (F : List F3) (w : Str) : (spots F w).Nodup := List.Pairwise.filter _ List.nodup_range
theorem spots_addAll (F : List F3) (zs : List P2) (w : Str) : spots (addAll F zs) w = spots F w := by
  unfold spots
  rw [addAll_len]
  refine List.filter_congr fun k _ => ?_
  rw [addAll_wf]
theorem rowsOf_addAll (F : List F3) (zs : List P2) (w : Str) (h : ∀ z ∈ zs, z.1 < F.length) : rowsOf (addAll F zs) w = (spots F w).map fun k : Nat => ((k : Int), lf F k + addU zs k, pf F k) := by
  unfold rowsOf
  rw [spots_addAll]
  refine List.map_congr_left fun k _ => ?_
  unfold row
  rw [addAll_lf _ _ _ h, addAll_pf]
theorem addU_none {zs : List P2} {n : Nat} (h : ∀ z ∈ zs, z.1 ≠ n) : addU zs n = 0 := by
  induction zs with
  | nil => rfl
  | cons z r ih => rw [addU_cons, if_neg (h z List.mem_cons_self), ih fun y hy => h y (List.mem_cons_of_mem _ hy)]; rfl
theorem rowsOf_other {F : List F3} {zs : List P2} {v w : Str} (hz : ∀ z ∈ zs, wf F z.1 = some w) (h : ∀ z ∈ zs, z.1 < F.length) (hv : v ≠ w) : rowsOf (addAll F zs) v = rowsOf F v := by
  rw [rowsOf_addAll _ _ _ h]
  unfold rowsOf
  refine List.map_congr_left fun k hk => ?_
  rw [addU_none fun z hz' e => ?_, Int.add_zero]
  · rfl
  · have h1 := hz z hz'
    rw [e, spots_wf hk] at h1
    exact hv (Option.some.inj h1)
/-! ### how many are taken of each -/
def takeM : List Int → Int → List Int
  | [], _ => []
  | l :: r, w => mn l w :: takeM r (w - mn l w)
theorem takeM_len : ∀ (ls : List Int) (w : Int), (takeM ls w).length = ls.length
  | [], _ => rfl
  | l :: r, w => by simp [takeM, takeM_len r]
theorem takeM_snoc : ∀ (ls : List Int) (l w : Int), takeM (ls ++ [l]) w = takeM ls w ++ [mn l (w - (takeM ls w).sum)]
  | [], l, w => by simp [takeM]
  | x :: r, l, w => by
    simp only [List.cons_append, takeM, List.sum_cons]
    rw [takeM_snoc r l]
    rw [show w - mn x w - (takeM r (w - mn x w)).sum = w - (mn x w + (takeM r (w - mn x w)).sum) by omega]
def offP (F : List F3) (ks : List Nat) (w : Int) : List P2 := ks.zip (takeM (ks.map (lf F)) w)
def neg (zs : List P2) : List P2 := zs.map fun z => (z.1, -z.2)
theorem addU_neg (zs : List P2) (n : Nat) : addU (neg zs) n = - addU zs n := by
  induction zs with
  | nil => rfl
  | cons z r ih =>
    show addU ((z.1, -z.2) :: neg r) n = _
    rw [addU_cons, addU_cons, ih]
    show (if z.1 = n then -z.2 else 0) + _ = _
    split <;> omega
theorem neg_mem {zs : List P2} {z : P2} (h : z ∈ neg zs) : ∃ y ∈ zs, y.1 = z.1 := by
  obtain ⟨y, hy, e⟩ := List.mem_map.mp h
  exact ⟨y, hy, by rw [← e]⟩
theorem takeB_rows (F : List F3) : ∀ (ks : List Nat) (w : Int), ks.Nodup → takeB (ks.map (row F)) w = ks.map fun k : Nat => ((k : Int), lf F k - addU (offP F ks w) k, pf F k)
  | [], _, _ => rfl
  | k :: r, w, nd => by
    obtain ⟨h1, h2⟩ := List.nodup_cons.mp nd
    simp only [List.map_cons, takeB]
    have hm : ∀ z ∈ offP F r (w - mn (lf F k) w), z.1 ≠ k := fun z hz e => h1 (e ▸ (List.of_mem_zip hz).1)
    have e0 : offP F (k :: r) w = (k, mn (lf F k) w) :: offP F r (w - mn (lf F k) w) := rfl
    congr 1
    · show ((k : Int), lf F k - mn (lf F k) w, pf F k) = _
      rw [e0, addU_cons, if_pos rfl, addU_none hm, Int.add_zero]
    · show takeB (r.map (row F)) (w - mn (lf F k) w) = _
      rw [takeB_rows F r _ h2]
      refine List.map_congr_left fun j hj => ?_
      rw [e0, addU_cons]
      have : ¬ k = j := fun e => h1 (e ▸ hj)
      rw [if_neg this, Int.zero_add]
theorem offP_mem {F : List F3} {ks : List Nat} {w : Int} {z : P2} (h : z ∈ offP F ks w) : z.1 ∈ ks := (List.of_mem_zip h).1
theorem rowsOf_off (F : List F3) (w : Str) (am : Int) : rowsOf (addAll F (neg (offP F (spots F w) am))) w = takeB (rowsOf F w) am := by
  have hl : ∀ z ∈ neg (offP F (spots F w) am), z.1 < F.length := fun z hz => by
    obtain ⟨y, hy, e⟩ := neg_mem hz
    rw [← e]
    exact spots_lt (offP_mem hy)
  rw [rowsOf_addAll _ _ _ hl]
  unfold rowsOf
  rw [takeB_rows F _ _ (spots_nd F w)]
  refine List.map_congr_left fun k _ => ?_
  rw [addU_neg]
  rfl
theorem nat_nd_reverse {l : List Nat} (h : l.Nodup) : l.reverse.Nodup := by
  unfold List.Nodup at h ⊢
  rw [List.pairwise_reverse]
  exact h.imp fun h e => h e.symm
theorem rowsOf_offR (F : List F3) (w : Str) (am : Int) : rowsOf (addAll F (neg (offP F (spots F w).reverse am))) w = downB (rowsOf F w) am := by
  have hl : ∀ z ∈ neg (offP F (spots F w).reverse am), z.1 < F.length := fun z hz => by
    obtain ⟨y, hy, e⟩ := neg_mem hz
    rw [← e]
    exact spots_lt (List.mem_reverse.mp (offP_mem hy))
  rw [rowsOf_addAll _ _ _ hl]
  unfold rowsOf downB
  rw [← List.map_reverse, takeB_rows F _ _ (nat_nd_reverse (spots_nd F w)), List.map_reverse, List.reverse_reverse]
  refine List.map_congr_left fun k _ => ?_
  rw [addU_neg]
  rfl
theorem wf_off {F : List F3} {w : Str} {ks : List Nat} (h : ∀ k ∈ ks, k ∈ spots F w) {am : Int} : (∀ z ∈ neg (offP F ks am), wf F z.1 = some w) ∧ ∀ z ∈ neg (offP F ks am), z.1 < F.length := by
  refine ⟨fun z hz => ?_, fun z hz => ?_⟩
  · obtain ⟨y, hy, e⟩ := neg_mem hz
    rw [← e]
    exact spots_wf (h _ (offP_mem hy))
  · obtain ⟨y, hy, e⟩ := neg_mem hz
    rw [← e]
    exact spots_lt (h _ (offP_mem hy))
/-! ### parts with and without noughts -/
inductive Sub0 : List T3 → List P2 → Prop
  | nil : Sub0 [] []
  | keep {k : Nat} {m p : Int} {ts : List T3} {zs : List P2} : Sub0 ts zs → Sub0 (((k : Int), m, p) :: ts) ((k, m) :: zs)
  | drop {k : Nat} {ts : List T3} {zs : List P2} : Sub0 ts zs → Sub0 ts ((k, 0) :: zs)
theorem Sub0.snoc_keep {k : Nat} {m p : Int} {ts : List T3} {zs : List P2} (h : Sub0 ts zs) : Sub0 (ts ++ [((k : Int), m, p)]) (zs ++ [(k, m)]) := by
  induction h with
  | nil => exact .keep .nil
  | keep _ ih => exact .keep ih
  | drop _ ih => exact .drop ih
theorem Sub0.snoc_drop {k : Nat} {ts : List T3} {zs : List P2} (h : Sub0 ts zs) : Sub0 ts (zs ++ [(k, 0)]) := by
  induction h with
  | nil => exact .drop .nil
  | keep _ ih => exact .keep ih
  | drop _ ih => exact .drop ih
theorem Sub0.reverse {ts : List T3} {zs : List P2} (h : Sub0 ts zs) : Sub0 ts.reverse zs.reverse := by
  induction h with
  | nil => exact .nil
  | keep _ ih => rw [List.reverse_cons, List.reverse_cons]; exact ih.snoc_keep
  | drop _ ih => rw [List.reverse_cons]; exact ih.snoc_drop
theorem Sub0.held {ts : List T3} {zs : List P2} (h : Sub0 ts zs) : held ts = (zs.map (·.2)).sum := by
  induction h with
  | nil => rfl
  | keep _ ih => rw [held_cons, ih]; simp
  | drop _ ih => rw [ih]; simp
theorem mn_zero {w : Int} (h : 0 ≤ w) : mn 0 w = 0 := by unfold mn; split <;> omega
def onP (zs : List P2) (w : Int) : List P2 := (zs.map (·.1)).zip (takeM (zs.map (·.2)) w)
def onB (zs : List P2) (w : Int) : List P2 := (zs.map (·.1)).zip (List.zipWith (· - ·) (zs.map (·.2)) (takeM (zs.map (·.2)) w))
theorem onP_cons (z : P2) (zs : List P2) (w : Int) : onP (z :: zs) w = (z.1, mn z.2 w) :: onP zs (w - mn z.2 w) := rfl
theorem onB_cons (z : P2) (zs : List P2) (w : Int) : onB (z :: zs) w = (z.1, z.2 - mn z.2 w) :: onB zs (w - mn z.2 w) := rfl
theorem addUp_cons (t : T3) (ts : List T3) (n : Int) : addUp (t :: ts) n = (if t.1 = n then t.2.1 else 0) + addUp ts n := by
  unfold addUp
  by_cases h : t.1 = n
  · simp [h]
  · simp [h]
theorem Sub0.take {ts : List T3} {zs : List P2} (h : Sub0 ts zs) : ∀ {w : Int}, NN ts → 0 ≤ w → Sub0 (takeB ts w) (onB zs w) ∧ ∀ n : Nat, addUp (takeP ts w) (n : Int) = addU (onP zs w) n := by
  induction h with
  | nil => intro w _ _; exact ⟨.nil, fun n => rfl⟩
  | @keep k m p ts zs h ih =>
    intro w hn hw
    have hm := mn_le_w m w
    have hm0 : 0 ≤ m := hn _ List.mem_cons_self
    have hmn := mn_nn hm0 hw
    obtain ⟨i1, i2⟩ := ih (w := w - mn m w) (fun t ht => hn t (List.mem_cons_of_mem _ ht)) (by omega)
    refine ⟨?_, fun n => ?_⟩
    · rw [onB_cons]
      exact .keep i1
    · rw [onP_cons, addU_cons, ← i2 n]
      simp only [takeP]
      show addUp (if 0 < mn m w then ((k : Int), mn m w, p) :: takeP ts (w - mn m w) else takeP ts (w - mn m w)) n = (if k = n then mn m w else 0) + _
      have ek : ((k : Int) = (n : Int)) = (k = n) := propext ⟨fun z => by omega, fun z => by omega⟩
      split
      · rw [addUp_cons]
        show (if (k : Int) = (n : Int) then mn m w else 0) + _ = _
        simp only [ek]
      · have : mn m w = 0 := by omega
        rw [this]
        split <;> omega
  | @drop k ts zs h ih =>
    intro w hn hw
    rw [onB_cons, onP_cons]
    show Sub0 _ ((k, 0 - mn 0 w) :: onB zs (w - mn 0 w)) ∧ ∀ n : Nat, _ = addU ((k, mn 0 w) :: onP zs (w - mn 0 w)) n
    rw [mn_zero hw, Int.sub_zero, Int.sub_zero]
    obtain ⟨i1, i2⟩ := ih hn hw
    refine ⟨.drop i1, fun n => ?_⟩
    rw [addU_cons, i2 n]
    show _ = (if k = n then (0 : Int) else 0) + _
    split <;> omega
theorem sub0_off (F : List F3) : ∀ (ks : List Nat) (w : Int), (∀ k ∈ ks, 0 ≤ lf F k) → 0 ≤ w → Sub0 (takeP (ks.map (row F)) w) (offP F ks w)
  | [], _, _, _ => .nil
  | k :: r, w, hn, hw => by
    have h0 := hn k List.mem_cons_self
    have hm := mn_le_w (lf F k) w
    have hmn := mn_nn h0 hw
    have ih := sub0_off F r (w - mn (lf F k) w) (fun j hj => hn j (List.mem_cons_of_mem _ hj)) (by omega)
    have e0 : offP F (k :: r) w = (k, mn (lf F k) w) :: offP F r (w - mn (lf F k) w) := rfl
    rw [e0]
    show Sub0 (if 0 < mn (lf F k) w then ((k : Int), mn (lf F k) w, pf F k) :: takeP (r.map (row F)) (w - mn (lf F k) w) else takeP (r.map (row F)) (w - mn (lf F k) w)) _
    split
    · exact .keep ih
    · have : mn (lf F k) w = 0 := by omega
      rw [this] at ih ⊢
      exact .drop ih
/-! ### the book beside the barn -/
structure Bk where
  F : List F3
  O : List (List P2)
def hereB (F : List F3) (w : Str) : Int := held (rowsOf F w)
def lastP (F : List F3) (w : Str) : Int := newestPrice (rowsOf F w)
def bookStep (k : Bk) : Deed → Bk
  | .come w am pr => ⟨k.F ++ [(w, am, pr)], k.O⟩
  | .use w am => if am ≤ hereB k.F w then ⟨addAll k.F (neg (offP k.F (spots k.F w) am)), k.O ++ [offP k.F (spots k.F w) am]⟩ else k
  | .back n am => if 0 ≤ n then match k.O[n.toNat]? with
      | some Z => if am ≤ (Z.map (·.2)).sum then ⟨addAll k.F (onP Z.reverse am), k.O.set n.toNat (onB Z.reverse am).reverse⟩ else k
      | none => k
    else k
  | .count w f => if f < hereB k.F w then ⟨addAll k.F (neg (offP k.F (spots k.F w).reverse (hereB k.F w - f))), k.O⟩ else if hereB k.F w < f then ⟨k.F ++ [(w, f - hereB k.F w, lastP k.F w)], k.O⟩ else k
structure BookRel (W : List Str) (b : Bst) (k : Bk) : Prop where
  n : k.F.length = b.n
  l : ∀ w, lotsW b.L w = rowsOf k.F w
  w : ∀ f ∈ k.F, f.1 ∈ W
  ul : k.O.length = b.U.length
  u : ∀ (i : Nat) (q : Str × List T3) (Z : List P2), b.U[i]? = some q → k.O[i]? = some Z → Sub0 q.2 Z ∧ (∀ z ∈ Z, wf k.F z.1 = some q.1)
theorem wf_lt {F : List F3} {k : Nat} {w : Str} (h : wf F k = some w) : k < F.length := by
  unfold wf at h
  cases e : F[k]? with
  | none => rw [e] at h; cases h
  | some f => exact (List.getElem?_eq_some_iff.mp e).1
theorem wf_snoc {F : List F3} {f : F3} {k : Nat} {w : Str} (h : wf F k = some w) : wf (F ++ [f]) k = some w := by
  have := wf_lt h
  unfold wf at h ⊢
  rw [List.getElem?_append_left this]
  exact h
theorem spots_snoc (F : List F3) (f : F3) (w : Str) : spots (F ++ [f]) w = spots F w ++ if f.1 = w then [F.length] else [] := by
  unfold spots
  rw [List.length_append, List.length_singleton, List.range_succ, List.filter_append]
  congr 1
  · refine List.filter_congr fun k hk => ?_
    have hk := List.mem_range.mp hk
    unfold wf
    rw [List.getElem?_append_left hk]
  · have e : wf (F ++ [f]) F.length = some f.1 := by unfold wf; simp
    rw [List.filter_cons, e]
    by_cases h : f.1 = w
    · simp [h]
    · simp [h]
theorem rowsOf_snoc (F : List F3) (f : F3) (w : Str) : rowsOf (F ++ [f]) w = rowsOf F w ++ if f.1 = w then [((F.length : Int), f.2.1, f.2.2)] else [] := by
  unfold rowsOf
  rw [spots_snoc, List.map_append]
  congr 1
  · refine List.map_congr_left fun k hk => ?_
    have hk := spots_lt hk
    unfold row lf pf
    rw [List.getElem?_append_left hk]
  · by_cases h : f.1 = w
    · rw [if_pos h, if_pos h]
      simp [row, lf, pf]
    · rw [if_neg h, if_neg h]
      rfl
theorem book_come {W : List Str} {b : Bst} {k : Bk} (R : BookRel W b k) {v : Str} (hv : v ∈ W) (am pr : Int) : BookRel W (comeB b v am pr) ⟨k.F ++ [(v, am, pr)], k.O⟩ := by
  refine ⟨by simp [comeB, R.n], fun w => ?_, fun f hf => ?_, R.ul, fun i q Z h1 h2 => ?_⟩
  · show lotsW (putW b.L v _) w = rowsOf (k.F ++ [(v, am, pr)]) w
    rw [lotsW_put, rowsOf_snoc]
    show _ = rowsOf k.F w ++ if v = w then [((k.F.length : Int), am, pr)] else []
    by_cases e : w = v
    · subst e
      rw [if_pos rfl, if_pos rfl, R.l, R.n]
    · have e' : ¬ v = w := fun z => e z.symm
      rw [if_neg e, if_neg e', List.append_nil, R.l]
  · rcases List.mem_append.mp hf with hf | hf
    · exact R.w f hf
    · have : f = (v, am, pr) := by simpa using hf
      subst this
      exact hv
  · obtain ⟨h3, h4⟩ := R.u i q Z h1 h2
    exact ⟨h3, fun z hz => wf_snoc (h4 z hz)⟩
theorem addAll_mem {F : List F3} {zs : List P2} {W : List Str} (h : ∀ f ∈ F, f.1 ∈ W) : ∀ f ∈ addAll F zs, f.1 ∈ W := fun f hf => by
  obtain ⟨i, hi, e⟩ := List.getElem_of_mem hf
  have h1 : wf (addAll F zs) i = some f.1 := by
    unfold wf
    rw [List.getElem?_eq_getElem hi, e]
    rfl
  rw [addAll_wf] at h1
  unfold wf at h1
  cases e2 : F[i]? with
  | none => rw [e2] at h1; cases h1
  | some g =>
    rw [e2] at h1
    have : g.1 = f.1 := Option.some.inj h1
    rw [← this]
    exact h g (List.mem_of_getElem? e2)
theorem rowsOf_put {b : Bst} {F : List F3} {zs : List P2} {v : Str} {ts : List T3} (hl : ∀ w, lotsW b.L w = rowsOf F w) (hz : ∀ z ∈ zs, wf F z.1 = some v) (e : rowsOf (addAll F zs) v = ts) (w : Str) : lotsW (putW b.L v ts) w = rowsOf (addAll F zs) w := by
  rw [lotsW_put]
  by_cases h : w = v
  · subst h
    rw [if_pos rfl, e]
  · rw [if_neg h, rowsOf_other hz (fun z hz' => wf_lt (hz z hz')) h, hl]
theorem rowsOf_on {F : List F3} {zs : List P2} {v : Str} {ps : List T3} (hz : ∀ z ∈ zs, wf F z.1 = some v) (h : ∀ n : Nat, addUp ps (n : Int) = addU zs n) : rowsOf (addAll F zs) v = backM (rowsOf F v) ps := by
  rw [rowsOf_addAll _ _ _ fun z hz' => wf_lt (hz z hz')]
  unfold rowsOf backM
  rw [List.map_map]
  refine List.map_congr_left fun k _ => ?_
  show ((k : Int), lf F k + addU zs k, pf F k) = ((k : Int), lf F k + addUp ps (k : Int), pf F k)
  rw [h]
theorem onP_mem {zs : List P2} {w : Int} {z : P2} (h : z ∈ onP zs w) : ∃ y ∈ zs, y.1 = z.1 := List.mem_map.mp (List.of_mem_zip h).1
theorem onB_mem {zs : List P2} {w : Int} {z : P2} (h : z ∈ onB zs w) : ∃ y ∈ zs, y.1 = z.1 := List.mem_map.mp (List.of_mem_zip h).1
theorem book_step {W : List Str} {S : Int} {b : Bst} {k : Bk} {dd : Deed} (I : BInv W b) (R : BookRel W b k) (h : DOk W S dd) : BookRel W (step b dd).1 (bookStep k dd) := by
  have hh : ∀ w, hereB k.F w = held (lotsW b.L w) := fun w => by unfold hereB; rw [R.l]
  cases dd with
  | come w am pr => exact book_come R h.1 am pr
  | use w am =>
    show BookRel W (useB b w am).1 (if am ≤ hereB k.F w then _ else k)
    unfold useB
    rw [hh]
    by_cases e : held (lotsW b.L w) < am
    · rw [if_pos e, if_neg (by omega)]
      exact R
    · rw [if_neg e, if_pos (by omega)]
      have hk : ∀ j ∈ spots k.F w, j ∈ spots k.F w := fun _ h => h
      obtain ⟨z1, z2⟩ := wf_off (am := am) hk
      refine ⟨by rw [addAll_len]; exact R.n, rowsOf_put R.l z1 (by rw [rowsOf_off, R.l]), addAll_mem R.w, by simp [R.ul], fun i q Z h1 h2 => ?_⟩
      have h1 : (b.U ++ [(w, takeP (lotsW b.L w) am)])[i]? = some q := h1
      have h2 : (k.O ++ [offP k.F (spots k.F w) am])[i]? = some Z := h2
      by_cases hi : i < b.U.length
      · rw [List.getElem?_append_left hi] at h1
        rw [List.getElem?_append_left (by rw [R.ul]; exact hi)] at h2
        obtain ⟨h3, h4⟩ := R.u i q Z h1 h2
        exact ⟨h3, fun z hz => by show wf (addAll _ _) z.1 = _; rw [addAll_wf]; exact h4 z hz⟩
      · have hi2 : i = b.U.length := by
          have := (List.getElem?_eq_some_iff.mp h1).1
          simp at this
          omega
        subst hi2
        have e1 : (w, takeP (lotsW b.L w) am) = q := by simpa using h1
        have e2 : offP k.F (spots k.F w) am = Z := by rw [← R.ul] at h2; simpa using h2
        subst e1
        subst e2
        refine ⟨?_, fun z hz => by show wf (addAll _ _) z.1 = _; rw [addAll_wf]; exact spots_wf (offP_mem hz)⟩
        show Sub0 (takeP (lotsW b.L w) am) _
        rw [R.l]
        refine sub0_off k.F (spots k.F w) am (fun j hj => ?_) (by have := h.2; omega)
        have := I.nn w
        rw [R.l] at this
        exact this (row k.F j) (List.mem_map.mpr ⟨j, hj, rfl⟩)
  | back n am =>
    have ham : 1 ≤ am := h
    show BookRel W (backB b n am).1 (if 0 ≤ n then _ else k)
    unfold backB
    by_cases h0 : 0 ≤ n
    · rw [if_pos h0, if_pos h0]
      cases hU : b.U[n.toNat]? with
      | none =>
        have : k.O[n.toNat]? = none := List.getElem?_eq_none (by have := List.getElem?_eq_none_iff.mp hU; rw [R.ul]; exact this)
        rw [this]
        exact R
      | some q =>
        obtain ⟨w, out⟩ := q
        have hlt : n.toNat < k.O.length := by rw [R.ul]; exact (List.getElem?_eq_some_iff.mp hU).1
        have hO : k.O[n.toNat]? = some (k.O[n.toNat]) := List.getElem?_eq_getElem hlt
        generalize k.O[n.toNat] = Z at hO
        rw [hO]
        obtain ⟨h3, h4⟩ := R.u _ _ _ hU hO
        have h3 : Sub0 out Z := h3
        have h4 : ∀ z ∈ Z, wf k.F z.1 = some w := h4
        obtain ⟨i1, i2, i3, i4⟩ := I.u _ (List.mem_of_getElem? hU)
        have i3 : NN out := i3
        show BookRel W (if held out < am then (b, Ans.no) else ((⟨putW b.L w (backM (lotsW b.L w) (downP out am)), b.n, b.U.set n.toNat (w, downB out am)⟩ : Bst), Ans.parts (downP out am))).1 (if am ≤ (Z.map (·.2)).sum then _ else k)
        rw [← h3.held]
        by_cases e : held out < am
        · rw [if_pos e, if_neg (by omega)]
          exact R
        · rw [if_neg e, if_pos (by omega)]
          obtain ⟨t1, t2⟩ := h3.reverse.take (w := am) i3.reverse (by omega)
          have hz : ∀ z ∈ onP Z.reverse am, wf k.F z.1 = some w := fun z hz => by
            obtain ⟨y, hy, e⟩ := onP_mem hz
            rw [← e]
            exact h4 y (List.mem_reverse.mp hy)
          refine ⟨by rw [addAll_len]; exact R.n, rowsOf_put R.l hz (by rw [rowsOf_on hz t2, R.l]; rfl), addAll_mem R.w, by simp [R.ul], fun i q Z' h1 h2 => ?_⟩
          have h1 : (b.U.set n.toNat (w, downB out am))[i]? = some q := h1
          have h2 : (k.O.set n.toNat (onB Z.reverse am).reverse)[i]? = some Z' := h2
          by_cases hi : n.toNat = i
          · subst hi
            rw [List.getElem?_set_self (by rw [← R.ul]; exact hlt)] at h1
            rw [List.getElem?_set_self hlt] at h2
            cases h1
            cases h2
            refine ⟨t1.reverse, fun z hz => ?_⟩
            show wf (addAll _ _) z.1 = _
            rw [addAll_wf]
            obtain ⟨y, hy, e⟩ := onB_mem (List.mem_reverse.mp hz)
            rw [← e]
            exact h4 y (List.mem_reverse.mp hy)
          · rw [List.getElem?_set_ne hi] at h1 h2
            obtain ⟨h5, h6⟩ := R.u i q Z' h1 h2
            exact ⟨h5, fun z hz => by show wf (addAll _ _) z.1 = _; rw [addAll_wf]; exact h6 z hz⟩
    · rw [if_neg h0, if_neg h0]
      exact R
  | count w f =>
    show BookRel W (countB b w f).1 (if f < hereB k.F w then _ else if hereB k.F w < f then _ else k)
    unfold countB
    rw [hh]
    by_cases e : f < held (lotsW b.L w)
    · rw [if_pos e, if_pos e]
      have hk : ∀ j ∈ (spots k.F w).reverse, j ∈ spots k.F w := fun _ h => List.mem_reverse.mp h
      obtain ⟨z1, z2⟩ := wf_off (am := held (lotsW b.L w) - f) hk
      refine ⟨by rw [addAll_len]; exact R.n, rowsOf_put R.l z1 (by rw [rowsOf_offR, R.l]), addAll_mem R.w, R.ul, fun i q Z h1 h2 => ?_⟩
      obtain ⟨h5, h6⟩ := R.u i q Z h1 h2
      exact ⟨h5, fun z hz => by show wf (addAll _ _) z.1 = _; rw [addAll_wf]; exact h6 z hz⟩
    · rw [if_neg e, if_neg e]
      by_cases e2 : held (lotsW b.L w) < f
      · rw [if_pos e2, if_pos e2]
        have := book_come R h.1 (f - held (lotsW b.L w)) (newestPrice (lotsW b.L w))
        unfold lastP
        rw [← R.l]
        exact this
      · rw [if_neg e2, if_neg e2]
        exact R
theorem book_b0 {W : List Str} : BookRel W b0 ⟨[], []⟩ := ⟨rfl, fun w => rfl, fun f hf => by simp at hf, rfl, fun i q Z h1 h2 => by simp [b0] at h1⟩
end Bl
-- Law5
set_option Elab.async false
set_option linter.all false
set_option maxRecDepth 100000
set_option maxHeartbeats 4000000
/-! The book in the abstract heap: tables of rows. -/
namespace Bl
open PySem L2 Bm
def lrow (f : F3) : HO := .lst [.str f.1, .int f.2.1, .int f.2.2]
def prow (z : P2) : HO := .lst [.int (z.1 : Int), .int z.2]
def IsRow (o : HO) : Prop := ∃ v r, o = .lst (v :: r) ∧ ∀ b, v ≠ .ref b
theorem row_l (f : F3) : IsRow (lrow f) := ⟨_, _, rfl, fun b z => by cases z⟩
theorem row_p (z : P2) : IsRow (prow z) := ⟨_, _, rfl, fun b z => by cases z⟩
structure TabAt {α : Type} (g : α → HO) (H : Hp) (l : Addr) (A : List Addr) (F : List α) : Prop where
  l : H l = some (.lst (A.map V.ref))
  n : A.length = F.length
  nd : A.Nodup
  r : ∀ (k : Nat) (a : Addr) (f : α), A[k]? = some a → F[k]? = some f → H a = some (g f)
section
variable {α : Type} {g : α → HO} {H H' : Hp} {l : Addr} {A : List Addr} {F : List α}
theorem TabAt.at (T : TabAt g H l A F) {k : Nat} {f : α} (h : F[k]? = some f) : ∃ a, A[k]? = some a ∧ H a = some (g f) := by
  have hk : k < A.length := by rw [T.n]; exact (List.getElem?_eq_some_iff.mp h).1
  exact ⟨_, List.getElem?_eq_getElem hk, T.r k _ f (List.getElem?_eq_getElem hk) h⟩
theorem TabAt.of (T : TabAt g H l A F) {a : Addr} (h : a ∈ A) : ∃ f, H a = some (g f) := by
  obtain ⟨k, hk, e⟩ := List.getElem_of_mem h
  have h1 : A[k]? = some a := by rw [List.getElem?_eq_getElem hk, e]
  have h2 : F[k]? = some (F[k]'(by rw [← T.n]; exact hk)) := List.getElem?_eq_getElem _
  exact ⟨_, T.r k a _ h1 h2⟩
theorem TabAt.keep (T : TabAt g H l A F) (hl : ∀ o, H l = some o → H' l = some o) (hA : ∀ a ∈ A, ∀ o, H a = some o → H' a = some o) : TabAt g H' l A F :=
  ⟨hl _ T.l, T.n, T.nd, fun k a f h1 h2 => hA a (List.mem_of_getElem? h1) _ (T.r k a f h1 h2)⟩
theorem TabAt.same (T : TabAt g H l A F) (s : Same H H') : TabAt g H' l A F := T.keep (fun o h => s _ _ h) fun a _ o h => s _ _ h
theorem TabAt.not_l (hg : ∀ f, IsRow (g f)) (T : TabAt g H l A F) {m : Addr} {xs : List Addr} (h : H m = some (.lst (xs.map V.ref))) : m ∉ A := fun hm => by
  obtain ⟨f, e⟩ := T.of hm
  obtain ⟨v, r, e2, hv⟩ := hg f
  rw [h, e2] at e
  have e3 : xs.map V.ref = v :: r := HO.lst.inj (Option.some.inj e)
  cases xs with
  | nil => cases e3
  | cons x y => exact hv x (List.cons.inj e3).1.symm
theorem nd_at : ∀ {A : List Addr} {i j : Nat} {a : Addr}, A.Nodup → A[i]? = some a → A[j]? = some a → i = j
  | [], _, _, _, _, h, _ => by simp at h
  | x :: r, i, j, a, nd, h1, h2 => by
    obtain ⟨n1, n2⟩ := List.nodup_cons.mp nd
    cases i with
    | zero =>
      have e1 : x = a := by simpa using h1
      cases j with
      | zero => rfl
      | succ j =>
        have h2 : r[j]? = some a := by simpa using h2
        exact absurd (e1 ▸ List.mem_of_getElem? h2) n1
    | succ i =>
      have h1 : r[i]? = some a := by simpa using h1
      cases j with
      | zero =>
        have e2 : x = a := by simpa using h2
        exact absurd (e2 ▸ List.mem_of_getElem? h1) n1
      | succ j => exact congrArg _ (nd_at n2 h1 (by simpa using h2))
theorem TabAt.set (hg : ∀ f, IsRow (g f)) (T : TabAt g H l A F) {k : Nat} {a : Addr} (h : A[k]? = some a) (f' : α) : TabAt g (upd H a (g f')) l A (F.set k f') := by
  have hla : l ≠ a := fun e => T.not_l hg T.l (e ▸ List.mem_of_getElem? h)
  refine ⟨by rw [upd_ne hla]; exact T.l, by rw [List.length_set]; exact T.n, T.nd, fun j c f h1 h2 => ?_⟩
  by_cases e : k = j
  · subst e
    rw [h] at h1
    cases h1
    have hk : k < F.length := by rw [← T.n]; exact (List.getElem?_eq_some_iff.mp h).1
    rw [List.getElem?_set_self hk] at h2
    cases h2
    exact upd_same
  · rw [List.getElem?_set_ne e] at h2
    have : c ≠ a := fun z => e (nd_at T.nd h (z ▸ h1))
    rw [upd_ne this]
    exact T.r j c f h1 h2
theorem TabAt.push (hg : ∀ f, IsRow (g f)) (T : TabAt g H l A F) {p : Addr} (hp : H p = none) (f : α) : TabAt g (upd (upd H p (g f)) l (.lst (A.map V.ref ++ [.ref p]))) l (A ++ [p]) (F ++ [f]) := by
  have hpl : p ≠ l := (ne_of_none T.l hp).symm
  have hpA : p ∉ A := fun hm => by
    obtain ⟨f, e⟩ := T.of hm
    rw [hp] at e; cases e
  refine ⟨by rw [upd_same]; simp, by simp [T.n], List.nodup_append.mpr ⟨T.nd, by simp, fun a ha b hb e => ?_⟩, fun k a x h1 h2 => ?_⟩
  · have : b = p := by simpa using hb
    exact hpA (this ▸ e ▸ ha)
  · by_cases hk : k < A.length
    · rw [List.getElem?_append_left hk] at h1
      rw [List.getElem?_append_left (by rw [← T.n]; exact hk)] at h2
      have ha := T.r k a x h1 h2
      have hal : a ≠ l := fun z => T.not_l hg T.l (z ▸ List.mem_of_getElem? h1)
      rw [upd_ne hal, upd_ne (ne_of_none ha hp)]
      exact ha
    · have hk2 : k = A.length := by
        have := (List.getElem?_eq_some_iff.mp h1).1
        simp at this
        omega
      subst hk2
      have e1 : p = a := by simpa using h1
      have e2 : f = x := by rw [T.n] at h2; simpa using h2
      subst e1
      subst e2
      rw [upd_ne hpl, upd_same]
theorem TabAt.push_but (T : TabAt g H l A F) {p : Addr} (hp : H p = none) {o : HO} {ys : List V} : ∀ c u, H c = some u → c ≠ l → (upd (upd H p o) l (.lst ys)) c = some u := fun c u e hc => by
  rw [upd_ne hc, upd_ne (ne_of_none e hp)]
  exact e
theorem tab_empty {g : α → HO} (h : H l = some (.lst [])) : TabAt g H l [] [] := ⟨h, rfl, List.nodup_nil, fun k a f h1 => by simp at h1⟩
end
theorem addL_set {F : List F3} {k : Nat} {f : F3} (h : F[k]? = some f) (m : Int) : addL F k m = F.set k (f.1, f.2.1 + m, f.2.2) := by
  refine List.ext_getElem? fun j => ?_
  rw [addL_get]
  obtain ⟨hk, e⟩ := List.getElem?_eq_some_iff.mp h
  by_cases ej : k = j
  · subst ej
    rw [if_pos rfl, List.getElem?_set_self hk, h]
    rfl
  · rw [if_neg ej, List.getElem?_set_ne ej]
theorem lf_of {F : List F3} {k : Nat} {f : F3} (h : F[k]? = some f) : lf F k = f.2.1 := by unfold lf; rw [h]; rfl
theorem hereB_snoc (F : List F3) (f : F3) (w : Str) : hereB (F ++ [f]) w = hereB F w + if f.1 = w then f.2.1 else 0 := by
  unfold hereB
  rw [rowsOf_snoc, held_append]
  by_cases h : f.1 = w
  · rw [if_pos h, if_pos h]; simp [held]
  · rw [if_neg h, if_neg h]; rfl
theorem offP_snoc {F : List F3} {ks : List Nat} {k : Nat} {w : Int} : offP F (ks ++ [k]) w = offP F ks w ++ [(k, mn (lf F k) (w - (takeM (ks.map (lf F)) w).sum))] := by
  unfold offP
  rw [List.map_append, List.map_singleton, takeM_snoc, List.zip_append (by rw [takeM_len, List.length_map])]
  rfl
theorem onP_snoc {zs : List P2} {z : P2} {w : Int} : onP (zs ++ [z]) w = onP zs w ++ [(z.1, mn z.2 (w - (takeM (zs.map (·.2)) w).sum))] := by
  unfold onP
  rw [List.map_append, List.map_append, List.map_singleton, List.map_singleton, takeM_snoc, List.zip_append (by rw [takeM_len, List.length_map, List.length_map])]
  rfl
theorem onB_snoc {zs : List P2} {z : P2} {w : Int} : onB (zs ++ [z]) w = onB zs w ++ [(z.1, z.2 - mn z.2 (w - (takeM (zs.map (·.2)) w).sum))] := by
  unfold onB
  rw [List.map_append, List.map_append, List.map_singleton, List.map_singleton, takeM_snoc, List.zipWith_append (by rw [takeM_len]), List.zip_append (by rw [List.length_zipWith, takeM_len, List.length_map, List.length_map]; simp)]
  rfl
theorem neg_snoc (zs : List P2) (z : P2) : neg (zs ++ [z]) = neg zs ++ [(z.1, -z.2)] := by simp [neg]
theorem onB_len (zs : List P2) (w : Int) : (onB zs w).length = zs.length := by
  unfold onB
  rw [List.length_zip, List.length_zipWith, takeM_len, List.length_map, List.length_map]
  simp
theorem offP_len (F : List F3) (ks : List Nat) (w : Int) : (offP F ks w).length = ks.length := by
  unfold offP
  rw [List.length_zip, takeM_len, List.length_map]
  simp
theorem set_mid {α : Type} (z v : α) (r : List α) : ∀ a : List α, (a ++ z :: r).set a.length v = a ++ v :: r
  | [] => rfl
  | x :: a => by
    show (x :: (a ++ z :: r)).set (a.length + 1) v = x :: (a ++ v :: r)
    rw [List.set_cons_succ, set_mid z v r a]
theorem set_reverse {α : Type} (X : List α) (i : Nat) (v : α) (h : i < X.length) : X.reverse.set (X.length - 1 - i) v = (X.set i v).reverse := by
  refine List.ext_getElem? fun j => ?_
  by_cases hj : j < X.length
  · rw [List.getElem?_reverse (by simpa using hj), List.length_set, List.getElem?_set, List.getElem?_set, List.length_reverse, List.getElem?_reverse hj]
    by_cases e : X.length - 1 - i = j
    · rw [if_pos e, if_pos (by omega), if_pos (by omega), if_pos h]
    · rw [if_neg e, if_neg (by omega)]
  · rw [List.getElem?_eq_none (by simpa using hj), List.getElem?_eq_none (by simpa using hj)]
theorem on_state {R : List P2} {i : Nat} {z : P2} (h : R[i]? = some z) (am : Int) : onB (R.take (i + 1)) am ++ R.drop (i + 1) = (onB (R.take i) am ++ R.drop i).set i (z.1, z.2 - mn z.2 (am - (takeM ((R.take i).map (·.2)) am).sum)) := by
  obtain ⟨hi, e⟩ := List.getElem?_eq_some_iff.mp h
  have e1 : R.drop i = z :: R.drop (i + 1) := by rw [List.drop_eq_getElem_cons hi, e]
  have e2 : (onB (R.take i) am).length = i := by rw [onB_len, List.length_take]; omega
  rw [e1, take_snoc h, onB_snoc]
  have := set_mid z (z.1, z.2 - mn z.2 (am - (takeM ((R.take i).map (·.2)) am).sum)) (R.drop (i + 1)) (onB (R.take i) am)
  rw [e2] at this
  rw [this]
  simp
/-! ### promises -/
def spThere : Sp := fun vs H Q _ => ∃ (la : Addr) (A : List Addr) (F : List F3) (w : Str), vs = [.ref la, .str w] ∧ TabAt lrow H la A F ∧ F.length ≤ 300 ∧ ∀ H', Same H H' → Q (.int (hereB F w)) H'
def spOff : Sp := fun vs H Q _ => ∃ (la sp : Addr) (A : List Addr) (F : List F3) (ks : List Nat) (am : Int), vs = [.ref la, .ref sp, .int am] ∧ TabAt lrow H la A F ∧ H sp = some (.lst (ks.map fun k : Nat => V.int (k : Int))) ∧ ks.Nodup ∧ (∀ k ∈ ks, k < F.length) ∧ ks.length ≤ 300 ∧
  ∀ (pa : Addr) (PA : List Addr) (H' : Hp), TabAt lrow H' la A (addAll F (neg (offP F ks am))) → TabAt prow H' pa PA (offP F ks am) → H pa = none → (∀ p ∈ PA, H p = none) → (∀ c o, H c = some o → c ∉ A → H' c = some o) → Q (.ref pa) H'
def spOn : Sp := fun vs H Q _ => ∃ (la pa : Addr) (A PA : List Addr) (F : List F3) (Z : List P2) (am : Int), vs = [.ref la, .ref pa, .int am] ∧ TabAt lrow H la A F ∧ TabAt prow H pa PA Z ∧ (∀ z ∈ Z, z.1 < F.length) ∧ Z.length ≤ 300 ∧
  ∀ (H' : Hp), TabAt lrow H' la A (addAll F (onP Z.reverse am)) → TabAt prow H' pa PA (onB Z.reverse am).reverse → (∀ c o, H c = some o → c ∉ A → c ∉ PA → H' c = some o) → Q .non H'
/-! ### the whole book -/
structure BkSt (H0 H : Hp) (la oa : Addr) (k : Bk) (A xs : List Addr) (Ow : Addr → Option Nat) : Prop where
  s : Same H0 H
  bk : TabAt lrow H la A k.F
  o : H oa = some (.lst (xs.map V.ref))
  xn : xs.length = k.O.length
  u : ∀ (i : Nat) (pa : Addr) (Z : List P2), xs[i]? = some pa → k.O[i]? = some Z → ∃ PA, TabAt prow H pa PA Z ∧ ∀ p ∈ PA, Ow p = some i
  ne : la ≠ oa
  xl : ∀ pa ∈ xs, pa ≠ la ∧ pa ≠ oa
  fl : H0 la = none
  fo : H0 oa = none
  fA : ∀ a ∈ A, H0 a = none
  fP : ∀ p i, Ow p = some i → H0 p = none
  oc : ∀ p i, Ow p = some i → H p ≠ none
def BkEx (H0 H : Hp) (la oa : Addr) (k : Bk) : Prop := ∃ A xs Ow, BkSt H0 H la oa k A xs Ow
structure BkSmall (k : Bk) (n : Nat) : Prop where
  f : k.F.length ≤ n
  o : k.O.length ≤ n
  z : ∀ Z ∈ k.O, Z.length ≤ n
theorem spots_len (F : List F3) (w : Str) : (spots F w).length ≤ F.length := by
  have := List.length_filter_le (fun k => decide (wf F k = some w)) (List.range F.length)
  rw [List.length_range] at this
  exact this
theorem bk_small {k : Bk} {n : Nat} (s : BkSmall k n) (dd : Deed) : BkSmall (bookStep k dd) (n + 1) := by
  have mono : BkSmall k (n + 1) := ⟨Nat.le_succ_of_le s.f, Nat.le_succ_of_le s.o, fun Z hZ => Nat.le_succ_of_le (s.z Z hZ)⟩
  have hf := s.f
  have ho := s.o
  cases dd with
  | come w am pr => exact ⟨by show (k.F ++ [_]).length ≤ n + 1; simp; omega, mono.o, mono.z⟩
  | use w am =>
    show BkSmall (if am ≤ hereB k.F w then _ else k) (n + 1)
    split
    · refine ⟨by rw [addAll_len]; exact mono.f, by simp; omega, fun Z hZ => ?_⟩
      rcases List.mem_append.mp hZ with hZ | hZ
      · exact mono.z Z hZ
      · have : Z = offP k.F (spots k.F w) am := by simpa using hZ
        subst this
        rw [offP_len]
        have := spots_len k.F w
        omega
    · exact mono
  | back m am =>
    show BkSmall (if 0 ≤ m then _ else k) (n + 1)
    split
    · cases hO : k.O[m.toNat]? with
      | none => exact mono
      | some Z =>
        show BkSmall (if am ≤ (Z.map (·.2)).sum then _ else k) (n + 1)
        split
        · refine ⟨by rw [addAll_len]; exact mono.f, by simp; omega, fun Z' hZ => ?_⟩
          rcases List.mem_or_eq_of_mem_set hZ with hZ | hZ
          · exact mono.z Z' hZ
          · subst hZ
            rw [List.length_reverse, onB_len, List.length_reverse]
            exact mono.z Z (List.mem_of_getElem? hO)
        · exact mono
    · exact mono
  | count w f =>
    show BkSmall (if f < hereB k.F w then _ else if hereB k.F w < f then _ else k) (n + 1)
    split
    · exact ⟨by rw [addAll_len]; exact mono.f, mono.o, mono.z⟩
    · split
      · exact ⟨by show (k.F ++ [_]).length ≤ n + 1; simp; omega, mono.o, mono.z⟩
      · exact mono
def spBooked : Sp := fun vs H Q _ => ∃ (H0 : Hp) (la oa x : Addr) (k : Bk) (dd : Deed), vs = [.ref la, .ref oa, .ref x] ∧ H0 x = some (.tup (deedVs dd)) ∧ BkEx H0 H la oa k ∧ BkSmall k 300 ∧ (∀ Z ∈ k.O, ∀ z ∈ Z, z.1 < k.F.length) ∧
  ∀ H', BkEx H0 H' la oa (bookStep k dd) → Q .non H'
section
variable {H0 H H' : Hp} {la oa : Addr} {k : Bk} {A xs : List Addr} {Ow : Addr → Option Nat}
theorem BkSt.same (B : BkSt H0 H la oa k A xs Ow) (s : Same H H') : BkSt H0 H' la oa k A xs Ow :=
  ⟨B.s.trans s, B.bk.same s, s _ _ B.o, B.xn, fun i pa Z h1 h2 => let ⟨PA, h3, h4⟩ := B.u i pa Z h1 h2; ⟨PA, h3.same s, h4⟩, B.ne, B.xl, B.fl, B.fo, B.fA, B.fP, fun p i e z => B.oc p i e (s.free z)⟩
theorem BkSt.fresh (B : BkSt H0 H la oa k A xs Ow) {c : Addr} (h : H c = none) : H0 c = none := B.s.free h
theorem BkSt.push (B : BkSt H0 H la oa k A xs Ow) {p : Addr} (hp : H p = none) (f : F3) : BkSt H0 (upd (upd H p (lrow f)) la (.lst (A.map V.ref ++ [.ref p]))) la oa ⟨k.F ++ [f], k.O⟩ (A ++ [p]) xs Ow := by
  have bu := B.bk.push_but (o := lrow f) (ys := A.map V.ref ++ [.ref p]) hp
  refine ⟨fun c o e => bu c o (B.s c o e) (ne_of_none e B.fl), B.bk.push row_l hp f, bu _ _ B.o B.ne.symm, B.xn, fun i pa Z h1 h2 => ?_, B.ne, B.xl, B.fl, B.fo, fun a ha => ?_, B.fP, fun q i e z => ?_⟩
  · obtain ⟨PA, h3, h4⟩ := B.u i pa Z h1 h2
    refine ⟨PA, h3.keep (fun o h => bu _ _ h (B.xl pa (List.mem_of_getElem? h1)).1) fun c hc o h => bu _ _ h fun z => ?_, h4⟩
    exact h3.not_l row_p B.bk.l (z ▸ hc)
  · rcases List.mem_append.mp ha with ha | ha
    · exact B.fA a ha
    · have : a = p := by simpa using ha
      subst this
      exact B.fresh hp
  · cases e2 : H q with
    | none => exact B.oc q i e e2
    | some o =>
      by_cases hq : q = la
      · rw [hq, upd_same] at z; cases z
      · rw [bu q o e2 hq] at z; cases z
theorem BkSt.off (B : BkSt H0 H la oa k A xs Ow) {F' : List F3} (hT : TabAt lrow H' la A F') (fr : ∀ c o, H c = some o → c ∉ A → H' c = some o) : BkSt H0 H' la oa ⟨F', k.O⟩ A xs Ow := by
  refine ⟨fun c o e => fr c o (B.s c o e) fun hm => ?_, hT, fr _ _ B.o (B.bk.not_l row_l B.o), B.xn, fun i pa Z h1 h2 => ?_, B.ne, B.xl, B.fl, B.fo, B.fA, B.fP, fun q i e z => ?_⟩
  · rw [B.fA c hm] at e; cases e
  rotate_left
  · cases e2 : H q with
    | none => exact B.oc q i e e2
    | some o =>
      by_cases hq : q ∈ A
      · obtain ⟨f, e3⟩ := hT.of hq
        rw [z] at e3; cases e3
      · rw [fr q o e2 hq] at z; cases z
  · obtain ⟨PA, h3, h4⟩ := B.u i pa Z h1 h2
    refine ⟨PA, h3.keep (fun o h => fr _ _ h (B.bk.not_l row_l h3.l)) fun c hc o h => fr _ _ h fun hm => ?_, h4⟩
    obtain ⟨z, e1⟩ := h3.of hc
    obtain ⟨f, e2⟩ := B.bk.of hm
    rw [e1] at e2; cases e2
theorem BkSt.out (B : BkSt H0 H la oa k A xs Ow) {pa : Addr} {PA : List Addr} {Z : List P2} (hP : TabAt prow H pa PA Z) (hpl : pa ≠ la) (hpo : pa ≠ oa) (hf : ∀ p ∈ PA, H0 p = none ∧ Ow p = none) :
    BkSt H0 (upd H oa (.lst (xs.map V.ref ++ [.ref pa]))) la oa ⟨k.F, k.O ++ [Z]⟩ A (xs ++ [pa]) (fun c => if c ∈ PA then some k.O.length else Ow c) := by
  have bu : ∀ c o, H c = some o → c ≠ oa → (upd H oa (.lst (xs.map V.ref ++ [.ref pa]))) c = some o := fun c o e h => by rw [upd_ne h]; exact e
  have keepP : ∀ {pb : Addr} {PB : List Addr} {Y : List P2}, TabAt prow H pb PB Y → pb ≠ oa → TabAt prow (upd H oa (.lst (xs.map V.ref ++ [.ref pa]))) pb PB Y := fun h hn => h.keep (fun o e => bu _ _ e hn) fun c hc o e => bu _ _ e fun z => h.not_l row_p B.o (z ▸ hc)
  refine ⟨fun c o e => bu c o (B.s c o e) (ne_of_none e B.fo), B.bk.keep (fun o h => bu _ _ h B.ne) (fun c hc o h => bu _ _ h fun z => B.bk.not_l row_l B.o (z ▸ hc)), by rw [upd_same]; simp, by simp [B.xn], fun i pb Y h1 h2 => ?_, B.ne, fun pb hb => ?_, B.fl, B.fo, B.fA, fun p i e => ?_, fun q i e z => ?_⟩
  · have h2 : (k.O ++ [Z])[i]? = some Y := h2
    by_cases hi : i < xs.length
    · rw [List.getElem?_append_left hi] at h1
      rw [List.getElem?_append_left (by rw [← B.xn]; exact hi)] at h2
      obtain ⟨PB, h3, h4⟩ := B.u i pb Y h1 h2
      refine ⟨PB, keepP h3 (B.xl pb (List.mem_of_getElem? h1)).2, fun p hp => ?_⟩
      show (if p ∈ PA then _ else _) = _
      rw [if_neg (fun hm => ?_)]
      · exact h4 p hp
      · have := (hf p hm).2
        rw [h4 p hp] at this; cases this
    · have hi2 : i = xs.length := by
        have := (List.getElem?_eq_some_iff.mp h1).1
        simp at this
        omega
      subst hi2
      have e1 : pa = pb := by simpa using h1
      have e2 : Z = Y := by rw [B.xn] at h2; simpa using h2
      subst e1
      subst e2
      refine ⟨PA, keepP hP hpo, fun p hp => ?_⟩
      show (if p ∈ PA then _ else _) = _
      rw [if_pos hp, B.xn]
  · rcases List.mem_append.mp hb with hb | hb
    · exact B.xl pb hb
    · have : pb = pa := by simpa using hb
      subst this
      exact ⟨hpl, hpo⟩
  · by_cases hm : p ∈ PA
    · exact (hf p hm).1
    · rw [if_neg hm] at e; exact B.fP p i e
  · have hq : H q ≠ none := by
      by_cases hm : q ∈ PA
      · obtain ⟨y, e3⟩ := hP.of hm
        rw [e3]; intro y; cases y
      · rw [if_neg hm] at e; exact B.oc q i e
    cases e2 : H q with
    | none => exact hq e2
    | some o =>
      by_cases hqo : q = oa
      · rw [hqo, upd_same] at z; cases z
      · rw [bu q o e2 hqo] at z; cases z
theorem BkSt.on (B : BkSt H0 H la oa k A xs Ow) {i : Nat} {pa : Addr} {PA : List Addr} {Z Z' : List P2} {F' : List F3} (hx : xs[i]? = some pa) (hZ : k.O[i]? = some Z) (hP : TabAt prow H pa PA Z) (hOw : ∀ p ∈ PA, Ow p = some i)
    (hT : TabAt lrow H' la A F') (hP' : TabAt prow H' pa PA Z') (fr : ∀ c o, H c = some o → c ∉ A → c ∉ PA → H' c = some o) : BkSt H0 H' la oa ⟨F', k.O.set i Z'⟩ A xs Ow := by
  refine ⟨fun c o e => fr c o (B.s c o e) (fun hm => ?_) (fun hm => ?_), hT, fr _ _ B.o (B.bk.not_l row_l B.o) (hP.not_l row_p B.o), by simp [B.xn], fun j pb Y h1 h2 => ?_, B.ne, B.xl, B.fl, B.fo, B.fA, B.fP, fun q j e z => ?_⟩
  · rw [B.fA c hm] at e; cases e
  · rw [B.fP c i (hOw c hm)] at e; cases e
  rotate_left
  · cases e2 : H q with
    | none => exact B.oc q j e e2
    | some o =>
      by_cases hq : q ∈ A
      · obtain ⟨f, e3⟩ := hT.of hq
        rw [z] at e3; cases e3
      · by_cases hq2 : q ∈ PA
        · obtain ⟨f, e3⟩ := hP'.of hq2
          rw [z] at e3; cases e3
        · rw [fr q o e2 hq hq2] at z; cases z
  · have h2 : (k.O.set i Z')[j]? = some Y := h2
    by_cases e : i = j
    · subst e
      rw [List.getElem?_set_self (List.getElem?_eq_some_iff.mp hZ).1] at h2
      cases h2
      rw [hx] at h1
      cases h1
      exact ⟨PA, hP', hOw⟩
    · rw [List.getElem?_set_ne e] at h2
      obtain ⟨PB, h3, h4⟩ := B.u j pb Y h1 h2
      refine ⟨PB, h3.keep (fun o h => fr _ _ h (B.bk.not_l row_l h3.l) (hP.not_l row_p h3.l)) fun c hc o h => fr _ _ h (fun hm => ?_) fun hm => ?_, h4⟩
      · obtain ⟨z, e1⟩ := h3.of hc
        obtain ⟨f, e2⟩ := B.bk.of hm
        rw [e1] at e2; cases e2
      · have e1 := hOw c hm
        rw [h4 c hc] at e1
        exact e (Option.some.inj e1).symm
theorem bk_empty {H0 : Hp} (hla : H0 la = none) (h1 : (upd H0 la (.lst [])) oa = none) : BkEx H0 (upd (upd H0 la (.lst [])) oa (.lst [])) la oa ⟨[], []⟩ := by
  have hne : la ≠ oa := fun e => by rw [e, upd_same] at h1; cases h1
  have s1 := same_new (o := HO.lst []) hla
  have s2 := same_new (o := HO.lst []) h1
  exact ⟨[], [], fun _ => none, s1.trans s2, tab_empty (s2 _ _ upd_same), upd_same, rfl, fun i pa Z h => by simp at h, hne, fun pa h => by simp at h, hla, s1.free h1, fun a h => by simp at h, fun p i e => (by cases e), fun p i e => by cases e⟩
end
theorem book_lt {W : List Str} {b : Bst} {k : Bk} (R : BookRel W b k) : ∀ Z ∈ k.O, ∀ z ∈ Z, z.1 < k.F.length := fun Z hZ z hz => by
  obtain ⟨i, hi, e⟩ := List.getElem_of_mem hZ
  have h1 : k.O[i]? = some Z := by rw [List.getElem?_eq_getElem hi, e]
  have h2 : b.U[i]? = some (b.U[i]'(by rw [← R.ul]; exact hi)) := List.getElem?_eq_getElem _
  exact wf_lt ((R.u i _ Z h2 h1).2 z hz)
theorem s_uo : ¬ (("use" : Str) = "count") := fun z => s_ou z.symm
theorem s_uc : ¬ (("use" : Str) = "come") := fun z => s_cu z.symm
theorem s_bc : ¬ (("back" : Str) = "come") := fun z => s_cb z.symm
theorem last_price (F : List F3) (w : Str) : atI (V.int 0 :: (spots F w).map fun k => V.int (pf F k)) (-1) = some (.int (lastP F w)) := by
  unfold lastP newestPrice rowsOf
  rcases List.eq_nil_or_concat (spots F w) with h | ⟨ys, y, h⟩
  · rw [h]
    exact atI_last [] (V.int 0)
  · have h : spots F w = ys ++ [y] := by simpa using h
    rw [h, List.map_append, List.map_append, List.map_singleton, List.map_singleton, List.getLast?_concat]
    exact atI_last (V.int 0 :: ys.map fun k => V.int (pf F k)) (V.int (pf F y))
end Bl
-- Sum5
set_option Elab.async false
set_option linter.all false
set_option maxRecDepth 100000
set_option maxHeartbeats 4000000
/-! Sums over all wares; how large a number may grow. -/
namespace Bl
open PySem L2 Bm
def LNd (b : Bst) : Prop := (b.L.map (·.1)).Nodup
theorem any_iff {L : WL} {w : Str} : (L.any fun p => decide (p.1 = w)) = true ↔ w ∈ L.map (·.1) := by
  rw [List.any_eq_true, List.mem_map]
  exact ⟨fun ⟨p, hp, e⟩ => ⟨p, hp, of_decide_eq_true e⟩, fun ⟨p, hp, e⟩ => ⟨p, hp, decide_eq_true e⟩⟩
theorem putW_keys (L : WL) (w : Str) (ts : List T3) : (putW L w ts).map (·.1) = if w ∈ L.map (·.1) then L.map (·.1) else L.map (·.1) ++ [w] := by
  unfold putW
  by_cases h : (L.any fun p => decide (p.1 = w)) = true
  · rw [if_pos h, if_pos (any_iff.mp h), List.map_map]
    refine List.map_congr_left fun p _ => ?_
    simp only [Function.comp]
    split <;> rfl
  · rw [if_neg h, if_neg (fun z => h (any_iff.mpr z))]
    simp
theorem putW_nd {L : WL} {w : Str} {ts : List T3} (h : (L.map (·.1)).Nodup) : ((putW L w ts).map (·.1)).Nodup := by
  rw [putW_keys]
  split
  · exact h
  · rename_i hn
    refine List.nodup_append.mpr ⟨h, by simp, fun a ha b hb e => ?_⟩
    have : b = w := by simpa using hb
    exact hn (this ▸ e ▸ ha)
theorem lnd_step {b : Bst} (h : LNd b) (dd : Deed) : LNd (step b dd).1 := by
  cases dd with
  | come w am pr => exact putW_nd h
  | use w am =>
    show LNd (useB b w am).1
    unfold useB
    split
    · exact h
    · exact putW_nd h
  | back k am =>
    show LNd (backB b k am).1
    unfold backB
    split
    · cases b.U[k.toNat]? with
      | none => exact h
      | some q =>
        obtain ⟨w, out⟩ := q
        show LNd (if held out < am then (b, Ans.no) else _).1
        split
        · exact h
        · exact putW_nd h
    · exact h
  | count w f =>
    show LNd (countB b w f).1
    unfold countB
    split
    · exact putW_nd h
    · split
      · exact putW_nd h
      · exact h
theorem lnd_lots : ∀ {L : WL} {p : Str × List T3}, (L.map (·.1)).Nodup → p ∈ L → lotsW L p.1 = p.2
  | [], _, _, h => by simp at h
  | q :: r, p, nd, h => by
    obtain ⟨h1, h2⟩ := List.nodup_cons.mp (show (q.1 :: r.map (·.1)).Nodup from nd)
    rw [lotsW_cons]
    rcases List.mem_cons.mp h with rfl | h
    · rw [if_pos rfl]
    · have hne : ¬ q.1 = p.1 := fun e => h1 (by rw [e]; exact List.mem_map.mpr ⟨p, h, rfl⟩)
      rw [if_neg hne]
      exact lnd_lots h2 h
/-! ### by wares, and all in one -/
def sumG (g : Int → Int → Int) (ts : List T3) : Int := (ts.map fun t => g t.2.1 t.2.2).sum
/-! ### bounds -/
structure BB (b : Bst) (B S : Int) : Prop where
  l : ∀ w, ∀ t ∈ lotsW b.L w, t.2.1 ≤ B ∧ 0 ≤ t.2.2 ∧ t.2.2 ≤ S
  u : ∀ q ∈ b.U, ∀ t ∈ q.2, t.2.1 ≤ B
theorem bb_put {b : Bst} {B B' S : Int} (h : BB b B S) (hB : B ≤ B') {v : Str} {ts : List T3} {n : Nat} {U : WL} (hts : ∀ t ∈ ts, t.2.1 ≤ B' ∧ 0 ≤ t.2.2 ∧ t.2.2 ≤ S) (hU : ∀ q ∈ U, ∀ t ∈ q.2, t.2.1 ≤ B') : BB ⟨putW b.L v ts, n, U⟩ B' S := by
  refine ⟨fun w t ht => ?_, hU⟩
  have ht : t ∈ lotsW (putW b.L v ts) w := ht
  rw [lotsW_put] at ht
  split at ht
  · exact hts t ht
  · obtain ⟨h1, h2⟩ := h.l w t ht
    exact ⟨by omega, h2⟩
theorem takeB_bound : ∀ {ts : List T3} {w : Int} {P : T3 → Prop}, NN ts → 0 ≤ w → (∀ t ∈ ts, ∀ y, y ≤ t.2.1 → P (t.1, y, t.2.2)) → ∀ t ∈ takeB ts w, P t
  | [], _, _, _, _, _ => fun t ht => by simp [takeB] at ht
  | u :: r, w, P, hn, hw, h => fun t ht => by
    have hm := mn_nn (hn u List.mem_cons_self) hw
    have hm2 := mn_le_w u.2.1 w
    rcases List.mem_cons.mp ht with rfl | ht
    · exact h u List.mem_cons_self _ (by show u.2.1 - mn u.2.1 w ≤ u.2.1; omega)
    · exact takeB_bound (fun y hy => hn y (List.mem_cons_of_mem _ hy)) (by omega) (fun y hy => h y (List.mem_cons_of_mem _ hy)) t ht
theorem takeP_bound {B : Int} : ∀ {ts : List T3} {w : Int}, (∀ t ∈ ts, t.2.1 ≤ B) → ∀ t ∈ takeP ts w, t.2.1 ≤ B
  | [], _, _ => fun t ht => by simp [takeP] at ht
  | u :: r, w, h => fun t ht => by
    simp only [takeP] at ht
    have hr : ∀ t ∈ r, t.2.1 ≤ B := fun y hy => h y (List.mem_cons_of_mem _ hy)
    split at ht
    · rcases List.mem_cons.mp ht with rfl | ht
      · have := mn_le_l u.2.1 w
        have := h u List.mem_cons_self
        show mn u.2.1 w ≤ B
        omega
      · exact takeP_bound hr t ht
    · exact takeP_bound hr t ht
theorem addUp_bound {B : Int} (hB : 0 ≤ B) : ∀ {ps : List T3} {n : Int}, (keys ps).Nodup → (∀ p ∈ ps, p.2.1 ≤ B) → addUp ps n ≤ B
  | [], _, _, _ => hB
  | p :: r, n, nd, h => by
    obtain ⟨h1, h2⟩ := List.nodup_cons.mp (show (p.1 :: keys r).Nodup from nd)
    rw [addUp_cons]
    by_cases e : p.1 = n
    · have : addUp r n = 0 := by
        unfold addUp
        have : r.filter (fun q => decide (q.1 = n)) = [] := List.filter_eq_nil_iff.mpr fun q hq z => h1 (by rw [e, ← of_decide_eq_true z]; exact List.mem_map.mpr ⟨q, hq, rfl⟩)
        rw [this]
        rfl
      rw [if_pos e, this, Int.add_zero]
      exact h p List.mem_cons_self
    · rw [if_neg e, Int.zero_add]
      exact addUp_bound hB h2 fun q hq => h q (List.mem_cons_of_mem _ hq)
theorem downP_keys_nd {ts : List T3} {w : Int} (h : (keys ts).Nodup) : (keys (downP ts w)).Nodup := by
  have h2 : (keys ts.reverse).Nodup := by rw [keys_reverse]; exact nodup_reverse h
  exact List.Pairwise.sublist (takeP_sub ts.reverse w) h2
theorem newest_bound {ts : List T3} {S : Int} (hS : 0 ≤ S) (h : ∀ t ∈ ts, 0 ≤ t.2.2 ∧ t.2.2 ≤ S) : 0 ≤ newestPrice ts ∧ newestPrice ts ≤ S := by
  unfold newestPrice
  cases e : ts.getLast? with
  | none => exact ⟨Int.le_refl _, hS⟩
  | some t => exact h t (List.mem_of_getLast? e)
theorem bb_step {W : List Str} {b : Bst} {B S : Int} {dd : Deed} (I : BInv W b) (hS : 0 ≤ S) (hB : S ≤ B) (h : BB b B S) (hd : DOk W S dd) : BB (step b dd).1 (2 * B) S := by
  have mono : BB b (2 * B) S := ⟨fun w t ht => ⟨by have := (h.l w t ht).1; omega, (h.l w t ht).2⟩, fun q hq t ht => by have := h.u q hq t ht; omega⟩
  cases dd with
  | come w am pr =>
    obtain ⟨_, h1, h2, h3, h4⟩ := hd
    refine bb_put h (by omega) (fun t ht => ?_) mono.u
    rcases List.mem_append.mp ht with ht | ht
    · exact mono.l w t ht
    · have : t = ((b.n : Int), am, pr) := by simpa using ht
      subst this
      exact ⟨by show am ≤ 2 * B; omega, h3, h4⟩
  | use w am =>
    have ham : 1 ≤ am := hd.2
    show BB (useB b w am).1 (2 * B) S
    unfold useB
    split
    · exact mono
    · refine bb_put h (by omega) (takeB_bound (I.nn w) (by omega) fun t ht y hy => ⟨by have := (mono.l w t ht).1; show y ≤ 2 * B; omega, (mono.l w t ht).2⟩) fun q hq => ?_
      rcases List.mem_append.mp hq with hq | hq
      · exact mono.u q hq
      · have : q = (w, takeP (lotsW b.L w) am) := by simpa using hq
        subst this
        exact takeP_bound fun t ht => (mono.l w t ht).1
  | back k am =>
    have ham : 1 ≤ am := hd
    show BB (backB b k am).1 (2 * B) S
    unfold backB
    split
    · cases hU : b.U[k.toNat]? with
      | none => exact mono
      | some q =>
        obtain ⟨w, out⟩ := q
        show BB (if held out < am then (b, Ans.no) else ((⟨putW b.L w (backM (lotsW b.L w) (downP out am)), b.n, b.U.set k.toNat (w, downB out am)⟩ : Bst), Ans.parts (downP out am))).1 (2 * B) S
        split
        · exact mono
        · obtain ⟨i1, i2, i3, i4⟩ := I.u _ (List.mem_of_getElem? hU)
          have i2 : Bm.Ord true out := i2
          have i3 : NN out := i3
          have hob : ∀ t ∈ out, t.2.1 ≤ B := h.u _ (List.mem_of_getElem? hU)
          refine bb_put h (by omega) (fun t ht => ?_) fun q hq => ?_
          · obtain ⟨y, hy, rfl⟩ := List.mem_map.mp ht
            obtain ⟨h1, h2⟩ := h.l w y hy
            have h3 : addUp (downP out am) y.1 ≤ B := addUp_bound (by omega) (downP_keys_nd i2.nodup) (takeP_bound fun t ht => hob t (List.mem_reverse.mp ht))
            exact ⟨by show y.2.1 + addUp (downP out am) y.1 ≤ 2 * B; omega, h2⟩
          · rcases List.mem_or_eq_of_mem_set hq with hq | hq
            · exact mono.u q hq
            · subst hq
              intro t ht
              have ht : t ∈ (takeB out.reverse am).reverse := ht
              exact takeB_bound (P := fun t => t.2.1 ≤ 2 * B) i3.reverse (by omega) (fun t ht y hy => by have := hob t (List.mem_reverse.mp ht); show y ≤ 2 * B; omega) t (List.mem_reverse.mp ht)
    · exact mono
  | count w f =>
    obtain ⟨_, h1, h2⟩ := hd
    have hnn := held_nn (I.nn w)
    show BB (countB b w f).1 (2 * B) S
    unfold countB
    split
    · refine bb_put h (by omega) (fun t ht => ?_) mono.u
      have ht : t ∈ (takeB (lotsW b.L w).reverse (held (lotsW b.L w) - f)).reverse := ht
      exact takeB_bound (P := fun t => t.2.1 ≤ 2 * B ∧ 0 ≤ t.2.2 ∧ t.2.2 ≤ S) (I.nn w).reverse (by omega) (fun t ht y hy => ⟨by have := (mono.l w t (List.mem_reverse.mp ht)).1; show y ≤ 2 * B; omega, (mono.l w t (List.mem_reverse.mp ht)).2⟩) t (List.mem_reverse.mp ht)
    · split
      · refine bb_put h (by omega) (fun t ht => ?_) mono.u
        rcases List.mem_append.mp ht with ht | ht
        · exact mono.l w t ht
        · have : t = ((b.n : Int), f - held (lotsW b.L w), newestPrice (lotsW b.L w)) := by simpa using ht
          subst this
          exact ⟨by show f - held (lotsW b.L w) ≤ 2 * B; omega, newest_bound hS fun t ht => (h.l w t ht).2⟩
      · exact mono
structure DayInv (W : List Str) (i : Nat) (b : Bst) (k : Bk) : Prop where
  I : BInv W b
  R : BookRel W b k
  nd : LNd b
  bb : BB b (cap 64 * 2 ^ i) (cap 64)
  sm : Small b i
  bs : BkSmall k i
theorem pow2_pos (i : Nat) : (1 : Int) ≤ 2 ^ i := by
  induction i with
  | zero => decide
  | succ i ih => rw [Int.pow_succ]; omega
theorem day_b0 {W : List Str} : DayInv W 0 b0 ⟨[], []⟩ := ⟨binv_b0, book_b0, List.nodup_nil, ⟨fun w t ht => by simp [b0, lotsW] at ht, fun q hq => by simp [b0] at hq⟩, small_b0, ⟨Nat.le_refl _, Nat.le_refl _, fun Z hZ => by simp at hZ⟩⟩
theorem day_step {W : List Str} {i : Nat} {b : Bst} {k : Bk} {dd : Deed} (nd : W.Nodup) (D : DayInv W i b k) (h : DOk W (cap 64) dd) : DayInv W (i + 1) (step b dd).1 (bookStep k dd) := by
  have hc := cap_nn 64
  have hp := pow2_pos i
  have hB : cap 64 ≤ cap 64 * 2 ^ i := by
    have := Int.mul_le_mul_of_nonneg_left hp hc
    omega
  have hb := bb_step D.I hc hB D.bb h
  have e : 2 * (cap 64 * 2 ^ i) = cap 64 * 2 ^ (i + 1) := by rw [Int.pow_succ, Int.mul_comm 2, Int.mul_assoc]
  rw [e] at hb
  exact ⟨binv_step nd D.I h, book_step D.I D.R h, lnd_step D.nd dd, hb, small_step D.sm dd, bk_small D.bs dd⟩
/-! ### promises -/
def totH (b : Bst) : Int := (b.L.map fun q => held q.2).sum
def totW (b : Bst) : Int := (b.L.map fun q => worthM q.2).sum
def FitB (b : Bst) : Prop := (∀ q ∈ b.L, ∀ t ∈ q.2, IntMulOk t.2.1 t.2.2) ∧ ∀ q ∈ b.L, q.2.length ≤ 300
def spTotals (C : Addr) : Sp := fun vs H Q _ => ∃ (Z : List Addr) (p d u : Addr) (b : Bst), vs = [.ref p] ∧ BarnAt C Z H p d u b ∧ Small b 300 ∧ FitB b ∧
  ∀ (tp : Addr) (H' : Hp), Same H H' → H tp = none → H' tp = some (.tup [.int (totH b), .int (totW b)]) → Q (.ref tp) H'
def TotV (H : Hp) (x : V) (b : Bst) : Prop := ∃ a, x = .ref a ∧ H a = some (.tup [.int (totH b), .int (totW b)])
def daysB (ds : List Deed) (n : Nat) : List Bst := (List.range n).map fun i => stepsB b0 (ds.take (i + 1))
def spSums : Sp := fun vs H Q _ => ∃ (l : Addr) (ds : List Deed), vs = [.ref l] ∧ DeedsAt H l ds ∧ ds.length ≤ 200 ∧ (∀ i, i ≤ ds.length → FitB (stepsB b0 (ds.take i))) ∧
  ∀ (r : Addr) (H' : Hp) (ys : List V), Same H H' → H r = none → H' r = some (.lst ys) → Paired (TotV H') ys (daysB ds ds.length) → Q (.ref r) H'
theorem tris_any {H : Hp} {d q : Addr} {kvs : List (Key × V)} {o : HO} {ts : List T3} (hd : H d = some (.dK kvs)) (h : Tris H q ts) : Tris (upd H d o) q ts := by
  obtain ⟨xs, h1, h2⟩ := h
  have hq : q ≠ d := ne_of h1 hd (by intro z; cases z)
  exact ⟨xs, by rw [upd_ne hq]; exact h1, tris_keep (fun b ys e => by rw [upd_ne (ne_of e hd (by intro z; cases z))]; exact e) h2⟩
theorem same_frz {H H2 : Hp} {d : Addr} {ob : Obj} {kvs : List (Key × V)} (hd : H d = some (.dK kvs)) (s : Same (upd H d (.frz ob (.dK kvs))) H2) : Same H (upd H2 d (.dK kvs)) := fun c o e => by
  by_cases hc : c = d
  · subst hc
    rw [hd] at e
    cases e
    exact upd_same
  · rw [upd_ne hc]
    exact s c o (by rw [upd_ne hc]; exact e)
def spRoom (K : PySem.W.Frag) : Sp := fun vs H Q _ => ∃ (a : Addr) (ns : List Int) (m n : Int), vs = [.ref a, .int m, .int n] ∧ SqL K H a (ns.map V.int) ∧ ns.length ≤ 63 ∧ Q (.int m) H
theorem day_all {W : List Str} (nd : W.Nodup) {ds : List Deed} (h : ∀ dd ∈ ds, DOk W (cap 64) dd) : ∀ i, i ≤ ds.length → ∃ k, DayInv W i (stepsB b0 (ds.take i)) k ∧ k = (ds.take i).foldl bookStep ⟨[], []⟩ := by
  intro i
  induction i with
  | zero => intro _; exact ⟨⟨[], []⟩, day_b0, rfl⟩
  | succ i ih =>
    intro hi
    obtain ⟨k, D, e⟩ := ih (by omega)
    have hdd : ds[i]? = some (ds[i]'(by omega)) := List.getElem?_eq_getElem _
    rw [take_snoc hdd, stepsB_snoc, List.foldl_append, ← e]
    exact ⟨_, day_step nd D (h _ (List.mem_of_getElem? hdd)), rfl⟩
end Bl
-- All6
set_option Elab.async false
set_option linter.all false
set_option maxRecDepth 100000
set_option maxHeartbeats 4000000
/-! All lots in one list, told by their numbers. -/
namespace Bl
open PySem L2 Bm
abbrev L4 := Str × T3
def allL (b : Bst) : List L4 := b.L.flatMap fun q => q.2.map fun t => (q.1, t)
def tellF (F : List F3) : List L4 := (List.range F.length).map fun i => ((wf F i).getD Str.empty, row F i)
theorem tellF_len (F : List F3) : (tellF F).length = F.length := by simp [tellF]
theorem tellF_get {F : List F3} {i : Nat} {f : F3} (h : F[i]? = some f) : (tellF F)[i]? = some (f.1, ((i : Int), f.2.1, f.2.2)) := by
  have hi : i < F.length := (List.getElem?_eq_some_iff.mp h).1
  unfold tellF
  rw [List.getElem?_map, List.getElem?_range hi]
  show some ((wf F i).getD Str.empty, row F i) = _
  unfold wf row lf pf
  rw [h]
  rfl
theorem tellF_mem {F : List F3} {x : L4} : x ∈ tellF F ↔ ∃ i, i < F.length ∧ wf F i = some x.1 ∧ row F i = x.2 := by
  constructor
  · intro h
    obtain ⟨i, hi, rfl⟩ := List.mem_map.mp h
    have hi := List.mem_range.mp hi
    refine ⟨i, hi, ?_, rfl⟩
    show wf F i = some ((wf F i).getD Str.empty)
    unfold wf
    rw [List.getElem?_eq_getElem hi]
    rfl
  · rintro ⟨i, hi, h1, h2⟩
    refine List.mem_map.mpr ⟨i, List.mem_range.mpr hi, ?_⟩
    show ((wf F i).getD Str.empty, row F i) = x
    rw [h1, h2]
    rfl
theorem tellF_sorted (F : List F3) : (tellF F).Pairwise fun a b => a.2.1 < b.2.1 := by
  unfold tellF
  rw [List.pairwise_map]
  refine List.pairwise_lt_range.imp fun {a b} h => ?_
  show (a : Int) < (b : Int)
  omega
theorem allL_mem {b : Bst} {F : List F3} (R : ∀ w, lotsW b.L w = rowsOf F w) (nd : LNd b) (x : L4) : x ∈ allL b ↔ x ∈ tellF F := by
  rw [tellF_mem]
  unfold allL
  rw [List.mem_flatMap]
  constructor
  · rintro ⟨q, hq, hx⟩
    obtain ⟨t, ht, rfl⟩ := List.mem_map.mp hx
    have e := lnd_lots nd hq
    rw [R] at e
    rw [← e] at ht
    obtain ⟨i, hi, rfl⟩ := List.mem_map.mp ht
    exact ⟨i, spots_lt hi, spots_wf hi, rfl⟩
  · rintro ⟨i, hi, h1, h2⟩
    have hs : i ∈ spots F x.1 := List.mem_filter.mpr ⟨List.mem_range.mpr hi, decide_eq_true h1⟩
    have hr : row F i ∈ lotsW b.L x.1 := by rw [R]; exact List.mem_map.mpr ⟨i, hs, rfl⟩
    rcases lotsW_mem (L := b.L) (w := x.1) with h | h
    · rw [h] at hr
      simp at hr
    · refine ⟨_, h, List.mem_map.mpr ⟨row F i, hr, ?_⟩⟩
      show (x.1, row F i) = x
      rw [h2]
theorem allL_nd {b : Bst} {F : List F3} (R : ∀ w, lotsW b.L w = rowsOf F w) (nd : LNd b) : (allL b).Nodup := by
  unfold allL
  show List.Pairwise (· ≠ ·) _
  rw [List.pairwise_flatMap]
  refine ⟨fun q hq => ?_, ?_⟩
  · rw [List.pairwise_map]
    have e := lnd_lots nd hq
    rw [R] at e
    rw [← e]
    unfold rowsOf
    rw [List.pairwise_map]
    refine (spots_nd F q.1).imp fun {a c} h z => h ?_
    have z2 : ((a : Int)) = (c : Int) := congrArg (fun x : L4 => x.2.1) z
    omega
  · have h : (b.L.map (·.1)).Pairwise (· ≠ ·) := nd
    rw [List.pairwise_map] at h
    refine h.imp fun {p q} hne x hx y hy e => hne ?_
    obtain ⟨_, _, rfl⟩ := List.mem_map.mp hx
    obtain ⟨_, _, rfl⟩ := List.mem_map.mp hy
    exact (Prod.mk.inj e).1
theorem allL_perm {b : Bst} {F : List F3} (R : ∀ w, lotsW b.L w = rowsOf F w) (nd : LNd b) : (allL b).Perm (tellF F) := by
  refine (List.perm_ext_iff_of_nodup (allL_nd R nd) ?_).mpr fun x => allL_mem R nd x
  exact (tellF_sorted F).imp fun {a b} h e => by rw [e] at h; omega
theorem told_eq {b : Bst} {F : List F3} {ls : List L4} (R : ∀ w, lotsW b.L w = rowsOf F w) (nd : LNd b) (hp : ls.Perm (allL b)) (hs : ls.Pairwise fun a c => a.2.1 ≤ c.2.1) : ls = tellF F := by
  have hp2 := hp.trans (allL_perm R nd)
  refine List.Perm.eq_of_pairwise (le := fun a c : L4 => a.2.1 ≤ c.2.1) (fun x y hx hy h1 h2 => ?_) hs ((tellF_sorted F).imp fun {a c} h => by omega) hp2
  obtain ⟨i, _, i2, i3⟩ := tellF_mem.mp (hp2.mem_iff.mp hx)
  obtain ⟨j, _, j2, j3⟩ := tellF_mem.mp hy
  have e1 : x.2.1 = (i : Int) := by rw [← i3]; rfl
  have e2 : y.2.1 = (j : Int) := by rw [← j3]; rfl
  have e : i = j := by omega
  subst e
  rw [i2] at j2
  rw [i3] at j3
  exact Prod.ext (Option.some.inj j2) j3
theorem allL_len {b : Bst} {F : List F3} (R : ∀ w, lotsW b.L w = rowsOf F w) (nd : LNd b) : (allL b).length = F.length := by rw [(allL_perm R nd).length_eq, tellF_len]
/-! ### in the heap -/
def v4 (l : L4) : List V := [.str l.1, .int l.2.1, .int l.2.2.1, .int l.2.2.2]
def LotAt (H : Hp) (x : V) (l : L4) : Prop := ∃ a, x = .ref a ∧ H a = some (.tup (v4 l))
theorem lot_same {H H' : Hp} (s : ∀ b xs, H b = some (.tup xs) → H' b = some (.tup xs)) {xs : List V} {ls : List L4} (h : Paired (LotAt H) xs ls) : Paired (LotAt H') xs ls := L2.Paired.imp' (fun _ _ ⟨a, e, z⟩ => ⟨a, e, s _ _ z⟩) h
theorem SameT.trans {T : Addr} {H H1 H2 : Hp} (a : SameT T H H1) (b : SameT T H1 H2) : SameT T H H2 := fun c o hc e => b c o hc (a c o hc e)
theorem sameT_of {T : Addr} {H H' : Hp} (s : Same H H') : SameT T H H' := fun c o _ e => s c o e
abbrev LPos : Pos := ⟨93, 32, 93, 50⟩
theorem lots_rows {H : Hp} : ∀ {xs : List V} {ls : List L4}, Paired (LotAt H) xs ls → ∃ rows : List (Addr × Int), xs = rows.map (fun r => V.ref r.1) ∧ Paired (fun r l => H r.1 = some (.tup (v4 l)) ∧ r.2 = l.2.1) rows ls
  | _, _, .nil => ⟨[], rfl, .nil⟩
  | _, _, .cons (b := l) ⟨a, e, h⟩ r => by
    obtain ⟨rows, e1, h1⟩ := lots_rows r
    exact ⟨(a, l.2.1) :: rows, by rw [e, e1]; rfl, .cons ⟨h, rfl⟩ h1⟩
theorem paired_perm {α β : Type} {R : α → β → Prop} {xs ys : List α} (hp : xs.Perm ys) : ∀ {zs : List β}, Paired R ys zs → ∃ ws, Paired R xs ws ∧ ws.Perm zs := by
  induction hp with
  | nil => intro zs h; exact ⟨zs, h, .refl _⟩
  | cons x _ ih =>
    intro zs h
    cases h with
    | cons a b =>
      obtain ⟨ws, h1, h2⟩ := ih b
      exact ⟨_ :: ws, .cons a h1, h2.cons _⟩
  | swap x y l =>
    intro zs h
    cases h with
    | cons a b =>
      cases b with
      | cons c d => exact ⟨_, .cons c (.cons a d), .swap _ _ _⟩
  | trans _ _ ih1 ih2 =>
    intro zs h
    obtain ⟨ws, h1, h2⟩ := ih2 h
    obtain ⟨us, h3, h4⟩ := ih1 h1
    exact ⟨us, h3, h4.trans h2⟩
theorem paired_memR {α β : Type} {R : α → β → Prop} : ∀ {xs : List α} {ys : List β}, Paired R xs ys → ∀ y ∈ ys, ∃ x ∈ xs, R x y
  | _, _, .nil, y, h => by simp at h
  | _, _, .cons a r, y, h => by
    rcases List.mem_cons.mp h with rfl | h
    · exact ⟨_, List.mem_cons_self, a⟩
    · obtain ⟨x, hx, hr⟩ := paired_memR r y h
      exact ⟨x, List.mem_cons_of_mem _ hx, hr⟩
theorem paired_sorted {R : Addr × Int → L4 → Prop} (hR : ∀ r l, R r l → r.2 = l.2.1) : ∀ {xs : List (Addr × Int)} {ls : List L4}, Paired R xs ls → xs.Pairwise (fun a b => a.2 ≤ b.2) → ls.Pairwise fun a c => a.2.1 ≤ c.2.1
  | _, _, .nil, _ => .nil
  | _, _, .cons a b, h => by
    obtain ⟨h1, h2⟩ := List.pairwise_cons.mp h
    refine List.pairwise_cons.mpr ⟨fun l hl => ?_, paired_sorted hR b h2⟩
    obtain ⟨r, hr, hrl⟩ := paired_memR b l hl
    have := h1 r hr
    rw [hR _ _ a, hR _ _ hrl] at this
    exact this
theorem paired_memL {α β : Type} {R : α → β → Prop} : ∀ {xs : List α} {ys : List β}, Paired R xs ys → ∀ x ∈ xs, ∃ y ∈ ys, R x y
  | _, _, .nil, y, h => by simp at h
  | _, _, .cons a r, x, h => by
    rcases List.mem_cons.mp h with rfl | h
    · exact ⟨_, List.mem_cons_self, a⟩
    · obtain ⟨y, hy, hr⟩ := paired_memL r x h
      exact ⟨y, List.mem_cons_of_mem _ hy, hr⟩
theorem paired_app {α β : Type} {R : α → β → Prop} : ∀ {xs : List α} {ys : List β} {xs' : List α} {ys' : List β}, Paired R xs ys → Paired R xs' ys' → Paired R (xs ++ xs') (ys ++ ys')
  | _, _, _, _, .nil, h => h
  | _, _, _, _, .cons a r, h => .cons a (paired_app r h)
theorem lots_of_rows {R : Addr × Int → L4 → Prop} {H : Hp} (hR : ∀ r l, R r l → H r.1 = some (.tup (v4 l))) : ∀ {rows : List (Addr × Int)} {ls : List L4}, Paired R rows ls → Paired (LotAt H) (rows.map fun r => V.ref r.1) ls
  | _, _, .nil => .nil
  | _, _, .cons a r => .cons ⟨_, rfl, hR _ _ a⟩ (lots_of_rows hR r)
theorem lot_push {H : Hp} {r acc : Addr} {ys zs : List V} {ls : List L4} {l : L4} (hr : H r = none) (ha : H acc = some (.lst ys)) (h : Paired (LotAt H) ys ls) : Paired (LotAt (upd (upd H r (.tup (v4 l))) acc (.lst zs))) (ys ++ [.ref r]) (ls ++ [l]) := by
  have hra : r ≠ acc := (ne_of_none ha hr).symm
  refine paired_app (lot_same (fun b xs e => ?_) h) (.cons ⟨r, rfl, by rw [upd_ne hra, upd_same]⟩ .nil)
  rw [upd_ne (ne_of e ha (by intro z; cases z)), upd_ne (ne_of_none e hr)]
  exact e
def tellW (q : Str × List T3) : List L4 := q.2.map fun t => (q.1, t)
theorem allL_take (b : Bst) (i : Nat) : ((b.L.take i).flatMap tellW).length ≤ (allL b).length := by
  have e : allL b = (b.L.take i).flatMap tellW ++ (b.L.drop i).flatMap tellW := by
    rw [← List.flatMap_append, List.take_append_drop]
    rfl
  rw [e, List.length_append]
  omega
theorem SameT.to {T : Addr} {H H' : Hp} {ps : Array Value} (e : SameT T H H') (hT : H T = some (.tbl ps)) {c : Addr} {o : HO} (ho : ∀ ps, o ≠ .tbl ps) (h : H c = some o) : H' c = some o := e c o (fun z => by rw [z, hT] at h; exact ho ps (Option.some.inj h).symm) h
def spAll (C T : Addr) (qual : Str) : Sp := fun vs H Q _ => ∃ (Z : List Addr) (p d u : Addr) (b : Bst), vs = [.ref p] ∧ BarnAt C Z H p d u b ∧ Small b 300 ∧ (allL b).length < 64 ∧ TabOk H T LPos qual ∧
  ∀ (r : Addr) (H' : Hp) (xs : List V) (ls : List L4), SameT T H H' → TabOk H' T LPos qual → H r = none → H' r = some (.lst xs) → Paired (LotAt H') xs ls → ls.Perm (allL b) → (ls.Pairwise fun a c => a.2.1 ≤ c.2.1) → Q (.ref r) H'
def spLots (T : Addr) (qual : Str) : Sp := fun vs H Q _ => ∃ (l : Addr) (ds : List Deed), vs = [.ref l] ∧ DeedsAt H l ds ∧ ds.length ≤ 200 ∧ (allL (stepsB b0 ds)).length < 64 ∧ TabOk H T LPos qual ∧
  ∀ (r : Addr) (H' : Hp) (xs : List V) (ls : List L4), SameT T H H' → TabOk H' T LPos qual → H r = none → H' r = some (.lst xs) → Paired (LotAt H') xs ls → ls.Perm (allL (stepsB b0 ds)) → (ls.Pairwise fun a c => a.2.1 ≤ c.2.1) → Q (.ref r) H'
def spLawT (K : PySem.W.Frag) (T : Addr) : Sp := fun vs H Q _ => ∃ (a : Addr) (ns : List Int), vs = [.ref a] ∧ SqL K H a (ns.map V.int) ∧ ns.length ≤ 63 ∧ (∀ n ∈ ns, Builtin.Int.intBits n ≤ 2 ^ 20) ∧ H T = some (.tbl #[]) ∧ ∀ H', Q (.bl true) H'
theorem room_dp {k : Nat} {A : Around} (r : Room k A) : A.depth < recursionLimit := by have := r.dp; omega
end Bl
-- Back7
set_option Elab.async false
set_option linter.all false
set_option maxRecDepth 100000
set_option maxHeartbeats 4000000
/-! A use, and all of it given back: the lots are as they were. -/
namespace Bl
open PySem L2 Bm
theorem stepsB_app (b : Bst) (xs ys : List Deed) : stepsB b (xs ++ ys) = stepsB (stepsB b xs) ys := by
  induction xs generalizing b with
  | nil => rfl
  | cons x r ih => exact ih _
theorem answersB_app (b : Bst) (xs ys : List Deed) : answersB b (xs ++ ys) = answersB b xs ++ answersB (stepsB b xs) ys := by
  induction xs generalizing b with
  | nil => rfl
  | cons x r ih =>
    show (step b x).2 :: answersB (step b x).1 (r ++ ys) = (step b x).2 :: (answersB (step b x).1 r ++ _)
    rw [ih]
    rfl
theorem addUp_not {ps : List T3} {n : Int} (h : n ∉ keys ps) : addUp ps n = 0 := by
  induction ps with
  | nil => rfl
  | cons p r ih =>
    have h : n ∉ p.1 :: keys r := h
    rw [addUp_cons, if_neg (fun e => h (by rw [e]; exact List.mem_cons_self)), ih fun z => h (List.mem_cons_of_mem _ z)]
    rfl
theorem addUp_append (xs ys : List T3) (n : Int) : addUp (xs ++ ys) n = addUp xs n + addUp ys n := by simp [addUp, List.filter_append]
theorem addUp_reverse (ps : List T3) (n : Int) : addUp ps.reverse n = addUp ps n := by
  induction ps with
  | nil => rfl
  | cons p r ih =>
    rw [List.reverse_cons, addUp_append, ih, addUp_cons, addUp_cons, addUp_nil]
    omega
theorem add_take : ∀ {ts : List T3} {w : Int} (n : Int), NN ts → 0 ≤ w → addUp (takeP ts w) n + addUp (takeB ts w) n = addUp ts n
  | [], _, _, _, _ => rfl
  | t :: r, w, n, hn, hw => by
    have h1 : 0 ≤ mn t.2.1 w := mn_nn (hn t List.mem_cons_self) hw
    have h2 : mn t.2.1 w ≤ w := mn_le_w _ _
    have ih := add_take (ts := r) (w := w - mn t.2.1 w) n (fun u hu => hn u (List.mem_cons_of_mem _ hu)) (by omega)
    simp only [takeP, takeB]
    rw [addUp_cons, addUp_cons]
    split
    · rw [addUp_cons]
      dsimp only
      split <;> omega
    · dsimp only
      split <;> omega
theorem back_take : ∀ {ts : List T3} {w : Int}, (keys ts).Nodup → NN ts → 0 ≤ w → backM (takeB ts w) (takeP ts w) = ts
  | [], _, _, _, _ => rfl
  | t :: r, w, nd, hn, hw => by
    obtain ⟨n1, n2⟩ := List.nodup_cons.mp (show (t.1 :: keys r).Nodup from nd)
    have h1 : 0 ≤ mn t.2.1 w := mn_nn (hn t List.mem_cons_self) hw
    have h2 : mn t.2.1 w ≤ w := mn_le_w _ _
    have ih := back_take (ts := r) (w := w - mn t.2.1 w) n2 (fun u hu => hn u (List.mem_cons_of_mem _ hu)) (by omega)
    have hz : addUp (takeP r (w - mn t.2.1 w)) t.1 = 0 := addUp_not fun z => n1 (takeP_keys _ _ _ z)
    have hz2 : addUp (takeB r (w - mn t.2.1 w)) t.1 = 0 := addUp_not fun z => n1 (by rw [takeB_keys] at z; exact z)
    have hP : ∀ n, addUp (takeP (t :: r) w) n = (if t.1 = n then mn t.2.1 w else 0) + addUp (takeP r (w - mn t.2.1 w)) n := fun n => by
      simp only [takeP]
      split
      · rw [addUp_cons]
      · have : mn t.2.1 w = 0 := by omega
        rw [this]
        split <;> omega
    show backM ((t.1, t.2.1 - mn t.2.1 w, t.2.2) :: takeB r (w - mn t.2.1 w)) (takeP (t :: r) w) = t :: r
    unfold backM
    rw [List.map_cons]
    congr 1
    · show (t.1, t.2.1 - mn t.2.1 w + addUp (takeP (t :: r) w) t.1, t.2.2) = t
      rw [hP, if_pos rfl, hz]
      have : t.2.1 - mn t.2.1 w + (mn t.2.1 w + 0) = t.2.1 := by omega
      rw [this]
    · have e : ∀ u ∈ takeB r (w - mn t.2.1 w), (u.1, u.2.1 + addUp (takeP (t :: r) w) u.1, u.2.2) = (u.1, u.2.1 + addUp (takeP r (w - mn t.2.1 w)) u.1, u.2.2) := fun u hu => by
        have hne : ¬ t.1 = u.1 := fun z => n1 (by
          have hk : u.1 ∈ keys (takeB r (w - mn t.2.1 w)) := List.mem_map.mpr ⟨u, hu, rfl⟩
          rw [takeB_keys] at hk
          rw [z]
          exact hk)
        rw [hP, if_neg hne, Int.zero_add]
      rw [List.map_congr_left e]
      exact ih
theorem backM_two {ts out : List T3} {p : Int} (hn : NN out) (hp : 0 ≤ p) : backM (backM ts (downP out p)) (downB out p) = backM ts out := by
  unfold backM
  rw [List.map_map]
  refine List.map_congr_left fun t _ => ?_
  have h := add_take (ts := out.reverse) (w := p) t.1 hn.reverse hp
  rw [addUp_reverse] at h
  have e1 : addUp (downB out p) t.1 = addUp (takeB out.reverse p) t.1 := by
    show addUp (takeB out.reverse p).reverse t.1 = _
    rw [addUp_reverse]
  show (t.1, t.2.1 + addUp (downP out p) t.1 + addUp (downB out p) t.1, t.2.2) = _
  rw [e1]
  have e2 : addUp (downP out p) t.1 = addUp (takeP out.reverse p) t.1 := rfl
  rw [e2, Int.add_assoc, h]
theorem addUp_zero {out : List T3} (hn : NN out) (h : held out = 0) (n : Int) : addUp out n = 0 := by
  induction out with
  | nil => rfl
  | cons t r ih =>
    have h1 := hn t List.mem_cons_self
    have hr : NN r := fun u hu => hn u (List.mem_cons_of_mem _ hu)
    have h2 := held_nn hr
    rw [held_cons] at h
    rw [addUp_cons, ih hr (by omega)]
    split <;> omega
theorem backM_zero {ts out : List T3} (hn : NN out) (h : held out = 0) : backM ts out = ts := by
  unfold backM
  have e : ∀ t ∈ ts, (t.1, t.2.1 + addUp out t.1, t.2.2) = id t := fun t _ => by
    rw [addUp_zero hn h, Int.add_zero]
    rfl
  rw [List.map_congr_left e, List.map_id]
structure BackSt (b b' : Bst) (w : Str) (left : Int) : Prop where
  o : ∀ v, v ≠ w → lotsW b'.L v = lotsW b.L v
  nd : LNd b'
  u : ∃ out, b'.U[b.U.length]? = some (w, out) ∧ NN out ∧ held out = left ∧ backM (lotsW b'.L w) out = lotsW b.L w
theorem back_use {b : Bst} {w : Str} {am : Int} (nd : LNd b) (hk : (keys (lotsW b.L w)).Nodup) (hn : NN (lotsW b.L w)) (h0 : 0 ≤ am) (h1 : am ≤ held (lotsW b.L w)) :
    BackSt b (step b (.use w am)).1 w am ∧ (step b (.use w am)).2 = .use b.U.length (takeP (lotsW b.L w) am) := by
  have e : step b (.use w am) = (⟨putW b.L w (takeB (lotsW b.L w) am), b.n, b.U ++ [(w, takeP (lotsW b.L w) am)]⟩, .use b.U.length (takeP (lotsW b.L w) am)) := by
    show useB b w am = _
    unfold useB
    rw [if_neg (by omega)]
  have l := lnd_step nd (.use w am)
  rw [e] at l ⊢
  refine ⟨⟨fun v hv => ?_, l, takeP (lotsW b.L w) am, ?_, takeP_nn, (held_take hn h0 h1).1, ?_⟩, rfl⟩
  · show lotsW (putW b.L w _) v = _
    rw [lotsW_put, if_neg hv]
  · show (b.U ++ [(w, takeP (lotsW b.L w) am)])[b.U.length]? = _
    rw [List.getElem?_append_right (Nat.le_refl _), Nat.sub_self]
    rfl
  · show backM (lotsW (putW b.L w _) w) _ = _
    rw [lotsW_put, if_pos rfl]
    exact back_take hk hn h0
theorem back_piece {b b' : Bst} {w : Str} {left p : Int} (B : BackSt b b' w left) (h1 : 1 ≤ p) (h2 : p ≤ left) : BackSt b (step b' (.back (b.U.length : Int) p)).1 w (left - p) := by
  obtain ⟨out, hU, hn, hh, hb⟩ := B.u
  have hi : b.U.length < b'.U.length := (List.getElem?_eq_some_iff.mp hU).1
  have e : step b' (.back (b.U.length : Int) p) = (⟨putW b'.L w (backM (lotsW b'.L w) (downP out p)), b'.n, b'.U.set b.U.length (w, downB out p)⟩, .parts (downP out p)) := by
    show backB b' (b.U.length : Int) p = _
    unfold backB
    rw [if_pos (by omega)]
    simp only [Int.toNat_natCast]
    rw [hU]
    show (if held out < p then _ else _) = _
    rw [if_neg (by omega)]
  have l := lnd_step B.nd (.back (b.U.length : Int) p)
  rw [e] at l ⊢
  refine ⟨fun v hv => ?_, l, downB out p, ?_, downB_nn hn, ?_, ?_⟩
  · show lotsW (putW b'.L w _) v = _
    rw [lotsW_put, if_neg hv]
    exact B.o v hv
  · show (b'.U.set b.U.length (w, downB out p))[b.U.length]? = _
    rw [List.getElem?_set_self hi]
  · show held (takeB out.reverse p).reverse = _
    rw [held_reverse, (held_take hn.reverse (by omega) (by rw [held_reverse]; omega)).2, held_reverse]
    omega
  · show backM (lotsW (putW b'.L w _) w) _ = _
    rw [lotsW_put, if_pos rfl, backM_two hn (by omega)]
    exact hb
theorem back_pieces {b : Bst} {w : Str} : ∀ {ps : List Int} {b' : Bst} {left : Int}, BackSt b b' w left → (∀ p ∈ ps, 1 ≤ p) → ps.sum ≤ left → BackSt b (stepsB b' (ps.map fun p => .back (b.U.length : Int) p)) w (left - ps.sum)
  | [], b', left, B, _, _ => by
    rw [show left - ([] : List Int).sum = left by simp]
    exact B
  | p :: r, b', left, B, h1, h2 => by
    have hr : 0 ≤ r.sum := by
      have : ∀ l : List Int, (∀ p ∈ l, 1 ≤ p) → 0 ≤ l.sum := by
        intro l
        induction l with
        | nil => intro _; simp
        | cons a l ih => intro h; have := h a List.mem_cons_self; have := ih fun p hp => h p (List.mem_cons_of_mem _ hp); rw [List.sum_cons]; omega
      exact this r fun p hp => h1 p (List.mem_cons_of_mem _ hp)
    have hp := h1 p List.mem_cons_self
    rw [List.sum_cons] at h2 ⊢
    have B2 := back_piece B hp (by omega)
    have B3 := back_pieces (ps := r) B2 (fun p hp => h1 p (List.mem_cons_of_mem _ hp)) (by omega)
    rw [show left - (p + r.sum) = left - p - r.sum by omega]
    exact B3
theorem back_end {b b' : Bst} {w : Str} (B : BackSt b b' w 0) : (∀ v, lotsW b'.L v = lotsW b.L v) ∧ step b' (.back (b.U.length : Int) 1) = (b', .no) := by
  obtain ⟨out, hU, hn, hh, hb⟩ := B.u
  refine ⟨fun v => ?_, ?_⟩
  · by_cases hv : v = w
    · subst hv
      rw [← hb, backM_zero hn hh]
    · exact B.o v hv
  · show backB b' (b.U.length : Int) 1 = _
    unfold backB
    rw [if_pos (by omega)]
    simp only [Int.toNat_natCast]
    rw [hU]
    show (if held out < 1 then _ else _) = _
    rw [if_pos (by omega)]
theorem use_no {b : Bst} {w : Str} {am : Int} (h : held (lotsW b.L w) < am) : step b (.use w am) = (b, .no) := by
  show useB b w am = _
  unfold useB
  rw [if_pos h]
theorem back_no (b : Bst) (am : Int) : step b (.back (b.U.length : Int) am) = (b, .no) := by
  show backB b (b.U.length : Int) am = _
  unfold backB
  rw [if_pos (by omega)]
  simp only [Int.toNat_natCast]
  rw [List.getElem?_eq_none (Nat.le_refl _)]
def addedD (w : Str) (n : Nat) (many am : Int) (ps : List Int) : List Deed := [.use w (many + 1), .use w am] ++ (ps.map fun p => .back (n : Int) p) ++ [.back (n : Int) 1]
theorem answersB_length (b : Bst) (ds : List Deed) : (answersB b ds).length = ds.length := by
  induction ds generalizing b with
  | nil => rfl
  | cons x r ih => show (answersB (step b x).1 r).length + 1 = _; rw [ih]; rfl
theorem added_ok {b : Bst} {w : Str} {am : Int} {ps : List Int} (nd : LNd b) (hk : (keys (lotsW b.L w)).Nodup) (hn : NN (lotsW b.L w)) (h1 : 1 ≤ am) (hps : ∀ p ∈ ps, 1 ≤ p)
    (hor : (held (lotsW b.L w) = 0 ∧ ps = []) ∨ (0 < held (lotsW b.L w) ∧ am ≤ held (lotsW b.L w) ∧ ps.sum = am)) :
    ∃ ans rest, answersB b (addedD w b.U.length (held (lotsW b.L w)) am ps) = Ans.no :: ans :: (rest ++ [Ans.no]) ∧ (ans = .no ↔ held (lotsW b.L w) = 0) ∧ (∀ v, lotsW (stepsB b (addedD w b.U.length (held (lotsW b.L w)) am ps)).L v = lotsW b.L v) ∧ LNd (stepsB b (addedD w b.U.length (held (lotsW b.L w)) am ps)) := by
  have e1 : step b (.use w (held (lotsW b.L w) + 1)) = (b, .no) := use_no (by omega)
  have hA : ∀ ys, answersB b (.use w (held (lotsW b.L w) + 1) :: .use w am :: ys) = Ans.no :: (step b (.use w am)).2 :: answersB (step b (.use w am)).1 ys := fun ys => by
    show (step b _).2 :: answersB (step b _).1 (.use w am :: ys) = _
    rw [e1]
    rfl
  have hS : ∀ ys, stepsB b (.use w (held (lotsW b.L w) + 1) :: .use w am :: ys) = stepsB (step b (.use w am)).1 ys := fun ys => by
    show stepsB (step b _).1 (.use w am :: ys) = _
    rw [e1]
    rfl
  have eD : addedD w b.U.length (held (lotsW b.L w)) am ps = .use w (held (lotsW b.L w) + 1) :: .use w am :: ((ps.map fun p => .back (b.U.length : Int) p) ++ [.back (b.U.length : Int) 1]) := by
    unfold addedD
    simp
  rw [eD, hA, hS]
  rcases hor with ⟨h0, rfl⟩ | ⟨h0, h2, h3⟩
  · have e2 : step b (.use w am) = (b, .no) := use_no (by omega)
    rw [e2]
    refine ⟨.no, [], ?_, by simp [h0], fun v => ?_, ?_⟩
    · show Ans.no :: Ans.no :: answersB b [.back (b.U.length : Int) 1] = _
      show Ans.no :: Ans.no :: [(step b (.back (b.U.length : Int) 1)).2] = _
      rw [back_no]
      rfl
    · show lotsW (step b (.back (b.U.length : Int) 1)).1.L v = _
      rw [back_no]
    · show LNd (step b (.back (b.U.length : Int) 1)).1
      rw [back_no]
      exact nd
  · obtain ⟨B, ea⟩ := back_use nd hk hn (show 0 ≤ am by omega) h2
    have B2 := back_pieces (ps := ps) B hps (by omega)
    rw [h3, Int.sub_self] at B2
    obtain ⟨q1, q2⟩ := back_end B2
    refine ⟨(step b (.use w am)).2, answersB (step b (.use w am)).1 (ps.map fun p => .back (b.U.length : Int) p), ?_, ?_, fun v => ?_, ?_⟩
    · rw [answersB_app]
      show _ :: _ :: (_ ++ [(step _ (.back (b.U.length : Int) 1)).2]) = _
      rw [q2]
    · rw [ea]
      constructor
      · intro z; cases z
      · intro z; omega
    · rw [stepsB_app]
      show lotsW (step _ (.back (b.U.length : Int) 1)).1.L v = _
      rw [q2]
      exact q1 v
    · rw [stepsB_app]
      show LNd (step _ (.back (b.U.length : Int) 1)).1
      rw [q2]
      exact B2.nd
end Bl
namespace Bl
open PySem L2 Bm
def TupV (H : Hp) (x : V) (z : List V) : Prop := ∃ a, x = .ref a ∧ H a = some (.tup z)
theorem tupV_at {H : Hp} {xs : List V} {zs : List (List V)} {i : Nat} {z : List V} (h : Paired (TupV H) xs zs) (hz : zs[i]? = some z) : ∃ a, xs[i]? = some (.ref a) ∧ H a = some (.tup z) := by
  have hl := Paired.length h
  have hi : i < zs.length := (List.getElem?_eq_some_iff.mp hz).1
  have hx : xs[i]? = some (xs[i]'(by omega)) := List.getElem?_eq_getElem _
  obtain ⟨a, e, ha⟩ := L2.Paired.at h hx hz
  rw [e] at hx
  exact ⟨a, hx, ha⟩
def spSameG : Sp := fun vs H Q _ => ∃ (l r : Addr) (xs ys : List V) (zs : List (List V)), vs = [.ref l, .ref r] ∧ H l = some (.lst xs) ∧ H r = some (.lst ys) ∧ Paired (TupV H) xs zs ∧ Paired (TupV H) ys zs ∧ zs.length ≤ 300 ∧
  (∀ z ∈ zs, z.length ≤ 1000 ∧ ∀ y ∈ z, (∃ s, y = V.str s) ∨ ∃ i, y = V.int i) ∧ Q (.bl true) H
theorem tupV_lots {H : Hp} : ∀ {xs : List V} {ls : List L4}, Paired (LotAt H) xs ls → Paired (TupV H) xs (ls.map v4)
  | _, _, .nil => .nil
  | _, _, .cons a r => .cons a (tupV_lots r)
end Bl
namespace Bl
open PySem L2 Bm
theorem cut_from (ns : List Int) (m : Nat) (hm : 1 ≤ m) : cutV (ns.map V.int) (some 1) (some (m : Int)) = ((ns.drop 1).take (m - 1)).map V.int := by
  unfold cutV
  have e0 : HT.sIx (ns.map V.int).length 0 (some ((1 : Nat) : Int)) = min 1 (ns.map V.int).length := HT.sIx_nat _ _ 1
  have e1 : HT.sIx (ns.map V.int).length (ns.map V.int).length (some (m : Int)) = min m (ns.map V.int).length := HT.sIx_nat _ _ m
  have e0 : HT.sIx (ns.map V.int).length 0 (some 1) = min 1 (ns.map V.int).length := e0
  rw [e0, e1, List.length_map, ← List.map_drop, ← List.map_take]
  congr 1
  cases ns with
  | nil => simp
  | cons a r =>
    have h1 : min 1 (a :: r).length = 1 := by rw [List.length_cons]; omega
    rw [h1]
    show r.take _ = r.take _
    by_cases h : m ≤ (a :: r).length
    · rw [Nat.min_eq_left h]
    · rw [Nat.min_eq_right (by omega)]
      rw [List.length_cons] at h ⊢
      rw [List.take_of_length_le (by omega), List.take_of_length_le (by omega)]
def mx1 (m : Int) : Int := if m > 1 then m else 1
theorem mx1_pos (m : Int) : 0 < mx1 m := by unfold mx1; split <;> omega
theorem pick_am (z m : Int) (k : Bool) : ∃ am : Int, atI [V.int (1 + z % mx1 m), V.int (mx1 m)] (if k = true then 1 else 0) = some (.int am) ∧ 1 ≤ am ∧ (0 < m → am ≤ m) := by
  have h1 := mx1_pos m
  have h2 := Int.emod_nonneg z (show mx1 m ≠ 0 by omega)
  have h3 := Int.emod_lt_of_pos z h1
  cases k with
  | true => exact ⟨mx1 m, rfl, by omega, fun h => by unfold mx1; split <;> omega⟩
  | false =>
    refine ⟨1 + z % mx1 m, rfl, by omega, fun h => ?_⟩
    have : mx1 m ≤ m := by unfold mx1; split <;> omega
    omega
def pieceOf (left am z : Int) : Int := if (if am / 9 + 1 > 1 + z / 3 % 7 then am / 9 + 1 else 1 + z / 3 % 7) < left then (if am / 9 + 1 > 1 + z / 3 % 7 then am / 9 + 1 else 1 + z / 3 % 7) else left
theorem piece_ok {left am : Int} (z : Int) (h : 0 < left) (ha : 1 ≤ am) : 1 ≤ pieceOf left am z ∧ pieceOf left am z ≤ left ∧ (pieceOf left am z = left ∨ am / 9 + 1 ≤ pieceOf left am z) := by
  have h1 : 0 ≤ z / 3 % 7 := Int.emod_nonneg _ (by decide)
  unfold pieceOf
  generalize z / 3 % 7 = x at *
  generalize am / 9 = y at *
  split <;> split <;> omega
theorem sum_snoc (ps : List Int) (p : Int) : (ps ++ [p]).sum = ps.sum + p := by simp
theorem few_pieces {n : Nat} {q am left : Int} (hq : q = am / 9 + 1) (h : (n : Int) * q ≤ am - left) (hl : 0 < left) (ha : 1 ≤ am) : n < 9 := by
  refine Nat.lt_of_not_le fun h9 => ?_
  have h1 : (9 : Int) ≤ (n : Int) := by omega
  have hq0 : 0 ≤ q := by omega
  have h2 := Int.mul_le_mul_of_nonneg_right h1 hq0
  omega
theorem while_out {c : TT} {tb : TS} {D : Ends} {σ : St} {H : Hp} (W : Nat → St → Hp → Prop) (Out : St → Hp → Prop) (h0 : ∃ m, W m σ H)
    (turn : ∀ nx : St → Hp → Prop, (∀ σ H, Out σ H → nx σ H) → ∀ m σ H, W m σ H → c σ H fun b H1 => if b = true then ∃ N : St → Hp → Prop, (∀ σ' H', N σ' H' → ∃ m', m' < m ∧ W m' σ' H') ∧ tb { D with nx := N, ct := N, bk := D.nx } σ H1 else nx σ H1)
    (out : ∀ σ H, Out σ H → D.nx σ H) : tWhile c tb D σ H := ⟨W, h0, turn D.nx out⟩
theorem deeds_two {H : Hp} {l p1 p2 p3 lo : Addr} {xs : List V} {ds : List Deed} {d1 d2 : Deed} (hl : H l = some (.lst xs)) (hp : Paired (DeedV H) xs ds) (h1 : H p1 = none) (h2 : (upd H p1 (.tup (deedVs d1))) p2 = none)
    (h3 : (upd (upd H p1 (.tup (deedVs d1))) p2 (.tup (deedVs d2))) p3 = none) (h4 : (upd (upd (upd H p1 (.tup (deedVs d1))) p2 (.tup (deedVs d2))) p3 (.lst [.ref p1, .ref p2])) lo = none) :
    Same H (upd (upd (upd H p1 (.tup (deedVs d1))) p2 (.tup (deedVs d2))) p3 (.lst [.ref p1, .ref p2])) ∧
    Paired (DeedV (upd (upd (upd (upd H p1 (.tup (deedVs d1))) p2 (.tup (deedVs d2))) p3 (.lst [.ref p1, .ref p2])) lo (.lst (xs ++ [.ref p1, .ref p2])))) (xs ++ [.ref p1, .ref p2]) (ds ++ [d1, d2]) := by
  have s1 := same_new (o := HO.tup (deedVs d1)) h1
  have s2 := same_new (o := HO.tup (deedVs d2)) h2
  have s3 := same_new (o := HO.lst [.ref p1, .ref p2]) h3
  have s4 := same_new (o := HO.lst (xs ++ [.ref p1, .ref p2])) h4
  refine ⟨(s1.trans s2).trans s3, paired_app (L2.Paired.imp' (fun _ _ ⟨a, e, h⟩ => ⟨a, e, s4 _ _ (s3 _ _ (s2 _ _ (s1 _ _ h)))⟩) hp) (.cons ⟨p1, rfl, s4 _ _ (s3 _ _ (s2 _ _ upd_same))⟩ (.cons ⟨p2, rfl, s4 _ _ (s3 _ _ upd_same)⟩ .nil))⟩
theorem ans_some {Z : List Addr} {H : Hp} {v : V} {a : Ans} (h : AnsV Z H v a) : v = .non ↔ a = .no := by
  cases a with
  | num n => obtain rfl : v = .int (n : Int) := h; constructor <;> (intro z; cases z)
  | no => obtain rfl : v = .non := h; simp
  | use k ps => obtain ⟨a, l, rfl, _⟩ := h; constructor <;> (intro z; cases z)
  | parts ps => obtain ⟨l, rfl, _⟩ := h; constructor <;> (intro z; cases z)
  | cnt x ps => obtain ⟨a, l, rfl, _⟩ := h; constructor <;> (intro z; cases z)
end Bl
namespace Bl
open PySem L2 Bm
structure Keep7 (H : Hp) (l oa du T lo : Addr) (xs ys ws : List V) (x4 : List Addr) (ds ds2 : List Deed) (F : List F3) : Prop where
  hlo : H lo = some (.lst ws)
  pw : Paired (DeedV H) ws ds2
  hl : H l = some (.lst xs)
  pl : Paired (DeedV H) xs ds
  hoa : H oa = some (.lst (x4.map V.ref))
  hdu : H du = some (.lst ys)
  pd : Paired (LotAt H) ys (tellF F)
  tb : H T = some (.tbl #[])
  n1 : l ≠ lo
  n2 : oa ≠ lo
  n3 : du ≠ lo
section
variable {H H' : Hp} {l oa du T lo p : Addr} {xs ys ws : List V} {x4 : List Addr} {ds ds2 : List Deed} {F : List F3} {dd : Deed}
theorem deeds_keep {us : List V} {es : List Deed} (k : ∀ b xs, H b = some (.tup xs) → H' b = some (.tup xs)) (h : Paired (DeedV H) us es) : Paired (DeedV H') us es := L2.Paired.imp' (fun _ _ ⟨a, e, z⟩ => ⟨a, e, k _ _ z⟩) h
theorem Keep7.same (K : Keep7 H l oa du T lo xs ys ws x4 ds ds2 F) (s : Same H H') : Keep7 H' l oa du T lo xs ys ws x4 ds ds2 F :=
  ⟨s _ _ K.hlo, deeds_keep (fun b xs e => s _ _ e) K.pw, s _ _ K.hl, deeds_keep (fun b xs e => s _ _ e) K.pl, s _ _ K.hoa, s _ _ K.hdu, lot_same (fun b xs e => s _ _ e) K.pd, s _ _ K.tb, K.n1, K.n2, K.n3⟩
theorem Keep7.push (K : Keep7 H l oa du T lo xs ys ws x4 ds ds2 F) (hp : H p = none) : Keep7 (upd (upd H p (.tup (deedVs dd))) lo (.lst (ws ++ [.ref p]))) l oa du T lo xs ys (ws ++ [.ref p]) x4 ds (ds2 ++ [dd]) F := by
  have k : ∀ b o, b ≠ lo → H b = some o → (upd (upd H p (.tup (deedVs dd))) lo (.lst (ws ++ [.ref p]))) b = some o := fun b o hb e => by
    rw [upd_ne hb, upd_ne (ne_of_none e hp)]
    exact e
  have kt : ∀ b zs, H b = some (HO.tup zs) → (upd (upd H p (.tup (deedVs dd))) lo (.lst (ws ++ [.ref p]))) b = some (.tup zs) := fun b zs e => k b _ (ne_of e K.hlo (by intro z; cases z)) e
  have hpl : p ≠ lo := (ne_of_none K.hlo hp).symm
  exact ⟨upd_same, paired_app (deeds_keep kt K.pw) (.cons ⟨p, rfl, by rw [upd_ne hpl, upd_same]⟩ .nil), k _ _ K.n1 K.hl, deeds_keep kt K.pl, k _ _ K.n2 K.hoa, k _ _ K.n3 K.hdu, lot_same kt K.pd, k _ _ (ne_of K.tb K.hlo (by intro z; cases z)) K.tb, K.n1, K.n2, K.n3⟩
theorem keep_two {p1 p2 p3 : Addr} {d1 d2 : Deed} (hl : H l = some (.lst xs)) (hp : Paired (DeedV H) xs ds) (hoa : H oa = some (.lst (x4.map V.ref))) (hdu : H du = some (.lst ys)) (hpd : Paired (LotAt H) ys (tellF F)) (hT : H T = some (.tbl #[]))
    (h1 : H p1 = none) (h2 : (upd H p1 (.tup (deedVs d1))) p2 = none)
    (h3 : (upd (upd H p1 (.tup (deedVs d1))) p2 (.tup (deedVs d2))) p3 = none) (h4 : (upd (upd (upd H p1 (.tup (deedVs d1))) p2 (.tup (deedVs d2))) p3 (.lst [.ref p1, .ref p2])) lo = none) :
    Keep7 (upd (upd (upd (upd H p1 (.tup (deedVs d1))) p2 (.tup (deedVs d2))) p3 (.lst [.ref p1, .ref p2])) lo (.lst (xs ++ [.ref p1, .ref p2]))) l oa du T lo xs ys (xs ++ [.ref p1, .ref p2]) x4 ds (ds ++ [d1, d2]) F := by
  have s1 := same_new (o := HO.tup (deedVs d1)) h1
  have s2 := same_new (o := HO.tup (deedVs d2)) h2
  have s3 := same_new (o := HO.lst [.ref p1, .ref p2]) h3
  have s4 := same_new (o := HO.lst (xs ++ [.ref p1, .ref p2])) h4
  have s := ((s1.trans s2).trans s3)
  have hlo : H lo = none := s.free h4
  have sa := s.trans s4
  exact ⟨upd_same, (deeds_two hl hp h1 h2 h3 h4).2, sa _ _ hl, deeds_keep (fun b xs e => sa _ _ e) hp, sa _ _ hoa, sa _ _ hdu, lot_same (fun b xs e => sa _ _ e) hpd, sa _ _ hT, ne_of_none hl hlo, ne_of_none hoa hlo, ne_of_none hdu hlo⟩
end
theorem paired_split {α β : Type} {R : α → β → Prop} : ∀ {xs : List α} {ys zs : List β}, Paired R xs (ys ++ zs) → ∃ us vs, xs = us ++ vs ∧ Paired R us ys ∧ Paired R vs zs
  | xs, [], zs, h => ⟨[], xs, rfl, .nil, h⟩
  | _, y :: ys, zs, h => by
    cases h with
    | cons a r =>
      obtain ⟨us, vs, e, h1, h2⟩ := paired_split (ys := ys) r
      exact ⟨_ :: us, vs, by rw [e]; rfl, .cons a h1, h2⟩
theorem paired_cons {α β : Type} {R : α → β → Prop} {xs : List α} {y : β} {ys : List β} (h : Paired R xs (y :: ys)) : ∃ v vs, xs = v :: vs ∧ R v y ∧ Paired R vs ys := by
  cases h with
  | cons a r => exact ⟨_, _, rfl, a, r⟩
theorem atI_mid {α : Type} (us : List α) (v : α) (vs : List α) {n : Nat} (h : us.length = n) : atI (us ++ v :: vs) (n : Int) = some v := by
  subst h
  exact atI_nat (by rw [List.getElem?_append_right (Nat.le_refl _), Nat.sub_self]; rfl)
theorem atI_mid1 {α : Type} (us : List α) (u v : α) (vs : List α) {n : Nat} (h : us.length = n) : atI (us ++ u :: v :: vs) ((n : Int) + 1) = some v := by
  have := atI_mid (us ++ [u]) v vs (n := n + 1) (by simp [h])
  rw [List.append_assoc] at this
  simpa using this
end Bl
namespace Bl
open PySem L2 Bm
def Out7 (T : Addr) (σ : St) (H : Hp) : Prop := ∃ (a l : Addr) (z : Int) (la oa : Addr) (v5 : Option V) (du : Addr) (v7 : Option V) (many am : Int) (lo : Addr) (v11 v12 : Option V) (ps : List Int) (ws xs ys : List V) (x4 : List Addr) (ds : List Deed) (kF : Bk),
  σ = [some (.ref a), some (.ref l), some (.int z), some (.ref la), some (.ref oa), v5, some (.ref du), v7, some (.int many), some (.int am), some (.ref lo), v11, v12, none, none, none] ∧
  Keep7 H l oa du T lo xs ys ws x4 ds (ds ++ [.use "nail" (many + 1), .use "nail" am] ++ ps.map fun p => .back ((x4.map V.ref).length : Int) p) kF.F ∧ (∀ p ∈ ps, 1 ≤ p) ∧ ps.length ≤ 9 ∧ ((many = 0 ∧ ps = []) ∨ (0 < many ∧ ps.sum = am)) ∧
  xs.length = ds.length ∧ kF.F.length ≤ 40 ∧ ds.length ≤ 40 ∧ many = held (lotsW (stepsB b0 ds).L "nail") ∧ NN (lotsW (stepsB b0 ds).L "nail") ∧ (x4.map V.ref).length = (stepsB b0 ds).U.length ∧ LNd (stepsB b0 ds) ∧ (keys (lotsW (stepsB b0 ds).L "nail")).Nodup ∧
  (∀ w, lotsW (stepsB b0 ds).L w = rowsOf kF.F w) ∧ 1 ≤ am ∧ (0 < many → am ≤ many)
end Bl
-- k07d
set_option Elab.async false
set_option linter.all false
set_option maxRecDepth 100000
set_option maxHeartbeats 4000000
namespace K07
open PySem L2 Bm Bl
def top (i : Nat) : Stmt := PySem.Challenge.pw_barnlots_k07_whole_all_back.main.body.getD i (.Pass ⟨0, 0, 0, 0⟩)
abbrev st_take_along : Stmt := top 2
abbrev st_oldest_first : Stmt := top 3
abbrev st_newest_first : Stmt := top 4
abbrev st_put_back : Stmt := top 5
abbrev st_held : Stmt := top 6
abbrev st_do_deed : Stmt := top 10
abbrev st_answers : Stmt := top 11
abbrev st_lots_behind : Stmt := top 12
abbrev st_law_room : Stmt := top 14
abbrev st_law_whole : Stmt := top 15
abbrev st_law_at : Stmt := top 16
abbrev st_law_handed_in : Stmt := top 17
abbrev st_law_sized : Stmt := top 18
abbrev st_law_some : Stmt := top 19
abbrev st_law_twin : Stmt := top 20
abbrev st_law_deeds : Stmt := top 21
abbrev st_law_same : Stmt := top 22
abbrev st_law_there : Stmt := top 23
abbrev st_law_off : Stmt := top 24
abbrev st_law_on : Stmt := top 25
abbrev st_law_booked : Stmt := top 26
abbrev st_law : Stmt := top 27
abbrev st_init : Stmt := inClass (top 8) 0
abbrev st_lots_of : Stmt := inClass (top 8) 1
abbrev st_come : Stmt := inClass (top 8) 2
abbrev st_use : Stmt := inClass (top 8) 3
abbrev st_give_back : Stmt := inClass (top 8) 4
abbrev st_counted : Stmt := inClass (top 8) 5
abbrev st_lose : Stmt := inClass (top 8) 6
abbrev st_gain : Stmt := inClass (top 8) 7
abbrev st_all_lots : Stmt := inClass (top 8) 9
set_option genInjectivity false in
set_option genSizeOf false in
set_option genSizeOfSpec false in
structure Adr where
  a_Barn : Addr
  a_take_along : Addr
  d_take_along : FuncData
  a_oldest_first : Addr
  d_oldest_first : FuncData
  a_newest_first : Addr
  d_newest_first : FuncData
  a_put_back : Addr
  d_put_back : FuncData
  a_held : Addr
  d_held : FuncData
  a_do_deed : Addr
  d_do_deed : FuncData
  a_answers : Addr
  d_answers : FuncData
  a_lots_behind : Addr
  d_lots_behind : FuncData
  a_law_room : Addr
  d_law_room : FuncData
  a_law_whole : Addr
  d_law_whole : FuncData
  a_law_at : Addr
  d_law_at : FuncData
  a_law_handed_in : Addr
  d_law_handed_in : FuncData
  a_law_sized : Addr
  d_law_sized : FuncData
  a_law_some : Addr
  d_law_some : FuncData
  a_law_twin : Addr
  d_law_twin : FuncData
  a_law_deeds : Addr
  d_law_deeds : FuncData
  a_law_same : Addr
  d_law_same : FuncData
  a_law_there : Addr
  d_law_there : FuncData
  a_law_off : Addr
  d_law_off : FuncData
  a_law_on : Addr
  d_law_on : FuncData
  a_law_booked : Addr
  d_law_booked : FuncData
  a_law : Addr
  d_law : FuncData
  a_init : Addr
  d_init : FuncData
  a_lots_of : Addr
  d_lots_of : FuncData
  a_come : Addr
  d_come : FuncData
  a_use : Addr
  d_use : FuncData
  a_give_back : Addr
  d_give_back : FuncData
  a_counted : Addr
  d_counted : FuncData
  a_lose : Addr
  d_lose : FuncData
  a_gain : Addr
  d_gain : FuncData
  a_all_lots : Addr
  d_all_lots : FuncData
  c_all_lots : Addr
  tb_all_lots : Addr
set_option genInjectivity false in
set_option genSizeOf false in
set_option genSizeOfSpec false in
structure Txt (K : PySem.W.Frag) (mg : Str → Option Value) (t : Adr) : Prop where
  m_take_along : mg "take_along" = some (.ref t.a_take_along)
  m_oldest_first : mg "oldest_first" = some (.ref t.a_oldest_first)
  m_newest_first : mg "newest_first" = some (.ref t.a_newest_first)
  m_put_back : mg "put_back" = some (.ref t.a_put_back)
  m_held : mg "held" = some (.ref t.a_held)
  m_do_deed : mg "do_deed" = some (.ref t.a_do_deed)
  m_answers : mg "answers" = some (.ref t.a_answers)
  m_lots_behind : mg "lots_behind" = some (.ref t.a_lots_behind)
  m_law_room : mg "_law_room" = some (.ref t.a_law_room)
  m_law_whole : mg "_law_whole" = some (.ref t.a_law_whole)
  m_law_at : mg "_law_at" = some (.ref t.a_law_at)
  m_law_handed_in : mg "_law_handed_in" = some (.ref t.a_law_handed_in)
  m_law_sized : mg "_law_sized" = some (.ref t.a_law_sized)
  m_law_some : mg "_law_some" = some (.ref t.a_law_some)
  m_law_twin : mg "_law_twin" = some (.ref t.a_law_twin)
  m_law_deeds : mg "_law_deeds" = some (.ref t.a_law_deeds)
  m_law_same : mg "_law_same" = some (.ref t.a_law_same)
  m_law_there : mg "_law_there" = some (.ref t.a_law_there)
  m_law_off : mg "_law_off" = some (.ref t.a_law_off)
  m_law_on : mg "_law_on" = some (.ref t.a_law_on)
  m_law_booked : mg "_law_booked" = some (.ref t.a_law_booked)
  m_law : mg "law" = some (.ref t.a_law)
  F_take_along : Fun K "take_along" "take_along" st_take_along t.a_take_along t.d_take_along
  b_take_along : Binds K t.d_take_along ["lots", "amount"] []
  F_oldest_first : Fun K "oldest_first" "oldest_first" st_oldest_first t.a_oldest_first t.d_oldest_first
  b_oldest_first : Binds K t.d_oldest_first ["lots", "amount"] []
  F_newest_first : Fun K "newest_first" "newest_first" st_newest_first t.a_newest_first t.d_newest_first
  b_newest_first : Binds K t.d_newest_first ["lots", "amount"] []
  F_put_back : Fun K "put_back" "put_back" st_put_back t.a_put_back t.d_put_back
  b_put_back : Binds K t.d_put_back ["lots", "parts"] []
  F_held : Fun K "held" "held" st_held t.a_held t.d_held
  b_held : Binds K t.d_held ["lots"] []
  F_do_deed : Fun K "do_deed" "do_deed" st_do_deed t.a_do_deed t.d_do_deed
  b_do_deed : Binds K t.d_do_deed ["barn", "deed"] []
  F_answers : Fun K "answers" "answers" st_answers t.a_answers t.d_answers
  b_answers : Binds K t.d_answers ["deeds"] []
  F_lots_behind : Fun K "lots_behind" "lots_behind" st_lots_behind t.a_lots_behind t.d_lots_behind
  b_lots_behind : Binds K t.d_lots_behind ["deeds"] []
  F_law_room : Fun K "_law_room" "_law_room" st_law_room t.a_law_room t.d_law_room
  b_law_room : Binds K t.d_law_room ["_law_script", "_law_most", "_law_bound"] []
  F_law_whole : Fun K "_law_whole" "_law_whole" st_law_whole t.a_law_whole t.d_law_whole
  b_law_whole : Binds K t.d_law_whole ["_law_found"] []
  F_law_at : Fun K "_law_at" "_law_at" st_law_at t.a_law_at t.d_law_at
  b_law_at : Binds K t.d_law_at ["_law_script", "_law_k"] []
  F_law_handed_in : Fun K "_law_handed_in" "_law_handed_in" st_law_handed_in t.a_law_handed_in t.d_law_handed_in
  b_law_handed_in : Binds K t.d_law_handed_in ["_law_uses", "_law_stock", "_law_use", "_law_amount"] []
  F_law_sized : Fun K "_law_sized" "_law_sized" st_law_sized t.a_law_sized t.d_law_sized
  b_law_sized : Binds K t.d_law_sized ["_law_seed", "_law_other", "_law_most"] []
  F_law_some : Fun K "_law_some" "_law_some" st_law_some t.a_law_some t.d_law_some
  b_law_some : Binds K t.d_law_some ["_law_first", "_law_most", "_law_seed", "_law_turn"] []
  F_law_twin : Fun K "_law_twin" "_law_twin" st_law_twin t.a_law_twin t.d_law_twin
  b_law_twin : Binds K t.d_law_twin ["_law_cells", "_law_sign"] []
  F_law_deeds : Fun K "_law_deeds" "_law_deeds" st_law_deeds t.a_law_deeds t.d_law_deeds
  b_law_deeds : Binds K t.d_law_deeds ["_law_cells"] []
  F_law_same : Fun K "_law_same" "_law_same" st_law_same t.a_law_same t.d_law_same
  b_law_same : Binds K t.d_law_same ["_law_handed", "_law_asked"] []
  F_law_there : Fun K "_law_there" "_law_there" st_law_there t.a_law_there t.d_law_there
  b_law_there : Binds K t.d_law_there ["_law_lots", "_law_ware"] []
  F_law_off : Fun K "_law_off" "_law_off" st_law_off t.a_law_off t.d_law_off
  b_law_off : Binds K t.d_law_off ["_law_lots", "_law_spots", "_law_amount"] []
  F_law_on : Fun K "_law_on" "_law_on" st_law_on t.a_law_on t.d_law_on
  b_law_on : Binds K t.d_law_on ["_law_lots", "_law_parts", "_law_amount"] []
  F_law_booked : Fun K "_law_booked" "_law_booked" st_law_booked t.a_law_booked t.d_law_booked
  b_law_booked : Binds K t.d_law_booked ["_law_lots", "_law_outs", "_law_deed"] []
  F_law : Fun K "law" "law" st_law t.a_law t.d_law
  b_law : Binds K t.d_law ["_law_script"] []
  F_init : Fun K "__init__" "Barn.__init__" st_init t.a_init t.d_init
  b_init : Binds K t.d_init ["self"] []
  F_lots_of : Fun K "lots_of" "Barn.lots_of" st_lots_of t.a_lots_of t.d_lots_of
  b_lots_of : Binds K t.d_lots_of ["self", "ware"] []
  F_come : Fun K "come" "Barn.come" st_come t.a_come t.d_come
  b_come : Binds K t.d_come ["self", "ware", "amount", "price"] []
  F_use : Fun K "use" "Barn.use" st_use t.a_use t.d_use
  b_use : Binds K t.d_use ["self", "ware", "amount"] []
  F_give_back : Fun K "give_back" "Barn.give_back" st_give_back t.a_give_back t.d_give_back
  b_give_back : Binds K t.d_give_back ["self", "use_number", "amount"] []
  F_counted : Fun K "counted" "Barn.counted" st_counted t.a_counted t.d_counted
  b_counted : Binds K t.d_counted ["self", "ware", "found"] []
  F_lose : Fun K "lose" "Barn.lose" st_lose t.a_lose t.d_lose
  b_lose : Binds K t.d_lose ["self", "ware", "missing"] []
  F_gain : Fun K "gain" "Barn.gain" st_gain t.a_gain t.d_gain
  b_gain : Binds K t.d_gain ["self", "ware", "over"] []
  F_all_lots : Fun K "all_lots" "Barn.all_lots" st_all_lots t.a_all_lots t.d_all_lots
  b_all_lots : Binds K t.d_all_lots ["self"] []
  m_Barn : mg "Barn" = some (.ref t.a_Barn)
  cl : Cls K t.a_Barn
  mk_Barn : Mk K t.a_Barn t.a_init
  no_lots_by_ware : NoAttr K t.a_Barn "lots_by_ware"
  no_lots_come : NoAttr K t.a_Barn "lots_come"
  no_uses : NoAttr K t.a_Barn "uses"
  me_lots_of : Meth K t.a_Barn "lots_of" t.a_lots_of
  me_come : Meth K t.a_Barn "come" t.a_come
  me_use : Meth K t.a_Barn "use" t.a_use
  me_give_back : Meth K t.a_Barn "give_back" t.a_give_back
  me_counted : Meth K t.a_Barn "counted" t.a_counted
  me_lose : Meth K t.a_Barn "lose" t.a_lose
  me_gain : Meth K t.a_Barn "gain" t.a_gain
  me_all_lots : Meth K t.a_Barn "all_lots" t.a_all_lots
  n_len : mg "len" = none
  n_min : mg "min" = none
  n_max : mg "max" = none
  n_sum : mg "sum" = none
  n_isinstance : mg "isinstance" = none
  n_sorted : mg "sorted" = none
  n_int : mg "int" = none
  n_bool : mg "bool" = none
  n_list : mg "list" = none
  n_tuple : mg "tuple" = none
  n_str : mg "str" = none
  n_range : mg "range" = none
  n_reversed : mg "reversed" = none
  hc_all_lots : t.d_all_lots.code = .ref t.c_all_lots
  hd_all_lots : PySem.W.codeHdIn K t.c_all_lots t.tb_all_lots = true
theorem S_take_along : FnScope ["lots", "amount", "behind", "parts", "wanted", "number", "left", "price", "taken"] ["lots", "amount"] (defScope st_take_along) := ⟨rfl, rfl, rfl, by decide +kernel, rfl, by decide +kernel, by decide +kernel⟩
theorem S_oldest_first : FnScope ["lots", "amount"] ["lots", "amount"] (defScope st_oldest_first) := ⟨rfl, rfl, rfl, by decide +kernel, rfl, by decide +kernel, by decide +kernel⟩
theorem S_newest_first : FnScope ["lots", "amount", "taken"] ["lots", "amount"] (defScope st_newest_first) := ⟨rfl, rfl, rfl, by decide +kernel, rfl, by decide +kernel, by decide +kernel⟩
theorem S_put_back : FnScope ["lots", "parts", "returned", "number", "amount", "price"] ["lots", "parts"] (defScope st_put_back) := ⟨rfl, rfl, rfl, by decide +kernel, rfl, by decide +kernel, by decide +kernel⟩
theorem S_held : FnScope ["lots"] ["lots"] (defScope st_held) := ⟨rfl, rfl, rfl, by decide +kernel, rfl, by decide +kernel, by decide +kernel⟩
theorem S_do_deed : FnScope ["barn", "deed"] ["barn", "deed"] (defScope st_do_deed) := ⟨rfl, rfl, rfl, by decide +kernel, rfl, by decide +kernel, by decide +kernel⟩
theorem S_answers : FnScope ["deeds", "barn", "told", "deed"] ["deeds"] (defScope st_answers) := ⟨rfl, rfl, rfl, by decide +kernel, rfl, by decide +kernel, by decide +kernel⟩
theorem S_lots_behind : FnScope ["deeds", "barn", "deed"] ["deeds"] (defScope st_lots_behind) := ⟨rfl, rfl, rfl, by decide +kernel, rfl, by decide +kernel, by decide +kernel⟩
theorem S_law_room : FnScope ["_law_script", "_law_most", "_law_bound"] ["_law_script", "_law_most", "_law_bound"] (defScope st_law_room) := ⟨rfl, rfl, rfl, by decide +kernel, rfl, by decide +kernel, by decide +kernel⟩
theorem S_law_whole : FnScope ["_law_found"] ["_law_found"] (defScope st_law_whole) := ⟨rfl, rfl, rfl, by decide +kernel, rfl, by decide +kernel, by decide +kernel⟩
theorem S_law_at : FnScope ["_law_script", "_law_k"] ["_law_script", "_law_k"] (defScope st_law_at) := ⟨rfl, rfl, rfl, by decide +kernel, rfl, by decide +kernel, by decide +kernel⟩
theorem S_law_handed_in : FnScope ["_law_uses", "_law_stock", "_law_use", "_law_amount"] ["_law_uses", "_law_stock", "_law_use", "_law_amount"] (defScope st_law_handed_in) := ⟨rfl, rfl, rfl, by decide +kernel, rfl, by decide +kernel, by decide +kernel⟩
theorem S_law_sized : FnScope ["_law_seed", "_law_other", "_law_most"] ["_law_seed", "_law_other", "_law_most"] (defScope st_law_sized) := ⟨rfl, rfl, rfl, by decide +kernel, rfl, by decide +kernel, by decide +kernel⟩
theorem S_law_some : FnScope ["_law_first", "_law_most", "_law_seed", "_law_turn"] ["_law_first", "_law_most", "_law_seed", "_law_turn"] (defScope st_law_some) := ⟨rfl, rfl, rfl, by decide +kernel, rfl, by decide +kernel, by decide +kernel⟩
theorem S_law_twin : FnScope ["_law_cells", "_law_sign", "_law_spot"] ["_law_cells", "_law_sign"] (defScope st_law_twin) := ⟨rfl, rfl, rfl, by decide +kernel, rfl, by decide +kernel, by decide +kernel⟩
theorem S_law_deeds : FnScope ["_law_cells", "_law_made", "_law_stock", "_law_uses", "_law_k", "_law_turn", "_law_rest", "_law_near", "_law_ware", "_law_amount", "_law_price", "_law_first", "_law_use", "_law_more", "_law_menu", "_law_found"] ["_law_cells"] (defScope st_law_deeds) := ⟨rfl, rfl, rfl, by decide +kernel, rfl, by decide +kernel, by decide +kernel⟩
theorem S_law_same : FnScope ["_law_handed", "_law_asked", "_law_k", "_law_j", "_law_part"] ["_law_handed", "_law_asked"] (defScope st_law_same) := ⟨rfl, rfl, rfl, by decide +kernel, rfl, by decide +kernel, by decide +kernel⟩
theorem S_law_there : FnScope ["_law_lots", "_law_ware"] ["_law_lots", "_law_ware"] (defScope st_law_there) := ⟨rfl, rfl, rfl, by decide +kernel, rfl, by decide +kernel, by decide +kernel⟩
theorem S_law_off : FnScope ["_law_lots", "_law_spots", "_law_amount", "_law_parts", "_law_spot", "_law_many"] ["_law_lots", "_law_spots", "_law_amount"] (defScope st_law_off) := ⟨rfl, rfl, rfl, by decide +kernel, rfl, by decide +kernel, by decide +kernel⟩
theorem S_law_on : FnScope ["_law_lots", "_law_parts", "_law_amount", "_law_part", "_law_many"] ["_law_lots", "_law_parts", "_law_amount"] (defScope st_law_on) := ⟨rfl, rfl, rfl, by decide +kernel, rfl, by decide +kernel, by decide +kernel⟩
theorem S_law_booked : FnScope ["_law_lots", "_law_outs", "_law_deed", "_law_spots", "_law_here", "_law_price"] ["_law_lots", "_law_outs", "_law_deed"] (defScope st_law_booked) := ⟨rfl, rfl, rfl, by decide +kernel, rfl, by decide +kernel, by decide +kernel⟩
theorem S_law : FnScope ["_law_script", "_law_asked", "_law_seed", "_law_lots", "_law_outs", "_law_deed", "_law_due", "_law_lot", "_law_many", "_law_amount", "_law_longer", "_law_left", "_law_piece", "_law_told", "_law_rows", "_law_found"] ["_law_script"] (defScope st_law) := ⟨rfl, rfl, rfl, by decide +kernel, rfl, by decide +kernel, by decide +kernel⟩
theorem S_init : FnScope ["self"] ["self"] (defScope st_init) := ⟨rfl, rfl, rfl, by decide +kernel, rfl, by decide +kernel, by decide +kernel⟩
theorem S_lots_of : FnScope ["self", "ware"] ["self", "ware"] (defScope st_lots_of) := ⟨rfl, rfl, rfl, by decide +kernel, rfl, by decide +kernel, by decide +kernel⟩
theorem S_come : FnScope ["self", "ware", "amount", "price", "number"] ["self", "ware", "amount", "price"] (defScope st_come) := ⟨rfl, rfl, rfl, by decide +kernel, rfl, by decide +kernel, by decide +kernel⟩
theorem S_use : FnScope ["self", "ware", "amount", "lots", "taken", "number"] ["self", "ware", "amount"] (defScope st_use) := ⟨rfl, rfl, rfl, by decide +kernel, rfl, by decide +kernel, by decide +kernel⟩
theorem S_give_back : FnScope ["self", "use_number", "amount", "ware", "out", "returned"] ["self", "use_number", "amount"] (defScope st_give_back) := ⟨rfl, rfl, rfl, by decide +kernel, rfl, by decide +kernel, by decide +kernel⟩
theorem S_counted : FnScope ["self", "ware", "found", "expected"] ["self", "ware", "found"] (defScope st_counted) := ⟨rfl, rfl, rfl, by decide +kernel, rfl, by decide +kernel, by decide +kernel⟩
theorem S_lose : FnScope ["self", "ware", "missing", "taken"] ["self", "ware", "missing"] (defScope st_lose) := ⟨rfl, rfl, rfl, by decide +kernel, rfl, by decide +kernel, by decide +kernel⟩
theorem S_gain : FnScope ["self", "ware", "over", "lots", "price", "number"] ["self", "ware", "over"] (defScope st_gain) := ⟨rfl, rfl, rfl, by decide +kernel, rfl, by decide +kernel, by decide +kernel⟩
theorem S_all_lots : FnScope ["self", "told", "ware", "lots"] ["self"] (defScope st_all_lots) := ⟨rfl, rfl, rfl, by decide +kernel, rfl, by decide +kernel, by decide +kernel⟩
section
variable {P : Program} {w : World} {K : PySem.W.Frag} {mg : Str → Option Value} {base : Heap}
theorem ok_take_along {t : Adr} (T : Txt K mg t) : FnOk P w K mg base CX0 1 t.a_take_along t.d_take_along ["lots", "amount"] spTake := by
  refine T.F_take_along.ok S_take_along (fun vs H Q E h => ?_) (fun cdv A outer s H vs Q E hr h => ?_)
  · obtain ⟨l, ts, am, rfl, _⟩ := h
    rfl
  · obtain ⟨l, ts, am, rfl, hT, hlen, k⟩ := h
    refine ⟨_, (pss_cons (ps_set (i := 2) S_take_along.nd rfl (Or.inl rfl) (pe_lst pa_nil))
      (pss_cons (ps_set (i := 3) S_take_along.nd rfl (Or.inl rfl) (pe_lst pa_nil))
      (pss_cons (ps_set (i := 4) S_take_along.nd rfl (Or.inl rfl) (pv 1))
      (pss_cons (ps_for PassesOwn.never rfl (pi_list (pv 0)) (pg_tup rfl (pgs_cons (pg_name (i := 5) S_take_along.nd rfl (Or.inl rfl)) (pgs_cons (pg_name (i := 6) S_take_along.nd rfl (Or.inl rfl)) (pgs_cons (pg_name (i := 7) S_take_along.nd rfl (Or.inl rfl)) pgs_nil))))
        (pss_cons (ps_set (i := 8) S_take_along.nd rfl (Or.inl rfl) (pe_callB (call_min2 rfl) (by rfl) T.n_min bt_min (pa_cons (pv 6) (pa_cons (pv 4) pa_nil))))
        (pss_cons (ps_set (i := 4) S_take_along.nd rfl (Or.inl rfl) (pe_op op_sub (pv 4) (pv 8)))
        (pss_cons (ps_expr (pe_bm F.plainAttrs_list F.slot_list_append F.type_list_append mt_append (pv 2) (pa_cons (pe_tup (pa_cons (pv 5) (pa_cons (pe_op op_sub (pv 6) (pv 8)) (pa_cons (pv 7) pa_nil)))) pa_nil)))
        (pss_one (ps_if (pt_cmpR op_gt (pv 8) pe_int (nomark _))
          (pss_one (ps_expr (pe_bm F.plainAttrs_list F.slot_list_append F.type_list_append mt_append (pv 3) (pa_cons (pe_tup (pa_cons (pv 5) (pa_cons (pv 8) (pa_cons (pv 7) pa_nil)))) pa_nil))))
          pss_nil))))))
      (pss_one (ps_ret (pe_tup (pa_cons (pv 2) (pa_cons (pv 3) pa_nil))))))))), ?_⟩
    -- behind = []; parts = []; wanted = amount
    refine ⟨(by show 0 ≤ sizeLine; decide), fun b hb => ?_⟩
    refine ⟨(by show 0 ≤ sizeLine; decide), fun q hq => ?_⟩
    refine ⟨_, rfl, ?_⟩
    obtain ⟨xs, hl, hp⟩ := id hT
    have hqb : q ≠ b := fun e => by rw [e, upd_same] at hq; cases hq
    have s1 : Same H (upd (upd H b (.lst [])) q (.lst [])) := (same_new hb).trans (same_new hq)
    have hq0 : H q = none := (same_new hb).free hq
    have hlx : xs.length = ts.length := Paired.length hp
    refine ⟨_, rfl, l, rfl, ⟨xs, SqL.of (s1 _ _ hl)⟩, for_list (K := K) (a := l) (xs := xs) (fun i σ H2 => ∃ (w : Int) (db dq : List T3) (v5 v6 v7 v8 : Option V),
      σ = [some (.ref l), some (.int am), some (.ref b), some (.ref q), some (.int w), v5, v6, v7, v8] ∧ Same H H2 ∧ Tris H2 b db ∧ Tris H2 q dq ∧ db.length ≤ i ∧ dq.length ≤ i ∧
      takeB ts am = db ++ takeB (ts.drop i) w ∧ takeP ts am = dq ++ takeP (ts.drop i) w) ?_ ?_ ?_ ?_⟩
    · exact ⟨am, [], [], none, none, none, none, rfl, s1, ⟨[], by rw [upd_ne hqb.symm, upd_same], .nil⟩, ⟨[], upd_same, .nil⟩, Nat.le_refl _, Nat.le_refl _, by simp, by simp⟩
    · rintro i σ H2 _ ⟨_, _, _, _, _, _, _, _, s2, _⟩
      exact SqL.of (s2 _ _ hl)
    · rintro i x σ H2 hx ⟨w, db, dq, v5, v6, v7, v8, rfl, s2, hB, hQ, lb, lq, eB, eQ⟩
      have hi : i < xs.length := (List.getElem?_eq_some_iff.mp hx).1
      obtain ⟨t3, ht, a, rfl, ha⟩ := tri_at hp hx
      rw [drop_at ht] at eB eQ
      simp only [takeB, takeP] at eB eQ
      refine ⟨a, _, rfl, SqT.of (s2 _ _ ha), rfl, _, _, rfl, _, _, rfl, _, _, rfl, rfl, ?_⟩
      -- taken = min(left, wanted); wanted = wanted - taken
      refine ⟨_, rfl, _, rfl, _, _, rfl, ?_⟩
      refine ⟨_, rfl, _, rfl, _, _, rfl, rfl, ?_⟩
      -- behind.append((number, left - taken, price))
      obtain ⟨xb, hxb, hpb⟩ := id hB
      have hlb : xb.length = db.length := Paired.length hpb
      refine ⟨_, rfl, tyL hxb, _, rfl, _, rfl, _, rfl, _, _, rfl, rfl, _, rfl, (by show 3 ≤ sizeLine; decide), fun p1 hp1 => ?_⟩
      refine ⟨b, xb, _, rfl, rfl, (by rw [upd_ne (ne_of_none hxb hp1)]; exact hxb), line_lt (by omega), ?_⟩
      have hB' : Tris (upd (upd H2 p1 (.tup (v3 (t3.1, t3.2.1 - mn t3.2.1 w, t3.2.2)))) b (.lst (xb ++ [.ref p1]))) b (db ++ [(t3.1, t3.2.1 - mn t3.2.1 w, t3.2.2)]) := tris_push hp1 hxb hB
      have bu := butL_push (o := .tup (v3 (t3.1, t3.2.1 - mn t3.2.1 w, t3.2.2))) hp1 hxb
      have hQ' := hQ.but bu hxb hqb
      have s3 : Same H (upd (upd H2 p1 (.tup (v3 (t3.1, t3.2.1 - mn t3.2.1 w, t3.2.2)))) b (.lst (xb ++ [.ref p1]))) := fun c o e => bu c o (s2 c o e) (ne_of_none e hb)
      refine ⟨_, rfl, _, _, rfl, rfl, _, rfl, ?_⟩
      refine ite2 (fun h0 => ?_) (fun h0 => ?_)
      · have h0' : 0 < mn t3.2.1 w := of_decide_eq_true h0
        obtain ⟨xq, hxq, hpq⟩ := id hQ'
        have hlq : xq.length = dq.length := Paired.length hpq
        refine ⟨_, rfl, tyL hxq, _, rfl, _, rfl, _, rfl, (by show 3 ≤ sizeLine; decide), fun p2 hp2 => ?_⟩
        refine ⟨q, xq, _, rfl, rfl, (by rw [upd_ne (ne_of_none hxq hp2)]; exact hxq), line_lt (by omega), ?_⟩
        have hQ2 := tris_push (t := (t3.1, mn t3.2.1 w, t3.2.2)) hp2 hxq hQ'
        have bu2 := butL_push (o := .tup (v3 (t3.1, mn t3.2.1 w, t3.2.2))) hp2 hxq
        refine ⟨_, _, _, _, _, _, _, rfl, fun c o e => bu2 c o (s3 c o e) (ne_of_none e hq0), hB'.but bu2 hxq hqb.symm, hQ2, ?_, ?_, ?_, ?_⟩
        · simp; omega
        · simp; omega
        · rw [eB]; simp; rfl
        · rw [eQ, if_pos h0']; simp; rfl
      · have h0' : ¬ 0 < mn t3.2.1 w := fun z => h0 (decide_eq_true z)
        refine ⟨_, _, _, _, _, _, _, rfl, s3, hB', hQ', ?_, ?_, ?_, ?_⟩
        · simp; omega
        · omega
        · rw [eB]; simp; rfl
        · rw [eQ, if_neg h0']; rfl
    · rintro σ H2 ⟨w, db, dq, v5, v6, v7, v8, rfl, s2, hB, hQ, lb, lq, eB, eQ⟩
      rw [hlx, List.drop_length] at eB eQ
      simp only [takeB, takeP, List.append_nil] at eB eQ
      refine ⟨_, rfl, _, rfl, (by show 2 ≤ sizeLine; decide), fun p hp => ?_⟩
      have s4 := same_new (o := HO.tup [.ref b, .ref q]) hp
      exact k p b q _ (s2.trans s4) (s2.free hp) hb hq0 hqb.symm upd_same (by rw [eB]; exact hB.same s4) (by rw [eQ]; exact hQ.same s4)
theorem ok_oldest_first {t : Adr} (T : Txt K mg t) : FnOk P w K mg base CX0 2 t.a_oldest_first t.d_oldest_first ["lots", "amount"] spTake := by
  have G_take_along : FnOk P w K mg base CX0 1 t.a_take_along t.d_take_along ["lots", "amount"] spTake := ok_take_along T
  refine T.F_oldest_first.ok S_oldest_first (fun vs H Q E h => ?_) (fun cdv A outer s H vs Q E hr h => ?_)
  · obtain ⟨l, ts, am, rfl, _⟩ := h
    rfl
  · obtain ⟨l, ts, am, rfl, hT, hlen, k⟩ := h
    refine ⟨_, (pss_one (ps_ret (pe_call G_take_along hr (by rfl) T.m_take_along T.F_take_along.kp T.b_take_along .nil pass0 (pa_cons (pv 0) (pa_cons (pv 1) pa_nil))))), ?_⟩
    exact ⟨_, rfl, _, rfl, l, ts, am, rfl, hT, hlen, k⟩
theorem ok_newest_first {t : Adr} (T : Txt K mg t) : FnOk P w K mg base CX0 2 t.a_newest_first t.d_newest_first ["lots", "amount"] (spTakeBy downB downP) := by
  have G_take_along : FnOk P w K mg base CX0 1 t.a_take_along t.d_take_along ["lots", "amount"] spTake := ok_take_along T
  refine T.F_newest_first.ok S_newest_first (fun vs H Q E h => ?_) (fun cdv A outer s H vs Q E hr h => ?_)
  · obtain ⟨l, ts, am, rfl, _⟩ := h
    rfl
  · obtain ⟨l, ts, am, rfl, hT, hlen, k⟩ := h
    refine ⟨_, (pss_cons (ps_set (i := 2) S_newest_first.nd rfl (Or.inl rfl) (pe_call G_take_along hr (by rfl) T.m_take_along T.F_take_along.kp T.b_take_along .nil pass0 (pa_cons (pe_listrev rfl (by rfl) T.n_list (by rfl) T.n_reversed (pv 0)) (pa_cons (pv 1) pa_nil))))
      (pss_one (ps_ret (pe_tup (pa_cons (pe_listrev rfl (by rfl) T.n_list (by rfl) T.n_reversed (pe_ix ix_tup (pv 2) pe_int (fun _ _ => rfl))) (pa_cons (pe_ix ix_tup (pv 2) pe_int (fun _ _ => rfl)) pa_nil)))))), ?_⟩
    obtain ⟨xs, hl, hp⟩ := id hT
    refine ⟨_, rfl, l, xs, rfl, SqL.of hl, fun rl hrl => ?_⟩
    have s1 := same_new (o := HO.lst xs.reverse) hrl
    have hTr : Tris (upd H rl (.lst xs.reverse)) rl ts.reverse := ⟨_, upd_same, tris_keep (tk_same s1) (paired_reverse hp)⟩
    generalize (upd H rl (HO.lst xs.reverse)) = H1 at *
    refine ⟨_, rfl, rl, ts.reverse, am, rfl, hTr, by rw [List.length_reverse]; exact hlen, fun p b q H2 s2 hp0 hb0 hq0 hbq hpp hB hP => ?_⟩
    obtain ⟨bs, hbs, hpb⟩ := id hB
    refine ⟨_, rfl, p, _, _, _, rfl, rfl, SqT.of hpp, rfl, b, bs, rfl, SqL.of hbs, fun nb hnb => ?_⟩
    have s3 := same_new (o := HO.lst bs.reverse) hnb
    have hTb : Tris (upd H2 nb (.lst bs.reverse)) nb (downB ts am) := ⟨_, upd_same, tris_keep (tk_same s3) (paired_reverse hpb)⟩
    generalize (upd H2 nb (HO.lst bs.reverse)) = H3 at *
    refine ⟨_, rfl, p, _, _, _, rfl, rfl, SqT.of (s3 _ _ hpp), rfl, (by show 2 ≤ sizeLine; decide), fun r hr0 => ?_⟩
    have s4 := same_new (o := HO.tup [.ref nb, .ref q]) hr0
    have sA := (s1.trans s2).trans s3
    have hqn : nb ≠ q := by
      obtain ⟨qs, hqs, _⟩ := hP
      exact (ne_of_none hqs hnb).symm
    exact k r nb q _ (sA.trans s4) (sA.free hr0) ((s1.trans s2).free hnb) (s1.free hq0) hqn upd_same (hTb.same s4) ((hP.same s3).same s4)
theorem ok_put_back {t : Adr} (T : Txt K mg t) : FnOk P w K mg base CX0 1 t.a_put_back t.d_put_back ["lots", "parts"] spBack := by
  refine T.F_put_back.ok S_put_back (fun vs H Q E h => ?_) (fun cdv A outer s H vs Q E hr h => ?_)
  · obtain ⟨l, q, ts, ps, rfl, _⟩ := h
    rfl
  · obtain ⟨l, q, ts, ps, rfl, hT, hP, hlt, hlp, k⟩ := h
    have hu := hu_of hr
    obtain ⟨xs, hl, hpx⟩ := id hT
    obtain ⟨ys, hq, hpy⟩ := id hP
    have hlx : xs.length = ts.length := Paired.length hpx
    have hly : ys.length = ps.length := Paired.length hpy
    refine ⟨_, (pss_cons (ps_set (i := 2) S_put_back.nd rfl (Or.inr rfl) pe_dnewK)
      (pss_cons (ps_for PassesOwn.never rfl (pi_list (pv 1)) (pg_tup rfl (pgs_cons (pg_name (i := 3) S_put_back.nd rfl (Or.inl rfl)) (pgs_cons (pg_name (i := 4) S_put_back.nd rfl (Or.inl rfl)) (pgs_cons (pg_name (i := 5) S_put_back.nd rfl (Or.inl rfl)) pgs_nil))))
        (pss_one (ps_dput hu (pv 2) (pv 3) (pe_op op_add (pe_dget2 hu (pv 2) (pv 3) pe_int ⟨rfl, rfl, rfl, rfl⟩) (pv 4)) rfl)))
      (pss_one (ps_ret (pe_comp (caps := [(2, "returned")]) (own := ["number", "left", "price"]) rfl (by rfl) (by decide +kernel) rfl (by decide +kernel) (by exact ⟨⟨rfl, rfl, rfl⟩, trivial⟩) (pi_list (pv 0)) (fun C s H ex => (pg_tupK K (n := 3) rfl (pgs_cons (pg_name (i := 1) (show List.Nodup (["returned", "number", "left", "price"] : List Str) by decide +kernel) rfl (Or.inl rfl)) (pgs_cons (pg_name (i := 2) (show List.Nodup (["returned", "number", "left", "price"] : List Str) by decide +kernel) rfl (Or.inl rfl)) (pgs_cons (pg_name (i := 3) (show List.Nodup (["returned", "number", "left", "price"] : List Str) by decide +kernel) rfl (Or.inl rfl)) pgs_nil))))) (fun C s H ex => (pe_tup (pa_cons (pv 1) (pa_cons (pe_op op_add (pv 2) (pe_dget2 hu (pv 0) (pv 1) pe_int ⟨rfl, rfl, rfl, rfl⟩)) (pa_cons (pv 3) pa_nil)))))))))), ?_⟩
    refine fun d hd => ?_
    have s1 := same_new (o := HO.dK []) hd
    refine ⟨_, rfl, q, rfl, ⟨ys, SqL.of (s1 _ _ hq)⟩, for_list (K := K) (a := q) (xs := ys) (fun i σ H2 => ∃ (v3' v4 v5 : Option V), σ = [some (.ref l), some (.ref q), some (.ref d), v3', v4, v5] ∧ Same H H2 ∧ SumsAt H2 d (ps.take i) i) ?_ ?_ ?_ ?_⟩
    · exact ⟨_, _, _, rfl, s1, [], upd_same, Nat.le_refl _, fun k => rfl⟩
    · rintro i σ H2 _ ⟨_, _, _, _, s2, _⟩
      exact SqL.of (s2 _ _ hq)
    · rintro i x σ H2 hx ⟨v3', v4, v5, rfl, s2, kvs, hdk, hlk, hs⟩
      obtain ⟨p, hp, a, rfl, ha⟩ := tri_at hpy hx
      have hi : i < ys.length := (List.getElem?_eq_some_iff.mp hx).1
      refine ⟨a, _, rfl, SqT.of (s2 _ _ ha), rfl, _, _, rfl, _, _, rfl, _, _, rfl, rfl, ?_⟩
      refine ⟨_, rfl, d, rfl, .inl ⟨kvs, .inl hdk⟩, _, rfl, _, DGet.k (k := Sum.inl p.1) hdk, _, rfl, _, _, hs p.1, rfl, _, rfl, _, rfl, d, _, rfl, DPut.k (k := Sum.inl p.1) hdk (line_lt (by omega)), ?_⟩
      refine ⟨_, _, _, rfl, fun c o e => by rw [upd_ne (ne_of_none e hd)]; exact s2 c o e, _, upd_same, Nat.le_trans (length_putK _ _ _) (by omega), fun k => ?_⟩
      rw [take_snoc hp]
      exact sums_put hs k
    rintro σ H2 ⟨v3', v4, v5, rfl, s2, kvs, hdk, hlk, hs⟩
    rw [hly, List.take_length] at hs
    refine ⟨_, rfl, l, rfl, ⟨xs, SqL.of (s2 _ _ hl)⟩, fun acc hacc => comp_list (K := K) (a := l) (acc := acc) (xs := xs) (fun i ys σ H3 => (∃ v1 v2 v3', σ = [some (.ref d), v1, v2, v3']) ∧ Same H2 H3 ∧ H3 acc = some (.lst ys) ∧ ys.length = i ∧ Tris H3 acc ((backM ts ps).take i)) ?_ (line_lt (by omega)) ?_ ?_ ?_⟩
    · exact ⟨⟨_, _, _, rfl⟩, same_new hacc, upd_same, rfl, [], upd_same, by simpa using Paired.nil⟩
    · rintro i ys σ H3 hi ⟨⟨_, _, _, rfl⟩, s3, e1, e2, _⟩
      exact ⟨SqL.of (s3 _ _ (s2 _ _ hl)), e1, e2⟩
    · rintro i x ys σ H3 hx ⟨⟨_, _, _, rfl⟩, s3, e1, e2, hTa⟩
      obtain ⟨t3, ht, b, rfl, hb⟩ := tri_at hpx hx
      refine ⟨b, _, rfl, SqT.of (s3 _ _ (s2 _ _ hb)), rfl, _, _, rfl, _, _, rfl, _, _, rfl, rfl, ?_⟩
      have hdk3 := s3 _ _ hdk
      refine ⟨_, rfl, _, rfl, _, rfl, d, rfl, .inl ⟨kvs, .inl hdk3⟩, _, rfl, _, DGet.k (k := Sum.inl t3.1) hdk3, _, _, rfl, hs t3.1, _, rfl, (by show 3 ≤ sizeLine; decide), fun r hr0 => ?_⟩
      refine ⟨by rw [upd_ne (ne_of_none e1 hr0)]; exact e1, ⟨_, _, _, rfl⟩, fun b o e => butL_push hr0 e1 b o (s3 b o e) (ne_of_none e hacc), upd_same, by simp [e2], ?_⟩
      rw [take_snoc (backM_get ht)]
      exact tris_push (t := (t3.1, t3.2.1 + addUp ps t3.1, t3.2.2)) hr0 e1 hTa
    rintro ys σ H3 ⟨⟨_, _, _, rfl⟩, s3, e1, e2, hTa⟩
    have hfull : (backM ts ps).take xs.length = backM ts ps := List.take_of_length_le (by rw [backM_len]; omega)
    rw [hfull] at hTa
    exact k acc H3 (s2.trans s3) (s2.free hacc) hTa
theorem ok_held {t : Adr} (T : Txt K mg t) : FnOk P w K mg base CX0 1 t.a_held t.d_held ["lots"] spHeld := by
  refine T.F_held.ok S_held (fun vs H Q E h => ?_) (fun cdv A outer s H vs Q E hr h => ?_)
  · obtain ⟨l, ts, rfl, _⟩ := h
    rfl
  · obtain ⟨l, ts, rfl, ⟨xs, hl, hp⟩, hlen, k⟩ := h
    have hlx : xs.length = ts.length := Paired.length hp
    refine ⟨_, (pss_one (ps_ret (pe_callB (call_sumL rfl) (by rfl) T.n_sum bt_sum (pa_cons (pe_comp (caps := []) (own := ["number", "left", "price"]) rfl (by rfl) (by decide +kernel) rfl (by decide +kernel) (by exact trivial) (pi_list (pv 0)) (fun C s H ex => (pg_tupK K (n := 3) rfl (pgs_cons (pg_name (i := 0) (show List.Nodup (["number", "left", "price"] : List Str) by decide +kernel) rfl (Or.inl rfl)) (pgs_cons (pg_name (i := 1) (show List.Nodup (["number", "left", "price"] : List Str) by decide +kernel) rfl (Or.inl rfl)) (pgs_cons (pg_name (i := 2) (show List.Nodup (["number", "left", "price"] : List Str) by decide +kernel) rfl (Or.inl rfl)) pgs_nil))))) (fun C s H ex => (pv 1))) pa_nil)))), ?_⟩
    refine ⟨_, rfl, l, rfl, ⟨xs, SqL.of hl⟩, fun acc hacc => comp_list (K := K) (a := l) (acc := acc) (xs := xs) (fun i ys σ H2 => ys = (ts.take i).map (fun t => V.int t.2.1) ∧ H2 = upd H acc (.lst ys) ∧ ∃ v0 v1 v2, σ = [v0, v1, v2]) ?_ (line_lt (by omega)) ?_ ?_ ?_⟩
    · exact ⟨by simp, rfl, _, _, _, rfl⟩
    · rintro i ys σ H2 hi ⟨rfl, rfl, _, _, _, rfl⟩
      exact ⟨SqL.of (same_new hacc _ _ hl), upd_same, by rw [List.length_map, List.length_take]; omega⟩
    · rintro i x ys σ H2 hx ⟨rfl, rfl, _, _, _, rfl⟩
      obtain ⟨t3, ht, b, rfl, hb⟩ := tri_at hp hx
      refine ⟨b, _, rfl, SqT.of (same_new hacc _ _ hb), rfl, _, _, rfl, _, _, rfl, _, _, rfl, rfl, ?_⟩
      refine ⟨_, rfl, upd_same, ?_, ?_, _, _, _, rfl⟩
      · rw [take_snoc ht, List.map_append]
        rfl
      · rw [upd_upd]
    rintro ys σ H2 ⟨rfl, rfl, _, _, _, rfl⟩
    have htake : (ts.take xs.length).map (fun t => V.int t.2.1) = (ts.map (·.2.1)).map V.int := by
      rw [hlx, List.take_length, List.map_map]
      rfl
    refine ⟨acc, ts.map (·.2.1), rfl, SqL.of (by rw [upd_same, htake]), ?_⟩
    exact k _ (same_new hacc)
theorem ok_init {t : Adr} (T : Txt K mg t) : FnOk P w K mg base CX0 1 t.a_init t.d_init ["self"] (spInit t.a_Barn) := by
  refine T.F_init.ok S_init (fun vs H Q E h => ?_) (fun cdv A outer s H vs Q E hr h => ?_)
  · obtain ⟨p, dx, rfl, _⟩ := h
    rfl
  · obtain ⟨p, dx, rfl, hp, k⟩ := h
    refine ⟨_, (pss_cons (ps_fld (pv 0) pe_dnewK rfl)
      (pss_cons (ps_fld (pv 0) pe_int rfl)
      (pss_one (ps_fld (pv 0) (pe_lst pa_nil) rfl)))), ?_⟩
    intro d hd
    have npd : p ≠ d := ne_of_none hp hd
    refine ⟨_, rfl, p, t.a_Barn, dx, [], rfl, (by rw [upd_ne npd]; exact hp), T.cl, T.no_lots_by_ware, (by show 0 < 1000; decide), ?_⟩
    refine ⟨_, rfl, p, t.a_Barn, dx, _, rfl, upd_same, T.cl, T.no_lots_come, (by show 1 < 1000; decide), ?_⟩
    refine ⟨(by show 0 ≤ sizeLine; decide), fun u hu0 => ?_⟩
    have npu : p ≠ u := fun e => by rw [e, upd_same] at hu0; cases hu0
    have ndu : d ≠ u := fun e => by rw [e, upd_ne npu.symm, upd_ne npu.symm, ← e, upd_same] at hu0; cases hu0
    have hu1 : H u = none := by
      rw [upd_ne npu.symm, upd_ne npu.symm, upd_ne ndu.symm] at hu0
      exact hu0
    refine ⟨_, rfl, p, t.a_Barn, dx, _, rfl, (by rw [upd_ne npu, upd_same]), T.cl, T.no_uses, ?_, ?_⟩
    · exact Nat.lt_of_le_of_lt (length_putF _ _ _) (by show 1 + 1 < 1000; decide)
    refine k d u _ hd hu1 ndu (fun Z hZ => ⟨List.mem_cons_self, ?_, ⟨dx, upd_same⟩, ⟨[], by rw [upd_ne npd.symm, upd_ne ndu, upd_ne npd.symm, upd_ne npd.symm, upd_same], .nil⟩, ⟨[], by rw [upd_ne npu.symm, upd_same], .nil⟩⟩) fun b o e hb => ?_
    · intro z hz
      rcases List.mem_cons.mp hz with rfl | hz
      · exact ⟨_, by rw [upd_ne npu.symm, upd_same]⟩
      · obtain ⟨o, e⟩ := hZ z hz
        exact occ_upd (Z := [z]) (occ_upd (occ_upd (occ_upd (occ_upd (fun y hy => by rw [List.mem_singleton.mp hy]; exact ⟨o, e⟩))))) z List.mem_cons_self
    rw [upd_ne hb, upd_ne (ne_of_none e hu1), upd_ne hb, upd_ne hb, upd_ne (ne_of_none e hd)]
    exact e
theorem ok_lots_of {t : Adr} (T : Txt K mg t) : FnOk P w K mg base CX0 1 t.a_lots_of t.d_lots_of ["self", "ware"] (spLotsOf t.a_Barn) := by
  refine T.F_lots_of.ok S_lots_of (fun vs H Q E h => ?_) (fun cdv A outer s H vs Q E hr h => ?_)
  · obtain ⟨Z, p, d, u, b, w, rfl, _⟩ := h
    rfl
  · obtain ⟨Z, p, d, u, b, w, rfl, B, k⟩ := h
    have hu := hu_of hr
    obtain ⟨_, _, ⟨dx, hp⟩, ⟨kvs, hd, hk⟩, ⟨xs, hxs, _⟩⟩ := id B
    refine ⟨_, (pss_one (ps_ret (pe_dget2 hu (pe_fld (pv 0) rfl) (pv 1) (pe_lst pa_nil) ⟨rfl, rfl, rfl, rfl⟩))), ?_⟩
    refine ⟨_, rfl, p, t.a_Barn, dx, _, _, rfl, hp, T.cl, T.no_lots_by_ware, flds_ware _ _ _, d, rfl, .inl ⟨kvs, .inl hd⟩, _, rfl, (by show 0 ≤ sizeLine; decide), fun e he => ?_⟩
    have s1 := same_new (o := HO.lst []) he
    refine ⟨_, DGet.k (k := Sum.inr w) (s1 _ _ hd), ?_⟩
    rcases ware_val (w := w) hk with ⟨h1, h2⟩ | ⟨a, h1, h2, h3⟩
    · rw [h1]
      exact k e _ s1 (B.fresh he) (by rw [h2]; exact ⟨[], upd_same, .nil⟩)
    · rw [h1]
      exact k a _ s1 h2 (h3.same s1)
theorem ok_come {t : Adr} (T : Txt K mg t) : FnOk P w K mg base CX0 2 t.a_come t.d_come ["self", "ware", "amount", "price"] (spCome t.a_Barn) := by
  have G_lots_of : FnOk P w K mg base CX0 1 t.a_lots_of t.d_lots_of ["self", "ware"] (spLotsOf t.a_Barn) := ok_lots_of T
  refine T.F_come.ok S_come (fun vs H Q E h => ?_) (fun cdv A outer s H vs Q E hr h => ?_)
  · obtain ⟨Z, p, d, u, b, w, am, pr, rfl, _⟩ := h
    rfl
  · obtain ⟨Z, p, d, u, b, w, am, pr, rfl, B, hs, k⟩ := h
    have hu := hu_of hr
    have hr1 := hr
    obtain ⟨_, _, ⟨dx, hp⟩, _, _⟩ := id B
    refine ⟨_, (pss_cons (ps_set (i := 4) S_come.nd rfl (Or.inl rfl) (pe_fld (pv 0) rfl))
      (pss_cons (ps_fld (pv 0) (pe_op op_add (pv 4) pe_int) rfl)
      (pss_cons (ps_dput hu (pe_fld (pv 0) rfl) (pv 1) (pe_op op_cat (pe_meth (pv 0) T.cl T.me_lots_of G_lots_of hr1 T.b_lots_of .nil pass0 (pa_cons (pv 1) pa_nil)) (pe_lst (pa_cons (pe_tup (pa_cons (pv 4) (pa_cons (pv 2) (pa_cons (pv 3) pa_nil)))) pa_nil))) rfl)
      (pss_one (ps_ret (pv 4)))))), ?_⟩
    refine ⟨_, rfl, p, t.a_Barn, dx, _, _, rfl, hp, T.cl, T.no_lots_come, flds_come _ _ _, ?_⟩
    refine ⟨_, rfl, _, _, rfl, rfl, _, rfl, p, t.a_Barn, dx, _, rfl, hp, T.cl, T.no_lots_come, flds_few _ _ _, ?_⟩
    have e1 : putF "lots_come" (V.int ((b.n : Int) + 1)) (flds d b.n u) = flds d (b.n + 1) u := flds_put d b.n (b.n + 1) u
    obtain ⟨B1, k1⟩ := barn_come B hp (b.n + 1)
    rw [← e1] at B1 k1
    obtain ⟨_, _, ⟨dx1, hp1⟩, _, ⟨xu1, hxu1, _⟩⟩ := id B1
    refine ⟨_, rfl, p, dx1, _, rfl, hp1, flds_no _ _ _ (by decide +kernel) (by decide +kernel) (by decide +kernel), _, rfl, Z, p, d, u, _, w, rfl, B1, fun l H2 s2 hlu hTl => ?_⟩
    obtain ⟨xl, hxl, hpl⟩ := id hTl
    have hll : xl.length = (lotsW b.L w).length := Paired.length hpl
    have hsz := hs.t w
    have B2 := B1.same s2
    refine ⟨_, rfl, _, rfl, _, rfl, (by show 3 ≤ sizeLine; decide), fun t1 ht1 => ?_⟩
    have s3 := same_new (o := HO.tup [.int (b.n : Int), .int am, .int pr]) ht1
    refine ⟨(by show 1 ≤ sizeLine; decide), fun l1 hl1 => ?_⟩
    have s4 := s3.trans (same_new (o := HO.lst [.ref t1]) hl1)
    have ht4 : (upd (upd H2 t1 (HO.tup [.int (b.n : Int), .int am, .int pr])) l1 (HO.lst [.ref t1])) t1 = some (.tup (v3 ((b.n : Int), am, pr))) := same_new hl1 _ _ upd_same
    refine ⟨l, l1, xl, [.ref t1], rfl, rfl, s4 _ _ hxl, upd_same, line_le (by simp; omega), fun nl hnl => ?_⟩
    have s5 := s4.trans (same_new (o := HO.lst (xl ++ [.ref t1])) hnl)
    have hT5 : Tris (upd (upd (upd H2 t1 (HO.tup [.int (b.n : Int), .int am, .int pr])) l1 (HO.lst [.ref t1])) nl (HO.lst (xl ++ [.ref t1]))) nl (lotsW b.L w ++ [((b.n : Int), am, pr)]) :=
      ⟨_, upd_same, Paired.snoc (tris_keep (tk_same s5) hpl) ⟨t1, rfl, same_new hnl _ _ ht4⟩⟩
    have B5 := B2.same s5
    obtain ⟨_, _, ⟨dx5, hp5⟩, ⟨kv5, hd5, hk5⟩, ⟨xu5, hxu5, _⟩⟩ := id B5
    have hnu := (B1.same (s2.trans s4)).fresh hnl
    have hkl : kv5.length ≤ 300 := by rw [Paired.length hk5]; exact hs.l
    refine ⟨_, rfl, p, t.a_Barn, dx5, _, _, rfl, hp5, T.cl, T.no_lots_by_ware, flds_ware _ _ _, _, rfl, d, _, rfl, DPut.k (k := Sum.inr w) hd5 (lt300 hkl), ?_⟩
    obtain ⟨B6, k6⟩ := barn_dput (w := w) B5 hd5 hnu hT5
    exact ⟨_, rfl, k _ B6 ((k1.trans (kb_same (s2.trans s5))).trans k6)⟩
theorem ok_use {t : Adr} (T : Txt K mg t) : FnOk P w K mg base CX0 3 t.a_use t.d_use ["self", "ware", "amount"] (spUse t.a_Barn) := by
  have G_lots_of : FnOk P w K mg base CX0 2 t.a_lots_of t.d_lots_of ["self", "ware"] (spLotsOf t.a_Barn) := (ok_lots_of T).mono (by decide)
  have G_held : FnOk P w K mg base CX0 2 t.a_held t.d_held ["lots"] spHeld := (ok_held T).mono (by decide)
  have G_oldest_first : FnOk P w K mg base CX0 2 t.a_oldest_first t.d_oldest_first ["lots", "amount"] spTake := ok_oldest_first T
  refine T.F_use.ok S_use (fun vs H Q E h => ?_) (fun cdv A outer s H vs Q E hr h => ?_)
  · obtain ⟨Z, p, d, u, b, w, am, rfl, _⟩ := h
    rfl
  · obtain ⟨Z, p, d, u, b, w, am, rfl, B, hs, k⟩ := h
    have hu := hu_of hr
    have hr1 := hr
    obtain ⟨_, _, ⟨dx, hp⟩, _, _⟩ := id B
    have hsz := hs.t w
    refine ⟨_, (pss_cons (ps_set (i := 3) S_use.nd rfl (Or.inl rfl) (pe_meth (pv 0) T.cl T.me_lots_of G_lots_of hr1 T.b_lots_of .nil pass0 (pa_cons (pv 1) pa_nil)))
      (pss_cons (ps_if (pt_cmpR op_lt (pe_call G_held hr (by rfl) T.m_held T.F_held.kp T.b_held .nil pass0 (pa_cons (pv 3) pa_nil)) (pv 2) (nomark _))
        (pss_one (ps_ret pe_non))
        pss_nil)
      (pss_cons (ps_set (i := 4) S_use.nd rfl (Or.inl rfl) (pe_call G_oldest_first hr (by rfl) T.m_oldest_first T.F_oldest_first.kp T.b_oldest_first .nil pass0 (pa_cons (pv 3) (pa_cons (pv 2) pa_nil))))
      (pss_cons (ps_dput hu (pe_fld (pv 0) rfl) (pv 1) (pe_ix ix_tup (pv 4) pe_int (fun _ _ => rfl)) rfl)
      (pss_cons (ps_set (i := 5) S_use.nd rfl (Or.inl rfl) (pe_callB (call_len_seq) (by rfl) T.n_len bt_len (pa_cons (pe_fld (pv 0) rfl) pa_nil)))
      (pss_cons (ps_expr (pe_bm F.plainAttrs_list F.slot_list_append F.type_list_append mt_append (pe_fld (pv 0) rfl) (pa_cons (pe_tup (pa_cons (pv 1) (pa_cons (pe_callTy (call_list_of) (by rfl) T.n_list bt_list (pa_cons (pe_ix ix_tup (pv 4) pe_int (fun _ _ => rfl)) pa_nil)) pa_nil))) pa_nil)))
      (pss_one (ps_ret (pe_tup (pa_cons (pv 5) (pa_cons (pe_ix ix_tup (pv 4) pe_int (fun _ _ => rfl)) pa_nil))))))))))), ?_⟩
    refine ⟨_, rfl, p, dx, _, rfl, hp, flds_no _ _ _ (by decide +kernel) (by decide +kernel) (by decide +kernel), _, rfl, Z, p, d, u, _, w, rfl, B, fun l H1 s1 hlu hTl => ?_⟩
    refine ⟨_, rfl, l, _, rfl, hTl, by omega, fun H2 s2 => ?_⟩
    refine ⟨_, rfl, _, _, rfl, rfl, _, rfl, ?_⟩
    have s12 := s1.trans s2
    refine ite2 (fun hlt => ?_) (fun hge => ?_)
    · have hlt' : held (lotsW b.L w) < am := of_decide_eq_true hlt
      have e : useB b w am = (b, .no) := by unfold useB; rw [if_pos hlt']
      rw [e] at k
      exact k .non _ (B.same s12) rfl (kb_same s12)
    · have hge' : ¬ held (lotsW b.L w) < am := fun z => hge (decide_eq_true z)
      have e : useB b w am = (⟨putW b.L w (takeB (lotsW b.L w) am), b.n, b.U ++ [(w, takeP (lotsW b.L w) am)]⟩, .use b.U.length (takeP (lotsW b.L w) am)) := by unfold useB; rw [if_neg hge']
      rw [e] at k
      refine ⟨_, rfl, _, rfl, l, _, am, rfl, hTl.same s2, by omega, fun p3 b3 q3 H3 s3 hp30 hb30 hq30 hbq hp3 hB3 hP3 => ?_⟩
      have s13 := s12.trans s3
      have B3 := B.same s13
      obtain ⟨_, _, ⟨dx3, hpp3⟩, ⟨kv3, hd3, hk3⟩, ⟨xu3, hxu3, _⟩⟩ := id B3
      have hb3u := (B.same s12).fresh hb30
      have hq3u := (B.same s12).fresh hq30
      have hkl : kv3.length ≤ 300 := by rw [Paired.length hk3]; exact hs.l
      -- self.lots_by_ware[ware] = taken[0]
      refine ⟨_, rfl, p3, _, _, _, rfl, rfl, SqT.of hp3, rfl, _, rfl, p, t.a_Barn, dx3, _, _, rfl, hpp3, T.cl, T.no_lots_by_ware, flds_ware _ _ _, _, rfl, d, _, rfl, DPut.k (k := Sum.inr w) hd3 (lt300 hkl), ?_⟩
      obtain ⟨B4, k4⟩ := barn_dput (w := w) B3 hd3 hb3u hB3
      have kl4 := kl_kb B3 k4
      have hp4 := kl4.t _ _ hp3
      have hP4 := hP3.kl kl4 hq3u
      generalize (upd H3 d (HO.dK (putK kv3 (Sum.inr w : Key) (V.ref b3)))) = H4 at *
      obtain ⟨_, _, ⟨dx4, hpp4⟩, ⟨kv4, hd4, hk4⟩, ⟨xu4, hxu4, hpu4⟩⟩ := id B4
      have hlu4 : xu4.length = b.U.length := Paired.length hpu4
      have hszu := hs.u
      -- number = len(self.uses)
      refine ⟨_, rfl, p, t.a_Barn, dx4, _, _, rfl, hpp4, T.cl, T.no_uses, flds_uses _ _ _, _, _, rfl, .inl (SqL.of hxu4), ?_⟩
      -- self.uses.append((ware, list(taken[1])))
      obtain ⟨yq, hyq, hpyq⟩ := id hP4
      refine ⟨_, rfl, p, t.a_Barn, dx4, _, _, rfl, hpp4, T.cl, T.no_uses, flds_uses _ _ _, tyL hxu4, _, rfl, _, rfl, p3, _, _, _, rfl, rfl, SqT.of hp4, rfl, q3, yq, rfl, .inl (SqL.of hyq), fun cp hcp => ?_⟩
      have s5 := same_new (o := HO.lst yq) hcp
      have hTc : Tris (upd H4 cp (HO.lst yq)) cp (takeP (lotsW b.L w) am) := ⟨yq, upd_same, tris_keep (tk_same s5) hpyq⟩
      have hcu := B4.fresh hcp
      generalize (upd H4 cp (HO.lst yq)) = H5 at *
      refine ⟨(by show 2 ≤ sizeLine; decide), fun tp htp => ?_⟩
      have s6 := same_new (o := HO.tup [.str w, .ref cp]) htp
      have htp6 : (upd H5 tp (HO.tup [.str w, .ref cp])) tp = some (.tup [.str w, .ref cp]) := upd_same
      generalize (upd H5 tp (HO.tup [.str w, .ref cp])) = H6 at *
      have s46 := s5.trans s6
      have B6 := B4.same s46
      have hxu6 := s46 _ _ hxu4
      refine ⟨u, xu4, _, rfl, rfl, hxu6, line_lt (by omega), ?_⟩
      have hU6 : Paired (UseAt Z H6) (xu4 ++ [.ref tp]) (b.U ++ [(w, takeP (lotsW b.L w) am)]) := Paired.snoc (L2.Paired.imp' (fun _ _ z => z.kl (kl_same s46)) hpu4) ⟨tp, cp, rfl, htp6, hcu, hTc.same s6⟩
      obtain ⟨B7, k7⟩ := barn_uses B6 hU6
      have kl7 := kl_kb B6 k7
      have hp7 := kl7.t _ _ (s46 _ _ hp4)
      have hP7 := (hP4.same s46).kl kl7 hq3u
      generalize (upd H6 u (HO.lst (xu4 ++ [V.ref tp]))) = H7 at *
      -- return (number, taken[1])
      refine ⟨_, rfl, _, rfl, p3, _, _, _, rfl, rfl, SqT.of hp7, rfl, (by show 2 ≤ sizeLine; decide), fun rt hrt => ?_⟩
      have s8 := same_new (o := HO.tup [.int (b.U.length : Int), .ref q3]) hrt
      rw [hlu4]
      exact k (.ref rt) _ (B7.same s8) ⟨rt, q3, rfl, upd_same, hq3u, hP7.same s8⟩ (((((kb_same s13).trans k4).trans (kb_same s46)).trans k7).trans (kb_same s8))
theorem ok_lose {t : Adr} (T : Txt K mg t) : FnOk P w K mg base CX0 3 t.a_lose t.d_lose ["self", "ware", "missing"] (spLose t.a_Barn) := by
  have G_lots_of : FnOk P w K mg base CX0 2 t.a_lots_of t.d_lots_of ["self", "ware"] (spLotsOf t.a_Barn) := (ok_lots_of T).mono (by decide)
  have G_newest_first : FnOk P w K mg base CX0 2 t.a_newest_first t.d_newest_first ["lots", "amount"] (spTakeBy downB downP) := ok_newest_first T
  refine T.F_lose.ok S_lose (fun vs H Q E h => ?_) (fun cdv A outer s H vs Q E hr h => ?_)
  · obtain ⟨Z, p, d, u, b, w, am, rfl, _⟩ := h
    rfl
  · obtain ⟨Z, p, d, u, b, w, am, rfl, B, hs, k⟩ := h
    have hu := hu_of hr
    have hr1 := hr
    obtain ⟨_, _, ⟨dx, hp⟩, _, _⟩ := id B
    have hsz := hs.t w
    refine ⟨_, (pss_cons (ps_set (i := 3) S_lose.nd rfl (Or.inl rfl) (pe_call G_newest_first hr (by rfl) T.m_newest_first T.F_newest_first.kp T.b_newest_first .nil pass0 (pa_cons (pe_meth (pv 0) T.cl T.me_lots_of G_lots_of hr1 T.b_lots_of .nil pass0 (pa_cons (pv 1) pa_nil)) (pa_cons (pv 2) pa_nil))))
      (pss_cons (ps_dput hu (pe_fld (pv 0) rfl) (pv 1) (pe_ix ix_tup (pv 3) pe_int (fun _ _ => rfl)) rfl)
      (pss_one (ps_ret (pe_ix ix_tup (pv 3) pe_int (fun _ _ => rfl)))))), ?_⟩
    refine ⟨_, rfl, p, dx, _, rfl, hp, flds_no _ _ _ (by decide +kernel) (by decide +kernel) (by decide +kernel), _, rfl, Z, p, d, u, _, w, rfl, B, fun l H1 s1 hlu hTl => ?_⟩
    refine ⟨_, rfl, l, _, am, rfl, hTl, by omega, fun p3 b3 q3 H3 s3 hp30 hb30 hq30 hbq hp3 hB3 hP3 => ?_⟩
    have s13 := s1.trans s3
    have B3 := B.same s13
    obtain ⟨_, _, ⟨dx3, hpp3⟩, ⟨kv3, hd3, hk3⟩, _⟩ := id B3
    obtain ⟨_, _, _, _, ⟨xu1, hxu1, _⟩⟩ := B.same s1
    have hb3u := (B.same s1).fresh hb30
    have hq3u := (B.same s1).fresh hq30
    have hkl : kv3.length ≤ 300 := by rw [Paired.length hk3]; exact hs.l
    refine ⟨_, rfl, p3, _, _, _, rfl, rfl, SqT.of hp3, rfl, _, rfl, p, t.a_Barn, dx3, _, _, rfl, hpp3, T.cl, T.no_lots_by_ware, flds_ware _ _ _, _, rfl, d, _, rfl, DPut.k (k := Sum.inr w) hd3 (lt300 hkl), ?_⟩
    obtain ⟨B4, k4⟩ := barn_dput (w := w) B3 hd3 hb3u hB3
    have kl4 := kl_kb B3 k4
    refine ⟨_, rfl, p3, _, _, _, rfl, rfl, SqT.of (kl4.t _ _ hp3), rfl, ?_⟩
    exact k q3 _ B4 hq3u (hP3.kl kl4 hq3u) ((kb_same s13).trans k4)
theorem ok_gain {t : Adr} (T : Txt K mg t) : FnOk P w K mg base CX0 3 t.a_gain t.d_gain ["self", "ware", "over"] (spGain t.a_Barn) := by
  have G_lots_of : FnOk P w K mg base CX0 2 t.a_lots_of t.d_lots_of ["self", "ware"] (spLotsOf t.a_Barn) := (ok_lots_of T).mono (by decide)
  have G_come : FnOk P w K mg base CX0 2 t.a_come t.d_come ["self", "ware", "amount", "price"] (spCome t.a_Barn) := ok_come T
  refine T.F_gain.ok S_gain (fun vs H Q E h => ?_) (fun cdv A outer s H vs Q E hr h => ?_)
  · obtain ⟨Z, p, d, u, b, w, am, rfl, _⟩ := h
    rfl
  · obtain ⟨Z, p, d, u, b, w, am, rfl, B, hs, k⟩ := h
    have hu := hu_of hr
    have hr1 := hr
    obtain ⟨_, _, ⟨dx, hp⟩, _, _⟩ := id B
    refine ⟨_, (pss_cons (ps_set (i := 3) S_gain.nd rfl (Or.inl rfl) (pe_meth (pv 0) T.cl T.me_lots_of G_lots_of hr1 T.b_lots_of .nil pass0 (pa_cons (pv 1) pa_nil)))
      (pss_cons (ps_set (i := 4) S_gain.nd rfl (Or.inl rfl) (pe_ifExp (pt_cmpR op_gt (pe_callB (call_len_seq) (by rfl) T.n_len bt_len (pa_cons (pv 3) pa_nil)) pe_int (nomark _)) (pe_ix ix_tup (pe_ix ix_list (pv 3) (pe_un un_neg pe_int) (fun _ _ => rfl)) pe_int (fun _ _ => rfl)) pe_int))
      (pss_cons (ps_set (i := 5) S_gain.nd rfl (Or.inl rfl) (pe_meth (pv 0) T.cl T.me_come G_come hr1 T.b_come .nil pass0 (pa_cons (pv 1) (pa_cons (pv 2) (pa_cons (pv 4) pa_nil)))))
      (pss_one (ps_ret (pe_lst (pa_cons (pe_tup (pa_cons (pv 5) (pa_cons (pv 2) (pa_cons (pv 4) pa_nil)))) pa_nil))))))), ?_⟩
    refine ⟨_, rfl, p, dx, _, rfl, hp, flds_no _ _ _ (by decide +kernel) (by decide +kernel) (by decide +kernel), _, rfl, Z, p, d, u, _, w, rfl, B, fun l H1 s1 hlu hTl => ?_⟩
    obtain ⟨xl, hxl, hpl⟩ := id hTl
    have B1 := B.same s1
    obtain ⟨_, _, ⟨dx1, hp1⟩, _, _⟩ := id B1
    -- both ways: the price is the newest lot's, or nought
    have fin : ∀ (pr : Int), pr = newestPrice (lotsW b.L w) → ∀ H2, BarnAt t.a_Barn Z H2 p d u (comeB b w am pr) → KB p d u H1 H2 → ∀ t1, H2 t1 = none → ∀ l1, (upd H2 t1 (HO.tup [.int (b.n : Int), .int am, .int pr])) l1 = none →
        Q (.ref l1) (upd (upd H2 t1 (HO.tup [.int (b.n : Int), .int am, .int pr])) l1 (HO.lst [.ref t1])) := by
      intro pr epr H2 B2 k2 t1 ht1 l1 hl1
      subst epr
      have s4 := (same_new (o := HO.tup [.int (b.n : Int), .int am, .int (newestPrice (lotsW b.L w))]) ht1).trans (same_new (o := HO.lst [.ref t1]) hl1)
      have ht4 : (upd (upd H2 t1 (HO.tup [.int (b.n : Int), .int am, .int (newestPrice (lotsW b.L w))])) l1 (HO.lst [.ref t1])) t1 = some (.tup (v3 ((b.n : Int), am, newestPrice (lotsW b.L w)))) := same_new hl1 _ _ upd_same
      obtain ⟨_, _, _, _, ⟨xu2, hxu2, _⟩⟩ := id B2
      have hlu1 := (B2.same (same_new (o := HO.tup [.int (b.n : Int), .int am, .int (newestPrice (lotsW b.L w))]) ht1)).fresh hl1
      exact k l1 _ (B2.same s4) hlu1 ⟨_, upd_same, .cons ⟨t1, rfl, ht4⟩ .nil⟩ (((kb_same s1).trans k2).trans (kb_same s4))
    refine ⟨_, rfl, _, _, rfl, .inl (SqL.of hxl), _, _, rfl, rfl, _, rfl, ?_⟩
    refine ite2 (fun hlt => ?_) (fun hge => ?_)
    · have hlt' : (0 : Int) < ((xl.length : Nat) : Int) := of_decide_eq_true hlt
      obtain ⟨ys, y, rfl⟩ : ∃ ys y, xl = ys ++ [y] := by
        rcases List.eq_nil_or_concat xl with h | ⟨ys, y, h⟩
        · subst h; simp at hlt'
        · exact ⟨ys, y, by simpa using h⟩
      have hlen := Paired.length hpl
      have hy : (ys ++ [y])[ys.length]? = some y := by simp
      obtain ⟨t3, ht3, a3, rfl, ha3⟩ := tri_at hpl hy
      have epr : t3.2.2 = newestPrice (lotsW b.L w) := by
        unfold newestPrice
        have : (lotsW b.L w).getLast? = some t3 := by
          rw [List.getLast?_eq_getElem?]
          have e : (lotsW b.L w).length - 1 = ys.length := by rw [← hlen]; simp
          rw [e]
          exact ht3
        rw [this]
        rfl
      refine ⟨_, rfl, _, rfl, l, _, _, _, rfl, rfl, SqL.of hxl, atI_last ys _, a3, _, _, _, rfl, rfl, SqT.of ha3, rfl, ?_⟩
      refine ⟨_, rfl, p, dx1, _, rfl, hp1, flds_no _ _ _ (by decide +kernel) (by decide +kernel) (by decide +kernel), _, rfl, _, rfl, _, rfl, Z, p, d, u, b, w, am, t3.2.2, rfl, B1, hs, fun H2 B2 k2 => ?_⟩
      refine ⟨_, rfl, _, rfl, _, rfl, (by show 3 ≤ sizeLine; decide), fun t1 ht1 => ?_⟩
      refine ⟨(by show 1 ≤ sizeLine; decide), fun l1 hl1 => ?_⟩
      exact fin t3.2.2 epr H2 B2 k2 t1 ht1 l1 hl1
    · have hge' : ¬ (0 : Int) < ((xl.length : Nat) : Int) := fun z => hge (decide_eq_true z)
      have hnil : xl = [] := List.length_eq_zero_iff.mp (by omega)
      subst hnil
      have hlw : lotsW b.L w = [] := by
        have hpl' : Paired (Tri H1) [] (lotsW b.L w) := hpl
        cases hw : lotsW b.L w with
        | nil => rfl
        | cons z r => rw [hw] at hpl'; cases hpl'
      have epr : (0 : Int) = newestPrice (lotsW b.L w) := by rw [hlw]; rfl
      refine ⟨_, rfl, p, dx1, _, rfl, hp1, flds_no _ _ _ (by decide +kernel) (by decide +kernel) (by decide +kernel), _, rfl, _, rfl, _, rfl, Z, p, d, u, b, w, am, 0, rfl, B1, hs, fun H2 B2 k2 => ?_⟩
      refine ⟨_, rfl, _, rfl, _, rfl, (by show 3 ≤ sizeLine; decide), fun t1 ht1 => ?_⟩
      refine ⟨(by show 1 ≤ sizeLine; decide), fun l1 hl1 => ?_⟩
      exact fin 0 epr H2 B2 k2 t1 ht1 l1 hl1
theorem ok_give_back {t : Adr} (T : Txt K mg t) : FnOk P w K mg base CX0 3 t.a_give_back t.d_give_back ["self", "use_number", "amount"] (spGive t.a_Barn) := by
  have G_lots_of : FnOk P w K mg base CX0 2 t.a_lots_of t.d_lots_of ["self", "ware"] (spLotsOf t.a_Barn) := (ok_lots_of T).mono (by decide)
  have G_held : FnOk P w K mg base CX0 2 t.a_held t.d_held ["lots"] spHeld := (ok_held T).mono (by decide)
  have G_newest_first : FnOk P w K mg base CX0 2 t.a_newest_first t.d_newest_first ["lots", "amount"] (spTakeBy downB downP) := ok_newest_first T
  have G_put_back : FnOk P w K mg base CX0 2 t.a_put_back t.d_put_back ["lots", "parts"] spBack := (ok_put_back T).mono (by decide)
  refine T.F_give_back.ok S_give_back (fun vs H Q E h => ?_) (fun cdv A outer s H vs Q E hr h => ?_)
  · obtain ⟨Z, p, d, u, b, kn, am, rfl, _⟩ := h
    rfl
  · obtain ⟨Z, p, d, u, b, kn, am, rfl, B, hs, k⟩ := h
    have hu := hu_of hr
    have hr1 := hr
    obtain ⟨_, _, ⟨dx, hp⟩, ⟨kvs, hd, hk⟩, ⟨xu, hxu, hpu⟩⟩ := id B
    have hlu : xu.length = b.U.length := Paired.length hpu
    refine ⟨_, (pss_cons (ps_if (PW.pt (pw_or (pt_cmpR op_lt (pv 1) pe_int (nomark _)) (pw_or1 (pt_cmpR op_ge (pv 1) (pe_callB (call_len_seq) (by rfl) T.n_len bt_len (pa_cons (pe_fld (pv 0) rfl) pa_nil)) (nomark _)))))
        (pss_one (ps_ret pe_non))
        pss_nil)
      (pss_cons (ps_set (i := 3) S_give_back.nd rfl (Or.inl rfl) (pe_ix ix_tup (pe_ix ix_list (pe_fld (pv 0) rfl) (pv 1) (fun _ _ => rfl)) pe_int (fun _ _ => rfl)))
      (pss_cons (ps_set (i := 4) S_give_back.nd rfl (Or.inl rfl) (pe_ix ix_tup (pe_ix ix_list (pe_fld (pv 0) rfl) (pv 1) (fun _ _ => rfl)) pe_int (fun _ _ => rfl)))
      (pss_cons (ps_if (pt_cmpR op_lt (pe_call G_held hr (by rfl) T.m_held T.F_held.kp T.b_held .nil pass0 (pa_cons (pv 4) pa_nil)) (pv 2) (nomark _))
        (pss_one (ps_ret pe_non))
        pss_nil)
      (pss_cons (ps_set (i := 5) S_give_back.nd rfl (Or.inl rfl) (pe_call G_newest_first hr (by rfl) T.m_newest_first T.F_newest_first.kp T.b_newest_first .nil pass0 (pa_cons (pv 4) (pa_cons (pv 2) pa_nil))))
      (pss_cons (ps_asg (pe_tup (pa_cons (pv 3) (pa_cons (pe_ix ix_tup (pv 5) pe_int (fun _ _ => rfl)) pa_nil))) (pg_sub (pe_fld (pv 0) rfl) (pv 1) set_list))
      (pss_cons (ps_dput hu (pe_fld (pv 0) rfl) (pv 3) (pe_call G_put_back hr (by rfl) T.m_put_back T.F_put_back.kp T.b_put_back .nil pass0 (pa_cons (pe_meth (pv 0) T.cl T.me_lots_of G_lots_of hr1 T.b_lots_of .nil pass0 (pa_cons (pv 3) pa_nil)) (pa_cons (pe_ix ix_tup (pv 5) pe_int (fun _ _ => rfl)) pa_nil))) rfl)
      (pss_one (ps_ret (pe_ix ix_tup (pv 5) pe_int (fun _ _ => rfl))))))))))), ?_⟩
    refine ⟨_, rfl, _, _, rfl, rfl, _, rfl, ?_⟩
    refine ite2 (fun hlt => ?_) (fun hge => ?_)
    · have hlt' : kn < 0 := of_decide_eq_true hlt
      have e : backB b kn am = (b, .no) := by unfold backB; rw [if_neg (by omega)]
      rw [e] at k
      exact iteT (k .non _ B rfl fun c o z _ _ _ => z)
    have h0 : 0 ≤ kn := by
      have : ¬ kn < 0 := fun z => hge (decide_eq_true z)
      omega
    refine ⟨_, rfl, _, rfl, p, t.a_Barn, dx, _, _, rfl, hp, T.cl, T.no_uses, flds_uses _ _ _, _, _, rfl, .inl (SqL.of hxu), _, _, rfl, rfl, _, rfl, ?_⟩
    refine ite2 (fun hle => ?_) (fun hnle => ?_)
    · have hle' : ((xu.length : Nat) : Int) ≤ kn := of_decide_eq_true hle
      have e : backB b kn am = (b, .no) := by
        unfold backB
        rw [if_pos h0, List.getElem?_eq_none (by omega)]
      rw [e] at k
      exact k .non _ B rfl fun c o z _ _ _ => z
    have hlt : kn < ((xu.length : Nat) : Int) := by
      have : ¬ ((xu.length : Nat) : Int) ≤ kn := fun z => hnle (decide_eq_true z)
      omega
    have hxk : xu[kn.toNat]? = some (xu[kn.toNat]'(by omega)) := List.getElem?_eq_getElem (by omega)
    have hUk : b.U[kn.toNat]? = some (b.U[kn.toNat]'(by omega)) := List.getElem?_eq_getElem (by omega)
    have hat := atI_ix h0 hxk
    have hUA := L2.Paired.at hpu hxk hUk
    generalize (xu[kn.toNat]'(by omega)) = x at hxk hat hUA
    generalize (b.U[kn.toNat]'(by omega)) = wo at hUk hUA
    obtain ⟨w, out⟩ := wo
    obtain ⟨a, lo, rfl, ha, hlou, hTo⟩ := hUA
    have hszo := hs.o _ (List.mem_of_getElem? hUk)
    have hszw := hs.t w
    -- ware, out
    refine ⟨_, rfl, p, t.a_Barn, dx, _, _, rfl, hp, T.cl, T.no_uses, flds_uses _ _ _, _, rfl, u, _, _, _, rfl, rfl, SqL.of hxu, hat, a, _, _, _, rfl, rfl, SqT.of ha, rfl, ?_⟩
    refine ⟨_, rfl, p, t.a_Barn, dx, _, _, rfl, hp, T.cl, T.no_uses, flds_uses _ _ _, _, rfl, u, _, _, _, rfl, rfl, SqL.of hxu, hat, a, _, _, _, rfl, rfl, SqT.of ha, rfl, ?_⟩
    refine ⟨_, rfl, lo, out, rfl, hTo, (by show out.length ≤ 500; have : out.length ≤ 300 := hszo; omega), fun H1 s1 => ?_⟩
    refine ⟨_, rfl, _, _, rfl, rfl, _, rfl, ?_⟩
    refine ite2 (fun hlt2 => ?_) (fun hge2 => ?_)
    · have hlt2' : held out < am := of_decide_eq_true hlt2
      have e : backB b kn am = (b, .no) := by
        unfold backB
        rw [if_pos h0, hUk]
        show (if held out < am then _ else _) = _
        rw [if_pos hlt2']
      rw [e] at k
      exact k .non _ (B.same s1) rfl (kb_same s1)
    have hge2' : ¬ held out < am := fun z => hge2 (decide_eq_true z)
    have e : backB b kn am = (⟨putW b.L w (backM (lotsW b.L w) (downP out am)), b.n, b.U.set kn.toNat (w, downB out am)⟩, .parts (downP out am)) := by
      unfold backB
      rw [if_pos h0, hUk]
      show (if held out < am then _ else _) = _
      rw [if_neg hge2']
    rw [e] at k
    refine ⟨_, rfl, _, rfl, lo, out, am, rfl, hTo.same s1, (by show out.length ≤ 500; have : out.length ≤ 300 := hszo; omega), fun p3 b3 q3 H3 s3 hp30 hb30 hq30 hbq hp3 hB3 hP3 => ?_⟩
    have s13 := s1.trans s3
    have hb3u := (B.same s1).fresh hb30
    have hq3u := (B.same s1).fresh hq30
    -- self.uses[use_number] = (ware, returned[0])
    refine ⟨_, rfl, _, rfl, p3, _, _, _, rfl, rfl, SqT.of hp3, rfl, (by show 2 ≤ sizeLine; decide), fun tp htp => ?_⟩
    have s4 := same_new (o := HO.tup [.str w, .ref b3]) htp
    have htp4 : (upd H3 tp (HO.tup [.str w, .ref b3])) tp = some (.tup [.str w, .ref b3]) := upd_same
    generalize (upd H3 tp (HO.tup [.str w, .ref b3])) = H4 at *
    have s14 := s13.trans s4
    have B4 := B.same s14
    have hixN : ixN xu.length kn = some kn.toNat := by unfold ixN; rw [if_pos h0, if_pos hlt]
    refine ⟨_, rfl, p, t.a_Barn, dx, _, _, rfl, s14 _ _ hp, T.cl, T.no_uses, flds_uses _ _ _, _, rfl, u, xu, kn, kn.toNat, rfl, rfl, s14 _ _ hxu, hixN, ?_⟩
    have hU4 : Paired (UseAt Z H4) (xu.set kn.toNat (.ref tp)) (b.U.set kn.toNat (w, downB out am)) := paired_set ⟨tp, b3, rfl, htp4, hb3u, hB3.same s4⟩ _ (L2.Paired.imp' (fun _ _ z => z.kl (kl_same s14)) hpu)
    obtain ⟨B5, k5⟩ := barn_uses B4 hU4
    have kl5 := kl_kb B4 k5
    have hp5 := kl5.t _ _ (s4 _ _ hp3)
    have hP5 := (hP3.same s4).kl kl5 hq3u
    generalize (upd H4 u (HO.lst (xu.set kn.toNat (V.ref tp)))) = H5 at *
    obtain ⟨_, _, ⟨dx5, hpp5⟩, _, _⟩ := id B5
    -- self.lots_by_ware[ware] = put_back(self.lots_of(ware), returned[1])
    refine ⟨_, rfl, p, dx5, _, rfl, hpp5, flds_no _ _ _ (by decide +kernel) (by decide +kernel) (by decide +kernel), _, rfl, Z, p, d, u, _, w, rfl, B5, fun l H6 s6 hlu6 hTl => ?_⟩
    refine ⟨_, rfl, p3, _, _, _, rfl, rfl, SqT.of (s6 _ _ hp5), rfl, l, q3, _, _, rfl, hTl, hP5.same s6, (by show (lotsW b.L w).length ≤ 500; omega), ?_, fun nl H7 s7 hnl hTn => ?_⟩
    · show (takeP out.reverse am).length ≤ 500
      have := takeP_len out.reverse am
      rw [List.length_reverse] at this
      have h3 : out.length ≤ 300 := hszo
      omega
    have s57 := s6.trans s7
    have B7 := B5.same s57
    obtain ⟨_, _, ⟨dx7, hpp7⟩, ⟨kv7, hd7, hk7⟩, ⟨xu7, hxu7, _⟩⟩ := id B7
    obtain ⟨_, _, _, _, ⟨xu6, hxu6, _⟩⟩ := B5.same s6
    have hnu := (B5.same s6).fresh hnl
    have hkl : kv7.length ≤ 300 := by rw [Paired.length hk7]; exact hs.l
    refine ⟨_, rfl, p, t.a_Barn, dx7, _, _, rfl, hpp7, T.cl, T.no_lots_by_ware, flds_ware _ _ _, _, rfl, d, _, rfl, DPut.k (k := Sum.inr w) hd7 (lt300 hkl), ?_⟩
    obtain ⟨B8, k8⟩ := barn_dput (w := w) B7 hd7 hnu hTn
    have kl8 := kl_kb B7 k8
    refine ⟨_, rfl, p3, _, _, _, rfl, rfl, SqT.of (kl8.t _ _ (s57 _ _ hp5)), rfl, ?_⟩
    exact k (.ref q3) _ B8 ⟨q3, rfl, hq3u, (hP5.same s57).kl kl8 hq3u⟩ ((((kb_same s14).trans k5).trans (kb_same s57)).trans k8)
theorem ok_counted {t : Adr} (T : Txt K mg t) : FnOk P w K mg base CX0 4 t.a_counted t.d_counted ["self", "ware", "found"] (spCounted t.a_Barn) := by
  have G_lots_of : FnOk P w K mg base CX0 3 t.a_lots_of t.d_lots_of ["self", "ware"] (spLotsOf t.a_Barn) := (ok_lots_of T).mono (by decide)
  have G_held : FnOk P w K mg base CX0 3 t.a_held t.d_held ["lots"] spHeld := (ok_held T).mono (by decide)
  have G_lose : FnOk P w K mg base CX0 3 t.a_lose t.d_lose ["self", "ware", "missing"] (spLose t.a_Barn) := ok_lose T
  have G_gain : FnOk P w K mg base CX0 3 t.a_gain t.d_gain ["self", "ware", "over"] (spGain t.a_Barn) := ok_gain T
  refine T.F_counted.ok S_counted (fun vs H Q E h => ?_) (fun cdv A outer s H vs Q E hr h => ?_)
  · obtain ⟨Z, p, d, u, b, w, f, rfl, _⟩ := h
    rfl
  · obtain ⟨Z, p, d, u, b, w, f, rfl, B, hs, k⟩ := h
    have hu := hu_of hr
    have hr1 := hr
    obtain ⟨_, _, ⟨dx, hp⟩, _, _⟩ := id B
    have hsz := hs.t w
    refine ⟨_, (pss_cons (ps_set (i := 3) S_counted.nd rfl (Or.inl rfl) (pe_call G_held hr (by rfl) T.m_held T.F_held.kp T.b_held .nil pass0 (pa_cons (pe_meth (pv 0) T.cl T.me_lots_of G_lots_of hr1 T.b_lots_of .nil pass0 (pa_cons (pv 1) pa_nil)) pa_nil)))
      (pss_cons (ps_if (pt_cmpR op_lt (pv 2) (pv 3) (nomark _))
        (pss_one (ps_ret (pe_tup (pa_cons pe_str (pa_cons (pe_meth (pv 0) T.cl T.me_lose G_lose hr1 T.b_lose .nil pass0 (pa_cons (pv 1) (pa_cons (pe_op op_sub (pv 3) (pv 2)) pa_nil))) pa_nil)))))
        pss_nil)
      (pss_cons (ps_if (pt_cmpR op_gt (pv 2) (pv 3) (nomark _))
        (pss_one (ps_ret (pe_tup (pa_cons pe_str (pa_cons (pe_meth (pv 0) T.cl T.me_gain G_gain hr1 T.b_gain .nil pass0 (pa_cons (pv 1) (pa_cons (pe_op op_sub (pv 2) (pv 3)) pa_nil))) pa_nil)))))
        pss_nil)
      (pss_one (ps_ret (pe_tup (pa_cons pe_str (pa_cons (pe_lst pa_nil) pa_nil)))))))), ?_⟩
    refine ⟨_, rfl, p, dx, _, rfl, hp, flds_no _ _ _ (by decide +kernel) (by decide +kernel) (by decide +kernel), _, rfl, Z, p, d, u, _, w, rfl, B, fun l H1 s1 hlu hTl => ?_⟩
    refine ⟨l, _, rfl, hTl, by omega, fun H2 s2 => ?_⟩
    have s12 := s1.trans s2
    have B2 := B.same s12
    obtain ⟨_, _, ⟨dx2, hp2⟩, _, ⟨xu2, hxu2, _⟩⟩ := id B2
    refine ⟨_, rfl, _, rfl, _, _, rfl, rfl, _, rfl, ?_⟩
    refine ite2 (fun hlt => ?_) (fun hge => ?_)
    · have hlt' : f < held (lotsW b.L w) := of_decide_eq_true hlt
      have e : countB b w f = (⟨putW b.L w (downB (lotsW b.L w) (held (lotsW b.L w) - f)), b.n, b.U⟩, .cnt "lost" (downP (lotsW b.L w) (held (lotsW b.L w) - f))) := by unfold countB; rw [if_pos hlt']
      rw [e] at k
      refine ⟨_, rfl, p, dx2, _, rfl, hp2, flds_no _ _ _ (by decide +kernel) (by decide +kernel) (by decide +kernel), _, rfl, _, rfl, _, rfl, _, _, rfl, rfl, Z, p, d, u, b, w, _, rfl, B2, hs, fun q H3 B3 hqu hTq k3 => ?_⟩
      refine ⟨(by show 2 ≤ sizeLine; decide), fun r hr0 => ?_⟩
      have s4 := same_new (o := HO.tup [.str "lost", .ref q]) hr0
      exact k (.ref r) _ (B3.same s4) ⟨r, q, rfl, upd_same, hqu, hTq.same s4⟩ (((kb_same s12).trans k3).trans (kb_same s4))
    have hge' : ¬ f < held (lotsW b.L w) := fun z => hge (decide_eq_true z)
    refine ⟨_, rfl, _, rfl, _, _, rfl, rfl, _, rfl, ?_⟩
    refine ite2 (fun hgt => ?_) (fun hngt => ?_)
    · have hgt' : held (lotsW b.L w) < f := of_decide_eq_true hgt
      have e : countB b w f = (comeB b w (f - held (lotsW b.L w)) (newestPrice (lotsW b.L w)), .cnt "more" [((b.n : Int), f - held (lotsW b.L w), newestPrice (lotsW b.L w))]) := by unfold countB; rw [if_neg hge', if_pos hgt']
      rw [e] at k
      refine ⟨_, rfl, p, dx2, _, rfl, hp2, flds_no _ _ _ (by decide +kernel) (by decide +kernel) (by decide +kernel), _, rfl, _, rfl, _, rfl, _, _, rfl, rfl, Z, p, d, u, b, w, _, rfl, B2, hs, fun q H3 B3 hqu hTq k3 => ?_⟩
      refine ⟨(by show 2 ≤ sizeLine; decide), fun r hr0 => ?_⟩
      have s4 := same_new (o := HO.tup [.str "more", .ref q]) hr0
      exact k (.ref r) _ (B3.same s4) ⟨r, q, rfl, upd_same, hqu, hTq.same s4⟩ (((kb_same s12).trans k3).trans (kb_same s4))
    · have hngt' : ¬ held (lotsW b.L w) < f := fun z => hngt (decide_eq_true z)
      have e : countB b w f = (b, .cnt "same" []) := by unfold countB; rw [if_neg hge', if_neg hngt']
      rw [e] at k
      refine ⟨(by show 0 ≤ sizeLine; decide), fun q hq0 => ?_⟩
      have s3 := same_new (o := HO.lst []) hq0
      refine ⟨(by show 2 ≤ sizeLine; decide), fun r hr0 => ?_⟩
      have s4 := s3.trans (same_new (o := HO.tup [.str "same", .ref q]) hr0)
      have hqu := B2.fresh hq0
      exact k (.ref r) _ (B2.same s4) ⟨r, q, rfl, upd_same, hqu, ⟨[], same_new hr0 _ _ upd_same, .nil⟩⟩ ((kb_same s12).trans (kb_same s4))
abbrev LQ : Str := (("Barn.all_lots" : Str) ++ (".<locals>." : Str)) ++ ("<lambda>" : Str)
theorem ok_all_lots {t : Adr} (T : Txt K mg t) (hB : BmIn mg base) : FnOk P w K mg base CX0 2 t.a_all_lots t.d_all_lots ["self"] (spAll t.a_Barn t.tb_all_lots LQ) := by
  refine T.F_all_lots.okC T.hc_all_lots S_all_lots (fun vs H Q E h => ?_) (fun A outer s H vs Q E hr h => ?_)
  · obtain ⟨Z, p, d, u, b, rfl, _⟩ := h
    rfl
  · obtain ⟨Z, p, d, u, b, rfl, B, hs, h64, hT, k⟩ := h
    obtain ⟨_, _, ⟨dx, hp⟩, ⟨kvs, hd, hk⟩, _⟩ := id B
    have hlk : kvs.length = b.L.length := Paired.length hk
    refine ⟨_, (pss_cons (ps_set (i := 1) S_all_lots.nd rfl (Or.inl rfl) (pe_lst pa_nil))
      (pss_cons (ps_thaw (ps_for PassesOwn.never rfl (pi_items (pe_fld (pv 0) rfl)) (pg_tup rfl (pgs_cons (pg_name (i := 2) S_all_lots.nd rfl (Or.inr rfl)) (pgs_cons (pg_name (i := 3) S_all_lots.nd rfl (Or.inl rfl)) pgs_nil)))
        (pss_one (ps_expr (pe_bm F.plainAttrs_list F.slot_list_extend F.type_list_extend mt_extend (pv 1) (pa_cons (pe_comp (caps := [(2, "ware")]) (own := ["number", "left", "price"]) rfl (by rfl) (by decide +kernel) rfl (by decide +kernel) (by exact ⟨⟨rfl, rfl, rfl⟩, trivial⟩) (pi_list (pv 3)) (fun C s H ex => (pg_tupK K (n := 3) rfl (pgs_cons (pg_name (i := 1) (show List.Nodup (["ware", "number", "left", "price"] : List Str) by decide +kernel) rfl (Or.inl rfl)) (pgs_cons (pg_name (i := 2) (show List.Nodup (["ware", "number", "left", "price"] : List Str) by decide +kernel) rfl (Or.inl rfl)) (pgs_cons (pg_name (i := 3) (show List.Nodup (["ware", "number", "left", "price"] : List Str) by decide +kernel) rfl (Or.inl rfl)) pgs_nil))))) (fun C s H ex => (pe_tup (pa_cons (pv 0) (pa_cons (pv 1) (pa_cons (pv 2) (pa_cons (pv 3) pa_nil))))))) pa_nil))))))
      (pss_one (ps_ret (pe_sortK (by rfl) T.n_sorted (room_dp hr) rfl T.hd_all_lots hB (pa_cons (pv 1) pa_nil)))))), ?_⟩
    refine ⟨(by show 0 ≤ sizeLine; decide), fun tl htl => ?_⟩
    have s1 := same_new (o := HO.lst []) htl
    have htd : tl ≠ d := (ne_of_none hd htl).symm
    refine ⟨_, rfl, p, t.a_Barn, dx, _, _, rfl, s1 _ _ hp, T.cl, T.no_lots_by_ware, flds_ware _ _ _, d, kvs, rfl, s1 _ _ hd, fun ob nf => for_items (d := d) (ob := ob) (kvs := kvs)
      (fun i σ H2 => ∃ (v2 v3 : Option V) (ys : List V), σ = [some (.ref p), some (.ref tl), v2, v3] ∧ Same (upd H d (.frz ob (.dK kvs))) H2 ∧ H2 tl = some (.lst ys) ∧ Paired (LotAt H2) ys ((b.L.take i).flatMap tellW)) ?_ ?_ ?_ ?_⟩
    · refine ⟨_, _, [], rfl, fun c o e => ?_, by rw [upd_ne htd, upd_same], by simpa using Paired.nil⟩
      by_cases hc : c = d
      · subst hc
        rw [upd_same] at e ⊢
        exact e
      · rw [upd_ne hc] at e ⊢
        exact s1 _ _ e
    · rintro i σ H2 _ ⟨_, _, _, _, s2, _⟩
      exact s2 _ _ upd_same
    · rintro i kx v a σ H2 hkv ⟨v2, v3, ys, rfl, s2, htl2, hP2⟩ ha
      have hi : i < kvs.length := (List.getElem?_eq_some_iff.mp hkv).1
      have hq : b.L[i]? = some (b.L[i]'(by omega)) := List.getElem?_eq_getElem _
      generalize b.L[i]'(by omega) = q at hq
      obtain ⟨e1, la, e2, _, hTr⟩ := L2.Paired.at hk hkv hq
      have e1 : kx = Sum.inr q.1 := e1
      have e2 : v = .ref la := e2
      subst e1
      subst e2
      obtain ⟨zs, hla, hpz⟩ := tris_any (o := .frz ob (.dK kvs)) hd hTr
      have hlz : zs.length = q.2.length := Paired.length hpz
      have hpre := allL_take b (i + 1)
      rw [take_snoc hq, List.flatMap_append, List.length_append] at hpre
      have hlq : ([q].flatMap tellW).length = q.2.length := by simp [tellW]
      have hly : ys.length = ((b.L.take i).flatMap tellW).length := Paired.length hP2
      refine ⟨a, _, rfl, SqT.of upd_same, rfl, _, _, rfl, _, _, rfl, rfl, ?_⟩
      have s3 := same_new (o := HO.tup [kV (Sum.inr q.1), .ref la]) ha
      generalize (upd H2 a (HO.tup [kV (Sum.inr q.1), V.ref la])) = H3 at *
      have htl3 := s3 _ _ htl2
      refine ⟨_, rfl, tyL htl3, _, rfl, la, rfl, ⟨zs, SqL.of (s3 _ _ (s2 _ _ hla))⟩, fun acc hacc => comp_list (K := K) (a := la) (acc := acc) (xs := zs)
        (fun j ys2 σ H4 => (∃ v1 v2 v3, σ = [some (.str q.1), v1, v2, v3]) ∧ Same H3 H4 ∧ H4 acc = some (.lst ys2) ∧ ys2.length = j ∧ Paired (LotAt H4) ys2 ((q.2.take j).map fun t => (q.1, t))) ?_ (line_lt (by omega)) ?_ ?_ ?_⟩
      · exact ⟨⟨_, _, _, rfl⟩, same_new hacc, upd_same, rfl, by simpa using Paired.nil⟩
      · rintro j ys2 σ H4 _ ⟨_, s4, e1, e2, _⟩
        exact ⟨SqL.of (s4 _ _ (s3 _ _ (s2 _ _ hla))), e1, e2⟩
      · rintro j x ys2 σ H4 hx ⟨⟨_, _, _, rfl⟩, s4, e1, e2, hA⟩
        obtain ⟨t3, ht, c, rfl, hc⟩ := tri_at hpz hx
        refine ⟨c, _, rfl, SqT.of (s4 _ _ (s3 _ _ (s2 _ _ hc))), rfl, _, _, rfl, _, _, rfl, _, _, rfl, rfl, ?_⟩
        refine ⟨_, rfl, _, rfl, _, rfl, _, rfl, (by show 4 ≤ sizeLine; decide), fun r hr0 => ?_⟩
        refine ⟨by rw [upd_ne (ne_of_none e1 hr0)]; exact e1, ⟨_, _, _, rfl⟩, fun b o e => butL_push hr0 e1 b o (s4 b o e) (ne_of_none e hacc), upd_same, by simp [e2], ?_⟩
        rw [take_snoc ht, List.map_append]
        exact lot_push (l := (q.1, t3)) hr0 e1 hA
      rintro ys2 σ H5 ⟨⟨_, _, _, rfl⟩, s4, e1, e2, hA⟩
      rw [hlz, List.take_length] at hA
      refine ⟨tl, acc, ys, ys2, rfl, rfl, s4 _ _ htl3, e1, Nat.le_of_lt (line_lt (by omega)), ?_⟩
      have htl5 := s4 _ _ htl3
      have htF : (upd H d (HO.frz ob (.dK kvs))) tl = none := by rw [upd_ne htd]; exact htl
      refine ⟨_, _, ys ++ ys2, rfl, fun c o e => ?_, upd_same, ?_⟩
      · rw [upd_ne (ne_of_none e htF)]
        exact s4 _ _ (s3 _ _ (s2 c o e))
      · have kt : ∀ b xs, H5 b = some (HO.tup xs) → upd H5 tl (HO.lst (ys ++ ys2)) b = some (HO.tup xs) := fun b xs e => by
          rw [upd_ne (ne_of e htl5 (by intro z; cases z))]
          exact e
        rw [take_snoc hq, List.flatMap_append]
        refine paired_app (lot_same (fun b xs e => kt b xs (s4 _ _ (s3 _ _ e))) hP2) (lot_same kt ?_)
        simpa [tellW] using hA
    · rintro σ H2 ⟨v2, v3, ys, rfl, s2, htl2, hP2⟩
      refine ⟨d, ob, kvs, nf, s2 _ _ upd_same, ?_⟩
      have s5 := same_frz hd s2
      have htl5 : (upd H2 d (HO.dK kvs)) tl = some (.lst ys) := by rw [upd_ne htd]; exact htl2
      have hd2 := s2 _ _ upd_same
      have hP5 : Paired (LotAt (upd H2 d (HO.dK kvs))) ys (allL b) := by
        rw [hlk, List.take_length] at hP2
        exact lot_same (fun b xs e => by rw [upd_ne (ne_of e hd2 (by intro z; cases z))]; exact e) hP2
      generalize (upd H2 d (HO.dK kvs)) = H5 at *
      obtain ⟨rows, rfl, hR⟩ := lots_rows hP5
      have hlr : rows.length = (allL b).length := Paired.length hR
      obtain ⟨tp, hTt, _⟩ := hT.same s5
      refine ⟨_, rfl, tl, rows, rfl, SqL.of htl5, by omega, fun r hr => ?_, hT.same s5, fun H6 D rows' hsm hT6 hD hpm hst => ?_⟩
      · obtain ⟨l, _, h1, h2⟩ := paired_memL hR r hr
        exact ⟨_, SqT.of h1, by rw [h2]; rfl⟩
      obtain ⟨ws, hW, hwp⟩ := paired_perm hpm hR
      refine k D _ _ ws (fun c o hc e => ?_) (hT6.same (same_new hD)) ?_ upd_same (lots_of_rows (R := fun r l => H5 r.1 = some (.tup (v4 l)) ∧ r.2 = l.2.1) (fun r l h => ?_) hW) hwp (paired_sorted (fun r l h => h.2) hW hst)
      · have z := hsm c o hc (s5 c o e)
        rw [upd_ne (ne_of_none z hD)]
        exact z
      · cases e : H D with
        | none => rfl
        | some o =>
          by_cases hDT : D = t.tb_all_lots
          · obtain ⟨_, z, _⟩ := hT6
            rw [← hDT, hD] at z
            cases z
          · have z := hsm D o hDT (s5 D o e)
            rw [hD] at z
            cases z
      · have z := hsm r.1 _ (ne_of h.1 hTt (by intro z; cases z)) h.1
        rw [upd_ne (ne_of_none z hD)]
        exact z
theorem ok_do_deed {t : Adr} (T : Txt K mg t) : FnOk P w K mg base CX0 5 t.a_do_deed t.d_do_deed ["barn", "deed"] (spDo t.a_Barn) := by
  have G_come : FnOk P w K mg base CX0 4 t.a_come t.d_come ["self", "ware", "amount", "price"] (spCome t.a_Barn) := (ok_come T).mono (by decide)
  have G_use : FnOk P w K mg base CX0 4 t.a_use t.d_use ["self", "ware", "amount"] (spUse t.a_Barn) := (ok_use T).mono (by decide)
  have G_give_back : FnOk P w K mg base CX0 4 t.a_give_back t.d_give_back ["self", "use_number", "amount"] (spGive t.a_Barn) := (ok_give_back T).mono (by decide)
  have G_counted : FnOk P w K mg base CX0 4 t.a_counted t.d_counted ["self", "ware", "found"] (spCounted t.a_Barn) := ok_counted T
  refine T.F_do_deed.ok S_do_deed (fun vs H Q E h => ?_) (fun cdv A outer s H vs Q E hr h => ?_)
  · obtain ⟨Z, p, d, u, x, b, dd, rfl, _⟩ := h
    rfl
  · obtain ⟨Z, p, d, u, x, b, dd, rfl, hx, B, hs, k⟩ := h
    have hr1 := hr
    obtain ⟨_, _, ⟨dx, hp⟩, _, _⟩ := id B
    refine ⟨_, (pss_cons (ps_if (pt_cmpR op_eq (pe_ix ix_tup (pv 1) pe_int (fun _ _ => rfl)) pe_str (nomark _))
        (pss_one (ps_ret (pe_meth (pv 0) T.cl T.me_come G_come hr1 T.b_come .nil pass0 (pa_cons (pe_ix ix_tup (pv 1) pe_int (fun _ _ => rfl)) (pa_cons (pe_ix ix_tup (pv 1) pe_int (fun _ _ => rfl)) (pa_cons (pe_ix ix_tup (pv 1) pe_int (fun _ _ => rfl)) pa_nil))))))
        pss_nil)
      (pss_cons (ps_if (pt_cmpR op_eq (pe_ix ix_tup (pv 1) pe_int (fun _ _ => rfl)) pe_str (nomark _))
        (pss_one (ps_ret (pe_meth (pv 0) T.cl T.me_use G_use hr1 T.b_use .nil pass0 (pa_cons (pe_ix ix_tup (pv 1) pe_int (fun _ _ => rfl)) (pa_cons (pe_ix ix_tup (pv 1) pe_int (fun _ _ => rfl)) pa_nil)))))
        pss_nil)
      (pss_cons (ps_if (pt_cmpR op_eq (pe_ix ix_tup (pv 1) pe_int (fun _ _ => rfl)) pe_str (nomark _))
        (pss_one (ps_ret (pe_meth (pv 0) T.cl T.me_give_back G_give_back hr1 T.b_give_back .nil pass0 (pa_cons (pe_ix ix_tup (pv 1) pe_int (fun _ _ => rfl)) (pa_cons (pe_ix ix_tup (pv 1) pe_int (fun _ _ => rfl)) pa_nil)))))
        pss_nil)
      (pss_one (ps_ret (pe_meth (pv 0) T.cl T.me_counted G_counted hr1 T.b_counted .nil pass0 (pa_cons (pe_ix ix_tup (pv 1) pe_int (fun _ _ => rfl)) (pa_cons (pe_ix ix_tup (pv 1) pe_int (fun _ _ => rfl)) pa_nil)))))))), ?_⟩
    cases dd with
    | come w am pr =>
      refine ⟨_, rfl, x, _, _, _, rfl, rfl, SqT.of hx, rfl, rfl, _, rfl, ?_⟩
      refine iteStr ?_
      refine ⟨_, rfl, p, dx, _, rfl, hp, flds_no _ _ _ (by decide +kernel) (by decide +kernel) (by decide +kernel), _, rfl, x, _, _, _, rfl, rfl, SqT.of hx, rfl, _, rfl, x, _, _, _, rfl, rfl, SqT.of hx, rfl, _, rfl, x, _, _, _, rfl, rfl, SqT.of hx, rfl, Z, p, d, u, b, w, am, pr, rfl, B, hs, fun H1 B1 k1 => ?_⟩
      exact k (.int (b.n : Int)) H1 B1 rfl k1
    | use w am =>
      refine ⟨_, rfl, x, _, _, _, rfl, rfl, SqT.of hx, rfl, rfl, _, rfl, ?_⟩
      refine iteStrN (fun e => s_cu e.symm) ?_
      refine ⟨_, rfl, x, _, _, _, rfl, rfl, SqT.of hx, rfl, rfl, _, rfl, ?_⟩
      refine iteStr ?_
      exact ⟨_, rfl, p, dx, _, rfl, hp, flds_no _ _ _ (by decide +kernel) (by decide +kernel) (by decide +kernel), _, rfl, x, _, _, _, rfl, rfl, SqT.of hx, rfl, _, rfl, x, _, _, _, rfl, rfl, SqT.of hx, rfl, Z, p, d, u, b, w, am, rfl, B, hs, k⟩
    | back kn am =>
      refine ⟨_, rfl, x, _, _, _, rfl, rfl, SqT.of hx, rfl, rfl, _, rfl, ?_⟩
      refine iteStrN (fun e => s_cb e.symm) ?_
      refine ⟨_, rfl, x, _, _, _, rfl, rfl, SqT.of hx, rfl, rfl, _, rfl, ?_⟩
      refine iteStrN (fun e => s_ub e.symm) ?_
      refine ⟨_, rfl, x, _, _, _, rfl, rfl, SqT.of hx, rfl, rfl, _, rfl, ?_⟩
      refine iteStr ?_
      exact ⟨_, rfl, p, dx, _, rfl, hp, flds_no _ _ _ (by decide +kernel) (by decide +kernel) (by decide +kernel), _, rfl, x, _, _, _, rfl, rfl, SqT.of hx, rfl, _, rfl, x, _, _, _, rfl, rfl, SqT.of hx, rfl, Z, p, d, u, b, kn, am, rfl, B, hs, k⟩
    | count w f =>
      refine ⟨_, rfl, x, _, _, _, rfl, rfl, SqT.of hx, rfl, rfl, _, rfl, ?_⟩
      refine iteStrN s_oc ?_
      refine ⟨_, rfl, x, _, _, _, rfl, rfl, SqT.of hx, rfl, rfl, _, rfl, ?_⟩
      refine iteStrN s_ou ?_
      refine ⟨_, rfl, x, _, _, _, rfl, rfl, SqT.of hx, rfl, rfl, _, rfl, ?_⟩
      refine iteStrN s_ob ?_
      exact ⟨_, rfl, p, dx, _, rfl, hp, flds_no _ _ _ (by decide +kernel) (by decide +kernel) (by decide +kernel), _, rfl, x, _, _, _, rfl, rfl, SqT.of hx, rfl, _, rfl, x, _, _, _, rfl, rfl, SqT.of hx, rfl, Z, p, d, u, b, w, f, rfl, B, hs, k⟩
theorem ok_answers {t : Adr} (T : Txt K mg t) : FnOk P w K mg base CX0 6 t.a_answers t.d_answers ["deeds"] spAnswers := by
  have G_init : FnOk P w K mg base CX0 4 t.a_init t.d_init ["self"] (spInit t.a_Barn) := (ok_init T).mono (by decide)
  have G_do_deed : FnOk P w K mg base CX0 5 t.a_do_deed t.d_do_deed ["barn", "deed"] (spDo t.a_Barn) := ok_do_deed T
  refine T.F_answers.ok S_answers (fun vs H Q E h => ?_) (fun cdv A outer s H vs Q E hr h => ?_)
  · obtain ⟨l, ds, rfl, _⟩ := h
    rfl
  · obtain ⟨l, ds, rfl, ⟨xs, hl, hpd⟩, hlen, k⟩ := h
    have hlx : xs.length = ds.length := Paired.length hpd
    refine ⟨_, (pss_cons (ps_set (i := 1) S_answers.nd rfl (Or.inl rfl) (pe_make0 T.mk_Barn G_init hr rfl T.m_Barn T.b_init .nil pass0))
      (pss_cons (ps_set (i := 2) S_answers.nd rfl (Or.inl rfl) (pe_lst pa_nil))
      (pss_cons (ps_for PassesOwn.never rfl (pi_list (pv 0)) (pg_name (i := 3) S_answers.nd rfl (Or.inl rfl))
        (pss_one (ps_expr (pe_bm F.plainAttrs_list F.slot_list_append F.type_list_append mt_append (pv 2) (pa_cons (pe_call G_do_deed hr (by rfl) T.m_do_deed T.F_do_deed.kp T.b_do_deed .nil pass0 (pa_cons (pv 1) (pa_cons (pv 3) pa_nil))) pa_nil)))))
      (pss_one (ps_ret (pv 2)))))), ?_⟩
    intro x dx nx ndx nex
    refine ⟨x, dx, rfl, upd_same, fun d u H1 hd0 hu0 hdu hB kp => ⟨rfl, ?_⟩⟩
    have s0 : Same H (upd (upd H dx (.own x)) x (.ins t.a_Barn dx [])) := fun b o e => by
      rw [upd_ne (ne_of_none e nx), upd_ne (ne_of_none e ndx)]
      exact e
    have s1 : Same H H1 := fun b o e => kp b o (s0 b o e) (ne_of_none e nx)
    have hd1 : H d = none := s0.free hd0
    have hu1 : H u = none := s0.free hu0
    refine ⟨(by show 0 ≤ sizeLine; decide), fun tl htl => ?_⟩
    have s2 := same_new (o := HO.lst []) htl
    have B1 := hB [] (fun z hz => by simp at hz)
    obtain ⟨_, _, ⟨dx1, hp1⟩, ⟨kv1, hdk1, hk1⟩, ⟨xu1, hxu1, hpu1⟩⟩ := id B1
    have htx : tl ≠ x := (ne_of_none hp1 htl).symm
    have htd : tl ≠ d := (ne_of_none hdk1 htl).symm
    have htu : tl ≠ u := (ne_of_none hxu1 htl).symm
    have htl0 : H tl = none := s1.free htl
    -- the list that is told stands beside the barn's
    have B2 : BarnAt t.a_Barn [u, tl] (upd H1 tl (.lst [])) x d u b0 := by
      refine ⟨List.mem_cons_self, fun z hz => ?_, ⟨dx1, s2 _ _ hp1⟩, ⟨kv1, s2 _ _ hdk1, ?_⟩, ⟨xu1, s2 _ _ hxu1, ?_⟩⟩
      · simp only [List.mem_cons, List.not_mem_nil, or_false] at hz
        rcases hz with rfl | rfl
        · exact ⟨_, s2 _ _ hxu1⟩
        · exact ⟨_, upd_same⟩
      · cases hk1
        exact .nil
      · cases hpu1
        exact .nil
    refine ⟨_, rfl, l, rfl, ⟨xs, SqL.of ((s1.trans s2) _ _ hl)⟩, for_list (K := K) (a := l) (xs := xs) (fun i σ H2 => ∃ (v : Option V) (ys : List V), σ = [some (.ref l), some (.ref x), some (.ref tl), v] ∧ Same H H2 ∧
      BarnAt t.a_Barn [u, tl] H2 x d u (stepsB b0 (ds.take i)) ∧ Small (stepsB b0 (ds.take i)) i ∧ H2 tl = some (.lst ys) ∧ Paired (AnsV [u, tl] H2) ys (answersB b0 (ds.take i))) ?_ ?_ ?_ ?_⟩
    · exact ⟨_, [], rfl, s1.trans s2, B2, small_b0, upd_same, .nil⟩
    · rintro i σ H2 _ ⟨_, _, _, s3, _⟩
      exact SqL.of (s3 _ _ hl)
    · rintro i y σ H2 hy ⟨v, ys, rfl, s3, B3, hs3, htl3, hA3⟩
      obtain ⟨dd, hdd, a, rfl, ha⟩ := deed_at hpd hy
      have hi : i < ds.length := (List.getElem?_eq_some_iff.mp hdd).1
      have hly : ys.length = i := by rw [Paired.length hA3, answersB_len, List.length_take]; omega
      refine ⟨_, rfl, tyL htl3, _, rfl, _, rfl, [u, tl], x, d, u, a, _, dd, rfl, s3 _ _ ha, B3, hs3.mono (by omega), fun v4 H4 B4 hA4 k4 => ?_⟩
      have htl4 := k4 _ _ htl3 htx htd htu
      refine ⟨tl, ys, v4, rfl, rfl, htl4, line_lt (by omega), ?_⟩
      have hin : tl ∈ [u, tl] := by simp
      have kl3 := kl_kb B3 k4
      have kl4 : KL [u, tl] H4 (upd H4 tl (.lst (ys ++ [v4]))) := kl_upd hin htl4
      have hsn := take_snoc hdd
      refine ⟨_, _, rfl, fun c o e => ?_, ?_, ?_, upd_same, ?_⟩
      · rw [upd_ne (ne_of_none e htl0)]
        exact k4 c o (s3 c o e) (ne_of_none e nx) (ne_of_none e hd1) (ne_of_none e hu1)
      · rw [hsn, stepsB_snoc]
        exact barn_other B4 hin htl4 htu
      · rw [hsn, stepsB_snoc]
        exact small_step hs3 dd
      · rw [hsn, answersB_snoc]
        exact Paired.snoc (L2.Paired.imp' (fun _ _ z => (z.kl kl3).kl kl4) hA3) (hA4.kl kl4)
    · rintro σ H2 ⟨v, ys, rfl, s3, B3, hs3, htl3, hA3⟩
      rw [hlx, List.take_length] at hA3
      exact ⟨_, rfl, k tl H2 s3 htl0 ⟨ys, htl3, L2.Paired.imp' (fun _ _ z => z.weak) hA3⟩⟩
theorem ok_lots_behind {t : Adr} (T : Txt K mg t) (hB : BmIn mg base) : FnOk P w K mg base CX0 6 t.a_lots_behind t.d_lots_behind ["deeds"] (spLots t.tb_all_lots LQ) := by
  have G_init : FnOk P w K mg base CX0 4 t.a_init t.d_init ["self"] (spInit t.a_Barn) := (ok_init T).mono (by decide)
  have G_do_deed : FnOk P w K mg base CX0 5 t.a_do_deed t.d_do_deed ["barn", "deed"] (spDo t.a_Barn) := ok_do_deed T
  have G_all_lots : FnOk P w K mg base CX0 5 t.a_all_lots t.d_all_lots ["self"] (spAll t.a_Barn t.tb_all_lots LQ) := (ok_all_lots T hB).mono (by decide)
  refine T.F_lots_behind.ok S_lots_behind (fun vs H Q E h => ?_) (fun cdv A outer s H vs Q E hr h => ?_)
  · obtain ⟨l, ds, rfl, _⟩ := h
    rfl
  · obtain ⟨l, ds, rfl, ⟨xs, hl, hpd⟩, hlen, h64, hT, k⟩ := h
    have hr1 := hr
    have hlx : xs.length = ds.length := Paired.length hpd
    refine ⟨_, (pss_cons (ps_set (i := 1) S_lots_behind.nd rfl (Or.inl rfl) (pe_make0 T.mk_Barn G_init hr rfl T.m_Barn T.b_init .nil pass0))
      (pss_cons (ps_for PassesOwn.never rfl (pi_list (pv 0)) (pg_name (i := 2) S_lots_behind.nd rfl (Or.inl rfl))
        (pss_one (ps_expr (pe_call G_do_deed hr (by rfl) T.m_do_deed T.F_do_deed.kp T.b_do_deed .nil pass0 (pa_cons (pv 1) (pa_cons (pv 2) pa_nil))))))
      (pss_one (ps_ret (pe_meth0 (pv 1) T.cl T.me_all_lots G_all_lots hr1 T.b_all_lots .nil pass0 ))))), ?_⟩
    intro x dx nx ndx nex
    refine ⟨x, dx, rfl, upd_same, fun d u H1 hd0 hu0 hdu hB kp => ⟨rfl, ?_⟩⟩
    have s0 : Same H (upd (upd H dx (.own x)) x (.ins t.a_Barn dx [])) := fun b o e => by
      rw [upd_ne (ne_of_none e nx), upd_ne (ne_of_none e ndx)]
      exact e
    have s1 : Same H H1 := fun b o e => kp b o (s0 b o e) (ne_of_none e nx)
    have hd1 : H d = none := s0.free hd0
    have hu1 : H u = none := s0.free hu0
    have B1 := hB [] (fun z hz => by simp at hz)
    refine ⟨_, rfl, l, rfl, ⟨xs, SqL.of (s1 _ _ hl)⟩, for_list (K := K) (a := l) (xs := xs) (fun i σ H2 => ∃ (v : Option V), σ = [some (.ref l), some (.ref x), v] ∧ Same H H2 ∧
      BarnAt t.a_Barn [u] H2 x d u (stepsB b0 (ds.take i)) ∧ Small (stepsB b0 (ds.take i)) i) ?_ ?_ ?_ ?_⟩
    · exact ⟨_, rfl, s1, B1, small_b0⟩
    · rintro i σ H2 _ ⟨_, _, s3, _⟩
      exact SqL.of (s3 _ _ hl)
    · rintro i y σ H2 hy ⟨v, rfl, s3, B3, hs3⟩
      obtain ⟨dd, hdd, a, rfl, ha⟩ := deed_at hpd hy
      have hi : i < ds.length := (List.getElem?_eq_some_iff.mp hdd).1
      refine ⟨_, rfl, _, rfl, [u], x, d, u, a, _, dd, rfl, s3 _ _ ha, B3, hs3.mono (by omega), fun v4 H4 B4 hA4 k4 => ?_⟩
      rw [take_snoc hdd, stepsB_snoc]
      exact ⟨_, rfl, fun c o e => k4 c o (s3 c o e) (ne_of_none e nx) (ne_of_none e hd1) (ne_of_none e hu1), B4, small_step hs3 dd⟩
    · rintro σ H2 ⟨v, rfl, s3, B3, hs3⟩
      rw [hlx, List.take_length] at B3 hs3
      obtain ⟨_, _, ⟨dx4, hp4⟩, _, _⟩ := id B3
      refine ⟨_, rfl, x, dx4, _, rfl, hp4, flds_no _ _ _ (by decide +kernel) (by decide +kernel) (by decide +kernel), [u], x, d, u, _, rfl, B3, hs3.mono (by omega), h64, hT.same s3, fun r H' xs ls hsm hT' hr0 hr' hP hpm hst => ?_⟩
      exact k r H' xs ls (fun c o hc e => hsm c o hc (s3 c o e)) hT' (s3.free hr0) hr' hP hpm hst
theorem ok_law_room {t : Adr} (T : Txt K mg t) : FnOk P w K mg base CX0 1 t.a_law_room t.d_law_room ["_law_script", "_law_most", "_law_bound"] (spRoom K) := by
  refine T.F_law_room.ok S_law_room (fun vs H Q E h => ?_) (fun cdv A outer s H vs Q E hr h => ?_)
  · obtain ⟨a, ns, m, n, rfl, _⟩ := h
    rfl
  · obtain ⟨a, ns, m, n, rfl, hS, hlen, k⟩ := h
    refine ⟨_, (pss_cons (ps_if (pt_cmpR op_gt (pe_callB (call_len_seq) (by rfl) T.n_len bt_len (pa_cons (pv 0) pa_nil)) pe_int (nomark _))
        (pss_one (ps_ret (pv 2)))
        pss_nil)
      (pss_one (ps_ret (pv 1)))), ?_⟩
    refine ⟨_, rfl, _, _, rfl, .inl hS, _, _, rfl, rfl, _, rfl, ?_⟩
    refine ite2 (fun z => absurd (of_decide_eq_true z) (by rw [List.length_map]; omega)) (fun _ => ?_)
    exact ⟨_, rfl, k⟩
theorem ok_law_whole {t : Adr} (T : Txt K mg t) : FnOk P w K mg base CX0 1 t.a_law_whole t.d_law_whole ["_law_found"] spWhole := by
  refine T.F_law_whole.ok S_law_whole (fun vs H Q E h => ?_) (fun cdv A outer s H vs Q E hr h => ?_)
  · obtain ⟨i, rfl, _⟩ := h
    rfl
  · obtain ⟨i, rfl, k⟩ := h
    refine ⟨_, (pss_one (ps_ret (pe_and (pe_callB (call_isinst) (by rfl) T.n_isinstance bt_isinstance (pa_cons (pv 0) (pa_cons (pe_bltn (v := .ty "int") (by rfl) T.n_int bt_int rfl) pa_nil))) (pe_one (pe_not (pe_callB (call_isinst) (by rfl) T.n_isinstance bt_isinstance (pa_cons (pv 0) (pa_cons (pe_bltn (v := .ty "bool") (by rfl) T.n_bool bt_bool rfl) pa_nil)))))))), ?_⟩
    refine ⟨_, rfl, _, _, _, _, rfl, .int _, kit_same _ _, _, rfl, ?_⟩
    refine iteT ?_
    refine ⟨_, rfl, _, _, _, _, rfl, .int _, kit_int_bool _, _, rfl, ?_⟩
    exact k
theorem ok_law_at {t : Adr} (T : Txt K mg t) : FnOk P w K mg base CX0 1 t.a_law_at t.d_law_at ["_law_script", "_law_k"] (spAt K) := by
  refine T.F_law_at.ok S_law_at (fun vs H Q E h => ?_) (fun cdv A outer s H vs Q E hr h => ?_)
  · obtain ⟨a, ns, k, rfl, _⟩ := h
    rfl
  · obtain ⟨a, ns, k, rfl, hS, h0, q⟩ := h
    refine ⟨_, (pss_cons (ps_if (pt_cmpR op_lt (pv 1) (pe_callB (call_len_seq) (by rfl) T.n_len bt_len (pa_cons (pv 0) pa_nil)) (nomark _))
        (pss_one (ps_ret (pe_ix ix_list (pv 0) (pv 1) (fun _ _ => rfl))))
        pss_nil)
      (pss_one (ps_ret pe_int))), ?_⟩
    refine ⟨_, rfl, _, rfl, _, _, rfl, .inl hS, _, _, rfl, rfl, _, rfl, ?_⟩
    refine ite2 (fun h1 => ?_) (fun h1 => ?_)
    · have h2 := of_decide_eq_true h1
      rw [List.length_map] at h2
      exact ⟨_, rfl, _, rfl, a, _, k, _, rfl, rfl, hS, atI_ints h0 h2, q⟩
    · have h2 : ¬ k < ((ns.map V.int).length : Int) := fun z => h1 (decide_eq_true z)
      rw [List.length_map] at h2
      have e : ns.getD k.toNat 0 = 0 := by
        rw [List.getD_eq_getElem?_getD, List.getElem?_eq_none (by omega)]
        rfl
      rw [e] at q
      exact q
theorem ok_law_sized {t : Adr} (T : Txt K mg t) : FnOk P w K mg base CX0 1 t.a_law_sized t.d_law_sized ["_law_seed", "_law_other", "_law_most"] spSized := by
  refine T.F_law_sized.ok S_law_sized (fun vs H Q E h => ?_) (fun cdv A outer s H vs Q E hr h => ?_)
  · obtain ⟨a, b, c, rfl, _⟩ := h
    rfl
  · obtain ⟨seed, other, most, rfl, hm, h0, h1, k⟩ := h
    refine ⟨_, (pss_cons (ps_if (pt_cmpR op_eq (pe_op op_mod (pv 1) pe_int) pe_int (nomark _))
        (pss_one (ps_ret (pe_op op_mod (pe_op op_mulB (pv 1) (pv 1)) (pe_op op_pow pe_int pe_int))))
        pss_nil)
      (pss_cons (ps_if (pt_cmpR op_eq (pe_op op_mod (pv 1) pe_int) pe_int (nomark _))
        (pss_one (ps_ret (pe_op op_mod (pv 1) (pe_op op_sub (pe_op op_mulB (pe_op op_pow pe_int pe_int) (pe_op op_pow pe_int pe_int)) pe_int))))
        pss_nil)
      (pss_one (ps_ret (pe_op op_mod (pv 0) (pv 2)))))), ?_⟩
    refine ⟨_, rfl, _, _, rfl, rfl, (by show (0 : Int) < 4; decide), rfl, _, rfl, ?_⟩
    refine ite2 (fun _ => ?_) (fun _ => ?_)
    · refine ⟨_, rfl, _, rfl, _, _, rfl, rfl, hm, _, _, rfl, rfl, ⟨by decide, by decide, by decide⟩, _, _, rfl, rfl, (show (0 : Int) < 10 ^ Int.toNat 9 by decide), ?_⟩
      exact k _ (Int.emod_nonneg _ (by decide)) (Int.le_trans (Int.le_of_lt (Int.emod_lt_of_pos _ (by decide))) ten9)
    refine ⟨_, rfl, _, _, rfl, rfl, (by show (0 : Int) < 19; decide), rfl, _, rfl, ?_⟩
    refine ite2 (fun _ => ?_) (fun _ => ?_)
    · have hpos : (0 : Int) < 10 ^ Int.toNat 50 * 10 ^ Int.toNat 50 - 1 := by decide +kernel
      refine ⟨_, rfl, _, _, rfl, rfl, ⟨by decide, by decide, by decide⟩, _, _, rfl, rfl, ⟨by decide, by decide, by decide⟩, _, _, rfl, rfl, mul_10_50, _, _, rfl, rfl, _, _, rfl, rfl, hpos, ?_⟩
      exact k _ (Int.emod_nonneg _ (Int.ne_of_gt hpos)) (Int.le_trans (Int.le_of_lt (Int.emod_lt_of_pos _ hpos)) ten100)
    refine ⟨_, rfl, _, rfl, _, _, rfl, rfl, h0, ?_⟩
    have hlt := Int.emod_lt_of_pos seed h0
    exact k _ (Int.emod_nonneg _ (by omega)) (Int.le_trans (Int.le_trans (Int.le_of_lt hlt) h1) small100)
theorem ok_law_some {t : Adr} (T : Txt K mg t) : FnOk P w K mg base CX0 1 t.a_law_some t.d_law_some ["_law_first", "_law_most", "_law_seed", "_law_turn"] spSome := by
  refine T.F_law_some.ok S_law_some (fun vs H Q E h => ?_) (fun cdv A outer s H vs Q E hr h => ?_)
  · obtain ⟨a, b, c, d, rfl, _⟩ := h
    rfl
  · obtain ⟨first, most, seed, turn, rfl, h1, k⟩ := h
    refine ⟨_, (pss_cons (ps_if (pt_cmpR op_eq (pv 3) pe_int (nomark _))
        (pss_one (ps_ret (pe_callB (call_max2 rfl) (by rfl) T.n_max bt_max (pa_cons pe_int (pa_cons (pe_op op_add (pv 1) (pe_op op_mod (pv 2) pe_int)) pa_nil)))))
        pss_nil)
      (pss_cons (ps_if (pt_cmpR op_eq (pv 3) pe_int (nomark _))
        (pss_one (ps_ret (pe_op op_add pe_int (pe_op op_mod (pv 2) (pe_callB (call_max2 rfl) (by rfl) T.n_max bt_max (pa_cons pe_int (pa_cons (pv 1) pa_nil)))))))
        pss_nil)
      (pss_one (ps_ret (pv 0))))), ?_⟩
    refine ⟨_, rfl, rfl, _, rfl, ?_⟩
    refine ite2 (fun _ => ?_) (fun _ => ?_)
    · refine ⟨_, rfl, _, rfl, _, _, rfl, rfl, (by show (0 : Int) < 2; decide), _, _, rfl, rfl, _, _, rfl, ?_⟩
      exact k _ (by split <;> omega)
    refine ⟨_, rfl, rfl, _, rfl, ?_⟩
    refine ite2 (fun _ => ?_) (fun _ => ?_)
    · have hpos : (0 : Int) < (if most > 1 then most else 1) := by split <;> omega
      refine ⟨_, rfl, _, rfl, _, _, rfl, _, _, rfl, rfl, hpos, _, _, rfl, rfl, ?_⟩
      exact k _ (by have := Int.emod_nonneg seed (Int.ne_of_gt hpos); omega)
    exact ⟨_, rfl, k _ h1⟩
theorem ok_law_twin {t : Adr} (T : Txt K mg t) : FnOk P w K mg base CX0 1 t.a_law_twin t.d_law_twin ["_law_cells", "_law_sign"] (spTwin K) := by
  refine T.F_law_twin.ok S_law_twin (fun vs H Q E h => ?_) (fun cdv A outer s H vs Q E hr h => ?_)
  · obtain ⟨a, b, c, rfl, _⟩ := h
    rfl
  · obtain ⟨a, ns, x, rfl, hS, hx, k⟩ := h
    refine ⟨_, (pss_cons (ps_set (i := 2) S_law_twin.nd rfl (Or.inl rfl) (pe_op op_mod (pe_op op_fdiv (pe_callB (call_sumL rfl) (by rfl) T.n_sum bt_sum (pa_cons (pe_slice sl_list (pv 0) po_none (po_some pe_int)) pa_nil)) pe_int) pe_int))
      (pss_one (ps_ret (pe_op op_add_str (pe_op op_add_str (pe_op op_mul_str pe_str (pv 2)) (pv 1)) (pe_op op_mul_str pe_str (pe_op op_sub pe_int (pv 2))))))), ?_⟩
    refine ⟨_, rfl, _, rfl, a, _, rfl, hS, fun c hc => ?_⟩
    rw [cut_to1]
    have s1 := same_new (o := HO.lst ((ns.take 1).map V.int)) hc
    refine ⟨c, ns.take 1, rfl, SqL.of upd_same, _, _, rfl, rfl, ⟨by decide, by decide⟩, _, _, rfl, rfl, (by show (0 : Int) < 40; decide), ?_⟩
    have h0 := spot_nn ns
    have h1 := spot_lt ns
    have l1 := len40' (k := spot ns) h0 (by omega)
    have l2 := len40' (k := 39 - spot ns) (by omega) (by omega)
    refine ⟨_, rfl, _, _, rfl, rfl, mul40' (k := spot ns) h0 (by omega), _, rfl, _, _, rfl, rfl, line_le (by show (Txt.mul "n" (spot ns)).length + x.length ≤ 1000; omega), _, rfl, _, _, rfl, rfl, _, _, rfl, rfl, mul40' (k := 39 - spot ns) (by omega) (by omega), _, _, rfl, rfl, ?_, ?_⟩
    · refine line_le ?_
      rw [strLen_append]
      show (Txt.mul "n" (spot ns)).length + x.length + (Txt.mul "n" (39 - spot ns)).length ≤ 1000
      omega
    · exact k _ s1
theorem ok_law_handed_in {t : Adr} (T : Txt K mg t) : FnOk P w K mg base CX0 1 t.a_law_handed_in t.d_law_handed_in ["_law_uses", "_law_stock", "_law_use", "_law_amount"] spHandIn := by
  refine T.F_law_handed_in.ok S_law_handed_in (fun vs H Q E h => ?_) (fun cdv A outer s H vs Q E hr h => ?_)
  · obtain ⟨e, d, kvs, W, st, S, kn, am, rfl, _⟩ := h
    rfl
  · obtain ⟨e, d, kvs, W, st, S, kn, am, rfl, he, hU, hed, hW5, hd, hst, ham, k⟩ := h
    have hu := hu_of hr
    refine ⟨_, (pss_one (ps_if (PW.pt (pw_and (pt_cmp (pc_din hu (pv 2) (pv 0))) (pw_and1 (pt_cmpR op_ge (pe_ix ix_list (pe_dget hu (pv 0) (pv 2) (fun _ _ => rfl)) pe_int (fun _ _ => rfl)) (pv 3) (nomark _)))))
        (pss_cons (ps_asg (pe_op op_sub (pe_ix ix_list (pe_dget hu (pv 0) (pv 2) (fun _ _ => rfl)) pe_int (fun _ _ => rfl)) (pv 3)) (pg_sub (pe_dget hu (pv 0) (pv 2) (fun _ _ => rfl)) pe_int set_list))
        (pss_one (ps_dput hu (pv 1) (pe_ix ix_list (pe_dget hu (pv 0) (pv 2) (fun _ _ => rfl)) pe_int (fun _ _ => rfl)) (pe_op op_add (pe_dget hu (pv 1) (pe_ix ix_list (pe_dget hu (pv 0) (pv 2) (fun _ _ => rfl)) pe_int (fun _ _ => rfl)) (fun _ _ => rfl)) (pv 3)) rfl)))
        pss_nil)), ?_⟩
    have same : Q .non H := k H st he hU hd (fun w => ⟨(hst w).1, by have := hst w; omega⟩) fun c o z _ _ => z
    refine ⟨_, rfl, _, rfl, e, _, rfl, DGet.k (k := Sum.inl kn) he, _, rfl, ?_⟩
    cases hv : valV kvs (Sum.inl kn : Key) with
    | none => exact iteF (iteF same)
    | some v =>
      refine iteT ?_
      obtain ⟨a, w, am0, rfl, ha, hw, h0, hS⟩ := hU kn v hv
      have hg : DGet H e (.int kn) (some (.ref a)) := by
        have := DGet.k (k := (Sum.inl kn : Key)) he
        rw [hv] at this
        exact this
      refine ⟨_, rfl, _, rfl, e, _, rfl, hg, a, _, _, _, rfl, rfl, SqL.of ha, rfl, _, rfl, _, _, rfl, rfl, _, rfl, ?_⟩
      refine ite2 (fun hge => ?_) (fun _ => same)
      have hge' : am ≤ am0 := of_decide_eq_true hge
      have hea : e ≠ a := ne_of he ha (by intro z; cases z)
      have hda : d ≠ a := ne_of hd ha (by intro z; cases z)
      refine ⟨_, rfl, _, rfl, e, _, rfl, hg, a, _, _, _, rfl, rfl, SqL.of ha, rfl, _, rfl, _, _, rfl, rfl, _, rfl, _, rfl, e, _, rfl, hg, a, _, _, 1, rfl, rfl, ha, rfl, ?_⟩
      have ha1 : (upd H a (.lst [.str w, .int (am0 - am)])) a = some (.lst [.str w, .int (am0 - am)]) := upd_same
      have he1 : (upd H a (.lst [.str w, .int (am0 - am)])) e = some (.dK kvs) := by rw [upd_ne hea]; exact he
      have hd1 : (upd H a (.lst [.str w, .int (am0 - am)])) d = some (.dK (stk W st)) := by rw [upd_ne hda]; exact hd
      have hg1 : DGet (upd H a (.lst [.str w, .int (am0 - am)])) e (.int kn) (some (.ref a)) := by
        have := DGet.k (k := (Sum.inl kn : Key)) he1
        rw [hv] at this
        exact this
      have hs1 : DGet (upd H a (.lst [.str w, .int (am0 - am)])) d (.str w) (some (.int (st w))) := by
        have := DGet.k (k := (Sum.inr w : Key)) hd1
        rw [stk_val hw] at this
        exact this
      refine ⟨_, rfl, _, rfl, _, rfl, e, _, rfl, hg1, a, _, _, _, rfl, rfl, SqL.of ha1, rfl, d, _, rfl, hs1, _, rfl, _, _, rfl, rfl, _, rfl, _, rfl, _, rfl, e, _, rfl, hg1, a, _, _, _, rfl, rfl, SqL.of ha1, rfl, d, _, rfl, DPut.k (k := Sum.inr w) hd1 (line_lt (by rw [stk_len]; omega)), ?_⟩
      refine k _ (setS st w (st w + am)) (by rw [upd_ne hed]; exact he1) ?_ (by rw [upd_same]; exact congrArg (fun z => some (HO.dK z)) (stk_put hw)) (fun x => ?_) fun c o z hcd hno => ?_
      · intro n v' e'
        obtain ⟨a', w', am', rfl, h2, h3, h4, h5⟩ := hU n v' e'
        by_cases ea : a' = a
        · subst ea
          rw [ha] at h2
          cases h2
          exact ⟨a', w, am0 - am, rfl, Eq.trans (upd_ne hda.symm) upd_same, hw, by omega, by omega⟩
        · refine ⟨a', w', am', rfl, ?_, h3, h4, h5⟩
          rw [upd_ne (ne_of h2 hd (by intro z; cases z)), upd_ne ea]
          exact h2
      · unfold setS
        have := hst x
        have := hst w
        split <;> omega
      · have hca : c ≠ a := fun z' => by
          subst z'
          exact hno kn hv
        rw [upd_ne hcd, upd_ne hca]
        exact z
theorem ok_law_deeds {t : Adr} (T : Txt K mg t) : FnOk P w K mg base CX0 2 t.a_law_deeds t.d_law_deeds ["_law_cells"] (spDeeds K) := by
  have G_law_twin : FnOk P w K mg base CX0 1 t.a_law_twin t.d_law_twin ["_law_cells", "_law_sign"] (spTwin K) := ok_law_twin T
  have G_law_sized : FnOk P w K mg base CX0 1 t.a_law_sized t.d_law_sized ["_law_seed", "_law_other", "_law_most"] spSized := ok_law_sized T
  have G_law_some : FnOk P w K mg base CX0 1 t.a_law_some t.d_law_some ["_law_first", "_law_most", "_law_seed", "_law_turn"] spSome := ok_law_some T
  have G_law_handed_in : FnOk P w K mg base CX0 1 t.a_law_handed_in t.d_law_handed_in ["_law_uses", "_law_stock", "_law_use", "_law_amount"] spHandIn := ok_law_handed_in T
  refine T.F_law_deeds.ok S_law_deeds (fun vs H Q E h => ?_) (fun cdv A outer s H vs Q E hr h => ?_)
  · obtain ⟨a, ns, rfl, _⟩ := h
    rfl
  · obtain ⟨a, ns, rfl, hS, hlen, hbits, k⟩ := h
    have hu := hu_of hr
    refine ⟨_, (pss_cons (ps_set (i := 1) S_law_deeds.nd rfl (Or.inl rfl) (pe_lst pa_nil))
      (pss_cons (ps_set (i := 2) S_law_deeds.nd rfl (Or.inl rfl) (pe_disp (pps_cons pe_str pe_int (pps_cons (pe_call G_law_twin hr (by rfl) T.m_law_twin T.F_law_twin.kp T.b_law_twin .nil pass0 (pa_cons (pv 0) (pa_cons pe_str pa_nil))) pe_int (pps_cons (pe_call G_law_twin hr (by rfl) T.m_law_twin T.F_law_twin.kp T.b_law_twin .nil pass0 (pa_cons (pv 0) (pa_cons pe_str pa_nil))) pe_int (pps_cons pe_str pe_int (pps_cons pe_str pe_int pps_nil))))) rfl rfl (List.cons_ne_nil _ _) (by show 5 ≤ 15; decide)))
      (pss_cons (ps_set (i := 3) S_law_deeds.nd rfl (Or.inl rfl) pe_dnewK)
      (pss_cons (ps_for PassesOwn.never rfl (pi_range1 (by rfl) T.n_range (pa_cons (pe_callB (call_len_seq) (by rfl) T.n_len bt_len (pa_cons (pv 0) pa_nil)) pa_nil)) (pg_name (i := 4) S_law_deeds.nd rfl (Or.inl rfl))
        (pss_cons (ps_set (i := 5) S_law_deeds.nd rfl (Or.inl rfl) (pe_op op_mod (pe_op op_add (pe_ix ix_list (pv 0) (pv 4) (fun _ _ => rfl)) (pe_op op_mul pe_int (pv 4))) pe_int))
        (pss_cons (ps_set (i := 6) S_law_deeds.nd rfl (Or.inl rfl) (pe_op op_fdiv (pe_ix ix_list (pv 0) (pv 4) (fun _ _ => rfl)) pe_int))
        (pss_cons (ps_set (i := 7) S_law_deeds.nd rfl (Or.inl rfl) (pe_ix ix_list (pv 0) (pe_op op_mod (pe_op op_add (pv 4) pe_int) (pe_callB (call_len_seq) (by rfl) T.n_len bt_len (pa_cons (pv 0) pa_nil))) (fun _ _ => rfl)))
        (pss_cons (ps_set (i := 8) S_law_deeds.nd rfl (Or.inl rfl) (pe_ix ix_list (pe_callB (call_sortedS) (by rfl) T.n_sorted bt_sorted (pa_cons (pe_callTy (call_list_dict rfl) (by rfl) T.n_list bt_list (pa_cons (pv 2) pa_nil)) pa_nil)) (pe_op op_mod (pe_op op_add (pv 6) (pe_op op_fdiv (pv 4) pe_int)) pe_int) (fun _ _ => rfl)))
        (pss_one (ps_if (pt_cmpR op_lt (pv 5) pe_int (nomark _))
          (pss_cons (ps_set (i := 9) S_law_deeds.nd rfl (Or.inl rfl) (pe_op op_add pe_int (pe_call G_law_sized hr (by rfl) T.m_law_sized T.F_law_sized.kp T.b_law_sized .nil pass0 (pa_cons (pe_op op_fdiv (pv 6) pe_int) (pa_cons (pv 7) (pa_cons pe_int pa_nil))))))
          (pss_cons (ps_set (i := 10) S_law_deeds.nd rfl (Or.inl rfl) (pe_call G_law_sized hr (by rfl) T.m_law_sized T.F_law_sized.kp T.b_law_sized .nil pass0 (pa_cons (pe_op op_add (pv 7) (pv 4)) (pa_cons (pv 6) (pa_cons pe_int pa_nil)))))
          (pss_cons (ps_expr (pe_bm F.plainAttrs_list F.slot_list_append F.type_list_append mt_append (pv 1) (pa_cons (pe_tup (pa_cons pe_str (pa_cons (pv 8) (pa_cons (pv 9) (pa_cons (pv 10) pa_nil))))) pa_nil)))
          (pss_one (ps_dput hu (pv 2) (pv 8) (pe_op op_add (pe_dget hu (pv 2) (pv 8) (fun _ _ => rfl)) (pv 9)) rfl)))))
          (pss_one (ps_if (pt_cmpR op_lt (pv 5) pe_int (nomark _))
            (pss_cons (ps_set (i := 11) S_law_deeds.nd rfl (Or.inl rfl) (pe_op op_add pe_int (pe_op op_mod (pe_op op_fdiv (pv 6) pe_int) pe_int)))
            (pss_cons (ps_set (i := 9) S_law_deeds.nd rfl (Or.inl rfl) (pe_call G_law_some hr (by rfl) T.m_law_some T.F_law_some.kp T.b_law_some .nil pass0 (pa_cons (pv 11) (pa_cons (pe_dget hu (pv 2) (pv 8) (fun _ _ => rfl)) (pa_cons (pe_op op_fdiv (pv 7) pe_int) (pa_cons (pe_op op_mod (pe_op op_add (pv 7) (pv 4)) pe_int) pa_nil))))))
            (pss_cons (ps_expr (pe_bm F.plainAttrs_list F.slot_list_append F.type_list_append mt_append (pv 1) (pa_cons (pe_tup (pa_cons pe_str (pa_cons (pv 8) (pa_cons (pv 9) pa_nil)))) pa_nil)))
            (pss_one (ps_if (pt_cmpR op_le (pv 9) (pe_dget hu (pv 2) (pv 8) (fun _ _ => rfl)) (nomark _))
              (pss_cons (ps_dput hu (pv 3) (pe_callB (call_lenD) (by rfl) T.n_len bt_len (pa_cons (pv 3) pa_nil)) (pe_lst (pa_cons (pv 8) (pa_cons (pv 9) pa_nil))) rfl)
              (pss_one (ps_dput hu (pv 2) (pv 8) (pe_op op_sub (pe_dget hu (pv 2) (pv 8) (fun _ _ => rfl)) (pv 9)) rfl)))
              pss_nil)))))
            (pss_one (ps_if (pt_cmpR op_lt (pv 5) pe_int (nomark _))
              (pss_cons (ps_set (i := 12) S_law_deeds.nd rfl (Or.inl rfl) (pe_op op_sub (pe_op op_mod (pv 6) (pe_op op_add (pe_callB (call_lenD) (by rfl) T.n_len bt_len (pa_cons (pv 3) pa_nil)) pe_int)) (pe_callTy (call_intB) (by rfl) T.n_int bt_int (pa_cons (pe_cmpR op_eq (pe_op op_mod (pe_op op_fdiv (pv 7) pe_int) pe_int) pe_int (nomark _)) pa_nil))))
              (pss_cons (ps_set (i := 9) S_law_deeds.nd rfl (Or.inl rfl) (pe_op op_add pe_int (pe_op op_mod (pe_op op_fdiv (pv 6) pe_int) pe_int)))
              (pss_cons (ps_if (pt_cmp (pc_din hu (pv 12) (pv 3)))
                (pss_one (ps_set (i := 9) S_law_deeds.nd rfl (Or.inl rfl) (pe_call G_law_some hr (by rfl) T.m_law_some T.F_law_some.kp T.b_law_some .nil pass0 (pa_cons (pv 9) (pa_cons (pe_ix ix_list (pe_dget hu (pv 3) (pv 12) (fun _ _ => rfl)) pe_int (fun _ _ => rfl)) (pa_cons (pe_op op_fdiv (pv 7) pe_int) (pa_cons (pe_op op_mod (pe_op op_add (pv 7) (pv 4)) pe_int) pa_nil)))))))
                pss_nil)
              (pss_cons (ps_if (pt_cmpR op_eq (pe_op op_mod (pe_ix ix_list (pv 0) (pv 4) (fun _ _ => rfl)) pe_int) pe_int (nomark _))
                (pss_one (ps_set (i := 12) S_law_deeds.nd rfl (Or.inl rfl) (pe_ix ix_list (pe_lst (pa_cons (pe_un un_neg pe_int) (pa_cons (pe_op op_sub pe_int (pe_callB (call_lenD) (by rfl) T.n_len bt_len (pa_cons (pv 3) pa_nil))) (pa_cons (pe_op op_add (pe_callB (call_lenD) (by rfl) T.n_len bt_len (pa_cons (pv 3) pa_nil)) pe_int) (pa_cons (pe_op op_pow pe_int pe_int) pa_nil))))) (pe_op op_mod (pv 7) pe_int) (fun _ _ => rfl))))
                pss_nil)
              (pss_cons (ps_expr (pe_bm F.plainAttrs_list F.slot_list_append F.type_list_append mt_append (pv 1) (pa_cons (pe_tup (pa_cons pe_str (pa_cons (pv 12) (pa_cons (pv 9) pa_nil)))) pa_nil)))
              (pss_one (ps_expr (pe_call G_law_handed_in hr (by rfl) T.m_law_handed_in T.F_law_handed_in.kp T.b_law_handed_in .nil pass0 (pa_cons (pv 3) (pa_cons (pv 2) (pa_cons (pv 12) (pa_cons (pv 9) pa_nil))))))))))))
              (pss_cons (ps_set (i := 13) S_law_deeds.nd rfl (Or.inl rfl) (pe_call G_law_sized hr (by rfl) T.m_law_sized T.F_law_sized.kp T.b_law_sized .nil pass0 (pa_cons (pe_op op_fdiv (pv 6) pe_int) (pa_cons (pv 7) (pa_cons pe_int pa_nil)))))
              (pss_cons (ps_set (i := 14) S_law_deeds.nd rfl (Or.inl rfl) (pe_lst (pa_cons pe_int (pa_cons (pe_op op_mod (pe_op op_fdiv (pv 6) pe_int) (pe_op op_add (pe_dget hu (pv 2) (pv 8) (fun _ _ => rfl)) pe_int)) (pa_cons (pe_op op_add (pe_dget hu (pv 2) (pv 8) (fun _ _ => rfl)) (pv 13)) pa_nil)))))
              (pss_cons (ps_expr (pe_bm F.plainAttrs_list F.slot_list_append F.type_list_append mt_append (pv 14) (pa_cons (pe_callB (call_max2 rfl) (by rfl) T.n_max bt_max (pa_cons pe_int (pa_cons (pe_op op_sub (pe_op op_add (pe_dget hu (pv 2) (pv 8) (fun _ _ => rfl)) (pe_op op_mod (pe_op op_fdiv (pv 6) pe_int) pe_int)) pe_int) pa_nil))) pa_nil)))
              (pss_cons (ps_set (i := 15) S_law_deeds.nd rfl (Or.inl rfl) (pe_ix ix_list (pv 14) (pe_callB (call_min2 rfl) (by rfl) T.n_min bt_min (pa_cons pe_int (pa_cons (pe_op op_mod (pv 7) pe_int) pa_nil))) (fun _ _ => rfl)))
              (pss_cons (ps_expr (pe_bm F.plainAttrs_list F.slot_list_append F.type_list_append mt_append (pv 1) (pa_cons (pe_tup (pa_cons pe_str (pa_cons (pv 8) (pa_cons (pv 15) pa_nil)))) pa_nil)))
              (pss_one (ps_dput hu (pv 2) (pv 8) (pv 15) rfl))))))))))))))))))
      (pss_one (ps_ret (pv 1))))))), ?_⟩
    refine ⟨(by show 0 ≤ sizeLine; decide), fun l hl => ?_⟩
    have s1 := same_new (o := HO.lst []) hl
    -- _law_stock
    intro sd hsd
    have s2 := same_new (o := HO.dK []) hsd
    refine ⟨_, rfl, a, ns, "a", rfl, (s1.trans s2).seq hS, (by decide), fun H2 s3 => ?_⟩
    refine ⟨_, rfl, a, ns, "b", rfl, ((s1.trans s2).trans s3).seq hS, (by decide), fun H3 s4 => ?_⟩
    have s34 := s3.trans s4
    have hnd := wares_nd' (spot_nn ns) (spot_lt ns)
    have hW5 : (wares (spot ns)).length = 5 := rfl
    refine ⟨s34 _ _ upd_same, stk (wares (spot ns)) (fun _ => 0), rfl, (by show 5 ≤ 15; decide), ?_⟩
    rw [stk_merge hnd]
    have hsd0 : H sd = none := s1.free hsd
    have hl3 : H3 l = some (.lst []) := (s2.trans s34) _ _ upd_same
    have hlsd : l ≠ sd := (ne_of_none (show (upd H l (HO.lst [])) l = some (.lst []) from upd_same) hsd)
    intro ud hud
    have hsd4 : (upd H3 sd (HO.dK (stk (wares (spot ns)) fun _ => 0))) sd = some (.dK (stk (wares (spot ns)) fun _ => 0)) := upd_same
    have husd : ud ≠ sd := (ne_of_none hsd4 hud).symm
    have s04 : Same H (upd H3 sd (HO.dK (stk (wares (spot ns)) fun _ => 0))) := fun c o e => by
      rw [upd_ne (ne_of_none e hsd0)]
      exact ((s1.trans s2).trans s34) c o e
    have hud0 : H ud = none := s04.free hud
    have s5 := same_new (o := HO.dK []) hud
    have I0 : DInv H (wares (spot ns)) l sd ud 0 0 0 (upd (upd H3 sd (HO.dK (stk (wares (spot ns)) fun _ => 0))) ud (HO.dK [])) [] (fun _ => 0) [] := by
      refine ⟨s04.trans s5, ⟨[], s5 _ _ (by rw [upd_ne hlsd]; exact hl3), .nil⟩, rfl, fun dd hdd => by simp at hdd, s5 _ _ hsd4, fun w => ⟨Int.le_refl _, cap_nn 0⟩, upd_same, Nat.le_refl _, (fun k v e => by cases e), fun k v e => by cases e⟩
    generalize (upd (upd H3 sd (HO.dK (stk (wares (spot ns)) fun _ => 0))) ud (HO.dK [])) = H5 at I0
    generalize hWe : wares (spot ns) = W at *
    have en : (((ns.map V.int).length : Nat) : Int).toNat = ns.length := by simp
    refine ⟨_, rfl, _, _, rfl, .inl (I0.s.seq hS), _, rfl, rlo _, rhi (by rw [List.length_map]; omega), ?_⟩
    refine for_range (fun i σ H2 => ∃ (ds : List Deed) (st : Str → Int) (kvs : List (Key × V)) (v4 v5 v6 v7 v8 v9 v10 v11 v12 v13 v14 v15 : Option V),
      σ = [some (.ref a), some (.ref l), some (.ref sd), some (.ref ud), v4, v5, v6, v7, v8, v9, v10, v11, v12, v13, v14, v15] ∧ DInv H W l sd ud i i i H2 ds st kvs) ?_ ?_ ?_
    · exact ⟨[], _, [], _, _, _, _, _, _, _, _, _, _, _, _, rfl, I0⟩
    · rintro i σ H6 hi ⟨ds, st, kvs, v4, v5, v6, v7, v8, v9, v10, v11, v12, v13, v14, v15, rfl, I6⟩
      rw [en] at hi
      rw [Int.zero_add]
      have hc : atI (ns.map V.int) (i : Int) = some (.int (ns.getD i 0)) := by
        have := atI_ints (ns := ns) (i := (i : Int)) (by omega) (by omega)
        simpa using this
      have hcb : Builtin.Int.intBits (ns.getD i 0) ≤ 2 ^ 20 := by
        rw [List.getD_eq_getElem?_getD, List.getElem?_eq_getElem hi]
        exact hbits _ (List.getElem_mem _)
      generalize ns.getD i 0 = c at hc hcb
      have hm0 : (0 : Int) < ((ns.map V.int).length : Int) := by rw [List.length_map]; omega
      have hnear : ∃ nr, atI (ns.map V.int) (((i : Int) + 1) % ((ns.map V.int).length : Int)) = some (.int nr) ∧ Builtin.Int.intBits nr ≤ 2 ^ 20 := by
        rw [List.length_map] at hm0 ⊢
        have h0 := Int.emod_nonneg ((i : Int) + 1) (show ((ns.length : Nat) : Int) ≠ 0 by omega)
        have h1 := Int.emod_lt_of_pos ((i : Int) + 1) hm0
        refine ⟨_, atI_ints h0 h1, ?_⟩
        rw [List.getD_eq_getElem?_getD, List.getElem?_eq_getElem (by omega)]
        exact hbits _ (List.getElem_mem _)
      obtain ⟨nr, hnr, hnb⟩ := hnear
      have hmN : IntMulOk nr nr := IntMulOk.of_bits hnb hnb
      have hrb : Builtin.Int.intBits (c / 8) ≤ 2 ^ 20 := bits_div (by decide) hcb
      have hmR : IntMulOk (c / 8) (c / 8) := IntMulOk.of_bits hrb hrb
      have hS6 := I6.s.seq hS
      have hcap := cap_ge i
      have hcapn := cap_nn i
      have hcs := cap_succ i
      have hc64 : cap (i + 1) ≤ cap 64 := cap_mono (by omega)
      have h101 := ten100b
      -- turn, rest, near
      refine ⟨_, rfl, _, rfl, a, _, _, _, rfl, rfl, hS6, hc, _, rfl, _, _, rfl, rfl, cmul_l (by decide) (by decide), _, _, rfl, rfl, _, _, rfl, rfl, (by show (0 : Int) < 8; decide), ?_⟩
      refine ⟨_, rfl, _, rfl, a, _, _, _, rfl, rfl, hS6, hc, _, _, rfl, rfl, ⟨by decide, by decide⟩, ?_⟩
      refine ⟨_, rfl, _, rfl, _, _, rfl, rfl, _, rfl, _, _, rfl, .inl hS6, _, _, rfl, rfl, hm0, a, _, _, _, rfl, rfl, hS6, hnr, ?_⟩
      -- ware
      refine ⟨_, rfl, sd, _, rfl, .inl I6.sd, fun kl hkl => ?_⟩
      rw [stk_keys]
      have s7 := same_new (o := HO.lst (W.map V.str)) hkl
      refine ⟨kl, W, rfl, SqL.of upd_same, by omega, fun sl hsl ss' hperm => ?_⟩
      have s8 := s7.trans (same_new (o := HO.lst (ss'.map V.str)) hsl)
      have hsl8 : (upd (upd H6 kl (HO.lst (W.map V.str))) sl (HO.lst (ss'.map V.str))) sl = some (.lst (ss'.map V.str)) := upd_same
      obtain ⟨w, hw, hatw⟩ := perm_at hperm hW5 (c / 8 + (i : Int) / 3)
      refine ⟨_, rfl, _, rfl, _, _, rfl, rfl, ⟨by decide, by decide⟩, _, _, rfl, rfl, _, _, rfl, rfl, (by show (0 : Int) < 5; decide), sl, _, _, _, rfl, rfl, SqL.of hsl8, hatw, ?_⟩
      have I8 := I6.same s8
      generalize (upd (upd H6 kl (HO.lst (W.map V.str))) sl (HO.lst (ss'.map V.str))) = H8 at *
      obtain ⟨xl, hxl, hpl⟩ := id I8.D
      have hll : xl.length = i := by rw [Paired.length hpl, I8.n]
      have hstw := I8.st w
      have hget : DGet H8 sd (.str w) (some (.int (st w))) := by
        have := DGet.k (k := (Sum.inr w : Key)) I8.sd
        rw [stk_val hw] at this
        exact this
      -- the ways
      refine ⟨_, rfl, _, _, rfl, rfl, _, rfl, ?_⟩
      refine ite2 (fun _ => ?_) (fun _ => ?_)
      · -- come
        refine ⟨_, rfl, _, _, rfl, rfl, ⟨by decide, by decide⟩, _, rfl, _, _, _, rfl, hmN, (by decide), (by decide), fun r1 hr10 hr11 => ?_⟩
        refine ⟨_, _, rfl, rfl, ?_⟩
        refine ⟨_, rfl, _, rfl, _, _, rfl, rfl, _, rfl, _, _, _, rfl, hmR, (by decide), (by decide), fun r2 hr20 hr21 => ?_⟩
        refine ⟨_, rfl, tyL hxl, _, rfl, _, rfl, _, rfl, (by show 4 ≤ sizeLine; decide), fun p hp => ?_⟩
        refine ⟨l, xl, _, rfl, rfl, (by rw [upd_ne (ne_of_none hxl hp)]; exact hxl), line_lt (by omega), ?_⟩
        have hdd : DOk W (cap 64) (.come w (1 + r1) r2) := ⟨hw, by omega, by omega, by omega, by omega⟩
        have I9 := I8.push hl hp hxl hdd
        have hget9 : DGet (upd (upd H8 p (.tup (deedVs (.come w (1 + r1) r2)))) l (.lst (xl ++ [.ref p]))) sd (.str w) (some (.int (st w))) := by
          have := DGet.k (k := (Sum.inr w : Key)) I9.sd
          rw [stk_val hw] at this
          exact this
        refine ⟨_, rfl, _, rfl, sd, _, rfl, hget9, _, rfl, _, _, rfl, rfl, _, rfl, _, rfl, sd, _, rfl, DPut.k (k := Sum.inr w) I9.sd (line_lt (by rw [stk_len]; omega)), ?_⟩
        exact ⟨_, _, _, _, _, _, _, _, _, _, _, _, _, _, _, rfl, (I9.stock hsd0 husd hw (j := i + 1) (v := st w + (1 + r1)) (by omega) (by omega) (by omega)).up (by omega) (by omega)⟩
      refine ⟨_, rfl, _, _, rfl, rfl, _, rfl, ?_⟩
      refine ite2 (fun _ => ?_) (fun _ => ?_)
      · -- use
        refine ⟨_, rfl, _, _, rfl, rfl, ⟨by decide, by decide⟩, _, _, rfl, rfl, (by show (0 : Int) < 13; decide), _, _, rfl, rfl, ?_⟩
        refine ⟨_, rfl, _, rfl, _, rfl, sd, _, rfl, hget, _, rfl, _, _, rfl, rfl, ⟨by decide, by decide⟩, _, rfl, _, rfl, _, _, rfl, rfl, _, _, rfl, rfl, (by show (0 : Int) < 4; decide), _, _, _, _, rfl, by omega, fun r hr1 => ?_⟩
        refine ⟨_, rfl, tyL hxl, _, rfl, _, rfl, (by show 3 ≤ sizeLine; decide), fun p hp => ?_⟩
        refine ⟨l, xl, _, rfl, rfl, (by rw [upd_ne (ne_of_none hxl hp)]; exact hxl), line_lt (by omega), ?_⟩
        have I9 := I8.push hl hp hxl (dd := .use w r) ⟨hw, hr1⟩
        have hget9 : DGet (upd (upd H8 p (.tup (deedVs (.use w r)))) l (.lst (xl ++ [.ref p]))) sd (.str w) (some (.int (st w))) := by
          have := DGet.k (k := (Sum.inr w : Key)) I9.sd
          rw [stk_val hw] at this
          exact this
        refine ⟨_, rfl, _, rfl, _, rfl, sd, _, rfl, hget9, _, _, rfl, rfl, _, rfl, ?_⟩
        refine ite2 (fun hle => ?_) (fun _ => ⟨_, _, _, _, _, _, _, _, _, _, _, _, _, _, _, rfl, I9.up (by omega) (by omega)⟩)
        have hle' : r ≤ st w := of_decide_eq_true hle
        refine ⟨_, rfl, _, rfl, (by show 2 ≤ sizeLine; decide), fun q hq => ?_⟩
        have I9' := I9.same (same_new (o := HO.lst [.str w, .int r]) hq)
        have hul := I9.ul
        refine ⟨_, rfl, _, rfl, _, _, rfl, I9'.ud, ud, _, rfl, DPut.k (k := Sum.inl _) I9'.ud (line_lt (by omega)), ?_⟩
        have I10 := I9.use hud0 husd hq hw (am := r) (n := ((kvs.length : Nat) : Int)) (by omega) (by omega)
        have hget10 : DGet (upd (upd (upd (upd H8 p (.tup (deedVs (.use w r)))) l (.lst (xl ++ [.ref p]))) q (.lst [.str w, .int r])) ud (.dK (putK kvs (Sum.inl ((kvs.length : Nat) : Int) : Key) (.ref q)))) sd (.str w) (some (.int (st w))) := by
          have := DGet.k (k := (Sum.inr w : Key)) I10.sd
          rw [stk_val hw] at this
          exact this
        refine ⟨_, rfl, _, rfl, sd, _, rfl, hget10, _, rfl, _, _, rfl, rfl, _, rfl, _, rfl, sd, _, rfl, DPut.k (k := Sum.inr w) I10.sd (line_lt (by rw [stk_len]; omega)), ?_⟩
        exact ⟨_, _, _, _, _, _, _, _, _, _, _, _, _, _, _, rfl, I10.stock hsd0 husd hw (j := i + 1) (v := st w - r) (by omega) (by omega) (by omega)⟩
      refine ⟨_, rfl, _, _, rfl, rfl, _, rfl, ?_⟩
      refine ite2 (fun _ => ?_) (fun _ => ?_)
      · -- back
        have hul := I8.ul
        refine ⟨_, rfl, _, rfl, ud, _, rfl, I8.ud, _, _, rfl, rfl, _, _, rfl, rfl, (by show (0 : Int) < ((kvs.length : Nat) : Int) + 1; omega), _, rfl, _, _, rfl, rfl, ⟨by decide, by decide⟩, _, _, rfl, rfl, (by show (0 : Int) < 7; decide), rfl, _, rfl, _, _, rfl, rfl, ?_⟩
        refine ⟨_, rfl, _, _, rfl, rfl, ⟨by decide, by decide⟩, _, _, rfl, rfl, (by show (0 : Int) < 5; decide), _, _, rfl, rfl, ?_⟩
        -- whatever the use and the amount (one or more) are, the turn ends well
        have fin : ∀ (H9 : Hp), DInv H W l sd ud i i i H9 ds st kvs → ∀ (kn am : Int), 1 ≤ am → ∀ (p : Addr), H9 p = none → ∀ xl9, H9 l = some (.lst xl9) →
            ∀ (H10 : Hp) (st' : Str → Int), H10 ud = some (.dK kvs) → UD W (cap i) H10 kvs → H10 sd = some (.dK (stk W st')) → (∀ w, 0 ≤ st' w ∧ st' w ≤ 2 * cap i) →
            (∀ c o, (upd (upd H9 p (.tup (deedVs (.back kn am)))) l (.lst (xl9 ++ [.ref p]))) c = some o → c ≠ sd → (∀ k : Int, valV kvs (Sum.inl k : Key) ≠ some (.ref c)) → H10 c = some o) →
            DInv H W l sd ud (i + 1) (i + 1) (i + 1) H10 (ds ++ [.back kn am]) st' kvs := by
          intro H9 I9 kn am ham p hp xl9 hxl9 H10 st' hud10 hU10 hsd10 hst10 hF
          have I10 := I9.push hl hp hxl9 (dd := .back kn am) ham
          obtain ⟨ys, hys, hpy⟩ := id I10.D
          refine ⟨fun c o e => hF c o (I10.s c o e) (ne_of_none e hsd0) fun k z => ?_, I10.D.keep (fun b xs e => hF _ _ e (ne_of e I10.sd (by intro z; cases z)) fun k z => ?_) fun xs e => hF _ _ e (ne_of e I10.sd (by intro z; cases z)) fun k z => ?_, I10.n, I10.ok, hsd10, fun w => ⟨(hst10 w).1, by have := (hst10 w).2; omega⟩, hud10, Nat.le_succ_of_le I9.ul, hU10.keep (by omega) (fun _ _ _ e => e), I9.F⟩
          · have := I9.F k c z
            rw [e] at this
            cases this
          · obtain ⟨a', w', am', h1, h2, _⟩ := I10.U k _ z
            cases h1
            rw [e] at h2
            cases h2
          · obtain ⟨a', w', am', h1, h2, _⟩ := I10.U k _ z
            cases h1
            rw [hys] at h2
            have e2 : ys = [V.str w', V.int am'] := HO.lst.inj (Option.some.inj h2)
            subst e2
            obtain ⟨_, _, z2, hz2, _⟩ := deed_at hpy (show ([V.str w', V.int am'])[0]? = some _ from rfl)
            cases hz2
        refine ⟨_, rfl, _, rfl, ud, _, rfl, DGet.k (k := Sum.inl (c / 8 % (((kvs.length : Nat) : Int) + 1) - (if decide (V.int (nr / 6 % 7) = V.int 3) = true then 1 else 0))) I8.ud, _, rfl, ?_⟩
        have hmenu : ∃ z, atI [V.int (-2), V.int (0 - ((kvs.length : Nat) : Int)), V.int (((kvs.length : Nat) : Int) + 7), V.int (10 ^ Int.toNat 20)] (nr % 4) = some (V.int z) := by
          have h0 : nr % 4 = 0 ∨ nr % 4 = 1 ∨ nr % 4 = 2 ∨ nr % 4 = 3 := by omega
          rcases h0 with e | e | e | e
          · rw [e]; exact ⟨_, rfl⟩
          · rw [e]; exact ⟨_, rfl⟩
          · rw [e]; exact ⟨_, rfl⟩
          · rw [e]; exact ⟨_, rfl⟩
        obtain ⟨z, hz⟩ := hmenu
        have ham0 : (1 : Int) ≤ 1 + c / 8 / 4 % 5 := by omega
        cases hv : valV kvs (Sum.inl (c / 8 % (((kvs.length : Nat) : Int) + 1) - (if decide (V.int (nr / 6 % 7) = V.int 3) = true then 1 else 0)) : Key) with
        | none =>
          refine iteF ?_
          refine ⟨_, rfl, _, rfl, a, _, _, _, rfl, rfl, I8.s.seq hS, hc, _, _, rfl, rfl, (by show (0 : Int) < 13; decide), rfl, _, rfl, ?_⟩
          refine ite2 (fun _ => ?_) (fun _ => ?_)
          · refine ⟨_, rfl, _, rfl, ud, _, rfl, I8.ud, _, _, rfl, rfl, _, rfl, ud, _, rfl, I8.ud, _, _, rfl, rfl, _, _, rfl, rfl, ⟨by decide, by decide, by decide⟩, (by show 4 ≤ sizeLine; decide), fun m hm => ?_⟩
            have s9 := same_new (o := HO.lst [V.int (-2), V.int (0 - ((kvs.length : Nat) : Int)), V.int (((kvs.length : Nat) : Int) + 7), V.int (10 ^ Int.toNat 20)]) hm
            refine ⟨_, rfl, _, _, rfl, rfl, (by show (0 : Int) < 4; decide), m, _, _, _, rfl, rfl, SqL.of upd_same, hz, ?_⟩
            refine ⟨_, rfl, tyL (s9 _ _ hxl), _, rfl, _, rfl, (by show 3 ≤ sizeLine; decide), fun p hp => ?_⟩
            refine ⟨l, xl, _, rfl, rfl, (by rw [upd_ne (ne_of_none (s9 _ _ hxl) hp)]; exact s9 _ _ hxl), line_lt (by omega), ?_⟩
            have I10 := (I8.same s9).push hl hp (s9 _ _ hxl) (dd := .back z (1 + c / 8 / 4 % 5)) ham0
            exact ⟨_, rfl, _, rfl, _, rfl, _, rfl, ud, sd, kvs, W, st, cap i, _, _, rfl, I10.ud, I10.U, husd, by omega, I10.sd, I10.st, ham0, fun H10 st' h1 h2 h3 h4 h5 => ⟨_, _, _, _, _, _, _, _, _, _, _, _, _, _, _, rfl, fin _ (I8.same s9) z (1 + c / 8 / 4 % 5) ham0 p hp xl (s9 _ _ hxl) H10 st' h1 h2 h3 h4 h5⟩⟩
          · refine ⟨_, rfl, tyL hxl, _, rfl, _, rfl, (by show 3 ≤ sizeLine; decide), fun p hp => ?_⟩
            refine ⟨l, xl, _, rfl, rfl, (by rw [upd_ne (ne_of_none hxl hp)]; exact hxl), line_lt (by omega), ?_⟩
            have I10 := I8.push hl hp hxl (dd := .back (c / 8 % (((kvs.length : Nat) : Int) + 1) - (if decide (V.int (nr / 6 % 7) = V.int 3) = true then 1 else 0)) (1 + c / 8 / 4 % 5)) ham0
            exact ⟨_, rfl, _, rfl, _, rfl, _, rfl, ud, sd, kvs, W, st, cap i, _, _, rfl, I10.ud, I10.U, husd, by omega, I10.sd, I10.st, ham0, fun H10 st' h1 h2 h3 h4 h5 => ⟨_, _, _, _, _, _, _, _, _, _, _, _, _, _, _, rfl, fin _ I8 (c / 8 % (((kvs.length : Nat) : Int) + 1) - (if decide (V.int (nr / 6 % 7) = V.int 3) = true then 1 else 0)) (1 + c / 8 / 4 % 5) ham0 p hp xl hxl H10 st' h1 h2 h3 h4 h5⟩⟩
        | some v =>
          refine iteT ?_
          obtain ⟨a', w', am', rfl, ha', hw', h0', hS'⟩ := I8.U (c / 8 % (((kvs.length : Nat) : Int) + 1) - (if decide (V.int (nr / 6 % 7) = V.int 3) = true then 1 else 0)) v hv
          have hg : DGet H8 ud (.int (c / 8 % (((kvs.length : Nat) : Int) + 1) - (if decide (V.int (nr / 6 % 7) = V.int 3) = true then 1 else 0))) (some (.ref a')) := by
            have := DGet.k (k := (Sum.inl (c / 8 % (((kvs.length : Nat) : Int) + 1) - (if decide (V.int (nr / 6 % 7) = V.int 3) = true then 1 else 0)) : Key)) I8.ud
            rw [hv] at this
            exact this
          refine ⟨_, rfl, _, rfl, _, rfl, ud, _, rfl, hg, a', _, _, _, rfl, rfl, SqL.of ha', rfl, _, rfl, _, _, rfl, rfl, ⟨by decide, by decide⟩, _, rfl, _, rfl, _, _, rfl, rfl, _, _, rfl, rfl, (by show (0 : Int) < 3; decide), _, _, _, _, rfl, ham0, fun r hr1 => ?_⟩
          refine ⟨_, rfl, _, rfl, a, _, _, _, rfl, rfl, I8.s.seq hS, hc, _, _, rfl, rfl, (by show (0 : Int) < 13; decide), rfl, _, rfl, ?_⟩
          refine ite2 (fun _ => ?_) (fun _ => ?_)
          · refine ⟨_, rfl, _, rfl, ud, _, rfl, I8.ud, _, _, rfl, rfl, _, rfl, ud, _, rfl, I8.ud, _, _, rfl, rfl, _, _, rfl, rfl, ⟨by decide, by decide, by decide⟩, (by show 4 ≤ sizeLine; decide), fun m hm => ?_⟩
            have s9 := same_new (o := HO.lst [V.int (-2), V.int (0 - ((kvs.length : Nat) : Int)), V.int (((kvs.length : Nat) : Int) + 7), V.int (10 ^ Int.toNat 20)]) hm
            refine ⟨_, rfl, _, _, rfl, rfl, (by show (0 : Int) < 4; decide), m, _, _, _, rfl, rfl, SqL.of upd_same, hz, ?_⟩
            refine ⟨_, rfl, tyL (s9 _ _ hxl), _, rfl, _, rfl, (by show 3 ≤ sizeLine; decide), fun p hp => ?_⟩
            refine ⟨l, xl, _, rfl, rfl, (by rw [upd_ne (ne_of_none (s9 _ _ hxl) hp)]; exact s9 _ _ hxl), line_lt (by omega), ?_⟩
            have I10 := (I8.same s9).push hl hp (s9 _ _ hxl) (dd := .back z r) hr1
            exact ⟨_, rfl, _, rfl, _, rfl, _, rfl, ud, sd, kvs, W, st, cap i, _, _, rfl, I10.ud, I10.U, husd, by omega, I10.sd, I10.st, hr1, fun H10 st' h1 h2 h3 h4 h5 => ⟨_, _, _, _, _, _, _, _, _, _, _, _, _, _, _, rfl, fin _ (I8.same s9) z r hr1 p hp xl (s9 _ _ hxl) H10 st' h1 h2 h3 h4 h5⟩⟩
          · refine ⟨_, rfl, tyL hxl, _, rfl, _, rfl, (by show 3 ≤ sizeLine; decide), fun p hp => ?_⟩
            refine ⟨l, xl, _, rfl, rfl, (by rw [upd_ne (ne_of_none hxl hp)]; exact hxl), line_lt (by omega), ?_⟩
            have I10 := I8.push hl hp hxl (dd := .back (c / 8 % (((kvs.length : Nat) : Int) + 1) - (if decide (V.int (nr / 6 % 7) = V.int 3) = true then 1 else 0)) r) hr1
            exact ⟨_, rfl, _, rfl, _, rfl, _, rfl, ud, sd, kvs, W, st, cap i, _, _, rfl, I10.ud, I10.U, husd, by omega, I10.sd, I10.st, hr1, fun H10 st' h1 h2 h3 h4 h5 => ⟨_, _, _, _, _, _, _, _, _, _, _, _, _, _, _, rfl, fin _ I8 (c / 8 % (((kvs.length : Nat) : Int) + 1) - (if decide (V.int (nr / 6 % 7) = V.int 3) = true then 1 else 0)) r hr1 p hp xl hxl H10 st' h1 h2 h3 h4 h5⟩⟩
      · -- count
        refine ⟨_, rfl, _, _, rfl, rfl, ⟨by decide, by decide⟩, _, rfl, _, _, _, rfl, hmN, (by decide), (by decide), fun r1 hr10 hr11 => ?_⟩
        have hpos : (0 : Int) < st w + 1 := by omega
        refine ⟨_, rfl, _, _, rfl, rfl, ⟨by decide, by decide⟩, _, rfl, _, rfl, sd, _, rfl, hget, _, _, rfl, rfl, _, _, rfl, rfl, hpos, _, rfl, _, rfl, sd, _, rfl, hget, _, rfl, _, _, rfl, rfl, (by show 3 ≤ sizeLine; decide), fun m hm => ?_⟩
        have s9 := same_new (o := HO.lst [V.int 0, V.int (c / 8 / 4 % (st w + 1)), V.int (st w + r1)]) hm
        have hm9 : (upd H8 m (HO.lst [V.int 0, V.int (c / 8 / 4 % (st w + 1)), V.int (st w + r1)])) m = some (.lst [V.int 0, V.int (c / 8 / 4 % (st w + 1)), V.int (st w + r1)]) := upd_same
        have I9 := I8.same s9
        have hget9 : DGet (upd H8 m (HO.lst [V.int 0, V.int (c / 8 / 4 % (st w + 1)), V.int (st w + r1)])) sd (.str w) (some (.int (st w))) := by
          have := DGet.k (k := (Sum.inr w : Key)) I9.sd
          rw [stk_val hw] at this
          exact this
        refine ⟨_, rfl, tyL hm9, _, rfl, _, rfl, sd, _, rfl, hget9, _, rfl, _, _, rfl, rfl, ⟨by decide, by decide⟩, _, _, rfl, rfl, (by show (0 : Int) < 7; decide), _, _, rfl, rfl, _, _, rfl, rfl, _, _, rfl, m, _, _, rfl, rfl, hm9, line_lt (by show 3 ≤ 1000; decide), ?_⟩
        have I10 : DInv H W l sd ud i i i (upd (upd H8 m (HO.lst [V.int 0, V.int (c / 8 / 4 % (st w + 1)), V.int (st w + r1)])) m (.lst ([V.int 0, V.int (c / 8 / 4 % (st w + 1)), V.int (st w + r1)] ++ [V.int (if st w + c / 8 / 4 % 7 - 4 > 0 then st w + c / 8 / 4 % 7 - 4 else 0)]))) ds st kvs := by
          rw [upd_upd]
          exact I8.same (same_new hm)
        have hm10 : (upd (upd H8 m (HO.lst [V.int 0, V.int (c / 8 / 4 % (st w + 1)), V.int (st w + r1)])) m (.lst ([V.int 0, V.int (c / 8 / 4 % (st w + 1)), V.int (st w + r1)] ++ [V.int (if st w + c / 8 / 4 % 7 - 4 > 0 then st w + c / 8 / 4 % 7 - 4 else 0)]))) m = some (.lst ([V.int 0, V.int (c / 8 / 4 % (st w + 1)), V.int (st w + r1)] ++ [V.int (if st w + c / 8 / 4 % 7 - 4 > 0 then st w + c / 8 / 4 % 7 - 4 else 0)])) := upd_same
        have hf : ∃ f, atI ([V.int 0, V.int (c / 8 / 4 % (st w + 1)), V.int (st w + r1)] ++ [V.int (if st w + c / 8 / 4 % 7 - 4 > 0 then st w + c / 8 / 4 % 7 - 4 else 0)]) (if nr % 5 < 3 then nr % 5 else 3) = some (V.int f) ∧ 0 ≤ f ∧ f ≤ cap (i + 1) := by
          have e1 := Int.emod_nonneg (c / 8 / 4) (show st w + 1 ≠ 0 by omega)
          have e2 := Int.emod_lt_of_pos (c / 8 / 4) hpos
          have h0 : nr % 5 = 0 ∨ nr % 5 = 1 ∨ nr % 5 = 2 ∨ (¬ nr % 5 < 3) := by omega
          rcases h0 with e | e | e | e
          · rw [e]; exact ⟨_, rfl, by omega, by omega⟩
          · rw [e]; exact ⟨_, rfl, by omega, by omega⟩
          · rw [e]; exact ⟨_, rfl, by omega, by omega⟩
          · rw [if_neg e]; exact ⟨_, rfl, by split <;> omega, by split <;> omega⟩
        obtain ⟨f, hatf, hf0, hf1⟩ := hf
        refine ⟨_, rfl, _, rfl, _, _, rfl, rfl, (by show (0 : Int) < 5; decide), _, _, rfl, m, _, _, _, rfl, rfl, SqL.of hm10, hatf, ?_⟩
        generalize (upd (upd H8 m (HO.lst [V.int 0, V.int (c / 8 / 4 % (st w + 1)), V.int (st w + r1)])) m (.lst ([V.int 0, V.int (c / 8 / 4 % (st w + 1)), V.int (st w + r1)] ++ [V.int (if st w + c / 8 / 4 % 7 - 4 > 0 then st w + c / 8 / 4 % 7 - 4 else 0)]))) = H10 at I10
        obtain ⟨xl2, hxl2, hpl2⟩ := id I10.D
        have hll2 : xl2.length = i := by rw [Paired.length hpl2, I10.n]
        refine ⟨_, rfl, tyL hxl2, _, rfl, _, rfl, (by show 3 ≤ sizeLine; decide), fun p hp => ?_⟩
        refine ⟨l, xl2, _, rfl, rfl, (by rw [upd_ne (ne_of_none hxl2 hp)]; exact hxl2), line_lt (by omega), ?_⟩
        have I11 := I10.push hl hp hxl2 (dd := .count w f) ⟨hw, hf0, by omega⟩
        refine ⟨_, rfl, _, rfl, _, rfl, sd, _, rfl, DPut.k (k := Sum.inr w) I11.sd (line_lt (by rw [stk_len]; omega)), ?_⟩
        exact ⟨_, _, _, _, _, _, _, _, _, _, _, _, _, _, _, rfl, (I11.stock hsd0 husd hw (j := i + 1) (v := f) (by omega) hf0 hf1).up (by omega) (by omega)⟩
    · rintro σ H6 ⟨ds, st, kvs, v4, v5, v6, v7, v8, v9, v10, v11, v12, v13, v14, v15, rfl, I6⟩
      rw [en] at I6
      exact ⟨_, rfl, k l H6 ds I6.s hl I6.D I6.n I6.ok⟩
theorem ok_law_same {t : Adr} (T : Txt K mg t) : FnOk P w K mg base CX0 2 t.a_law_same t.d_law_same ["_law_handed", "_law_asked"] spSameG := by
  have G_law_whole : FnOk P w K mg base CX0 1 t.a_law_whole t.d_law_whole ["_law_found"] spWhole := ok_law_whole T
  refine T.F_law_same.ok S_law_same (fun vs H Q E h => ?_) (fun cdv A outer s H vs Q E hr h => ?_)
  · obtain ⟨l, r, xs, ys, zs, rfl, _⟩ := h
    rfl
  · obtain ⟨l, r, xs, ys, zs, rfl, hl, hrr, hp, hq, hlen, hfl, k⟩ := h
    have hlx : xs.length = zs.length := Paired.length hp
    have hly : ys.length = zs.length := Paired.length hq
    refine ⟨_, (pss_cons (ps_if (pt_cmpR op_ne (pe_callB (call_len_seq) (by rfl) T.n_len bt_len (pa_cons (pv 0) pa_nil)) (pe_callB (call_len_seq) (by rfl) T.n_len bt_len (pa_cons (pv 1) pa_nil)) (nomark _))
        (pss_one (ps_ret pe_bl))
        pss_nil)
      (pss_cons (ps_for PassesOwn.never rfl (pi_range1 (by rfl) T.n_range (pa_cons (pe_callB (call_len_seq) (by rfl) T.n_len bt_len (pa_cons (pv 1) pa_nil)) pa_nil)) (pg_name (i := 2) S_law_same.nd rfl (Or.inl rfl))
        (pss_cons (ps_if (PW.pt (pw_or (pt_not (pt_val (pe_callB (call_isinst) (by rfl) T.n_isinstance bt_isinstance (pa_cons (pe_ix ix_list (pv 0) (pv 2) (fun _ _ => rfl)) (pa_cons (pe_bltn (v := .ty "tuple") (by rfl) T.n_tuple bt_tuple rfl) pa_nil))))) (pw_or1 (pt_cmpR op_ne (pe_callB (call_len_seq) (by rfl) T.n_len bt_len (pa_cons (pe_ix ix_list (pv 0) (pv 2) (fun _ _ => rfl)) pa_nil)) (pe_callB (call_len_seq) (by rfl) T.n_len bt_len (pa_cons (pe_ix ix_list (pv 1) (pv 2) (fun _ _ => rfl)) pa_nil)) (nomark _)))))
          (pss_one (ps_ret pe_bl))
          pss_nil)
        (pss_one (ps_for PassesOwn.never rfl (pi_range1 (by rfl) T.n_range (pa_cons (pe_callB (call_len_seq) (by rfl) T.n_len bt_len (pa_cons (pe_ix ix_list (pv 1) (pv 2) (fun _ _ => rfl)) pa_nil)) pa_nil)) (pg_name (i := 3) S_law_same.nd rfl (Or.inl rfl))
          (pss_cons (ps_set (i := 4) S_law_same.nd rfl (Or.inl rfl) (pe_ix ix_tup (pe_ix ix_list (pv 0) (pv 2) (fun _ _ => rfl)) (pv 3) (fun _ _ => rfl)))
          (pss_cons (ps_if (pt_cmpR op_ne (pe_callB (call_isinst) (by rfl) T.n_isinstance bt_isinstance (pa_cons (pv 4) (pa_cons (pe_bltn (v := .ty "str") (by rfl) T.n_str bt_str rfl) pa_nil))) (pe_callB (call_isinst) (by rfl) T.n_isinstance bt_isinstance (pa_cons (pe_ix ix_tup (pe_ix ix_list (pv 1) (pv 2) (fun _ _ => rfl)) (pv 3) (fun _ _ => rfl)) (pa_cons (pe_bltn (v := .ty "str") (by rfl) T.n_str bt_str rfl) pa_nil))) (nomark _))
            (pss_one (ps_ret pe_bl))
            pss_nil)
          (pss_cons (ps_if (PW.pt (pw_and (pt_not (pt_val (pe_callB (call_isinst) (by rfl) T.n_isinstance bt_isinstance (pa_cons (pv 4) (pa_cons (pe_bltn (v := .ty "str") (by rfl) T.n_str bt_str rfl) pa_nil))))) (pw_and1 (pt_not (pt_val (pe_call G_law_whole hr (by rfl) T.m_law_whole T.F_law_whole.kp T.b_law_whole .nil pass0 (pa_cons (pv 4) pa_nil)))))))
            (pss_one (ps_ret pe_bl))
            pss_nil)
          (pss_one (ps_if (pt_cmpR op_ne (pv 4) (pe_ix ix_tup (pe_ix ix_list (pv 1) (pv 2) (fun _ _ => rfl)) (pv 3) (fun _ _ => rfl)) (nomark _))
            (pss_one (ps_ret pe_bl))
            pss_nil)))))))))
      (pss_one (ps_ret pe_bl)))), ?_⟩
    refine ⟨_, rfl, _, _, rfl, .inl (SqL.of hl), _, rfl, _, _, rfl, .inl (SqL.of hrr), rfl, _, rfl, ?_⟩
    refine iteNS (by rw [hlx, hly]) ?_
    refine ⟨_, rfl, _, _, rfl, .inl (SqL.of hrr), _, rfl, rlo _, rhi (by omega), ?_⟩
    refine for_range (fun i σ H2 => H2 = H ∧ ∃ v2 v3' v4, σ = [some (.ref l), some (.ref r), v2, v3', v4]) ⟨rfl, _, _, _, rfl⟩ ?_ ?_
    · rintro i σ H2 hi ⟨rfl, v2, v3', v4, rfl⟩
      rw [Int.zero_add]
      have hi' : i < ys.length := by simpa using hi
      have hz : zs[i]? = some (zs[i]'(by omega)) := List.getElem?_eq_getElem _
      generalize zs[i]'(by omega) = z at hz
      obtain ⟨hd4, hflat⟩ := hfl z (List.mem_of_getElem? hz)
      obtain ⟨a, hx, ha⟩ := tupV_at hp hz
      obtain ⟨c, hy, hc⟩ := tupV_at hq hz
      have hat : atI xs (i : Int) = some (.ref a) := atI_nat hx
      have hct : atI ys (i : Int) = some (.ref c) := atI_nat hy
      refine ⟨_, rfl, _, rfl, l, _, _, _, rfl, rfl, SqL.of hl, hat, _, _, _, _, rfl, .tup ha, kit_same _ _, _, rfl, ?_⟩
      refine iteF ?_
      refine ⟨_, rfl, _, rfl, l, _, _, _, rfl, rfl, SqL.of hl, hat, _, _, rfl, .inr (SqT.of ha), _, rfl, _, rfl, r, _, _, _, rfl, rfl, SqL.of hrr, hct, _, _, rfl, .inr (SqT.of hc), rfl, _, rfl, ?_⟩
      refine iteNS rfl ?_
      refine ⟨_, rfl, _, rfl, r, _, _, _, rfl, rfl, SqL.of hrr, hct, _, _, rfl, .inr (SqT.of hc), _, rfl, rlo _, rhi hd4, ?_⟩
      refine for_range (fun j σ H3 => H3 = H2 ∧ ∃ v3' v4, σ = [some (.ref l), some (.ref r), some (.int (i : Int)), v3', v4]) ⟨rfl, _, _, rfl⟩ ?_ ?_
      · rintro j σ H3 hj ⟨rfl, v3', v4, rfl⟩
        rw [Int.zero_add]
        have hj' : j < z.length := by simpa using hj
        have hy : z[j]? = some (z[j]) := List.getElem?_eq_getElem hj'
        have haty : atI z (j : Int) = some (z[j]) := atI_nat hy
        have hfy := hflat _ (List.mem_of_getElem? hy)
        generalize z[j] = y at haty hfy
        refine ⟨_, rfl, _, rfl, l, _, _, _, rfl, rfl, SqL.of hl, hat, _, rfl, a, _, _, _, rfl, rfl, SqT.of ha, haty, ?_⟩
        rcases hfy with ⟨s', rfl⟩ | ⟨n, rfl⟩
        · refine ⟨_, rfl, _, _, _, _, rfl, .str _, kit_same _ _, _, rfl, _, rfl, r, _, _, _, rfl, rfl, SqL.of hrr, hct, _, rfl, c, _, _, _, rfl, rfl, SqT.of hc, haty, _, _, _, _, rfl, .str _, kit_same _ _, rfl, _, rfl, ?_⟩
          refine iteNS rfl ?_
          refine ⟨_, rfl, _, _, _, _, rfl, .str _, kit_same _ _, _, rfl, ?_⟩
          refine iteF ?_
          refine iteF ?_
          refine ⟨_, rfl, _, rfl, _, rfl, r, _, _, _, rfl, rfl, SqL.of hrr, hct, _, rfl, c, _, _, _, rfl, rfl, SqT.of hc, haty, rfl, _, rfl, ?_⟩
          refine iteNS rfl ?_
          exact ⟨rfl, _, _, rfl⟩
        · refine ⟨_, rfl, _, _, _, _, rfl, .int _, kit_int_str _, _, rfl, _, rfl, r, _, _, _, rfl, rfl, SqL.of hrr, hct, _, rfl, c, _, _, _, rfl, rfl, SqT.of hc, haty, _, _, _, _, rfl, .int _, kit_int_str _, rfl, _, rfl, ?_⟩
          refine iteNS rfl ?_
          refine ⟨_, rfl, _, _, _, _, rfl, .int _, kit_int_str _, _, rfl, ?_⟩
          refine iteT ?_
          refine ⟨_, rfl, n, rfl, _, rfl, ?_⟩
          refine iteF ?_
          refine ⟨_, rfl, _, rfl, _, rfl, r, _, _, _, rfl, rfl, SqL.of hrr, hct, _, rfl, c, _, _, _, rfl, rfl, SqT.of hc, haty, rfl, _, rfl, ?_⟩
          refine iteNS rfl ?_
          exact ⟨rfl, _, _, rfl⟩
      · rintro σ H3 ⟨rfl, v3', v4, rfl⟩
        exact ⟨rfl, _, _, _, rfl⟩
    · rintro σ H2 ⟨rfl, v2, v3', v4, rfl⟩
      exact k
theorem ok_law_there {t : Adr} (T : Txt K mg t) : FnOk P w K mg base CX0 1 t.a_law_there t.d_law_there ["_law_lots", "_law_ware"] spThere := by
  refine T.F_law_there.ok S_law_there (fun vs H Q E h => ?_) (fun cdv A outer s H vs Q E hr h => ?_)
  · obtain ⟨la, A, Fk, w, rfl, _⟩ := h
    rfl
  · obtain ⟨la, A, Fk, w, rfl, hT, hlen, k⟩ := h
    have hu := hu_of hr
    refine ⟨_, (pss_one (ps_ret (pe_callB (call_sumL rfl) (by rfl) T.n_sum bt_sum (pa_cons (pe_compIf (caps := [(1, "_law_ware")]) (own := ["_law_lot"]) rfl (by rfl) (by decide +kernel) rfl (by decide +kernel) (by exact ⟨⟨rfl, rfl, rfl⟩, trivial⟩) (pi_list (pv 0)) (fun C s H ex => (pg_name (i := 1) (show List.Nodup (["_law_ware", "_law_lot"] : List Str) by decide +kernel) rfl (Or.inl rfl))) (fun C s H ex => (pt_cmpR op_eq (pe_ix (ix_listK K) (pv 1) pe_int (fun _ _ => rfl)) (pv 0) (nomark _))) (fun C s H ex => (pe_ix (ix_listK K) (pv 1) pe_int (fun _ _ => rfl)))) pa_nil)))), ?_⟩
    have hAn := hT.n
    refine ⟨_, rfl, la, rfl, ⟨_, SqL.of hT.l⟩, fun acc hacc => comp_listIf (K := K) (a := la) (acc := acc) (xs := A.map V.ref) (fun i ys σ H2 => (∃ ns : List Int, ys = ns.map V.int ∧ ns.sum = hereB (Fk.take i) w ∧ ns.length ≤ i) ∧ H2 = upd H acc (.lst ys) ∧ ∃ v1, σ = [some (.str w), v1]) ?_ (line_lt (by rw [List.length_map]; omega)) ?_ ?_ ?_⟩
    · exact ⟨⟨[], rfl, rfl, Nat.le_refl _⟩, rfl, _, rfl⟩
    · rintro i ys σ H2 hi ⟨⟨ns, rfl, _, hn⟩, rfl, _, rfl⟩
      exact ⟨SqL.of (same_new hacc _ _ hT.l), upd_same, by rw [List.length_map]; exact hn⟩
    · rintro i x ys σ H2 hx ⟨⟨ns, rfl, hsum, hn⟩, rfl, _, rfl⟩
      rw [List.getElem?_map] at hx
      cases ha : A[i]? with
      | none => rw [ha] at hx; cases hx
      | some a =>
        rw [ha] at hx
        have hx' : V.ref a = x := Option.some.inj hx
        subst hx'
        have hi : i < Fk.length := by rw [← hAn]; exact (List.getElem?_eq_some_iff.mp ha).1
        have hF : Fk[i]? = some (Fk[i]) := List.getElem?_eq_getElem hi
        generalize Fk[i] = f at hF
        have hra := same_new (o := HO.lst (ns.map V.int)) hacc _ _ (hT.r i a f ha hF)
        have hsn : hereB (Fk.take (i + 1)) w = hereB (Fk.take i) w + if f.1 = w then f.2.1 else 0 := by rw [take_snoc hF, hereB_snoc]
        refine ⟨_, rfl, a, _, _, _, rfl, rfl, SqL.of hra, rfl, _, rfl, rfl, _, rfl, ?_⟩
        refine ite2 (fun z => ?_) (fun z => ?_)
        · have e : f.1 = w := V.str.inj (of_decide_eq_true z)
          refine ⟨_, rfl, a, _, _, _, rfl, rfl, SqL.of hra, rfl, upd_same, ⟨ns ++ [f.2.1], by simp, ?_, by simp; omega⟩, by rw [upd_upd], _, rfl⟩
          rw [hsn, if_pos e, ← hsum]
          simp
        · have e : ¬ f.1 = w := fun y => z (decide_eq_true (by rw [y]))
          exact ⟨⟨ns, rfl, by rw [hsn, if_neg e, hsum, Int.add_zero], by omega⟩, rfl, _, rfl⟩
    rintro ys σ H2 ⟨⟨ns, rfl, hsum, hn⟩, rfl, _, rfl⟩
    rw [List.length_map, hAn, List.take_length] at hsum
    refine ⟨acc, ns, rfl, SqL.of upd_same, ?_⟩
    rw [hsum]
    exact k _ (same_new hacc)
theorem ok_law_off {t : Adr} (T : Txt K mg t) : FnOk P w K mg base CX0 1 t.a_law_off t.d_law_off ["_law_lots", "_law_spots", "_law_amount"] spOff := by
  refine T.F_law_off.ok S_law_off (fun vs H Q E h => ?_) (fun cdv A outer s H vs Q E hr h => ?_)
  · obtain ⟨la, sp, A, Fk, ks, am, rfl, _⟩ := h
    rfl
  · obtain ⟨la, sp, A, Fk, ks, am, rfl, hT, hsp, hnd, hlt, hlen, k⟩ := h
    have hu := hu_of hr
    refine ⟨_, (pss_cons (ps_set (i := 3) S_law_off.nd rfl (Or.inl rfl) (pe_lst pa_nil))
      (pss_cons (ps_for PassesOwn.never rfl (pi_list (pv 1)) (pg_name (i := 4) S_law_off.nd rfl (Or.inl rfl))
        (pss_cons (ps_set (i := 5) S_law_off.nd rfl (Or.inl rfl) (pe_callB (call_min2 rfl) (by rfl) T.n_min bt_min (pa_cons (pe_ix ix_list (pe_ix ix_list (pv 0) (pv 4) (fun _ _ => rfl)) pe_int (fun _ _ => rfl)) (pa_cons (pv 2) pa_nil))))
        (pss_cons (ps_asg (pe_op op_sub (pe_ix ix_list (pe_ix ix_list (pv 0) (pv 4) (fun _ _ => rfl)) pe_int (fun _ _ => rfl)) (pv 5)) (pg_sub (pe_ix ix_list (pv 0) (pv 4) (fun _ _ => rfl)) pe_int set_list))
        (pss_cons (ps_set (i := 2) S_law_off.nd rfl (Or.inl rfl) (pe_op op_sub (pv 2) (pv 5)))
        (pss_one (ps_expr (pe_bm F.plainAttrs_list F.slot_list_append F.type_list_append mt_append (pv 3) (pa_cons (pe_lst (pa_cons (pv 4) (pa_cons (pv 5) pa_nil))) pa_nil))))))))
      (pss_one (ps_ret (pv 3))))), ?_⟩
    refine ⟨(by show 0 ≤ sizeLine; decide), fun pa hpa => ?_⟩
    have s1 := same_new (o := HO.lst []) hpa
    have hspA : sp ∉ A := fun hm => by
      obtain ⟨f, e⟩ := hT.of hm
      rw [hsp] at e
      have e2 : (ks.map fun k : Nat => V.int (k : Int)) = [.str f.1, .int f.2.1, .int f.2.2] := HO.lst.inj (Option.some.inj e)
      cases ks with
      | nil => cases e2
      | cons x r => cases e2
    have hAnone : ∀ a ∈ A, a ≠ pa := fun a ha z => by
      obtain ⟨f, e⟩ := hT.of ha
      rw [z, hpa] at e; cases e
    refine ⟨_, rfl, sp, rfl, ⟨_, SqL.of (s1 _ _ hsp)⟩, for_list (K := K) (a := sp) (xs := ks.map fun k : Nat => V.int (k : Int)) (fun i σ H2 => ∃ (PA : List Addr) (v4 v5 : Option V) (rest : Int),
      σ = [some (.ref la), some (.ref sp), some (.int rest), some (.ref pa), v4, v5] ∧ rest = am - (takeM ((ks.take i).map (lf Fk)) am).sum ∧ TabAt lrow H2 la A (addAll Fk (neg (offP Fk (ks.take i) am))) ∧ TabAt prow H2 pa PA (offP Fk (ks.take i) am) ∧
      (∀ p ∈ PA, H p = none) ∧ (∀ c o, H c = some o → c ∉ A → H2 c = some o)) ?_ ?_ ?_ ?_⟩
    · exact ⟨[], _, _, am, rfl, by simp [takeM], hT.same s1, tab_empty upd_same, fun p hp => by simp at hp, fun c o e _ => s1 _ _ e⟩
    · rintro i σ H2 _ ⟨_, _, _, _, _, _, _, _, _, fr⟩
      exact SqL.of (fr _ _ hsp hspA)
    · rintro i x σ H2 hx ⟨PA, v4, v5, rest, rfl, hrest, hT2, hP2, hf, fr⟩
      rw [List.getElem?_map] at hx
      cases hk : ks[i]? with
      | none => rw [hk] at hx; cases hx
      | some j =>
        rw [hk] at hx
        have hx' : V.int (j : Int) = x := Option.some.inj hx
        subst hx'
        have hjm : j ∈ ks := List.mem_of_getElem? hk
        have hj := hlt j hjm
        have hi : i < ks.length := (List.getElem?_eq_some_iff.mp hk).1
        have hjn : j ∉ ks.take i := fun hm => by
          obtain ⟨n, hn, e⟩ := List.getElem_of_mem hm
          have hn' : n < i := by rw [List.length_take] at hn; omega
          have h1 : ks[n]? = some j := by
            rw [List.getElem_take] at e
            rw [List.getElem?_eq_getElem (by omega), e]
          have := (List.pairwise_iff_getElem.mp hnd) n i (by omega) hi hn'
          rw [List.getElem?_eq_getElem hi] at hk
          rw [List.getElem?_eq_getElem (by omega)] at h1
          exact this (by rw [Option.some.inj h1, Option.some.inj hk])
        have hl0 : lf (addAll Fk (neg (offP Fk (ks.take i) am))) j = lf Fk j := by
          rw [addAll_lf _ _ _ (fun z hz => by
            obtain ⟨y, hy, e⟩ := neg_mem hz
            rw [← e]
            exact hlt _ (List.mem_of_mem_take (offP_mem hy))), addU_none (fun z hz e => ?_), Int.add_zero]
          obtain ⟨y, hy, e2⟩ := neg_mem hz
          exact hjn (by rw [← e, ← e2]; exact offP_mem hy)
        have hl2 : (addAll Fk (neg (offP Fk (ks.take i) am))).length = Fk.length := addAll_len _ _
        have hts : ks.take (i + 1) = ks.take i ++ [j] := take_snoc hk
        have hgoal : addAll Fk (neg (offP Fk (ks.take (i + 1)) am)) = addL (addAll Fk (neg (offP Fk (ks.take i) am))) j (-(mn (lf Fk j) (am - (takeM ((ks.take i).map (lf Fk)) am).sum))) := by
          rw [hts, offP_snoc, neg_snoc, addAll_snoc]
        have hgoalP : offP Fk (ks.take (i + 1)) am = offP Fk (ks.take i) am ++ [(j, mn (lf Fk j) (am - (takeM ((ks.take i).map (lf Fk)) am).sum))] := by rw [hts, offP_snoc]
        have hgoalM : (takeM ((ks.take (i + 1)).map (lf Fk)) am).sum = (takeM ((ks.take i).map (lf Fk)) am).sum + mn (lf Fk j) (am - (takeM ((ks.take i).map (lf Fk)) am).sum) := by
          rw [hts, List.map_append, List.map_singleton, takeM_snoc]
          simp
        have hPl : PA.length = i := by rw [hP2.n, offP_len, List.length_take]; omega
        generalize hF2 : addAll Fk (neg (offP Fk (ks.take i) am)) = F2 at *
        generalize (takeM ((ks.take i).map (lf Fk)) am).sum = done at *
        rw [← hrest] at hgoal hgoalP hgoalM
        have hF : F2[j]? = some (F2[j]'(by omega)) := List.getElem?_eq_getElem _
        generalize F2[j]'(by omega) = f at hF
        have elf : f.2.1 = lf Fk j := by rw [← lf_of hF]; exact hl0
        obtain ⟨a, ha, hra⟩ := hT2.at hF
        have hata : atI (A.map V.ref) (j : Int) = some (.ref a) := atI_nat (by rw [List.getElem?_map, ha]; rfl)
        have ham := List.mem_of_getElem? ha
        refine ⟨_, rfl, _, rfl, la, _, _, _, rfl, rfl, SqL.of hT2.l, hata, a, _, _, _, rfl, rfl, SqL.of hra, rfl, _, rfl, _, _, rfl, ?_⟩
        have hmn : (if rest < f.2.1 then rest else f.2.1) = mn (lf Fk j) rest := by rw [elf]; rfl
        rw [hmn]
        refine ⟨_, rfl, _, rfl, la, _, _, _, rfl, rfl, SqL.of hT2.l, hata, a, _, _, _, rfl, rfl, SqL.of hra, rfl, _, rfl, _, _, rfl, rfl, _, rfl, _, rfl, la, _, _, _, rfl, rfl, SqL.of hT2.l, hata, a, _, _, 1, rfl, rfl, hra, rfl, ?_⟩
        have hT3 := hT2.set row_l ha (f.1, f.2.1 + -(mn (lf Fk j) rest), f.2.2)
        rw [← addL_set hF, ← hgoal] at hT3
        have e3 : lrow (f.1, f.2.1 + -(mn (lf Fk j) rest), f.2.2) = .lst [.str f.1, .int (f.2.1 - mn (lf Fk j) rest), .int f.2.2] := rfl
        rw [e3] at hT3
        have hPne : ∀ p ∈ PA, p ≠ a := fun p hp z => by
          obtain ⟨y, e⟩ := hP2.of hp
          rw [z, hra] at e; cases e
        have hpa_ne : pa ≠ a := fun z => hAnone a ham z.symm
        have hP3 : TabAt prow (upd H2 a (.lst [.str f.1, .int (f.2.1 - mn (lf Fk j) rest), .int f.2.2])) pa PA (offP Fk (ks.take i) am) := hP2.keep (fun o h => by rw [upd_ne hpa_ne]; exact h) fun p hp o h => by rw [upd_ne (hPne p hp)]; exact h
        have fr3 : ∀ c o, H c = some o → c ∉ A → (upd H2 a (.lst [.str f.1, .int (f.2.1 - mn (lf Fk j) rest), .int f.2.2])) c = some o := fun c o e hc => by
          have : c ≠ a := fun z => hc (z ▸ ham)
          rw [upd_ne this]
          exact fr c o e hc
        have hgrow : ∀ c, (upd H2 a (.lst [.str f.1, .int (f.2.1 - mn (lf Fk j) rest), .int f.2.2])) c = none → H c = none := fun c hc => by
          cases e : H c with
          | none => rfl
          | some o =>
            by_cases hm : c ∈ A
            · obtain ⟨g, e2⟩ := hT3.of hm
              rw [hc] at e2; cases e2
            · rw [fr3 c o e hm] at hc; cases hc
        refine ⟨_, rfl, _, rfl, _, _, rfl, rfl, ?_⟩
        refine ⟨_, rfl, tyL hP3.l, _, rfl, _, rfl, (by show 2 ≤ sizeLine; decide), fun p hp => ?_⟩
        refine ⟨pa, _, _, rfl, rfl, same_new hp _ _ hP3.l, line_lt (by rw [List.length_map]; omega), ?_⟩
        have hP4 := hP3.push row_p hp (j, mn (lf Fk j) rest)
        rw [← hgoalP] at hP4
        refine ⟨PA ++ [p], _, _, _, rfl, by rw [hgoalM]; omega, ?_, hP4, fun z hz => ?_, fun c o e hc => ?_⟩
        · refine hT3.keep (fun o h => hP3.push_but hp _ _ h ?_) fun c hc o h => hP3.push_but hp _ _ h (hAnone c hc)
          intro z
          rw [z] at hT
          have := hT.l
          rw [hpa] at this; cases this
        · rcases List.mem_append.mp hz with hz | hz
          · exact hf z hz
          · have : z = p := by simpa using hz
            subst this
            exact hgrow _ hp
        · exact hP3.push_but hp _ _ (fr3 c o e hc) (ne_of_none e hpa)
    · rintro σ H2 ⟨PA, v4, v5, rest, rfl, hrest, hT2, hP2, hf, fr⟩
      rw [List.length_map, List.take_length] at hT2 hP2
      exact ⟨_, rfl, k pa PA H2 hT2 hP2 hpa hf fr⟩
theorem ok_law_on {t : Adr} (T : Txt K mg t) : FnOk P w K mg base CX0 1 t.a_law_on t.d_law_on ["_law_lots", "_law_parts", "_law_amount"] spOn := by
  refine T.F_law_on.ok S_law_on (fun vs H Q E h => ?_) (fun cdv A outer s H vs Q E hr h => ?_)
  · obtain ⟨la, pa, A, PA, Fk, Z, am, rfl, _⟩ := h
    rfl
  · obtain ⟨la, pa, A, PA, Fk, Z, am, rfl, hT, hP, hlt, hlen, k⟩ := h
    have hu := hu_of hr
    refine ⟨_, (pss_one (ps_for PassesOwn.never rfl (pi_rev (by rfl) T.n_reversed (pv 1)) (pg_name (i := 3) S_law_on.nd rfl (Or.inl rfl))
        (pss_cons (ps_set (i := 4) S_law_on.nd rfl (Or.inl rfl) (pe_callB (call_min2 rfl) (by rfl) T.n_min bt_min (pa_cons (pe_ix ix_list (pv 3) pe_int (fun _ _ => rfl)) (pa_cons (pv 2) pa_nil))))
        (pss_cons (ps_asg (pe_op op_sub (pe_ix ix_list (pv 3) pe_int (fun _ _ => rfl)) (pv 4)) (pg_sub (pv 3) pe_int set_list))
        (pss_cons (ps_asg (pe_op op_add (pe_ix ix_list (pe_ix ix_list (pv 0) (pe_ix ix_list (pv 3) pe_int (fun _ _ => rfl)) (fun _ _ => rfl)) pe_int (fun _ _ => rfl)) (pv 4)) (pg_sub (pe_ix ix_list (pv 0) (pe_ix ix_list (pv 3) pe_int (fun _ _ => rfl)) (fun _ _ => rfl)) pe_int set_list))
        (pss_one (ps_set (i := 2) S_law_on.nd rfl (Or.inl rfl) (pe_op op_sub (pv 2) (pv 4))))))))), ?_⟩
    have hpA : pa ∉ A := hT.not_l row_l hP.l
    have hlP : la ∉ PA := hP.not_l row_p hT.l
    have hdis : ∀ p ∈ PA, p ∉ A := fun p hp hm => by
      obtain ⟨z, e1⟩ := hP.of hp
      obtain ⟨f, e2⟩ := hT.of hm
      rw [e1] at e2; cases e2
    have hpP : pa ∉ PA := hP.not_l row_p hP.l
    have hlA : la ∉ A := hT.not_l row_l hT.l
    have hRl : Z.reverse.length = PA.length := by rw [List.length_reverse, hP.n]
    generalize hR : Z.reverse = R at *
    have hZ : Z = R.reverse := by rw [← hR, List.reverse_reverse]
    refine ⟨_, rfl, pa, _, rfl, SqL.of hP.l, for_rev (K := K) (a := pa) (xs := PA.map V.ref) (fun i σ H2 => ∃ (v3' v4 : Option V) (rest : Int),
      σ = [some (.ref la), some (.ref pa), some (.int rest), v3', v4] ∧ rest = am - (takeM ((R.take i).map (·.2)) am).sum ∧ TabAt lrow H2 la A (addAll Fk (onP (R.take i) am)) ∧ TabAt prow H2 pa PA (onB (R.take i) am ++ R.drop i).reverse ∧
      (∀ c o, H c = some o → c ∉ A → c ∉ PA → H2 c = some o)) ?_ ?_ ?_ ?_⟩
    · refine ⟨_, _, am, rfl, by simp [takeM], hT, ?_, fun c o e _ _ => e⟩
      show TabAt prow H pa PA ([] ++ R.drop 0).reverse
      rw [List.nil_append, List.drop_zero, ← hZ]
      exact hP
    · rintro i σ H2 _ ⟨_, _, _, _, _, _, hP2, _⟩
      exact SqL.of hP2.l
    · rintro i x σ H2 hx ⟨v3', v4, rest, rfl, hrest, hT2, hP2, fr⟩
      have hi : i < PA.length := by
        have := (List.getElem?_eq_some_iff.mp hx).1
        simpa using this
      rw [← List.map_reverse, List.getElem?_map, List.getElem?_reverse hi] at hx
      cases ha : PA[PA.length - 1 - i]? with
      | none => rw [ha] at hx; cases hx
      | some a =>
        rw [ha] at hx
        have hx' : V.ref a = x := Option.some.inj hx
        subst hx'
        have hz : R[i]? = some (R[i]'(by omega)) := List.getElem?_eq_getElem _
        generalize R[i]'(by omega) = z at hz
        have hzm : z ∈ Z := by rw [hZ]; exact List.mem_reverse.mpr (List.mem_of_getElem? hz)
        have hzl := hlt z hzm
        have hXl : (onB (R.take i) am ++ R.drop i).length = PA.length := by
          rw [List.length_append, onB_len, List.length_take, List.length_drop]
          omega
        have hXi : (onB (R.take i) am ++ R.drop i)[i]? = some z := by
          have e2 : (onB (R.take i) am).length = i := by rw [onB_len, List.length_take]; omega
          rw [List.getElem?_append_right (by omega), e2, Nat.sub_self, List.getElem?_drop]
          exact hz
        have hst := on_state hz am
        have hgoal : addAll Fk (onP (R.take (i + 1)) am) = addL (addAll Fk (onP (R.take i) am)) z.1 (mn z.2 (am - (takeM ((R.take i).map (·.2)) am).sum)) := by
          rw [take_snoc hz, onP_snoc, addAll_snoc]
        have hgoalM : (takeM ((R.take (i + 1)).map (·.2)) am).sum = (takeM ((R.take i).map (·.2)) am).sum + mn z.2 (am - (takeM ((R.take i).map (·.2)) am).sum) := by
          rw [take_snoc hz, List.map_append, List.map_singleton, takeM_snoc]
          simp
        rw [← hrest] at hst hgoal hgoalM
        have hl2 : (addAll Fk (onP (R.take i) am)).length = Fk.length := addAll_len _ _
        generalize addAll Fk (onP (R.take i) am) = F2 at *
        generalize (onB (R.take i) am ++ R.drop i) = X at *
        have hra : H2 a = some (prow z) := hP2.r (PA.length - 1 - i) a z ha (by
          rw [List.getElem?_reverse (by omega), hXl]
          rw [show PA.length - 1 - (PA.length - 1 - i) = i by omega]
          exact hXi)
        have ham := List.mem_of_getElem? ha
        refine ⟨_, rfl, a, _, _, _, rfl, rfl, SqL.of hra, rfl, _, rfl, _, _, rfl, ?_⟩
        have hmn : (if rest < z.2 then rest else z.2) = mn z.2 rest := rfl
        rw [hmn]
        refine ⟨_, rfl, a, _, _, _, rfl, rfl, SqL.of hra, rfl, _, rfl, _, _, rfl, rfl, _, rfl, a, _, _, 1, rfl, rfl, hra, rfl, ?_⟩
        -- the part
        have hP3 := hP2.set row_p ha (z.1, z.2 - mn z.2 rest)
        have hse := set_reverse X i (z.1, z.2 - mn z.2 rest) (by omega)
        rw [hXl] at hse
        rw [hse, ← hst] at hP3
        have hA_ne : ∀ c ∈ A, c ≠ a := fun c hc e => hdis a ham (e ▸ hc)
        have hla_ne : la ≠ a := fun e => hlP (e ▸ ham)
        have hT3 : TabAt lrow (upd H2 a (prow (z.1, z.2 - mn z.2 rest))) la A F2 := hT2.keep (fun o h => by rw [upd_ne hla_ne]; exact h) fun c hc o h => by rw [upd_ne (hA_ne c hc)]; exact h
        have hra3 : (upd H2 a (prow (z.1, z.2 - mn z.2 rest))) a = some (prow (z.1, z.2 - mn z.2 rest)) := upd_same
        have hF : F2[z.1]? = some (F2[z.1]'(by omega)) := List.getElem?_eq_getElem _
        generalize F2[z.1]'(by omega) = f at hF
        obtain ⟨b, hb, hrb⟩ := hT3.at hF
        have hatb : atI (A.map V.ref) (z.1 : Int) = some (.ref b) := atI_nat (by rw [List.getElem?_map, hb]; rfl)
        have hbm := List.mem_of_getElem? hb
        refine ⟨_, rfl, _, rfl, a, _, _, _, rfl, rfl, SqL.of hra3, rfl, la, _, _, _, rfl, rfl, SqL.of hT3.l, hatb, b, _, _, _, rfl, rfl, SqL.of hrb, rfl, _, rfl, _, _, rfl, rfl, _, rfl, _, rfl, a, _, _, _, rfl, rfl, SqL.of hra3, rfl, la, _, _, _, rfl, rfl, SqL.of hT3.l, hatb, b, _, _, 1, rfl, rfl, hrb, rfl, ?_⟩
        have hT4 := hT3.set row_l hb (f.1, f.2.1 + mn z.2 rest, f.2.2)
        rw [← addL_set hF, ← hgoal] at hT4
        have hP4 : TabAt prow (upd (upd H2 a (prow (z.1, z.2 - mn z.2 rest))) b (lrow (f.1, f.2.1 + mn z.2 rest, f.2.2))) pa PA (onB (R.take (i + 1)) am ++ R.drop (i + 1)).reverse := by
          refine hP3.keep (fun o h => ?_) fun c hc o h => ?_
          · rw [upd_ne (show pa ≠ b from fun e => hpA (e ▸ hbm))]; exact h
          · rw [upd_ne (show c ≠ b from fun e => hdis c hc (e ▸ hbm))]; exact h
        refine ⟨_, rfl, _, rfl, _, _, rfl, rfl, ?_⟩
        refine ⟨_, _, _, rfl, by rw [hgoalM]; omega, hT4, hP4, fun c o e h1 h2 => ?_⟩
        show (upd (upd H2 a _) b _) c = _
        rw [upd_ne (show c ≠ b from fun e => h1 (e ▸ hbm)), upd_ne (show c ≠ a from fun e => h2 (e ▸ ham))]
        exact fr c o e h1 h2
    · rintro σ H2 ⟨v3', v4, rest, rfl, hrest, hT2, hP2, fr⟩
      have e : R.take (PA.map V.ref).length = R := List.take_of_length_le (by rw [List.length_map]; omega)
      have e2 : R.drop (PA.map V.ref).length = [] := List.drop_of_length_le (by rw [List.length_map]; omega)
      rw [e] at hT2 hP2
      rw [e2, List.append_nil] at hP2
      exact k H2 hT2 hP2 fr
theorem ok_law_booked {t : Adr} (T : Txt K mg t) : FnOk P w K mg base CX0 2 t.a_law_booked t.d_law_booked ["_law_lots", "_law_outs", "_law_deed"] spBooked := by
  have G_law_there : FnOk P w K mg base CX0 1 t.a_law_there t.d_law_there ["_law_lots", "_law_ware"] spThere := ok_law_there T
  have G_law_off : FnOk P w K mg base CX0 1 t.a_law_off t.d_law_off ["_law_lots", "_law_spots", "_law_amount"] spOff := ok_law_off T
  have G_law_on : FnOk P w K mg base CX0 1 t.a_law_on t.d_law_on ["_law_lots", "_law_parts", "_law_amount"] spOn := ok_law_on T
  refine T.F_law_booked.ok S_law_booked (fun vs H Q E h => ?_) (fun cdv A outer s H vs Q E hr h => ?_)
  · obtain ⟨H0, la, oa, x, kb, dd, rfl, _⟩ := h
    rfl
  · obtain ⟨H0, la, oa, x, kb, dd, rfl, hx0, ⟨A, xs, Ow, B⟩, hsm, hzl, k⟩ := h
    have hu := hu_of hr
    have hx := B.s _ _ hx0
    have hAn := B.bk.n
    have hf3 := hsm.f
    refine ⟨_, (pss_one (ps_if (pt_cmpR op_eq (pe_ix ix_tup (pv 2) pe_int (fun _ _ => rfl)) pe_str (nomark _))
        (pss_one (ps_expr (pe_bm F.plainAttrs_list F.slot_list_append F.type_list_append mt_append (pv 0) (pa_cons (pe_lst (pa_cons (pe_ix ix_tup (pv 2) pe_int (fun _ _ => rfl)) (pa_cons (pe_ix ix_tup (pv 2) pe_int (fun _ _ => rfl)) (pa_cons (pe_ix ix_tup (pv 2) pe_int (fun _ _ => rfl)) pa_nil)))) pa_nil))))
        (pss_one (ps_if (pt_cmpR op_eq (pe_ix ix_tup (pv 2) pe_int (fun _ _ => rfl)) pe_str (nomark _))
          (pss_one (ps_if (PW.pt (pw_and (pt_cmpR op_le pe_int (pe_ix ix_tup (pv 2) pe_int (fun _ _ => rfl)) (nomark _)) (pw_and1 (pt_cmpR op_lt (pe_ix ix_tup (pv 2) pe_int (fun _ _ => rfl)) (pe_callB (call_len_seq) (by rfl) T.n_len bt_len (pa_cons (pv 1) pa_nil)) (nomark _)))))
            (pss_one (ps_if (pt_cmpR op_ge (pe_callB (call_sumL rfl) (by rfl) T.n_sum bt_sum (pa_cons (pe_comp (caps := []) (own := ["_law_part"]) rfl (by rfl) (by decide +kernel) rfl (by decide +kernel) (by exact trivial) (pi_list (pe_ix ix_list (pv 1) (pe_ix ix_tup (pv 2) pe_int (fun _ _ => rfl)) (fun _ _ => rfl))) (fun C s H ex => (pg_name (i := 0) (show List.Nodup (["_law_part"] : List Str) by decide +kernel) rfl (Or.inl rfl))) (fun C s H ex => (pe_ix (ix_listK K) (pv 0) pe_int (fun _ _ => rfl)))) pa_nil)) (pe_ix ix_tup (pv 2) pe_int (fun _ _ => rfl)) (nomark _))
              (pss_one (ps_expr (pe_call G_law_on hr (by rfl) T.m_law_on T.F_law_on.kp T.b_law_on .nil pass0 (pa_cons (pv 0) (pa_cons (pe_ix ix_list (pv 1) (pe_ix ix_tup (pv 2) pe_int (fun _ _ => rfl)) (fun _ _ => rfl)) (pa_cons (pe_ix ix_tup (pv 2) pe_int (fun _ _ => rfl)) pa_nil))))))
              pss_nil))
            pss_nil))
          (pss_cons (ps_set_compIf (i := 3) S_law_booked.nd rfl rfl rfl (caps := [(2, "_law_deed"), (0, "_law_lots")]) (own := ["_law_k"]) rfl (by rfl) (by decide +kernel) rfl (by decide +kernel) (by exact ⟨⟨rfl, rfl, rfl⟩, ⟨⟨rfl, rfl, rfl⟩, trivial⟩⟩) (pi_range1 (by rfl) T.n_range (pa_cons (pe_callB (call_len_seq) (by rfl) T.n_len bt_len (pa_cons (pv 0) pa_nil)) pa_nil)) (fun C s H ex => (pg_name (i := 2) (show List.Nodup (["_law_deed", "_law_lots", "_law_k"] : List Str) by decide +kernel) rfl (Or.inl rfl))) (fun C s H ex => (pt_cmpR op_eq (pe_ix (ix_listK K) (pe_ix (ix_listK K) (pv 1) (pv 2) (fun _ _ => rfl)) pe_int (fun _ _ => rfl)) (pe_ix (ix_tupK K) (pv 0) pe_int (fun _ _ => rfl)) (nomark _))) (fun C s H ex => (pv 2)))
          (pss_cons (ps_set (i := 4) S_law_booked.nd rfl (Or.inl rfl) (pe_call G_law_there hr (by rfl) T.m_law_there T.F_law_there.kp T.b_law_there .nil pass0 (pa_cons (pv 0) (pa_cons (pe_ix ix_tup (pv 2) pe_int (fun _ _ => rfl)) pa_nil))))
          (pss_cons (ps_if (PW.pt (pw_and (pt_cmpR op_eq (pe_ix ix_tup (pv 2) pe_int (fun _ _ => rfl)) pe_str (nomark _)) (pw_and1 (pt_cmpR op_ge (pv 4) (pe_ix ix_tup (pv 2) pe_int (fun _ _ => rfl)) (nomark _)))))
            (pss_one (ps_expr (pe_bm F.plainAttrs_list F.slot_list_append F.type_list_append mt_append (pv 1) (pa_cons (pe_call G_law_off hr (by rfl) T.m_law_off T.F_law_off.kp T.b_law_off .nil pass0 (pa_cons (pv 0) (pa_cons (pv 3) (pa_cons (pe_ix ix_tup (pv 2) pe_int (fun _ _ => rfl)) pa_nil)))) pa_nil))))
            pss_nil)
          (pss_cons (ps_if (PW.pt (pw_and (pt_cmpR op_eq (pe_ix ix_tup (pv 2) pe_int (fun _ _ => rfl)) pe_str (nomark _)) (pw_and1 (pt_cmpR op_gt (pv 4) (pe_ix ix_tup (pv 2) pe_int (fun _ _ => rfl)) (nomark _)))))
            (pss_one (ps_expr (pe_call G_law_off hr (by rfl) T.m_law_off T.F_law_off.kp T.b_law_off .nil pass0 (pa_cons (pv 0) (pa_cons (pe_listrev rfl (by rfl) T.n_list (by rfl) T.n_reversed (pv 3)) (pa_cons (pe_op op_sub (pv 4) (pe_ix ix_tup (pv 2) pe_int (fun _ _ => rfl))) pa_nil))))))
            pss_nil)
          (pss_one (ps_if (PW.pt (pw_and (pt_cmpR op_eq (pe_ix ix_tup (pv 2) pe_int (fun _ _ => rfl)) pe_str (nomark _)) (pw_and1 (pt_cmpR op_lt (pv 4) (pe_ix ix_tup (pv 2) pe_int (fun _ _ => rfl)) (nomark _)))))
            (pss_cons (ps_set (i := 5) S_law_booked.nd rfl (Or.inl rfl) (pe_ix ix_list (pe_op op_cat (pe_lst (pa_cons pe_int pa_nil)) (pe_comp (caps := [(0, "_law_lots")]) (own := ["_law_spot"]) rfl (by rfl) (by decide +kernel) rfl (by decide +kernel) (by exact ⟨⟨rfl, rfl, rfl⟩, trivial⟩) (pi_list (pv 3)) (fun C s H ex => (pg_name (i := 1) (show List.Nodup (["_law_lots", "_law_spot"] : List Str) by decide +kernel) rfl (Or.inl rfl))) (fun C s H ex => (pe_ix (ix_listK K) (pe_ix (ix_listK K) (pv 0) (pv 1) (fun _ _ => rfl)) pe_int (fun _ _ => rfl))))) (pe_un un_neg pe_int) (fun _ _ => rfl)))
            (pss_one (ps_expr (pe_bm F.plainAttrs_list F.slot_list_append F.type_list_append mt_append (pv 0) (pa_cons (pe_lst (pa_cons (pe_ix ix_tup (pv 2) pe_int (fun _ _ => rfl)) (pa_cons (pe_op op_sub (pe_ix ix_tup (pv 2) pe_int (fun _ _ => rfl)) (pv 4)) (pa_cons (pv 5) pa_nil)))) pa_nil)))))
            pss_nil)))))))))), ?_⟩
    cases dd with
    | come w am pr =>
      refine ⟨_, rfl, x, _, _, _, rfl, rfl, SqT.of hx, rfl, rfl, _, rfl, ?_⟩
      refine iteStr ?_
      refine ⟨_, rfl, tyL B.bk.l, _, rfl, x, _, _, _, rfl, rfl, SqT.of hx, rfl, _, rfl, x, _, _, _, rfl, rfl, SqT.of hx, rfl, _, rfl, x, _, _, _, rfl, rfl, SqT.of hx, rfl, (by show 3 ≤ sizeLine; decide), fun p hp => ?_⟩
      refine ⟨la, _, _, rfl, rfl, same_new hp _ _ B.bk.l, line_lt (by rw [List.length_map]; omega), ?_⟩
      exact k _ ⟨_, _, _, B.push hp (w, am, pr)⟩
    | back n am =>
      refine ⟨_, rfl, x, _, _, _, rfl, rfl, SqT.of hx, rfl, rfl, _, rfl, ?_⟩
      refine iteStrN s_bc ?_
      refine ⟨_, rfl, x, _, _, _, rfl, rfl, SqT.of hx, rfl, rfl, _, rfl, ?_⟩
      refine iteStr ?_
      refine ⟨_, rfl, x, _, _, _, rfl, rfl, SqT.of hx, rfl, _, _, rfl, rfl, _, rfl, ?_⟩
      refine ite2 (fun z0 => ?_) (fun z0 => ?_)
      · have h0 : 0 ≤ n := of_decide_eq_true z0
        refine ⟨_, rfl, x, _, _, _, rfl, rfl, SqT.of hx, rfl, _, rfl, _, _, rfl, .inl (SqL.of B.o), _, _, rfl, rfl, _, rfl, ?_⟩
        refine ite2 (fun z1 => ?_) (fun z1 => ?_)
        · have h1 : n < (((xs.map V.ref).length : Nat) : Int) := of_decide_eq_true z1
          rw [List.length_map] at h1
          have hnx : n.toNat < xs.length := by omega
          have hpa : xs[n.toNat]? = some (xs[n.toNat]) := List.getElem?_eq_getElem hnx
          generalize xs[n.toNat] = pa at hpa
          have hZ : kb.O[n.toNat]? = some (kb.O[n.toNat]'(by rw [← B.xn]; exact hnx)) := List.getElem?_eq_getElem _
          generalize kb.O[n.toNat]'(by rw [← B.xn]; exact hnx) = Z at hZ
          obtain ⟨PA, hP, hOw⟩ := B.u _ pa Z hpa hZ
          have hata : atI (xs.map V.ref) n = some (.ref pa) := atI_ix h0 (by rw [List.getElem?_map, hpa]; rfl)
          have hZl : Z.length ≤ 300 := hsm.z Z (List.mem_of_getElem? hZ)
          have hPn := hP.n
          refine ⟨_, rfl, _, rfl, x, _, _, _, rfl, rfl, SqT.of hx, rfl, oa, _, _, _, rfl, rfl, SqL.of B.o, hata, pa, rfl, ⟨_, SqL.of hP.l⟩, fun acc hacc => comp_list (K := K) (a := pa) (acc := acc) (xs := PA.map V.ref) (fun i ys σ H2 => ys = (Z.take i).map (fun z => V.int z.2) ∧ H2 = upd H acc (.lst ys) ∧ ∃ v1, σ = [v1]) ?_ (line_lt (by rw [List.length_map]; omega)) ?_ ?_ ?_⟩
          · exact ⟨by simp, rfl, _, rfl⟩
          · rintro i ys σ H2 hi ⟨rfl, rfl, _, rfl⟩
            rw [List.length_map] at hi
            exact ⟨SqL.of (same_new hacc _ _ hP.l), upd_same, by rw [List.length_map, List.length_take]; omega⟩
          · rintro i y ys σ H2 hy ⟨rfl, rfl, _, rfl⟩
            rw [List.getElem?_map] at hy
            cases ha : PA[i]? with
            | none => rw [ha] at hy; cases hy
            | some a =>
              rw [ha] at hy
              have hy' : V.ref a = y := Option.some.inj hy
              subst hy'
              have hi : i < Z.length := by rw [← hPn]; exact (List.getElem?_eq_some_iff.mp ha).1
              have hz : Z[i]? = some (Z[i]) := List.getElem?_eq_getElem hi
              generalize Z[i] = z at hz
              have hra := same_new (o := HO.lst ((Z.take i).map (fun z => V.int z.2))) hacc _ _ (hP.r i a z ha hz)
              refine ⟨_, rfl, a, _, _, _, rfl, rfl, SqL.of hra, rfl, upd_same, ?_, ?_, _, rfl⟩
              · rw [take_snoc hz, List.map_append]
                rfl
              · rw [upd_upd]
          rintro ys σ H2 ⟨rfl, rfl, _, rfl⟩
          have s2 := same_new (o := HO.lst ((Z.take (PA.map V.ref).length).map fun z => V.int z.2)) hacc
          have htake : (Z.take (PA.map V.ref).length).map (fun z => V.int z.2) = (Z.map (·.2)).map V.int := by
            rw [List.length_map, hPn, List.take_length, List.map_map]
            rfl
          have hx2 := s2 _ _ hx
          refine ⟨acc, Z.map (·.2), rfl, SqL.of (by rw [upd_same, htake]), _, rfl, x, _, _, _, rfl, rfl, SqT.of hx2, rfl, _, _, rfl, rfl, _, rfl, ?_⟩
          have B2 := B.same s2
          have hP2 := hP.same s2
          generalize (upd H acc (HO.lst ((Z.take (PA.map V.ref).length).map fun z => V.int z.2))) = H2 at *
          have hstep : bookStep kb (.back n am) = if am ≤ (Z.map (·.2)).sum then ⟨addAll kb.F (onP Z.reverse am), kb.O.set n.toNat (onB Z.reverse am).reverse⟩ else kb := by
            show (if 0 ≤ n then _ else kb) = _
            rw [if_pos h0, hZ]
          refine ite2 (fun z2 => ?_) (fun z2 => ?_)
          · have h2 : am ≤ (Z.map (·.2)).sum := of_decide_eq_true z2
            refine ⟨_, rfl, _, rfl, _, rfl, x, _, _, _, rfl, rfl, SqT.of hx2, rfl, oa, _, _, _, rfl, rfl, SqL.of B2.o, hata, _, rfl, x, _, _, _, rfl, rfl, SqT.of hx2, rfl, la, pa, A, PA, kb.F, Z, am, rfl, B2.bk, hP2, hzl Z (List.mem_of_getElem? hZ), hZl, fun H3 g1 g2 g3 => ?_⟩
            refine k H3 ?_
            rw [hstep, if_pos h2]
            exact ⟨_, _, _, B2.on hpa hZ hP2 hOw g1 g2 g3⟩
          · refine k H2 ?_
            have h2 : ¬ am ≤ (Z.map (·.2)).sum := fun y => z2 (decide_eq_true y)
            rw [hstep, if_neg h2]
            exact ⟨_, _, _, B2⟩
        · refine k H ?_
          have h1 : ¬ n < (((xs.map V.ref).length : Nat) : Int) := fun y => z1 (decide_eq_true y)
          rw [List.length_map] at h1
          have hstep : bookStep kb (.back n am) = kb := by
            show (if 0 ≤ n then _ else kb) = _
            rw [if_pos h0, List.getElem?_eq_none (by rw [← B.xn]; omega)]
          rw [hstep]
          exact ⟨_, _, _, B⟩
      · refine iteF ?_
        refine k H ?_
        have h0 : ¬ 0 ≤ n := fun y => z0 (decide_eq_true y)
        have hstep : bookStep kb (.back n am) = kb := if_neg h0
        rw [hstep]
        exact ⟨_, _, _, B⟩
    | use w am =>
      refine ⟨_, rfl, x, _, _, _, rfl, rfl, SqT.of hx, rfl, rfl, _, rfl, ?_⟩
      refine iteStrN s_uc ?_
      refine ⟨_, rfl, x, _, _, _, rfl, rfl, SqT.of hx, rfl, rfl, _, rfl, ?_⟩
      refine iteStrN s_ub ?_
      -- the spots
      have en : (((A.map V.ref).length : Nat) : Int).toNat = kb.F.length := by rw [List.length_map, hAn]; simp
      refine ⟨_, rfl, _, _, rfl, .inl (SqL.of B.bk.l), _, rfl, rlo _, rhi (by rw [List.length_map]; omega), fun acc hacc => comp_rangeIf (acc := acc) (lo := 0) (fun i ys σ H2 => ys = (spots (kb.F.take i) w).map (fun j : Nat => V.int (j : Int)) ∧ H2 = upd H acc (.lst ys) ∧ ∃ v2, σ = [some (.ref x), some (.ref la), v2]) ?_ ?_ ?_ ?_ ?_⟩
      · exact ⟨by simp [spots], rfl, _, rfl⟩
      · rw [en]; exact line_lt (by omega)
      · rintro i ys σ H2 hi ⟨rfl, rfl, _, rfl⟩
        refine ⟨upd_same, ?_⟩
        rw [List.length_map]
        have := spots_len (kb.F.take i) w
        rw [List.length_take] at this
        omega
      · rintro i ys σ H2 hi ⟨rfl, rfl, _, rfl⟩
        rw [en] at hi
        rw [Int.zero_add]
        have hF : kb.F[i]? = some (kb.F[i]) := List.getElem?_eq_getElem hi
        generalize kb.F[i] = f at hF
        have B2 := B.same (same_new (o := HO.lst ((spots (kb.F.take i) w).map (fun j : Nat => V.int (j : Int)))) hacc)
        obtain ⟨a, ha, hra⟩ := B2.bk.at hF
        have hata : atI (A.map V.ref) (i : Int) = some (.ref a) := atI_nat (by rw [List.getElem?_map, ha]; rfl)
        have hsn : spots (kb.F.take (i + 1)) w = spots (kb.F.take i) w ++ if f.1 = w then [i] else [] := by
          rw [take_snoc hF, spots_snoc, List.length_take, Nat.min_eq_left (by omega)]
        refine ⟨_, rfl, _, rfl, la, _, _, _, rfl, rfl, SqL.of B2.bk.l, hata, a, _, _, _, rfl, rfl, SqL.of hra, rfl, _, rfl, x, _, _, _, rfl, rfl, SqT.of (B2.s _ _ hx0), rfl, rfl, _, rfl, ?_⟩
        refine ite2 (fun z => ?_) (fun z => ?_)
        · have e : f.1 = w := V.str.inj (of_decide_eq_true z)
          refine ⟨_, rfl, upd_same, ?_, by rw [upd_upd], _, rfl⟩
          rw [hsn, if_pos e, List.map_append]
          rfl
        · have e : ¬ f.1 = w := fun y => z (decide_eq_true (by rw [y]))
          refine ⟨?_, rfl, _, rfl⟩
          rw [hsn, if_neg e, List.append_nil]
      rintro ys σ H2 ⟨rfl, rfl, _, rfl⟩
      have hfull : spots (kb.F.take (((A.map V.ref).length : Nat) : Int).toNat) w = spots kb.F w := by rw [en, List.take_length]
      rw [hfull]
      have s2 := same_new (o := HO.lst ((spots kb.F w).map (fun j : Nat => V.int (j : Int)))) hacc
      have hsp2 : (upd H acc (HO.lst ((spots kb.F w).map (fun j : Nat => V.int (j : Int))))) acc = some (.lst ((spots kb.F w).map (fun j : Nat => V.int (j : Int)))) := upd_same
      have B2 := B.same s2
      have hx2 := s2 _ _ hx
      generalize (upd H acc (HO.lst ((spots kb.F w).map (fun j : Nat => V.int (j : Int))))) = H2 at *
      refine ⟨_, rfl, _, rfl, x, _, _, _, rfl, rfl, SqT.of hx2, rfl, la, A, kb.F, w, rfl, B2.bk, hf3, fun H3 s3 => ?_⟩
      have B3 := B2.same s3
      have hx3 := s3 _ _ hx2
      have hsp3 := s3 _ _ hsp2
      -- the use
      refine ⟨_, rfl, x, _, _, _, rfl, rfl, SqT.of hx3, rfl, rfl, _, rfl, ?_⟩
      refine iteStr ?_
      refine ⟨_, rfl, _, rfl, x, _, _, _, rfl, rfl, SqT.of hx3, rfl, _, _, rfl, rfl, _, rfl, ?_⟩
      refine ite2 (fun z2 => ?_) (fun z2 => ?_)
      · have h2 : am ≤ hereB kb.F w := of_decide_eq_true z2
        refine ⟨_, rfl, tyL B3.o, _, rfl, _, rfl, _, rfl, x, _, _, _, rfl, rfl, SqT.of hx3, rfl, la, acc, A, kb.F, spots kb.F w, am, rfl, B3.bk, hsp3, spots_nd _ _, fun j hj => spots_lt hj, Nat.le_trans (spots_len _ _) hf3, fun pa PA H4 g1 g2 g3 g4 g5 => ?_⟩
        have B4 := B3.off g1 g5
        refine ⟨oa, _, _, rfl, rfl, B4.o, line_lt (by have := hsm.o; rw [List.length_map, B.xn]; omega), ?_⟩
        have B5 := B4.out g2 (fun e => by rw [e, B3.bk.l] at g3; cases g3) (fun e => by rw [e, B3.o] at g3; cases g3) (fun p hp => ⟨B3.fresh (g4 p hp), by
          cases e : Ow p with
          | none => rfl
          | some i => exact absurd (g4 p hp) (B3.oc p i e)⟩)
        have hstep : bookStep kb (.use w am) = ⟨addAll kb.F (neg (offP kb.F (spots kb.F w) am)), kb.O ++ [offP kb.F (spots kb.F w) am]⟩ := if_pos h2
        have hx5 := B5.s _ _ hx0
        refine ⟨_, rfl, x, _, _, _, rfl, rfl, SqT.of hx5, rfl, rfl, _, rfl, ?_⟩
        refine iteStrN s_uo ?_
        refine iteF ?_
        refine ⟨_, rfl, x, _, _, _, rfl, rfl, SqT.of hx5, rfl, rfl, _, rfl, ?_⟩
        refine iteStrN s_uo ?_
        refine iteF ?_
        refine k _ ?_
        rw [hstep]
        exact ⟨_, _, _, B5⟩
      · have h2 : ¬ am ≤ hereB kb.F w := fun y => z2 (decide_eq_true y)
        have hstep : bookStep kb (.use w am) = kb := if_neg h2
        refine ⟨_, rfl, x, _, _, _, rfl, rfl, SqT.of hx3, rfl, rfl, _, rfl, ?_⟩
        refine iteStrN s_uo ?_
        refine iteF ?_
        refine ⟨_, rfl, x, _, _, _, rfl, rfl, SqT.of hx3, rfl, rfl, _, rfl, ?_⟩
        refine iteStrN s_uo ?_
        refine iteF ?_
        refine k _ ?_
        rw [hstep]
        exact ⟨_, _, _, B3⟩
    | count w f =>
      refine ⟨_, rfl, x, _, _, _, rfl, rfl, SqT.of hx, rfl, rfl, _, rfl, ?_⟩
      refine iteStrN s_oc ?_
      refine ⟨_, rfl, x, _, _, _, rfl, rfl, SqT.of hx, rfl, rfl, _, rfl, ?_⟩
      refine iteStrN s_ob ?_
      -- the spots
      have en : (((A.map V.ref).length : Nat) : Int).toNat = kb.F.length := by rw [List.length_map, hAn]; simp
      refine ⟨_, rfl, _, _, rfl, .inl (SqL.of B.bk.l), _, rfl, rlo _, rhi (by rw [List.length_map]; omega), fun acc hacc => comp_rangeIf (acc := acc) (lo := 0) (fun i ys σ H2 => ys = (spots (kb.F.take i) w).map (fun j : Nat => V.int (j : Int)) ∧ H2 = upd H acc (.lst ys) ∧ ∃ v2, σ = [some (.ref x), some (.ref la), v2]) ?_ ?_ ?_ ?_ ?_⟩
      · exact ⟨by simp [spots], rfl, _, rfl⟩
      · rw [en]; exact line_lt (by omega)
      · rintro i ys σ H2 hi ⟨rfl, rfl, _, rfl⟩
        refine ⟨upd_same, ?_⟩
        rw [List.length_map]
        have := spots_len (kb.F.take i) w
        rw [List.length_take] at this
        omega
      · rintro i ys σ H2 hi ⟨rfl, rfl, _, rfl⟩
        rw [en] at hi
        rw [Int.zero_add]
        have hF : kb.F[i]? = some (kb.F[i]) := List.getElem?_eq_getElem hi
        generalize kb.F[i] = f at hF
        have B2 := B.same (same_new (o := HO.lst ((spots (kb.F.take i) w).map (fun j : Nat => V.int (j : Int)))) hacc)
        obtain ⟨a, ha, hra⟩ := B2.bk.at hF
        have hata : atI (A.map V.ref) (i : Int) = some (.ref a) := atI_nat (by rw [List.getElem?_map, ha]; rfl)
        have hsn : spots (kb.F.take (i + 1)) w = spots (kb.F.take i) w ++ if f.1 = w then [i] else [] := by
          rw [take_snoc hF, spots_snoc, List.length_take, Nat.min_eq_left (by omega)]
        refine ⟨_, rfl, _, rfl, la, _, _, _, rfl, rfl, SqL.of B2.bk.l, hata, a, _, _, _, rfl, rfl, SqL.of hra, rfl, _, rfl, x, _, _, _, rfl, rfl, SqT.of (B2.s _ _ hx0), rfl, rfl, _, rfl, ?_⟩
        refine ite2 (fun z => ?_) (fun z => ?_)
        · have e : f.1 = w := V.str.inj (of_decide_eq_true z)
          refine ⟨_, rfl, upd_same, ?_, by rw [upd_upd], _, rfl⟩
          rw [hsn, if_pos e, List.map_append]
          rfl
        · have e : ¬ f.1 = w := fun y => z (decide_eq_true (by rw [y]))
          refine ⟨?_, rfl, _, rfl⟩
          rw [hsn, if_neg e, List.append_nil]
      rintro ys σ H2 ⟨rfl, rfl, _, rfl⟩
      have hfull : spots (kb.F.take (((A.map V.ref).length : Nat) : Int).toNat) w = spots kb.F w := by rw [en, List.take_length]
      rw [hfull]
      have s2 := same_new (o := HO.lst ((spots kb.F w).map (fun j : Nat => V.int (j : Int)))) hacc
      have hsp2 : (upd H acc (HO.lst ((spots kb.F w).map (fun j : Nat => V.int (j : Int))))) acc = some (.lst ((spots kb.F w).map (fun j : Nat => V.int (j : Int)))) := upd_same
      have B2 := B.same s2
      have hx2 := s2 _ _ hx
      generalize (upd H acc (HO.lst ((spots kb.F w).map (fun j : Nat => V.int (j : Int))))) = H2 at *
      refine ⟨_, rfl, _, rfl, x, _, _, _, rfl, rfl, SqT.of hx2, rfl, la, A, kb.F, w, rfl, B2.bk, hf3, fun H3 s3 => ?_⟩
      have B3 := B2.same s3
      have hx3 := s3 _ _ hx2
      have hsp3 := s3 _ _ hsp2
      refine ⟨_, rfl, x, _, _, _, rfl, rfl, SqT.of hx3, rfl, rfl, _, rfl, ?_⟩
      refine iteStrN s_ou ?_
      refine iteF ?_
      refine ⟨_, rfl, x, _, _, _, rfl, rfl, SqT.of hx3, rfl, rfl, _, rfl, ?_⟩
      refine iteStr ?_
      refine ⟨_, rfl, _, rfl, x, _, _, _, rfl, rfl, SqT.of hx3, rfl, _, _, rfl, rfl, _, rfl, ?_⟩
      refine ite2 (fun z2 => ?_) (fun z2 => ?_)
      · have h2 : f < hereB kb.F w := of_decide_eq_true z2
        have hstep : bookStep kb (.count w f) = ⟨addAll kb.F (neg (offP kb.F (spots kb.F w).reverse (hereB kb.F w - f))), kb.O⟩ := if_pos h2
        refine ⟨_, rfl, _, rfl, acc, _, rfl, SqL.of hsp3, fun rv hrv => ?_⟩
        rw [← List.map_reverse]
        have s4 := same_new (o := HO.lst ((spots kb.F w).reverse.map (fun j : Nat => V.int (j : Int)))) hrv
        have B4 := B3.same s4
        refine ⟨_, rfl, _, rfl, x, _, _, _, rfl, rfl, SqT.of (s4 _ _ hx3), rfl, _, _, rfl, rfl, la, rv, A, kb.F, (spots kb.F w).reverse, hereB kb.F w - f, rfl, B4.bk, upd_same, nat_nd_reverse (spots_nd _ _), fun j hj => spots_lt (List.mem_reverse.mp hj), by rw [List.length_reverse]; exact Nat.le_trans (spots_len _ _) hf3, fun pa PA H5 g1 g2 g3 g4 g5 => ?_⟩
        have B5 := B4.off g1 g5
        have hx5 := B5.s _ _ hx0
        refine ⟨_, rfl, x, _, _, _, rfl, rfl, SqT.of hx5, rfl, rfl, _, rfl, ?_⟩
        refine iteStr ?_
        refine ⟨_, rfl, _, rfl, x, _, _, _, rfl, rfl, SqT.of hx5, rfl, _, _, rfl, rfl, _, rfl, ?_⟩
        refine ite2 (fun z3 => absurd (of_decide_eq_true z3) (by omega)) (fun _ => ?_)
        refine k _ ?_
        rw [hstep]
        exact ⟨_, _, _, B5⟩
      · have h2 : ¬ f < hereB kb.F w := fun y => z2 (decide_eq_true y)
        refine ⟨_, rfl, x, _, _, _, rfl, rfl, SqT.of hx3, rfl, rfl, _, rfl, ?_⟩
        refine iteStr ?_
        refine ⟨_, rfl, _, rfl, x, _, _, _, rfl, rfl, SqT.of hx3, rfl, _, _, rfl, rfl, _, rfl, ?_⟩
        refine ite2 (fun z3 => ?_) (fun z3 => ?_)
        · have h3 : hereB kb.F w < f := of_decide_eq_true z3
          have hstep : bookStep kb (.count w f) = ⟨kb.F ++ [(w, f - hereB kb.F w, lastP kb.F w)], kb.O⟩ := by
            show (if f < hereB kb.F w then _ else if hereB kb.F w < f then _ else kb) = _
            rw [if_neg h2, if_pos h3]
          refine ⟨(by show 1 ≤ sizeLine; decide), fun z0 hz0 => ?_⟩
          have s4 := same_new (o := HO.lst [V.int 0]) hz0
          have hz4 : (upd H3 z0 (HO.lst [V.int 0])) z0 = some (.lst [V.int 0]) := upd_same
          have B4 := B3.same s4
          have hsp4 := s4 _ _ hsp3
          generalize (upd H3 z0 (HO.lst [V.int 0])) = H4 at *
          refine ⟨_, rfl, acc, rfl, ⟨_, SqL.of hsp4⟩, fun ac2 hac2 => comp_list (K := K) (a := acc) (acc := ac2) (xs := (spots kb.F w).map (fun j : Nat => V.int (j : Int))) (fun i ys σ H5 => ys = ((spots kb.F w).take i).map (fun j => V.int (pf kb.F j)) ∧ H5 = upd H4 ac2 (.lst ys) ∧ ∃ v1, σ = [some (.ref la), v1]) ?_ (line_lt (by rw [List.length_map]; have := spots_len kb.F w; omega)) ?_ ?_ ?_⟩
          · exact ⟨by simp, rfl, _, rfl⟩
          · rintro i ys σ H5 hi ⟨rfl, rfl, _, rfl⟩
            rw [List.length_map] at hi
            exact ⟨SqL.of (same_new hac2 _ _ hsp4), upd_same, by rw [List.length_map, List.length_take]; omega⟩
          · rintro i y ys σ H5 hy ⟨rfl, rfl, _, rfl⟩
            rw [List.getElem?_map] at hy
            cases hj : (spots kb.F w)[i]? with
            | none => rw [hj] at hy; cases hy
            | some j =>
              rw [hj] at hy
              have hy' : V.int (j : Int) = y := Option.some.inj hy
              subst hy'
              have hjl := spots_lt (List.mem_of_getElem? hj)
              have hF : kb.F[j]? = some (kb.F[j]) := List.getElem?_eq_getElem hjl
              have epf : pf kb.F j = (kb.F[j]).2.2 := by unfold pf; rw [hF]; rfl
              generalize kb.F[j] = f3 at hF epf
              have B5 := B4.same (same_new (o := HO.lst (((spots kb.F w).take i).map (fun j => V.int (pf kb.F j)))) hac2)
              obtain ⟨a, ha, hra⟩ := B5.bk.at hF
              have hata : atI (A.map V.ref) (j : Int) = some (.ref a) := atI_nat (by rw [List.getElem?_map, ha]; rfl)
              refine ⟨_, rfl, _, rfl, la, _, _, _, rfl, rfl, SqL.of B5.bk.l, hata, a, _, _, _, rfl, rfl, SqL.of hra, rfl, upd_same, ?_, by rw [upd_upd], _, rfl⟩
              rw [take_snoc hj, List.map_append, List.map_singleton, epf]
          rintro ys σ H5 ⟨rfl, rfl, _, rfl⟩
          have htk : ((spots kb.F w).take ((spots kb.F w).map (fun j : Nat => V.int (j : Int))).length).map (fun j => V.int (pf kb.F j)) = (spots kb.F w).map (fun j => V.int (pf kb.F j)) := by rw [List.length_map, List.take_length]
          rw [htk]
          have s5 := same_new (o := HO.lst ((spots kb.F w).map (fun j => V.int (pf kb.F j)))) hac2
          have B5 := B4.same s5
          have hc5 : (upd H4 ac2 (HO.lst ((spots kb.F w).map (fun j => V.int (pf kb.F j))))) ac2 = some (.lst ((spots kb.F w).map (fun j => V.int (pf kb.F j)))) := upd_same
          have hz5 := s5 _ _ hz4
          generalize (upd H4 ac2 (HO.lst ((spots kb.F w).map (fun j => V.int (pf kb.F j))))) = H5 at *
          refine ⟨z0, ac2, _, _, rfl, rfl, hz5, hc5, line_le (by have := spots_len kb.F w; simp; omega), fun ct hct => ?_⟩
          have s6 := same_new (o := HO.lst ([V.int 0] ++ (spots kb.F w).map (fun j => V.int (pf kb.F j)))) hct
          refine ⟨_, rfl, ct, _, _, _, rfl, rfl, SqL.of upd_same, last_price kb.F w, ?_⟩
          have B6 := B5.same s6
          generalize (upd H5 ct (HO.lst ([V.int 0] ++ (spots kb.F w).map (fun j => V.int (pf kb.F j))))) = H6 at *
          have hx6 := B6.s _ _ hx0
          refine ⟨_, rfl, tyL B6.bk.l, _, rfl, x, _, _, _, rfl, rfl, SqT.of hx6, rfl, _, rfl, x, _, _, _, rfl, rfl, SqT.of hx6, rfl, _, rfl, _, _, rfl, rfl, _, rfl, (by show 3 ≤ sizeLine; decide), fun p hp => ?_⟩
          refine ⟨la, _, _, rfl, rfl, same_new hp _ _ B6.bk.l, line_lt (by rw [List.length_map]; omega), ?_⟩
          refine k _ ?_
          rw [hstep]
          exact ⟨_, _, _, B6.push hp (w, f - hereB kb.F w, lastP kb.F w)⟩
        · have h3 : ¬ hereB kb.F w < f := fun y => z3 (decide_eq_true y)
          have hstep : bookStep kb (.count w f) = kb := by
            show (if f < hereB kb.F w then _ else if hereB kb.F w < f then _ else kb) = _
            rw [if_neg h2, if_neg h3]
          refine k _ ?_
          rw [hstep]
          exact ⟨_, _, _, B3⟩
theorem ok_law {t : Adr} (T : Txt K mg t) (hB : BmIn mg base) : FnOk P w K mg base CX0 7 t.a_law t.d_law ["_law_script"] (spLawT K t.tb_all_lots) := by
  have G_law_room : FnOk P w K mg base CX0 6 t.a_law_room t.d_law_room ["_law_script", "_law_most", "_law_bound"] (spRoom K) := (ok_law_room T).mono (by decide)
  have G_law_deeds : FnOk P w K mg base CX0 6 t.a_law_deeds t.d_law_deeds ["_law_cells"] (spDeeds K) := (ok_law_deeds T).mono (by decide)
  have G_law_at : FnOk P w K mg base CX0 6 t.a_law_at t.d_law_at ["_law_script", "_law_k"] (spAt K) := (ok_law_at T).mono (by decide)
  have G_law_there : FnOk P w K mg base CX0 6 t.a_law_there t.d_law_there ["_law_lots", "_law_ware"] spThere := (ok_law_there T).mono (by decide)
  have G_answers : FnOk P w K mg base CX0 6 t.a_answers t.d_answers ["deeds"] spAnswers := ok_answers T
  have G_lots_behind : FnOk P w K mg base CX0 6 t.a_lots_behind t.d_lots_behind ["deeds"] (spLots t.tb_all_lots LQ) := ok_lots_behind T hB
  have G_law_same : FnOk P w K mg base CX0 6 t.a_law_same t.d_law_same ["_law_handed", "_law_asked"] spSameG := (ok_law_same T).mono (by decide)
  have G_law_booked : FnOk P w K mg base CX0 6 t.a_law_booked t.d_law_booked ["_law_lots", "_law_outs", "_law_deed"] spBooked := (ok_law_booked T).mono (by decide)
  refine T.F_law.ok S_law (fun vs H Q E h => ?_) (fun cdv A outer s H vs Q E hr h => ?_)
  · obtain ⟨a, ns, rfl, _⟩ := h
    rfl
  · obtain ⟨a, ns, rfl, hS, hlen, hbits, hTb, k⟩ := h
    have hu := hu_of hr
    obtain ⟨t2, h2, r2⟩ : ∃ t2, PSs (cxOf CX0 P w K mg base ["_law_script", "_law_asked", "_law_seed", "_law_lots", "_law_outs", "_law_deed", "_law_due", "_law_lot", "_law_many", "_law_amount", "_law_longer", "_law_left", "_law_piece", "_law_told", "_law_rows", "_law_found"] "law" (defScope st_law) t.a_law cdv A outer s H E).nox ((defBody st_law).drop 12) t2 ∧
        ∀ σ H, Out7 t.tb_all_lots σ H → t2 { nx := fun _ H' => Q .non H', rt := Q } σ H := by
      refine ⟨_, (pss_cons (ps_expr (pe_bm F.plainAttrs_list F.slot_list_append F.type_list_append mt_append (pv 10) (pa_cons (pe_tup (pa_cons pe_str (pa_cons (pe_callB (call_len_seq) (by rfl) T.n_len bt_len (pa_cons (pv 4) pa_nil)) (pa_cons pe_int pa_nil)))) pa_nil)))
        (pss_cons (ps_set (i := 13) S_law.nd rfl (Or.inl rfl) (pe_call G_answers hr (by rfl) T.m_answers T.F_answers.kp T.b_answers .nil pass0 (pa_cons (pe_callTy (call_list_of) (by rfl) T.n_list bt_list (pa_cons (pv 10) pa_nil)) pa_nil)))
        (pss_cons (ps_if (PW.pt (pw_or (pt_not (pt_val (pe_callB (call_isinst) (by rfl) T.n_isinstance bt_isinstance (pa_cons (pv 13) (pa_cons (pe_bltn (v := .ty "list") (by rfl) T.n_list bt_list rfl) pa_nil))))) (pw_or1 (pt_cmpR op_ne (pe_callB (call_len_seq) (by rfl) T.n_len bt_len (pa_cons (pv 13) pa_nil)) (pe_callB (call_len_seq) (by rfl) T.n_len bt_len (pa_cons (pv 10) pa_nil)) (nomark _)))))
          (pss_one (ps_ret pe_bl))
          pss_nil)
        (pss_cons (ps_if (PW.pt (pw_or (pt_cmpR op_notN (pe_ix ix_list (pv 13) (pe_callB (call_len_seq) (by rfl) T.n_len bt_len (pa_cons (pv 1) pa_nil)) (fun _ _ => rfl)) pe_non (nomark _)) (pw_or1 (pt_cmpR op_notN (pe_ix ix_list (pv 13) (pe_un un_neg pe_int) (fun _ _ => rfl)) pe_non (nomark _)))))
          (pss_one (ps_ret pe_bl))
          pss_nil)
        (pss_cons (ps_if (pt_cmpR op_ne (pe_cmpR op_isN (pe_ix ix_list (pv 13) (pe_op op_add (pe_callB (call_len_seq) (by rfl) T.n_len bt_len (pa_cons (pv 1) pa_nil)) pe_int) (fun _ _ => rfl)) pe_non (nomark _)) (pe_cmpR op_eq (pv 8) pe_int (nomark _)) (nomark _))
          (pss_one (ps_ret pe_bl))
          pss_nil)
        (pss_cons (ps_for PassesOwn.never rfl (pi_list (pe_lst (pa_cons (pv 1) (pa_cons (pv 10) pa_nil)))) (pg_name (i := 14) S_law.nd rfl (Or.inl rfl))
          (pss_cons (ps_set (i := 15) S_law.nd rfl (Or.inl rfl) (pe_call G_lots_behind hr (by rfl) T.m_lots_behind T.F_lots_behind.kp T.b_lots_behind .nil pass0 (pa_cons (pe_callTy (call_list_of) (by rfl) T.n_list bt_list (pa_cons (pv 14) pa_nil)) pa_nil)))
          (pss_one (ps_if (PW.pt (pw_or (pt_not (pt_val (pe_callB (call_isinst) (by rfl) T.n_isinstance bt_isinstance (pa_cons (pv 15) (pa_cons (pe_bltn (v := .ty "list") (by rfl) T.n_list bt_list rfl) pa_nil))))) (pw_or1 (pt_not (pt_val (pe_call G_law_same hr (by rfl) T.m_law_same T.F_law_same.kp T.b_law_same .nil pass0 (pa_cons (pv 15) (pa_cons (pv 6) pa_nil))))))))
            (pss_one (ps_ret pe_bl))
            pss_nil))))
        (pss_one (ps_ret pe_bl)))))))), ?_⟩
      rintro σ H2 ⟨a, l, z, la, oa, v5, du, v7, many, am, lo, v11, v12, ps, ws, xs, ys, x4, ds, kF, rfl, K2, hps, h9, hor, hlx, hkf, hdl, hmany, hnn, hnU, hnd, hkn, hrl, ham1, ham2⟩
      have hlw : ws.length = ds.length + 2 + ps.length := by rw [Paired.length K2.pw]; simp; omega
      refine ⟨_, rfl, tyL K2.hlo, _, rfl, _, _, rfl, .inl (SqL.of K2.hoa), (by show 3 ≤ sizeLine; decide), fun p hp => ?_⟩
      refine ⟨lo, ws, _, rfl, rfl, (by rw [upd_ne (ne_of_none K2.hlo hp)]; exact K2.hlo), line_lt (by omega), ?_⟩
      have K3 := K2.push (dd := .back ((x4.map V.ref).length : Int) 1) hp
      have eD : ds ++ [.use "nail" (many + 1), .use "nail" am] ++ (ps.map fun p => Deed.back ((x4.map V.ref).length : Int) p) ++ [.back ((x4.map V.ref).length : Int) 1] = ds ++ addedD "nail" (stepsB b0 ds).U.length many am ps := by
        unfold addedD
        rw [hnU]
        simp
      rw [eD] at K3
      obtain ⟨ans, rest, eA, hans, hlots, hlnd⟩ := added_ok (b := stepsB b0 ds) (w := "nail") (am := am) (ps := ps) hnd hkn hnn ham1 hps (by
        rw [← hmany]
        rcases hor with ⟨h1, h2⟩ | ⟨h1, h2⟩
        · exact .inl ⟨h1, h2⟩
        · exact .inr ⟨h1, ham2 h1, h2⟩)
      rw [← hmany] at eA hans hlots hlnd
      -- _law_told
      refine ⟨_, rfl, lo, _, rfl, .inl (SqL.of K3.hlo), fun h2 hh2 => ?_⟩
      have K4 := K3.same (same_new (o := HO.lst (ws ++ [.ref p])) hh2)
      have hl2 : (ds ++ addedD "nail" (stepsB b0 ds).U.length many am ps).length = ws.length + 1 := by rw [← Paired.length K3.pw]; simp
      refine ⟨h2, _, rfl, ⟨_, upd_same, K4.pw⟩, by omega, fun r H5 s5 hr0 hA => ?_⟩
      have K5 := K4.same s5
      obtain ⟨as, hr5, hpA⟩ := hA
      have hlA : as.length = ws.length + 1 := by rw [Paired.length hpA, answersB_length, hl2]
      rw [answersB_app, eA] at hpA
      obtain ⟨us, vs, rfl, hU, hV⟩ := paired_split hpA
      have hlU : us.length = xs.length := by rw [Paired.length hU, answersB_length, hlx]
      obtain ⟨y1, vs1, rfl, q1, hV⟩ := paired_cons hV
      obtain ⟨y2, vs2, rfl, q2, hV⟩ := paired_cons hV
      obtain ⟨ms', ns', rfl, _, hV⟩ := paired_split hV
      obtain ⟨y3, vs3, rfl, q3, hV⟩ := paired_cons hV
      cases hV
      obtain rfl : y1 = V.non := q1
      obtain rfl : y3 = V.non := q3
      have hy2 : y2 = .non ↔ many = 0 := (ans_some q2).trans hans
      refine ⟨_, rfl, _, _, _, _, rfl, .lst hr5, kit_same _ _, _, rfl, ?_⟩
      refine iteF ?_
      refine ⟨_, rfl, _, _, rfl, .inl (SqL.of hr5), _, rfl, _, _, rfl, .inl (SqL.of K5.hlo), rfl, _, rfl, ?_⟩
      refine iteNS (by rw [hlA]; simp) ?_
      refine ⟨_, rfl, _, rfl, _, _, rfl, .inl (SqL.of K5.hl), r, _, _, _, rfl, rfl, SqL.of hr5, atI_mid us V.non _ hlU, rfl, _, rfl, ?_⟩
      refine iteNS rfl ?_
      refine ⟨_, rfl, _, rfl, r, _, _, _, rfl, rfl, SqL.of hr5, (by rw [show us ++ V.non :: y2 :: (ms' ++ [V.non]) = (us ++ V.non :: y2 :: ms') ++ [V.non] by simp]; exact atI_last _ _), rfl, _, rfl, ?_⟩
      refine iteNS rfl ?_
      refine ⟨_, rfl, _, rfl, _, _, rfl, .inl (SqL.of K5.hl), _, _, rfl, rfl, r, _, _, _, rfl, rfl, SqL.of hr5, atI_mid1 us V.non y2 _ hlU, rfl, _, rfl, rfl, rfl, _, rfl, ?_⟩
      refine iteNS (by
        congr 1
        rw [Bool.eq_iff_iff]
        simp [hy2]) ?_
      -- the lots
      refine ⟨_, rfl, _, rfl, (by show 2 ≤ sizeLine; decide), fun q0 hq0 => ?_⟩
      have K6 := K5.same (same_new (o := HO.lst [V.ref l, V.ref lo]) hq0)
      refine ⟨q0, rfl, ⟨_, SqL.of upd_same⟩, for_list (K := K) (a := q0) (xs := [V.ref l, V.ref lo]) (fun i σ H8 => ∃ (v14 v15 : Option V),
        σ = [some (.ref a), some (.ref l), some (.int z), some (.ref la), some (.ref oa), v5, some (.ref du), v7, some (.int many), some (.int am), some (.ref lo), v11, v12, some (.ref r), v14, v15] ∧
        SameT t.tb_all_lots (upd H5 q0 (HO.lst [V.ref l, V.ref lo])) H8 ∧ TabOk H8 t.tb_all_lots LPos LQ) ?_ ?_ ?_ ?_⟩
      · exact ⟨_, _, rfl, fun _ _ _ e => e, TabOk.new K6.tb⟩
      · rintro i σ H8 _ ⟨_, _, _, s8, _⟩
        exact SqL.of (SameT.to (T := t.tb_all_lots) s8 K6.tb (fun _ z => by cases z) upd_same)
      · rintro i x σ H8 hx ⟨v14, v15, rfl, s8, hT8⟩
        obtain ⟨rw0, dsx, wsx, rfl, hw8, hpw, hlen8, hlx8, hnd8⟩ : ∃ (rw0 : Addr) (dsx : List Deed) (wsx : List V), x = .ref rw0 ∧ H8 rw0 = some (.lst wsx) ∧ Paired (DeedV H8) wsx dsx ∧ dsx.length ≤ 200 ∧ (∀ v, lotsW (stepsB b0 dsx).L v = rowsOf kF.F v) ∧ LNd (stepsB b0 dsx) := by
          have kt : ∀ b zs, (upd H5 q0 (HO.lst [V.ref l, V.ref lo])) b = some (HO.tup zs) → H8 b = some (.tup zs) := fun b zs e => SameT.to (T := t.tb_all_lots) s8 K6.tb (fun _ z => by cases z) e
          match i, hx with
          | 0, hx =>
            have hx : V.ref l = x := Option.some.inj hx
            exact ⟨l, ds, xs, hx.symm, SameT.to (T := t.tb_all_lots) s8 K6.tb (fun _ z => by cases z) K6.hl, deeds_keep kt K6.pl, by omega, hrl, hnd⟩
          | 1, hx =>
            have hx : V.ref lo = x := Option.some.inj hx
            refine ⟨lo, _, _, hx.symm, SameT.to (T := t.tb_all_lots) s8 K6.tb (fun _ z => by cases z) K6.hlo, deeds_keep kt K6.pw, by omega, fun v => ?_, ?_⟩
            · rw [stepsB_app, hlots, hrl]
            · rw [stepsB_app]
              exact hlnd
          | n + 2, hx => simp at hx
        refine ⟨_, rfl, rw0, _, rfl, .inl (SqL.of hw8), fun h3 hh3 => ?_⟩
        have s9 := same_new (o := HO.lst wsx) hh3
        refine ⟨h3, dsx, rfl, ⟨wsx, upd_same, deeds_keep (fun b xs e => s9 _ _ e) hpw⟩, hlen8, by rw [allL_len hlx8 hnd8]; omega, hT8.same s9, fun r9 H9 zs ls hsm hT9 hr0 hr9 hA9 hpm hst => ?_⟩
        have els := told_eq hlx8 hnd8 hpm hst
        subst els
        have s10 : SameT t.tb_all_lots (upd H5 q0 (HO.lst [V.ref l, V.ref lo])) H9 := SameT.trans (SameT.trans s8 (sameT_of s9)) hsm
        refine ⟨_, rfl, _, _, _, _, rfl, .lst hr9, kit_same _ _, _, rfl, ?_⟩
        refine iteF ?_
        refine ⟨_, rfl, _, rfl, r9, du, zs, ys, (tellF kF.F).map v4, rfl, hr9, SameT.to (T := t.tb_all_lots) s10 K6.tb (fun _ z => by cases z) K6.hdu, tupV_lots hA9, tupV_lots (lot_same (fun b xs e => SameT.to (T := t.tb_all_lots) s10 K6.tb (fun _ z => by cases z) e) K6.pd), by rw [List.length_map, tellF_len]; omega, fun z hz => ?_, ?_⟩
        · obtain ⟨l4, _, rfl⟩ := List.mem_map.mp hz
          refine ⟨by show 4 ≤ 1000; decide, fun y hy => ?_⟩
          simp only [v4, List.mem_cons, List.not_mem_nil, or_false] at hy
          rcases hy with rfl | rfl | rfl | rfl
          · exact .inl ⟨_, rfl⟩
          · exact .inr ⟨_, rfl⟩
          · exact .inr ⟨_, rfl⟩
          · exact .inr ⟨_, rfl⟩
        refine ⟨_, rfl, ?_⟩
        refine iteF ?_
        exact ⟨_, _, rfl, s10, hT9⟩
      · rintro σ H8 ⟨v14, v15, rfl, s8, hT8⟩
        exact k _
    refine ⟨_, (pss_cons (ps_set (i := 1) S_law.nd rfl (Or.inl rfl) (pe_call G_law_deeds hr (by rfl) T.m_law_deeds T.F_law_deeds.kp T.b_law_deeds .nil pass0 (pa_cons (pe_slice sl_list (pv 0) (po_some pe_int) (po_some (pe_op op_add pe_int (pe_call G_law_room hr (by rfl) T.m_law_room T.F_law_room.kp T.b_law_room .nil pass0 (pa_cons (pv 0) (pa_cons pe_int (pa_cons pe_int pa_nil))))))) pa_nil)))
      (pss_cons (ps_set (i := 2) S_law.nd rfl (Or.inl rfl) (pe_call G_law_at hr (by rfl) T.m_law_at T.F_law_at.kp T.b_law_at .nil pass0 (pa_cons (pv 0) (pa_cons pe_int pa_nil))))
      (pss_cons (ps_set (i := 3) S_law.nd rfl (Or.inl rfl) (pe_lst pa_nil))
      (pss_cons (ps_set (i := 4) S_law.nd rfl (Or.inl rfl) (pe_lst pa_nil))
      (pss_cons (ps_for PassesOwn.never rfl (pi_list (pv 1)) (pg_name (i := 5) S_law.nd rfl (Or.inl rfl))
        (pss_one (ps_expr (pe_call G_law_booked hr (by rfl) T.m_law_booked T.F_law_booked.kp T.b_law_booked .nil pass0 (pa_cons (pv 3) (pa_cons (pv 4) (pa_cons (pv 5) pa_nil)))))))
      (pss_cons (ps_set (i := 6) S_law.nd rfl (Or.inl rfl) (pe_lst pa_nil))
      (pss_cons (ps_for PassesOwn.never rfl (pi_list (pv 3)) (pg_name (i := 7) S_law.nd rfl (Or.inl rfl))
        (pss_one (ps_expr (pe_bm F.plainAttrs_list F.slot_list_append F.type_list_append mt_append (pv 6) (pa_cons (pe_tup (pa_cons (pe_ix ix_list (pv 7) pe_int (fun _ _ => rfl)) (pa_cons (pe_callB (call_len_seq) (by rfl) T.n_len bt_len (pa_cons (pv 6) pa_nil)) (pa_cons (pe_ix ix_list (pv 7) pe_int (fun _ _ => rfl)) (pa_cons (pe_ix ix_list (pv 7) pe_int (fun _ _ => rfl)) pa_nil))))) pa_nil)))))
      (pss_cons (ps_set (i := 8) S_law.nd rfl (Or.inl rfl) (pe_call G_law_there hr (by rfl) T.m_law_there T.F_law_there.kp T.b_law_there .nil pass0 (pa_cons (pv 3) (pa_cons pe_str pa_nil))))
      (pss_cons (ps_set (i := 9) S_law.nd rfl (Or.inl rfl) (pe_ix ix_list (pe_lst (pa_cons (pe_op op_add pe_int (pe_op op_mod (pv 2) (pe_callB (call_max2 rfl) (by rfl) T.n_max bt_max (pa_cons pe_int (pa_cons (pv 8) pa_nil))))) (pa_cons (pe_callB (call_max2 rfl) (by rfl) T.n_max bt_max (pa_cons pe_int (pa_cons (pv 8) pa_nil))) pa_nil))) (pe_callTy (call_intB) (by rfl) T.n_int bt_int (pa_cons (pe_cmpR op_eq (pe_op op_mod (pe_op op_fdiv (pv 2) pe_int) pe_int) pe_int (nomark _)) pa_nil)) (fun _ _ => rfl)))
      (pss_cons (ps_set (i := 10) S_law.nd rfl (Or.inl rfl) (pe_op op_cat (pv 1) (pe_lst (pa_cons (pe_tup (pa_cons pe_str (pa_cons pe_str (pa_cons (pe_op op_add (pv 8) pe_int) pa_nil)))) (pa_cons (pe_tup (pa_cons pe_str (pa_cons pe_str (pa_cons (pv 9) pa_nil)))) pa_nil)))))
      (pss_cons (ps_set (i := 11) S_law.nd rfl (Or.inl rfl) (pv 9))
      (pss_cons (ps_while PassesOwn.never (PW.pt (pw_and (pt_cmpR op_gt (pv 8) pe_int (nomark _)) (pw_and1 (pt_cmpR op_gt (pv 11) pe_int (nomark _)))))
        (pss_cons (ps_set (i := 12) S_law.nd rfl (Or.inl rfl) (pe_callB (call_min2 rfl) (by rfl) T.n_min bt_min (pa_cons (pv 11) (pa_cons (pe_callB (call_max2 rfl) (by rfl) T.n_max bt_max (pa_cons (pe_op op_add pe_int (pe_op op_mod (pe_op op_fdiv (pv 2) pe_int) pe_int)) (pa_cons (pe_op op_add (pe_op op_fdiv (pv 9) pe_int) pe_int) pa_nil))) pa_nil))))
        (pss_cons (ps_expr (pe_bm F.plainAttrs_list F.slot_list_append F.type_list_append mt_append (pv 10) (pa_cons (pe_tup (pa_cons pe_str (pa_cons (pe_callB (call_len_seq) (by rfl) T.n_len bt_len (pa_cons (pv 4) pa_nil)) (pa_cons (pv 12) pa_nil)))) pa_nil)))
        (pss_one (ps_set (i := 11) S_law.nd rfl (Or.inl rfl) (pe_op op_sub (pv 11) (pv 12)))))))
      h2)))))))))))), ?_⟩
    refine ⟨_, rfl, _, rfl, _, rfl, a, ns, _, _, rfl, hS, hlen, ?_⟩
    refine ⟨_, _, rfl, rfl, _, rfl, a, _, rfl, hS, fun c0 hc0 => ?_⟩
    rw [show cutV (ns.map V.int) (some 1) (some (1 + 40)) = ((ns.drop 1).take 40).map V.int from cut_from ns 41 (by decide)]
    have s0 := same_new (o := HO.lst (((ns.drop 1).take 40).map V.int)) hc0
    have hlen2 : ((ns.drop 1).take 40).length ≤ 40 := by rw [List.length_take]; omega
    have hbits2 : ∀ n ∈ (ns.drop 1).take 40, Builtin.Int.intBits n ≤ 2 ^ 20 := fun n hn => hbits n (List.mem_of_mem_drop (List.mem_of_mem_take hn))
    generalize (ns.drop 1).take 40 = ms at *
    refine ⟨c0, ms, rfl, SqL.of upd_same, by omega, hbits2, fun l H1 ds s1 hl0 hD hdl hdok => ?_⟩
    have hnd := wares_nd' (spot_nn ms) (spot_lt ms)
    generalize wares (spot ms) = W at *
    have hday := day_all hnd hdok
    obtain ⟨xs, hl, hp⟩ := hD
    have hlx : xs.length = ds.length := Paired.length hp
    obtain ⟨kF, DF, ekF⟩ := hday ds.length (Nat.le_refl _)
    rw [List.take_length] at DF ekF
    have hkf : kF.F.length ≤ 40 := by have := DF.bs.f; omega
    have hTb1 := s1 _ _ (s0 _ _ hTb)
    have hS1 := s1.seq (s0.seq hS)
    -- _law_seed
    refine ⟨_, rfl, a, ns, 0, rfl, hS1, Int.le_refl _, ?_⟩
    generalize (ns.getD (Int.toNat 0) 0) = z
    -- _law_lots, _law_outs
    refine ⟨(by show 0 ≤ sizeLine; decide), fun la hla => ?_⟩
    refine ⟨(by show 0 ≤ sizeLine; decide), fun oa hoa => ?_⟩
    have B0 := bk_empty hla hoa
    have hl5 : (upd (upd H1 la (HO.lst [])) oa (HO.lst [])) l = some (.lst xs) := by obtain ⟨_, _, _, b⟩ := B0; exact b.s _ _ hl
    refine ⟨_, rfl, l, rfl, ⟨xs, SqL.of hl5⟩, for_list (K := K) (a := l) (xs := xs) (fun i σ H2 => ∃ v5, σ = [some (.ref a), some (.ref l), some (.int z), some (.ref la), some (.ref oa), v5, none, none, none, none, none, none, none, none, none, none] ∧ BkEx H1 H2 la oa ((ds.take i).foldl bookStep ⟨[], []⟩)) ?_ ?_ ?_ ?_⟩
    · exact ⟨_, rfl, B0⟩
    · rintro i σ H4 _ ⟨_, _, _, _, _, B4⟩
      exact SqL.of (B4.s _ _ hl)
    · rintro i y σ H4 hy ⟨v5, rfl, B4⟩
      obtain ⟨dd, hdd, b, rfl, hb⟩ := deed_at hp hy
      have hi : i < ds.length := (List.getElem?_eq_some_iff.mp hdd).1
      obtain ⟨kb, D, ekb⟩ := hday i (by omega)
      rw [← ekb] at B4
      refine ⟨_, rfl, _, rfl, _, rfl, H1, la, oa, b, kb, dd, rfl, hb, B4, ⟨by have := D.bs.f; omega, by have := D.bs.o; omega, fun Z hZ => by have := D.bs.z Z hZ; omega⟩, book_lt D.R, fun H5 B5 => ?_⟩
      refine ⟨_, rfl, ?_⟩
      rw [take_snoc hdd, List.foldl_append, ← ekb]
      exact B5
    rintro σ H4 ⟨v5, rfl, B4⟩
    rw [hlx, List.take_length, ← ekF] at B4
    obtain ⟨A4, x4, O4, B4⟩ := B4
    have hAn := B4.bk.n
    -- _law_due
    refine ⟨(by show 0 ≤ sizeLine; decide), fun du hdu => ?_⟩
    have s5 := same_new (o := HO.lst []) hdu
    refine ⟨_, rfl, la, rfl, ⟨_, SqL.of (s5 _ _ B4.bk.l)⟩, for_list (K := K) (a := la) (xs := A4.map V.ref) (fun i σ H6 => ∃ (v7 : Option V) (ys : List V), σ = [some (.ref a), some (.ref l), some (.int z), some (.ref la), some (.ref oa), v5, some (.ref du), v7, none, none, none, none, none, none, none, none] ∧
      Same H4 H6 ∧ H6 du = some (.lst ys) ∧ Paired (LotAt H6) ys ((tellF kF.F).take i)) ?_ ?_ ?_ ?_⟩
    · exact ⟨_, [], rfl, s5, upd_same, by simpa using Paired.nil⟩
    · rintro i σ H6 _ ⟨_, _, _, s6, _⟩
      exact SqL.of (s6 _ _ B4.bk.l)
    · rintro i x σ H6 hx ⟨v7, ys, rfl, s6, hdu6, hP6⟩
      have hi : i < A4.length := by have := (List.getElem?_eq_some_iff.mp hx).1; simpa using this
      have hF : kF.F[i]? = some (kF.F[i]'(by omega)) := List.getElem?_eq_getElem _
      generalize kF.F[i]'(by omega) = f at hF
      obtain ⟨c, hc, hrow⟩ := B4.bk.at hF
      rw [List.getElem?_map, hc] at hx
      have hx' : V.ref c = x := Option.some.inj hx
      subst hx'
      have hly : ys.length = i := by rw [Paired.length hP6, List.length_take, tellF_len]; omega
      subst hly
      have hrow6 := s6 _ _ hrow
      refine ⟨_, rfl, tyL hdu6, _, rfl, c, _, _, _, rfl, rfl, SqL.of hrow6, rfl, _, rfl, _, _, rfl, .inl (SqL.of hdu6), _, rfl, c, _, _, _, rfl, rfl, SqL.of hrow6, rfl, _, rfl, c, _, _, _, rfl, rfl, SqL.of hrow6, rfl, (by show 4 ≤ sizeLine; decide), fun p hp => ?_⟩
      refine ⟨du, ys, _, rfl, rfl, (by rw [upd_ne (ne_of_none hdu6 hp)]; exact hdu6), line_lt (by omega), ?_⟩
      refine ⟨_, _, rfl, fun c o e => ?_, upd_same, ?_⟩
      · rw [upd_ne (ne_of_none e hdu), upd_ne (ne_of_none (s6 c o e) hp)]
        exact s6 c o e
      · rw [take_snoc (tellF_get hF)]
        exact lot_push (l := (f.1, ((ys.length : Int), f.2.1, f.2.2))) hp hdu6 hP6
    rintro σ H6 ⟨v7, ys, rfl, s6, hdu6, hP6⟩
    rw [List.length_map, hAn, List.take_of_length_le (by rw [tellF_len]; omega)] at hP6
    -- _law_many
    refine ⟨_, rfl, la, A4, kF.F, _, rfl, B4.bk.same s6, by omega, fun H7 s7 => ?_⟩
    have hdu7 := s7 _ _ hdu6
    have hP7 : Paired (LotAt H7) ys (tellF kF.F) := lot_same (fun b xs e => s7 _ _ e) hP6
    have hoa7 := s7 _ _ (s6 _ _ B4.o)
    have hl7 := s7 _ _ (s6 _ _ (B4.s _ _ hl))
    have hp7 : Paired (DeedV H7) xs ds := L2.Paired.imp' (fun _ _ ⟨a, e, h⟩ => ⟨a, e, s7 _ _ (s6 _ _ (B4.s _ _ h))⟩) hp
    have hTb7 := s7 _ _ (s6 _ _ (B4.s _ _ hTb1))
    have hmany : hereB kF.F "nail" = held (lotsW (stepsB b0 ds).L "nail") := by rw [DF.R.l]; rfl
    have hnn := DF.I.nn "nail"
    have hmn : 0 ≤ hereB kF.F "nail" := by rw [hmany]; exact held_nn hnn
    have hnU : (x4.map V.ref).length = (stepsB b0 ds).U.length := by rw [List.length_map, B4.xn, DF.R.ul]
    have hnd := DF.nd
    have hkn := (DF.I.o "nail").nodup
    have hrl := DF.R.l
    clear hbits hbits2 hday hdok B0 hl5 hla hoa hdu s5 s6 s7 B4 hdu6 hP6
    generalize hereB kF.F "nail" = many at *
    -- _law_amount
    obtain ⟨am, hat, ham1, ham2⟩ := pick_am z many (decide (V.int (z / 5 % 3) = V.int 1))
    refine ⟨_, rfl, _, rfl, _, _, rfl, _, _, rfl, rfl, mx1_pos many, _, _, rfl, rfl, _, rfl, _, _, rfl, (by show 2 ≤ sizeLine; decide), fun q0 hq0 => ?_⟩
    have s8 := same_new (o := HO.lst [V.int (1 + z % mx1 many), V.int (mx1 many)]) hq0
    refine ⟨_, rfl, _, _, rfl, rfl, ⟨by decide, by decide⟩, _, _, rfl, rfl, (by show (0 : Int) < 3; decide), rfl, _, rfl, q0, [V.int (1 + z % mx1 many), V.int (mx1 many)], _, .int am, rfl, rfl, SqL.of upd_same, hat, ?_⟩
    have hdu8 := s8 _ _ hdu7
    have hP8 := lot_same (fun b xs e => s8 _ _ e) hP7
    have hoa8 := s8 _ _ hoa7
    have hl8 := s8 _ _ hl7
    have hp8 : Paired (DeedV _) xs ds := L2.Paired.imp' (fun _ _ ⟨a, e, h⟩ => ⟨a, e, s8 _ _ h⟩) hp7
    have hTb8 := s8 _ _ hTb7
    refine ⟨_, rfl, _, rfl, _, _, rfl, rfl, (by show 3 ≤ sizeLine; decide), fun p1 hp1 => ?_⟩
    refine ⟨_, rfl, (by show 3 ≤ sizeLine; decide), fun p2 hp2 => ?_⟩
    refine ⟨(by show 2 ≤ sizeLine; decide), fun p3 hp3 => ?_⟩
    refine ⟨l, p3, xs, _, rfl, rfl, ?_, upd_same, Nat.le_of_lt (line_lt (by simp; omega)), fun lo hlo => ?_⟩
    · rw [upd_ne (ne_of_none (same_new hp2 _ _ (same_new hp1 _ _ hl8)) hp3)]
      exact same_new hp2 _ _ (same_new hp1 _ _ hl8)
    have K0 := keep_two (d1 := .use "nail" (many + 1)) (d2 := .use "nail" am) hl8 hp8 hoa8 hdu8 hP8 hTb8 hp1 hp2 hp3 hlo
    -- _law_left, while
    refine ⟨_, rfl, ?_⟩
    obtain ⟨W, hW⟩ : ∃ W : Nat → St → Hp → Prop, ∀ m σ H, W m σ H ↔ ∃ (v12 : Option V) (ps : List Int) (left : Int) (ws : List V),
        σ = [some (.ref a), some (.ref l), some (.int z), some (.ref la), some (.ref oa), v5, some (.ref du), v7, some (.int many), some (.int am), some (.ref lo), some (.int left), v12, none, none, none] ∧
        Keep7 H l oa du t.tb_all_lots lo xs ys ws x4 ds (ds ++ [.use "nail" (many + 1), .use "nail" am] ++ ps.map fun p => .back ((x4.map V.ref).length : Int) p) kF.F ∧ (∀ p ∈ ps, 1 ≤ p) ∧ left = am - ps.sum ∧ 0 ≤ left ∧ (many ≤ 0 → ps = []) ∧ ps.length ≤ 9 ∧
        (left = 0 ∨ (ps.length : Int) * (am / 9 + 1) ≤ am - left) ∧ m = left.toNat := ⟨_, fun _ _ _ => Iff.rfl⟩
    refine while_out W (Out7 t.tb_all_lots)
      ⟨_, (hW _ _ _).mpr ⟨none, [], am, _, rfl, by rw [List.map_nil, List.append_nil]; exact K0, fun p hp => by simp at hp, by simp, by omega, fun _ => rfl, by simp, .inr (by simp), rfl⟩⟩ (fun nx hnx m σ H2 hw => ?_) ?_
    · obtain ⟨v12, ps, left, ws, rfl, K2, hps, hleft, h0, hm0, h9, hq, rfl⟩ := (hW _ _ _).mp hw
      have hlw : ws.length = ds.length + 2 + ps.length := by rw [Paired.length K2.pw]; simp; omega
      refine ⟨_, rfl, _, _, rfl, rfl, _, rfl, ?_⟩
      refine ite2 (fun hm => ?_) (fun hm => ?_)
      · have hm : many > 0 := of_decide_eq_true hm
        refine ⟨_, rfl, _, _, rfl, rfl, _, rfl, ?_⟩
        refine ite2 (fun hl0 => ?_) (fun hl0 => ?_)
        · have hl0 : left > 0 := of_decide_eq_true hl0
          obtain ⟨c1, c2, c3⟩ := piece_ok z hl0 ham1
          have hn9 : ps.length < 9 := few_pieces rfl (hq.resolve_left (by omega)) hl0 ham1
          refine ⟨fun σ' H' => ∃ m', m' < left.toNat ∧ W m' σ' H', fun _ _ h => h, ?_⟩
          refine ⟨_, rfl, _, rfl, _, _, rfl, rfl, ⟨by decide, by decide⟩, _, _, rfl, rfl, (by show (0 : Int) < 7; decide), _, _, rfl, rfl, _, rfl, _, _, rfl, rfl, ⟨by decide, by decide⟩, _, _, rfl, rfl, _, _, rfl, _, _, rfl, ?_⟩
          refine ⟨_, rfl, tyL K2.hlo, _, rfl, _, _, rfl, .inl (SqL.of K2.hoa), _, rfl, (by show 3 ≤ sizeLine; decide), fun p hp => ?_⟩
          refine ⟨lo, ws, _, rfl, rfl, (by rw [upd_ne (ne_of_none K2.hlo hp)]; exact K2.hlo), line_lt (by omega), ?_⟩
          refine ⟨_, rfl, _, rfl, _, _, rfl, rfl, ?_⟩
          have K3 := K2.push (dd := .back ((x4.map V.ref).length : Int) (pieceOf left am z)) hp
          rw [List.append_assoc] at K3
          refine ⟨(left - pieceOf left am z).toNat, by omega, (hW _ _ _).mpr ⟨_, ps ++ [pieceOf left am z], left - pieceOf left am z, ws ++ [.ref p], rfl, by rw [List.map_append]; exact K3, fun p hp => ?_, by rw [sum_snoc]; omega, by omega, fun hz => by omega, by simp; omega, ?_, rfl⟩⟩
          · rcases List.mem_append.mp hp with hp | hp
            · exact hps p hp
            · rw [List.mem_singleton.mp hp]
              exact c1
          · rcases c3 with c3 | c3
            · exact .inl (by omega)
            · refine .inr ?_
              have hq2 := hq.resolve_left (by omega)
              rw [List.length_append]
              show (((ps.length + 1 : Nat)) : Int) * (am / 9 + 1) ≤ _
              rw [Int.natCast_add, Int.add_mul]
              have : ((1 : Nat) : Int) * (am / 9 + 1) = am / 9 + 1 := by simp
              rw [this]
              omega
        · have hl0 : ¬ left > 0 := fun z => hl0 (decide_eq_true z)
          exact hnx _ _ ⟨a, l, z, la, oa, v5, du, v7, many, am, lo, _, _, ps, ws, xs, ys, x4, ds, kF, rfl, K2, hps, h9, .inr ⟨hm, by omega⟩, hlx, hkf, by omega, hmany, hnn, hnU, hnd, hkn, hrl, ham1, ham2⟩
      · have hm : ¬ many > 0 := fun z => hm (decide_eq_true z)
        refine iteF ?_
        exact hnx _ _ ⟨a, l, z, la, oa, v5, du, v7, many, am, lo, _, _, ps, ws, xs, ys, x4, ds, kF, rfl, K2, hps, h9, .inl ⟨by omega, hm0 (by omega)⟩, hlx, hkf, by omega, hmany, hnn, hnU, hnd, hkn, hrl, ham1, ham2⟩
    exact fun σ H2 h => r2 σ H2 h
end
theorem all_mk {l : PySem.W.OpenLaw} {w : World} {K : PySem.W.Frag} {h : Heap} {mg : Str → Option Value} {fa : Addr} (X : K.In h) (G : h.Ns mainGlobals mg) (hfa : mg "law" = some (.ref fa))
    {a_Barn : Addr}
    {f_take_along : Addr} {od_take_along an_take_along : Option Addr} {sl_take_along : Array (Option Value)} {oc_take_along kV_take_along dc_take_along pm_take_along cd_take_along ct_take_along : Value}
    {f_oldest_first : Addr} {od_oldest_first an_oldest_first : Option Addr} {sl_oldest_first : Array (Option Value)} {oc_oldest_first kV_oldest_first dc_oldest_first pm_oldest_first cd_oldest_first ct_oldest_first : Value}
    {f_newest_first : Addr} {od_newest_first an_newest_first : Option Addr} {sl_newest_first : Array (Option Value)} {oc_newest_first kV_newest_first dc_newest_first pm_newest_first cd_newest_first ct_newest_first : Value}
    {f_put_back : Addr} {od_put_back an_put_back : Option Addr} {sl_put_back : Array (Option Value)} {oc_put_back kV_put_back dc_put_back pm_put_back cd_put_back ct_put_back : Value}
    {f_held : Addr} {od_held an_held : Option Addr} {sl_held : Array (Option Value)} {oc_held kV_held dc_held pm_held cd_held ct_held : Value}
    {f_do_deed : Addr} {od_do_deed an_do_deed : Option Addr} {sl_do_deed : Array (Option Value)} {oc_do_deed kV_do_deed dc_do_deed pm_do_deed cd_do_deed ct_do_deed : Value}
    {f_answers : Addr} {od_answers an_answers : Option Addr} {sl_answers : Array (Option Value)} {oc_answers kV_answers dc_answers pm_answers cd_answers ct_answers : Value}
    {f_lots_behind : Addr} {od_lots_behind an_lots_behind : Option Addr} {sl_lots_behind : Array (Option Value)} {oc_lots_behind kV_lots_behind dc_lots_behind pm_lots_behind cd_lots_behind ct_lots_behind : Value}
    {f_law_room : Addr} {od_law_room an_law_room : Option Addr} {sl_law_room : Array (Option Value)} {oc_law_room kV_law_room dc_law_room pm_law_room cd_law_room ct_law_room : Value}
    {f_law_whole : Addr} {od_law_whole an_law_whole : Option Addr} {sl_law_whole : Array (Option Value)} {oc_law_whole kV_law_whole dc_law_whole pm_law_whole cd_law_whole ct_law_whole : Value}
    {f_law_at : Addr} {od_law_at an_law_at : Option Addr} {sl_law_at : Array (Option Value)} {oc_law_at kV_law_at dc_law_at pm_law_at cd_law_at ct_law_at : Value}
    {f_law_handed_in : Addr} {od_law_handed_in an_law_handed_in : Option Addr} {sl_law_handed_in : Array (Option Value)} {oc_law_handed_in kV_law_handed_in dc_law_handed_in pm_law_handed_in cd_law_handed_in ct_law_handed_in : Value}
    {f_law_sized : Addr} {od_law_sized an_law_sized : Option Addr} {sl_law_sized : Array (Option Value)} {oc_law_sized kV_law_sized dc_law_sized pm_law_sized cd_law_sized ct_law_sized : Value}
    {f_law_some : Addr} {od_law_some an_law_some : Option Addr} {sl_law_some : Array (Option Value)} {oc_law_some kV_law_some dc_law_some pm_law_some cd_law_some ct_law_some : Value}
    {f_law_twin : Addr} {od_law_twin an_law_twin : Option Addr} {sl_law_twin : Array (Option Value)} {oc_law_twin kV_law_twin dc_law_twin pm_law_twin cd_law_twin ct_law_twin : Value}
    {f_law_deeds : Addr} {od_law_deeds an_law_deeds : Option Addr} {sl_law_deeds : Array (Option Value)} {oc_law_deeds kV_law_deeds dc_law_deeds pm_law_deeds cd_law_deeds ct_law_deeds : Value}
    {f_law_same : Addr} {od_law_same an_law_same : Option Addr} {sl_law_same : Array (Option Value)} {oc_law_same kV_law_same dc_law_same pm_law_same cd_law_same ct_law_same : Value}
    {f_law_there : Addr} {od_law_there an_law_there : Option Addr} {sl_law_there : Array (Option Value)} {oc_law_there kV_law_there dc_law_there pm_law_there cd_law_there ct_law_there : Value}
    {f_law_off : Addr} {od_law_off an_law_off : Option Addr} {sl_law_off : Array (Option Value)} {oc_law_off kV_law_off dc_law_off pm_law_off cd_law_off ct_law_off : Value}
    {f_law_on : Addr} {od_law_on an_law_on : Option Addr} {sl_law_on : Array (Option Value)} {oc_law_on kV_law_on dc_law_on pm_law_on cd_law_on ct_law_on : Value}
    {f_law_booked : Addr} {od_law_booked an_law_booked : Option Addr} {sl_law_booked : Array (Option Value)} {oc_law_booked kV_law_booked dc_law_booked pm_law_booked cd_law_booked ct_law_booked : Value}
    {f_law : Addr} {od_law an_law : Option Addr} {sl_law : Array (Option Value)} {oc_law kV_law dc_law pm_law cd_law ct_law : Value}
    {f_init : Addr} {od_init an_init : Option Addr} {sl_init : Array (Option Value)} {oc_init kV_init dc_init pm_init cd_init ct_init : Value}
    {f_lots_of : Addr} {od_lots_of an_lots_of : Option Addr} {sl_lots_of : Array (Option Value)} {oc_lots_of kV_lots_of dc_lots_of pm_lots_of cd_lots_of ct_lots_of : Value}
    {f_come : Addr} {od_come an_come : Option Addr} {sl_come : Array (Option Value)} {oc_come kV_come dc_come pm_come cd_come ct_come : Value}
    {f_use : Addr} {od_use an_use : Option Addr} {sl_use : Array (Option Value)} {oc_use kV_use dc_use pm_use cd_use ct_use : Value}
    {f_give_back : Addr} {od_give_back an_give_back : Option Addr} {sl_give_back : Array (Option Value)} {oc_give_back kV_give_back dc_give_back pm_give_back cd_give_back ct_give_back : Value}
    {f_counted : Addr} {od_counted an_counted : Option Addr} {sl_counted : Array (Option Value)} {oc_counted kV_counted dc_counted pm_counted cd_counted ct_counted : Value}
    {f_lose : Addr} {od_lose an_lose : Option Addr} {sl_lose : Array (Option Value)} {oc_lose kV_lose dc_lose pm_lose cd_lose ct_lose : Value}
    {f_gain : Addr} {od_gain an_gain : Option Addr} {sl_gain : Array (Option Value)} {oc_gain kV_gain dc_gain pm_gain cd_gain ct_gain : Value}
    {f_all_lots : Addr} {od_all_lots an_all_lots : Option Addr} {sl_all_lots : Array (Option Value)} {oc_all_lots kV_all_lots dc_all_lots pm_all_lots cd_all_lots ct_all_lots : Value}
    {c_all_lots tb_all_lots : Addr} {oq : Value} {dq : Option Addr} {vq : Array Value} {lq : Array (Option Value)} {ts : List Addr} (Yt : ∀ P ∈ ts, h.get? P = some (PySem.W.tabObj #[]))
    (aC_Barn : PySem.W.nsIn K mainGlobals "Barn" = some (some (.ref a_Barn)))
    (a0 : PySem.W.nsIn K mainGlobals "take_along" = some (some (.ref f_take_along)))
    (l0 : K.lookup f_take_along = some ⟨oc_take_along, od_take_along, .func (PySem.W.fnOf "take_along" "take_along" (defArgs st_take_along) (defBody st_take_along) (defScope st_take_along) .none kV_take_along dc_take_along pm_take_along an_take_along cd_take_along ct_take_along), sl_take_along⟩)
    (c0 : PySem.W.codeIn K cd_take_along "take_along" = true)
    (k0 : PySem.W.keepIn K (.ref f_take_along) = true)
    (a1 : PySem.W.nsIn K mainGlobals "oldest_first" = some (some (.ref f_oldest_first)))
    (l1 : K.lookup f_oldest_first = some ⟨oc_oldest_first, od_oldest_first, .func (PySem.W.fnOf "oldest_first" "oldest_first" (defArgs st_oldest_first) (defBody st_oldest_first) (defScope st_oldest_first) .none kV_oldest_first dc_oldest_first pm_oldest_first an_oldest_first cd_oldest_first ct_oldest_first), sl_oldest_first⟩)
    (c1 : PySem.W.codeIn K cd_oldest_first "oldest_first" = true)
    (k1 : PySem.W.keepIn K (.ref f_oldest_first) = true)
    (a2 : PySem.W.nsIn K mainGlobals "newest_first" = some (some (.ref f_newest_first)))
    (l2 : K.lookup f_newest_first = some ⟨oc_newest_first, od_newest_first, .func (PySem.W.fnOf "newest_first" "newest_first" (defArgs st_newest_first) (defBody st_newest_first) (defScope st_newest_first) .none kV_newest_first dc_newest_first pm_newest_first an_newest_first cd_newest_first ct_newest_first), sl_newest_first⟩)
    (c2 : PySem.W.codeIn K cd_newest_first "newest_first" = true)
    (k2 : PySem.W.keepIn K (.ref f_newest_first) = true)
    (a3 : PySem.W.nsIn K mainGlobals "put_back" = some (some (.ref f_put_back)))
    (l3 : K.lookup f_put_back = some ⟨oc_put_back, od_put_back, .func (PySem.W.fnOf "put_back" "put_back" (defArgs st_put_back) (defBody st_put_back) (defScope st_put_back) .none kV_put_back dc_put_back pm_put_back an_put_back cd_put_back ct_put_back), sl_put_back⟩)
    (c3 : PySem.W.codeIn K cd_put_back "put_back" = true)
    (k3 : PySem.W.keepIn K (.ref f_put_back) = true)
    (a4 : PySem.W.nsIn K mainGlobals "held" = some (some (.ref f_held)))
    (l4 : K.lookup f_held = some ⟨oc_held, od_held, .func (PySem.W.fnOf "held" "held" (defArgs st_held) (defBody st_held) (defScope st_held) .none kV_held dc_held pm_held an_held cd_held ct_held), sl_held⟩)
    (c4 : PySem.W.codeIn K cd_held "held" = true)
    (k4 : PySem.W.keepIn K (.ref f_held) = true)
    (a5 : PySem.W.nsIn K mainGlobals "do_deed" = some (some (.ref f_do_deed)))
    (l5 : K.lookup f_do_deed = some ⟨oc_do_deed, od_do_deed, .func (PySem.W.fnOf "do_deed" "do_deed" (defArgs st_do_deed) (defBody st_do_deed) (defScope st_do_deed) .none kV_do_deed dc_do_deed pm_do_deed an_do_deed cd_do_deed ct_do_deed), sl_do_deed⟩)
    (c5 : PySem.W.codeIn K cd_do_deed "do_deed" = true)
    (k5 : PySem.W.keepIn K (.ref f_do_deed) = true)
    (a6 : PySem.W.nsIn K mainGlobals "answers" = some (some (.ref f_answers)))
    (l6 : K.lookup f_answers = some ⟨oc_answers, od_answers, .func (PySem.W.fnOf "answers" "answers" (defArgs st_answers) (defBody st_answers) (defScope st_answers) .none kV_answers dc_answers pm_answers an_answers cd_answers ct_answers), sl_answers⟩)
    (c6 : PySem.W.codeIn K cd_answers "answers" = true)
    (k6 : PySem.W.keepIn K (.ref f_answers) = true)
    (a7 : PySem.W.nsIn K mainGlobals "lots_behind" = some (some (.ref f_lots_behind)))
    (l7 : K.lookup f_lots_behind = some ⟨oc_lots_behind, od_lots_behind, .func (PySem.W.fnOf "lots_behind" "lots_behind" (defArgs st_lots_behind) (defBody st_lots_behind) (defScope st_lots_behind) .none kV_lots_behind dc_lots_behind pm_lots_behind an_lots_behind cd_lots_behind ct_lots_behind), sl_lots_behind⟩)
    (c7 : PySem.W.codeIn K cd_lots_behind "lots_behind" = true)
    (k7 : PySem.W.keepIn K (.ref f_lots_behind) = true)
    (a8 : PySem.W.nsIn K mainGlobals "_law_room" = some (some (.ref f_law_room)))
    (l8 : K.lookup f_law_room = some ⟨oc_law_room, od_law_room, .func (PySem.W.fnOf "_law_room" "_law_room" (defArgs st_law_room) (defBody st_law_room) (defScope st_law_room) .none kV_law_room dc_law_room pm_law_room an_law_room cd_law_room ct_law_room), sl_law_room⟩)
    (c8 : PySem.W.codeIn K cd_law_room "_law_room" = true)
    (k8 : PySem.W.keepIn K (.ref f_law_room) = true)
    (a9 : PySem.W.nsIn K mainGlobals "_law_whole" = some (some (.ref f_law_whole)))
    (l9 : K.lookup f_law_whole = some ⟨oc_law_whole, od_law_whole, .func (PySem.W.fnOf "_law_whole" "_law_whole" (defArgs st_law_whole) (defBody st_law_whole) (defScope st_law_whole) .none kV_law_whole dc_law_whole pm_law_whole an_law_whole cd_law_whole ct_law_whole), sl_law_whole⟩)
    (c9 : PySem.W.codeIn K cd_law_whole "_law_whole" = true)
    (k9 : PySem.W.keepIn K (.ref f_law_whole) = true)
    (a10 : PySem.W.nsIn K mainGlobals "_law_at" = some (some (.ref f_law_at)))
    (l10 : K.lookup f_law_at = some ⟨oc_law_at, od_law_at, .func (PySem.W.fnOf "_law_at" "_law_at" (defArgs st_law_at) (defBody st_law_at) (defScope st_law_at) .none kV_law_at dc_law_at pm_law_at an_law_at cd_law_at ct_law_at), sl_law_at⟩)
    (c10 : PySem.W.codeIn K cd_law_at "_law_at" = true)
    (k10 : PySem.W.keepIn K (.ref f_law_at) = true)
    (a11 : PySem.W.nsIn K mainGlobals "_law_handed_in" = some (some (.ref f_law_handed_in)))
    (l11 : K.lookup f_law_handed_in = some ⟨oc_law_handed_in, od_law_handed_in, .func (PySem.W.fnOf "_law_handed_in" "_law_handed_in" (defArgs st_law_handed_in) (defBody st_law_handed_in) (defScope st_law_handed_in) .none kV_law_handed_in dc_law_handed_in pm_law_handed_in an_law_handed_in cd_law_handed_in ct_law_handed_in), sl_law_handed_in⟩)
    (c11 : PySem.W.codeIn K cd_law_handed_in "_law_handed_in" = true)
    (k11 : PySem.W.keepIn K (.ref f_law_handed_in) = true)
    (a12 : PySem.W.nsIn K mainGlobals "_law_sized" = some (some (.ref f_law_sized)))
    (l12 : K.lookup f_law_sized = some ⟨oc_law_sized, od_law_sized, .func (PySem.W.fnOf "_law_sized" "_law_sized" (defArgs st_law_sized) (defBody st_law_sized) (defScope st_law_sized) .none kV_law_sized dc_law_sized pm_law_sized an_law_sized cd_law_sized ct_law_sized), sl_law_sized⟩)
    (c12 : PySem.W.codeIn K cd_law_sized "_law_sized" = true)
    (k12 : PySem.W.keepIn K (.ref f_law_sized) = true)
    (a13 : PySem.W.nsIn K mainGlobals "_law_some" = some (some (.ref f_law_some)))
    (l13 : K.lookup f_law_some = some ⟨oc_law_some, od_law_some, .func (PySem.W.fnOf "_law_some" "_law_some" (defArgs st_law_some) (defBody st_law_some) (defScope st_law_some) .none kV_law_some dc_law_some pm_law_some an_law_some cd_law_some ct_law_some), sl_law_some⟩)
    (c13 : PySem.W.codeIn K cd_law_some "_law_some" = true)
    (k13 : PySem.W.keepIn K (.ref f_law_some) = true)
    (a14 : PySem.W.nsIn K mainGlobals "_law_twin" = some (some (.ref f_law_twin)))
    (l14 : K.lookup f_law_twin = some ⟨oc_law_twin, od_law_twin, .func (PySem.W.fnOf "_law_twin" "_law_twin" (defArgs st_law_twin) (defBody st_law_twin) (defScope st_law_twin) .none kV_law_twin dc_law_twin pm_law_twin an_law_twin cd_law_twin ct_law_twin), sl_law_twin⟩)
    (c14 : PySem.W.codeIn K cd_law_twin "_law_twin" = true)
    (k14 : PySem.W.keepIn K (.ref f_law_twin) = true)
    (a15 : PySem.W.nsIn K mainGlobals "_law_deeds" = some (some (.ref f_law_deeds)))
    (l15 : K.lookup f_law_deeds = some ⟨oc_law_deeds, od_law_deeds, .func (PySem.W.fnOf "_law_deeds" "_law_deeds" (defArgs st_law_deeds) (defBody st_law_deeds) (defScope st_law_deeds) .none kV_law_deeds dc_law_deeds pm_law_deeds an_law_deeds cd_law_deeds ct_law_deeds), sl_law_deeds⟩)
    (c15 : PySem.W.codeIn K cd_law_deeds "_law_deeds" = true)
    (k15 : PySem.W.keepIn K (.ref f_law_deeds) = true)
    (a16 : PySem.W.nsIn K mainGlobals "_law_same" = some (some (.ref f_law_same)))
    (l16 : K.lookup f_law_same = some ⟨oc_law_same, od_law_same, .func (PySem.W.fnOf "_law_same" "_law_same" (defArgs st_law_same) (defBody st_law_same) (defScope st_law_same) .none kV_law_same dc_law_same pm_law_same an_law_same cd_law_same ct_law_same), sl_law_same⟩)
    (c16 : PySem.W.codeIn K cd_law_same "_law_same" = true)
    (k16 : PySem.W.keepIn K (.ref f_law_same) = true)
    (a17 : PySem.W.nsIn K mainGlobals "_law_there" = some (some (.ref f_law_there)))
    (l17 : K.lookup f_law_there = some ⟨oc_law_there, od_law_there, .func (PySem.W.fnOf "_law_there" "_law_there" (defArgs st_law_there) (defBody st_law_there) (defScope st_law_there) .none kV_law_there dc_law_there pm_law_there an_law_there cd_law_there ct_law_there), sl_law_there⟩)
    (c17 : PySem.W.codeIn K cd_law_there "_law_there" = true)
    (k17 : PySem.W.keepIn K (.ref f_law_there) = true)
    (a18 : PySem.W.nsIn K mainGlobals "_law_off" = some (some (.ref f_law_off)))
    (l18 : K.lookup f_law_off = some ⟨oc_law_off, od_law_off, .func (PySem.W.fnOf "_law_off" "_law_off" (defArgs st_law_off) (defBody st_law_off) (defScope st_law_off) .none kV_law_off dc_law_off pm_law_off an_law_off cd_law_off ct_law_off), sl_law_off⟩)
    (c18 : PySem.W.codeIn K cd_law_off "_law_off" = true)
    (k18 : PySem.W.keepIn K (.ref f_law_off) = true)
    (a19 : PySem.W.nsIn K mainGlobals "_law_on" = some (some (.ref f_law_on)))
    (l19 : K.lookup f_law_on = some ⟨oc_law_on, od_law_on, .func (PySem.W.fnOf "_law_on" "_law_on" (defArgs st_law_on) (defBody st_law_on) (defScope st_law_on) .none kV_law_on dc_law_on pm_law_on an_law_on cd_law_on ct_law_on), sl_law_on⟩)
    (c19 : PySem.W.codeIn K cd_law_on "_law_on" = true)
    (k19 : PySem.W.keepIn K (.ref f_law_on) = true)
    (a20 : PySem.W.nsIn K mainGlobals "_law_booked" = some (some (.ref f_law_booked)))
    (l20 : K.lookup f_law_booked = some ⟨oc_law_booked, od_law_booked, .func (PySem.W.fnOf "_law_booked" "_law_booked" (defArgs st_law_booked) (defBody st_law_booked) (defScope st_law_booked) .none kV_law_booked dc_law_booked pm_law_booked an_law_booked cd_law_booked ct_law_booked), sl_law_booked⟩)
    (c20 : PySem.W.codeIn K cd_law_booked "_law_booked" = true)
    (k20 : PySem.W.keepIn K (.ref f_law_booked) = true)
    (a21 : PySem.W.nsIn K mainGlobals "law" = some (some (.ref f_law)))
    (l21 : K.lookup f_law = some ⟨oc_law, od_law, .func (PySem.W.fnOf "law" "law" (defArgs st_law) (defBody st_law) (defScope st_law) .none kV_law dc_law pm_law an_law cd_law ct_law), sl_law⟩)
    (c21 : PySem.W.codeIn K cd_law "law" = true)
    (k21 : PySem.W.keepIn K (.ref f_law) = true)
    (a22 : PySem.W.findIn K (.ref a_Barn) "__init__" = some (some (.ref f_init)))
    (i22 : PySem.W.isFn K (.ref f_init) = true)
    (l22 : K.lookup f_init = some ⟨oc_init, od_init, .func (PySem.W.fnOf "__init__" "Barn.__init__" (defArgs st_init) (defBody st_init) (defScope st_init) .none kV_init dc_init pm_init an_init cd_init ct_init), sl_init⟩)
    (c22 : PySem.W.codeIn K cd_init "Barn.__init__" = true)
    (k22 : PySem.W.keepIn K (.ref f_init) = true)
    (a23 : PySem.W.findIn K (.ref a_Barn) "lots_of" = some (some (.ref f_lots_of)))
    (i23 : PySem.W.isFn K (.ref f_lots_of) = true)
    (l23 : K.lookup f_lots_of = some ⟨oc_lots_of, od_lots_of, .func (PySem.W.fnOf "lots_of" "Barn.lots_of" (defArgs st_lots_of) (defBody st_lots_of) (defScope st_lots_of) .none kV_lots_of dc_lots_of pm_lots_of an_lots_of cd_lots_of ct_lots_of), sl_lots_of⟩)
    (c23 : PySem.W.codeIn K cd_lots_of "Barn.lots_of" = true)
    (k23 : PySem.W.keepIn K (.ref f_lots_of) = true)
    (a24 : PySem.W.findIn K (.ref a_Barn) "come" = some (some (.ref f_come)))
    (i24 : PySem.W.isFn K (.ref f_come) = true)
    (l24 : K.lookup f_come = some ⟨oc_come, od_come, .func (PySem.W.fnOf "come" "Barn.come" (defArgs st_come) (defBody st_come) (defScope st_come) .none kV_come dc_come pm_come an_come cd_come ct_come), sl_come⟩)
    (c24 : PySem.W.codeIn K cd_come "Barn.come" = true)
    (k24 : PySem.W.keepIn K (.ref f_come) = true)
    (a25 : PySem.W.findIn K (.ref a_Barn) "use" = some (some (.ref f_use)))
    (i25 : PySem.W.isFn K (.ref f_use) = true)
    (l25 : K.lookup f_use = some ⟨oc_use, od_use, .func (PySem.W.fnOf "use" "Barn.use" (defArgs st_use) (defBody st_use) (defScope st_use) .none kV_use dc_use pm_use an_use cd_use ct_use), sl_use⟩)
    (c25 : PySem.W.codeIn K cd_use "Barn.use" = true)
    (k25 : PySem.W.keepIn K (.ref f_use) = true)
    (a26 : PySem.W.findIn K (.ref a_Barn) "give_back" = some (some (.ref f_give_back)))
    (i26 : PySem.W.isFn K (.ref f_give_back) = true)
    (l26 : K.lookup f_give_back = some ⟨oc_give_back, od_give_back, .func (PySem.W.fnOf "give_back" "Barn.give_back" (defArgs st_give_back) (defBody st_give_back) (defScope st_give_back) .none kV_give_back dc_give_back pm_give_back an_give_back cd_give_back ct_give_back), sl_give_back⟩)
    (c26 : PySem.W.codeIn K cd_give_back "Barn.give_back" = true)
    (k26 : PySem.W.keepIn K (.ref f_give_back) = true)
    (a27 : PySem.W.findIn K (.ref a_Barn) "counted" = some (some (.ref f_counted)))
    (i27 : PySem.W.isFn K (.ref f_counted) = true)
    (l27 : K.lookup f_counted = some ⟨oc_counted, od_counted, .func (PySem.W.fnOf "counted" "Barn.counted" (defArgs st_counted) (defBody st_counted) (defScope st_counted) .none kV_counted dc_counted pm_counted an_counted cd_counted ct_counted), sl_counted⟩)
    (c27 : PySem.W.codeIn K cd_counted "Barn.counted" = true)
    (k27 : PySem.W.keepIn K (.ref f_counted) = true)
    (a28 : PySem.W.findIn K (.ref a_Barn) "lose" = some (some (.ref f_lose)))
    (i28 : PySem.W.isFn K (.ref f_lose) = true)
    (l28 : K.lookup f_lose = some ⟨oc_lose, od_lose, .func (PySem.W.fnOf "lose" "Barn.lose" (defArgs st_lose) (defBody st_lose) (defScope st_lose) .none kV_lose dc_lose pm_lose an_lose cd_lose ct_lose), sl_lose⟩)
    (c28 : PySem.W.codeIn K cd_lose "Barn.lose" = true)
    (k28 : PySem.W.keepIn K (.ref f_lose) = true)
    (a29 : PySem.W.findIn K (.ref a_Barn) "gain" = some (some (.ref f_gain)))
    (i29 : PySem.W.isFn K (.ref f_gain) = true)
    (l29 : K.lookup f_gain = some ⟨oc_gain, od_gain, .func (PySem.W.fnOf "gain" "Barn.gain" (defArgs st_gain) (defBody st_gain) (defScope st_gain) .none kV_gain dc_gain pm_gain an_gain cd_gain ct_gain), sl_gain⟩)
    (c29 : PySem.W.codeIn K cd_gain "Barn.gain" = true)
    (k29 : PySem.W.keepIn K (.ref f_gain) = true)
    (a30 : PySem.W.findIn K (.ref a_Barn) "all_lots" = some (some (.ref f_all_lots)))
    (i30 : PySem.W.isFn K (.ref f_all_lots) = true)
    (l30 : K.lookup f_all_lots = some ⟨oc_all_lots, od_all_lots, .func (PySem.W.fnOf "all_lots" "Barn.all_lots" (defArgs st_all_lots) (defBody st_all_lots) (defScope st_all_lots) .none kV_all_lots dc_all_lots pm_all_lots an_all_lots cd_all_lots ct_all_lots), sl_all_lots⟩)
    (c30 : PySem.W.codeIn K cd_all_lots "Barn.all_lots" = true)
    (k30 : PySem.W.keepIn K (.ref f_all_lots) = true)
    (pg : PySem.W.plainGet K a_Barn Str.empty = true)
    (hd : PySem.W.hasDictIn K a_Barn = true)
    (po : PySem.W.plainOver K a_Barn = true)
    (sa : PySem.W.findIn K (.ref a_Barn) "__setattr__" = some (some (.builtin "object.__setattr__")))
    (mk : PySem.W.makesIn K a_Barn = true)
    (kc : PySem.W.keepIn K (.ref a_Barn) = true)
    (no_lots_by_ware : PySem.W.findIn K (.ref a_Barn) "lots_by_ware" = some none)
    (no_lots_come : PySem.W.findIn K (.ref a_Barn) "lots_come" = some none)
    (no_uses : PySem.W.findIn K (.ref a_Barn) "uses" = some none)
    (z_len : PySem.W.nsIn K mainGlobals "len" = some none)
    (z_min : PySem.W.nsIn K mainGlobals "min" = some none)
    (z_max : PySem.W.nsIn K mainGlobals "max" = some none)
    (z_sum : PySem.W.nsIn K mainGlobals "sum" = some none)
    (z_isinstance : PySem.W.nsIn K mainGlobals "isinstance" = some none)
    (z_sorted : PySem.W.nsIn K mainGlobals "sorted" = some none)
    (z_int : PySem.W.nsIn K mainGlobals "int" = some none)
    (z_bool : PySem.W.nsIn K mainGlobals "bool" = some none)
    (z_list : PySem.W.nsIn K mainGlobals "list" = some none)
    (z_tuple : PySem.W.nsIn K mainGlobals "tuple" = some none)
    (z_str : PySem.W.nsIn K mainGlobals "str" = some none)
    (z_range : PySem.W.nsIn K mainGlobals "range" = some none)
    (z_reversed : PySem.W.nsIn K mainGlobals "reversed" = some none)
    (qc : cd_all_lots = .ref c_all_lots)
    (ql : K.lookup c_all_lots = some ⟨oq, dq, .fields vq, lq⟩)
    (qv : (vq[11]? : Option Value) = some (.ref tb_all_lots))
    (qh : PySem.W.codeHdIn K c_all_lots tb_all_lots = true)
    (qn : K.lookup tb_all_lots = none)
    (qm : tb_all_lots ∈ ts)
    : ∃ (fd : FuncData) (c T : Addr), h.get? T = some (PySem.W.tabObj #[]) ∧ PySem.W.codeHdIn K c T = true ∧ K.lookup T = none ∧ (∀ (s : Shared) (v : Value), BindsTo s fd ⟨[v], []⟩ [("_law_script", v)]) ∧ ∀ base : Heap, K.In base → base.Ns mainGlobals mg → BmIn mg base → FnOk l.prog w K mg base CX0 7 fa fd ["_law_script"] (spLawT K T) := by
  have e := hfa.symm.trans (PySem.W.mg_of X G a21)
  cases e
  have F0 := fun_mk (st := st_take_along) l0 c0 k0
  have b0 := F0.binds (ps := ["lots", "amount"]) fun _ _ _ _ _ _ us hl => match us, hl with | [_, _], _ => rfl
  have F1 := fun_mk (st := st_oldest_first) l1 c1 k1
  have b1 := F1.binds (ps := ["lots", "amount"]) fun _ _ _ _ _ _ us hl => match us, hl with | [_, _], _ => rfl
  have F2 := fun_mk (st := st_newest_first) l2 c2 k2
  have b2 := F2.binds (ps := ["lots", "amount"]) fun _ _ _ _ _ _ us hl => match us, hl with | [_, _], _ => rfl
  have F3 := fun_mk (st := st_put_back) l3 c3 k3
  have b3 := F3.binds (ps := ["lots", "parts"]) fun _ _ _ _ _ _ us hl => match us, hl with | [_, _], _ => rfl
  have F4 := fun_mk (st := st_held) l4 c4 k4
  have b4 := F4.binds (ps := ["lots"]) fun _ _ _ _ _ _ us hl => match us, hl with | [_], _ => rfl
  have F5 := fun_mk (st := st_do_deed) l5 c5 k5
  have b5 := F5.binds (ps := ["barn", "deed"]) fun _ _ _ _ _ _ us hl => match us, hl with | [_, _], _ => rfl
  have F6 := fun_mk (st := st_answers) l6 c6 k6
  have b6 := F6.binds (ps := ["deeds"]) fun _ _ _ _ _ _ us hl => match us, hl with | [_], _ => rfl
  have F7 := fun_mk (st := st_lots_behind) l7 c7 k7
  have b7 := F7.binds (ps := ["deeds"]) fun _ _ _ _ _ _ us hl => match us, hl with | [_], _ => rfl
  have F8 := fun_mk (st := st_law_room) l8 c8 k8
  have b8 := F8.binds (ps := ["_law_script", "_law_most", "_law_bound"]) fun _ _ _ _ _ _ us hl => match us, hl with | [_, _, _], _ => rfl
  have F9 := fun_mk (st := st_law_whole) l9 c9 k9
  have b9 := F9.binds (ps := ["_law_found"]) fun _ _ _ _ _ _ us hl => match us, hl with | [_], _ => rfl
  have F10 := fun_mk (st := st_law_at) l10 c10 k10
  have b10 := F10.binds (ps := ["_law_script", "_law_k"]) fun _ _ _ _ _ _ us hl => match us, hl with | [_, _], _ => rfl
  have F11 := fun_mk (st := st_law_handed_in) l11 c11 k11
  have b11 := F11.binds (ps := ["_law_uses", "_law_stock", "_law_use", "_law_amount"]) fun _ _ _ _ _ _ us hl => match us, hl with | [_, _, _, _], _ => rfl
  have F12 := fun_mk (st := st_law_sized) l12 c12 k12
  have b12 := F12.binds (ps := ["_law_seed", "_law_other", "_law_most"]) fun _ _ _ _ _ _ us hl => match us, hl with | [_, _, _], _ => rfl
  have F13 := fun_mk (st := st_law_some) l13 c13 k13
  have b13 := F13.binds (ps := ["_law_first", "_law_most", "_law_seed", "_law_turn"]) fun _ _ _ _ _ _ us hl => match us, hl with | [_, _, _, _], _ => rfl
  have F14 := fun_mk (st := st_law_twin) l14 c14 k14
  have b14 := F14.binds (ps := ["_law_cells", "_law_sign"]) fun _ _ _ _ _ _ us hl => match us, hl with | [_, _], _ => rfl
  have F15 := fun_mk (st := st_law_deeds) l15 c15 k15
  have b15 := F15.binds (ps := ["_law_cells"]) fun _ _ _ _ _ _ us hl => match us, hl with | [_], _ => rfl
  have F16 := fun_mk (st := st_law_same) l16 c16 k16
  have b16 := F16.binds (ps := ["_law_handed", "_law_asked"]) fun _ _ _ _ _ _ us hl => match us, hl with | [_, _], _ => rfl
  have F17 := fun_mk (st := st_law_there) l17 c17 k17
  have b17 := F17.binds (ps := ["_law_lots", "_law_ware"]) fun _ _ _ _ _ _ us hl => match us, hl with | [_, _], _ => rfl
  have F18 := fun_mk (st := st_law_off) l18 c18 k18
  have b18 := F18.binds (ps := ["_law_lots", "_law_spots", "_law_amount"]) fun _ _ _ _ _ _ us hl => match us, hl with | [_, _, _], _ => rfl
  have F19 := fun_mk (st := st_law_on) l19 c19 k19
  have b19 := F19.binds (ps := ["_law_lots", "_law_parts", "_law_amount"]) fun _ _ _ _ _ _ us hl => match us, hl with | [_, _, _], _ => rfl
  have F20 := fun_mk (st := st_law_booked) l20 c20 k20
  have b20 := F20.binds (ps := ["_law_lots", "_law_outs", "_law_deed"]) fun _ _ _ _ _ _ us hl => match us, hl with | [_, _, _], _ => rfl
  have F21 := fun_mk (st := st_law) l21 c21 k21
  have b21 := F21.binds (ps := ["_law_script"]) fun _ _ _ _ _ _ us hl => match us, hl with | [_], _ => rfl
  have F22 := fun_mk (st := st_init) l22 c22 k22
  have b22 := F22.binds (ps := ["self"]) fun _ _ _ _ _ _ us hl => match us, hl with | [_], _ => rfl
  have F23 := fun_mk (st := st_lots_of) l23 c23 k23
  have b23 := F23.binds (ps := ["self", "ware"]) fun _ _ _ _ _ _ us hl => match us, hl with | [_, _], _ => rfl
  have F24 := fun_mk (st := st_come) l24 c24 k24
  have b24 := F24.binds (ps := ["self", "ware", "amount", "price"]) fun _ _ _ _ _ _ us hl => match us, hl with | [_, _, _, _], _ => rfl
  have F25 := fun_mk (st := st_use) l25 c25 k25
  have b25 := F25.binds (ps := ["self", "ware", "amount"]) fun _ _ _ _ _ _ us hl => match us, hl with | [_, _, _], _ => rfl
  have F26 := fun_mk (st := st_give_back) l26 c26 k26
  have b26 := F26.binds (ps := ["self", "use_number", "amount"]) fun _ _ _ _ _ _ us hl => match us, hl with | [_, _, _], _ => rfl
  have F27 := fun_mk (st := st_counted) l27 c27 k27
  have b27 := F27.binds (ps := ["self", "ware", "found"]) fun _ _ _ _ _ _ us hl => match us, hl with | [_, _, _], _ => rfl
  have F28 := fun_mk (st := st_lose) l28 c28 k28
  have b28 := F28.binds (ps := ["self", "ware", "missing"]) fun _ _ _ _ _ _ us hl => match us, hl with | [_, _, _], _ => rfl
  have F29 := fun_mk (st := st_gain) l29 c29 k29
  have b29 := F29.binds (ps := ["self", "ware", "over"]) fun _ _ _ _ _ _ us hl => match us, hl with | [_, _, _], _ => rfl
  have F30 := fun_mk (st := st_all_lots) l30 c30 k30
  have b30 := F30.binds (ps := ["self"]) fun _ _ _ _ _ _ us hl => match us, hl with | [_], _ => rfl
  have T : Txt K mg ⟨a_Barn, f_take_along, _, f_oldest_first, _, f_newest_first, _, f_put_back, _, f_held, _, f_do_deed, _, f_answers, _, f_lots_behind, _, f_law_room, _, f_law_whole, _, f_law_at, _, f_law_handed_in, _, f_law_sized, _, f_law_some, _, f_law_twin, _, f_law_deeds, _, f_law_same, _, f_law_there, _, f_law_off, _, f_law_on, _, f_law_booked, _, fa, _, f_init, _, f_lots_of, _, f_come, _, f_use, _, f_give_back, _, f_counted, _, f_lose, _, f_gain, _, f_all_lots, _, c_all_lots, tb_all_lots⟩ :=
    ⟨PySem.W.mg_of X G a0, PySem.W.mg_of X G a1, PySem.W.mg_of X G a2, PySem.W.mg_of X G a3, PySem.W.mg_of X G a4, PySem.W.mg_of X G a5, PySem.W.mg_of X G a6, PySem.W.mg_of X G a7, PySem.W.mg_of X G a8, PySem.W.mg_of X G a9, PySem.W.mg_of X G a10, PySem.W.mg_of X G a11, PySem.W.mg_of X G a12, PySem.W.mg_of X G a13, PySem.W.mg_of X G a14, PySem.W.mg_of X G a15, PySem.W.mg_of X G a16, PySem.W.mg_of X G a17, PySem.W.mg_of X G a18, PySem.W.mg_of X G a19, PySem.W.mg_of X G a20, PySem.W.mg_of X G a21, F0, b0, F1, b1, F2, b2, F3, b3, F4, b4, F5, b5, F6, b6, F7, b7, F8, b8, F9, b9, F10, b10, F11, b11, F12, b12, F13, b13, F14, b14, F15, b15, F16, b16, F17, b17, F18, b18, F19, b19, F20, b20, F21, b21, F22, b22, F23, b23, F24, b24, F25, b25, F26, b26, F27, b27, F28, b28, F29, b29, F30, b30, PySem.W.mg_of X G aC_Barn, ⟨pg, hd, po, sa⟩, ⟨mk, a22, i22, kc⟩, no_lots_by_ware, no_lots_come, no_uses, ⟨a23, i23, k23⟩, ⟨a24, i24, k24⟩, ⟨a25, i25, k25⟩, ⟨a26, i26, k26⟩, ⟨a27, i27, k27⟩, ⟨a28, i28, k28⟩, ⟨a29, i29, k29⟩, ⟨a30, i30, k30⟩, PySem.W.mg_none_of X G z_len, PySem.W.mg_none_of X G z_min, PySem.W.mg_none_of X G z_max, PySem.W.mg_none_of X G z_sum, PySem.W.mg_none_of X G z_isinstance, PySem.W.mg_none_of X G z_sorted, PySem.W.mg_none_of X G z_int, PySem.W.mg_none_of X G z_bool, PySem.W.mg_none_of X G z_list, PySem.W.mg_none_of X G z_tuple, PySem.W.mg_none_of X G z_str, PySem.W.mg_none_of X G z_range, PySem.W.mg_none_of X G z_reversed, qc, qh⟩
  exact ⟨PySem.W.fnOf "law" "law" (defArgs st_law) (defBody st_law) (defScope st_law) .none kV_law dc_law pm_law an_law cd_law ct_law, c_all_lots, tb_all_lots, Yt _ qm, qh, qn, fun s v => .of_eq rfl, fun base _ _ hB => ok_law T hB⟩
theorem walk {l : PySem.W.OpenLaw} {q : Program} {loose : List Str} {XP : (Str → Option Value) → Heap → Prop} {YP : World → Heap → Prop} {d : DefRec} {K : Params → PySem.W.Frag} (hn : l.most = some 63) (hdf : d.params.defaults = [])
    (hY : ∀ (w : World) (h : Heap), YP w h → (K w.params).In h)
    (F : ∀ (w : World) (mg : Str → Option Value) (fa : Addr) (h : Heap), YP w h → (K w.params).In h → h.Ns mainGlobals mg → mg d.name = some (.ref fa) →
      ∃ (fd : FuncData) (c T : Addr), h.get? T = some (PySem.W.tabObj #[]) ∧ PySem.W.codeHdIn (K w.params) c T = true ∧ (K w.params).lookup T = none ∧ (∀ (s : Shared) (u : Value), BindsTo s fd ⟨[u], []⟩ [("_law_script", u)]) ∧
        ∀ base : Heap, (K w.params).In base → base.Ns mainGlobals mg → BmIn mg base → FnOk l.prog w (K w.params) mg base CX0 7 fa fd ["_law_script"] (spLawT (K w.params) T)) :
    PySem.W.WalkO q loose XP YP l.row.toRowW d [] (fun f vs => PySem.call f vs) :=
  L2.walk_ofT (n := 63) (k := 7) (x := "_law_script") (CX := fun _ => CX0) (sp := fun w T => spLawT (K w.params) T) hn (by decide) hdf ⟨rfl, by decide, by decide⟩ hY F (fun _ T _ a ns hl hb hT hS => ⟨a, ns, rfl, hS, hl, hb, hT, fun _ => rfl⟩) fun _ _ _ _ _ z => z
end K07
open PySem PySem.W PyProof.Rows
set_option maxRecDepth 100000 in
set_option maxHeartbeats 0 in
theorem PySem.Challenge.cw_barnlots_k07_whole_all_back_holds : PySem.Challenge.rw_barnlots_k07_whole_all_back.Holds := by
  w_on; o_law; k_head; (case hw => w_witness2)
  k_fill
  refine K07.walk (l := PySem.Challenge.rw_barnlots_k07_whole_all_back) rfl rfl (fun w h Y => PySem.W.km_in_of Y) ?F
  case F =>
    intro w mg fa h Y KX G hmg
    refine' K07.all_mk KX G hmg (ts := _) (PySem.W.km_tabs_of Y) ?aC_Barn ?a0 ?l0 ?c0 ?k0 ?a1 ?l1 ?c1 ?k1 ?a2 ?l2 ?c2 ?k2 ?a3 ?l3 ?c3 ?k3 ?a4 ?l4 ?c4 ?k4 ?a5 ?l5 ?c5 ?k5 ?a6 ?l6 ?c6 ?k6 ?a7 ?l7 ?c7 ?k7 ?a8 ?l8 ?c8 ?k8 ?a9 ?l9 ?c9 ?k9 ?a10 ?l10 ?c10 ?k10 ?a11 ?l11 ?c11 ?k11 ?a12 ?l12 ?c12 ?k12 ?a13 ?l13 ?c13 ?k13 ?a14 ?l14 ?c14 ?k14 ?a15 ?l15 ?c15 ?k15 ?a16 ?l16 ?c16 ?k16 ?a17 ?l17 ?c17 ?k17 ?a18 ?l18 ?c18 ?k18 ?a19 ?l19 ?c19 ?k19 ?a20 ?l20 ?c20 ?k20 ?a21 ?l21 ?c21 ?k21 ?a22 ?i22 ?l22 ?c22 ?k22 ?a23 ?i23 ?l23 ?c23 ?k23 ?a24 ?i24 ?l24 ?c24 ?k24 ?a25 ?i25 ?l25 ?c25 ?k25 ?a26 ?i26 ?l26 ?c26 ?k26 ?a27 ?i27 ?l27 ?c27 ?k27 ?a28 ?i28 ?l28 ?c28 ?k28 ?a29 ?i29 ?l29 ?c29 ?k29 ?a30 ?i30 ?l30 ?c30 ?k30 ?pg ?hd ?po ?sa ?mk ?kc ?no_lots_by_ware ?no_lots_come ?no_uses ?z_len ?z_min ?z_max ?z_sum ?z_isinstance ?z_sorted ?z_int ?z_bool ?z_list ?z_tuple ?z_str ?z_range ?z_reversed ?qc ?ql ?qv ?qh ?qn ?qm
    (case aC_Barn => k_is)
    (case a0 => k_is)
    (case l0 => k_is)
    (case c0 => k_is)
    (case k0 => k_is)
    (case a1 => k_is)
    (case l1 => k_is)
    (case c1 => k_is)
    (case k1 => k_is)
    (case a2 => k_is)
    (case l2 => k_is)
    (case c2 => k_is)
    (case k2 => k_is)
    (case a3 => k_is)
    (case l3 => k_is)
    (case c3 => k_is)
    (case k3 => k_is)
    (case a4 => k_is)
    (case l4 => k_is)
    (case c4 => k_is)
    (case k4 => k_is)
    (case a5 => k_is)
    (case l5 => k_is)
    (case c5 => k_is)
    (case k5 => k_is)
    (case a6 => k_is)
    (case l6 => k_is)
    (case c6 => k_is)
    (case k6 => k_is)
    (case a7 => k_is)
    (case l7 => k_is)
    (case c7 => k_is)
    (case k7 => k_is)
    (case a8 => k_is)
    (case l8 => k_is)
    (case c8 => k_is)
    (case k8 => k_is)
    (case a9 => k_is)
    (case l9 => k_is)
    (case c9 => k_is)
    (case k9 => k_is)
    (case a10 => k_is)
    (case l10 => k_is)
    (case c10 => k_is)
    (case k10 => k_is)
    (case a11 => k_is)
    (case l11 => k_is)
    (case c11 => k_is)
    (case k11 => k_is)
    (case a12 => k_is)
    (case l12 => k_is)
    (case c12 => k_is)
    (case k12 => k_is)
    (case a13 => k_is)
    (case l13 => k_is)
    (case c13 => k_is)
    (case k13 => k_is)
    (case a14 => k_is)
    (case l14 => k_is)
    (case c14 => k_is)
    (case k14 => k_is)
    (case a15 => k_is)
    (case l15 => k_is)
    (case c15 => k_is)
    (case k15 => k_is)
    (case a16 => k_is)
    (case l16 => k_is)
    (case c16 => k_is)
    (case k16 => k_is)
    (case a17 => k_is)
    (case l17 => k_is)
    (case c17 => k_is)
    (case k17 => k_is)
    (case a18 => k_is)
    (case l18 => k_is)
    (case c18 => k_is)
    (case k18 => k_is)
    (case a19 => k_is)
    (case l19 => k_is)
    (case c19 => k_is)
    (case k19 => k_is)
    (case a20 => k_is)
    (case l20 => k_is)
    (case c20 => k_is)
    (case k20 => k_is)
    (case a21 => k_is)
    (case l21 => k_is)
    (case c21 => k_is)
    (case k21 => k_is)
    (case a22 => k_is)
    (case i22 => k_is)
    (case l22 => k_is)
    (case c22 => k_is)
    (case k22 => k_is)
    (case a23 => k_is)
    (case i23 => k_is)
    (case l23 => k_is)
    (case c23 => k_is)
    (case k23 => k_is)
    (case a24 => k_is)
    (case i24 => k_is)
    (case l24 => k_is)
    (case c24 => k_is)
    (case k24 => k_is)
    (case a25 => k_is)
    (case i25 => k_is)
    (case l25 => k_is)
    (case c25 => k_is)
    (case k25 => k_is)
    (case a26 => k_is)
    (case i26 => k_is)
    (case l26 => k_is)
    (case c26 => k_is)
    (case k26 => k_is)
    (case a27 => k_is)
    (case i27 => k_is)
    (case l27 => k_is)
    (case c27 => k_is)
    (case k27 => k_is)
    (case a28 => k_is)
    (case i28 => k_is)
    (case l28 => k_is)
    (case c28 => k_is)
    (case k28 => k_is)
    (case a29 => k_is)
    (case i29 => k_is)
    (case l29 => k_is)
    (case c29 => k_is)
    (case k29 => k_is)
    (case a30 => k_is)
    (case i30 => k_is)
    (case l30 => k_is)
    (case c30 => k_is)
    (case k30 => k_is)
    (case pg => k_is)
    (case hd => k_is)
    (case po => k_is)
    (case sa => k_is)
    (case mk => k_is)
    (case kc => k_is)
    (case no_lots_by_ware => k_is)
    (case no_lots_come => k_is)
    (case no_uses => k_is)
    (case z_len => k_is)
    (case z_min => k_is)
    (case z_max => k_is)
    (case z_sum => k_is)
    (case z_isinstance => k_is)
    (case z_sorted => k_is)
    (case z_int => k_is)
    (case z_bool => k_is)
    (case z_list => k_is)
    (case z_tuple => k_is)
    (case z_str => k_is)
    (case z_range => k_is)
    (case z_reversed => k_is)
    (case qc => exact rfl)
    (case ql => k_is)
    (case qv => exact rfl)
    (case qh => first | kernel_rfl | rfl)
    (case qn => first | k_is | kernel_rfl | decide)
    (case qm => first | k_mem | decide | simp)
