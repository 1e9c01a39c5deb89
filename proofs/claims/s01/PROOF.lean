import PyProof.Rows.All
import Wide.All
import OpenK.AllK
import Wide.FinOn
import PyProof.EqAt
import PyProof.EqKinds
import PyProof.TupleCall
import KE.BitLaws
import Open.SpecLaws
import KE.OsHead
import KE.OsGo
import KE.KSortTupG
import KE.KMinKey
import PySem.Challenge.RW_appointments_s01_answers
-- CHANGE: your row's module here, as the last of these rows
set_option Elab.async false
set_option linter.all false
set_option maxRecDepth 100000
namespace L2
open PySem PySem.Spec PyProof.Rows

abbrev Key := Sum Int Str
def keyIs : Key → Value → Bool
  | .inl k, v => Value.isInt k v
  | .inr x, v => Value.isStrOf x v
def keyH (w : World) : Key → Int
  | .inl k => hashInt k
  | .inr x => hashStr w x
theorem keyIs_shape : ∀ {k : Key} {v : Value}, keyIs k v = true → (∃ i t, k = Sum.inl i ∧ v = Value.int i t) ∨ (∃ x t, k = Sum.inr x ∧ v = Value.str x t)
  | .inl i, v, h => by
    obtain ⟨t, e⟩ := Value.isInt_shape (k := i) (v := v) h
    exact .inl ⟨i, t, rfl, e⟩
  | .inr x, v, h => by
    obtain ⟨t, e⟩ := Value.isStrOf_shape (x := x) (v := v) h
    exact .inr ⟨x, t, rfl, e⟩
theorem keyIs_int (i : Int) (t : Tok) : keyIs (.inl i) (.int i t) = true := by simp [keyIs, Value.isInt]
theorem keyIs_str (x : Str) (t : Tok) : keyIs (.inr x) (.str x t) = true := by simp [keyIs, Value.isStrOf]
theorem key_ll (a b : Int) : decide ((Sum.inl a : Key) = Sum.inl b) = (a == b) := by
  by_cases e : a = b
  · subst e; simp
  · have h : ¬ (Sum.inl a : Key) = Sum.inl b := fun q => e (Sum.inl.inj q)
    rw [decide_eq_false h]
    exact (beq_eq_false_iff_ne.mpr e).symm
theorem key_rr (a b : Str) : decide ((Sum.inr a : Key) = Sum.inr b) = decide (a = b) := by
  by_cases e : a = b
  · subst e; simp
  · have h : ¬ (Sum.inr a : Key) = Sum.inr b := fun q => e (Sum.inr.inj q)
    rw [decide_eq_false h, decide_eq_false e]
theorem key_lr (a : Int) (b : Str) : decide ((Sum.inl a : Key) = Sum.inr b) = false := decide_eq_false (fun q => nomatch q)
theorem key_rl (a : Str) (b : Int) : decide ((Sum.inr a : Key) = Sum.inl b) = false := decide_eq_false (fun q => nomatch q)

def mixKind (prog : Program) (w : World) : PySem.KeyKind prog w Key where
  is := keyIs
  hash := keyH w
  inj := fun v a b ha hb => by
    rcases keyIs_shape ha with ⟨i, t, rfl, rfl⟩ | ⟨x, t, rfl, rfl⟩
    · rcases keyIs_shape hb with ⟨j, u, rfl, e⟩ | ⟨y, u, rfl, e⟩
      · injection e with e1 _; rw [e1]
      · exact nomatch e
    · rcases keyIs_shape hb with ⟨j, u, rfl, e⟩ | ⟨y, u, rfl, e⟩
      · exact nomatch e
      · injection e with e1 _; rw [e1]
  byValue := fun k v h => by
    rcases keyIs_shape h with ⟨i, t, rfl, rfl⟩ | ⟨x, t, rfl, rfl⟩ <;> rfl
  pyHash := fun hv h => by
    rcases keyIs_shape hv with ⟨i, t, rfl, rfl⟩ | ⟨x, t, rfl, rfl⟩
    · exact wpAny_pyHash_int h
    · exact wpAny_pyHash_str h
  eqBool := fun hu hv h => by
    rcases keyIs_shape hu with ⟨i, t, rfl, rfl⟩ | ⟨x, t, rfl, rfl⟩
    · rcases keyIs_shape hv with ⟨j, u, rfl, rfl⟩ | ⟨y, u, rfl, rfl⟩
      · rw [key_ll] at h; exact wpAny_eqBool_int h
      · rw [key_lr] at h; exact SeqAt.EqAt.int_str i t y u _ _ _ _ h
    · rcases keyIs_shape hv with ⟨j, u, rfl, rfl⟩ | ⟨y, u, rfl, rfl⟩
      · rw [key_rl] at h; exact SeqAt.EqAt.str_int x t j u _ _ _ _ h
      · rw [key_rr] at h; exact wpAny_eqBool_str h
  «strs» := fun k x t v h => by
    rcases keyIs_shape h with ⟨i, u, rfl, e⟩ | ⟨y, u, rfl, e⟩
    · exact nomatch e
    · injection e with e1 _
      subst e1
      cases v <;> rfl

theorem mixKind_int (prog : Program) (w : World) (i : Int) (t : Tok) : (mixKind prog w).is (.inl i) (.int i t) = true := keyIs_int i t
theorem mixKind_str (prog : Program) (w : World) (x : Str) (t : Tok) : (mixKind prog w).is (.inr x) (.str x t) = true := keyIs_str x t
end L2

namespace L2
open PySem PySem.Spec PyProof.Rows

inductive V where
  | non | bl (b : Bool) | int (i : Int) | str (x : Str) | byt (b : Array UInt8) | flt (b : UInt64) | ref (a : Addr) | ty (n : String)
  deriving DecidableEq

def RelV : V → Value → Prop
  | .non, u => u = Value.none
  | .bl b, u => u = Value.bool b
  | .int i, u => ∃ t, u = Value.int i t
  | .str x, u => ∃ t, u = Value.str x t
  | .byt b, u => ∃ t, u = Value.bytes b t
  | .flt b, u => ∃ t, u = Value.float b t
  | .ref a, u => u = Value.ref a
  | .ty n, u => u = Value.type n

abbrev Vals : List V → List Value → Prop := Paired RelV
theorem Vals.length {xs : List V} {us : List Value} (r : Vals xs us) : xs.length = us.length := Paired.length r
theorem Vals.get : ∀ {xs : List V} {us : List Value} {i : Nat} {x : V}, Vals xs us → xs[i]? = some x → ∃ u, us[i]? = some u ∧ RelV x u
  | _, _, _, _, .nil, e => by simp at e
  | _, _, 0, _, .cons r _, e => by simp at e; subst e; exact ⟨_, rfl, r⟩
  | _, _, i + 1, x, .cons _ t, e => by
    obtain ⟨u, h1, h2⟩ := Vals.get (i := i) (x := x) t (by simpa using e)
    exact ⟨u, by simpa using h1, h2⟩
theorem Vals.set {x : V} {u : Value} (r : RelV x u) : ∀ {xs : List V} {us : List Value} (i : Nat), Vals xs us → Vals (xs.set i x) (us.set i u)
  | _, _, _, .nil => .nil
  | _, _, 0, .cons _ t => .cons r t
  | _, _, i + 1, .cons q t => .cons q (Vals.set r i t)
theorem Vals.append : ∀ {xs ys : List V} {us ws : List Value}, Vals xs us → Vals ys ws → Vals (xs ++ ys) (us ++ ws)
  | _, _, _, _, .nil, s => s
  | _, _, _, _, .cons r t, s => .cons r (Vals.append t s)
theorem Vals.take : ∀ {xs : List V} {us : List Value} (n : Nat), Vals xs us → Vals (xs.take n) (us.take n)
  | _, _, 0, _ => .nil
  | _, _, _ + 1, .nil => .nil
  | _, _, n + 1, .cons r t => .cons r (Vals.take n t)
theorem Vals.drop : ∀ {xs : List V} {us : List Value} (n : Nat), Vals xs us → Vals (xs.drop n) (us.drop n)
  | _, _, 0, r => r
  | _, _, _ + 1, .nil => .nil
  | _, _, n + 1, .cons _ t => Vals.drop n t
def RelO : Option V → Option Value → Prop
  | some v, some u => RelV v u
  | none, none => True
  | _, _ => False
def KV {κ : Type} : List (κ × V) → List (κ × Value) → Prop := Paired fun (p : κ × V) (q : κ × Value) => p.1 = q.1 ∧ RelV p.2 q.2

def kV : Key → V
  | .inl i => .int i
  | .inr x => .str x

inductive HO where
  /-- a list -/
  | lst (xs : List V)
  /-- a tuple (never changes) -/
  | tup (xs : List V)
  /-- a dict whose keys are ints and texts; one whose keys are tuples of ints and texts (the empty one is both) -/
  | dK (kvs : List (Key × V)) | dT (kvs : List (List Key × V))
  /-- a set of ints: its members, its size -/
  | set (S : Int → Bool) (n : Nat)
  /-- an instance of the class at C, its dict at dx, its attributes -/
  | ins (C dx : Addr) (fs : List (Str × V))
  /-- the dict of the instance at x -/
  | own (x : Addr)
  /-- the dict of an exception -/
  | xd (fs : List (Str × V))
  /-- a bound method, f of x -/
  | met (f x : Addr)
  /-- a range object lo, lo + 1, .. below hi -/
  | rng (lo hi : Int)
  /-- a thing that is known to the object (the script; a dict while a loop walks it): read, never written while it is so -/
  | frz (o : Obj) (u : HO)
  /-- a code object's table -/
  | tbl (ps : Array Value)
  /-- any other thing, by what is true of its one object (a def of one's own: SetO a S n := HO.ext fun h => ..) -/
  | ext (φ : Heap → Prop)

abbrev Hp := Addr → Option HO
def upd (H : Hp) (a : Addr) (o : HO) : Hp := fun b => if b = a then some o else H b
theorem upd_same {H : Hp} {a : Addr} {o : HO} : upd H a o a = some o := by unfold upd; rw [if_pos rfl]
theorem upd_ne {H : Hp} {a b : Addr} {o : HO} (h : b ≠ a) : upd H a o b = H b := by unfold upd; rw [if_neg h]
theorem upd_upd {H : Hp} {a : Addr} {o u : HO} : upd (upd H a o) a u = upd H a u := by
  funext b; unfold upd; split <;> rfl
theorem ne_of {H : Hp} {a b : Addr} {o u : HO} (h : H a = some o) (h' : H b = some u) (d : o ≠ u) : a ≠ b := by
  intro e; subst e; rw [h] at h'; exact d (Option.some.inj h')
theorem ne_of_none {H : Hp} {a b : Addr} {o : HO} (h : H a = some o) (h' : H b = none) : a ≠ b := by
  intro e; subst e; rw [h] at h'; cases h'

section
variable (P : Program) (w : World)
def ObjOk (H : Hp) (h : Heap) (a : Addr) : HO → Prop
  | .lst xs => xs.length ≤ sizeLine ∧ ∃ (its : List Value) (n : Nat), Vals xs its ∧ h.get? a = some { cls := .type "list", data := .seq its.toArray n }
  | .tup xs => xs.length ≤ sizeLine ∧ ∃ its : List Value, Vals xs its ∧ IsTup h a its.toArray
  | .dK kvs => kvs.length ≤ sizeLine ∧ (a == sysModules) = false ∧ ∃ vs, KV kvs vs ∧ h.DictOf (mixKind P w) a vs
  | .dT kvs => kvs.length ≤ sizeLine ∧ (a == sysModules) = false ∧ ∃ xs : List (List Key × Addr × Value),
      Paired (fun (p : List Key × V) (q : List Key × Addr × Value) => p.1 = q.1 ∧ H q.2.1 = some (.tup (p.1.map kV)) ∧ RelV p.2 q.2.2) kvs xs ∧
      ∃ o es ep, h.get? a = some o ∧ o.ExactDict ∧ o.data = .dict es ep ∧ es.toList = xs.map (entryOfKey (tupleKind (mixKind P w))) ∧ (xs.map (·.1)).Nodup
  | .set S n => h.SetOf (intKind P w) a S n
  | .ins C dx fs => H dx = some (.own a) ∧ fs.length ≤ 1000 ∧ dx ≠ a ∧ h.get? a = some (PySem.W.instObj C dx) ∧
      ∃ mA, h.Ns1 dx mA ∧ (∀ f, RelO (fs.lookup f) (mA f)) ∧ PySem.Within mA (fs.map (·.1))
  | .own _ => ∃ o, h.get? a = some o
  | .xd fs => ∃ mA, h.Ns1 a mA ∧ ∀ f, RelO (fs.lookup f) (mA f)
  | .rng lo hi => ∃ t u v, h.get? a = some { cls := .type "range", data := .fields #[.int lo t, .int hi u, .int 1 v] }
  | .frz o u => h.get? a = some o ∧ ObjOk H h a u
  | .tbl ps => h.get? a = some { cls := .none, data := .fields ps }
  | .met f x => h.get? a = some (PySem.W.methodObj (.ref f) (.ref x))
  | .ext φ => φ h ∧ (∃ o, h.get? a = some o) ∧ ∀ h1 h2 : Heap, φ h1 → (∀ o, h1.get? a = some o → h2.get? a = some o) → φ h2
def HOk (H : Hp) (h : Heap) : Prop := ∀ a o, H a = some o → ObjOk P w H h a o
end

section
variable {P : Program} {w : World} {H H' : Hp} {h h' : Heap} {a : Addr} {o : HO}
theorem ObjOk.lt (x : ObjOk P w H h a o) : a < h.objs.size := by
  cases o with
  | lst xs => obtain ⟨_, _, _, _, e⟩ := x; exact Heap.lt_size e
  | tup xs => obtain ⟨_, _, _, p⟩ := x; exact p.lt
  | dK kvs => obtain ⟨_, _, _, _, o, _, _, e, _⟩ := x; exact Heap.lt_size e
  | dT kvs => obtain ⟨_, _, _, _, o, _, _, e, _⟩ := x; exact Heap.lt_size e
  | set S n => obtain ⟨o, _, _, _, e, _⟩ := x; exact Heap.lt_size e
  | ins C dx fs => obtain ⟨_, _, _, e, _⟩ := x; exact Heap.lt_size e
  | own y => obtain ⟨_, e⟩ := x; exact Heap.lt_size e
  | xd fs => obtain ⟨_, ⟨_, _, _, e, _⟩, _⟩ := x; exact Heap.lt_size e
  | rng lo hi => obtain ⟨_, _, _, e⟩ := x; exact Heap.lt_size e
  | frz ob u => obtain ⟨e, _⟩ := x; exact Heap.lt_size e
  | tbl ps => exact Heap.lt_size (show h.get? a = some _ from x)
  | met f y => exact Heap.lt_size (show h.get? a = some _ from x)
  | ext φ => obtain ⟨_, ⟨_, e⟩, _⟩ := x; exact Heap.lt_size e
theorem Paired.mapP {α β : Type} {F G : α → β → Prop} : ∀ {l₁ : List α} {l₂ : List β}, Paired F l₁ l₂ → (∀ a b, F a b → G a b) → Paired G l₁ l₂
  | _, _, .nil, _ => .nil
  | _, _, .cons r t, f => .cons (f _ _ r) (Paired.mapP t f)
theorem ObjOk.stay (x : ObjOk P w H h a o) (k : ∀ b u, (b = a ∨ H b = some (.own a)) → h.get? b = some u → h'.get? b = some u)
    (ho : ∀ b, H b = some (.own a) → H' b = some (.own a)) (ht : ∀ b xs, H b = some (.tup xs) → H' b = some (.tup xs)) : ObjOk P w H' h' a o := by
  induction o with
  | lst xs => obtain ⟨z, its, n, r, e⟩ := x; exact ⟨z, its, n, r, k _ _ (.inl rfl) e⟩
  | tup xs => obtain ⟨z, its, r, ob, e, c⟩ := x; exact ⟨z, its, r, ob, k _ _ (.inl rfl) e, c⟩
  | dK kvs => obtain ⟨z, y, vs, r, ob, es, ep, e, c⟩ := x; exact ⟨z, y, vs, r, ob, es, ep, k _ _ (.inl rfl) e, c⟩
  | dT kvs =>
    obtain ⟨z, y, xs, r, ob, es, ep, e, c⟩ := x
    exact ⟨z, y, xs, Paired.mapP r fun p q z => ⟨z.1, ht _ _ z.2.1, z.2.2⟩, ob, es, ep, k _ _ (.inl rfl) e, c⟩
  | set S n => obtain ⟨ob, es, ep, t, e, c⟩ := x; exact ⟨ob, es, ep, t, k _ _ (.inl rfl) e, c⟩
  | ins C dx fs =>
    obtain ⟨d, z, ne, e, mA, ⟨od, es, ep, e2, c⟩, r⟩ := x
    exact ⟨ho _ d, z, ne, k _ _ (.inl rfl) e, mA, ⟨od, es, ep, k _ _ (.inr d) e2, c⟩, r⟩
  | own y => obtain ⟨ob, e⟩ := x; exact ⟨ob, k _ _ (.inl rfl) e⟩
  | xd fs => obtain ⟨mA, ⟨od, es, ep, e, c⟩, r⟩ := x; exact ⟨mA, ⟨od, es, ep, k _ _ (.inl rfl) e, c⟩, r⟩
  | rng lo hi => obtain ⟨t, u, v, e⟩ := x; exact ⟨t, u, v, k _ _ (.inl rfl) e⟩
  | frz ob u ih => obtain ⟨e, q⟩ := x; exact ⟨k _ _ (.inl rfl) e, ih q⟩
  | tbl ps =>
    have e : h.get? a = some { cls := .none, data := .fields ps } := x
    show h'.get? a = some { cls := .none, data := .fields ps }
    exact k a _ (.inl rfl) e
  | met f y =>
    have e : h.get? a = some (PySem.W.methodObj (.ref f) (.ref y)) := x
    show h'.get? a = some (PySem.W.methodObj (.ref f) (.ref y))
    exact k a _ (.inl rfl) e
  | ext φ => obtain ⟨p, ⟨o, e⟩, st⟩ := x; exact ⟨st _ _ p fun o q => k _ _ (.inl rfl) q, ⟨o, k _ _ (.inl rfl) e⟩, st⟩
theorem HOk.lt (x : HOk P w H h) (e : H a = some o) : a < h.objs.size := (x a o e).lt
theorem HOk.fresh (x : HOk P w H h) (e : h.objs.size ≤ a) : H a = none := by
  cases q : H a with
  | none => rfl
  | some u => exact absurd (Nat.lt_of_lt_of_le (x.lt q) e) (Nat.lt_irrefl _)
theorem HOk.kept (x : HOk P w H h) (k : ∀ b u, h.get? b = some u → h'.get? b = some u) : HOk P w H h' := fun a o e =>
  (x a o e).stay (fun b u _ q => k b u q) (fun _ q => q) fun _ _ q => q
theorem HOk.laid (x : HOk P w H h) (k : ∀ b u, h.get? b = some u → h'.get? b = some u) (hp : h.objs.size ≤ a) (new : ObjOk P w (upd H a o) h' a o) : HOk P w (upd H a o) h' := fun b u e => by
  have hn := x.fresh hp
  by_cases hb : b = a
  · subst hb; rw [upd_same] at e; cases e; exact new
  · rw [upd_ne hb] at e
    exact (x b u e).stay (fun c v _ q => k c v q) (fun c q => by rw [upd_ne (ne_of_none q hn)]; exact q) fun c xs q => by rw [upd_ne (ne_of_none q hn)]; exact q
end

def Rd (H : Hp) (a : Addr) (u : HO) : Prop := H a = some u ∨ ∃ o, H a = some (.frz o u)
theorem Rd.of {H : Hp} {a : Addr} {u : HO} (h : H a = some u) : Rd H a u := .inl h
theorem Rd.ok {P : Program} {w : World} {H : Hp} {h : Heap} {a : Addr} {u : HO} (r : Rd H a u) (x : HOk P w H h) : ObjOk P w H h a u := by
  rcases r with r | ⟨o, r⟩
  · exact x a u r
  · obtain ⟨_, q⟩ := x a _ r
    exact q
def Mut : Option HO → Prop
  | some (.lst _) => True
  | some (.dK _) => True
  | some (.dT _) => True
  | some (.set _ _) => True
  | some (.ins _ _ _) => True
  | some (.ext _) => True
  | _ => False
section
variable {P : Program} {w : World} {H : Hp} {h h' : Heap} {x e : Addr} {o' : HO}
theorem HOk.write (ok : HOk P w H h) (mu : Mut (H x)) (he : e = x ∨ H e = some (.own x)) (k : ∀ b u, b ≠ e → h.get? b = some u → h'.get? b = some u) (heo : ∃ u, h'.get? e = some u)
    (new : ObjOk P w (upd H x o') h' x o') : HOk P w (upd H x o') h' := fun b u q => by
  have nown : ∀ c y, H c = some (.own y) → c ≠ x := fun c y r z => by subst z; rw [r] at mu; exact mu
  have ntup : ∀ c xs, H c = some (.tup xs) → c ≠ x := fun c xs r z => by subst z; rw [r] at mu; exact mu
  by_cases hb : b = x
  · subst hb; rw [upd_same] at q; cases q; exact new
  · rw [upd_ne hb] at q
    by_cases hbe : b = e
    · have q' : H b = some (.own x) := by
        rcases he with z | z
        · exact absurd (hbe.trans z) hb
        · rw [hbe]; exact z
      rw [q] at q'; cases q'
      obtain ⟨v, hv⟩ := heo
      exact ⟨v, by rw [hbe]; exact hv⟩
    · refine (ok b u q).stay (fun c v hc r => k c v ?_ r) (fun c r => by rw [upd_ne (nown c b r)]; exact r) fun c xs r => by rw [upd_ne (ntup c xs r)]; exact r
      rcases hc with rfl | hc
      · exact hbe
      · rintro rfl
        rcases he with z | z
        · exact nown c b hc z
        · rw [hc] at z; cases z; exact hb rfl
end

structure Un (fs ex : List Addr) (H H' : Hp) (h h' : Heap) : Prop where
  keep : ∀ b o, h.get? b = some o → H b = none → b ∉ fs → b ∉ ex → h'.get? b = some o
  slot : ∀ b o, h.get? b = some o → H b = none → b ∈ fs → b ∉ ex → ∃ sl, h'.get? b = some { o with slots := sl }
  free : ∀ b o, h.get? b = some o → H b = none → b ∉ ex → H' b = none
  there : ∀ b o, h.get? b = some o → b ∉ ex → ∃ o', h'.get? b = some o'
  tups : ∀ b xs, H b = some (.tup xs) → H' b = some (.tup xs)
  frzs : ∀ b o u, H b = some (.frz o u) → H' b = some (.frz o u)
  tbls : ∀ b ps, H b = some (.tbl ps) → ∃ more, H' b = some (.tbl (ps ++ more))
section
variable {fs fs' ex ex' : List Addr} {H H1 H2 : Hp} {h h1 h2 h' : Heap} {a x e : Addr} {o : HO}
theorem Un.any (u : Un fs ex H H1 h h1) {b : Addr} {ob : Obj} (q : h.get? b = some ob) (n : H b = none) (hx : b ∉ ex) : ∃ sl, h1.get? b = some { ob with slots := sl } := by
  by_cases hb : b ∈ fs
  · exact u.slot b ob q n hb hx
  · exact ⟨ob.slots, u.keep b ob q n hb hx⟩
theorem Un.trans (a : Un fs ex H H1 h h1) (b : Un fs ex H1 H2 h1 h2) : Un fs ex H H2 h h2 where
  keep := fun c ob q n hc hx => b.keep c ob (a.keep c ob q n hc hx) (a.free c ob q n hx) hc hx
  slot := fun c ob q n hc hx => by
    obtain ⟨sl, e1⟩ := a.slot c ob q n hc hx
    obtain ⟨sl', e2⟩ := b.slot c _ e1 (a.free c ob q n hx) hc hx
    exact ⟨sl', e2⟩
  free := fun c ob q n hx => by
    obtain ⟨o', e1⟩ := a.there c ob q hx
    exact b.free c o' e1 (a.free c ob q n hx) hx
  there := fun c ob q hx => by
    obtain ⟨o', e1⟩ := a.there c ob q hx
    exact b.there c o' e1 hx
  tups := fun c xs q => b.tups c xs (a.tups c xs q)
  frzs := fun c ob xs q => b.frzs c ob xs (a.frzs c ob xs q)
  tbls := fun c ps q => by
    obtain ⟨m1, e1⟩ := a.tbls c ps q
    obtain ⟨m2, e2⟩ := b.tbls c _ e1
    exact ⟨m1 ++ m2, by rw [e2, Array.append_assoc]⟩
theorem Un.kept (k : ∀ b u, h.get? b = some u → h'.get? b = some u) : Un fs ex H H h h' :=
  ⟨fun b ob q _ _ _ => k b ob q, fun b ob q _ _ _ => ⟨ob.slots, k b ob q⟩, fun _ _ _ n _ => n, fun b ob q _ => ⟨ob, k b ob q⟩, fun _ _ q => q, fun _ _ _ q => q, fun _ ps q => ⟨#[], by rw [q]; simp⟩⟩
theorem Un.refl : Un fs ex H H h h := Un.kept fun _ _ q => q
theorem Un.laid (k : ∀ b u, h.get? b = some u → h'.get? b = some u) (hp : h.objs.size ≤ a) (hn : H a = none) : Un fs ex H (upd H a o) h h' where
  keep := fun b u q _ _ _ => k b u q
  slot := fun b u q _ _ _ => ⟨u.slots, k b u q⟩
  free := fun b u q n _ => by rw [upd_ne (Nat.ne_of_lt (Nat.lt_of_lt_of_le (Heap.lt_size q) hp))]; exact n
  there := fun b u q _ => ⟨u, k b u q⟩
  tups := fun b xs q => by rw [upd_ne (ne_of_none q hn)]; exact q
  frzs := fun b u xs q => by rw [upd_ne (ne_of_none q hn)]; exact q
  tbls := fun b ps q => ⟨#[], by rw [upd_ne (ne_of_none q hn), q]; simp⟩
theorem Un.write (mu : Mut (H x)) (he : e = x ∨ H e = some (.own x)) (k : ∀ b u, b ≠ e → h.get? b = some u → h'.get? b = some u) (heo : ∃ u, h'.get? e = some u) : Un fs ex H (upd H x o) h h' := by
  have hx : ∀ b, H b = none → b ≠ x := fun b n z => by subst z; rw [n] at mu; exact mu
  have hb : ∀ b, H b = none → b ≠ e := fun b n z => by
    subst z
    rcases he with r | r
    · exact hx b n r
    · rw [n] at r; cases r
  have hm : ∀ b u, H b = some u → ¬ Mut (some u) → b ≠ x := fun b u q nm z => by subst z; rw [q] at mu; exact nm mu
  refine ⟨fun b u q n _ _ => k b u (hb b n) q, fun b u q n _ _ => ⟨u.slots, k b u (hb b n) q⟩, fun b u q n _ => by rw [upd_ne (hx b n)]; exact n, fun b u q _ => ?_,
    fun b xs q => by rw [upd_ne (hm b _ q fun z => z)]; exact q, fun b u xs q => by rw [upd_ne (hm b _ q fun z => z)]; exact q, fun b ps q => ⟨#[], by rw [upd_ne (hm b _ q fun z => z), q]; simp⟩⟩
  by_cases hbe : b = e
  · subst hbe; exact heo
  · exact ⟨u, k b u hbe q⟩
theorem Un.mono (u : Un fs ex H H1 h h1) (hs : ∀ b ∈ fs, b ∈ fs') (hx : ∀ b ∈ ex, b ∈ ex') : Un fs' ex' H H1 h h1 :=
  ⟨fun b ob q n hb he => u.keep b ob q n (fun z => hb (hs b z)) fun z => he (hx b z), fun _ _ q n _ he => u.any q n fun z => he (hx _ z), fun b ob q n he => u.free b ob q n fun z => he (hx b z), fun b ob q he => u.there b ob q fun z => he (hx b z), u.tups, u.frzs, u.tbls⟩
end

def trk (h : Heap) (H : Hp) : List Addr := (List.range h.objs.size).filter fun a => (H a).isSome
def hidT (h : Heap) (H : Hp) : Heap := PySem.W.hideAll h (trk h H)
theorem hidT_size (h : Heap) (H : Hp) : (hidT h H).objs.size = h.objs.size := PySem.W.hideAll_size _ _
theorem hidT_get {h : Heap} {H : Hp} {b : Addr} {o : Obj} (e : h.get? b = some o) (n : H b = none) : (hidT h H).get? b = some o :=
  PySem.W.hideAll_get _ e fun hm => by
    have q : (H b).isSome = true := (List.mem_filter.mp hm).2
    rw [n] at q; simp at q
theorem of_hidT {h : Heap} {H : Hp} {b : Addr} {o : Obj} (e : (hidT h H).get? b = some o) : h.get? b = some o ∧ H b = none := by
  have e' : h.get? b = some o := PySem.W.of_hideAll (trk h H) e
  refine ⟨e', ?_⟩
  cases q : H b with
  | none => rfl
  | some x =>
    have hm : b ∈ trk h H := List.mem_filter.mpr ⟨List.mem_range.mpr (Heap.lt_size e'), by simp [q]⟩
    have z : (hidT h H).get? b = none := PySem.W.hideAll_none (trk h H) hm
    rw [z] at e; cases e

def allNews (g h : Heap) (L : Addr) : List (Addr × Obj) := (List.range h.objs.size).filterMap fun a => if a = L ∨ (g.get? a).isSome = true then none else (h.get? a).map fun o => (a, o)
def rest (g h : Heap) (L d : Addr) : List (Addr × Obj) := (allNews g h L).filter fun p => decide (p.1 ≠ d)
end L2

namespace L2
open PySem PySem.Spec PyProof.Rows

structure Mod (K : PySem.W.Frag) (mg : Str → Option Value) (base : Heap) : Prop where
  kin : K.In base
  glob : base.Ns mainGlobals mg
  blt : ∃ mb, base.Ns builtinsNs mb ∧ ∀ x : Str, x ≠ "__name__" → mb x = bootBuiltins x
  nolimit : base.NoLimit

structure Cx where
  prog : Program
  w : World
  K : PySem.W.Frag
  mg : Str → Option Value
  base : Heap
  A : Around
  N : List Str
  s_0 : Shared
  H_0 : Hp
  env : Env
  outer : List Env
  stack : List Env
  ex : List Addr
  fn : Str → Bool
  calm : Bool
  pn : List (Addr × Obj)
  xe : Value → Shared → Prop
def frs (l : List Env) : List Addr := l.filterMap (·.frame)
abbrev Cx.fs (X : Cx) : List Addr := frs X.outer

def Vis (sc : Scope) (x : Str) : Prop := sc.names.lookup x = some .local ∨ sc.names.lookup x = some .cell ∨ sc.names.lookup x = some .free
def Loc (sc : Scope) (x : Str) : Prop := sc.names.lookup x = some .local ∨ sc.names.lookup x = some .cell
def Look (env : Env) (h : Heap) (m : Str → Option Value) (x : Str) (u : Value) : Prop :=
  (env.kindOf x = some .local ∧ m x = some u) ∨ ((env.kindOf x = some .cell ∨ env.kindOf x = some .free) ∧ ∃ c, env.cells.lookup x = some c ∧ h.IsCell c (some u))

structure Cx.Ok (X : Cx) : Prop where
  mod : Mod X.K X.mg X.base
  kind : X.env.scope.kind = .function
  glob : X.env.globals = mainGlobals
  blt : X.env.builtins = builtinsNs
  above : X.s_0.heap.objs.size ≤ X.env.locals
  inj : ∀ x y c, X.env.cells.lookup x = some c → X.env.cells.lookup y = some c → x = y
  has : ∀ x, (X.env.kindOf x = some .cell ∨ X.env.kindOf x = some .free) → ∃ c, X.env.cells.lookup x = some c
  cab : ∀ x c, X.fn x = true → X.env.cells.lookup x = some c → X.s_0.heap.objs.size ≤ c
  hd : X.calm = true → X.A.handled = none
  frames : X.A.frames = some X.stack
  stk : X.stack = X.outer ∨ (X.stack = X.env :: X.outer ∧ X.env.frame = some X.env.locals)
  exf : ∀ b ∈ X.ex, b ≠ X.env.locals ∧ ∀ x c, X.env.cells.lookup x = some c → c ≠ b
  bs : ∀ b o, X.base.get? b = some o → X.s_0.heap.get? b = some o ∧ X.H_0 b = none
  bsz : X.base.objs.size ≤ X.s_0.heap.objs.size
  noex : ∀ b o, X.base.get? b = some o → b ∉ X.ex
  exfs : ∀ b ∈ X.ex, b ∉ X.fs
  funs : X.s_0.heap.FunFrames X.base X.outer
  frf : ∀ b ∈ X.fs, X.H_0 b = none

structure Inv (X : Cx) (pins : List (Addr × Obj)) (σ : List (Option V)) (H : Hp) (s : Shared) : Prop where
  ok : X.Ok
  os : s.os = X.s_0.os
  bare : AllBare s.gens
  base : Un X.fs X.ex X.H_0 H X.s_0.heap s.heap
  loc : ∃ m, s.heap.Ns X.env.locals m ∧ ∀ (i : Nat) (x : Str) (v : V), X.N[i]? = some x → σ[i]? = some (some v) → Vis X.env.scope x → ∃ u, RelV v u ∧ Look X.env s.heap m x u
  cell : ∀ x c, X.env.cells.lookup x = some c → ∃ v, s.heap.IsCell c v
  free : H X.env.locals = none
  freeC : ∀ x c, X.env.cells.lookup x = some c → H c = none
  pin : ∀ p ∈ X.pn ++ pins, s.heap.get? p.1 = some p.2 ∧ H p.1 = none ∧ p.1 ≠ X.env.locals ∧ p.1 ∉ X.fs ∧ ∀ v, p.2.data ≠ .cell v
  hok : HOk X.prog X.w H s.heap
  len : σ.length = X.N.length

section
variable {X : Cx} {pins : List (Addr × Obj)} {σ : List (Option V)} {H H' : Hp} {s : Shared} {h' : Heap}

theorem Cx.Ok.nofr (ok : X.Ok) {b : Addr} {o : Obj} (e : X.base.get? b = some o) : b ∉ X.fs := fun hb => by
  have := (ok.funs.mem hb).1
  rw [e] at this; cases this
theorem Inv.bs (I : Inv X pins σ H s) : ∀ b o, X.base.get? b = some o → s.heap.get? b = some o ∧ H b = none := fun b o e =>
  ⟨I.base.keep b o (I.ok.bs b o e).1 (I.ok.bs b o e).2 (I.ok.nofr e) (I.ok.noex b o e), I.base.free b o (I.ok.bs b o e).1 (I.ok.bs b o e).2 (I.ok.noex b o e)⟩
theorem Inv.bk (I : Inv X pins σ H s) : ∀ b o, X.base.get? b = some o → s.heap.get? b = some o := fun b o e => (I.bs b o e).1
theorem Inv.mod (I : Inv X pins σ H s) : Mod X.K X.mg X.base := I.ok.mod
theorem Inv.kIn (I : Inv X pins σ H s) : X.K.In s.heap := I.ok.mod.kin.keeps I.bk
theorem Inv.nolimit (I : Inv X pins σ H s) : s.heap.NoLimit := I.ok.mod.nolimit.keeps I.bk
theorem Inv.lt (I : Inv X pins σ H s) : X.env.locals < s.heap.objs.size := let ⟨_, hn, _⟩ := I.loc; hn.lt
theorem Inv.sz (I : Inv X pins σ H s) : X.s_0.heap.objs.size ≤ s.heap.objs.size := Nat.le_trans I.ok.above (Nat.le_of_lt I.lt)
theorem Inv.nofs (I : Inv X pins σ H s) {a : Addr} (h : s.heap.objs.size ≤ a) : a ∉ X.fs := fun hb => by
  obtain ⟨_, o, ho, _⟩ := I.ok.funs.mem hb
  exact absurd (Nat.lt_of_lt_of_le (Heap.lt_size ho) (Nat.le_trans I.sz h)) (Nat.lt_irrefl _)
theorem Inv.cne (I : Inv X pins σ H s) : ∀ x c, X.env.cells.lookup x = some c → c ≠ X.env.locals := fun x c e z => by
  obtain ⟨v, o, ho, hd⟩ := I.cell x c e
  obtain ⟨m, ⟨o', es, ep, ho', hd', _⟩, _⟩ := I.loc
  rw [z, ho'] at ho; cases ho; rw [hd'] at hd; cases hd
theorem Inv.funs (I : Inv X pins σ H s) : s.heap.FunFrames X.base X.outer := by
  have all : ∀ (l : List Env), (∀ b ∈ frs l, b ∈ X.fs) → X.s_0.heap.FunFrames X.base l → s.heap.FunFrames X.base l := by
    intro l
    induction l with
    | nil => intro _ _; trivial
    | cons env r ih =>
      intro hs hl
      obtain ⟨hk, ⟨L, o, hf, hn, ho, hd⟩, hr⟩ := hl
      have hL : L ∈ X.fs := hs L (by unfold frs; rw [List.filterMap_cons, hf]; exact List.mem_cons_self)
      obtain ⟨sl, e⟩ := I.base.slot L o ho (I.ok.frf L hL) hL fun z => I.ok.exfs L z hL
      exact ⟨hk, ⟨L, _, hf, hn, e, hd⟩, ih (fun b hb => hs b (by unfold frs; rw [List.filterMap_cons, hf]; exact List.mem_cons_of_mem _ hb)) hr⟩
  exact all X.outer (fun _ hb => hb) I.ok.funs

theorem Inv.stack (I : Inv X pins σ H s) : s.heap.FunFrames X.base X.stack := by
  rcases I.ok.stk with e | ⟨e, hf⟩
  · rw [e]; exact I.funs
  · rw [e]
    obtain ⟨m, hn, _⟩ := I.loc
    refine .cons (by rw [I.ok.kind]; decide) hf hn ?_ I.funs
    exact Heap.get?_none_of_le (Nat.le_trans I.ok.bsz I.ok.above)
theorem Inv.stkSub (I : Inv X pins σ H s) : ∀ b ∈ frs X.stack, b ∈ X.env.locals :: X.fs := fun b hb => by
  rcases I.ok.stk with e | ⟨e, hf⟩
  · rw [e] at hb; exact List.mem_cons_of_mem _ hb
  · rw [e] at hb
    unfold frs at hb
    rw [List.filterMap_cons, hf] at hb
    exact hb
theorem Inv.stkFree (I : Inv X pins σ H s) : ∀ b ∈ frs X.stack, H b = none := fun b hb => by
  rcases List.mem_cons.mp (I.stkSub b hb) with e | hb
  · rw [e]; exact I.free
  · obtain ⟨_, o, ho, _⟩ := I.ok.funs.mem hb
    exact I.base.free b o ho (I.ok.frf b hb) fun z => I.ok.exfs b z hb

theorem Inv.step {g' : Array GenState} {t' : Nat} {d' : Drawn} {ch : List Addr} (I : Inv X pins σ H s)
    (hch : ∀ b ∈ ch, (b ∈ X.ex ∨ X.s_0.heap.objs.size ≤ b) ∧ b ≠ X.env.locals ∧ (∀ x c, X.env.cells.lookup x = some c → c ≠ b) ∧ ∀ p ∈ X.pn ++ pins, p.1 ≠ b)
    (keep : ∀ b o, b ≠ X.env.locals → b ∉ X.fs → b ∉ ch → s.heap.get? b = some o → H b = none → h'.get? b = some o)
    (slot : ∀ b o, b ≠ X.env.locals → b ∈ X.fs → b ∉ ch → s.heap.get? b = some o → H b = none → ∃ sl, h'.get? b = some { o with slots := sl }) (free : ∀ b o, b ∉ ch → s.heap.get? b = some o → H b = none → H' b = none)
    (there : ∀ b o, b ∉ ch → s.heap.get? b = some o → ∃ o', h'.get? b = some o')
    (tups : ∀ b xs, H b = some (.tup xs) → H' b = some (.tup xs)) (frzs : ∀ b o u, H b = some (.frz o u) → H' b = some (.frz o u)) (tbls : ∀ b ps, H b = some (.tbl ps) → ∃ more, H' b = some (.tbl (ps ++ more)))
    (ns : ∀ m, s.heap.Ns X.env.locals m → h'.Ns X.env.locals m) (hok : HOk X.prog X.w H' h') (hg : AllBare g') :
    Inv X pins σ H' { s with heap := h', gens := g', drawn := d', toks := t' } := by
  have neL : ∀ b o, X.s_0.heap.get? b = some o → b ≠ X.env.locals := fun b o e => Nat.ne_of_lt (Nat.lt_of_lt_of_le (Heap.lt_size e) I.ok.above)
  have neC : ∀ b o, X.s_0.heap.get? b = some o → b ∉ X.ex → b ∉ ch := fun b o e hx hb => by
    rcases (hch b hb).1 with z | z
    · exact hx z
    · exact absurd (Nat.lt_of_lt_of_le (Heap.lt_size e) z) (Nat.lt_irrefl _)
  have cellK : ∀ x c, X.env.cells.lookup x = some c → ∀ v, s.heap.IsCell c v → h'.IsCell c v := fun x c e v ⟨o, ho, hd⟩ => by
    have nch : c ∉ ch := fun z => (hch c z).2.2.1 x c e rfl
    by_cases hc : c ∈ X.fs
    · obtain ⟨sl, q⟩ := slot c o (I.cne x c e) hc nch ho (I.freeC x c e)
      exact ⟨_, q, hd⟩
    · exact ⟨o, keep c o (I.cne x c e) hc nch ho (I.freeC x c e), hd⟩
  refine ⟨I.ok, I.os, hg, ⟨fun b o e n hb hx => ?_, fun b o e n hb hx => ?_, fun b o e n hx => ?_, fun b o e hx => ?_, fun b xs e => tups b xs (I.base.tups b xs e), fun b o xs e => frzs b o xs (I.base.frzs b o xs e), fun b ps e => ?_⟩, ?_, fun x c e => ?_, ?_, fun x c e => ?_, fun p hp => ?_, hok, I.len⟩
  · exact keep b o (neL b o e) hb (neC b o e hx) (I.base.keep b o e n hb hx) (I.base.free b o e n hx)
  · obtain ⟨sl, e1⟩ := I.base.slot b o e n hb hx
    obtain ⟨sl', e2⟩ := slot b _ (neL b o e) hb (neC b o e hx) e1 (I.base.free b o e n hx)
    exact ⟨sl', e2⟩
  · obtain ⟨o', e1⟩ := I.base.there b o e hx
    exact free b o' (neC b o e hx) e1 (I.base.free b o e n hx)
  · obtain ⟨o', e1⟩ := I.base.there b o e hx
    exact there b o' (neC b o e hx) e1
  · obtain ⟨m1, e1⟩ := I.base.tbls b ps e
    obtain ⟨m2, e2⟩ := tbls b _ e1
    exact ⟨m1 ++ m2, by rw [e2, Array.append_assoc]⟩
  · obtain ⟨m, hn, hl⟩ := I.loc
    refine ⟨m, ns m hn, fun i x v e1 e2 e3 => ?_⟩
    obtain ⟨u, r, l⟩ := hl i x v e1 e2 e3
    refine ⟨u, r, ?_⟩
    rcases l with l | ⟨k, c, e, z⟩
    · exact .inl l
    · exact .inr ⟨k, c, e, cellK x c e _ z⟩
  · obtain ⟨v, z⟩ := I.cell x c e
    exact ⟨v, cellK x c e v z⟩
  · obtain ⟨m, ⟨o, _, _, ho, _⟩, _⟩ := I.loc
    exact free _ o (fun z => (hch _ z).2.1 rfl) ho I.free
  · obtain ⟨v, o, ho, hd⟩ := I.cell x c e
    exact free c o (fun z => (hch c z).2.2.1 x c e rfl) ho (I.freeC x c e)
  · obtain ⟨e, n, ne, nf, d⟩ := I.pin p hp
    have nch : p.1 ∉ ch := fun z => (hch p.1 z).2.2.2 p hp rfl
    exact ⟨keep p.1 p.2 ne nf nch e n, free p.1 p.2 nch e n, ne, nf, d⟩
theorem Inv.un {t' : Nat} (I : Inv X pins σ H s) (u : Un X.fs [] H H' s.heap h') (hok : HOk X.prog X.w H' h') : Inv X pins σ H' { s with heap := h', toks := t' } := by
  obtain ⟨m, ⟨o, es, ep, ho, r⟩, _⟩ := id I.loc
  obtain ⟨sl, hL⟩ := u.any ho I.free (by simp)
  exact I.step (g' := s.gens) (d' := s.drawn) (ch := []) (fun _ z => nomatch z) (fun b o _ hb _ e n => u.keep b o e n hb (by simp)) (fun b o _ hb _ e n => u.slot b o e n hb (by simp)) (fun b o _ e n => u.free b o e n (by simp)) (fun b o _ e => u.there b o e (by simp)) u.tups u.frzs u.tbls (fun m' hm => by
    obtain ⟨o', es', ep', ho', r'⟩ := hm
    rw [ho] at ho'; cases ho'
    exact ⟨_, es', ep', hL, r'⟩) hok I.bare
theorem Inv.call {g' : Array GenState} {t' : Nat} {d' : Drawn} {ch : List Addr} (I : Inv X pins σ H s) (u : Un (frs X.stack) ch H H' s.heap h') (hok : HOk X.prog X.w H' h') (hg : AllBare g')
    (hch : ∀ b ∈ ch, (b ∈ X.ex ∨ X.s_0.heap.objs.size ≤ b) ∧ b ≠ X.env.locals ∧ (∀ x c, X.env.cells.lookup x = some c → c ≠ b) ∧ ∀ p ∈ X.pn ++ pins, p.1 ≠ b) :
    Inv X pins σ H' { s with heap := h', gens := g', drawn := d', toks := t' } := by
  obtain ⟨m, ⟨o, es, ep, ho, r⟩, _⟩ := id I.loc
  obtain ⟨sl, hL⟩ := u.any ho I.free fun z => (hch _ z).2.1 rfl
  exact I.step (ch := ch) hch (fun b o hL hb hc e n => u.keep b o e n (fun z => (List.mem_cons.mp (I.stkSub b z)).elim hL hb) hc) (fun b o _ _ hc e n => u.any e n hc) (fun b o hc e n => u.free b o e n hc) (fun b o hc e => u.there b o e hc) u.tups u.frzs u.tbls (fun m' hm => by
    obtain ⟨o', es', ep', ho', r'⟩ := hm
    rw [ho] at ho'; cases ho'
    exact ⟨_, es', ep', hL, r'⟩) hok hg
theorem Inv.turned {t' : Nat} {it : Addr} (I : Inv X pins σ H s) (k : ∀ b o, b ≠ it → s.heap.get? b = some o → h'.get? b = some o) (hn : H it = none) (hL : it ≠ X.env.locals)
    (h1 : it ∈ X.ex ∨ X.s_0.heap.objs.size ≤ it) (h2 : ∀ x c, X.env.cells.lookup x = some c → c ≠ it) (h3 : ∀ p ∈ X.pn ++ pins, p.1 ≠ it) : Inv X pins σ H { s with heap := h', toks := t' } := by
  have nit : ∀ b u, H b = some u → b ≠ it := fun b u e z => by rw [z, hn] at e; cases e
  refine I.step (g' := s.gens) (d' := s.drawn) (ch := [it]) (fun b hb => ?_) (fun b o _ _ hc e _ => k b o (fun z => hc (by simp [z])) e) (fun b o _ _ hc e _ => ⟨o.slots, k b o (fun z => hc (by simp [z])) e⟩) (fun _ _ _ _ n => n)
    (fun b o hc e => ⟨o, k b o (fun z => hc (by simp [z])) e⟩) (fun _ _ e => e) (fun _ _ _ e => e) (fun b ps e => ⟨#[], by rw [e]; simp⟩) (fun m hm => ?_) (fun b u e => ?_) I.bare
  · have e : b = it := by simpa using hb
    subst e
    exact ⟨h1, hL, h2, h3⟩
  · obtain ⟨o, es, ep, ho, r⟩ := hm
    exact ⟨o, es, ep, k _ o (Ne.symm hL) ho, r⟩
  · refine (I.hok b u e).stay (fun c v hc q => k c v ?_ q) (fun _ q => q) fun _ _ q => q
    rcases hc with z | z
    · rw [z]; exact nit b u e
    · exact nit c _ z
theorem Inv.tok (I : Inv X pins σ H s) (t : Nat) : Inv X pins σ H { s with toks := t } := I.un (h' := s.heap) (t' := t) Un.refl I.hok
theorem Inv.kept {t' : Nat} (I : Inv X pins σ H s) (k : ∀ b u, s.heap.get? b = some u → h'.get? b = some u) : Inv X pins σ H { s with heap := h', toks := t' } := I.un (Un.kept k) (I.hok.kept k)
theorem Inv.laid {a : Addr} {o : HO} {t' : Nat} (I : Inv X pins σ H s) (k : ∀ b u, s.heap.get? b = some u → h'.get? b = some u) (hp : s.heap.objs.size ≤ a) (new : ObjOk X.prog X.w (upd H a o) h' a o) :
    Inv X pins σ (upd H a o) { s with heap := h', toks := t' } := I.un (Un.laid k hp (I.hok.fresh hp)) (I.hok.laid k hp new)
theorem Inv.write {x e : Addr} {o : HO} {t' : Nat} (I : Inv X pins σ H s) (mu : Mut (H x)) (he : e = x ∨ H e = some (.own x)) (k : ∀ b u, b ≠ e → s.heap.get? b = some u → h'.get? b = some u) (heo : ∃ u, h'.get? e = some u)
    (new : ObjOk X.prog X.w (upd H x o) h' x o) : Inv X pins σ (upd H x o) { s with heap := h', toks := t' } := I.un (Un.write mu he k heo) (I.hok.write mu he k heo new)
theorem Inv.weak {σ' : List (Option V)} (I : Inv X pins σ H s) (hl : σ'.length = σ.length) (w : ∀ (i : Nat) v, σ'[i]? = some (some v) → σ[i]? = some (some v)) : Inv X pins σ' H s :=
  ⟨I.ok, I.os, I.bare, I.base, let ⟨m, hn, hl'⟩ := I.loc; ⟨m, hn, fun i x v e1 e2 e3 => hl' i x v e1 (w i v e2) e3⟩, I.cell, I.free, I.freeC, I.pin, I.hok, hl.trans I.len⟩
theorem Inv.pins_of {pins' : List (Addr × Obj)} (I : Inv X pins σ H s) (h : ∀ p ∈ pins', s.heap.get? p.1 = some p.2 ∧ H p.1 = none ∧ p.1 ≠ X.env.locals ∧ p.1 ∉ X.fs ∧ ∀ v, p.2.data ≠ .cell v) : Inv X pins' σ H s :=
  ⟨I.ok, I.os, I.bare, I.base, I.loc, I.cell, I.free, I.freeC, fun p hp => (List.mem_append.mp hp).elim (fun z => I.pin p (List.mem_append_left _ z)) (h p), I.hok, I.len⟩

theorem nodup_ix {N : List Str} (hN : N.Nodup) {i j : Nat} {x : Str} (a : N[i]? = some x) (b : N[j]? = some x) : i = j := by
  obtain ⟨h1, e1⟩ := List.getElem?_eq_some_iff.mp a
  obtain ⟨h2, e2⟩ := List.getElem?_eq_some_iff.mp b
  exact (List.getElem_inj hN).mp (e1.trans e2.symm)

theorem store_ok2 {M : Model} {A : Around} {E : Value → Shared → Prop} {i : Nat} {x : Str} {v : V} {u : Value} {Q : Unit → Shared → Prop} (I : Inv X pins σ H s) (hN : X.N.Nodup) (hi : X.N[i]? = some x) (hx : Loc X.env.scope x) (r : RelV v u)
    (h : ∀ s', Inv X pins (σ.set i (some v)) H s' → (∃ a, Heap.SameBut a s.heap s'.heap ∧ (a = X.env.locals ∨ X.env.cells.lookup x = some a)) → Q () s') (hf : X.fn x = true ∨ X.env.scope.names.lookup x = some .local := by first | exact .inl rfl | exact .inr rfl | assumption) : wpAny M A (storeName X.env x u) Q E s := by
  obtain ⟨m, hn, hl⟩ := id I.loc
  have hcls : (X.env.scope.kind == .class || (X.env.scope.kind == .module && X.env.locals != X.env.globals)) = false := by rw [I.ok.kind]; rfl
  have hiσ : i < σ.length := by rw [I.len]; exact (List.getElem?_eq_some_iff.mp hi).1
  have cne := I.cne
  have tracked : ∀ {a : Addr} {h' : Heap}, (∃ o, s.heap.get? a = some o ∧ H a = none) → Heap.SameBut a s.heap h' → HOk X.prog X.w H h' := fun {a h'} ha hs b ob e => by
    obtain ⟨_, _, hfree⟩ := ha
    refine (I.hok b ob e).stay (fun c w' hc q => (hs.2 c ?_).trans q) (fun _ q => q) fun _ _ q => q
    rintro rfl
    rcases hc with rfl | hc
    · rw [hfree] at e; cases e
    · rw [hfree] at hc; cases hc
  rcases hx with hk | hk
  · refine wpAny_storeName_local hk hn (fun h' hn' hs => ?_) hcls
    obtain ⟨oL, _, _, hoL, _⟩ := id hn
    refine h _ ⟨I.ok, I.os, I.bare, ⟨fun b o e n hb hx => ?_, fun b o e n hb hx => ?_, I.base.free, fun b o e hx => ?_, I.base.tups, I.base.frzs, I.base.tbls⟩, ⟨_, hn', fun j y v' e1 e2 e3 => ?_⟩, fun y c e => ?_, I.free, I.freeC, fun p hp => ?_, tracked ⟨oL, hoL, I.free⟩ hs, by simpa using I.len⟩ ⟨_, hs, .inl rfl⟩
    · exact (hs.2 b (Nat.ne_of_lt (Nat.lt_of_lt_of_le (Heap.lt_size e) I.ok.above))).trans (I.base.keep b o e n hb hx)
    · obtain ⟨sl, e1⟩ := I.base.slot b o e n hb hx
      exact ⟨sl, (hs.2 b (Nat.ne_of_lt (Nat.lt_of_lt_of_le (Heap.lt_size e) I.ok.above))).trans e1⟩
    · obtain ⟨o', e1⟩ := I.base.there b o e hx
      exact ⟨o', (hs.2 b (Nat.ne_of_lt (Nat.lt_of_lt_of_le (Heap.lt_size e) I.ok.above))).trans e1⟩
    · by_cases hj : j = i
      · subst hj
        rw [hi] at e1; cases e1
        rw [List.getElem?_set_self hiσ] at e2
        cases e2
        exact ⟨u, r, .inl ⟨hk, by simp⟩⟩
      · rw [List.getElem?_set_ne (Ne.symm hj)] at e2
        obtain ⟨u', r', q⟩ := hl j y v' e1 e2 e3
        refine ⟨u', r', ?_⟩
        rcases q with ⟨k, e⟩ | ⟨k, c, e, z⟩
        · refine .inl ⟨k, ?_⟩
          have : y ≠ x := fun e => hj (nodup_ix hN e1 (e ▸ hi))
          simp [this, e]
        · exact .inr ⟨k, c, e, z.sameBut hs (cne y c e)⟩
    · obtain ⟨w', z⟩ := I.cell y c e
      exact ⟨w', z.sameBut hs (cne y c e)⟩
    · obtain ⟨e, n, ne, nf, d⟩ := I.pin p hp
      exact ⟨(hs.2 p.1 ne).trans e, n, ne, nf, d⟩
  · have hfn : X.fn x = true := by
      rcases hf with z | z
      · exact z
      · rw [z] at hk; cases hk
    obtain ⟨c, hc⟩ := I.ok.has x (.inl hk)
    obtain ⟨w', z⟩ := I.cell x c hc
    refine wpAny_storeName_cell I.ok.kind hk hc z (fun h' hc' hs => ?_)
    obtain ⟨oc, hoc, hocd⟩ := id z
    refine h { s with heap := h' } ⟨I.ok, I.os, I.bare, ⟨fun b o e n hb hx => ?_, fun b o e n hb hx => ?_, I.base.free, fun b o e hx => ?_, I.base.tups, I.base.frzs, I.base.tbls⟩, ⟨m, hn.sameBut hs (Ne.symm (cne x c hc)), fun j y v' e1 e2 e3 => ?_⟩, fun y c' e => ?_, I.free, I.freeC, fun p hp => ?_, tracked ⟨oc, hoc, I.freeC x c hc⟩ hs, by simpa using I.len⟩ ⟨c, hs, .inr hc⟩
    · exact (hs.2 b (Nat.ne_of_lt (Nat.lt_of_lt_of_le (Heap.lt_size e) (I.ok.cab x c hfn hc)))).trans (I.base.keep b o e n hb hx)
    · obtain ⟨sl, e1⟩ := I.base.slot b o e n hb hx
      exact ⟨sl, (hs.2 b (Nat.ne_of_lt (Nat.lt_of_lt_of_le (Heap.lt_size e) (I.ok.cab x c hfn hc)))).trans e1⟩
    · obtain ⟨o', e1⟩ := I.base.there b o e hx
      exact ⟨o', (hs.2 b (Nat.ne_of_lt (Nat.lt_of_lt_of_le (Heap.lt_size e) (I.ok.cab x c hfn hc)))).trans e1⟩
    · by_cases hj : j = i
      · subst hj
        rw [hi] at e1; cases e1
        rw [List.getElem?_set_self hiσ] at e2
        cases e2
        exact ⟨u, r, .inr ⟨.inl hk, c, hc, hc'⟩⟩
      · rw [List.getElem?_set_ne (Ne.symm hj)] at e2
        obtain ⟨u', r', q⟩ := hl j y v' e1 e2 e3
        refine ⟨u', r', ?_⟩
        rcases q with q | ⟨k, c', e, z'⟩
        · exact .inl q
        · refine .inr ⟨k, c', e, z'.sameBut hs ?_⟩
          rintro rfl
          exact hj (nodup_ix hN e1 (I.ok.inj _ _ _ e hc ▸ hi))
    · by_cases hcc : c' = c
      · subst hcc; exact ⟨_, hc'⟩
      · obtain ⟨w2, z2⟩ := I.cell y c' e
        exact ⟨w2, z2.sameBut hs hcc⟩
    · obtain ⟨e, n, ne, nf, d⟩ := I.pin p hp
      refine ⟨(hs.2 p.1 ?_).trans e, n, ne, nf, d⟩
      intro q
      rw [q, hoc] at e
      have q' : oc = p.2 := Option.some.inj e
      exact d w' (by rw [← q']; exact hocd)
theorem store_ok {M : Model} {A : Around} {E : Value → Shared → Prop} {i : Nat} {x : Str} {v : V} {u : Value} {Q : Unit → Shared → Prop} (I : Inv X pins σ H s) (hN : X.N.Nodup) (hi : X.N[i]? = some x) (hx : Loc X.env.scope x) (r : RelV v u)
    (h : ∀ s', Inv X pins (σ.set i (some v)) H s' → Q () s') (hf : X.fn x = true ∨ X.env.scope.names.lookup x = some .local := by first | exact .inl rfl | exact .inr rfl | assumption) : wpAny M A (storeName X.env x u) Q E s :=
  store_ok2 I hN hi hx r (fun s' I' _ => h s' I') hf
theorem Inv.call' {s' : Shared} {ch : List Addr} (I : Inv X pins σ H s) (ho : s'.os = s.os) (u : Un (frs X.stack) ch H H' s.heap s'.heap) (hok : HOk X.prog X.w H' s'.heap) (hg : AllBare s'.gens)
    (hch : ∀ b ∈ ch, (b ∈ X.ex ∨ X.s_0.heap.objs.size ≤ b) ∧ b ≠ X.env.locals ∧ (∀ x c, X.env.cells.lookup x = some c → c ≠ b) ∧ ∀ p ∈ X.pn ++ pins, p.1 ≠ b) : Inv X pins σ H' s' := by
  obtain ⟨h', g', d', t', o'⟩ := s'
  have e : o' = s.os := ho
  subst e
  exact I.call (g' := g') (t' := t') (d' := d') u hok hg hch
end

abbrev XK := Value → Option Addr → Hp → Prop
abbrev St := List (Option V)
abbrev VK := V → Hp → Prop
abbrev TE := St → Hp → VK → Prop
abbrev TT := St → Hp → (Bool → Hp → Prop) → Prop
abbrev TA := St → Hp → (List V → Hp → Prop) → Prop
structure Ends where
  nx : St → Hp → Prop
  rt : VK
  bk : St → Hp → Prop := fun _ _ => False
  ct : St → Hp → Prop := fun _ _ => False
abbrev TS := Ends → St → Hp → Prop

def EP (X : Cx) (pins : List (Addr × Obj)) (σ : St) (Q : VK) (u : Value) (s' : Shared) : Prop := ∃ v H', Inv X pins σ H' s' ∧ RelV v u ∧ Q v H'
def TP (X : Cx) (pins : List (Addr × Obj)) (σ : St) (Q : Bool → Hp → Prop) (b : Bool) (s' : Shared) : Prop := ∃ H', Inv X pins σ H' s' ∧ Q b H'
def AP (X : Cx) (pins : List (Addr × Obj)) (σ : St) (Q : List V → Hp → Prop) (us : List Value) (s' : Shared) : Prop := ∃ vs H', Inv X pins σ H' s' ∧ Vals vs us ∧ Q vs H'
def SP (X : Cx) (pins : List (Addr × Obj)) (D : Ends) (f : Flow) (s' : Shared) : Prop :=
  match f with
  | .next => ∃ σ' H', Inv X pins σ' H' s' ∧ D.nx σ' H'
  | .brk => ∃ σ' H', Inv X pins σ' H' s' ∧ D.bk σ' H'
  | .cont => ∃ σ' H', Inv X pins σ' H' s' ∧ D.ct σ' H'
  | .ret u => ∃ v σ' H', Inv X pins σ' H' s' ∧ RelV v u ∧ D.rt v H'

def PE (X : Cx) (e : Expr) (t : TE) : Prop :=
  ∀ (pins : List (Addr × Obj)) (s : Shared) (σ : St) (H : Hp) (Q : VK), Inv X pins σ H s → t σ H Q → wpAny (model X.prog X.w) X.A (eval e X.env) (EP X pins σ Q) X.xe s
def PT (X : Cx) (e : Expr) (t : TT) : Prop :=
  ∀ (pins : List (Addr × Obj)) (s : Shared) (σ : St) (H : Hp) (Q : Bool → Hp → Prop), Inv X pins σ H s → t σ H Q → wpAny (model X.prog X.w) X.A (isTrue e X.env (eval e X.env)) (TP X pins σ Q) X.xe s
def PW (X : Cx) (e : Expr) (t : TT) : Prop :=
  ∀ (whole : Sem Value) (pins : List (Addr × Obj)) (s : Shared) (σ : St) (H : Hp) (Q : Bool → Hp → Prop), Inv X pins σ H s → t σ H Q → wpAny (model X.prog X.w) X.A (isTrue e X.env whole) (TP X pins σ Q) X.xe s
theorem PW.pt {X : Cx} {e : Expr} {t : TT} (h : PW X e t) : PT X e t := h _
def PA (X : Cx) (es : List Expr) (t : TA) : Prop :=
  ∀ (pos : Pos) (pins : List (Addr × Obj)) (s : Shared) (σ : St) (H : Hp) (Q : List V → Hp → Prop), Inv X pins σ H s → t σ H Q → wpAny (model X.prog X.w) X.A (spliced (backTo pos (starEach es X.env))) (AP X pins σ Q) X.xe s
def PS (X : Cx) (st : Stmt) (t : TS) : Prop :=
  ∀ (pins : List (Addr × Obj)) (s : Shared) (σ : St) (H : Hp) (D : Ends), Inv X pins σ H s → t D σ H → wpAny (model X.prog X.w) X.A (exec st X.env) (SP X pins D) X.xe s
def PSs (X : Cx) (st : List Stmt) (t : TS) : Prop :=
  ∀ (pins : List (Addr × Obj)) (s : Shared) (σ : St) (H : Hp) (D : Ends), Inv X pins σ H s → t D σ H → wpAny (model X.prog X.w) X.A (execs st X.env) (SP X pins D) X.xe s
theorem thn {α : Type} {t : Sem α} {Q Q' : α → Shared → Prop} {M : Model} {A : Around} {E : Value → Shared → Prop} {s : Shared} (h : wpAny M A t Q E s) (hQ : ∀ a s, Q a s → Q' a s) : wpAny M A t Q' E s := wpAny_mono h hQ fun _ _ x => x
end L2

namespace L2
open PySem PySem.Spec PyProof.Rows
section
variable {X : Cx}

def tVar (i : Nat) : TE := fun σ H Q => ∃ v, σ[i]? = some (some v) ∧ Q v H
def tC (v : V) : TE := fun _ H Q => Q v H
theorem pe_var {i : Nat} {x : Str} {pos : Pos} (hN : X.N[i]? = some x) (hv : Vis X.env.scope x) (hd : (x == ("__debug__" : Str)) = false := by decide) (hcd : (x == ("__classdict__" : Str)) = false := by decide) : PE X (.Name x pos) (tVar i) := by
  intro pins s σ H Q I h
  obtain ⟨v, e, h⟩ := h
  obtain ⟨m, hn, hl⟩ := I.loc
  obtain ⟨u, r, l⟩ := hl i x v hN e hv
  have fin : EP X pins σ Q u s := ⟨v, H, I, r, h⟩
  rcases l with ⟨hk, hm⟩ | ⟨hk, c, hc, hcell⟩
  · exact wpAny_Name (wpAny_loadName_local I.ok.kind hk hn hm fin) hd
  · rcases hk with hk | hk
    · exact wpAny_Name (wpAny_loadName_cell I.ok.kind hk hc hcell fin) hd
    · exact wpAny_Name (wpAny_loadName_free I.ok.kind hk hc hcell fin hcd) hd
theorem pe_int {i j pos} : PE X (.Constant (.int i) j pos) (tC (.int i)) := fun _ _ _ H _ I h => wpAny_Constant_int ⟨.int i, H, I.tok _, ⟨_, rfl⟩, h⟩
def Gl (X : Cx) (x : Str) : Prop := X.env.kindOf x = some .globalImplicit
theorem ld_glob {E : Value → Shared → Prop} {pins : List (Addr × Obj)} {s : Shared} {σ : St} {H : Hp} {x : Str} {u : Value} {pos : Pos} {Q : Value → Shared → Prop} (I : Inv X pins σ H s) (hg : Gl X x) (hm : X.mg x = some u) (h : Q u s)
    (hd : (x == ("__debug__" : Str)) = false := by decide) : wpAny (model X.prog X.w) X.A (eval (.Name x pos) X.env) Q E s :=
  Calls.Name_function_global I.ok.kind hg (Calls.loadGlobal_global (by rw [I.ok.glob]; exact I.mod.glob.keeps I.bk) hm h) hd
theorem ld_blt {E : Value → Shared → Prop} {pins : List (Addr × Obj)} {s : Shared} {σ : St} {H : Hp} {x : Str} {u : Value} {pos : Pos} {Q : Value → Shared → Prop} (I : Inv X pins σ H s) (hg : Gl X x) (hm : X.mg x = none) (hv : bootBuiltins x = some u) (h : Q u s)
    (hn : x ≠ "__name__" := by decide) (hd : (x == ("__debug__" : Str)) = false := by decide) : wpAny (model X.prog X.w) X.A (eval (.Name x pos) X.env) Q E s := by
  obtain ⟨mb, h1, h2⟩ := I.mod.blt
  exact Calls.Name_function_global I.ok.kind hg (Calls.loadGlobal_builtin (by rw [I.ok.glob]; exact I.mod.glob.keeps I.bk) hm (by rw [I.ok.blt]; exact h1.keeps I.bk) ((h2 x hn).trans hv) h) hd
theorem pe_glob {x : Str} {v : V} {u : Value} {pos : Pos} (hg : Gl X x) (hm : X.mg x = some u) (r : RelV v u) (hd : (x == ("__debug__" : Str)) = false := by decide) : PE X (.Name x pos) (tC v) :=
  fun _ _ _ H _ I h => ld_glob I hg hm ⟨v, H, I, r, h⟩ hd
variable {a b : Expr} {ta tb : TE} {pos : Pos}
def PC (X : Cx) (op : CmpOp) (a b : Expr) (t : TE) : Prop :=
  ∀ (pins : List (Addr × Obj)) (s : Shared) (σ : St) (H : Hp) (Q : VK), Inv X pins σ H s → t σ H Q →
    wpAny (model X.prog X.w) X.A (eval a X.env) (fun v s₁ => wpAny (model X.prog X.w) X.A (eval b X.env) (fun u s₂ => wpAny (model X.prog X.w) X.A (compareOp op v u) (EP X pins σ Q) X.xe s₂) X.xe s₁) X.xe s
theorem nobehind (b : Expr) {op : CmpOp} (h : op ≠ .In) (h2 : op ≠ .NotIn) : behindInMarks op b = false := by
  have e1 : (op == CmpOp.In) = false := by cases op <;> first | rfl | exact absurd rfl h
  have e2 : (op == CmpOp.NotIn) = false := by cases op <;> first | rfl | exact absurd rfl h2
  cases b <;> simp [behindInMarks, e1, e2]
def tB (t : TE) : TT := fun σ H Q => t σ H fun x H1 => ∃ c, x = .bl c ∧ Q c H1
theorem pt_cmp {op : CmpOp} {t : TE} (h : PC X op a b t) (h1 : behindInMarks op b = false := by first | exact nobehind _ (by decide) (by decide) | rfl) : PT X (.Compare a [op] [b] pos) (tB t) := by
  intro pins s σ H Q I hw
  refine wpAny_isTrue_Compare1 (thn (h pins s σ H _ I hw) fun v s1 h1 => thn h1 fun u s2 h2 => thn h2 fun c s3 ⟨x, H1, I1, r1, q1⟩ => ?_) h1
  obtain ⟨d, rfl, q⟩ := q1
  cases r1
  exact wpAny_truthy_bool ⟨H1, I1, q⟩
theorem pt_val {e : Expr} {t : TE} (h : PE X e t) (he : ∀ whole, isTrue e X.env whole = (do let v ← whole; standAt e.pos; holding [v] (truthy v)) := by intro _; rfl) : PT X e (tB t) := by
  intro pins s σ H Q I hw
  refine isTrue_plain (thn (h pins s σ H _ I hw) fun v s1 ⟨x, H1, I1, r1, q1⟩ => ?_) (he _)
  obtain ⟨d, rfl, q⟩ := q1
  cases r1
  exact wpAny_truthy_bool ⟨H1, I1, q⟩

variable {tA tB' : TT} {rest : List Expr}
def tAnd (t u : TT) : TT := fun σ H Q => t σ H fun c H1 => if c = true then u σ H1 Q else Q false H1
def tOr (t u : TT) : TT := fun σ H Q => t σ H fun c H1 => if c = true then Q true H1 else u σ H1 Q
def tNot (t : TT) : TT := fun σ H Q => t σ H fun c H1 => Q (!c) H1
theorem pw_and1 (ha : PT X a tA) : PW X (.BoolOp .And [a] pos) tA := by
  intro wh pins s σ H Q I h
  refine isTrue_and (thn (ha pins s σ H Q I h) fun c s1 e => ?_)
  cases c with
  | true => exact isTrue_and_nil e
  | false => exact e
theorem pw_or1 (ha : PT X a tA) : PW X (.BoolOp .Or [a] pos) tA := by
  intro wh pins s σ H Q I h
  refine isTrue_or (thn (ha pins s σ H Q I h) fun c s1 e => ?_)
  cases c with
  | false => exact isTrue_or_nil e
  | true => exact e
theorem pw_and (ha : PT X a tA) (hb : PW X (.BoolOp .And (b :: rest) pos) tB') : PW X (.BoolOp .And (a :: b :: rest) pos) (tAnd tA tB') := by
  intro wh pins s σ H Q I h
  refine isTrue_and (thn (ha pins s σ H _ I h) fun c s1 ⟨H1, I1, q1⟩ => ?_)
  cases c with
  | true => exact hb wh pins s1 σ H1 Q I1 q1
  | false => exact ⟨H1, I1, q1⟩
theorem pw_or (ha : PT X a tA) (hb : PW X (.BoolOp .Or (b :: rest) pos) tB') : PW X (.BoolOp .Or (a :: b :: rest) pos) (tOr tA tB') := by
  intro wh pins s σ H Q I h
  refine isTrue_or (thn (ha pins s σ H _ I h) fun c s1 ⟨H1, I1, q1⟩ => ?_)
  cases c with
  | true => exact ⟨H1, I1, q1⟩
  | false => exact hb wh pins s1 σ H1 Q I1 q1
theorem pt_not (ha : PT X a tA) : PT X (.UnaryOp .Not a pos) (tNot tA) := by
  intro pins s σ H Q I h
  exact isTrue_not (ha pins s σ H (fun c H1 => Q (!c) H1) I h)
def tAndV (ta tb : TE) : TE := fun σ H Q => ta σ H fun x H1 => ∃ c, x = .bl c ∧ if c = true then tb σ H1 Q else Q (.bl false) H1
theorem pe_one {op} {t : TE} (h : PE X a t) : PE X (.BoolOp op [a] pos) t := fun pins s σ H Q I hw => BoolOp_one (h pins s σ H Q I hw)
theorem pe_and (ha : PE X a ta) (hb : PE X (.BoolOp .And (b :: rest) pos) tb) : PE X (.BoolOp .And (a :: b :: rest) pos) (tAndV ta tb) := by
  intro pins s σ H Q I h
  refine BoolOp_and (thn (ha pins s σ H _ I h) fun v s1 ⟨x, H1, I1, r1, q1⟩ => ?_)
  obtain ⟨c, rfl, q1⟩ := q1
  cases r1
  refine wpAny_truthy_bool ?_
  cases c with
  | true => exact hb pins s1 σ H1 Q I1 q1
  | false => exact ⟨.bl false, H1, I1, rfl, q1⟩
def tIf (t : TT) (ta tb : TE) : TE := fun σ H Q => t σ H fun c H1 => if c = true then ta σ H1 Q else tb σ H1 Q
theorem pe_ifExp {c : Expr} (hc : PT X c tA) (ha : PE X a ta) (hb : PE X b tb) : PE X (.IfExp c a b pos) (tIf tA ta tb) := by
  intro pins s σ H Q I h
  refine wpAny_IfExp (thn (hc pins s σ H _ I h) fun d s1 ⟨H1, I1, q1⟩ => ?_)
  cases d with
  | true => exact ha pins s1 σ H1 Q I1 q1
  | false => exact hb pins s1 σ H1 Q I1 q1
end
end L2

namespace L2
open PySem PySem.Spec PyProof.Rows

def SqL (K : PySem.W.Frag) (H : Hp) (a : Addr) (xs : List V) : Prop :=
  Rd H a (.lst xs) ∨
    ∃ (o : Obj) (its : Array Value) (n : Nat), K.lookup a = some o ∧ o.cls = .type "list" ∧ o.dict = none ∧ o.data = .seq its n ∧ its.size ≤ sizeLine ∧ Vals xs its.toList
def SqT (K : PySem.W.Frag) (H : Hp) (a : Addr) (xs : List V) : Prop :=
  Rd H a (.tup xs) ∨
    ∃ (o : Obj) (its : Array Value) (n : Nat), K.lookup a = some o ∧ o.cls = .type "tuple" ∧ o.data = .seq its n ∧ its.size ≤ sizeLine ∧ Vals xs its.toList
def absV : Value → Option V
  | .none => some .non
  | .bool b => some (.bl b)
  | .int i _ => some (.int i)
  | .str x _ => some (.str x)
  | .bytes b _ => some (.byt b)
  | .float b _ => some (.flt b)
  | .ref a => some (.ref a)
  | .type n => some (.ty n)
  | _ => none
theorem RelV.abs {x : V} {u : Value} (r : RelV x u) : absV u = some x := by
  cases x with
  | non => cases r; rfl
  | bl _ => cases r; rfl
  | int _ => obtain ⟨t, rfl⟩ := r; rfl
  | str _ => obtain ⟨t, rfl⟩ := r; rfl
  | byt _ => obtain ⟨t, rfl⟩ := r; rfl
  | flt _ => obtain ⟨t, rfl⟩ := r; rfl
  | ref _ => cases r; rfl
  | ty _ => cases r; rfl
theorem RelV.inj {x y : V} {u : Value} (r : RelV x u) (q : RelV y u) : x = y := Option.some.inj (r.abs.symm.trans q.abs)
theorem Vals.inj : ∀ {xs ys : List V} {us : List Value}, Vals xs us → Vals ys us → xs = ys
  | _, _, _, .nil, .nil => rfl
  | _, _, _, .cons r t, .cons r' t' => by rw [r.inj r', Vals.inj t t']
section
variable {X : Cx} {pins : List (Addr × Obj)} {σ : St} {H : Hp} {s : Shared} {a : Addr} {xs ys : List V}
theorem SqL.of {K : PySem.W.Frag} (h : H a = some (.lst xs)) : SqL K H a xs := .inl (.inl h)
theorem SqT.of {K : PySem.W.Frag} (h : H a = some (.tup xs)) : SqT K H a xs := .inl (.inl h)
theorem Inv.list (I : Inv X pins σ H s) (h : SqL X.K H a xs) : ∃ its : List Value, Vals xs its ∧ PlainL s.heap a its.toArray ∧ xs.length ≤ sizeLine := by
  rcases h with h | ⟨o, its, n, hk, hc, hd, hs, hz, r⟩
  · obtain ⟨z, its, n, r, e⟩ := h.ok I.hok
    exact ⟨its, r, ⟨_, n, e, rfl, rfl, rfl⟩, z⟩
  · refine ⟨its.toList, r, ⟨o, n, I.kIn a o hk, hc, hd, by simpa using hs⟩, ?_⟩
    have e := r.length
    simp only [Array.length_toList] at e
    omega
theorem Inv.tuple (I : Inv X pins σ H s) (h : SqT X.K H a xs) : ∃ its : List Value, Vals xs its ∧ IsTup s.heap a its.toArray ∧ xs.length ≤ sizeLine := by
  rcases h with h | ⟨o, its, n, hk, hc, hs, hz, r⟩
  · obtain ⟨z, its, r, p⟩ := h.ok I.hok
    exact ⟨its, r, p, z⟩
  · refine ⟨its.toList, r, ⟨o, I.kIn a o hk, hc, n, by simpa using hs⟩, ?_⟩
    have e := r.length
    simp only [Array.length_toList] at e
    omega
theorem Inv.list_inj (I : Inv X pins σ H s) (h : SqL X.K H a xs) (h' : SqL X.K H a ys) : xs = ys := by
  obtain ⟨its, r, ⟨o, n, e, _, _, d⟩, _⟩ := I.list h
  obtain ⟨its', r', ⟨o', n', e', _, _, d'⟩, _⟩ := I.list h'
  rw [e] at e'; cases e'
  rw [d] at d'
  injection d' with d1 _
  have : its = its' := by simpa using congrArg Array.toList d1
  subst this
  exact r.inj r'
end

abbrev Cx.wish (X : Cx) (E : Value → Shared → Prop) : Cx := { X with xe := E }
abbrev Cx.nox (X : Cx) : Cx := X.wish fun _ _ => False
theorem Cx.Ok.wish {X : Cx} (ok : X.Ok) (E : Value → Shared → Prop) : (X.wish E).Ok :=
  ⟨ok.mod, ok.kind, ok.glob, ok.blt, ok.above, ok.inj, ok.has, ok.cab, ok.hd, ok.frames, ok.stk, ok.exf, ok.bs, ok.bsz, ok.noex, ok.exfs, ok.funs, ok.frf⟩
theorem Cx.Ok.unwish {X : Cx} {E : Value → Shared → Prop} (ok : (X.wish E).Ok) : X.Ok :=
  ⟨ok.mod, ok.kind, ok.glob, ok.blt, ok.above, ok.inj, ok.has, ok.cab, ok.hd, ok.frames, ok.stk, ok.exf, ok.bs, ok.bsz, ok.noex, ok.exfs, ok.funs, ok.frf⟩
section
variable {X : Cx} {pins : List (Addr × Obj)} {σ : St} {H : Hp} {s : Shared} {E : Value → Shared → Prop}
theorem Inv.wish (I : Inv X pins σ H s) (E : Value → Shared → Prop) : Inv (X.wish E) pins σ H s := ⟨I.ok.wish E, I.os, I.bare, I.base, I.loc, I.cell, I.free, I.freeC, I.pin, I.hok, I.len⟩
theorem Inv.unwish (I : Inv (X.wish E) pins σ H s) : Inv X pins σ H s := ⟨I.ok.unwish, I.os, I.bare, I.base, I.loc, I.cell, I.free, I.freeC, I.pin, I.hok, I.len⟩
theorem SP.unwish {D : Ends} {f : Flow} {s' : Shared} (h : SP (X.wish E) pins D f s') : SP X pins D f s' := by
  cases f with
  | next => obtain ⟨σ', H', I, q⟩ := h; exact ⟨σ', H', I.unwish, q⟩
  | brk => obtain ⟨σ', H', I, q⟩ := h; exact ⟨σ', H', I.unwish, q⟩
  | cont => obtain ⟨σ', H', I, q⟩ := h; exact ⟨σ', H', I.unwish, q⟩
  | ret u => obtain ⟨v, σ', H', I, r, q⟩ := h; exact ⟨v, σ', H', I.unwish, r, q⟩
theorem PE.nox {e : Expr} {t : TE} (h : PE X.nox e t) : PE X e t := fun pins s σ H Q I hw =>
  wpAny_mono (h pins s σ H Q (I.wish _) hw) (fun _ _ ⟨v, H', I', r, q⟩ => ⟨v, H', I'.unwish, r, q⟩) fun _ _ z => False.elim z
theorem PT.nox {e : Expr} {t : TT} (h : PT X.nox e t) : PT X e t := fun pins s σ H Q I hw =>
  wpAny_mono (h pins s σ H Q (I.wish _) hw) (fun _ _ ⟨H', I', q⟩ => ⟨H', I'.unwish, q⟩) fun _ _ z => False.elim z
theorem PSs.nox {st : List Stmt} {t : TS} (h : PSs X.nox st t) : PSs X st t := fun pins s σ H D I hw =>
  wpAny_mono (h pins s σ H D (I.wish _) hw) (fun _ _ q => q.unwish) fun _ _ z => False.elim z
end

section
variable {X : Cx} {st : Stmt} {rest : List Stmt} {t u : TS} {e : Expr} {te : TE} {pos : Pos}
def tNext : TS := fun D σ H => D.nx σ H
def tSeq (t u : TS) : TS := fun D σ H => t { D with nx := u D } σ H
theorem pss_nil : PSs X [] tNext := fun _ _ σ H _ I h => wpAny_execs_nil ⟨σ, H, I, h⟩
theorem pss_cons (h1 : PS X st t) (h2 : PSs X rest u) : PSs X (st :: rest) (tSeq t u) := by
  intro pins s σ H D I h
  refine wpAny_execs_cons (thn (h1 pins s σ H { D with nx := u D } I h) fun f s1 q => ?_)
  cases f with
  | next =>
    obtain ⟨σ', H', I', q⟩ := q
    exact h2 pins s1 σ' H' D I' q
  | ret v => exact q
  | brk => exact q
  | cont => exact q
theorem pss_one (h1 : PS X st t) : PSs X [st] t := by
  intro pins s σ H D I h
  refine wpAny_execs_cons (thn (h1 pins s σ H D I h) fun f s1 q => ?_)
  cases f with
  | next => exact wpAny_execs_nil q
  | ret v => exact q
  | brk => exact q
  | cont => exact q
theorem Inv.quiet {pins : List (Addr × Obj)} {σ : St} {H : Hp} {s : Shared} (I : Inv X pins σ H s) : interactive X.env = false := by simp [interactive, I.ok.kind]
def tDrop (te : TE) : TS := fun D σ H => te σ H fun _ H1 => D.nx σ H1
theorem ps_expr (he : PE X e te) (hs : swapsWith e none pos.line X.env = pure false := by rfl) : PS X (.Expr e pos) (tDrop te) := by
  intro pins s σ H D I h
  exact wpAny_Expr_any (thn (he pins s σ H _ I h) fun v s1 ⟨x, H1, I1, r1, q1⟩ => ⟨σ, H1, I1, q1⟩) I.quiet hs
def tRet (te : TE) : TS := fun D σ H => te σ H D.rt
theorem ps_ret (he : PE X e te) : PS X (.Return (some e) pos) (tRet te) := by
  intro pins s σ H D I h
  exact wpAny_Return_some (thn (he pins s σ H _ I h) fun v s1 ⟨x, H1, I1, r1, q1⟩ => ⟨x, σ, H1, I1, r1, q1⟩)
def tIfS (c : TT) (t u : TS) : TS := fun D σ H => c σ H fun b H1 => if b = true then t D σ H1 else u D σ H1
theorem ps_if {c : Expr} {a b : List Stmt} {tc : TT} (hc : PT X c tc) (ha : PSs X a t) (hb : PSs X b u) : PS X (.If c a b pos) (tIfS tc t u) := by
  intro pins s σ H D I h
  refine wpAny_If (thn (hc pins s σ H _ I h) fun d s1 ⟨H1, I1, q1⟩ => ?_)
  cases d with
  | true => exact ha pins s1 σ H1 D I1 q1
  | false => exact hb pins s1 σ H1 D I1 q1
end

abbrev TG := V → St → Hp → (St → Hp → Prop) → Prop
def PG (X : Cx) (target : Expr) (t : TG) : Prop :=
  ∀ (pins : List (Addr × Obj)) (s : Shared) (σ : St) (H : Hp) (v : V) (u : Value) (Q : St → Hp → Prop), Inv X pins σ H s → RelV v u → t v σ H Q →
    wpAny (model X.prog X.w) X.A (assign target X.env u) (fun _ s' => ∃ σ' H', Inv X pins σ' H' s' ∧ Q σ' H') X.xe s
abbrev TIp := V → V → Hp → VK → Prop
def PIp (X : Cx) (op : Operator) (t : TIp) : Prop :=
  ∀ (pins : List (Addr × Obj)) (s : Shared) (σ : St) (H : Hp) (x y : V) (v u : Value) (Q : VK), Inv X pins σ H s → RelV x v → RelV y u → t x y H Q →
    wpAny (model X.prog X.w) X.A (inplaceOp op v u) (EP X pins σ Q) X.xe s
section
variable {X : Cx} {pos : Pos}
def gName (i : Nat) : TG := fun v σ H Q => Q (σ.set i (some v)) H
theorem pg_name {i : Nat} {x : Str} (hN : X.N.Nodup) (hi : X.N[i]? = some x) (hx : Loc X.env.scope x) (hf : X.fn x = true ∨ X.env.scope.names.lookup x = some .local := by first | exact .inl rfl | exact .inr rfl | assumption) : PG X (.Name x pos) (gName i) := by
  intro pins s σ H v u Q I r h
  exact wpAny_assign_Name (store_ok I hN hi hx r (fun s' I' => ⟨_, H, I', h⟩) hf)
def tAsg (te : TE) (g : TG) : TS := fun D σ H => te σ H fun x H1 => g x σ H1 D.nx
theorem ps_set {i : Nat} {x : Str} {e : Expr} {te : TE} {pos' : Pos} (hN : X.N.Nodup) (hi : X.N[i]? = some x) (hx : Loc X.env.scope x) (he : PE X e te) (hs : swapsWith e (some (.Name x pos')) pos.line X.env = pure false := by rfl) (hf : X.fn x = true ∨ X.env.scope.names.lookup x = some .local := by first | exact .inl rfl | exact .inr rfl | assumption) :
    PS X (.Assign [.Name x pos'] e pos) (tAsg te (gName i)) := by
  intro pins s σ H D I h
  refine wpAny_Assign_Name (thn (he pins s σ H _ I h) fun v s1 ⟨y, H1, I1, r1, q1⟩ => ?_) hs
  exact store_ok I1 hN hi hx r1 (fun s2 I2 => ⟨_, H1, I2, q1⟩) hf
def tAug (i : Nat) (te : TE) (ti : TIp) : TS := fun D σ H => ∃ x, σ[i]? = some (some x) ∧ te σ H fun y H1 => ti x y H1 fun z H2 => D.nx (σ.set i (some z)) H2
theorem ps_aug {i : Nat} {x : Str} {e : Expr} {te : TE} {op : Operator} {ti : TIp} {pos' : Pos} (hN : X.N.Nodup) (hi : X.N[i]? = some x) (hx : Loc X.env.scope x) (he : PE X e te) (ho : PIp X op ti) (hf : X.fn x = true ∨ X.env.scope.names.lookup x = some .local := by first | exact .inl rfl | exact .inr rfl | assumption) :
    PS X (.AugAssign (.Name x pos') op e pos) (tAug i te ti) := by
  intro pins s σ H D I h
  obtain ⟨v, e1, h⟩ := h
  obtain ⟨m, hn, hl⟩ := I.loc
  have vis : Vis X.env.scope x := by rcases hx with k | k; exact .inl k; exact .inr (.inl k)
  obtain ⟨u, r, l⟩ := hl i x v hi e1 vis
  refine wpAny_AugAssign_Name ?_
  have go : wpAny (model X.prog X.w) X.A (eval e X.env) (fun w s₂ => wpAny (model X.prog X.w) X.A (inplaceOp op u w) (fun r s₃ => wpAny (model X.prog X.w) X.A (storeName X.env x r) (fun _ => SP X pins D .next) X.xe s₃) X.xe s₂) X.xe s := by
    refine thn (he pins s σ H _ I h) fun w s1 ⟨y, H1, I1, r1, q1⟩ => ?_
    refine thn (ho pins s1 σ H1 v y u w _ I1 r r1 q1) fun z s2 ⟨zv, H2, I2, r2, q2⟩ => ?_
    exact store_ok I2 hN hi hx r2 (fun s3 I3 => ⟨_, H2, I3, q2⟩) hf
  rcases l with ⟨hk, hm⟩ | ⟨hk, c, hc, hcell⟩
  · exact wpAny_loadName_local I.ok.kind hk hn hm go
  · rcases hk with hk | hk
    · exact wpAny_loadName_cell I.ok.kind hk hc hcell go
    · rcases hx with k | k
      · have : X.env.scope.names.lookup x = some .free := hk
        rw [k] at this; cases this
      · have : X.env.scope.names.lookup x = some .free := hk
        rw [k] at this; cases this
def ipI (f : Int → Int → Int) : TIp := fun x y H Q => ∃ i j, x = .int i ∧ y = .int j ∧ Q (.int (f i j)) H
theorem ip_add : PIp X .Add (ipI fun i j => i + j) := by
  intro pins s σ H x y v u Q I r1 r2 h
  obtain ⟨i, j, e1, e2, q⟩ := h
  subst e1; subst e2
  obtain ⟨t, rfl⟩ := r1
  obtain ⟨t', rfl⟩ := r2
  exact iadd_int ⟨.int _, H, I.tok _, ⟨_, rfl⟩, q⟩
end

section
variable {X : Cx} {pos : Pos}
def tWhile (c : TT) (tb : TS) : TS := fun D σ H => ∃ W : Nat → St → Hp → Prop, (∃ m, W m σ H) ∧ ∀ m σ H, W m σ H →
  c σ H fun b H1 => if b = true then ∃ N : St → Hp → Prop, (∀ σ' H', N σ' H' → ∃ m', m' < m ∧ W m' σ' H') ∧ tb { D with nx := N, ct := N, bk := D.nx } σ H1 else D.nx σ H1
theorem ps_while {c : Expr} {body : List Stmt} {tc : TT} {tb : TS} (hp : PassesOwn (model X.prog X.w) X.A X.env X.xe) (hc : PT X c tc) (hb : PSs X body tb) : PS X (.While c body [] pos) (tWhile tc tb) := by
  intro pins s σ H D I h
  obtain ⟨W, ⟨m0, w0⟩, turn⟩ := h
  refine wpAny_While (codeAny_whileLoop (fun n s' => ∃ σ' H', Inv X pins σ' H' s' ∧ W n σ' H') ?_ m0 ⟨σ, H, I, w0⟩)
  rintro n s1 ⟨σ1, H1, I1, w1⟩
  refine wpAny_passesOwn hp (thn (hc pins s1 σ1 H1 _ I1 (turn n σ1 H1 w1)) fun b s2 ⟨H2, I2, q2⟩ => ?_)
  cases b with
  | true =>
    obtain ⟨N, hN, q2⟩ := q2
    rw [if_pos rfl]
    refine wpAny_passesOwn hp (thn (hb pins s2 σ1 H2 _ I2 q2) fun f s3 q3 => ?_)
    cases f with
    | next =>
      obtain ⟨σ3, H3, I3, n3⟩ := q3
      obtain ⟨m', hm, w3⟩ := hN σ3 H3 n3
      exact ⟨m', hm, σ3, H3, I3, w3⟩
    | cont =>
      obtain ⟨σ3, H3, I3, n3⟩ := q3
      obtain ⟨m', hm, w3⟩ := hN σ3 H3 n3
      exact ⟨m', hm, σ3, H3, I3, w3⟩
    | brk => exact q3
    | ret v => exact q3
  | false =>
    rw [if_neg Bool.false_ne_true]
    exact wpAny_execs_nil ⟨σ1, H2, I2, q2⟩
end

structure It where
  go : Nat → Hp → Prop
  yld : Nat → Hp → V → Hp → Prop
  stop : Nat → Hp → Prop
def FpOk (X : Cx) (pins : List (Addr × Obj)) (H : Hp) (b : Addr) : Prop :=
  H b = none ∧ b ≠ X.env.locals ∧ b ∉ X.fs ∧ (b ∈ X.ex ∨ X.s_0.heap.objs.size ≤ b) ∧ (∀ x c, X.env.cells.lookup x = some c → c ≠ b) ∧ ∀ p ∈ X.pn ++ pins, p.1 ≠ b
theorem Inv.fpOk {X : Cx} {pins : List (Addr × Obj)} {σ : St} {H H' : Hp} {s : Shared} {b : Addr} (I : Inv X pins σ H s) (hb : s.heap.objs.size ≤ b) (hn : H' b = none) : FpOk X pins H' b := by
  refine ⟨hn, Nat.ne_of_gt (Nat.lt_of_lt_of_le I.lt hb), I.nofs hb, .inr (Nat.le_trans I.sz hb), fun x c e z => ?_, fun p hp z => ?_⟩
  · obtain ⟨v, q⟩ := I.cell x c e
    exact absurd (Nat.lt_of_lt_of_le q.lt (by rw [z]; exact hb)) (Nat.lt_irrefl _)
  · exact absurd (Nat.lt_of_lt_of_le (Heap.lt_size (I.pin p hp).1) (by rw [z]; exact hb)) (Nat.lt_irrefl _)
structure Turn (P : Program) (w : World) (K : PySem.W.Frag) (tg : Expr) (J : It) (fp : List Addr) (it : Addr) (tn : Nat → Heap → Prop) : Prop where
  mem : it ∈ fp
  obj : ∀ i h, tn i h → ∀ b ∈ fp, ∃ o, h.get? b = some o ∧ ∀ v, o.data ≠ .cell v
  keep : ∀ i h h', tn i h → (∀ b ∈ fp, ∀ o, h.get? b = some o → h'.get? b = some o) → tn i h'
  item : ∀ (X : Cx), X.prog = P → X.w = w → X.K = K → X.calm = true → ∀ (i : Nat) (pins : List (Addr × Obj)) (s : Shared) (σ : St) (H : Hp) (E : Value → Shared → Prop), Inv X pins σ H s → (∀ b ∈ fp, FpOk X pins H b) → tn i s.heap → J.go i H →
    wpAny (model P w) X.A (pyNext (.ref it)) (fun r s1 => ∃ u, r = some u ∧
      wpAny (model P w) X.A (letOwnedTupleGo tg (.ref it) u) (fun _ s2 => ∃ x H', Inv X pins σ H' s2 ∧ RelV x u ∧ J.yld i H x H' ∧ tn (i + 1) s2.heap ∧ ∀ b ∈ fp, H' b = none) E s1) E s
  done : ∀ (X : Cx), X.prog = P → X.w = w → X.K = K → X.calm = true → ∀ (i : Nat) (pins : List (Addr × Obj)) (s : Shared) (σ : St) (H : Hp) (E : Value → Shared → Prop), Inv X pins σ H s → (∀ b ∈ fp, FpOk X pins H b) → tn i s.heap → J.stop i H →
    wpAny (model P w) X.A (pyNext (.ref it)) (fun r s1 => r = none ∧ Inv X pins σ H s1) E s
  self : ∀ (A : Around) (i : Nat) (s : Shared) (Q : Value → Shared → Prop) (E : Value → Shared → Prop), tn i s.heap → Q (.ref it) s → wpAny (model P w) A (pyIter (.ref it)) Q E s
abbrev TI := St → Hp → (It → Hp → Prop) → Prop
def PIE (X : Cx) (pins : List (Addr × Obj)) (σ : St) (tg : Expr) (R : It → Hp → Prop) (itv : Value) (s2 : Shared) : Prop :=
  ∃ (it : Addr) (fp : List Addr) (tn : Nat → Heap → Prop) (J : It) (H' : Hp), itv = .ref it ∧ Inv X pins σ H' s2 ∧ Turn X.prog X.w X.K tg J fp it tn ∧ tn 0 s2.heap ∧ (∀ b ∈ fp, FpOk X pins H' b) ∧ R J H'
def PI (X : Cx) (tg iter : Expr) (wi : TI) : Prop :=
  ∀ (pins : List (Addr × Obj)) (s : Shared) (σ : St) (H : Hp) (R : It → Hp → Prop), Inv X pins σ H s → wi σ H R →
    wpAny (model X.prog X.w) X.A (eval iter X.env) (fun v s1 => wpAny (model X.prog X.w) X.A (pyIter v) (PIE X pins σ tg R) X.xe s1) X.xe s

theorem go_of {M : Model} {A : Around} {E : Value → Shared → Prop} {s : Shared} {tg : Expr} {it : Addr} {u : Value} {o : Obj} {n : String} {vs : Array Value} {Q : Unit → Shared → Prop} (ho : s.heap.get? it = some o) (hc : o.cls = .type n) (hd : o.data = .fields vs)
    (hn : ["enumerate", "zip", "dict_itemiterator", "dict_reverseitemiterator", "odict_iterator", "itertools.zip_longest", "itertools.pairwise"].contains n = false) (hQ : Q () s) : wpAny M A (letOwnedTupleGo tg (.ref it) u) Q E s := by
  unfold letOwnedTupleGo
  cases tg <;> first
    | exact wpAny_pure hQ
    | (cases u <;> first
        | exact wpAny_pure hQ
        | (refine wpAny_bind (wpAny_load ho ?_)
           rw [hc, hd]
           show wpAny M A (if (["enumerate", "zip", "dict_itemiterator", "dict_reverseitemiterator", "odict_iterator", "itertools.zip_longest", "itertools.pairwise"].contains n && vs[0]? == some (rawInt _)) = true then _ else _) Q E s
           rw [if_neg (by intro h; rw [hn, Bool.false_and] at h; cases h)]
           exact wpAny_pure hQ))

def Itl (K : PySem.W.Frag) (a : Addr) : It :=
  ⟨fun i H => ∃ xs x, SqL K H a xs ∧ xs[i]? = some x, fun i H x H' => H' = H ∧ ∀ xs, SqL K H a xs → xs[i]? = some x, fun i H => ∃ xs, SqL K H a xs ∧ xs.length ≤ i⟩
def Itr (lo : Int) (n : Nat) : It := ⟨fun i _ => i < n, fun i H x H' => H' = H ∧ x = .int (lo + i), fun i _ => n ≤ i⟩
theorem turn_list {P : Program} {w : World} {K : PySem.W.Frag} {tg : Expr} (a it : Addr) : Turn P w K tg (Itl K a) [it] it (fun i h => h.IsListIter it a i) where
  mem := by simp
  obj := fun i h st b hb => by
    have e : b = it := by simpa using hb
    subst e
    obtain ⟨o, e, c, d⟩ := st
    exact ⟨o, e, fun v z => by rw [d] at z; cases z⟩
  keep := fun i h h' st k => st.at fun o e => k it (by simp) o e
  item := by
    intro X hP hw hK hc i pins s σ H E I hf st hg
    subst hP hw hK
    obtain ⟨xs, x, hq, hx⟩ := hg
    obtain ⟨its, rv, p, hz⟩ := I.list hq
    obtain ⟨u, hu, ru⟩ := rv.get hx
    obtain ⟨f0, f1, f2, f3, f4, f5⟩ := hf it (by simp)
    refine wpAny_pyNext_list_item st p.isList (x := u) (by simpa using hu) fun h' st' sb => ?_
    have I1 : Inv X pins σ H { s with heap := h' } := I.turned (t' := s.toks) (fun b o hb e => (sb.2 b hb).trans e) f0 f1 f3 f4 f5
    obtain ⟨o, e, c, d⟩ := id st'
    exact ⟨u, rfl, go_of (s := { s with heap := h' }) e c d (by decide) ⟨x, H, I1, ru, ⟨rfl, fun ys hy => by rw [I.list_inj hy hq]; exact hx⟩, st', fun b hb => (hf b hb).1⟩⟩
  done := by
    intro X hP hw hK hc i pins s σ H E I hf st hg
    subst hP hw hK
    obtain ⟨xs, hq, hx⟩ := hg
    obtain ⟨its, rv, p, hz⟩ := I.list hq
    obtain ⟨f0, f1, f2, f3, f4, f5⟩ := hf it (by simp)
    have hl := rv.length
    exact wpAny_pyNext_list_end (I.ok.hd hc) st p.isList (by simp; omega) fun h' eb => ⟨rfl, I.turned (t' := s.toks) (fun b o hb e => eb b o hb e) f0 f1 f3 f4 f5⟩
  self := fun _ _ _ _ _ st h => wpAny_pyIter_listiter st h
theorem turn_range {P : Program} {w : World} {K : PySem.W.Frag} {tg : Expr} (it : Addr) (lo : Int) (n : Nat) : Turn P w K tg (Itr lo n) [it] it (fun i h => IsRangeIter h it (lo + (i : Nat) * 1) ((n : Int) - (i : Nat)) 1) where
  mem := by simp
  obj := fun i h st b hb => by
    have e : b = it := by simpa using hb
    subst e
    exact ⟨_, st, fun v z => by
      have z' : Data.fields _ = Data.cell v := z
      cases z'⟩
  keep := fun i h h' st k => k it (by simp) _ st
  item := by
    intro X hP hw hK hc i pins s σ H E I hf st hg
    subst hP hw hK
    obtain ⟨f0, f1, f2, f3, f4, f5⟩ := hf it (by simp)
    have W := Walks.range (prog := X.prog) (w := X.w) (I.ok.hd hc) it lo 1 n
    refine W.item i s _ _ hg st fun v h' tk hv st' kk => ?_
    obtain ⟨t, rfl⟩ := hv
    have I1 : Inv X pins σ H { s with heap := h', toks := tk } := I.turned (fun b o hb e => kk b o (by simpa using hb) e) f0 f1 f3 f4 f5
    refine ⟨_, rfl, go_of (s := { s with heap := h', toks := tk }) (n := "range_iterator") st' rfl rfl (by decide) ⟨.int (lo + i), H, I1, ⟨t, ?_⟩, ⟨rfl, rfl⟩, st', fun b hb => (hf b hb).1⟩⟩
    rw [Int.mul_one]
  done := by
    intro X hP hw hK hc i pins s σ H E I hf st hg
    subst hP hw hK
    obtain ⟨f0, f1, f2, f3, f4, f5⟩ := hf it (by simp)
    exact wpAny_pyNext_range_end (I.ok.hd hc) st (by have : n ≤ i := hg; omega) fun h' eb => ⟨rfl, I.turned (t' := s.toks) (fun b o hb e => eb b o hb e) f0 f1 f3 f4 f5⟩
  self := fun _ _ _ _ _ st h => wpAny_pyIter_rangeiter st h
end L2

namespace L2
open PySem PySem.Spec PyProof.Rows
section
variable {X : Cx} {tg : Expr}
def iList (K : PySem.W.Frag) (tl : TE) : TI := fun σ H R => tl σ H fun x H1 => ∃ a, x = .ref a ∧ (∃ xs, SqL K H1 a xs) ∧ R (Itl K a) H1
theorem pi_list {l : Expr} {tl : TE} (hl : PE X l tl) : PI X tg l (iList X.K tl) := by
  intro pins s σ H R I h
  refine thn (hl pins s σ H _ I h) fun v s1 ⟨x, H1, I1, r1, q1⟩ => ?_
  obtain ⟨a, e, ⟨xs, hq⟩, q⟩ := q1
  subst e
  cases r1
  obtain ⟨its, rv, p, hz⟩ := I1.list hq
  refine wpAny_pyIter_list p.isList ?_
  refine ⟨s1.heap.objs.size, [s1.heap.objs.size], _, _, H1, rfl, I1.kept (t' := s1.toks) fun b o e => Heap.get?_push_of_some _ e, turn_list a _, ⟨_, Heap.get?_push_size _ rfl, rfl, rfl⟩, fun b hb => ?_, q⟩
  have e : b = s1.heap.objs.size := by simpa using hb
  subst e
  exact I1.fpOk (Nat.le_refl _) (I1.hok.fresh (Nat.le_refl _))
theorem range_it {pins : List (Addr × Obj)} {σ : St} {H : Hp} {s : Shared} {R : It → Hp → Prop} {E : Value → Shared → Prop} {lo hi : Int} {t u v : Tok} {tk : Nat} (I : Inv X pins σ H s) (h1 : -(2 ^ 62) ≤ lo) (h2 : lo < 2 ^ 62) (h3 : -(2 ^ 62) ≤ hi) (h4 : hi < 2 ^ 62)
    (q : R (Itr lo (hi - lo).toNat) H) : wpAny (model X.prog X.w) X.A (pyIter (.ref s.heap.objs.size)) (PIE X pins σ tg R) E { s with heap := s.heap.push { cls := .type "range", data := .fields #[.int lo t, .int hi u, .int 1 v] }, toks := tk } := by
  refine wpAny_pyIter_range (IsRange.new ..) (small_one h1 h2 h3 h4) ?_
  have I1 : Inv X pins σ H { s with heap := s.heap.push { cls := .type "range", data := .fields #[.int lo t, .int hi u, .int 1 v] }, toks := tk } := I.kept fun b o e => Heap.get?_push_of_some _ e
  refine ⟨(s.heap.push { cls := .type "range", data := .fields #[.int lo t, .int hi u, .int 1 v] }).objs.size, [(s.heap.push { cls := .type "range", data := .fields #[.int lo t, .int hi u, .int 1 v] }).objs.size], _, _, H, rfl,
    I1.kept (t' := tk) fun b o e => Heap.get?_push_of_some _ e, turn_range _ lo (hi - lo).toNat, ?_, fun b hb => ?_, q⟩
  · have e1 : lo + ((0 : Nat) : Int) * 1 = lo := by simp
    have e2 : (((hi - lo).toNat : Nat) : Int) - ((0 : Nat) : Int) = Builtin.Range.rangeSize lo hi 1 := by rw [rangeSize_one]; split <;> omega
    show IsRangeIter _ _ (lo + ((0 : Nat) : Int) * 1) ((((hi - lo).toNat : Nat) : Int) - ((0 : Nat) : Int)) 1
    rw [e1, e2]
    exact Heap.get?_push_size _ rfl
  · have e : b = (s.heap.push { cls := .type "range", data := .fields #[.int lo t, .int hi u, .int 1 v] }).objs.size := by simpa using hb
    subst e
    exact I1.fpOk (Nat.le_refl _) (I1.hok.fresh (Nat.le_refl _))
def iRng1 (ta : TA) : TI := fun σ H R => ta σ H fun vs H1 => ∃ j : Int, vs = [.int j] ∧ -(2 ^ 62) ≤ j ∧ j < 2 ^ 62 ∧ R (Itr 0 j.toNat) H1
def iRng2 (ta : TA) : TI := fun σ H R => ta σ H fun vs H1 => ∃ i j : Int, vs = [.int i, .int j] ∧ (-(2 ^ 62) ≤ i ∧ i < 2 ^ 62 ∧ -(2 ^ 62) ≤ j ∧ j < 2 ^ 62) ∧ R (Itr i (j - i).toNat) H1
theorem pi_range1 {a : Expr} {ta : TA} {p pos : Pos} (hg : Gl X "range") (hm : X.mg "range" = none) (ha : PA X [a] ta) (hs : starEach [a] X.env = [(false, eval a X.env)] := by rfl) : PI X tg (.Call (.Name "range" p) [a] [] pos) (iRng1 ta) := by
  intro pins s σ H R I h
  refine Call_ (ld_blt I hg hm boot_range (PyProof.Rows.callWith_type1 (thn (ha pos pins s σ H _ I h) fun us s1 ⟨vs, H1, I1, r1, q1⟩ => ?_) hs rfl))
  obtain ⟨j, e, q1, q2, q⟩ := q1
  subst e
  cases r1 with
  | cons r rr =>
    cases rr
    obtain ⟨t, rfl⟩ := r
    exact call_range_1 (range_it I1 (by omega) (by omega) q1 q2 (by simpa using q))
theorem pi_range2 {a b : Expr} {ta : TA} {p pos : Pos} (hg : Gl X "range") (hm : X.mg "range" = none) (ha : PA X [a, b] ta) (hs : starEach [a, b] X.env = [(false, eval a X.env), (false, eval b X.env)] := by rfl) (hs2 : starEach [b] X.env = [(false, eval b X.env)] := by rfl) :
    PI X tg (.Call (.Name "range" p) [a, b] [] pos) (iRng2 ta) := by
  intro pins s σ H R I h
  refine Call_ (ld_blt I hg hm boot_range (PyProof.Rows.callWith_type1 (thn (ha pos pins s σ H _ I h) fun us s1 ⟨vs, H1, I1, r1, q1⟩ => ?_) (by rw [hs, hs2]) (by rw [hs2]; rfl)))
  obtain ⟨i, j, e, ⟨q1, q2, q3, q4⟩, q⟩ := q1
  subst e
  cases r1 with
  | cons r rr =>
    cases rr with
    | cons r' rr =>
      cases rr
      obtain ⟨t, rfl⟩ := r
      obtain ⟨t', rfl⟩ := r'
      exact call_range_2 (range_it I1 q1 q2 q3 q4 q)

def tFor (wi : TI) (g : TG) (tb : TS) : TS := fun D σ H => wi σ H fun J H1 => ∃ W : Nat → Nat → St → Hp → Prop, (∃ m, W 0 m σ H1) ∧ ∀ i m σ H, W i m σ H →
  (J.stop i H ∧ D.nx σ H) ∨ (J.go i H ∧ ∃ N : St → Hp → Prop, (∀ σ' H', N σ' H' → ∃ m', m' < m ∧ W (i + 1) m' σ' H') ∧ ∀ x H', J.yld i H x H' → g x σ H' fun σ2 H2 => tb { D with nx := N, ct := N, bk := D.nx } σ2 H2)
def pinsAt (fp : List Addr) (h : Heap) : List (Addr × Obj) := fp.filterMap fun b => (h.get? b).map fun o => (b, o)
theorem mem_pinsAt {fp : List Addr} {h : Heap} {b : Addr} {o : Obj} (hb : b ∈ fp) (e : h.get? b = some o) : (b, o) ∈ pinsAt fp h := List.mem_filterMap.mpr ⟨b, hb, by rw [e]; rfl⟩
theorem of_pinsAt {fp : List Addr} {h : Heap} {p : Addr × Obj} (hp : p ∈ pinsAt fp h) : p.1 ∈ fp ∧ h.get? p.1 = some p.2 := by
  obtain ⟨b, hb, e⟩ := List.mem_filterMap.mp hp
  cases q : h.get? b with
  | none => rw [q] at e; cases e
  | some o =>
    rw [q] at e
    have e' : (b, o) = p := Option.some.inj e
    subst e'
    exact ⟨hb, q⟩
theorem Inv.pinned {pins : List (Addr × Obj)} {σ : St} {H : Hp} {s : Shared} {fp : List Addr} (I : Inv X pins σ H s) (hf : ∀ b ∈ fp, FpOk X pins H b) (ho : ∀ b ∈ fp, ∃ o, s.heap.get? b = some o ∧ ∀ v, o.data ≠ .cell v) : Inv X (pins ++ pinsAt fp s.heap) σ H s :=
  I.pins_of fun p hp => (List.mem_append.mp hp).elim (fun z => I.pin p (List.mem_append_right _ z)) fun z => by
    obtain ⟨hb, e⟩ := of_pinsAt z
    obtain ⟨f0, f1, f2, _⟩ := hf p.1 hb
    obtain ⟨o, e', d⟩ := ho p.1 hb
    rw [e] at e'; cases e'
    exact ⟨e, f0, f1, f2, d⟩
theorem Inv.unpinned {pins pl : List (Addr × Obj)} {σ : St} {H : Hp} {s : Shared} (I : Inv X (pins ++ pl) σ H s) : Inv X pins σ H s := I.pins_of fun p hp => I.pin p (List.mem_append_right _ (List.mem_append_left _ hp))
theorem ps_for {iter : Expr} {body : List Stmt} {wi : TI} {g : TG} {tb : TS} {pos : Pos} (hp : PassesOwn (model X.prog X.w) X.A X.env X.xe) (hc : X.calm = true) (hi : PI X tg iter wi) (hg : PG X tg g) (hb : PSs X body tb)
    (hs : ∀ x, foldedSetIterable iter X.env x = pure x := by intro _; rfl) : PS X (.For tg iter body [] pos) (tFor wi g tb) := by
  intro pins s σ H D I h
  refine wpAny_For (thn (hi pins s σ H _ I h) fun v s1 h1 => thn h1 fun itv s2 h2 => ?_) hs
  obtain ⟨it, fp, tn, J, H2, e, I2, T, st2, f2, W, ⟨m0, w0⟩, turn⟩ := h2
  subst e
  -- what stays true of the iterator's objects through the loop
  have stat : ∀ {H' : Hp}, (∀ b ∈ fp, H' b = none) → ∀ b ∈ fp, FpOk X pins H' b := fun hn b hb => ⟨hn b hb, (f2 b hb).2⟩
  refine codeAny_forLoop_any (fun n s' => ∃ i σ' H', Inv X pins σ' H' s' ∧ tn i s'.heap ∧ (∀ b ∈ fp, H' b = none) ∧ W i n σ' H') ?_ m0 ⟨0, σ, H2, I2, st2, fun b hb => (f2 b hb).1, w0⟩
  rintro n s3 ⟨i, σ3, H3, I3, st3, fr3, w3⟩
  rcases turn i n σ3 H3 w3 with ⟨stop, qn⟩ | ⟨go, N, hN, step⟩
  · refine wpAny_passesOwn hp (thn (T.done X rfl rfl rfl hc i pins s3 σ3 H3 X.xe I3 (stat fr3) st3 stop) fun r s4 ⟨hr, I4⟩ => ?_)
    subst hr
    exact wpAny_execs_nil ⟨σ3, H3, I4, qn⟩
  · refine wpAny_passesOwn hp (thn (T.item X rfl rfl rfl hc i pins s3 σ3 H3 X.xe I3 (stat fr3) st3 go) fun r s4 ⟨u, hr, h4⟩ => ?_)
    subst hr
    refine wpAny_passesOwn hp (thn h4 fun _ s5 ⟨x, H5, I5, r5, y5, st5, fr5⟩ => ?_)
    have I5' := I5.pinned (stat fr5) (T.obj _ _ st5)
    refine wpAny_passesOwn hp (thn (hg _ s5 σ3 H5 x u _ I5' r5 (step x H5 y5)) fun _ s6 ⟨σ6, H6, I6, q6⟩ => ?_)
    refine wpAny_passesOwn hp (thn (hb _ s6 σ6 H6 _ I6 q6) fun f s7 q7 => ?_)
    have again : ∀ {σ7 : St} {H7 : Hp}, Inv X (pins ++ pinsAt fp s5.heap) σ7 H7 s7 → N σ7 H7 → ∃ m, m < n ∧ ∃ i σ' H', Inv X pins σ' H' s7 ∧ tn i s7.heap ∧ (∀ b ∈ fp, H' b = none) ∧ W i m σ' H' := fun {σ7 H7} I7 n7 => by
      obtain ⟨m', hm, w7⟩ := hN σ7 H7 n7
      refine ⟨m', hm, i + 1, σ7, H7, I7.unpinned, T.keep _ _ _ st5 fun b hb o e => (I7.pin (b, o) (List.mem_append_right _ (List.mem_append_right _ (mem_pinsAt hb e)))).1, fun b hb => ?_, w7⟩
      obtain ⟨o, e, d⟩ := T.obj _ _ st5 b hb
      exact (I7.pin (b, o) (List.mem_append_right _ (List.mem_append_right _ (mem_pinsAt hb e)))).2.1
    cases f with
    | next => obtain ⟨σ7, H7, I7, n7⟩ := q7; exact again I7 n7
    | cont => obtain ⟨σ7, H7, I7, n7⟩ := q7; exact again I7 n7
    | brk => obtain ⟨σ7, H7, I7, q7⟩ := q7; exact ⟨σ7, H7, I7.unpinned, q7⟩
    | ret v => obtain ⟨x7, σ7, H7, I7, r7, q7⟩ := q7; exact ⟨x7, σ7, H7, I7.unpinned, r7, q7⟩
end

theorem for_list {K : PySem.W.Frag} {a : Addr} {xs : List V} {g : TG} {tb : TS} {D : Ends} {σ : St} {H : Hp} (Pv : Nat → St → Hp → Prop) (h0 : Pv 0 σ H) (hl : ∀ i σ H, i ≤ xs.length → Pv i σ H → SqL K H a xs)
    (hs : ∀ i x σ H, xs[i]? = some x → Pv i σ H → g x σ H fun σ2 H2 => tb { D with nx := Pv (i + 1), ct := Pv (i + 1), bk := D.nx } σ2 H2) (hd : ∀ σ H, Pv xs.length σ H → D.nx σ H) :
    ∃ W : Nat → Nat → St → Hp → Prop, (∃ m, W 0 m σ H) ∧ ∀ i m σ H, W i m σ H →
      ((Itl K a).stop i H ∧ D.nx σ H) ∨ ((Itl K a).go i H ∧ ∃ N : St → Hp → Prop, (∀ σ' H', N σ' H' → ∃ m', m' < m ∧ W (i + 1) m' σ' H') ∧ ∀ x H', (Itl K a).yld i H x H' → g x σ H' fun σ2 H2 => tb { D with nx := N, ct := N, bk := D.nx } σ2 H2) := by
  refine ⟨fun i m σ H => m = xs.length - i ∧ i ≤ xs.length ∧ Pv i σ H, ⟨xs.length, by simp, Nat.zero_le _, h0⟩, ?_⟩
  rintro i m σ H ⟨rfl, hi, p⟩
  have q := hl i σ H hi p
  by_cases hlt : i < xs.length
  · refine .inr ⟨⟨xs, xs[i], q, by simp [hlt]⟩, Pv (i + 1), fun σ' H' p' => ⟨xs.length - (i + 1), by omega, rfl, hlt, p'⟩, fun x H' y => ?_⟩
    obtain ⟨e, y⟩ := y
    subst e
    exact hs i x σ _ (y xs q) p
  · have e : i = xs.length := by omega
    subst e
    exact .inl ⟨⟨xs, q, Nat.le_refl _⟩, hd σ H p⟩
theorem for_range {lo : Int} {n : Nat} {g : TG} {tb : TS} {D : Ends} {σ : St} {H : Hp} (Pv : Nat → St → Hp → Prop) (h0 : Pv 0 σ H)
    (hs : ∀ i σ H, i < n → Pv i σ H → g (.int (lo + i)) σ H fun σ2 H2 => tb { D with nx := Pv (i + 1), ct := Pv (i + 1), bk := D.nx } σ2 H2) (hd : ∀ σ H, Pv n σ H → D.nx σ H) :
    ∃ W : Nat → Nat → St → Hp → Prop, (∃ m, W 0 m σ H) ∧ ∀ i m σ H, W i m σ H →
      ((Itr lo n).stop i H ∧ D.nx σ H) ∨ ((Itr lo n).go i H ∧ ∃ N : St → Hp → Prop, (∀ σ' H', N σ' H' → ∃ m', m' < m ∧ W (i + 1) m' σ' H') ∧ ∀ x H', (Itr lo n).yld i H x H' → g x σ H' fun σ2 H2 => tb { D with nx := N, ct := N, bk := D.nx } σ2 H2) := by
  refine ⟨fun i m σ H => m = n - i ∧ i ≤ n ∧ Pv i σ H, ⟨n, by simp, Nat.zero_le _, h0⟩, ?_⟩
  rintro i m σ H ⟨rfl, hi, p⟩
  by_cases hlt : i < n
  · refine .inr ⟨hlt, Pv (i + 1), fun σ' H' p' => ⟨n - (i + 1), by omega, rfl, hlt, p'⟩, fun x H' y => ?_⟩
    obtain ⟨e, y⟩ := y
    subst e y
    exact hs i σ _ hlt p
  · have e : i = n := by omega
    subst e
    exact .inl ⟨Nat.le_refl _, hd σ H p⟩
theorem while_by {c : TT} {tb : TS} {D : Ends} {σ : St} {H : Hp} (Pv : St → Hp → Prop) (μ : St → Hp → Nat) (h0 : Pv σ H)
    (hs : ∀ σ H, Pv σ H → c σ H fun b H1 => if b = true then tb { D with nx := fun σ' H' => Pv σ' H' ∧ μ σ' H' < μ σ H, ct := fun σ' H' => Pv σ' H' ∧ μ σ' H' < μ σ H, bk := D.nx } σ H1 else D.nx σ H1)
    (mono : ∀ σ H Q Q', (∀ b H1, Q b H1 → Q' b H1) → c σ H Q → c σ H Q') : tWhile c tb D σ H := by
  refine ⟨fun m σ H => m = μ σ H ∧ Pv σ H, ⟨_, rfl, h0⟩, ?_⟩
  rintro m σ H ⟨rfl, p⟩
  refine mono σ H _ _ (fun b H1 q => ?_) (hs σ H p)
  cases b with
  | true => exact ⟨_, fun σ' H' ⟨p', l⟩ => ⟨_, l, rfl, p'⟩, q⟩
  | false => exact q
end L2

namespace L2
open PySem PySem.Spec PyProof.Rows

abbrev R2 := V → V → Hp → VK → Prop
def OpR (X : Cx) (f : Value → Value → Sem Value) (r : R2) : Prop :=
  ∀ (pins : List (Addr × Obj)) (s : Shared) (σ : St) (H : Hp) (x y : V) (v u : Value) (Q : VK), Inv X pins σ H s → RelV x v → RelV y u → r x y H Q →
    wpAny (model X.prog X.w) X.A (f v u) (EP X pins σ Q) X.xe s
def UnR (X : Cx) (f : Value → Sem Value) (r : V → Hp → VK → Prop) : Prop :=
  ∀ (pins : List (Addr × Obj)) (s : Shared) (σ : St) (H : Hp) (x : V) (v : Value) (Q : VK), Inv X pins σ H s → RelV x v → r x H Q →
    wpAny (model X.prog X.w) X.A (f v) (EP X pins σ Q) X.xe s
def CallR (X : Cx) (f : Value) (r : List V → Hp → VK → Prop) : Prop :=
  ∀ (pins : List (Addr × Obj)) (s : Shared) (σ : St) (H : Hp) (xs : List V) (us : List Value) (Q : VK), Inv X pins σ H s → Vals xs us → r xs H Q →
    wpAny (model X.prog X.w) X.A (call f us) (EP X pins σ Q) X.xe s
def tOp (r : R2) (ta tb : TE) : TE := fun σ H Q => ta σ H fun x H1 => tb σ H1 fun y H2 => r x y H2 Q
def tUn (r : V → Hp → VK → Prop) (ta : TE) : TE := fun σ H Q => ta σ H fun x H1 => r x H1 Q
def rI (C : Int → Int → Prop) (g : Int → Int → V) : R2 := fun x y H Q => ∃ i j, x = .int i ∧ y = .int j ∧ C i j ∧ Q (g i j) H
def rI0 (g : Int → Int → V) : R2 := fun x y H Q => ∃ i j, x = .int i ∧ y = .int j ∧ Q (g i j) H
def rU (g : Int → V) : V → Hp → VK → Prop := fun x H Q => ∃ i, x = .int i ∧ Q (g i) H

section
variable {X : Cx} {a b c : Expr} {ta tb tc : TE} {pos : Pos}

theorem binT (ha : PE X a ta) (hb : PE X b tb) {pins : List (Addr × Obj)} {s : Shared} {σ : St} {H : Hp} {R : V → V → Hp → Prop} (I : Inv X pins σ H s)
    (h : ta σ H fun x H1 => tb σ H1 fun y H2 => R x y H2) {Q : Value → Shared → Prop} {f : Value → Value → Sem Value}
    (hf : ∀ v u s2 x y H2, Inv X pins σ H2 s2 → RelV x v → RelV y u → R x y H2 → wpAny (model X.prog X.w) X.A (f v u) Q X.xe s2) :
    wpAny (model X.prog X.w) X.A (eval a X.env) (fun v s₁ => wpAny (model X.prog X.w) X.A (eval b X.env) (fun u s₂ => wpAny (model X.prog X.w) X.A (f v u) Q X.xe s₂) X.xe s₁) X.xe s := by
  refine thn (ha pins s σ H _ I h) fun v s1 ⟨x, H1, I1, r1, q1⟩ => ?_
  refine thn (hb pins s1 σ H1 _ I1 q1) fun u s2 ⟨y, H2, I2, r2, q2⟩ => ?_
  exact hf v u s2 x y H2 I2 r1 r2 q2

theorem pe_op {op : Operator} {r : R2} (ho : OpR X (binaryOp op) r) (ha : PE X a ta) (hb : PE X b tb) : PE X (.BinOp a op b pos) (tOp r ta tb) := by
  intro pins s σ H Q I h
  exact wpAny_BinOp (binT ha hb I h fun v u s2 x y H2 I2 rx ry q => ho pins s2 σ H2 x y v u Q I2 rx ry q)
theorem pe_un {op : UnaryOp} {r : V → Hp → VK → Prop} (ho : UnR X (unaryOp op) r) (ha : PE X a ta) : PE X (.UnaryOp op a pos) (tUn r ta) := by
  intro pins s σ H Q I h
  exact UnaryOp_ (thn (ha pins s σ H _ I h) fun v s1 ⟨x, H1, I1, r1, q1⟩ => ho pins s1 σ H1 x v Q I1 r1 q1)
theorem opI {f : Value → Value → Sem Value} {C : Int → Int → Prop} {g : Int → Int → Int}
    (rule : ∀ (i j : Int) (t u : Tok) (s : Shared) (Q : Value → Shared → Prop) (E : Value → Shared → Prop), C i j → Q (.int (g i j) s.toks) { s with toks := s.toks + 1 } → wpAny (model X.prog X.w) X.A (f (.int i t) (.int j u)) Q E s) :
    OpR X f (rI C fun i j => .int (g i j)) := by
  intro pins s σ H x y v u Q I rx ry h
  obtain ⟨i, j, rfl, rfl, hc, q⟩ := h
  obtain ⟨t, rfl⟩ := rx
  obtain ⟨t', rfl⟩ := ry
  exact rule i j t t' s _ _ hc ⟨.int (g i j), H, I.tok _, ⟨_, rfl⟩, q⟩
theorem opI0 {f : Value → Value → Sem Value} {g : Int → Int → Int}
    (rule : ∀ (i j : Int) (t u : Tok) (s : Shared) (Q : Value → Shared → Prop) (E : Value → Shared → Prop), Q (.int (g i j) s.toks) { s with toks := s.toks + 1 } → wpAny (model X.prog X.w) X.A (f (.int i t) (.int j u)) Q E s) :
    OpR X f (rI0 fun i j => .int (g i j)) := by
  intro pins s σ H x y v u Q I rx ry h
  obtain ⟨i, j, rfl, rfl, q⟩ := h
  obtain ⟨t, rfl⟩ := rx
  obtain ⟨t', rfl⟩ := ry
  exact rule i j t t' s _ _ ⟨.int (g i j), H, I.tok _, ⟨_, rfl⟩, q⟩
theorem opB0 {f : Value → Value → Sem Value} {g : Int → Int → Bool}
    (rule : ∀ (i j : Int) (t u : Tok) (s : Shared) (Q : Value → Shared → Prop) (E : Value → Shared → Prop), Q (.bool (g i j)) s → wpAny (model X.prog X.w) X.A (f (.int i t) (.int j u)) Q E s) :
    OpR X f (rI0 fun i j => .bl (g i j)) := by
  intro pins s σ H x y v u Q I rx ry h
  obtain ⟨i, j, rfl, rfl, q⟩ := h
  obtain ⟨t, rfl⟩ := rx
  obtain ⟨t', rfl⟩ := ry
  exact rule i j t t' s _ _ ⟨.bl (g i j), H, I, rfl, q⟩

def CDiv (i j : Int) : Prop := 0 < j ∧ j < 1073741824
def CMul (i j : Int) : Prop := (-(2 ^ 64) < i ∧ i < 2 ^ 64) ∨ (-(2 ^ 64) < j ∧ j < 2 ^ 64)
theorem CMul.ok {i j : Int} (h : CMul i j) : IntMulOk i j := by
  rcases h with ⟨h1, h2⟩ | ⟨h1, h2⟩
  · exact .of_left (intBits_le_64 h1 h2)
  · exact .of_right (intBits_le_64 h1 h2)
theorem op_add : OpR X (binaryOp .Add) (rI0 fun i j => .int (i + j)) := opI0 fun _ _ _ _ _ _ _ q => add_int q
theorem op_sub : OpR X (binaryOp .Sub) (rI0 fun i j => .int (i - j)) := opI0 fun _ _ _ _ _ _ _ q => sub_int q
theorem op_mul : OpR X (binaryOp .Mult) (rI CMul fun i j => .int (i * j)) := opI fun _ _ _ _ _ _ _ hc q => mul_int q hc.ok
theorem op_fdiv : OpR X (binaryOp .FloorDiv) (rI CDiv fun i j => .int (i / j)) := opI fun i j _ _ _ _ _ hc q => by
  have h1 : (0 : Int) < j := hc.1
  have h2 : j < 1073741824 := hc.2
  exact floordiv_int (by omega) (by rw [Int.fdiv_eq_ediv_of_nonneg i (by omega)]; exact q) (.inl (PyProof.noPylong_small (by omega)))
theorem unI {f : Value → Sem Value} {g : Int → Int}
    (rule : ∀ (i : Int) (t : Tok) (s : Shared) (Q : Value → Shared → Prop) (E : Value → Shared → Prop), Q (.int (g i) s.toks) { s with toks := s.toks + 1 } → wpAny (model X.prog X.w) X.A (f (.int i t)) Q E s) :
    UnR X f (rU fun i => .int (g i)) := by
  intro pins s σ H x v Q I rx h
  obtain ⟨i, rfl, q⟩ := h
  obtain ⟨t, rfl⟩ := rx
  exact rule i t s _ _ ⟨.int (g i), H, I.tok _, ⟨_, rfl⟩, q⟩
theorem un_neg : UnR X (unaryOp .USub) (rU fun i => .int (-i)) := unI fun _ _ _ _ _ q => neg_int q
end

def scal : V → V → Bool
  | .non, .non => true | .non, .int _ => true | .int _, .non => true | .non, .bl _ => true | .bl _, .non => true | .non, .str _ => true | .str _, .non => true
  | .int _, .int _ => true | .bl _, .bl _ => true | .str _, .str _ => true | .byt _, .byt _ => true
  | .int _, .str _ => true | .str _, .int _ => true | .bl _, .str _ => true | .str _, .bl _ => true
  | _, _ => false
def rEq : R2 := fun x y H Q => scal x y = true ∧ Q (.bl (decide (x = y))) H
def rNe : R2 := fun x y H Q => scal x y = true ∧ Q (.bl (!decide (x = y))) H

theorem dec_int {i j : Int} : decide (V.int i = V.int j) = (i == j) := by
  rw [Bool.eq_iff_iff]
  simp
theorem dec_bl {i j : Bool} : decide (V.bl i = V.bl j) = (i == j) := by
  rw [Bool.eq_iff_iff]
  simp
theorem dec_str {i j : Str} : decide (V.str i = V.str j) = (i == j) := by
  rw [Bool.eq_iff_iff]
  simp
theorem dec_byt {i j : Array UInt8} : decide (V.byt i = V.byt j) = (i.toList == j.toList) := by
  rw [Bool.eq_iff_iff]
  cases i
  cases j
  simp

section
variable {X : Cx} {a b c : Expr} {ta tb tc : TE} {pos : Pos}
theorem fin_bl {pins : List (Addr × Obj)} {σ : St} {H : Hp} {s : Shared} {Q : VK} {k k' : Bool} (I : Inv X pins σ H s) (q : Q (.bl k) H) (e : k = k') : EP X pins σ Q (.bool k') s := by
  subst e
  exact ⟨.bl k, H, I, rfl, q⟩
theorem op_eq : OpR X (compareOp .Eq) rEq := by
  intro pins s σ H x y v u Q I rx ry h
  obtain ⟨hs, q⟩ := h
  cases x with
  | non =>
    cases rx
    cases y with
    | non => cases ry; exact PySem.EqNone.eq_none_none (fin_bl I q (by simp))
    | bl j => cases ry; exact PySem.EqNone.eq_none_bool (fin_bl I q (by simp))
    | int j => obtain ⟨t', rfl⟩ := ry; exact PySem.EqNone.eq_none_int (fin_bl I q (by simp))
    | str j => obtain ⟨t', rfl⟩ := ry; exact PySem.EqNone.eq_none_str (fin_bl I q (by simp))
    | _ => exact absurd (show false = true from hs) Bool.false_ne_true
  | bl i =>
    cases rx
    cases y with
    | non => cases ry; exact PySem.EqNone.eq_bool_none (fin_bl I q (by simp))
    | bl j => cases ry; exact eq_bool (fin_bl I q dec_bl)
    | str j => obtain ⟨t', rfl⟩ := ry; exact PySem.EqMixed.eq_bool_str (fin_bl I q (by simp))
    | _ => exact absurd (show false = true from hs) Bool.false_ne_true
  | int i =>
    obtain ⟨t, rfl⟩ := rx
    cases y with
    | non => cases ry; exact PySem.EqNone.eq_int_none (fin_bl I q (by simp))
    | int j => obtain ⟨t', rfl⟩ := ry; exact eq_int (fin_bl I q dec_int)
    | str j => obtain ⟨t', rfl⟩ := ry; exact PySem.EqMixed.eq_int_str (fin_bl I q (by simp))
    | _ => exact absurd (show false = true from hs) Bool.false_ne_true
  | str i =>
    obtain ⟨t, rfl⟩ := rx
    cases y with
    | non => cases ry; exact PySem.EqNone.eq_str_none (fin_bl I q (by simp))
    | bl j => cases ry; exact PySem.EqMixed.eq_str_bool (fin_bl I q (by simp))
    | int j => obtain ⟨t', rfl⟩ := ry; exact PySem.EqMixed.eq_str_int (fin_bl I q (by simp))
    | str j => obtain ⟨t', rfl⟩ := ry; exact eq_str (fin_bl I q dec_str)
    | _ => exact absurd (show false = true from hs) Bool.false_ne_true
  | byt i =>
    obtain ⟨t, rfl⟩ := rx
    cases y with
    | byt j => obtain ⟨t', rfl⟩ := ry; exact PySem.W.eq_bytes (fin_bl I q dec_byt)
    | _ => exact absurd (show false = true from hs) Bool.false_ne_true
  | _ => cases y <;> exact absurd (show false = true from hs) Bool.false_ne_true
theorem op_ne : OpR X (compareOp .NotEq) rNe := by
  intro pins s σ H x y v u Q I rx ry h
  obtain ⟨hs, q⟩ := h
  cases x with
  | non =>
    cases rx
    cases y with
    | non => cases ry; exact PySem.EqNone.ne_none_none (fin_bl I q (by simp))
    | bl j => cases ry; exact PySem.EqNone.ne_none_bool (fin_bl I q (by simp))
    | int j => obtain ⟨t', rfl⟩ := ry; exact PySem.EqNone.ne_none_int (fin_bl I q (by simp))
    | str j => obtain ⟨t', rfl⟩ := ry; exact PySem.EqNone.ne_none_str (fin_bl I q (by simp))
    | _ => exact absurd (show false = true from hs) Bool.false_ne_true
  | bl i =>
    cases rx
    cases y with
    | non => cases ry; exact PySem.EqNone.ne_bool_none (fin_bl I q (by simp))
    | bl j => cases ry; exact ne_bool (fin_bl I q (congrArg not dec_bl))
    | str j => obtain ⟨t', rfl⟩ := ry; exact PySem.EqMixed.ne_bool_str (fin_bl I q (by simp))
    | _ => exact absurd (show false = true from hs) Bool.false_ne_true
  | int i =>
    obtain ⟨t, rfl⟩ := rx
    cases y with
    | non => cases ry; exact PySem.EqNone.ne_int_none (fin_bl I q (by simp))
    | int j => obtain ⟨t', rfl⟩ := ry; exact ne_int (fin_bl I q (congrArg not dec_int))
    | str j => obtain ⟨t', rfl⟩ := ry; exact PySem.EqMixed.ne_int_str (fin_bl I q (by simp))
    | _ => exact absurd (show false = true from hs) Bool.false_ne_true
  | str i =>
    obtain ⟨t, rfl⟩ := rx
    cases y with
    | non => cases ry; exact PySem.EqNone.ne_str_none (fin_bl I q (by simp))
    | bl j => cases ry; exact PySem.EqMixed.ne_str_bool (fin_bl I q (by simp))
    | int j => obtain ⟨t', rfl⟩ := ry; exact PySem.EqMixed.ne_str_int (fin_bl I q (by simp))
    | str j => obtain ⟨t', rfl⟩ := ry; exact ne_str (fin_bl I q (congrArg not dec_str))
    | _ => exact absurd (show false = true from hs) Bool.false_ne_true
  | byt i =>
    obtain ⟨t, rfl⟩ := rx
    cases y with
    | byt j => obtain ⟨t', rfl⟩ := ry; exact PySem.W.ne_bytes (fin_bl I q (congrArg not dec_byt))
    | _ => exact absurd (show false = true from hs) Bool.false_ne_true
  | _ => cases y <;> exact absurd (show false = true from hs) Bool.false_ne_true

theorem op_lt : OpR X (compareOp .Lt) (rI0 fun i j => .bl (decide (i < j))) := opB0 fun _ _ _ _ _ _ _ q => lt_int q
theorem op_le : OpR X (compareOp .LtE) (rI0 fun i j => .bl (decide (i ≤ j))) := opB0 fun _ _ _ _ _ _ _ q => le_int q
theorem op_gt : OpR X (compareOp .Gt) (rI0 fun i j => .bl (decide (j < i))) := opB0 fun _ _ _ _ _ _ _ q => gt_int q
theorem op_ge : OpR X (compareOp .GtE) (rI0 fun i j => .bl (decide (j ≤ i))) := opB0 fun _ _ _ _ _ _ _ q => ge_int q
theorem OpR.or {f : Value → Value → Sem Value} {r r' : R2} (h : OpR X f r) (h' : OpR X f r') : OpR X f (fun x y H Q => r x y H Q ∨ r' x y H Q) := by
  intro pins s σ H x y v u Q I rx ry q
  rcases q with q | q
  · exact h pins s σ H x y v u Q I rx ry q
  · exact h' pins s σ H x y v u Q I rx ry q

theorem nomark (b : Expr) {op : CmpOp} (h : op ≠ .In := by decide) (h2 : op ≠ .NotIn := by decide) : behindInMarks op b = false := by
  have e1 : (op == CmpOp.In) = false := by cases op <;> first | rfl | exact absurd rfl h
  have e2 : (op == CmpOp.NotIn) = false := by cases op <;> first | rfl | exact absurd rfl h2
  cases b <;> simp [behindInMarks, e1, e2]
theorem pe_cmpR {op : CmpOp} {r : R2} (ho : OpR X (compareOp op) r) (ha : PE X a ta) (hb : PE X b tb) (hm : behindInMarks op b = false) : PE X (.Compare a [op] [b] pos) (tOp r ta tb) := by
  intro pins s σ H Q I h
  exact wpAny_Compare1 (binT ha hb I h fun v u s2 x y H2 I2 rx ry q => ho pins s2 σ H2 x y v u Q I2 rx ry q) hm
def tTest (t : TE) : TT := fun σ H Q => t σ H fun x H' => ∃ k, x = .bl k ∧ Q k H'
theorem pt_cmpR {op : CmpOp} {r : R2} (ho : OpR X (compareOp op) r) (ha : PE X a ta) (hb : PE X b tb) (hm : behindInMarks op b = false) : PT X (.Compare a [op] [b] pos) (tTest (tOp r ta tb)) := by
  intro pins s σ H Q I h
  refine wpAny_isTrue_Compare1 (thn (ha pins s σ H _ I h) fun v s1 ⟨x, H1, I1, r1, q1⟩ => thn (hb pins s1 σ H1 _ I1 q1) fun u s2 ⟨y, H2, I2, r2, q2⟩ =>
    thn (ho pins s2 σ H2 x y v u _ I2 r1 r2 q2) fun c s3 ⟨z, H3, I3, r3, k, e, q3⟩ => ?_) hm
  subst e
  cases r3
  exact wpAny_truthy_bool ⟨H3, I3, q3⟩
theorem line63 : (sizeLine : Nat) < 2 ^ 63 := by rw [sizeLine_eq]; decide
theorem vals1 {x : V} {us : List Value} (r : Vals [x] us) : ∃ u, us = [u] ∧ RelV x u := by
  cases r with
  | cons r1 r2 => cases r2; exact ⟨_, rfl, r1⟩
theorem vals2 {x y : V} {us : List Value} (r : Vals [x, y] us) : ∃ u w', us = [u, w'] ∧ RelV x u ∧ RelV y w' := by
  cases r with
  | cons r1 r2 =>
    cases r2 with
    | cons r3 r4 => cases r4; exact ⟨_, _, rfl, r1, r3⟩
end
end L2

namespace L2
open PySem PySem.Spec PyProof.Rows

structure ObjM (h : Heap) (x dx C : Addr) (mA : Str → Option Value) : Prop where
  obj : h.get? x = some (PySem.W.instObj C dx)
  ns : h.Ns1 dx mA
  ne : dx ≠ x

theorem lookIn_ns {h : Heap} {dx : Addr} {mA : Str → Option Value} (n : h.Ns1 dx mA) : ∃ od, h.get? dx = some od ∧ ∀ name, PySem.W.lookIn name od = some (mA name) := by
  obtain ⟨o, es, ep, ho, hd, hk, _, hm⟩ := n
  refine ⟨o, ho, fun name => ?_⟩
  have e := hm name
  unfold nsFind findBy at e
  rw [← Array.find?_toList] at e
  unfold PySem.W.lookIn
  rw [hd]
  dsimp only
  split
  · rename_i y q
    rw [q] at e
    exact congrArg some e
  · rename_i q
    rw [q] at e
    have a : es.toList.any (·.refKey) = false := by
      rw [List.any_eq_false]
      intro y hy
      obtain ⟨z, t, hkey⟩ := hk y (Array.mem_toList_iff.mp hy)
      simp [DictEntry.refKey, hkey]
    have a' : ¬ es.toList.any (·.refKey) = true := by rw [a]; exact Bool.false_ne_true
    rw [if_neg a']
    exact congrArg some e

theorem ObjM.look {h : Heap} {x dx C : Addr} {mA : Str → Option Value} (I : ObjM h x dx C mA) : ∃ od, PySem.W.InstAt h x (PySem.W.instObj C dx) C (some od) ∧ ∀ name, PySem.W.lookIn name od = some (mA name) :=
  let ⟨od, ho, hl⟩ := lookIn_ns I.ns
  ⟨od, ⟨I.obj, rfl, rfl, ho⟩, hl⟩

section
variable {prog : Program} {w : World} {A : Around} {E : Value → Shared → Prop} {s : Shared} {K : PySem.W.Frag} {x dx C f : Addr} {mA : Str → Option Value} {name : Str} {v : Value}

theorem get_map {expr : Bool} {Q : Value → Shared → Prop} (X : K.In s.heap) (I : ObjM s.heap x dx C mA) (hg : PySem.W.plainGet K C name = true) (hh : PySem.W.hasDictIn K C = true)
    (ha : PySem.W.findIn K (.ref C) name = some none) (hv : mA name = some v) (hv' : PySem.W.handedIn v = true) (h : Q v { s with toks := s.toks + 1 }) :
    wpAny (model prog w) A (getAttr (.ref x) name expr) Q E s := by
  obtain ⟨od, J, hl⟩ := I.look
  exact PySem.W.get_value X J (PySem.W.plainGet_of hg).1 (PySem.W.findObj_own hh ha rfl (by rw [hl, hv])) hv' h

theorem set_map {ns : List Str} {Q : Unit → Shared → Prop} (X : K.In s.heap) (I : ObjM s.heap x dx C mA)
    (hs : PySem.W.findIn K (.ref C) "__setattr__" = some (some (.builtin "object.__setattr__"))) (hp : PySem.W.plainOver K C = true) (ht : PySem.W.takerIn K C name = some none) (hh : PySem.W.hasDictIn K C = true)
    (hw : PySem.Within mA ns) (hsz : ns.length ≤ sizeLine)
    (h : ∀ h', ObjM h' x dx C (fun y => if y = name then some v else mA y) → Heap.SameBut dx s.heap h' → Q () { s with heap := h', toks := s.toks + 2 }) :
    wpAny (model prog w) A (setAttr (.ref x) name v) Q E s := by
  obtain ⟨od, J, hl⟩ := I.look
  refine PySem.W.set_plain X J hs (PySem.W.osa_open (s := { s with toks := s.toks + 1 }) (r := none) X J hp ht fun b => ?_)
  obtain ⟨cd, hc, hd'⟩ := PySem.W.any_some hh
  have hx : s.heap.get? x = some ⟨.ref C, some dx, .plain, #[]⟩ := I.obj
  refine wpAny_bind (wpAny_pure (wpAny_bind (wpAny_bind (wpAny_loadPart hx (wpAny_bind (PySem.W.Looks.here (s := { s with toks := s.toks + 1 }) (PySem.W.looks_clsIn X hc) ?_))))))
  rw [hd']
  refine wpAny_pure (a := some dx) (wpAny_bind (wpAny_pure (wpAny_bind ?_)))
  refine wpAny_nsSet1 (s := { s with toks := s.toks + 1 }) I.ns fun h' hn2 hs2 => ?_
  obtain ⟨oD, esD, epD, hoD, hdD, hcD⟩ := hn2.count (PySem.Within.cons name v hw)
  refine wpAny_bind (wpAny_lookBehind hoD (by rw [hdD]; exact pastItsLine_dict (Nat.le_trans hcD (by rw [List.length_cons]; omega))) ?_)
  exact wpAny_pure (h _ ⟨(hs2.2 _ (Ne.symm I.ne)).trans I.obj, hn2, I.ne⟩ hs2)

theorem make_map {R : Result → Shared → Prop} {vs : List Value} {kw : List (Str × Value)} (X : K.In s.heap) (hm : PySem.W.makesIn K C = true)
    (hi : PySem.W.findIn K (.ref C) "__init__" = some (some (.ref f))) (hf : PySem.W.typeIn K (.ref f) = some (.type "function"))
    (h : codeAny (model prog w) (A.under (.builtin "type.__call__" ⟨.ref C :: vs, kw⟩)) (.call (.ref f) ⟨.ref (s.heap.objs.size + 1) :: vs, kw⟩) (PySem.W.InitBack (s.heap.objs.size + 1) R)
      { s with heap := (s.heap.push PySem.W.emptyDict).push (PySem.W.instObj C s.heap.objs.size) }) :
    codeAny (model prog w) A (.call (.ref C) ⟨vs, kw⟩) R s := by
  obtain ⟨hh, g, d, t, os⟩ := s
  exact PySem.W.make_core (PySem.W.makes_of X hm) (PySem.W.looks_findIn X hi) (fun self => PySem.W.bind_fn X self hf) (.inl rfl) h
end

def putF (f : Str) (v : V) : List (Str × V) → List (Str × V)
  | [] => [(f, v)]
  | (g, x) :: r => if g = f then (g, v) :: r else (g, x) :: putF f v r
theorem lookup_putF (f g : Str) (v : V) : ∀ fs : List (Str × V), (putF f v fs).lookup g = if g = f then some v else fs.lookup g
  | [] => by
    show List.lookup g [(f, v)] = _
    by_cases h : g = f
    · have hb : (g == f) = true := beq_iff_eq.mpr h
      simp only [List.lookup, hb, if_pos h]
    · have hb : (g == f) = false := beq_eq_false_iff_ne.mpr h
      simp only [List.lookup, hb, if_neg h]
  | (k, x) :: r => by
    have ih := lookup_putF f g v r
    rw [show putF f v ((k, x) :: r) = (if k = f then (k, v) :: r else (k, x) :: putF f v r) from rfl]
    by_cases hk : k = f
    · rw [if_pos hk]
      by_cases h : g = k
      · have hb : (g == k) = true := beq_iff_eq.mpr h
        simp only [List.lookup, hb, if_pos (h.trans hk)]
      · have hb : (g == k) = false := beq_eq_false_iff_ne.mpr h
        simp only [List.lookup, hb, if_neg (fun e : g = f => h (e.trans hk.symm))]
    · rw [if_neg hk]
      by_cases h : g = k
      · have hb : (g == k) = true := beq_iff_eq.mpr h
        simp only [List.lookup, hb, if_neg (fun e : g = f => hk (h.symm.trans e))]
      · have hb : (g == k) = false := beq_eq_false_iff_ne.mpr h
        simp only [List.lookup, hb]
        exact ih
theorem keys_putF (f : Str) (v : V) : ∀ fs : List (Str × V), f ∈ (putF f v fs).map (·.1) ∧ ∀ g, g ∈ fs.map (·.1) → g ∈ (putF f v fs).map (·.1)
  | [] => ⟨by simp [putF], fun g h => by simp at h⟩
  | (k, x) :: r => by
    obtain ⟨i1, i2⟩ := keys_putF f v r
    rw [show putF f v ((k, x) :: r) = (if k = f then (k, v) :: r else (k, x) :: putF f v r) from rfl]
    by_cases hk : k = f
    · rw [if_pos hk]
      subst hk
      exact ⟨by simp, fun g h => by simpa using h⟩
    · rw [if_neg hk]
      refine ⟨?_, fun g h => ?_⟩
      · rw [List.map_cons]
        exact List.mem_cons_of_mem _ i1
      · rw [List.map_cons] at h ⊢
        rcases List.mem_cons.mp h with e | e
        · exact List.mem_cons.mpr (.inl e)
        · exact List.mem_cons_of_mem _ (i2 g e)
theorem length_putF (f : Str) (v : V) : ∀ fs : List (Str × V), (putF f v fs).length ≤ fs.length + 1
  | [] => by simp [putF]
  | (k, x) :: r => by
    have ih := length_putF f v r
    rw [show putF f v ((k, x) :: r) = (if k = f then (k, v) :: r else (k, x) :: putF f v r) from rfl]
    by_cases hk : k = f
    · rw [if_pos hk, List.length_cons, List.length_cons]; omega
    · rw [if_neg hk, List.length_cons, List.length_cons]; omega

theorem RelO.some_of {v : V} {o : Option Value} (r : RelO (some v) o) : ∃ u, o = some u ∧ RelV v u := by
  cases o with
  | none => exact (show False from r).elim
  | some u => exact ⟨u, rfl, r⟩
theorem handed_of {v : V} {u : Value} (r : RelV v u) : PySem.W.handedIn u = true := by
  cases v with
  | non => cases (show u = Value.none from r); rfl
  | bl b => cases (show u = Value.bool b from r); rfl
  | int i => obtain ⟨t, e⟩ := (show ∃ t, u = Value.int i t from r); cases e; rfl
  | str x => obtain ⟨t, e⟩ := (show ∃ t, u = Value.str x t from r); cases e; rfl
  | byt b => obtain ⟨t, e⟩ := (show ∃ t, u = Value.bytes b t from r); cases e; rfl
  | flt b => obtain ⟨t, e⟩ := (show ∃ t, u = Value.float b t from r); cases e; rfl
  | ref a => cases (show u = Value.ref a from r); rfl
  | ty n => cases (show u = Value.type n from r); rfl

section
variable {P : Program} {w : World} {H H' : Hp} {h h' : Heap} {a C dx : Addr} {fs fs' : List (Str × V)}
theorem ins_get (hok : HOk P w H h) (e : H a = some (.ins C dx fs)) : ∃ mA, ObjM h a dx C mA ∧ (∀ f, RelO (fs.lookup f) (mA f)) ∧ PySem.Within mA (fs.map (·.1)) ∧ fs.length ≤ 1000 ∧ H dx = some (.own a) := by
  obtain ⟨d, z, ne, ob, mA, n, r, q⟩ := (show ObjOk P w H h a (.ins C dx fs) from hok a _ e)
  exact ⟨mA, ⟨ob, n, ne⟩, r, q, z, d⟩
end

structure Cls (K : PySem.W.Frag) (C : Addr) : Prop where
  pg : PySem.W.plainGet K C Str.empty = true
  hd : PySem.W.hasDictIn K C = true
  po : PySem.W.plainOver K C = true
  sa : PySem.W.findIn K (.ref C) "__setattr__" = some (some (.builtin "object.__setattr__"))
theorem Cls.get {K : PySem.W.Frag} {C : Addr} (c : Cls K C) (f : Str) : PySem.W.plainGet K C f = true := c.pg
def NoAttr (K : PySem.W.Frag) (C : Addr) (f : Str) : Prop := PySem.W.findIn K (.ref C) f = some none
theorem NoAttr.taker {K : PySem.W.Frag} {C : Addr} {f : Str} (n : NoAttr K C f) : PySem.W.takerIn K C f = some none := by
  unfold PySem.W.takerIn
  rw [show PySem.W.findIn K (.ref C) f = some none from n]
  rfl
section
variable {X : Cx} {pins : List (Addr × Obj)} {σ : St} {H : Hp} {s : Shared} {a C dx : Addr} {fs : List (Str × V)} {f : Str} {v : V} {A : Around} {E : Value → Shared → Prop}

theorem getattr_ok {b : Bool} {Q : Value → Shared → Prop} (I : Inv X pins σ H s) (e : H a = some (.ins C dx fs)) (c : Cls X.K C) (n : NoAttr X.K C f) (l : fs.lookup f = some v)
    (h : ∀ u s', Inv X pins σ H s' → RelV v u → Q u s') : wpAny (model X.prog X.w) A (getAttr (.ref a) f b) Q E s := by
  obtain ⟨mA, O, r, _, _, _⟩ := ins_get I.hok e
  obtain ⟨u, hu, ru⟩ := RelO.some_of (v := v) (o := mA f) (by rw [← l]; exact r f)
  exact get_map I.kIn O (c.get f) c.hd n hu (handed_of ru) (h u _ (I.tok _) ru)

theorem setattr_ok {y : V} {u : Value} {Q : Unit → Shared → Prop} (I : Inv X pins σ H s) (e : H a = some (.ins C dx fs)) (c : Cls X.K C) (n : NoAttr X.K C f) (hl : fs.length < 1000) (ry : RelV y u)
    (h : ∀ s', Inv X pins σ (upd H a (.ins C dx (putF f y fs))) s' → Q () s') : wpAny (model X.prog X.w) A (setAttr (.ref a) f u) Q E s := by
  obtain ⟨mA, O, r, wi, _, ho⟩ := ins_get I.hok e
  have hz : (fs.map (·.1)).length ≤ sizeLine := by rw [List.length_map, sizeLine_eq]; omega
  refine set_map I.kIn O c.sa c.po n.taker c.hd wi hz fun h' O' sb => h _ ?_
  have hd : ∃ o, h'.get? dx = some o := let ⟨o, _, _, e', _⟩ := O'.ns; ⟨o, e'⟩
  refine I.write (x := a) (e := dx) (by rw [e]; exact True.intro) (.inr ho) (fun b q hb z => (sb.2 b hb).trans z) hd ?_
  refine ⟨by rw [upd_ne O.ne]; exact ho, ?_, O.ne, O'.obj, _, O'.ns, fun g => ?_, fun g hg => ?_⟩
  · have := length_putF f y fs; omega
  · show RelO ((putF f y fs).lookup g) (if g = f then some u else mA g)
    rw [lookup_putF]
    by_cases q : g = f
    · rw [if_pos q, if_pos q]; exact ry
    · rw [if_neg q, if_neg q]; exact r g
  · by_cases q : g = f
    · rw [q]; exact (keys_putF f y fs).1
    · refine (keys_putF f y fs).2 g (wi g fun z => hg ?_)
      show (if g = f then some u else mA g) = none
      rw [if_neg q]; exact z

theorem Inv.made (I : Inv X pins σ H s) : Inv X pins σ (upd (upd H s.heap.objs.size (.own (s.heap.objs.size + 1))) (s.heap.objs.size + 1) (.ins C s.heap.objs.size []))
    { s with heap := (s.heap.push PySem.W.emptyDict).push (PySem.W.instObj C s.heap.objs.size) } := by
  have e1 : (s.heap.push PySem.W.emptyDict).get? s.heap.objs.size = some PySem.W.emptyDict := Heap.get?_push_size s.heap rfl
  have e2 : ((s.heap.push PySem.W.emptyDict).push (PySem.W.instObj C s.heap.objs.size)).get? (s.heap.objs.size + 1) = some (PySem.W.instObj C s.heap.objs.size) := by
    have := Heap.get?_push_size (s.heap.push PySem.W.emptyDict) (o := PySem.W.instObj C s.heap.objs.size) rfl
    rwa [Heap.size_push] at this
  have e3 : (s.heap.push PySem.W.emptyDict).Ns s.heap.objs.size (fun _ => none) := ⟨PySem.W.emptyDict, #[], _, e1, rfl, (fun e he => absurd he (by simp)), fun _ => rfl⟩
  have I1 := I.laid (a := s.heap.objs.size) (o := .own (s.heap.objs.size + 1)) (h' := s.heap.push PySem.W.emptyDict) (t' := s.toks) (fun b u q => Heap.get?_push_of_some _ q) (Nat.le_refl _) ⟨_, e1⟩
  refine I1.laid (a := s.heap.objs.size + 1) (o := .ins C s.heap.objs.size []) (t' := s.toks) (fun b u q => Heap.get?_push_of_some _ q) (Nat.le_of_eq (Heap.size_push _ _)) ?_
  have ne : s.heap.objs.size ≠ s.heap.objs.size + 1 := Nat.ne_of_lt (Nat.lt_succ_self _)
  refine ⟨by rw [upd_ne ne, upd_same], Nat.zero_le _, ne, e2, fun _ => none, (Heap.Ns1.of_empty e3).at fun o q => Heap.get?_push_of_some _ q, fun _ => True.intro, fun y hy => absurd rfl hy⟩

theorem attr_of {prog : Program} {w : World} {env : Env} {e : Expr} {f : Str} {pos : Pos} {s : Shared} {Q : Value → Shared → Prop} (hb : attributeBase e f env (eval e env) = eval e env)
    (h : wpAny (model prog w) A (eval e env) (fun o s₁ => wpAny (model prog w) A (getAttr o f true) Q E s₁) E s) : wpAny (model prog w) A (eval (.Attribute e f pos) env) Q E s :=
  Attribute_any_ h (by rw [arm_eval_Attribute, hb])
end

def tFld (K : PySem.W.Frag) (ta : TE) (f : Str) : TE := fun σ H Q => ta σ H fun x H1 => ∃ a C dx fs v, x = .ref a ∧ H1 a = some (.ins C dx fs) ∧ Cls K C ∧ NoAttr K C f ∧ fs.lookup f = some v ∧ Q v H1
def sFld (K : PySem.W.Frag) (ta tv : TE) (f : Str) : TS := fun D σ H => tv σ H fun y H1 => ta σ H1 fun x H2 => ∃ a C dx fs, x = .ref a ∧ H2 a = some (.ins C dx fs) ∧ Cls K C ∧ NoAttr K C f ∧ fs.length < 1000 ∧
  D.nx σ (upd H2 a (.ins C dx (putF f y fs)))
section
variable {X : Cx} {o e value : Expr} {f : Str} {pos pos' tpos : Pos} {ta tv : TE}
theorem pe_fld (he : PE X e ta) (hb : attributeBase e f X.env (eval e X.env) = eval e X.env) : PE X (.Attribute e f pos) (tFld X.K ta f) := by
  intro pins s σ H Q I h
  refine attr_of hb (thn (he pins s σ H _ I h) fun u s1 ⟨x, H1, I1, rx, a, C, dx, fs, v, ex, ea, c, n, l, q⟩ => ?_)
  subst ex
  obtain rfl : u = Value.ref a := rx
  exact getattr_ok I1 ea c n l fun u' s2 I2 ru => ⟨v, H1, I2, ru, q⟩
theorem ps_fld (ha : PE X o ta) (hv : PE X value tv) (hs : swapsWith value (some (.Attribute o f pos')) pos.line X.env = pure false) : PS X (.Assign [.Attribute o f pos'] value pos) (sFld X.K ta tv f) := by
  intro pins s σ H D I h
  refine plainObj_wpAny_Assign_Attribute (thn (hv pins s σ H _ I h) fun u s1 ⟨y, H1, I1, ry, q⟩ => thn (ha pins s1 σ H1 _ I1 q) fun ov s2 ⟨x, H2, I2, rx, a, C, dx, fs, ex, ea, c, n, l, q2⟩ => ?_) hs
  subst ex
  obtain rfl : ov = Value.ref a := rx
  exact setattr_ok I2 ea c n l ry fun s3 I3 => ⟨σ, _, I3, q2⟩
end

section
variable {X : Cx} {pins : List (Addr × Obj)} {σ : St} {H : Hp} {s : Shared} {A : Around} {E : Value → Shared → Prop} {Q : Value → Shared → Prop} {c : Value} {b : Bool}
end
end L2

namespace L2
open PySem PySem.Spec PyProof.Rows

structure Room (k : Nat) (A : Around) : Prop where
  hd : A.handled = none
  dp : A.depth + 3 * k + 5 < recursionLimit
  un : A.units + 16 * k + 200 < cLine
theorem Room.mono {j k : Nat} {A : Around} (r : Room k A) (h : j ≤ k) : Room j A := ⟨r.hd, by have := r.dp; omega, by have := r.un; omega⟩
theorem Room.deeper {k : Nat} {A : Around} (r : Room (k + 1) A) (env : Env) : Room k (A.deeper env) :=
  ⟨r.hd, by have := r.dp; show A.depth + 1 + 3 * k + 5 < _; omega, by have := r.un; show A.units + 3 + 16 * k + 200 < _; omega⟩
theorem Room.in1 {k : Nat} {A : Around} (r : Room (k + 1) A) : Room k A.in1 :=
  ⟨r.hd, by have := r.dp; show A.depth + 3 * k + 5 < _; omega, by have := r.un; show A.units + 1 + 16 * k + 200 < _; omega⟩
theorem make_depth {A : Around} {C : Addr} {us : List Value} {kw : List (Str × Value)} : (A.under (.builtin "type.__call__" ⟨.ref C :: us, kw⟩)).depth = A.depth + 1 := by
  first | rfl | simp [Around.under, Code.weight, Code.isCreation, Code.isGuard, Code.isCaller, Code.frames, Code.isFrame, guardIds]
theorem make_units {A : Around} {C : Addr} {us : List Value} {kw : List (Str × Value)} : (A.under (.builtin "type.__call__" ⟨.ref C :: us, kw⟩)).units = A.units + 1 := by
  first | rfl | simp [Around.under, Code.cUnits, Code.frames, Code.isFrame]
theorem Room.make {k : Nat} {A : Around} (r : Room (k + 1) A) (C : Addr) (us : List Value) (kw : List (Str × Value)) : Room k (A.under (.builtin "type.__call__" ⟨.ref C :: us, kw⟩)) :=
  ⟨r.hd, by have := r.dp; rw [make_depth]; omega, by have := r.un; rw [make_units]; omega⟩
theorem Room.depth {k : Nat} {A : Around} (r : Room k A) : A.depth < recursionLimit := by have := r.dp; omega
theorem Room.units {k : Nat} {A : Around} (r : Room k A) : A.units + 64 < cLine := by have := r.un; omega
def tNil : TA := fun _ H Q => Q [] H
def tCons (ta : TE) (tr : TA) : TA := fun σ H Q => ta σ H fun x H1 => tr σ H1 fun xs H2 => Q (x :: xs) H2
section
variable {X : Cx} {e : Expr} {es : List Expr} {te : TE} {t : TA} {pos : Pos}
theorem pa_nil : PA X [] tNil := fun _ _ _ _ H Q I h => Calls.spliced_nil ⟨[], H, I, .nil, h⟩
theorem pa_cons (ha : PE X e te) (hr : PA X es t) (hs : starEach (e :: es) X.env = (false, eval e X.env) :: starEach es X.env := by rfl) : PA X (e :: es) (tCons te t) := by
  intro pos pins s σ H Q I h
  rw [hs]
  show wpAny _ _ (spliced ((false, eval e X.env) :: backTo pos (starEach es X.env))) _ _ s
  refine Calls.spliced_cons (thn (ha pins s σ H _ I h) fun u s1 ⟨x, H1, I1, r1, q1⟩ => ?_)
  exact thn (hr pos pins s1 σ H1 _ I1 q1) fun us s2 ⟨xs, H2, I2, r2, q2⟩ => ⟨x :: xs, H2, I2, .cons r1 r2, q2⟩

def tTup (t : TA) : TE := fun σ H Q => t σ H fun xs H1 => xs.length ≤ sizeLine ∧ ∀ p, H1 p = none → Q (.ref p) (upd H1 p (.tup xs))
def tLst (t : TA) : TE := fun σ H Q => t σ H fun xs H1 => xs.length ≤ sizeLine ∧ ∀ p, H1 p = none → Q (.ref p) (upd H1 p (.lst xs))
theorem pe_tup {x1} (h : PA X es t) : PE X (.Tuple es x1 pos) (tTup t) := by
  intro pins s σ H Q I hq
  refine wpAny_Tuple_spliced (thn (h pos pins s σ H _ I hq) fun us s1 ⟨xs, H1, I1, r, z, q⟩ => ⟨by rw [← r.length]; exact z, ?_⟩)
  have hf : H1 s1.heap.objs.size = none := I1.hok.fresh (Nat.le_refl _)
  refine ⟨.ref s1.heap.objs.size, upd H1 s1.heap.objs.size (.tup xs), I1.laid (t' := s1.toks) (fun b u e => Heap.get?_push_of_some _ e) (Nat.le_refl _) ?_, rfl, q _ hf⟩
  exact ⟨z, us, r, ⟨_, Heap.get?_push_size _ rfl, rfl, _, rfl⟩⟩
theorem pe_lst (h : PA X es t) : PE X (.List es pos) (tLst t) := by
  intro pins s σ H Q I hq
  refine wpAny_List_spliced (thn (h pos pins s σ H _ I hq) fun us s1 ⟨xs, H1, I1, r, z, q⟩ => ⟨by rw [← r.length]; exact z, ?_⟩)
  have hf : H1 s1.heap.objs.size = none := I1.hok.fresh (Nat.le_refl _)
  refine ⟨.ref s1.heap.objs.size, upd H1 s1.heap.objs.size (.lst xs), I1.laid (t' := s1.toks) (fun b u e => Heap.get?_push_of_some _ e) (Nat.le_refl _) ?_, rfl, q _ hf⟩
  exact ⟨z, us, 0, r, Heap.get?_push_size _ rfl⟩
end

abbrev Sp := List V → Hp → VK → XK → Prop
abbrev CXT := List Env → Hp → Shared → XK → Value → Shared → Prop

structure Env0 (P : Program) (w : World) (K : PySem.W.Frag) (mg : Str → Option Value) (base : Heap) (A : Around) (outer : List Env) (s : Shared) (H : Hp) : Prop where
  frames : A.frames = some outer
  mod : Mod K mg base
  bs : ∀ b o, base.get? b = some o → s.heap.get? b = some o ∧ H b = none
  bsz : base.objs.size ≤ s.heap.objs.size
  funs : s.heap.FunFrames base outer
  frf : ∀ b ∈ frs outer, H b = none
  hok : HOk P w H s.heap
  bare : AllBare s.gens
def CE (outer : List Env) (P : Program) (w : World) (H : Hp) (s : Shared) (Q : VK) (u : Value) (s' : Shared) : Prop :=
  ∃ v H', s'.os = s.os ∧ AllBare s'.gens ∧ Un (frs outer) [] H H' s.heap s'.heap ∧ HOk P w H' s'.heap ∧ RelV v u ∧ Q v H'
def CR (CX : CXT) (outer : List Env) (P : Program) (w : World) (H : Hp) (s : Shared) (Q : VK) (E : XK) (r : Result) (s' : Shared) : Prop :=
  match r with
  | .ok (.ret u) => CE outer P w H s Q u s'
  | .ok _ => False
  | .error e => CX outer H s E e s'
structure FnOk (P : Program) (w : World) (K : PySem.W.Frag) (mg : Str → Option Value) (base : Heap) (CX : CXT) (k : Nat) (f : Addr) (fd : FuncData) (ps : List Str) (sp : Sp) : Prop where
  len : ∀ vs H Q E, sp vs H Q E → vs.length = ps.length
  run : ∀ (A : Around) (outer : List Env) (s : Shared) (H : Hp) (args : Args) (us : List Value) (vs : List V) (Q : VK) (E : XK), Room k A → Env0 P w K mg base A outer s H → BindsTo s fd args (ps.zip us) → Vals vs us → sp vs H Q E →
    codeAny (model P w) A (.call (.ref f) args) (CR CX outer P w H s Q E) s
theorem FnOk.mono {P : Program} {w : World} {K : PySem.W.Frag} {mg : Str → Option Value} {base : Heap} {CX : CXT} {j k : Nat} {f : Addr} {fd : FuncData} {ps : List Str} {sp : Sp} (F : FnOk P w K mg base CX j f fd ps sp) (h : j ≤ k) :
    FnOk P w K mg base CX k f fd ps sp := ⟨F.len, fun A outer s H args us vs Q E hr => F.run A outer s H args us vs Q E (hr.mono h)⟩
theorem FnOk.imp {P : Program} {w : World} {K : PySem.W.Frag} {mg : Str → Option Value} {base : Heap} {CX : CXT} {k : Nat} {f : Addr} {fd : FuncData} {ps : List Str} {sp sp' : Sp} (F : FnOk P w K mg base CX k f fd ps sp)
    (h : ∀ vs H Q E, sp' vs H Q E → sp vs H Q E) : FnOk P w K mg base CX k f fd ps sp' :=
  ⟨fun vs H Q E q => F.len vs H Q E (h _ _ _ _ q), fun A outer s H args us vs Q E hr he hb hv hs => F.run A outer s H args us vs Q E hr he hb hv (h _ _ _ _ hs)⟩

theorem Env0.make {P : Program} {w : World} {K : PySem.W.Frag} {mg : Str → Option Value} {base : Heap} {A : Around} {outer : List Env} {s : Shared} {H : Hp} (e : Env0 P w K mg base A outer s H) (C : Addr) (us : List Value) (kw : List (Str × Value)) :
    Env0 P w K mg base (A.under (.builtin "type.__call__" ⟨.ref C :: us, kw⟩)) outer s H := ⟨by first | exact e.frames | (simpa [Around.under, Code.envs, Code.isFrame, pushEnvs] using e.frames), e.mod, e.bs, e.bsz, e.funs, e.frf, e.hok, e.bare⟩
theorem Env0.in1 {P : Program} {w : World} {K : PySem.W.Frag} {mg : Str → Option Value} {base : Heap} {A : Around} {outer : List Env} {s : Shared} {H : Hp} (e : Env0 P w K mg base A outer s H) :
    Env0 P w K mg base A.in1 outer s H := ⟨e.frames, e.mod, e.bs, e.bsz, e.funs, e.frf, e.hok, e.bare⟩

section
variable {X : Cx} {pins : List (Addr × Obj)} {σ : St} {H : Hp} {s s' : Shared}
theorem Inv.env0 (I : Inv X pins σ H s) : Env0 X.prog X.w X.K X.mg X.base X.A X.stack s H :=
  ⟨I.ok.frames, I.ok.mod, I.bs, Nat.le_trans I.ok.bsz I.sz, I.stack, I.stkFree, I.hok, I.bare⟩
theorem Inv.after {Q : VK} {u : Value} (I : Inv X pins σ H s) (h : CE X.stack X.prog X.w H s Q u s') : EP X pins σ Q u s' := by
  obtain ⟨v, H', os, bare, un, hok, r, q⟩ := h
  obtain ⟨hh, g, d, t, os'⟩ := s'
  obtain rfl : os' = s.os := os
  exact ⟨v, H', I.call (h' := hh) (g' := g) (d' := d) (t' := t) (ch := []) un hok bare (fun b z => absurd z (by simp)), r, q⟩
end

def tCall (sp : Sp) (dvs : List V) (E : XK) (t : TA) : TE := fun σ H Q => t σ H fun vs H1 => sp (vs ++ dvs) H1 Q E
def tMake (C : Addr) (sp : Sp) (dvs : List V) (E : XK) (t : TA) : TE := fun σ H Q => t σ H fun vs H1 => ∀ x dx, H1 x = none → H1 dx = none → dx ≠ x →
  sp (.ref x :: (vs ++ dvs)) (upd (upd H1 dx (.own x)) x (.ins C dx [])) (fun v H2 => v = .non ∧ Q (.ref x) H2) E

def Binds (K : PySem.W.Frag) (fd : FuncData) (ps : List Str) (ds : List Value) : Prop :=
  ∀ (s : Shared) (us : List Value), K.In s.heap → (us ++ ds).length = ps.length → BindsTo s fd ⟨us, []⟩ (ps.zip (us ++ ds))
theorem Binds.all {K : PySem.W.Frag} {fd : FuncData} {ps : List Str} (h : ∀ us : List Value, us.length = ps.length → bindArgs fd ⟨us, []⟩ = pure (ps.zip us)) : Binds K fd ps [] := fun s us _ hl => by
  rw [List.append_nil] at hl ⊢
  exact .of_eq (h us hl)

def Passes (CX : CXT) (X : Cx) (E : XK) : Prop := ∀ (pins : List (Addr × Obj)) (σ : St) (H : Hp) (s : Shared) (e : Value) (s' : Shared), Inv X pins σ H s → CX X.stack H s E e s' → X.xe e s'

section
variable {X : Cx} {CX : CXT} {k : Nat} {f C : Addr} {fd : FuncData} {ps : List Str} {sp : Sp} {dvs : List V} {ds : List Value} {E : XK} {x m : Str} {p pos apos : Pos} {e o : Expr} {es : List Expr} {ta : TE} {t : TA}

theorem run_fn {pins : List (Addr × Obj)} {σ : St} {H : Hp} {s : Shared} {Q : VK} {us : List Value} {vs : List V} (F : FnOk X.prog X.w X.K X.mg X.base CX k f fd ps sp) (hr : Room k X.A) (hb : Binds X.K fd ps ds) (hd : Vals dvs ds) (hx : Passes CX X E)
    (I : Inv X pins σ H s) (r : Vals vs us) (h : sp (vs ++ dvs) H Q E) : wpAny (model X.prog X.w) X.A (call (.ref f) us) (EP X pins σ Q) X.xe s := by
  have r2 : Vals (vs ++ dvs) (us ++ ds) := r.append hd
  have hl : (us ++ ds).length = ps.length := by rw [← r2.length]; exact F.len _ _ _ _ h
  refine wpAny_call (codeAny_mono (F.run X.A X.stack s H ⟨us, []⟩ (us ++ ds) (vs ++ dvs) Q E hr I.env0 (hb s us I.kIn hl) r2 h) fun r s' hq => ?_)
  cases r with
  | error e => exact hx pins σ H s e s' I hq
  | ok fl =>
    cases fl with
    | ret u => exact I.after hq
    | next => exact False.elim hq
    | brk => exact False.elim hq
    | cont => exact False.elim hq

theorem pe_call (F : FnOk X.prog X.w X.K X.mg X.base CX k f fd ps sp) (hr : Room k X.A) (hg : Gl X x) (hm : X.mg x = some (.ref f)) (hk : PySem.W.keepIn X.K (.ref f) = true) (hb : Binds X.K fd ps ds) (hd : Vals dvs ds) (hx : Passes CX X E)
    (ha : PA X (e :: es) t) (hdb : (x == ("__debug__" : Str)) = false := by decide) (he : starEach (e :: es) X.env = (false, eval e X.env) :: starEach es X.env := by rfl) (hpl : (backTo pos (starEach es X.env)).any (·.1) = false := by rfl) :
    PE X (.Call (.Name x p) (e :: es) [] pos) (tCall sp dvs E t) := by
  intro pins s σ H Q I h
  refine wpAny_Call_Name_kw (ld_glob I hg hm ?_ hdb)
  refine PySem.W.callWith_K (h₀ := X.base) I.ok.mod.kin hk (thn (ha pos pins s σ H _ I h) fun us s1 ⟨vs, H1, I1, r, q⟩ => ⟨I1.kIn, ?_⟩) he hpl
  exact run_fn F hr hb hd hx I1 r q
structure Mk (K : PySem.W.Frag) (C f : Addr) : Prop where
  makes : PySem.W.makesIn K C = true
  init : PySem.W.findIn K (.ref C) "__init__" = some (some (.ref f))
  fn : PySem.W.isFn K (.ref f) = true
  kp : PySem.W.keepIn K (.ref C) = true

theorem run_make {pins : List (Addr × Obj)} {σ : St} {H : Hp} {s : Shared} {Q : VK} {us : List Value} {vs : List V} (M : Mk X.K C f) (F : FnOk X.prog X.w X.K X.mg X.base CX k f fd ps sp) (hr : Room (k + 1) X.A) (hb : Binds X.K fd ps ds) (hd : Vals dvs ds)
    (hx : Passes CX X E) (I : Inv X pins σ H s) (r : Vals vs us)
    (h : ∀ x dx, H x = none → H dx = none → dx ≠ x → sp (.ref x :: (vs ++ dvs)) (upd (upd H dx (.own x)) x (.ins C dx [])) (fun v H2 => v = .non ∧ Q (.ref x) H2) E) :
    wpAny (model X.prog X.w) X.A (call (.ref C) us) (EP X pins σ Q) X.xe s := by
  have hq := h (s.heap.objs.size + 1) s.heap.objs.size (I.hok.fresh (Nat.le_succ _)) (I.hok.fresh (Nat.le_refl _)) (Nat.ne_of_lt (Nat.lt_succ_self _))
  have I2 := Inv.made (C := C) I
  have r2 : Vals (V.ref (s.heap.objs.size + 1) :: (vs ++ dvs)) (Value.ref (s.heap.objs.size + 1) :: (us ++ ds)) := .cons rfl (r.append hd)
  have hl : (Value.ref (s.heap.objs.size + 1) :: us ++ ds).length = ps.length := by
    have e := r2.length
    rw [F.len _ _ _ _ hq] at e
    exact e.symm
  refine wpAny_call (make_map (f := f) I.kIn M.makes M.init (beq_iff_eq.mp M.fn) (codeAny_mono (F.run _ X.stack _ _ ⟨Value.ref (s.heap.objs.size + 1) :: us, []⟩ (Value.ref (s.heap.objs.size + 1) :: (us ++ ds)) _ _ E (hr.make C us [])
    (I2.env0.make C us []) (hb _ (Value.ref (s.heap.objs.size + 1) :: us) I2.kIn hl) r2 hq) fun r s' hq' => ?_))
  cases r with
  | error e => exact hx pins σ _ _ e s' I2 hq'
  | ok fl =>
    cases fl with
    | ret u =>
      obtain ⟨v, H', I3, rv, ev, q3⟩ := I2.after hq'
      subst ev
      exact ⟨rv, ⟨V.ref (s.heap.objs.size + 1), H', I3, rfl, q3⟩⟩
    | next => exact False.elim hq'
    | brk => exact False.elim hq'
    | cont => exact False.elim hq'
theorem pe_make (M : Mk X.K C f) (F : FnOk X.prog X.w X.K X.mg X.base CX k f fd ps sp) (hr : Room (k + 1) X.A) (hg : Gl X x) (hm : X.mg x = some (.ref C)) (hb : Binds X.K fd ps ds) (hd : Vals dvs ds) (hx : Passes CX X E)
    (ha : PA X (e :: es) t) (hdb : (x == ("__debug__" : Str)) = false := by decide) (he : starEach (e :: es) X.env = (false, eval e X.env) :: starEach es X.env := by rfl) (hpl : (backTo pos (starEach es X.env)).any (·.1) = false := by rfl) :
    PE X (.Call (.Name x p) (e :: es) [] pos) (tMake C sp dvs E t) := by
  intro pins s σ H Q I h
  refine wpAny_Call_Name_kw (ld_glob I hg hm ?_ hdb)
  refine PySem.W.callWith_K (h₀ := X.base) I.ok.mod.kin M.kp (thn (ha pos pins s σ H _ I h) fun us s1 ⟨vs, H1, I1, r, q⟩ => ⟨I1.kIn, ?_⟩) he hpl
  exact run_make M F hr hb hd hx I1 r q
theorem pe_make0 (M : Mk X.K C f) (F : FnOk X.prog X.w X.K X.mg X.base CX k f fd ps sp) (hr : Room (k + 1) X.A) (hg : Gl X x) (hm : X.mg x = some (.ref C)) (hb : Binds X.K fd ps ds) (hd : Vals dvs ds) (hx : Passes CX X E)
    (hdb : (x == ("__debug__" : Str)) = false := by decide) : PE X (.Call (.Name x p) [] [] pos) (tMake C sp dvs E tNil) := by
  intro pins s σ H Q I h
  refine wpAny_Call_Name_kw (ld_glob I hg hm ?_ hdb)
  exact PySem.W.callWith_K0 I.kIn M.kp (run_make (us := []) M F hr hb hd hx I .nil h)
end

def PK (X : Cx) (kws : List Keyword) (t : TA) : Prop :=
  ∀ (pos : Pos) (pins : List (Addr × Obj)) (s : Shared) (σ : St) (H : Hp) (Q : List V → Hp → Prop), Inv X pins σ H s → t σ H Q → wpAny (model X.prog X.w) X.A (evalAll ((backToKw pos (keywordEach kws X.env)).map (·.2))) (AP X pins σ Q) X.xe s
section
variable {X : Cx} {CX : CXT} {k : Nat} {f C : Addr} {fd : FuncData} {ps ks : List Str} {sp : Sp} {E : XK} {x m : Str} {p pos apos kpos : Pos} {e o : Expr} {es : List Expr} {kws : List Keyword} {te ta : TE} {t tk : TA} {nm : Option Str}
theorem pk_nil : PK X [] tNil := fun _ _ _ _ H Q I h => wpAny_evalAll_nil ⟨[], H, I, .nil, h⟩
theorem pk_cons (ha : PE X e te) (hr : PK X kws t) : PK X (⟨nm, e, kpos⟩ :: kws) (tCons te t) := by
  intro pos pins s σ H Q I h
  show wpAny _ _ (evalAll ((do let v ← eval e X.env; standAt pos; pure v) :: (backToKw pos (keywordEach kws X.env)).map (·.2))) _ _ s
  refine wpAny_evalAll_cons (wpAny_bind (thn (ha pins s σ H _ I h) fun u s1 ⟨x, H1, I1, r1, q1⟩ => wpAny_bind (wpAny_standAt (wpAny_pure ?_))))
  exact thn (hr pos pins s1 σ H1 _ I1 q1) fun us s2 ⟨xs, H2, I2, r2, q2⟩ => ⟨x :: xs, H2, I2, .cons r1 r2, q2⟩

variable {g : List Value → List Value → List Value} {gV : List V → List V → List V}
end

structure FnScope (N P : List Str) (sc : Scope) : Prop where
  kind : sc.kind = .function
  co : sc.isCoroutine = false
  gen : sc.isGenerator = false
  nd : N.Nodup
  pre : N.take P.length = P
  par : ∀ x ∈ P, sc.names.lookup x = some .local ∨ sc.names.lookup x = some .cell
  nofree : ∀ y ∈ sc.names, y.2 ≠ .free

theorem bindL_out {kindOf : Str → Option NameKind} {x : Str} : ∀ {binds : List (Str × Value)} {m : Str → Option Value}, (∀ v, (x, v) ∉ binds) → bindL kindOf binds m x = m x
  | [], _, _ => rfl
  | (n, v) :: r, m, h => by
    unfold bindL
    rw [bindL_out fun w hw => h w (List.mem_cons_of_mem _ hw)]
    split
    · have : x ≠ n := by rintro rfl; exact h v List.mem_cons_self
      simp [this]
    · rfl
theorem bindC_out {kindOf : Str → Option NameKind} {x : Str} : ∀ {binds : List (Str × Value)} {m : Str → Option Value}, (∀ v, (x, v) ∉ binds) → bindC kindOf binds m x = m x
  | [], _, _ => rfl
  | (n, v) :: r, m, h => by
    unfold bindC
    rw [bindC_out fun w hw => h w (List.mem_cons_of_mem _ hw)]
    split
    · rfl
    · have : x ≠ n := by rintro rfl; exact h v List.mem_cons_self
      simp [this]
theorem bindL_get {kindOf : Str → Option NameKind} {x : Str} {v : Value} : ∀ {P : List Str} {vs : List Value} {i : Nat} {m : Str → Option Value}, P.Nodup → P[i]? = some x → vs[i]? = some v → kindOf x = some .local →
    bindL kindOf (P.zip vs) m x = some v
  | [], _, _, _, _, h, _, _ => by simp at h
  | _ :: _, [], _, _, _, _, h, _ => by simp at h
  | p :: P, w :: vs, 0, m, nd, h1, h2, hk => by
    simp at h1 h2; subst h1; subst h2
    show bindL kindOf ((p, w) :: P.zip vs) m p = _
    unfold bindL
    rw [bindL_out fun v hv => (List.nodup_cons.mp nd).1 (List.of_mem_zip hv).1, if_pos hk]
    simp
  | p :: P, w :: vs, i + 1, m, nd, h1, h2, hk => by
    show bindL kindOf ((p, w) :: P.zip vs) m x = _
    unfold bindL
    exact bindL_get (i := i) (List.nodup_cons.mp nd).2 (by simpa using h1) (by simpa using h2) hk
theorem bindC_get {kindOf : Str → Option NameKind} {x : Str} {v : Value} : ∀ {P : List Str} {vs : List Value} {i : Nat} {m : Str → Option Value}, P.Nodup → P[i]? = some x → vs[i]? = some v → kindOf x ≠ some .local →
    bindC kindOf (P.zip vs) m x = some v
  | [], _, _, _, _, h, _, _ => by simp at h
  | _ :: _, [], _, _, _, _, h, _ => by simp at h
  | p :: P, w :: vs, 0, m, nd, h1, h2, hk => by
    simp at h1 h2; subst h1; subst h2
    show bindC kindOf ((p, w) :: P.zip vs) m p = _
    unfold bindC
    rw [bindC_out fun v hv => (List.nodup_cons.mp nd).1 (List.of_mem_zip hv).1, if_neg hk]
    simp
  | p :: P, w :: vs, i + 1, m, nd, h1, h2, hk => by
    show bindC kindOf ((p, w) :: P.zip vs) m x = _
    unfold bindC
    exact bindC_get (i := i) (List.nodup_cons.mp nd).2 (by simpa using h1) (by simpa using h2) hk

def start (N : List Str) (vs : List V) : St := vs.map some ++ List.replicate (N.length - vs.length) none

def cxOf (CX : CXT) (P : Program) (w : World) (K : PySem.W.Frag) (mg : Str → Option Value) (base : Heap) (N : List Str) (qual : Str) (scope : Scope) (f : Addr) (cd : Value) (A : Around) (outer : List Env) (s : Shared) (H : Hp) (E : XK) : Cx where
  prog := P
  w := w
  K := K
  mg := mg
  base := base
  A := A.deeper (envOfC qual scope s.heap.objs.size f cd)
  N := N
  s_0 := s
  H_0 := H
  env := envOfC qual scope s.heap.objs.size f cd
  outer := outer
  stack := envOfC qual scope s.heap.objs.size f cd :: outer
  ex := []
  calm := true
  fn := fun _ => true
  pn := []
  xe := fun e s' => wpAny (model P w) (A.deeper (envOfC qual scope s.heap.objs.size f cd)) (leaving (envOfC qual scope s.heap.objs.size f cd) e) (fun _ s'' => CX outer H s E e s'') (fun e' s'' => CX outer H s E e' s'') s'

theorem cell_has {sc : Scope} {n : Nat} {x : Str} (h : sc.names.lookup x = some .cell) : ∃ c, (cellsFrom n sc.names []).lookup x = some c := by
  have q := PySem.W.cellsFrom_some sc.names n [] (.inl h)
  exact Option.isSome_iff_exists.mp q

theorem inv_start {CX : CXT} {P : Program} {w : World} {K : PySem.W.Frag} {mg : Str → Option Value} {base : Heap} {N ps : List Str} {qual : Str} {scope : Scope} {f : Addr} {cd : Value} {A : Around} {outer : List Env} {s s1 : Shared} {H : Hp} {E : XK} {us : List Value} {vs : List V}
    (S : FnScope N ps scope) (hd : A.handled = none) (e0 : Env0 P w K mg base A outer s H) (hl : vs.length = ps.length) (r : Vals vs us)
    (x : InCallC s s.heap.objs.size (bindL (envOfC qual scope s.heap.objs.size f cd).kindOf (ps.zip us) fun _ => none) (cellsFrom (s.heap.objs.size + 1) scope.names []) (bindC (envOfC qual scope s.heap.objs.size f cd).kindOf (ps.zip us) fun _ => none) s1) :
    Inv (cxOf CX P w K mg base N qual scope f cd A outer s H E) [] (start N vs) H s1 := by
  have hpl : ps.length ≤ N.length := by have := congrArg List.length S.pre; rw [List.length_take] at this; omega
  obtain ⟨h1, tk, rfl, hk⟩ := x.done
  have noA : ∀ b : Addr, b ∉ (cxOf CX P w K mg base N qual scope f cd A outer s H E).ex := fun b z => absurd (show b ∈ ([] : List Addr) from z) (by simp)
  refine ⟨⟨e0.mod, S.kind, rfl, rfl, Nat.le_refl _, fun y z c h1 h2 => ?_, fun y hy => ?_, fun y c _ h => ?_, fun _ => hd, Around.frames_deeper e0.frames, .inr ⟨rfl, rfl⟩, fun b z => absurd z (noA b), e0.bs, e0.bsz, fun b _ _ => noA b, fun b z => absurd z (noA b), e0.funs, e0.frf⟩,
    rfl, e0.bare, Un.kept hk, ⟨_, x.toInCall.ns, fun i y v h1 h2 h3 => ?_⟩, fun y c h => ⟨_, x.cell y c h⟩, e0.hok.fresh (Nat.le_refl _), fun y c h => ?_, fun p hp => absurd (show p ∈ ([] : List (Addr × Obj)) from hp) (by simp), e0.hok.kept hk, ?_⟩
  · exact name_of_addr x.apart (PySem.mem_of_lookup h1) (PySem.mem_of_lookup h2)
  · have hy : scope.names.lookup y = some .cell ∨ scope.names.lookup y = some .free := hy
    rcases hy with hy | hy
    · exact cell_has hy
    · exact absurd rfl (S.nofree _ (PySem.mem_of_lookup hy))
  · exact Nat.le_of_lt (x.above y c (PySem.mem_of_lookup h))
  · have hi : i < vs.length := by
      unfold start at h2
      by_cases hi : i < vs.length
      · exact hi
      · rw [List.getElem?_append_right (by simpa using hi)] at h2
        rw [List.getElem?_replicate] at h2
        split at h2 <;> cases h2
    have ha : vs[i]? = some v := by
      unfold start at h2
      rw [List.getElem?_append_left (by simpa using hi), List.getElem?_map] at h2
      cases e : vs[i]? with
      | none => rw [e] at h2; cases h2
      | some a => rw [e] at h2; cases h2; rfl
    obtain ⟨u, hu, rv⟩ := r.get ha
    have hp : ps[i]? = some y := by
      rw [← S.pre, List.getElem?_take_of_lt (by omega)]; exact h1
    have ndP : ps.Nodup := by rw [← S.pre]; exact S.nd.sublist (List.take_sublist _ _)
    refine ⟨u, rv, ?_⟩
    rcases S.par y (List.mem_of_getElem? hp) with k | k
    · exact .inl ⟨k, bindL_get ndP hp hu k⟩
    · obtain ⟨c, e⟩ := cell_has (n := s.heap.objs.size + 1) k
      refine .inr ⟨.inl k, c, e, ?_⟩
      have q := x.cell y c e
      rw [bindC_get ndP hp hu (by show scope.names.lookup y ≠ _; rw [k]; decide)] at q
      exact q
  · exact e0.hok.fresh (Nat.le_of_lt (x.above y c (PySem.mem_of_lookup h)))
  · unfold start
    show _ = N.length
    rw [List.length_append, List.length_map, List.length_replicate]
    omega

theorem fn_of {CX : CXT} {P : Program} {w : World} {K : PySem.W.Frag} {mg : Str → Option Value} {base : Heap} {k : Nat} {f : Addr} {name qual : Str} {params : Arguments} {body : List Stmt} {scope : Scope} {dV kV doc pm cdv ct oc : Value} {an od : Option Addr}
    {osl : Array (Option Value)} {N ps : List Str} {sp : Sp} (lk : K.lookup f = some ⟨oc, od, .func (PySem.W.fnOf name qual params body scope dV kV doc pm an cdv ct), osl⟩) (hcd : PySem.W.codeIn K cdv qual = true) (S : FnScope N ps scope)
    (len : ∀ vs H Q E, sp vs H Q E → vs.length = ps.length)
    (hbody : ∀ (A : Around) (outer : List Env) (s : Shared) (H : Hp) (vs : List V) (Q : VK) (E : XK), Room k (A.deeper (envOfC qual scope s.heap.objs.size f cdv)) → sp vs H Q E →
      ∃ t, PSs (cxOf CX P w K mg base N qual scope f cdv A outer s H E) body t ∧ t { nx := fun _ H' => Q .non H', rt := Q } (start N vs) H) :
    FnOk P w K mg base CX (k + 1) f (PySem.W.fnOf name qual params body scope dV kV doc pm an cdv ct) ps sp := by
  refine ⟨len, fun A outer s H args us vs Q E hr e0 hb r hsp => ?_⟩
  have hl := len _ _ _ _ hsp
  have KX : K.In s.heap := e0.mod.kin.keeps fun b o e => (e0.bs b o e).1
  have lim : s.heap.NoLimit := e0.mod.nolimit.keeps fun b o e => (e0.bs b o e).1
  have hkind : ∀ y ∈ ps.zip us, scope.names.lookup y.1 = some .local ∨ (scope.names.lookup y.1 = some .cell ∧ ((cellsFrom (s.heap.objs.size + 1) scope.names []).lookup y.1).isSome = true) := fun ⟨n, v⟩ hy => by
    rcases S.par n (List.of_mem_zip hy).1 with q | q
    · exact .inl q
    · exact .inr ⟨q, PySem.W.cellsFrom_some _ _ _ (.inl q)⟩
  refine codeAny_call_function hr.depth (KX _ _ lk) rfl S.co S.gen rfl (PySem.W.codeRec_of KX hcd) (hb _ _ _ _ ?_)
  refine wpAny_newFunctionEnv_cells S.kind hkind fun env he s1 x => ?_
  subst he
  refine ⟨lim.keeps x.toInCall.keep, codeAny_func ?_⟩
  obtain ⟨t, ht, hq⟩ := hbody A outer s H vs Q E (hr.deeper _) hsp
  have I : Inv (cxOf CX P w K mg base N qual scope f cdv A outer s H E) [] (start N vs) H s1 := inv_start S hr.hd e0 hl r x
  refine wpAny_mono (ht [] s1 (start N vs) H _ I hq) (fun fl s' hs => ?_) fun e s' hs => hs
  have fin : ∀ {σ' : St} {H' : Hp} {v : V} {u : Value}, Inv (cxOf CX P w K mg base N qual scope f cdv A outer s H E) [] σ' H' s' → RelV v u → Q v H' → CE outer P w H s Q u s' :=
    fun {σ' H' v u} J rv q => ⟨v, H', J.os, J.bare, J.base, J.hok, rv, q⟩
  cases fl with
  | ret u =>
    obtain ⟨v, σ', H', J, rv, q⟩ := hs
    exact fin J rv q
  | next =>
    obtain ⟨σ', H', J, q⟩ := hs
    exact fin (v := V.non) (u := Value.none) J rfl q
  | brk =>
    obtain ⟨_, _, _, q⟩ := hs
    exact False.elim q
  | cont =>
    obtain ⟨_, _, _, q⟩ := hs
    exact False.elim q
end L2

namespace L2
open PySem PySem.Spec PyProof.Rows
section
variable {X : Cx} {x : Str} {p pos : Pos} {e : Expr} {es : List Expr} {t : TA} {id T : String} {r : List V → Hp → VK → Prop}

def tCB (r : List V → Hp → VK → Prop) (t : TA) : TE := fun σ H Q => t σ H fun vs H1 => r vs H1 Q
theorem pe_callB (hc : CallR X (.builtin id) r) (hg : Gl X x) (hm : X.mg x = none) (hv : bootBuiltins x = some (.builtin id)) (ha : PA X (e :: es) t) (hn : x ≠ "__name__" := by decide) (hdb : (x == ("__debug__" : Str)) = false := by decide)
    (he : starEach (e :: es) X.env = (false, eval e X.env) :: starEach es X.env := by rfl) (hpl : (backTo pos (starEach es X.env)).any (·.1) = false := by rfl) : PE X (.Call (.Name x p) (e :: es) [] pos) (tCB r t) := by
  intro pins s σ H Q I h
  refine wpAny_Call_Name_kw (ld_blt I hg hm hv ?_ hn hdb)
  exact PyProof.Rows.callWith_builtin1 (thn (ha pos pins s σ H _ I h) fun us s1 ⟨vs, H1, I1, r1, q1⟩ => hc pins s1 σ H1 vs us Q I1 r1 q1) he hpl
theorem pe_callTy (hc : CallR X (.type T) r) (hg : Gl X x) (hm : X.mg x = none) (hv : bootBuiltins x = some (.type T)) (ha : PA X (e :: es) t) (hn : x ≠ "__name__" := by decide) (hdb : (x == ("__debug__" : Str)) = false := by decide)
    (he : starEach (e :: es) X.env = (false, eval e X.env) :: starEach es X.env := by rfl) (hpl : (backTo pos (starEach es X.env)).any (·.1) = false := by rfl) : PE X (.Call (.Name x p) (e :: es) [] pos) (tCB r t) := by
  intro pins s σ H Q I h
  refine wpAny_Call_Name_kw (ld_blt I hg hm hv ?_ hn hdb)
  exact PyProof.Rows.callWith_type1 (thn (ha pos pins s σ H _ I h) fun us s1 ⟨vs, H1, I1, r1, q1⟩ => hc pins s1 σ H1 vs us Q I1 r1 q1) he hpl
end
end L2

namespace HT
open PySem PyProof.Rows

def lexLt : List Int → List Int → Bool
  | [], [] => false
  | [], _ :: _ => true
  | _ :: _, [] => false
  | x :: xs, y :: ys => if x = y then lexLt xs ys else decide (x < y)
theorem lexLt_cons (x y : Int) (xs ys : List Int) : lexLt (x :: xs) (y :: ys) = if x = y then lexLt xs ys else decide (x < y) := rfl
theorem lexLt_nil_nil : lexLt [] [] = false := rfl
section
open PySem.SeqAt
open PySem.AutoSeq1 (wpAny_loadPart')
open PySem.MeetsSeq PySem.MeetsSeq2 PySem.MeetsSeq3

end

section
variable {prog : Program} {w : World} {A : Around} {E : Value → Shared → Prop} {s : Shared}

def sIx (n d : Nat) : Option Int → Nat
  | none => d
  | some v => if v < 0 then (v + (n : Int)).toNat else min v.toNat n
theorem sIx_none (n d : Nat) : sIx n d none = d := rfl
theorem sIx_nat (n d k : Nat) : sIx n d (some (k : Int)) = min k n := by
  show (if (k : Int) < 0 then ((k : Int) + (n : Int)).toNat else min (k : Int).toNat n) = min k n
  rw [if_neg (by omega), Int.toNat_natCast]
end
end HT

namespace L2
open PySem PySem.Spec PyProof.Rows

abbrev TO := St → Hp → (Option Int → Hp → Prop) → Prop
def PO (X : Cx) (e : Option Expr) (t : TO) : Prop :=
  ∀ (pins : List (Addr × Obj)) (s : Shared) (σ : St) (H : Hp) (Q : Option Int → Hp → Prop), Inv X pins σ H s → t σ H Q →
    wpAny (model X.prog X.w) X.A (evalPart e X.env) (fun u s' => ∃ o H', Inv X pins σ H' s' ∧ IsPart u o ∧ Q o H') X.xe s
def tNoPart : TO := fun _ H Q => Q none H
def tPart (t : TE) : TO := fun σ H Q => t σ H fun x H1 => ∃ i, x = .int i ∧ Q (some i) H1

section
variable {X : Cx} {e : Expr} {te : TE} {lo hi : Option Expr} {tl th : TO} {pos p2 : Pos}

theorem po_none : PO X none tNoPart := by
  intro pins s σ H Q I h
  rw [evalPart_none]
  exact wpAny_pure ⟨none, H, I, .none, h⟩
theorem po_some (h : PE X e te) : PO X (some e) (tPart te) := by
  intro pins s σ H Q I hw
  rw [evalPart_some]
  refine thn (h pins s σ H _ I hw) fun u s1 ⟨x, H1, I1, r1, q1⟩ => ?_
  obtain ⟨i, rfl, q⟩ := q1
  obtain ⟨t, rfl⟩ := r1
  exact ⟨some i, H1, I1, .int i t, q⟩

def SlR (X : Cx) (r : V → Option Int → Option Int → Hp → VK → Prop) : Prop :=
  ∀ (pins : List (Addr × Obj)) (s : Shared) (σ : St) (H : Hp) (x : V) (v vl vu : Value) (lo hi : Option Int) (sl : Addr) (Q : VK), Inv X pins σ H s → RelV x v → s.heap.IsSliceOf sl vl vu .none → IsPart vl lo → IsPart vu hi → r x lo hi H Q →
    ∃ T id, typeLookup (.type T) "__getitem__" = pure (some (.builtin id)) ∧ s.TypeIs v T ∧ wpAny (model X.prog X.w) X.A (getItem v (.ref sl)) (EP X pins σ Q) X.xe s
theorem SlR.or {r r' : V → Option Int → Option Int → Hp → VK → Prop} (h : SlR X r) (h' : SlR X r') : SlR X (fun x lo hi H Q => r x lo hi H Q ∨ r' x lo hi H Q) := by
  intro pins s σ H x v vl vu lo hi sl Q I rx hs pl pu q
  rcases q with q | q
  · exact h pins s σ H x v vl vu lo hi sl Q I rx hs pl pu q
  · exact h' pins s σ H x v vl vu lo hi sl Q I rx hs pl pu q
def tSl (r : V → Option Int → Option Int → Hp → VK → Prop) (te : TE) (tl th : TO) : TE := fun σ H Q => te σ H fun x H1 => tl σ H1 fun l H2 => th σ H2 fun u H3 => r x l u H3 Q
theorem pe_slice {r : V → Option Int → Option Int → Hp → VK → Prop} (hr : SlR X r) (he : PE X e te) (hl : PO X lo tl) (hu : PO X hi th) : PE X (.Subscript e (.Slice lo hi none p2) pos) (tSl r te tl th) := by
  intro pins s σ H Q I h
  refine Subscript_ (thn (he pins s σ H _ I h) fun v s1 ⟨x, H1, I1, r1, q1⟩ => ?_)
  refine wpAny_Slice (thn (hl pins s1 σ H1 _ I1 q1) fun vl s2 ⟨l, H2, I2, pl, q2⟩ => thn (hu pins s2 σ H2 _ I2 q2) fun vu s3 ⟨u, H3, I3, pu, q3⟩ => ?_)
  rw [evalPart_none]
  refine wpAny_pure ?_
  have I4 : Inv X pins σ H3 { s3 with heap := s3.heap.push { cls := .type "slice", data := .fields #[vl, vu, .none] } } := I3.kept (t' := s3.toks) fun b ob q => Heap.get?_push_of_some _ q
  obtain ⟨T, id, hT, ht, hg⟩ := hr pins { s3 with heap := s3.heap.push { cls := .type "slice", data := .fields #[vl, vu, .none] } } σ H3 x v vl vu l u s3.heap.objs.size Q I4 r1 (Heap.IsSliceOf.new ..) pl pu q3
  show wpAny (model X.prog X.w) X.A (subscriptTail e (.Slice lo hi none p2) v (.ref s3.heap.objs.size)) (EP X pins σ Q) X.xe { s3 with heap := s3.heap.push { cls := .type "slice", data := .fields #[vl, vu, .none] } }
  exact tail_any (ops := [.ref s3.heap.objs.size, v]) ht hT hg (by with_unfolding_all rfl)

def cutV (xs : List V) (lo hi : Option Int) : List V := (xs.drop (HT.sIx xs.length 0 lo)).take (HT.sIx xs.length xs.length hi - HT.sIx xs.length 0 lo)
theorem cutV_length (xs : List V) (lo hi : Option Int) : (cutV xs lo hi).length ≤ xs.length := by
  unfold cutV
  rw [List.length_take, List.length_drop]
  omega
end
end L2

namespace L2
open PySem PySem.Spec PyProof.Rows

def ixN (n : Nat) (i : Int) : Option Nat := if 0 ≤ i then (if i < n then some i.toNat else none) else if -(n : Int) ≤ i then some (i + n).toNat else none
def atI {α : Type} (xs : List α) (i : Int) : Option α := (ixN xs.length i).bind fun j => xs[j]?
theorem ixN_seq {n : Nat} {i : Int} {j : Nat} (h : ixN n i = some j) : seqIndex? i n = some j ∧ j < n ∧ -(n : Int) ≤ i ∧ i < n := by
  unfold ixN at h
  by_cases h0 : 0 ≤ i
  · rw [if_pos h0] at h
    by_cases h1 : i < n
    · rw [if_pos h1] at h
      have e : i.toNat = j := Option.some.inj h
      exact ⟨by rw [seqIndex_of h0 h1, e], by omega, by omega, h1⟩
    · rw [if_neg h1] at h; cases h
  · rw [if_neg h0] at h
    by_cases h1 : -(n : Int) ≤ i
    · rw [if_pos h1] at h
      have e : (i + n).toNat = j := Option.some.inj h
      exact ⟨by rw [seqIndex_neg (by omega) h1, e], by omega, h1, by omega⟩
    · rw [if_neg h1] at h; cases h
theorem atI_get {α : Type} {xs : List α} {i : Int} {v : α} (h : atI xs i = some v) : ∃ j, seqIndex? i xs.length = some j ∧ xs[j]? = some v ∧ j < xs.length ∧ -(xs.length : Int) ≤ i ∧ i < xs.length := by
  unfold atI at h
  cases e : ixN xs.length i with
  | none => rw [e] at h; cases h
  | some j =>
    rw [e] at h
    obtain ⟨h1, h2, h3, h4⟩ := ixN_seq e
    exact ⟨j, h1, h, h2, h3, h4⟩
theorem atI_nat {α : Type} {xs : List α} {j : Nat} {v : α} (h : xs[j]? = some v) : atI xs (j : Int) = some v := by
  have hj : j < xs.length := (List.getElem?_eq_some_iff.mp h).1
  have e : ixN xs.length (j : Int) = some j := by
    unfold ixN
    rw [if_pos (by omega), if_pos (by omega)]; simp
  unfold atI; rw [e]; exact h
def PlainIx (b : Expr) : Prop := ∀ o i, subscripted b false o i = operate [o, i] (getItem o i)
def IxR (X : Cx) (r : R2) : Prop :=
  ∀ (value slice : Expr) (pins : List (Addr × Obj)) (s : Shared) (σ : St) (H : Hp) (x y : V) (v u : Value) (Q : VK), Inv X pins σ H s → RelV x v → RelV y u → r x y H Q →
    subscripted slice false v u = operate [v, u] (getItem v u) → wpAny (model X.prog X.w) X.A (subscriptTail value slice v u) (EP X pins σ Q) X.xe s
def MtR (X : Cx) (id : String) (r : V → List V → Hp → VK → Prop) : Prop :=
  ∀ (pins : List (Addr × Obj)) (s : Shared) (σ : St) (H : Hp) (x : V) (xs : List V) (v : Value) (us : List Value) (Q : VK), Inv X pins σ H s → RelV x v → Vals xs us → r x xs H Q →
    wpAny (model X.prog X.w) X.A (call (.builtin id) (v :: us)) (EP X pins σ Q) X.xe s
section
variable {X : Cx} {a b : Expr} {ta tb : TE} {pos : Pos}
theorem IxR.or {r r' : R2} (h : IxR X r) (h' : IxR X r') : IxR X (fun x y H Q => r x y H Q ∨ r' x y H Q) := by
  intro value slice pins s σ H x y v u Q I rx ry q hs
  rcases q with q | q
  · exact h value slice pins s σ H x y v u Q I rx ry q hs
  · exact h' value slice pins s σ H x y v u Q I rx ry q hs
theorem MtR.or {id : String} {r r' : V → List V → Hp → VK → Prop} (h : MtR X id r) (h' : MtR X id r') : MtR X id (fun x xs H Q => r x xs H Q ∨ r' x xs H Q) := by
  intro pins s σ H x xs v us Q I rx rs q
  rcases q with q | q
  · exact h pins s σ H x xs v us Q I rx rs q
  · exact h' pins s σ H x xs v us Q I rx rs q
theorem pe_ix {r : R2} (hr : IxR X r) (ha : PE X a ta) (hb : PE X b tb) (hs : PlainIx b) : PE X (.Subscript a b pos) (tOp r ta tb) := by
  intro pins s σ H Q I h
  exact Subscript_ (binT ha hb I h fun v u s2 x y H2 I2 rx ry q => hr a b pins s2 σ H2 x y v u Q I2 rx ry q (hs _ _))

def rIxL (K : PySem.W.Frag) : R2 := fun x y H Q => ∃ p xs i v, x = .ref p ∧ y = .int i ∧ SqL K H p xs ∧ atI xs i = some v ∧ Q v H
def rIxT (K : PySem.W.Frag) : R2 := fun x y H Q => ∃ p xs i v, x = .ref p ∧ y = .int i ∧ SqT K H p xs ∧ atI xs i = some v ∧ Q v H
theorem ix_list : IxR X (rIxL X.K) := by
  intro value slice pins s σ H x y v u Q I rx ry h hs
  obtain ⟨p, xs, i, z, rfl, rfl, hq, he, q⟩ := h
  cases rx
  obtain ⟨t, rfl⟩ := ry
  obtain ⟨its, r, pl, hz⟩ := I.list hq
  obtain ⟨j, h1, h2, h3, h4, h5⟩ := atI_get he
  obtain ⟨w, ew, rw'⟩ := r.get h2
  have hl := r.length
  have hn := line63
  have fin : EP X pins σ Q w s := ⟨z, H, I, rw', q⟩
  by_cases h0 : 0 ≤ i
  · have hj : i.toNat = j := by
      rw [seqIndex_of h0 h5] at h1
      exact Option.some.inj h1
    exact item_listR pl.isList h0 (by omega) (by rw [hj]; simpa using ew) fin hs
  · have hj : (i + (its.toArray.size : Int)).toNat = j := by
      rw [seqIndex_neg (by omega) h4] at h1
      rw [List.size_toArray, ← hl]
      exact Option.some.inj h1
    exact subscriptTail_builtinR (x := w) pl.isList.typeIs slot_list_getitem.lookup
      (wpAny_getItem_list_neg (Q := fun r s' => r = w ∧ EP X pins σ Q r s') pl.isList (by omega) (by rw [List.size_toArray] <;> omega) (by omega) (by rw [hj]; simpa using ew) ⟨rfl, fin⟩) hs
theorem ix_tup : IxR X (rIxT X.K) := by
  intro value slice pins s σ H x y v u Q I rx ry h hs
  obtain ⟨p, xs, i, z, rfl, rfl, hq, he, q⟩ := h
  cases rx
  obtain ⟨t, rfl⟩ := ry
  obtain ⟨its, r, pl, hz⟩ := I.tuple hq
  obtain ⟨j, h1, h2, h3, h4, h5⟩ := atI_get he
  obtain ⟨w, ew, rw'⟩ := r.get h2
  have hl := r.length
  have hn := line63
  have fin : EP X pins σ Q w s := ⟨z, H, I, rw', q⟩
  exact subscriptTail_builtinR (x := w) pl.typeIs slot_tuple_getitem.lookup
    (getItem_tuple (j := j) (Q := fun r s' => r = w ∧ EP X pins σ Q r s') pl (by omega) (by omega) (by rw [List.size_toArray, ← hl]; exact h1) (by simpa using ew) ⟨rfl, fin⟩) hs
theorem Inv.lst {pins : List (Addr × Obj)} {σ : St} {H : Hp} {s : Shared} {p : Addr} {xs : List V} (I : Inv X pins σ H s) (h : H p = some (.lst xs)) :
    ∃ (its : List Value) (n : Nat), Vals xs its ∧ s.heap.get? p = some { cls := .type "list", data := .seq its.toArray n } ∧ xs.length ≤ sizeLine := by
  obtain ⟨z, its, n, r, e⟩ := I.hok p _ h
  exact ⟨its, n, r, e, z⟩
theorem slice_bounds (lo hi : Option Int) (n : Nat) : (sliceBounds lo hi none n).1 = ((HT.sIx n 0 lo : Nat) : Int) ∧ (sliceBounds lo hi none n).2.1 = ((HT.sIx n n hi : Nat) : Int) ∧ (sliceBounds lo hi none n).2.2 = 1 := by
  refine ⟨?_, ?_, rfl⟩
  · cases lo with
    | none => simp [sliceBounds, HT.sIx]
    | some i =>
      simp only [sliceBounds, HT.sIx, Option.getD_none, show (1 : Int) > 0 by decide, if_true]
      by_cases h : i < 0
      · simp only [h, if_true] <;> omega
      · simp only [h, if_false] <;> omega
  · cases hi with
    | none => simp [sliceBounds, HT.sIx]
    | some i =>
      simp only [sliceBounds, HT.sIx, Option.getD_none, show (1 : Int) > 0 by decide, if_true]
      by_cases h : i < 0
      · simp only [h, if_true] <;> omega
      · simp only [h, if_false] <;> omega
theorem slicePick_cut (its : List Value) (lo hi : Option Int) : slicePick its.toArray lo hi none = ((its.drop (HT.sIx its.length 0 lo)).take (HT.sIx its.length its.length hi - HT.sIx its.length 0 lo)).toArray := by
  obtain ⟨h1, h2, h3⟩ := slice_bounds lo hi its.toArray.size
  unfold slicePick
  rw [h1, h2, h3]
  simp only [sliceRange_one, pick_run, List.size_toArray] <;> rfl
def rSlL (K : PySem.W.Frag) : V → Option Int → Option Int → Hp → VK → Prop := fun x lo hi H Q => ∃ a xs, x = .ref a ∧ SqL K H a xs ∧ ∀ p, H p = none → Q (.ref p) (upd H p (.lst (cutV xs lo hi)))
theorem sl_list : SlR X (rSlL X.K) := by
  intro pins s σ H x v vl vu lo hi sl Q I rx hs pl pu h
  obtain ⟨a, xs, rfl, hx, q⟩ := h
  cases rx
  obtain ⟨its, r, ht, hz⟩ := I.list hx
  have hlen := r.length
  refine ⟨"list", _, slot_list_getitem.lookup, ht.isList.typeIs, ?_⟩
  refine wpAny_getItem_list_slice ht.isList hs pl pu .none (by simp) ?_ (by rw [List.size_toArray] <;> omega)
  rw [slicePick_cut, ← hlen]
  refine ⟨.ref s.heap.objs.size, _, I.laid (t' := s.toks) (o := .lst (cutV xs lo hi)) (fun b ob q => Heap.get?_push_of_some _ q) (Nat.le_refl _) ?_, rfl, q _ (I.hok.fresh (Nat.le_refl _))⟩
  exact ⟨Nat.le_trans (cutV_length xs lo hi) hz, _, 0, (r.drop (HT.sIx xs.length 0 lo)).take (HT.sIx xs.length xs.length hi - HT.sIx xs.length 0 lo), Heap.get?_push_size _ rfl⟩

theorem call_len_seq : CallR X (.builtin "len") (fun xs H Q => ∃ p ys, xs = [.ref p] ∧ (SqL X.K H p ys ∨ SqT X.K H p ys) ∧ Q (.int ys.length) H) := by
  intro pins s σ H xs us Q I r h
  obtain ⟨p, ys, rfl, hq, q⟩ := h
  obtain ⟨u, rfl, rx⟩ := vals1 r
  cases rx
  have hn := line63
  rcases hq with hq | hq
  · obtain ⟨its, r', pl, hz⟩ := I.list hq
    have hlen := r'.length
    exact Calls.call_len_list pl.isList (by simp only [List.size_toArray] <;> omega) ⟨.int ys.length, H, I.tok _, ⟨s.toks + 1, by rw [List.size_toArray, hlen]⟩, q⟩
  · obtain ⟨its, r', pl, hz⟩ := I.tuple hq
    have hlen := r'.length
    exact len_tuple pl (by simp only [List.size_toArray] <;> omega) ⟨.int ys.length, H, I.tok _, ⟨s.toks + 1, by rw [List.size_toArray, hlen]⟩, q⟩
theorem CallR.or {f : Value} {r r' : List V → Hp → VK → Prop} (h : CallR X f r) (h' : CallR X f r') : CallR X f (fun xs H Q => r xs H Q ∨ r' xs H Q) := by
  intro pins s σ H xs us Q I rs q
  rcases q with q | q
  · exact h pins s σ H xs us Q I rs q
  · exact h' pins s σ H xs us Q I rs q
def tyV (K : PySem.W.Frag) (T : String) (x : V) (H : Hp) : Prop := match x with
  | .str _ => T = "str"
  | .int _ => T = "int"
  | .ref p => (T = "list" ∧ ∃ xs, SqL K H p xs) ∨ (T = "tuple" ∧ ∃ o, K.lookup p = some o ∧ o.cls = .type "tuple" ∧ o.dict = none) ∨
      (T = "dict" ∧ ((∃ kvs, H p = some (.dK kvs)) ∨ ∃ kvs, H p = some (.dT kvs))) ∨ (T = "set" ∧ ∃ S n, H p = some (.set S n))
  | _ => False
theorem tyV_is {pins : List (Addr × Obj)} {σ : St} {H : Hp} {s : Shared} {T : String} {x : V} {v : Value} (I : Inv X pins σ H s) (r : RelV x v) (ty : tyV X.K T x H) :
    s.TypeIs v T ∧ ∀ a, v = .ref a → ∃ ob, s.heap.get? a = some ob ∧ ob.dict = none := by
  cases x with
  | str z =>
    obtain ⟨t, rfl⟩ := r
    cases (show T = "str" from ty)
    exact ⟨typeIs_str s z t, fun _ e => nomatch e⟩
  | int i =>
    obtain ⟨t, rfl⟩ := r
    cases (show T = "int" from ty)
    exact ⟨typeIs_int s i t, fun _ e => nomatch e⟩
  | ref p =>
    cases r
    rcases ty with ⟨rfl, xs, hq⟩ | ⟨rfl, o, hk, hc, hd⟩ | ⟨rfl, hk⟩ | ⟨rfl, S, n, hk⟩
    · obtain ⟨its, _, pl, _⟩ := I.list hq
      refine ⟨pl.isList.typeIs, fun a e => ?_⟩
      cases e
      obtain ⟨o, n, e, c, hd, _⟩ := pl
      exact ⟨o, e, hd⟩
    · refine ⟨⟨o, I.kIn p o hk, hc⟩, fun a e => ?_⟩
      cases e
      exact ⟨o, I.kIn _ o hk, hd⟩
    · have z : ∃ o, s.heap.get? p = some o ∧ o.ExactDict := by
        rcases hk with ⟨kvs, hk⟩ | ⟨kvs, hk⟩
        · obtain ⟨_, _, _, _, o, _, _, e, ex, _⟩ := I.hok p _ hk
          exact ⟨o, e, ex⟩
        · obtain ⟨_, _, _, _, o, _, _, e, ex, _⟩ := I.hok p _ hk
          exact ⟨o, e, ex⟩
      obtain ⟨o, e, ex⟩ := z
      refine ⟨⟨o, e, ex.1⟩, fun a e2 => ?_⟩
      cases e2
      exact ⟨o, e, ex.2.1⟩
    · obtain ⟨o, _, _, _, e, ex, _⟩ := I.hok p _ hk
      refine ⟨⟨o, e, ex.1⟩, fun a e2 => ?_⟩
      cases e2
      exact ⟨o, e, ex.2.1⟩
  | _ => exact False.elim ty
def tBM (K : PySem.W.Frag) (T : String) (r : V → List V → Hp → VK → Prop) (to : TE) (t : TA) : TE := fun σ H Q => to σ H fun x H1 => tyV K T x H1 ∧ t σ H1 fun xs H2 => r x xs H2 Q
variable {o e : Expr} {es : List Expr} {to : TE} {t : TA} {name : Str} {apos cpos : Pos} {T id : String} {r : V → List V → Hp → VK → Prop}
theorem pe_bm (pa : PlainAttrs T) (slot : Slot T name id) (hty : typeOf (.builtin id) = pure (.type "method_descriptor")) (hm : MtR X id r) (ho : PE X o to) (ha : PA X (e :: es) t)
    (hbase : attributeBase o name X.env (eval o X.env) = eval o X.env := by rfl)
    (hfew : ((backTo cpos (starEach (e :: es) X.env)).all (fun x => !x.1) && (backToKw cpos (keywordEach [] X.env)).all (fun x => x.1.isSome)
      && decide ((e :: es).length + ([] : List Keyword).length + (if ([] : List Keyword).isEmpty then 0 else 1) < 30)) = true := by rfl)
    (hline : (apos.endLine == cpos.line) = true := by rfl) (hs : starEach (e :: es) X.env = (false, eval e X.env) :: starEach es X.env := by rfl) (hplain : (backTo cpos (starEach es X.env)).any (·.1) = false := by rfl) :
    PE X (.Call (.Attribute o name apos) (e :: es) [] cpos) (tBM X.K T r to t) := by
  intro pins s σ H Q I h
  refine wpAny_Call_method_late hbase hfew hline rfl (thn (ho pins s σ H _ I h) fun v s1 ⟨x, H1, I1, r1, ty, q1⟩ => ?_)
  obtain ⟨h1, h2⟩ := tyV_is I1 r1 ty
  refine ⟨T, id, pa, slot, hty, h1, h2, ?_⟩
  have hA := ha cpos pins s1 σ H1 _ I1 q1
  rw [hs] at hA ⊢
  refine Calls.callWith_builtin (by show (false || (backTo cpos (starEach es X.env)).any (·.1)) = false; rw [hplain] <;> rfl) (Calls.evalArgs_plain ?_)
  exact thn hA fun us s2 ⟨vs, H2, I2, r2, q2⟩ => hm pins s2 σ H2 x vs v us Q I2 r1 r2 q2
end
end L2

namespace L2
open PySem PySem.Spec PyProof.Rows

def MtM (X : Cx) (id : String) (r : V → List V → Hp → VK → Prop) : Prop :=
  ∀ (pins : List (Addr × Obj)) (s : Shared) (σ : St) (H : Hp) (x : V) (xs : List V) (v : Value) (us : List Value) (Q : VK), Inv X pins σ H s → RelV x v → Vals xs us → r x xs H Q →
    wpAny (model X.prog X.w) X.A (call (.builtin id) (v :: us)) (EP X pins σ Q) X.xe s

theorem Vals.one : ∀ {x : V} {us : List Value}, Vals [x] us → ∃ u, us = [u] ∧ RelV x u
  | _, _, .cons r .nil => ⟨_, rfl, r⟩
theorem Vals.two : ∀ {x y : V} {us : List Value}, Vals [x, y] us → ∃ u v, us = [u, v] ∧ RelV x u ∧ RelV y v
  | _, _, _, .cons r (.cons q .nil) => ⟨_, _, rfl, r, q⟩
theorem Vals.zero : ∀ {us : List Value}, Vals [] us → us = []
  | _, .nil => rfl
theorem Vals.reverse {xs : List V} {us : List Value} (h : Vals xs us) : Vals xs.reverse us.reverse := by
  induction h with
  | nil => exact .nil
  | cons r t ih => rw [List.reverse_cons, List.reverse_cons]; exact Vals.append ih (.cons r .nil)
section
variable {X : Cx} {pins : List (Addr × Obj)} {σ : St} {H : Hp} {s : Shared} {l b : Addr} {xs ys zs : List V}

theorem Inv.lset {its its' : List Value} {n : Nat} {f : Array Value → Array Value} {t' : Nat} (I : Inv X pins σ H s) (hH : H l = some (.lst xs))
    (e : s.heap.get? l = some { cls := .type "list", data := .seq its.toArray n }) (hf : f its.toArray = its'.toArray) (hv : Vals ys its') (hz : ys.length ≤ sizeLine) :
    Inv X pins σ (upd H l (.lst ys)) { s with heap := s.heap.update l (Obj.mapSeq f), toks := t' } := by
  have q := PySem.IsL.update e f
  rw [hf] at q
  refine I.write (x := l) (e := l) (by rw [hH]; exact trivial) (.inl rfl) (fun b' u hb hu => (Heap.get?_update_other s.heap (Obj.mapSeq f) (Ne.symm hb)).trans hu) ⟨_, q⟩ ?_
  exact ⟨hz, its', _, hv, q⟩
theorem Inv.lnew {its : List Value} {t' : Nat} (I : Inv X pins σ H s) (hv : Vals ys its) (hz : ys.length ≤ sizeLine) :
    Inv X pins σ (upd H s.heap.objs.size (.lst ys)) { s with heap := s.heap.push { cls := .type "list", data := .seq its.toArray }, toks := t' } :=
  I.laid (fun _ _ q => Heap.get?_push_of_some _ q) (Nat.le_refl _) ⟨hz, its, 0, hv, Heap.get?_push_size _ rfl⟩
theorem Inv.fresh (I : Inv X pins σ H s) : H s.heap.objs.size = none := I.hok.fresh (Nat.le_refl _)
theorem Inv.lstM (I : Inv X pins σ H s) (hH : H l = some (.lst xs)) : xs.length ≤ sizeLine ∧ ∃ (its : List Value) (n : Nat), Vals xs its ∧ xs.length = its.length ∧ s.heap.get? l = some { cls := .type "list", data := .seq its.toArray n } := by
  obtain ⟨z, its, n, r, e⟩ := I.hok l _ hH
  exact ⟨z, its, n, r, r.length, e⟩

theorem notLongL {n : Nat} (h : n ≤ sizeLine) : Builtin.List.listTooLong n = false := by
  unfold Builtin.List.listTooLong
  exact decide_eq_false (by omega)
end

section
variable {X : Cx}

def rAppend : V → List V → Hp → VK → Prop := fun x vs H Q => ∃ l xs y, x = .ref l ∧ vs = [y] ∧ H l = some (.lst xs) ∧ xs.length < sizeLine ∧ Q .non (upd H l (.lst (xs ++ [y])))
theorem mt_append : MtM X "list.append" rAppend := by
  intro pins s σ H x vs v us Q I rx rv h
  obtain ⟨l, xs, y, rfl, rfl, hH, hz, q⟩ := h
  cases rx
  obtain ⟨u, rfl, ru⟩ := rv.one
  obtain ⟨z, its, n, r, hl, e⟩ := I.lstM hH
  refine call_meets F.slot_list_append ⟨_, e, rfl⟩ F.entry_list_append (F.args_list_append_2 _ _) (PySem.list_append l its.toArray n u (by rw [List.size_toArray]; omega)) ⟨e, ?_⟩
  refine ⟨.non, _, I.lset (its' := its ++ [u]) hH e (by simp) (r.append (.cons ru .nil)) ?_, rfl, q⟩
  rw [List.length_append, List.length_singleton]
  omega

def rExtend : V → List V → Hp → VK → Prop := fun x vs H Q => ∃ l b xs zs, x = .ref l ∧ vs = [.ref b] ∧ H l = some (.lst xs) ∧ H b = some (.lst zs) ∧ xs.length + zs.length ≤ sizeLine ∧ Q .non (upd H l (.lst (xs ++ zs)))
theorem mt_extend : MtM X "list.extend" rExtend := by
  intro pins s σ H x vs v us Q I rx rv h
  obtain ⟨l, b, xs, zs, rfl, rfl, hH, hB, hz, q⟩ := h
  cases rx
  obtain ⟨u, rfl, ru⟩ := rv.one
  cases ru
  obtain ⟨z, its, n, r, hl, e⟩ := I.lstM hH
  obtain ⟨z2, its2, n2, r2, hl2, e2⟩ := I.lstM hB
  have hsz : its.toArray.size + its2.toArray.size ≤ sizeLine := by rw [List.size_toArray, List.size_toArray]; omega
  have hlong : ¬ (!its.toArray.isEmpty && Builtin.List.listTooLong (its.toArray.size + its2.toArray.size)) = true := by
    rw [notLongL hsz, Bool.and_false]
    exact Bool.false_ne_true
  refine call_meets F.slot_list_extend ⟨_, e, rfl⟩ F.entry_list_extend (F.args_list_extend_2 _ _)
    (AutoSeq1.list_extend_list_list_0 l its.toArray n b its2.toArray n2 hlong (by rw [List.size_toArray]; omega) (by omega)) ⟨e, e2, ?_⟩
  refine ⟨.non, _, I.lset (its' := its ++ its2) hH e (by simp) (r.append r2) ?_, rfl, q⟩
  rw [List.length_append]
  omega

def rCat : R2 := fun x y H Q => ∃ l b xs zs, x = .ref l ∧ y = .ref b ∧ H l = some (.lst xs) ∧ H b = some (.lst zs) ∧ xs.length + zs.length ≤ sizeLine ∧ ∀ p, H p = none → Q (.ref p) (upd H p (.lst (xs ++ zs)))
theorem op_cat : OpR X (binaryOp .Add) rCat := by
  intro pins s σ H x y v u Q I rx ry h
  obtain ⟨l, b, xs, zs, rfl, rfl, hH, hB, hz, q⟩ := h
  cases rx
  cases ry
  obtain ⟨z, its, n, r, hl, e⟩ := I.lstM hH
  obtain ⟨z2, its2, n2, r2, hl2, e2⟩ := I.lstM hB
  refine PySem.P.add_list e e2 ?_ (by rw [List.size_toArray, List.size_toArray]; omega)
  have ea : its.toArray ++ its2.toArray = (its ++ its2).toArray := by simp
  rw [ea]
  exact ⟨.ref _, _, I.lnew (t' := s.toks) (r.append r2) (by rw [List.length_append]; omega), rfl, q _ I.fresh⟩
end

section
variable {prog : Program} {w : World} {A : Around} {E : Value → Shared → Prop} {s : Shared}
set_option maxRecDepth 100000 in
end

section
variable {X : Cx}
end
end L2

namespace L2
open PySem PySem.Spec PyProof.Rows

theorem Vals.ints : ∀ {ns : List Int} {us : List Value}, Vals (ns.map V.int) us → IntsAre us ns
  | [], us, h => by
    rw [List.map_nil] at h
    cases h
    exact IntsAre.nil
  | n :: ns, us, h => by
    rw [List.map_cons] at h
    cases h with
    | cons r t =>
      obtain ⟨k, rfl⟩ := r
      exact IntsAre.cons n k (Vals.ints t)
theorem vals_of_ints : ∀ {us : List Value} {ns : List Int}, IntsAre us ns → Vals (ns.map V.int) us
  | _, _, .nil => by rw [List.map_nil]; exact Paired.nil
  | _, _, .cons n t h => by rw [List.map_cons]; exact Paired.cons (show RelV (V.int n) (Value.int n t) from ⟨t, rfl⟩) (vals_of_ints h)
theorem Vals.ref1 {a : Addr} {us : List Value} (r : Vals [V.ref a] us) : us = [Value.ref a] := by
  cases r with
  | cons r t =>
    cases t
    cases r
    rfl
section
variable {prog : Program} {w : World} {A : Around} {E : Value → Shared → Prop} {s : Shared} {l : Addr} {its : List Value} {ns : List Int} {Q : Value → Shared → Prop}
theorem sum_raw (hh : A.handled = none) (hl : s.heap.IsList l its.toArray) (hi : IntsAre its ns)
    (h : ∀ h' tk t', (∀ b o, s.heap.get? b = some o → h'.get? b = some o) → Q (.int ns.sum t') { s with heap := h', toks := tk }) : wpAny (model prog w) A (call (.builtin "sum") [.ref l]) Q E s := by
  obtain ⟨xs, e⟩ := hi.allInts.items
  have hn : numsOf (intItems xs).toList = ns := by rw [← e]; exact hi.numsOf
  rw [nums_intItems] at hn
  rw [e] at hl
  refine PySem.sum_intListG hh hl fun h' tk t' hk => ?_
  have := h h' tk t' hk
  rw [preSum_eq, List.take_of_length_le (by simp), hn]; exact this
end

section
variable {X : Cx}
def rSum (K : PySem.W.Frag) : List V → Hp → VK → Prop := fun vs H Q => ∃ (a : Addr) (ns : List Int), vs = [V.ref a] ∧ SqL K H a (ns.map V.int) ∧ Q (.int ns.sum) H
theorem cr_sum (hc : X.calm = true) : CallR X (.builtin "sum") (rSum X.K) := by
  intro pins s σ H vs us Q I r h
  obtain ⟨a, ns, rfl, hs, q⟩ := h
  obtain ⟨its, rv, hl, _⟩ := I.list hs
  rw [Vals.ref1 r]
  exact sum_raw (I.ok.hd hc) hl.isList rv.ints fun h' tk t' hk => ⟨.int _, H, I.kept hk, ⟨_, rfl⟩, q⟩
theorem small64 {n : Nat} (h : n < 64) : n ≤ sizeLine := by rw [sizeLine_eq]; omega
end

section
variable {X : Cx}
end

section
variable {X : Cx}
end

section
variable {X : Cx}
end

mutual
inductive Dp (K : PySem.W.Frag) (H : Hp) : V → PyData → Prop
  | non : Dp K H .non .none
  | bl (b : Bool) : Dp K H (.bl b) (.bool b)
  | int (i : Int) : Dp K H (.int i) (.int i)
  | str (x : Str) : Dp K H (.str x) (.str x)
  | lst {a : Addr} {xs : List V} {ds : List PyData} : SqL K H a xs → DpAll K H xs ds → Dp K H (.ref a) (.list ds)
  | tup {a : Addr} {xs : List V} {ds : List PyData} : SqT K H a xs → DpAll K H xs ds → Dp K H (.ref a) (.tuple ds)
inductive DpAll (K : PySem.W.Frag) (H : Hp) : List V → List PyData → Prop
  | nil : DpAll K H [] []
  | cons {v : V} {vs : List V} {d : PyData} {ds : List PyData} : Dp K H v d → DpAll K H vs ds → DpAll K H (v :: vs) (d :: ds)
end
section
variable {X : Cx} {pins : List (Addr × Obj)} {σ : St} {H : Hp} {s : Shared}
mutual
theorem Dp.reads (I : Inv X pins σ H s) : ∀ (d : PyData) (v : V) (u : Value), Dp X.K H v d → RelV v u → ∃ as, Reads s.heap u d as
  | .none, _, _, h, r => by
    cases h
    cases r
    exact ⟨_, Reads.none⟩
  | .bool b, _, _, h, r => by
    cases h
    cases r
    exact ⟨_, Reads.bool b⟩
  | .int i, _, _, h, r => by
    cases h
    obtain ⟨t, rfl⟩ := r
    exact ⟨_, Reads.int i t⟩
  | .str x, _, _, h, r => by
    cases h
    obtain ⟨t, rfl⟩ := r
    exact ⟨_, Reads.str x t⟩
  | .list ds, _, _, h, r => by
    cases h with
    | lst hs ha =>
      cases r
      obtain ⟨its, rv, ⟨o, n, ho, hc, _, hd⟩, _⟩ := I.list hs
      obtain ⟨as, hr⟩ := Dp.readsAll I ds _ its ha rv
      exact ⟨_, Reads.list ho hc hd hr⟩
  | .tuple ds, _, _, h, r => by
    cases h with
    | tup hs ha =>
      cases r
      obtain ⟨its, rv, ⟨o, ho, hc, n, hd⟩, _⟩ := I.tuple hs
      obtain ⟨as, hr⟩ := Dp.readsAll I ds _ its ha rv
      exact ⟨_, Reads.tuple ho hc hd hr⟩
  | .dict _, _, _, h, _ => by cases h
theorem Dp.readsAll (I : Inv X pins σ H s) : ∀ (ds : List PyData) (vs : List V) (us : List Value), DpAll X.K H vs ds → Vals vs us → ∃ as, ReadsAll s.heap us ds as
  | [], _, _, h, r => by
    cases h
    cases r
    exact ⟨_, ReadsAll.nil⟩
  | d :: ds, _, _, h, r => by
    cases h with
    | cons h1 h2 =>
      cases r with
      | cons r1 r2 =>
        obtain ⟨as, q1⟩ := Dp.reads I d _ _ h1 r1
        obtain ⟨bs, q2⟩ := Dp.readsAll I ds _ _ h2 r2
        exact ⟨_, ReadsAll.cons q1 q2⟩
end
end
section
variable {X : Cx}
end
end L2

namespace L2
open PySem PySem.Spec PyProof.Rows
abbrev CellAt (h : Heap) (c : Addr) (v : Option Value) : Prop := h.IsCell c v
def relS (scope sc : Scope) : Scope :=
  { scope with names := scope.names.map fun (n, k) => if (k == .free && sc.kind == .function && sc.names.lookup n == some .cell) then (n, .cell) else (n, k) }

def cloFrom (cells : List (Str × Addr)) : List (Str × NameKind) → List (Str × Addr) → List (Str × Addr)
  | [], acc => acc
  | (n, k) :: r, acc => if k == .free then cloFrom cells r ((n, (cells.lookup n).getD 0) :: acc) else cloFrom cells r acc

theorem closure_loop (env : Env) (f : Str × NameKind → List (Str × Addr) → Sem (ForInStep (List (Str × Addr))))
    (hf : ∀ n k c, f (n, k) c = if k == .free then (do let a ← cellOf env n; pure (.yield ((n, a) :: c))) else pure (.yield c)) :
    ∀ (names : List (Str × NameKind)) (acc : List (Str × Addr)), (∀ y ∈ names, y.2 = .free → ∃ c, env.cells.lookup y.1 = some c) → forIn names acc f = pure (cloFrom env.cells names acc)
  | [], acc, _ => by rw [List.forIn_nil]; rfl
  | (n, k) :: r, acc, h => by
    rw [List.forIn_cons, hf]
    have ih := fun acc => closure_loop env f hf r acc fun y hy => h y (List.mem_cons_of_mem _ hy)
    unfold cloFrom
    by_cases hk : (k == NameKind.free) = true
    · rw [if_pos hk, if_pos hk]
      obtain ⟨c, hc⟩ := h (n, k) List.mem_cons_self (by simpa using hk)
      have e : cellOf env n = pure c := by unfold cellOf; rw [hc]
      rw [e]
      have e2 : (env.cells.lookup n).getD 0 = c := by rw [hc]; rfl
      rw [e2]
      exact ih _
    · rw [if_neg hk, if_neg hk]
      exact ih _
theorem closure_ok {scope : Scope} {env : Env} (h : ∀ y ∈ scope.names, y.2 = .free → ∃ c, env.cells.lookup y.1 = some c) : closureFor scope env = pure (cloFrom env.cells scope.names []) := by
  simp only [closureFor]
  rw [closure_loop env _ (fun n k c => rfl) scope.names [] h]
  rfl

theorem mem_lookup {α : Type} : ∀ {l : List (Str × α)} {n : Str} {c : α}, (n, c) ∈ l → ∃ c', l.lookup n = some c'
  | (k, v) :: r, n, c, h => by
    rw [List.lookup_cons]
    cases hb : n == k with
    | true => exact ⟨_, rfl⟩
    | false =>
      rcases List.mem_cons.mp h with e | h
      · cases e; simp at hb
      · exact mem_lookup h

theorem cloFrom_mem {cells : List (Str × Addr)} : ∀ {names : List (Str × NameKind)} {acc : List (Str × Addr)} {n : Str} {c : Addr}, (n, c) ∈ cloFrom cells names acc → (n, c) ∈ acc ∨ ((n, .free) ∈ names ∧ c = (cells.lookup n).getD 0)
  | [], _, _, _, h => .inl h
  | (m, k) :: r, acc, n, c, h => by
    unfold cloFrom at h
    split at h
    · rename_i hk
      have hk : k = .free := by simpa using hk
      rcases cloFrom_mem h with h | ⟨h1, h2⟩
      · rcases List.mem_cons.mp h with e | h
        · cases e; exact .inr ⟨hk ▸ List.mem_cons_self, rfl⟩
        · exact .inl h
      · exact .inr ⟨List.mem_cons_of_mem _ h1, h2⟩
    · rcases cloFrom_mem h with h | ⟨h1, h2⟩
      · exact .inl h
      · exact .inr ⟨List.mem_cons_of_mem _ h1, h2⟩
theorem cloFrom_acc {cells : List (Str × Addr)} : ∀ {names : List (Str × NameKind)} {acc : List (Str × Addr)} {p : Str × Addr}, p ∈ acc → p ∈ cloFrom cells names acc
  | [], _, _, h => h
  | (m, k) :: r, acc, p, h => by
    unfold cloFrom
    split
    · exact cloFrom_acc (List.mem_cons_of_mem _ h)
    · exact cloFrom_acc h
theorem cloFrom_has {cells : List (Str × Addr)} : ∀ {names : List (Str × NameKind)} {acc : List (Str × Addr)} {n : Str}, (n, .free) ∈ names → (n, (cells.lookup n).getD 0) ∈ cloFrom cells names acc
  | (m, k) :: r, acc, n, h => by
    unfold cloFrom
    rcases List.mem_cons.mp h with e | h
    · cases e
      exact cloFrom_acc List.mem_cons_self
    · split
      · exact cloFrom_has h
      · exact cloFrom_has h

theorem cells_mem : ∀ {names : List (Str × NameKind)} {h : Heap} {acc : List (Str × Addr)} {x : Str} {c : Addr}, (x, c) ∈ cellsFrom h.objs.size names acc →
    (x, c) ∈ acc ∨ ((x, .cell) ∈ names ∧ h.objs.size ≤ c ∧ CellAt (pushCells h names) c none)
  | [], _, _, _, _, h => .inl h
  | (n, k) :: r, h, acc, x, c, hm => by
    unfold cellsFrom at hm
    unfold pushCells
    split at hm
    · rename_i hk
      rw [if_pos hk]
      have hk : k = .cell := by simpa using hk
      rw [← Heap.size_push h { cls := .type "cell", data := .cell none }] at hm
      rcases cells_mem hm with hm | ⟨h1, h2, h3⟩
      · rcases List.mem_cons.mp hm with e | hm
        · cases e
          exact .inr ⟨hk ▸ List.mem_cons_self, Nat.le_refl _, _, pushCells_keeps r _ _ _ (Heap.get?_push_size _ rfl), rfl⟩
        · exact .inl hm
      · rw [Heap.size_push] at h2
        exact .inr ⟨List.mem_cons_of_mem _ h1, Nat.le_of_succ_le h2, h3⟩
    · rename_i hk
      rw [if_neg hk]
      rcases cells_mem hm with hm | ⟨h1, h2, h3⟩
      · exact .inl hm
      · exact .inr ⟨List.mem_cons_of_mem _ h1, h2, h3⟩
theorem cells_acc : ∀ {names : List (Str × NameKind)} {n : Nat} {acc : List (Str × Addr)} {p : Str × Addr}, p ∈ acc → p ∈ cellsFrom n names acc
  | [], _, _, _, h => h
  | (m, k) :: r, n, acc, p, h => by
    unfold cellsFrom
    split
    · exact cells_acc (List.mem_cons_of_mem _ h)
    · exact cells_acc h
theorem cells_has : ∀ {names : List (Str × NameKind)} {n : Nat} {acc : List (Str × Addr)} {x : Str}, (x, .cell) ∈ names → ∃ c, (x, c) ∈ cellsFrom n names acc
  | (m, k) :: r, n, acc, x, h => by
    unfold cellsFrom
    rcases List.mem_cons.mp h with e | h
    · cases e
      exact ⟨n, cells_acc List.mem_cons_self⟩
    · split
      · exact cells_has h
      · exact cells_has h
theorem cells_inj : ∀ {names : List (Str × NameKind)} {h : Heap} {acc : List (Str × Addr)} {x y : Str} {c : Addr}, (∀ p ∈ acc, p.2 < h.objs.size) → (∀ x y c, (x, c) ∈ acc → (y, c) ∈ acc → x = y) →
    (x, c) ∈ cellsFrom h.objs.size names acc → (y, c) ∈ cellsFrom h.objs.size names acc → x = y
  | [], _, _, _, _, _, _, hi, h1, h2 => hi _ _ _ h1 h2
  | (n, k) :: r, h, acc, x, y, c, hl, hi, h1, h2 => by
    unfold cellsFrom at h1 h2
    split at h1
    · rename_i hk
      rw [if_pos hk] at h2
      rw [← Heap.size_push h { cls := .type "cell", data := .cell none }] at h1 h2
      refine cells_inj (h := h.push _) (fun p hp => ?_) (fun x y c a b => ?_) h1 h2
      · rw [Heap.size_push]
        rcases List.mem_cons.mp hp with rfl | hp
        · exact Nat.lt_succ_self _
        · exact Nat.lt_succ_of_lt (hl p hp)
      · rcases List.mem_cons.mp a with e | a <;> rcases List.mem_cons.mp b with e' | b
        · cases e; cases e'; rfl
        · cases e; exact absurd (hl _ b) (Nat.lt_irrefl _)
        · cases e'; exact absurd (hl _ a) (Nat.lt_irrefl _)
        · exact hi _ _ _ a b
    · rename_i hk
      rw [if_neg hk] at h2
      exact cells_inj hl hi h1 h2

theorem newEnv_comp {M : Model} {A : Around} {E : Value → Shared → Prop} {s : Shared} {scope : Scope} {globals : Addr} {closure : List (Str × Addr)} {qual : Str} {func : Option Addr} {code : Value} {around : Env} {builtins : Addr} {Q : Env → Shared → Prop}
    (h : Q (newEnv scope s.heap.objs.size globals (cellsFrom (s.heap.objs.size + 1) scope.names closure) qual func code (some around) builtins)
      { s with heap := pushCells (s.heap.push { cls := .type "dict", data := .dict #[] }) scope.names }) :
    wpAny M A (newFunctionEnv scope globals closure [] qual func code (some around) builtins) Q E s := by
  simp only [newFunctionEnv, Option.isSome_some, if_true]
  refine wpAny_bind (wpAny_alloc ?_)
  refine wpAny_bind (wpAny_layCells _ (fun n k c => rfl) scope.names closure _ _ ?_)
  rw [show ({ s with heap := s.heap.push { cls := .type "dict", data := .dict #[] } } : Shared).heap.objs.size = s.heap.objs.size + 1 from Heap.size_push ..]
  rw [List.forIn_nil]
  exact wpAny_bind (wpAny_pure (wpAny_pure h))

theorem lookup_relS {sc : Scope} : ∀ {names : List (Str × NameKind)} {x : Str} {k : NameKind},
    (names.map fun (n, k) => if (k == NameKind.free && sc.kind == .function && sc.names.lookup n == some .cell) then (n, NameKind.cell) else (n, k)).lookup x = some k →
    ∃ k', names.lookup x = some k' ∧ (k = k' ∨ (k' = .free ∧ k = .cell))
  | [], _, _, h => by simp at h
  | (n, k₀) :: r, x, k, h => by
    have ih := @lookup_relS sc r x k
    have h' : List.lookup x ((if (k₀ == NameKind.free && sc.kind == .function && sc.names.lookup n == some .cell) = true then (n, NameKind.cell) else (n, k₀)) :: (r.map _)) = some k := h
    cases hx : x == n with
    | true =>
      simp only [List.lookup_cons, hx]
      by_cases hc : (k₀ == NameKind.free && sc.kind == .function && sc.names.lookup n == some .cell) = true
      · rw [if_pos hc] at h'
        simp only [List.lookup_cons, hx] at h'
        cases h'
        simp only [Bool.and_eq_true, beq_iff_eq] at hc
        exact ⟨k₀, rfl, .inr ⟨hc.1.1, rfl⟩⟩
      · rw [if_neg hc] at h'
        simp only [List.lookup_cons, hx] at h'
        cases h'
        exact ⟨_, rfl, .inl rfl⟩
    | false =>
      simp only [List.lookup_cons, hx]
      by_cases hc : (k₀ == NameKind.free && sc.kind == .function && sc.names.lookup n == some .cell) = true
      · rw [if_pos hc] at h'
        simp only [List.lookup_cons, hx] at h'
        exact ih h'
      · rw [if_neg hc] at h'
        simp only [List.lookup_cons, hx] at h'
        exact ih h'
structure BlkOk (N : List Str) (sc scope : Scope) (own : List (Str × Nat)) : Prop where
  kind : scope.kind = .function
  uniq : ∀ y ∈ scope.names, scope.names.lookup y.1 = some y.2
  ix : ∀ p ∈ own, N[p.2]? = some p.1
  free : ∀ y ∈ scope.names, y.2 = .free → sc.names.lookup y.1 = some .cell ∨ sc.names.lookup y.1 = some .free
  own : ∀ y ∈ scope.names, y.2 = .local ∨ y.2 = .cell → y.1 ∈ own.map (·.1) ∨ y.1 ∉ N
def wipe (σ : St) : List Nat → St
  | [] => σ
  | v :: vs => (wipe σ vs).set v none
theorem wipe_length (σ : St) : ∀ vs : List Nat, (wipe σ vs).length = σ.length
  | [] => rfl
  | v :: vs => by unfold wipe; rw [List.length_set, wipe_length σ vs]
theorem wipe_some {σ : St} {i : Nat} {x : V} : ∀ {vs : List Nat}, (wipe σ vs)[i]? = some (some x) → σ[i]? = some (some x) ∧ i ∉ vs
  | [], h => ⟨h, by simp⟩
  | v :: vs, h => by
    unfold wipe at h
    by_cases hi : v = i
    · subst hi
      by_cases hv : v < (wipe σ vs).length
      · rw [List.getElem?_set_self hv] at h; cases h
      · rw [List.getElem?_eq_none (by simpa using hv)] at h; cases h
    · rw [List.getElem?_set_ne hi] at h
      obtain ⟨h1, h2⟩ := wipe_some h
      exact ⟨h1, by simp only [List.mem_cons, not_or]; exact ⟨fun e => hi e.symm, h2⟩⟩

abbrev Cx.blk (X : Cx) (s : Shared) (H : Hp) (scope : Scope) (cenv : Env) (fp : List Addr) : Cx := { X with s_0 := s, H_0 := H, env := cenv, outer := X.stack, ex := fp, fn := fun x => scope.names.lookup x == some .cell, pn := [], xe := fun _ _ => False }
section
variable {X : Cx} {pins : List (Addr × Obj)} {σ : St} {H : Hp} {s : Shared}
theorem block_start {scope : Scope} {own : List (Str × Nat)} {fp : List Addr} (I : Inv X pins σ H s) (ok : BlkOk X.N X.env.scope scope own) (hN : X.N.Nodup) (hfp : ∀ b ∈ fp, FpOk X pins H b ∧ b < s.heap.objs.size) :
    Inv (X.blk s H scope (compEnvC scope (cellsFrom (s.heap.objs.size + 1) scope.names (cloFrom X.env.cells scope.names [])) s.heap.objs.size X.env) fp) [] (wipe σ (own.map (·.2))) H { s with heap := pushCells (s.heap.push { cls := .type "dict", data := .dict #[] }) scope.names } := by
  have hfree : ∀ y ∈ scope.names, y.2 = .free → ∃ c, X.env.cells.lookup y.1 = some c := fun y hy e => by
    rcases ok.free y hy e with k | k
    · exact I.ok.has _ (.inl k)
    · exact I.ok.has _ (.inr k)
  generalize hcenv : compEnvC scope (cellsFrom (s.heap.objs.size + 1) scope.names (cloFrom X.env.cells scope.names [])) s.heap.objs.size X.env = cenv
  have kp : ∀ b o, s.heap.get? b = some o → (pushCells (s.heap.push { cls := .type "dict", data := .dict #[] }) scope.names).get? b = some o := fun b o e => pushCells_keeps _ _ _ _ (Heap.get?_push_of_some _ e)
  have hL : cenv.locals = s.heap.objs.size := by rw [← hcenv]; rfl
  have hcl : cenv.cells = cellsFrom (s.heap.objs.size + 1) scope.names (cloFrom X.env.cells scope.names []) := by rw [← hcenv]; rfl
  have hsc : cenv.scope = relS scope X.env.scope := by rw [← hcenv]; rfl
  rw [← Heap.size_push s.heap { cls := .type "dict", data := .dict #[] }] at hcl
  have cm : ∀ {y c}, (y, c) ∈ cloFrom X.env.cells scope.names [] → X.env.cells.lookup y = some c ∧ c < s.heap.objs.size := fun {y c} hm => by
    rcases cloFrom_mem hm with hm | ⟨h1, rfl⟩
    · cases hm
    · obtain ⟨c, hc⟩ := hfree _ h1 rfl
      rw [hc]
      obtain ⟨w, z⟩ := I.cell _ _ hc
      exact ⟨rfl, z.lt⟩
  have mem : ∀ {y c}, cenv.cells.lookup y = some c → (X.env.cells.lookup y = some c ∧ c < s.heap.objs.size) ∨ (s.heap.objs.size + 1 ≤ c ∧ CellAt (pushCells (s.heap.push { cls := .type "dict", data := .dict #[] }) scope.names) c none) := fun {y c} e => by
    rw [hcl] at e
    rcases cells_mem (PySem.mem_of_lookup e) with hm | ⟨_, h2, h3⟩
    · exact .inl (cm hm)
    · rw [Heap.size_push] at h2; exact .inr ⟨h2, h3⟩
  have look : ∀ {y}, scope.names.lookup y = some .free → ∃ c, cenv.cells.lookup y = some c ∧ X.env.cells.lookup y = some c := fun {y} hl => by
    have hy : (y, NameKind.free) ∈ scope.names := PySem.mem_of_lookup hl
    obtain ⟨c', e'⟩ := mem_lookup (cells_acc (names := scope.names) (n := (s.heap.push { cls := .type "dict", data := .dict #[] }).objs.size) (cloFrom_has (cells := X.env.cells) (acc := []) hy))
    rw [← hcl] at e'
    refine ⟨c', e', ?_⟩
    rw [hcl] at e'
    rcases cells_mem (PySem.mem_of_lookup e') with hm | ⟨h1, _, _⟩
    · exact (cm hm).1
    · have := ok.uniq _ h1
      rw [hl] at this; cases this
  have okB : (X.blk s H scope cenv fp).Ok := by
    refine ⟨I.ok.mod, by show cenv.scope.kind = _; rw [hsc]; exact ok.kind, by show cenv.globals = _; rw [← hcenv]; exact I.ok.glob, by show cenv.builtins = _; rw [← hcenv]; exact I.ok.blt, by show s.heap.objs.size ≤ cenv.locals; rw [hL]; exact Nat.le_refl _,
      fun y z c e1 e2 => ?_, fun y hy => ?_, fun y c z e => ?_, I.ok.hd, I.ok.frames, .inl rfl, fun b hb => ⟨?_, fun y c e z => ?_⟩, I.bs, Nat.le_trans I.ok.bsz I.sz, fun b o e hb => ?_, fun b hb z => ?_, I.stack, I.stkFree⟩
    · have e1 : cenv.cells.lookup y = some c := e1
      have e2 : cenv.cells.lookup z = some c := e2
      rw [hcl] at e1 e2
      refine cells_inj (fun p hp => ?_) (fun y z c a b => I.ok.inj y z c (cm a).1 (cm b).1) (PySem.mem_of_lookup e1) (PySem.mem_of_lookup e2)
      rw [Heap.size_push]
      exact Nat.lt_succ_of_lt (cm (y := p.1) (c := p.2) hp).2
    · show ∃ c, cenv.cells.lookup y = some c
      have key : ∀ k, cenv.kindOf y = some k → (k = .cell ∨ k = .free) → ∃ c, cenv.cells.lookup y = some c := fun k hk hk' => by
        unfold Env.kindOf at hk
        rw [hsc] at hk
        obtain ⟨k', e, r⟩ := lookup_relS hk
        have : k' = .cell ∨ k' = .free := by
          rcases r with rfl | ⟨rfl, _⟩
          · exact hk'
          · exact .inr rfl
        rcases this with rfl | rfl
        · obtain ⟨c, hm⟩ := cells_has (n := (s.heap.push { cls := .type "dict", data := .dict #[] }).objs.size) (acc := cloFrom X.env.cells scope.names []) (PySem.mem_of_lookup e)
          obtain ⟨c', e'⟩ := mem_lookup hm
          exact ⟨c', by rw [hcl]; exact e'⟩
        · obtain ⟨c, h1, _⟩ := look e
          exact ⟨c, h1⟩
      rcases hy with hy | hy
      · exact key _ hy (.inl rfl)
      · exact key _ hy (.inr rfl)
    · have z : (scope.names.lookup y == some NameKind.cell) = true := z
      have z : scope.names.lookup y = some .cell := by simpa using z
      have e : cenv.cells.lookup y = some c := e
      rw [hcl] at e
      rcases cells_mem (PySem.mem_of_lookup e) with hm | ⟨_, h2, _⟩
      · rcases cloFrom_mem hm with hm | ⟨h1, _⟩
        · cases hm
        · have q := ok.uniq _ h1
          rw [z] at q; cases q
      · rw [Heap.size_push] at h2
        exact Nat.le_of_succ_le h2
    · show b ≠ cenv.locals
      rw [hL]; exact Nat.ne_of_lt (hfp b hb).2
    · have e : cenv.cells.lookup y = some c := e
      rcases mem e with ⟨h1, _⟩ | ⟨h1, _⟩
      · exact (hfp b hb).1.2.2.2.2.1 y c h1 z
      · have h2 : s.heap.objs.size + 1 ≤ b := by rw [← z]; exact h1
        exact absurd (Nat.lt_of_lt_of_le (hfp b hb).2 (Nat.le_of_succ_le h2)) (Nat.lt_irrefl _)
    · rcases (hfp b hb).1.2.2.2.1 with z | z
      · exact I.ok.noex b o e z
      · exact absurd (Nat.lt_of_lt_of_le (Heap.lt_size e) (Nat.le_trans I.ok.bsz z)) (Nat.lt_irrefl _)
    · rcases List.mem_cons.mp (I.stkSub b z) with z | z
      · exact (hfp b hb).1.2.1 z
      · exact (hfp b hb).1.2.2.1 z
  refine ⟨okB, rfl, I.bare, Un.kept kp, ⟨fun _ => none, ?_, fun i y av e1 e2 e3 => ?_⟩, fun y c e => ?_, ?_, fun y c e => ?_, fun p hp => ?_, I.hok.kept kp, by rw [wipe_length]; exact I.len⟩
  · show Heap.Ns _ cenv.locals _
    rw [hL]
    exact Heap.Ns.keeps (Heap.Ns.new ..) fun b o e => pushCells_keeps _ _ _ _ e
  · obtain ⟨e2, hne⟩ := wipe_some e2
    have hfr : scope.names.lookup y = some .free ∧ (cenv.kindOf y = some .cell ∨ cenv.kindOf y = some .free) := by
      have key : ∀ k, cenv.scope.names.lookup y = some k → k = .local ∨ k = .cell ∨ k = .free → scope.names.lookup y = some .free ∧ (cenv.kindOf y = some .cell ∨ cenv.kindOf y = some .free) := fun k hk hk' => by
        have hk0 := hk
        rw [hsc] at hk
        obtain ⟨k', e, r⟩ := lookup_relS hk
        have no : ¬ (k' = .local ∨ k' = .cell) := fun hh => by
          rcases ok.own _ (PySem.mem_of_lookup e) hh with e' | e'
          · obtain ⟨p, hp, hpy⟩ := List.mem_map.mp e'
            have e3 := ok.ix p hp
            have : p.1 = y := hpy
            rw [this] at e3
            exact hne (List.mem_map.mpr ⟨p, hp, nodup_ix hN e3 e1⟩)
          · exact e' (List.mem_of_getElem? e1)
        rcases r with rfl | ⟨rfl, rfl⟩
        · rcases hk' with rfl | rfl | rfl
          · exact absurd (.inl rfl) no
          · exact absurd (.inr rfl) no
          · exact ⟨e, .inr hk0⟩
        · exact ⟨e, .inl hk0⟩
      have e3 : Vis cenv.scope y := e3
      rcases e3 with e3 | e3 | e3
      · exact key _ e3 (.inl rfl)
      · exact key _ e3 (.inr (.inl rfl))
      · exact key _ e3 (.inr (.inr rfl))
    obtain ⟨m, hn, hl⟩ := I.loc
    have hvis : Vis X.env.scope y := (ok.free _ (PySem.mem_of_lookup hfr.1) rfl).elim (fun k => .inr (.inl k)) (fun k => .inr (.inr k))
    obtain ⟨w, r, q⟩ := hl i y av e1 e2 hvis
    refine ⟨w, r, .inr ⟨hfr.2, ?_⟩⟩
    obtain ⟨c, h1, h2⟩ := look hfr.1
    rcases q with ⟨k, _⟩ | ⟨_, c', e', z⟩
    · have k : X.env.scope.names.lookup y = some .local := k
      rcases ok.free _ (PySem.mem_of_lookup hfr.1) rfl with k' | k' <;> rw [show X.env.scope.names.lookup y = _ from k'] at k <;> cases k
    · rw [h2] at e'; cases e'
      exact ⟨c, h1, z.keeps kp⟩
  · have e : cenv.cells.lookup y = some c := e
    rcases mem e with ⟨h1, _⟩ | ⟨_, z⟩
    · obtain ⟨w, z⟩ := I.cell y c h1
      exact ⟨w, z.keeps kp⟩
    · exact ⟨_, z⟩
  · show H cenv.locals = none
    rw [hL]; exact I.hok.fresh (Nat.le_refl _)
  · have e : cenv.cells.lookup y = some c := e
    rcases mem e with ⟨h1, _⟩ | ⟨h1, _⟩
    · exact I.freeC y c h1
    · exact I.hok.fresh (Nat.le_of_succ_le h1)
  · exact absurd (show p ∈ ([] : List (Addr × Obj)) ++ [] from hp) (by simp)

theorem app_ok {E : Value → Shared → Prop} {D : Addr} {xs : List V} {y : V} {v : Value} {Q : Value → Shared → Prop} (I : Inv X pins σ H s) (hD : H D = some (.lst xs)) (hz : xs.length < sizeLine) (r : RelV y v)
    (h : ∀ s', Inv X pins σ (upd H D (.lst (xs ++ [y]))) s' → Q .none s') : wpAny (model X.prog X.w) X.A (call (.builtin "list.append") [.ref D, v]) Q E s := by
  obtain ⟨hz', its, n, ri, e⟩ := I.hok D _ hD
  have hl := ri.length
  refine append_at (hsz := by rw [List.size_toArray]; omega) e fun h' sb ho' => ?_
  refine h { s with heap := h' } (I.write (t' := s.toks) (by rw [hD]; trivial) (.inl rfl) (fun b u hb q => (sb.2 b hb).trans q) ⟨_, ho'⟩ ⟨by rw [List.length_append]; exact hz, its ++ [v], n + 1, ri.append (.cons r .nil), ?_⟩)
  rw [ho']
  simp

def PTs (X : Cx) (ifs : List Expr) (t : TT) : Prop :=
  ∀ (pins : List (Addr × Obj)) (s : Shared) (σ : St) (H : Hp) (Q : Bool → Hp → Prop), Inv X pins σ H s → t σ H Q →
    wpAny (model X.prog X.w) X.A (forIn ifs true fun c r => if r = true then do let ok ← isTrue c X.env (eval c X.env); pure (ForInStep.yield ok) else pure (ForInStep.yield r)) (TP X pins σ Q) X.xe s
def tYes : TT := fun _ H Q => Q true H
theorem pts_nil : PTs X [] tYes := fun _ _ _ H _ I h => wpAny_tests_nil ⟨H, I, h⟩
theorem pts_one {c : Expr} {t : TT} (h : PT X c t) : PTs X [c] t := fun pins s σ H Q I hw => wpAny_tests_one (h pins s σ H Q I hw)
end

theorem thnF {α : Type} {t : Sem α} {Q Q' : α → Shared → Prop} {M : Model} {A : Around} {E : Value → Shared → Prop} {s : Shared} (h : wpAny M A t Q (fun _ _ => False) s) (hQ : ∀ a s, Q a s → Q' a s) : wpAny M A t Q' E s := wpAny_mono h hQ fun _ _ z => False.elim z

theorem compLoop_any {prog : Program} {w : World} {A : Around} {R : Result → Shared → Prop} {s : Shared} {elt target iter : Expr} {ifs : List Expr} {scope : Scope} {pos : Pos} {it acc : Value} {env : Env} (I : Nat → Shared → Prop)
    (turn : ∀ n s, I n s → wpAny (model prog w) A (pyNext it) (fun r s₁ => match r with
      | none => R (.ok .next) s₁
      | some v => wpAny (model prog w) A (letOwnedTupleGo target it v) (fun _ s₁' => wpAny (model prog w) A (assign target env v) (fun _ s₂ =>
          wpAny (model prog w) A (forIn ifs true fun c r => if r = true then do let ok ← isTrue c env (eval c env); pure (ForInStep.yield ok) else pure (ForInStep.yield r)) (fun ok s₃ =>
            if ok = true then wpAny (model prog w) A (eval elt env) (fun x s₄ =>
              wpAny (model prog w) A (call (.builtin "list.append") [acc, x]) (fun _ s₅ => ∃ m, m < n ∧ I m s₅) (notedBy (model prog w) A env fun e s' => R (.error e) s') s₄) (notedBy (model prog w) A env fun e s' => R (.error e) s') s₃
            else ∃ m, m < n ∧ I m s₃) (notedBy (model prog w) A env fun e s' => R (.error e) s') s₂) (notedBy (model prog w) A env fun e s' => R (.error e) s') s₁') (notedBy (model prog w) A env fun e s' => R (.error e) s') s₁) (notedBy (model prog w) A env fun e s' => R (.error e) s') s)
    (n : Nat) (h : I n s) :
    codeAny (model prog w) A (.compLoop (.ListComp elt [⟨target, iter, ifs, 0⟩] scope pos) 0 it acc env) R s := by
  refine codeAny_loop rfl I (fun n s hI => ?_) n h
  show wpAny _ A ((compTurn (.ListComp elt [⟨target, iter, ifs, 0⟩] scope pos) 0 it acc env).onRaise (fun x => do noteFrame x env; theTreesLotGoes x)) _ _ s
  refine wpAny_noted ?_
  rw [compTurn_list]
  refine wpAny_bind (wpAny_standAt (wpAny_bind (wpAny_mono (turn n s hI) (fun r s₁ h₁ => ?_) fun _ _ h' => h')))
  cases r with
  | none => exact wpAny_pure h₁
  | some v =>
    refine wpAny_bind (wpAny_mono h₁ (fun _ s₁' h₁' => ?_) fun _ _ h' => h')
    refine wpAny_bind (wpAny_mono h₁' (fun _ s₂ h₂ => wpAny_bind (wpAny_mono h₂ (fun ok s₃ h₃ => ?_) fun _ _ h' => h')) fun _ _ h' => h')
    cases ok with
    | false => exact wpAny_pure ⟨rfl, h₃⟩
    | true =>
      exact wpAny_bind (wpAny_bind (wpAny_mono h₃ (fun x s₄ h₄ => wpAny_bind (wpAny_mono h₄ (fun _ s₅ h₅ => wpAny_pure (wpAny_pure ⟨rfl, h₅⟩)) fun _ _ h' => h')) fun _ _ h' => h'))

section
variable {X : Cx}
def tLc (wi : TI) (g : TG) (tt : TT) (te : TE) (vs : List Nat) : TE := fun σ H Q => wi σ H fun J H1 => ∀ D, H1 D = none → ∃ W : Nat → Nat → Hp → Prop, (∃ m, W 0 m (upd H1 D (.lst []))) ∧ ∀ i m H, W i m H →
  (J.stop i H ∧ Q (.ref D) H) ∨ (J.go i H ∧ ∃ Nx : Hp → Prop, (∀ H', Nx H' → ∃ m', m' < m ∧ W (i + 1) m' H') ∧ ∀ x H', J.yld i H x H' → g x (wipe σ vs) H' fun σ2 H2 => wipe σ2 vs = wipe σ vs ∧ tt σ2 H2 fun b H3 =>
    if b = true then te σ2 H3 fun y H4 => ∃ acc, H4 D = some (.lst acc) ∧ acc.length < sizeLine ∧ Nx (upd H4 D (.lst (acc ++ [y]))) else Nx H3)
theorem lc_core {pins : List (Addr × Obj)} {s : Shared} {σ : St} {H : Hp} {Q : VK} {elt tg iter : Expr} {ifs : List Expr} {scope : Scope} {own : List (Str × Nat)} {pos pos' : Pos} {wi : TI} {g : TG} {tt : TT} {te : TE} {use : Option (Value → Sem Unit)} {Qf : Value → Shared → Prop}
    (hc : X.calm = true) (hN : X.N.Nodup) (I : Inv X pins σ H s) (hi : PI X tg iter wi) (ok : BlkOk X.N X.env.scope scope own)
    (hg : ∀ (s : Shared) (H : Hp) (C : Addr) (cl : List (Str × Addr)) (fp : List Addr), PG (X.blk s H scope (compEnvC scope cl C X.env) fp) tg g) (ht : ∀ (s : Shared) (H : Hp) (C : Addr) (cl : List (Str × Addr)) (fp : List Addr), PTs (X.blk s H scope (compEnvC scope cl C X.env) fp) ifs tt)
    (he : ∀ (s : Shared) (H : Hp) (C : Addr) (cl : List (Str × Addr)) (fp : List Addr), PE (X.blk s H scope (compEnvC scope cl C X.env) fp) elt te) (hs : ∀ x, foldedSetIterable iter X.env x = pure x)
    (h : tLc wi g tt te (own.map (·.2)) σ H Q)
    (hRR : ∀ D C s' m H', Inv X pins σ H' s' → Q (.ref D) H' → s'.heap.Ns C m → FpOk X pins H' C → compPost (model X.prog X.w) X.A X.xe use Qf (.ref D) C (.ok .next) s') :
    wpAny (model X.prog X.w) X.A (comprehension (.ListComp elt [⟨tg, iter, ifs, 0⟩] scope pos) scope X.env pos' (newList []) false (eval iter X.env) use) Qf X.xe s := by
  have hfree : ∀ y ∈ scope.names, y.2 = .free → ∃ c, X.env.cells.lookup y.1 = some c := fun y hy e => by
    rcases ok.free y hy e with k | k
    · exact I.ok.has _ (.inl k)
    · exact I.ok.has _ (.inr k)
  refine wpAny_comprehension_free (use := use) rfl hs (closure_ok hfree) ok.kind (fun y hy e => by rw [ok.uniq y hy, e])
    (thn (hi pins s σ H _ I h) fun xv s1 hx => thn hx fun itv s2 h2 => ?_)
  obtain ⟨it, fp, tn, J, H2, e, I2, T, st2, f2, q⟩ := h2
  subst e
  refine wpAny_newObj_type (newEnv_comp ?_) (by show 0 ≤ sizeLine; decide)
  generalize hD : s2.heap.objs.size = D
  have hDn : H2 D = none := I2.hok.fresh (Nat.le_of_eq hD)
  obtain ⟨W, ⟨m0, w0⟩, turn⟩ := q D hDn
  -- the new list
  generalize hs3 : ({ s2 with heap := s2.heap.push { cls := .type "list", data := .seq ([] : List Value).toArray } } : Shared) = s3
  have I3 : Inv X pins σ (upd H2 D (.lst [])) s3 := by
    rw [← hs3]
    refine I2.laid (t' := s2.toks) (fun b o e => Heap.get?_push_of_some _ e) (Nat.le_of_eq hD) ⟨Nat.zero_le _, [], 0, .nil, ?_⟩
    rw [← hD]
    exact Heap.get?_push_size _ rfl
  have h3 : s3.heap = s2.heap.push { cls := .type "list", data := .seq ([] : List Value).toArray } := by rw [← hs3]
  have sz : ∀ b ∈ fp, b < s2.heap.objs.size := fun b hb => by
    obtain ⟨o, e, _⟩ := T.obj _ _ st2 b hb
    exact Heap.lt_size e
  have f3 : ∀ b ∈ fp, FpOk X pins (upd H2 D (.lst [])) b ∧ b < s3.heap.objs.size := fun b hb => by
    have hlt := sz b hb
    refine ⟨⟨?_, (f2 b hb).2⟩, by rw [h3, Heap.size_push]; exact Nat.lt_succ_of_lt hlt⟩
    rw [upd_ne (by rw [← hD]; exact Nat.ne_of_lt hlt)]
    exact (f2 b hb).1
  have st3 : tn 0 s3.heap := T.keep _ _ _ st2 fun b _ o e => by rw [h3]; exact Heap.get?_push_of_some _ e
  have I4 := block_start I3 ok hN f3
  have pg := hg s3 (upd H2 D (.lst [])) s3.heap.objs.size (cellsFrom (s3.heap.objs.size + 1) scope.names (cloFrom X.env.cells scope.names [])) fp
  have pt := ht s3 (upd H2 D (.lst [])) s3.heap.objs.size (cellsFrom (s3.heap.objs.size + 1) scope.names (cloFrom X.env.cells scope.names [])) fp
  have pe := he s3 (upd H2 D (.lst [])) s3.heap.objs.size (cellsFrom (s3.heap.objs.size + 1) scope.names (cloFrom X.env.cells scope.names [])) fp
  show codeAny _ _ (.compStart (.ListComp elt [⟨tg, iter, ifs, 0⟩] scope pos) 0 (.ref it) (.ref D) (compEnvC scope (cellsFrom (s3.heap.objs.size + 1) scope.names (cloFrom X.env.cells scope.names [])) s3.heap.objs.size X.env)) (compPost (model X.prog X.w) X.A X.xe use Qf (.ref D) s3.heap.objs.size) { s3 with heap := pushCells (s3.heap.push { cls := .type "dict", data := .dict #[] }) scope.names }
  have nfp : ∀ b ∈ fp, (upd H2 D (.lst [])) b = none := fun b hb => (f3 b hb).1.1
  generalize hce : compEnvC scope (cellsFrom (s3.heap.objs.size + 1) scope.names (cloFrom X.env.cells scope.names [])) s3.heap.objs.size X.env = ce at I4 pg pt pe ⊢
  have cL : ce.locals = s3.heap.objs.size := by subst hce; rfl
  generalize hH3 : upd H2 D (.lst []) = H3 at I3 I4 pg pt pe w0 nfp f3
  generalize hs4 : ({ s3 with heap := pushCells (s3.heap.push { cls := .type "dict", data := .dict #[] }) scope.names } : Shared) = s4 at I4 ⊢
  have st4 : tn 0 s4.heap := T.keep _ _ _ st3 fun b _ o e => by rw [← hs4]; exact pushCells_keeps _ _ _ _ (Heap.get?_push_of_some _ e)
  have stat : ∀ {σ' : St} {H' : Hp} {s' : Shared}, Inv (X.blk s3 H3 scope ce fp) [] σ' H' s' → (∀ b ∈ fp, H' b = none) → ∀ b ∈ fp, FpOk (X.blk s3 H3 scope ce fp) [] H' b := fun {σ' H' s'} I' hn b hb =>
    ⟨hn b hb, (I'.ok.exf b hb).1, I'.ok.exfs b hb, .inl hb, fun x c e => (I'.ok.exf b hb).2 x c e, fun p hp => absurd (show p ∈ ([] : List (Addr × Obj)) ++ [] from hp) (by simp)⟩
  have loop : codeAny (model X.prog X.w) X.A (.compLoop (.ListComp elt [⟨tg, iter, ifs, 0⟩] scope pos) 0 (.ref it) (.ref D) ce) (compPost (model X.prog X.w) X.A X.xe use Qf (.ref D) s3.heap.objs.size) s4 := by
    refine compLoop_any (fun n s' => ∃ i H', Inv (X.blk s3 H3 scope ce fp) [] (wipe σ (own.map (·.2))) H' s' ∧ tn i s'.heap ∧ (∀ b ∈ fp, H' b = none) ∧ W i n H') ?_ m0 ⟨0, H3, I4, st4, nfp, w0⟩
    rintro n s5 ⟨i, H5, I5, st5, n5, w5⟩
    rcases turn i n H5 w5 with ⟨stop, qq⟩ | ⟨go, Nx, hNx, step⟩
    · have td := T.done (X.blk s3 H3 scope ce fp) rfl rfl rfl hc i [] s5 _ H5 (fun _ _ => False) I5 (stat I5 n5) st5 stop
      refine thnF td fun r s6 ⟨hr, I6⟩ => ?_
      subst hr
      -- back in the def's context
      have I7 : Inv X pins σ H5 s6 := I3.call' (ch := fp) I6.os I6.base I6.hok I6.bare fun b hb => ⟨(f3 b hb).1.2.2.2.1, (f3 b hb).1.2.1, (f3 b hb).1.2.2.2.2.1, (f3 b hb).1.2.2.2.2.2⟩
      have nC : H5 s3.heap.objs.size = none := by
        have z : H5 ce.locals = none := I6.free
        rw [cL] at z
        exact z
      obtain ⟨m, hn, _⟩ := I6.loc
      have hn : s6.heap.Ns ce.locals m := hn
      rw [cL] at hn
      exact hRR D s3.heap.objs.size s6 m H5 I7 qq hn (I3.fpOk (Nat.le_refl _) nC)
    · have ti := T.item (X.blk s3 H3 scope ce fp) rfl rfl rfl hc i [] s5 _ H5 (fun _ _ => False) I5 (stat I5 n5) st5 go
      refine thnF ti fun r s6 ⟨u, hr, h6⟩ => ?_
      subst hr
      refine thnF h6 fun _ s7 ⟨x, H7, I7, r7, y7, st7, n7⟩ => ?_
      have I7' := I7.pinned (stat I7 n7) (T.obj _ _ st7)
      refine thnF (pg _ s7 _ H7 x u _ I7' r7 (step x H7 y7)) fun _ s8 ⟨σ8, H8, I8, hw8, q8⟩ => ?_
      refine thnF (pt _ s8 σ8 H8 _ I8 q8) fun b s9 ⟨H9, I9, q9⟩ => ?_
      -- the turn's end
      have fin : ∀ {s' : Shared} {H' : Hp}, Inv (X.blk s3 H3 scope ce fp) ([] ++ pinsAt fp s7.heap) σ8 H' s' → Nx H' → ∃ m, m < n ∧ ∃ i H', Inv (X.blk s3 H3 scope ce fp) [] (wipe σ (own.map (·.2))) H' s' ∧ tn i s'.heap ∧ (∀ b ∈ fp, H' b = none) ∧ W i m H' := fun {s' H'} I' nx => by
        obtain ⟨m', hm, w'⟩ := hNx H' nx
        have pin' : ∀ b ∈ fp, ∀ o, s7.heap.get? b = some o → s'.heap.get? b = some o ∧ H' b = none := fun b hb o e =>
          let z := I'.pin (b, o) (List.mem_append_right _ (List.mem_append_right _ (mem_pinsAt hb e)))
          ⟨z.1, z.2.1⟩
        have hl : (wipe σ (own.map (·.2))).length = σ8.length := by rw [← hw8, wipe_length]
        refine ⟨m', hm, i + 1, H', (I'.unpinned (pins := [])).weak hl (fun j v e => ?_), T.keep _ _ _ st7 fun b hb o e => (pin' b hb o e).1, fun b hb => ?_, w'⟩
        · rw [← hw8] at e
          exact (wipe_some e).1
        · obtain ⟨o, e, _⟩ := T.obj _ _ st7 b hb
          exact (pin' b hb o e).2
      cases b with
      | false =>
        simp only [Bool.false_eq_true, if_false] at q9 ⊢
        exact fin I9 q9
      | true =>
        simp only [if_true] at q9 ⊢
        refine thnF (pe _ s9 σ8 H9 _ I9 q9) fun z s10 ⟨yv, H10, I10, r10, acc, hD10, hz10, nx⟩ => ?_
        exact app_ok (X := X.blk s3 H3 scope ce fp) I10 hD10 hz10 r10 fun s11 I11 => fin I11 nx
  exact codeAny_compStart_list loop (T.self X.A 0 _ _ _ st4 loop)
theorem pe_lc {elt tg iter : Expr} {ifs : List Expr} {scope : Scope} {own : List (Str × Nat)} {pos : Pos} {wi : TI} {g : TG} {tt : TT} {te : TE} (hc : X.calm = true) (hN : X.N.Nodup) (hi : PI X tg iter wi) (ok : BlkOk X.N X.env.scope scope own)
    (hg : ∀ (s : Shared) (H : Hp) (C : Addr) (cl : List (Str × Addr)) (fp : List Addr), PG (X.blk s H scope (compEnvC scope cl C X.env) fp) tg g) (ht : ∀ (s : Shared) (H : Hp) (C : Addr) (cl : List (Str × Addr)) (fp : List Addr), PTs (X.blk s H scope (compEnvC scope cl C X.env) fp) ifs tt)
    (he : ∀ (s : Shared) (H : Hp) (C : Addr) (cl : List (Str × Addr)) (fp : List Addr), PE (X.blk s H scope (compEnvC scope cl C X.env) fp) elt te) (hs : ∀ x, foldedSetIterable iter X.env x = pure x := by intro _; rfl) :
    PE X (.ListComp elt [⟨tg, iter, ifs, 0⟩] scope pos) (tLc wi g tt te (own.map (·.2))) := by
  intro pins s σ H Q I h
  rw [eval_ListComp]
  refine lc_core hc hN I hi ok hg ht he hs h fun D C s' m H' I' q hn f => ⟨m, hn, fun h'' sb => ?_⟩
  obtain ⟨f0, f1, f2, f3, f4, f5⟩ := f
  exact ⟨.ref D, H', I'.turned (t' := s'.toks) (fun b o hb e => (sb.2 b hb).trans e) f0 f1 f3 f4 f5, rfl, q⟩
theorem ps_setLc {i : Nat} {y : Str} {py : Pos} {elt tg iter : Expr} {ifs : List Expr} {scope : Scope} {own : List (Str × Nat)} {pos spos : Pos} {wi : TI} {g : TG} {tt : TT} {te : TE} (hc : X.calm = true) (hN : X.N.Nodup) (hy : X.N[i]? = some y) (hyl : X.env.scope.names.lookup y = some .local)
    (hsw : swapsWith (.ListComp elt [⟨tg, iter, ifs, 0⟩] scope pos) (some (.Name y py)) spos.line X.env = pure true) (hi : PI X tg iter wi) (ok : BlkOk X.N X.env.scope scope own)
    (hg : ∀ (s : Shared) (H : Hp) (C : Addr) (cl : List (Str × Addr)) (fp : List Addr), PG (X.blk s H scope (compEnvC scope cl C X.env) fp) tg g) (ht : ∀ (s : Shared) (H : Hp) (C : Addr) (cl : List (Str × Addr)) (fp : List Addr), PTs (X.blk s H scope (compEnvC scope cl C X.env) fp) ifs tt)
    (he : ∀ (s : Shared) (H : Hp) (C : Addr) (cl : List (Str × Addr)) (fp : List Addr), PE (X.blk s H scope (compEnvC scope cl C X.env) fp) elt te) (hs : ∀ x, foldedSetIterable iter X.env x = pure x := by intro _; rfl) :
    PS X (.Assign [.Name y py] (.ListComp elt [⟨tg, iter, ifs, 0⟩] scope pos) spos) (tAsg (tLc wi g tt te (own.map (·.2))) (gName i)) := by
  intro pins s σ H D I h
  rw [exec_Assign_Name_used _ _ _ _ hsw]
  refine wpAny_bind (wpAny_standAt (wpAny_bind ?_))
  show wpAny _ X.A (do let _ ← comprehension (.ListComp elt [⟨tg, iter, ifs, 0⟩] scope pos) scope X.env (firstIterPos [⟨tg, iter, ifs, 0⟩] pos) (newList []) false (eval iter X.env) (some (assign (.Name y py) X.env))) _ _ s
  have h : tLc wi g tt te (own.map (·.2)) σ H (fun x H1 => gName i x σ H1 D.nx) := h
  refine wpAny_bind (thn (lc_core (Qf := fun _ s' => SP X pins D .next s') hc hN I hi ok hg ht he hs h fun L C s' m H' I' q hn f => ?_) fun _ s' hq => wpAny_pure (wpAny_pure hq))
  show wpAny _ _ (assign (.Name y py) X.env (.ref L)) _ _ _
  refine wpAny_assign_Name (store_ok2 (v := V.ref L) I' hN hy (.inl hyl) rfl (fun s2 I2 ⟨a, sb, ha⟩ => ?_) (.inr hyl))
  obtain ⟨f0, f1, f2, f3, f4, f5⟩ := f
  have haC : C ≠ a := by
    rcases ha with z | z
    · rw [z]; exact f1
    · exact fun e => f4 y a z e.symm
  refine ⟨m, hn.sameBut sb haC, fun h3 sb3 => ?_⟩
  exact ⟨_, H', I2.turned (t' := s2.toks) (fun b o hb e => (sb3.2 b hb).trans e) f0 f1 f3 f4 f5, q⟩
theorem sw_true {elt : Expr} {gs : List Comprehension} {scope : Scope} {pos py : Pos} {y : Str} {l : Nat} {env : Env} (hk : env.scope.kind = .function) (hy : env.scope.names.lookup y = some .local) (hl : (py.line == pos.line) = true)
    (ha : (scope.names.any fun (n, k) => n == y && (k == .local || k == .cell)) = false) : swapsWith (.ListComp elt gs scope pos) (some (.Name y py)) l env = pure true := by
  have ky : env.kindOf y = some .local := hy
  have hb : env.blockKind = .function := by unfold Env.blockKind; rw [hk]; rfl
  unfold swapsWith
  simp only [hb, ky, ha, Expr.pos, hl]
  rfl
end

theorem lc_range {lo : Int} {n : Nat} {g : TG} {tt : TT} {te : TE} {vs : List Nat} {σ : St} {H1 : Hp} {D : Addr} {Qd : Hp → Prop} (Pv : Nat → Hp → Prop) (h0 : Pv 0 (upd H1 D (.lst [])))
    (hs : ∀ i H, i < n → Pv i H → g (.int (lo + i)) (wipe σ vs) H fun σ2 H2 => wipe σ2 vs = wipe σ vs ∧ tt σ2 H2 fun b H3 =>
      if b = true then te σ2 H3 fun y H4 => ∃ acc, H4 D = some (.lst acc) ∧ acc.length < sizeLine ∧ Pv (i + 1) (upd H4 D (.lst (acc ++ [y]))) else Pv (i + 1) H3) (hd : ∀ H, Pv n H → Qd H) :
    ∃ W : Nat → Nat → Hp → Prop, (∃ m, W 0 m (upd H1 D (.lst []))) ∧ ∀ i m H, W i m H →
      ((Itr lo n).stop i H ∧ Qd H) ∨ ((Itr lo n).go i H ∧ ∃ Nx : Hp → Prop, (∀ H', Nx H' → ∃ m', m' < m ∧ W (i + 1) m' H') ∧ ∀ x H', (Itr lo n).yld i H x H' → g x (wipe σ vs) H' fun σ2 H2 => wipe σ2 vs = wipe σ vs ∧ tt σ2 H2 fun b H3 =>
        if b = true then te σ2 H3 fun y H4 => ∃ acc, H4 D = some (.lst acc) ∧ acc.length < sizeLine ∧ Nx (upd H4 D (.lst (acc ++ [y]))) else Nx H3) := by
  refine ⟨fun i m H => m = n - i ∧ i ≤ n ∧ Pv i H, ⟨n, by simp, Nat.zero_le _, h0⟩, ?_⟩
  rintro i m H ⟨rfl, hi, p⟩
  by_cases hlt : i < n
  · refine .inr ⟨hlt, Pv (i + 1), fun H' p' => ⟨n - (i + 1), by omega, rfl, hlt, p'⟩, fun x H' y => ?_⟩
    obtain ⟨e, y⟩ := y
    subst e y
    exact hs i _ hlt p
  · have e : i = n := by omega
    subst e
    exact .inl ⟨Nat.le_refl _, hd H p⟩
theorem lc_list {K : PySem.W.Frag} {a : Addr} {xs : List V} {g : TG} {tt : TT} {te : TE} {vs : List Nat} {σ : St} {H1 : Hp} {D : Addr} {Qd : Hp → Prop} (Pv : Nat → Hp → Prop) (h0 : Pv 0 (upd H1 D (.lst []))) (hl : ∀ i H, i ≤ xs.length → Pv i H → SqL K H a xs)
    (hs : ∀ i x H, xs[i]? = some x → Pv i H → g x (wipe σ vs) H fun σ2 H2 => wipe σ2 vs = wipe σ vs ∧ tt σ2 H2 fun b H3 =>
      if b = true then te σ2 H3 fun y H4 => ∃ acc, H4 D = some (.lst acc) ∧ acc.length < sizeLine ∧ Pv (i + 1) (upd H4 D (.lst (acc ++ [y]))) else Pv (i + 1) H3) (hd : ∀ H, Pv xs.length H → Qd H) :
    ∃ W : Nat → Nat → Hp → Prop, (∃ m, W 0 m (upd H1 D (.lst []))) ∧ ∀ i m H, W i m H →
      ((Itl K a).stop i H ∧ Qd H) ∨ ((Itl K a).go i H ∧ ∃ Nx : Hp → Prop, (∀ H', Nx H' → ∃ m', m' < m ∧ W (i + 1) m' H') ∧ ∀ x H', (Itl K a).yld i H x H' → g x (wipe σ vs) H' fun σ2 H2 => wipe σ2 vs = wipe σ vs ∧ tt σ2 H2 fun b H3 =>
        if b = true then te σ2 H3 fun y H4 => ∃ acc, H4 D = some (.lst acc) ∧ acc.length < sizeLine ∧ Nx (upd H4 D (.lst (acc ++ [y]))) else Nx H3) := by
  refine ⟨fun i m H => m = xs.length - i ∧ i ≤ xs.length ∧ Pv i H, ⟨xs.length, by simp, Nat.zero_le _, h0⟩, ?_⟩
  rintro i m H ⟨rfl, hi, p⟩
  have q := hl i H hi p
  by_cases hlt : i < xs.length
  · refine .inr ⟨⟨xs, xs[i], q, by simp [hlt]⟩, Pv (i + 1), fun H' p' => ⟨xs.length - (i + 1), by omega, rfl, hlt, p'⟩, fun x H' y => ?_⟩
    obtain ⟨e, y⟩ := y
    subst e
    exact hs i x _ (y xs q) p
  · have e : i = xs.length := by omega
    subst e
    exact .inl ⟨⟨xs, q, Nat.le_refl _⟩, hd H p⟩
def blkC (N : List Str) (sc scope : Scope) (own : List (Str × Nat)) : Bool :=
  (match scope.kind with | .function => true | _ => false) && (scope.names.all fun y => decide (scope.names.lookup y.1 = some y.2)) && (own.all fun p => decide (N[p.2]? = some p.1)) &&
    (scope.names.all fun y => match y.2 with
      | .free => (match sc.names.lookup y.1 with | some .cell => true | some .free => true | _ => false)
      | .local => decide (y.1 ∈ own.map (·.1)) || decide (y.1 ∉ N)
      | .cell => decide (y.1 ∈ own.map (·.1)) || decide (y.1 ∉ N)
      | _ => true)
theorem blkOk_by {N : List Str} {sc scope : Scope} {own : List (Str × Nat)} (h : blkC N sc scope own = true) : BlkOk N sc scope own := by
  unfold blkC at h
  simp only [Bool.and_eq_true, List.all_eq_true, decide_eq_true_eq] at h
  obtain ⟨⟨⟨h1, h2⟩, h3⟩, h4⟩ := h
  refine ⟨?_, h2, h3, fun y hy e => ?_, fun y hy e => ?_⟩
  · split at h1
    · assumption
    · cases h1
  · have q := h4 y hy
    simp only [e] at q
    split at q <;> first | exact .inl (by assumption) | exact .inr (by assumption) | cases q
  · have q := h4 y hy
    rcases e with e | e <;> (simp only [e, Bool.or_eq_true, decide_eq_true_eq] at q; exact q)
end L2

namespace L2
open PySem PySem.Spec PyProof.Rows

section
variable {prog : Program} {w : World} {A : Around} {R : Result → Shared → Prop} {s : Shared} {elt t0 i0 t1 i1 : Expr} {ifs0 ifs1 : List Expr} {scope : Scope} {pos : Pos} {it acc : Value} {env : Env}
end

section
variable {X : Cx}
end
end L2

namespace L2
open PySem PySem.Spec PyProof.Rows

section
variable {κ : Type} [DecidableEq κ]
def valV (kvs : List (κ × V)) (k : κ) : Option V := (kvs.find? fun kv => decide (kv.1 = k)).map (·.2)
def putK (kvs : List (κ × V)) (k : κ) (v : V) : List (κ × V) :=
  if (kvs.any fun kv => decide (kv.1 = k)) = true then kvs.map (fun kv => if kv.1 = k then (kv.1, v) else kv) else kvs ++ [(k, v)]
def dropK (kvs : List (κ × V)) (k : κ) : List (κ × V) := kvs.filter fun kv => decide (kv.1 ≠ k)

theorem valV_pos {p : κ × V} {r : List (κ × V)} {k : κ} (e : p.1 = k) : valV (p :: r) k = some p.2 := by simp [valV, List.find?_cons, e]
theorem valV_neg {p : κ × V} {r : List (κ × V)} {k : κ} (e : ¬ p.1 = k) : valV (p :: r) k = valV r k := by simp [valV, List.find?_cons, e]
theorem valV_any (k : κ) : ∀ kvs : List (κ × V), (kvs.any fun kv => decide (kv.1 = k)) = (valV kvs k).isSome
  | [] => rfl
  | p :: r => by
    rw [List.any_cons]
    by_cases e : p.1 = k
    · simp only [valV_pos e, decide_eq_true e, Bool.true_or, Option.isSome_some]
    · rw [valV_neg e, decide_eq_false e, Bool.false_or]; exact valV_any k r
theorem length_putK (kvs : List (κ × V)) (k : κ) (v : V) : (putK kvs k v).length ≤ kvs.length + 1 := by
  unfold putK
  split
  · rw [List.length_map]; omega
  · rw [List.length_append, List.length_cons, List.length_nil]; omega
theorem putK_new {kvs : List (κ × V)} {k : κ} (v : V) (h : valV kvs k = none) : putK kvs k v = kvs ++ [(k, v)] := by
  unfold putK
  rw [valV_any, h]
  exact if_neg (by decide)

theorem RelO.isSome_eq {o : Option V} {u : Option Value} (r : RelO o u) : o.isSome = u.isSome := by
  cases o with
  | none => cases u with
    | none => rfl
    | some _ => exact (show False from r).elim
  | some _ => cases u with
    | none => exact (show False from r).elim
    | some _ => rfl
theorem RelO.getD {o : Option V} {u : Option Value} {d : V} {d' : Value} (r : RelO o u) (rd : RelV d d') : RelV (o.getD d) (u.getD d') := by
  cases o with
  | none => cases u with
    | none => exact rd
    | some _ => exact (show False from r).elim
  | some _ => cases u with
    | none => exact (show False from r).elim
    | some _ => exact r

theorem KV.val {kvs : List (κ × V)} {vs : List (κ × Value)} (r : KV kvs vs) (k : κ) : RelO (valV kvs k) (valueAt vs k) := by
  unfold KV at r
  induction r with
  | nil => exact True.intro
  | @cons p q ps qs h t ih =>
    obtain ⟨h1, h2⟩ := h
    by_cases e : p.1 = k
    · have e' : q.1 = k := h1.symm.trans e
      have b : valueAt (q :: qs) k = some q.2 := by simp [valueAt, List.find?_cons, e']
      rw [valV_pos e, b]; exact h2
    · have e' : ¬ q.1 = k := fun z => e (h1.trans z)
      have b : valueAt (q :: qs) k = valueAt qs k := by simp [valueAt, List.find?_cons, e']
      rw [valV_neg e, b]; exact ih
theorem KV.any {kvs : List (κ × V)} {vs : List (κ × Value)} (r : KV kvs vs) (k : κ) : (kvs.any fun kv => decide (kv.1 = k)) = vs.any fun kv => decide (kv.1 = k) := by
  unfold KV at r
  induction r with
  | nil => rfl
  | cons h t ih => rw [List.any_cons, List.any_cons, ih, h.1]
theorem KV.repl {kvs : List (κ × V)} {vs : List (κ × Value)} (r : KV kvs vs) (k : κ) {y : V} {u : Value} (ry : RelV y u) :
    KV (kvs.map fun kv => if kv.1 = k then (kv.1, y) else kv) (vs.map fun kv => if kv.1 = k then (kv.1, u) else kv) := by
  unfold KV at r ⊢
  induction r with
  | nil => exact .nil
  | @cons p q ps qs h t ih =>
    rw [List.map_cons, List.map_cons]
    refine .cons ?_ ih
    obtain ⟨h1, h2⟩ := h
    by_cases e : p.1 = k
    · rw [if_pos e, if_pos (h1.symm.trans e)]; exact ⟨h1, ry⟩
    · rw [if_neg e, if_neg (fun z => e (h1.trans z))]; exact ⟨h1, h2⟩
theorem KV.put {kvs : List (κ × V)} {vs : List (κ × Value)} (r : KV kvs vs) (k : κ) {y : V} {u : Value} (ry : RelV y u) : KV (putK kvs k y) (stored vs k u) := by
  unfold putK stored
  rw [r.any k]
  by_cases e : (vs.any fun kv => decide (kv.1 = k)) = true
  · rw [if_pos e, if_pos e]; exact r.repl k ry
  · rw [if_neg e, if_neg e]; exact Paired.snoc r ⟨rfl, ry⟩
theorem KV.drop {kvs : List (κ × V)} {vs : List (κ × Value)} (r : KV kvs vs) (k : κ) : KV (dropK kvs k) (without vs k) := by
  unfold KV at r ⊢
  unfold dropK without
  induction r with
  | nil => exact .nil
  | @cons p q ps qs h t ih =>
    obtain ⟨h1, h2⟩ := h
    rw [List.filter_cons, List.filter_cons]
    by_cases e : p.1 = k
    · have a : ¬ decide (p.1 ≠ k) = true := by simp [e]
      have b : ¬ decide (q.1 ≠ k) = true := by simp [h1.symm.trans e]
      rw [if_neg a, if_neg b]; exact ih
    · have e' : ¬ q.1 = k := fun z => e (h1.trans z)
      have a : decide (p.1 ≠ k) = true := by simp [e]
      have b : decide (q.1 ≠ k) = true := by simp [e']
      rw [if_pos a, if_pos b]; exact .cons ⟨h1, h2⟩ ih
theorem KV.keys {kvs : List (κ × V)} {vs : List (κ × Value)} (r : KV kvs vs) : kvs.map (·.1) = vs.map (·.1) := by
  unfold KV at r
  induction r with
  | nil => rfl
  | cons h t ih => rw [List.map_cons, List.map_cons, ih, h.1]
theorem KV.length {kvs : List (κ × V)} {vs : List (κ × Value)} (r : KV kvs vs) : kvs.length = vs.length := Paired.length r
theorem dropK_le (kvs : List (κ × V)) (k : κ) : (dropK kvs k).length ≤ kvs.length := List.length_filter_le _ _
end


theorem kV_is {P : Program} {w : World} {k : Key} {u : Value} (r : RelV (kV k) u) : (mixKind P w).is k u = true := by
  cases k with
  | inl i => obtain ⟨t, e⟩ := (show ∃ t, u = Value.int i t from r); subst e; exact mixKind_int P w i t
  | inr x => obtain ⟨t, e⟩ := (show ∃ t, u = Value.str x t from r); subst e; exact mixKind_str P w x t
theorem items_are {P : Program} {w : World} : ∀ {ks : List Key} {us : List Value}, Vals (ks.map kV) us → ItemsAre (mixKind P w) ks us
  | [], _, r => by rw [List.map_nil] at r; cases r; exact .nil
  | k :: ks, _, r => by
    rw [List.map_cons] at r
    cases r with
    | cons h t => exact .cons (kV_is h) (items_are t)

abbrev KT (H : Hp) : List (List Key × V) → List (List Key × Addr × Value) → Prop := Paired fun p q => p.1 = q.1 ∧ H q.2.1 = some (.tup (p.1.map kV)) ∧ RelV p.2 q.2.2
theorem KT.val {H : Hp} {kvs : List (List Key × V)} {xs : List (List Key × Addr × Value)} (r : KT H kvs xs) (k : List Key) : RelO (valV kvs k) ((atKey xs k).map (·.2)) := by
  induction r with
  | nil => exact True.intro
  | @cons p q ps qs h t ih =>
    obtain ⟨h1, _, h2⟩ := h
    by_cases e : p.1 = k
    · have e' : q.1 = k := h1.symm.trans e
      have b : atKey (q :: qs) k = some q.2 := by simp [atKey, List.find?_cons, e']
      rw [valV_pos e, b]; exact h2
    · have e' : ¬ q.1 = k := fun z => e (h1.trans z)
      have b : atKey (q :: qs) k = atKey qs k := by simp [atKey, List.find?_cons, e']
      rw [valV_neg e, b]; exact ih
theorem KT.repl {H : Hp} {kvs : List (List Key × V)} {xs : List (List Key × Addr × Value)} (r : KT H kvs xs) (k : List Key) {y : V} {u : Value} (ry : RelV y u) :
    KT H (kvs.map fun kv => if kv.1 = k then (kv.1, y) else kv) (xs.map (putAt k u)) := by
  induction r with
  | nil => exact .nil
  | @cons p q ps qs h t ih =>
    rw [List.map_cons, List.map_cons]
    refine .cons ?_ ih
    obtain ⟨h1, h2, h3⟩ := h
    unfold putAt
    by_cases e : p.1 = k
    · rw [if_pos e, if_pos (h1.symm.trans e)]; exact ⟨h1, h2, ry⟩
    · rw [if_neg e, if_neg (fun z => e (h1.trans z))]; exact ⟨h1, h2, h3⟩
theorem KT.put {H : Hp} {kvs : List (List Key × V)} {xs : List (List Key × Addr × Value)} (r : KT H kvs xs) (k : List Key) {b : Addr} {y : V} {u : Value} (hb : H b = some (.tup (k.map kV))) (ry : RelV y u) :
    KT H (putK kvs k y) (storedH xs k b u) := by
  have e : (kvs.any fun kv => decide (kv.1 = k)) = (atKey xs k).isSome := by
    rw [valV_any, (r.val k).isSome_eq, Option.isSome_map]
  unfold putK storedH
  rw [e]
  by_cases q : (atKey xs k).isSome = true
  · rw [if_pos q, if_pos q]; exact r.repl k ry
  · rw [if_neg q, if_neg q]; exact Paired.snoc r ⟨rfl, hb, ry⟩
theorem KT.keeps {H H' : Hp} {kvs : List (List Key × V)} {xs : List (List Key × Addr × Value)} (r : KT H kvs xs) (ht : ∀ b ys, H b = some (.tup ys) → H' b = some (.tup ys)) : KT H' kvs xs :=
  Paired.mapP r fun _ _ z => ⟨z.1, ht _ _ z.2.1, z.2.2⟩

section
variable {P : Program} {w : World} {H : Hp} {h : Heap} {a : Addr}
theorem rd_of {u : HO} (ok : HOk P w H h) (e : Rd H a u) : ObjOk P w H h a u := e.ok ok
theorem dk_rd {kvs : List (Key × V)} (ok : HOk P w H h) (e : Rd H a (.dK kvs)) : kvs.length ≤ sizeLine ∧ (a == sysModules) = false ∧ ∃ vs, KV kvs vs ∧ h.DictOf (mixKind P w) a vs :=
  show ObjOk P w H h a (.dK kvs) from rd_of ok e
theorem dk_of {kvs : List (Key × V)} (ok : HOk P w H h) (e : H a = some (.dK kvs)) : kvs.length ≤ sizeLine ∧ (a == sysModules) = false ∧ ∃ vs, KV kvs vs ∧ h.DictOf (mixKind P w) a vs := dk_rd ok (.inl e)
theorem key_of {ks : List Key} (ok : HOk P w H h) (e : H a = some (.tup (ks.map kV))) : (tupleKind (mixKind P w)).is h ks a := by
  obtain ⟨_, its, r, o, h1, h2, n, h3⟩ := (show ObjOk P w H h a (.tup (ks.map kV)) from ok a _ e)
  exact ⟨o, its.toArray, n, h1, h2, h3, by simpa using items_are r⟩
theorem dt_rd {kvs : List (List Key × V)} (ok : HOk P w H h) (e : Rd H a (.dT kvs)) : kvs.length ≤ sizeLine ∧ (a == sysModules) = false ∧
    ∃ xs, KT H kvs xs ∧ h.DictOfH (tupleKind (mixKind P w)) a xs := by
  obtain ⟨z, y, xs, r, o, es, ep, h1, h2, h3, h4, h5⟩ := (show ObjOk P w H h a (.dT kvs) from rd_of ok e)
  refine ⟨z, y, xs, r, o, es, ep, h1, h2, h3, h4, fun x hx => ?_, h5⟩
  have all : ∀ {l : List (List Key × V)} {m : List (List Key × Addr × Value)}, KT H l m → ∀ x ∈ m, (tupleKind (mixKind P w)).is h x.1 x.2.1 := by
    intro l m q
    induction q with
    | nil => intro x hx; exact nomatch hx
    | @cons p q ps qs hq t ih =>
      intro x hx
      rcases List.mem_cons.mp hx with e | hx
      · subst e
        exact key_of ok (by rw [← hq.1]; exact hq.2.1)
      · exact ih x hx
  exact all r x hx
theorem dt_of {kvs : List (List Key × V)} (ok : HOk P w H h) (e : H a = some (.dT kvs)) : kvs.length ≤ sizeLine ∧ (a == sysModules) = false ∧
    ∃ xs, KT H kvs xs ∧ h.DictOfH (tupleKind (mixKind P w)) a xs := dt_rd ok (.inl e)
end

def DGet (H : Hp) (a : Addr) (y : V) (r : Option V) : Prop :=
  (∃ kvs k, Rd H a (.dK kvs) ∧ y = kV k ∧ r = valV kvs k) ∨ ∃ kvs k b, Rd H a (.dT kvs) ∧ y = .ref b ∧ H b = some (.tup (k.map kV)) ∧ r = valV kvs k
def DPut (H : Hp) (a : Addr) (y v : V) (H' : Hp) : Prop :=
  (∃ kvs k, H a = some (.dK kvs) ∧ y = kV k ∧ kvs.length < sizeLine ∧ H' = upd H a (.dK (putK kvs k v))) ∨
  ∃ kvs k b, H a = some (.dT kvs) ∧ y = .ref b ∧ H b = some (.tup (k.map kV)) ∧ kvs.length < sizeLine ∧ H' = upd H a (.dT (putK kvs k v))
theorem DGet.k {H : Hp} {a : Addr} {kvs : List (Key × V)} {k : Key} (e : H a = some (.dK kvs)) : DGet H a (kV k) (valV kvs k) := .inl ⟨kvs, k, .inl e, rfl, rfl⟩
theorem DGet.t {H : Hp} {a b : Addr} {kvs : List (List Key × V)} {k : List Key} (e : H a = some (.dT kvs)) (eb : H b = some (.tup (k.map kV))) : DGet H a (.ref b) (valV kvs k) := .inr ⟨kvs, k, b, .inl e, rfl, eb, rfl⟩
theorem DPut.k {H : Hp} {a : Addr} {kvs : List (Key × V)} {k : Key} {v : V} (e : H a = some (.dK kvs)) (hl : kvs.length < sizeLine) : DPut H a (kV k) v (upd H a (.dK (putK kvs k v))) := .inl ⟨kvs, k, e, rfl, hl, rfl⟩
theorem DPut.t {H : Hp} {a b : Addr} {kvs : List (List Key × V)} {k : List Key} {v : V} (e : H a = some (.dT kvs)) (eb : H b = some (.tup (k.map kV))) (hl : kvs.length < sizeLine) :
    DPut H a (.ref b) v (upd H a (.dT (putK kvs k v))) := .inr ⟨kvs, k, b, e, rfl, eb, hl, rfl⟩


section
variable {X : Cx} {pins : List (Addr × Obj)} {σ : St} {H : Hp} {s : Shared} {a : Addr} {y v : V} {u r : Value} {o : Option V} {A : Around} {E : Value → Shared → Prop}

theorem Inv.big (I : Inv X pins σ H s) : sysModules < s.heap.objs.size := by
  have h : mainGlobals < s.heap.objs.size := (I.mod.glob.keeps I.bk).lt
  exact Nat.lt_trans (by decide) h

theorem d_getItem {Q : Value → Shared → Prop} (hu : A.units + 1 < cLine) (I : Inv X pins σ H s) (g : DGet H a y (some v)) (ry : RelV y u) (h : ∀ w' s', Inv X pins σ H s' → RelV v w' → Q w' s') :
    wpAny (model X.prog X.w) A (getItem (.ref a) u) Q E s := by
  rcases g with ⟨kvs, k, e, ey, l⟩ | ⟨kvs, k, b, e, ey, eb, l⟩
  · subst ey
    obtain ⟨z, hd, vs, rel, dd⟩ := dk_rd I.hok e
    obtain ⟨w', hw, rw'⟩ := RelO.some_of (v := v) (o := valueAt vs k) (by rw [l]; exact rel.val k)
    exact wpAny_getItem_of (kV_is ry) dd.mapOf hw (h w' _ (I.tok _) rw')
  · subst ey
    cases (show u = Value.ref b from ry)
    obtain ⟨z, hd, xs, rel, dd⟩ := dt_rd I.hok e
    obtain ⟨w', hw, rw'⟩ := RelO.some_of (v := v) (o := (atKey xs k).map (·.2)) (by rw [l]; exact rel.val k)
    obtain ⟨p, hp, hp2⟩ := Option.map_eq_some_iff.mp hw
    refine wpAny_getItem_heap (tupleKind_room_in1 hu) (key_of I.hok eb) dd hp ?_
    rw [hp2]
    exact h w' _ (I.tok _) rw'
theorem d_in {Q : Value → Shared → Prop} (hu : A.units + 1 < cLine) (I : Inv X pins σ H s) (g : DGet H a y o) (ry : RelV y u) (h : ∀ s', Inv X pins σ H s' → Q (.bool o.isSome) s') :
    wpAny (model X.prog X.w) A (compareOp .In u (.ref a)) Q E s := by
  rcases g with ⟨kvs, k, e, ey, l⟩ | ⟨kvs, k, b, e, ey, eb, l⟩
  · subst ey
    obtain ⟨z, hd, vs, rel, dd⟩ := dk_rd I.hok e
    refine wpAny_in_of (kV_is ry) hd dd.mapOf ?_
    rw [← (rel.val k).isSome_eq, ← l]
    exact h _ (I.tok _)
  · subst ey
    cases (show u = Value.ref b from ry)
    obtain ⟨z, hd, xs, rel, dd⟩ := dt_rd I.hok e
    refine wpAny_in_heap (tupleKind_room_in1 hu) (key_of I.hok eb) hd dd ?_
    have q := (rel.val k).isSome_eq
    rw [Option.isSome_map] at q
    rw [← q, ← l]
    exact h _ (I.tok _)
theorem d_notIn {Q : Value → Shared → Prop} (hu : A.units + 1 < cLine) (I : Inv X pins σ H s) (g : DGet H a y o) (ry : RelV y u) (h : ∀ s', Inv X pins σ H s' → Q (.bool (!o.isSome)) s') :
    wpAny (model X.prog X.w) A (compareOp .NotIn u (.ref a)) Q E s := by
  rcases g with ⟨kvs, k, e, ey, l⟩ | ⟨kvs, k, b, e, ey, eb, l⟩
  · subst ey
    obtain ⟨z, hd, vs, rel, dd⟩ := dk_rd I.hok e
    refine wpAny_notIn_of (kV_is ry) hd dd.mapOf ?_
    rw [← (rel.val k).isSome_eq, ← l]
    exact h _ (I.tok _)
  · subst ey
    cases (show u = Value.ref b from ry)
    obtain ⟨z, hd, xs, rel, dd⟩ := dt_rd I.hok e
    refine wpAny_notIn_heap (tupleKind_room_in1 hu) (key_of I.hok eb) hd dd ?_
    have q := (rel.val k).isSome_eq
    rw [Option.isSome_map] at q
    rw [← q, ← l]
    exact h _ (I.tok _)
theorem d_write {h' : Heap} {t' : Nat} {ob : HO} (I : Inv X pins σ H s) (mu : Mut (H a)) (hs : Heap.SameBut a s.heap h') (he : ∃ q, h'.get? a = some q) (new : ObjOk X.prog X.w (upd H a ob) h' a ob) :
    Inv X pins σ (upd H a ob) { s with heap := h', toks := t' } :=
  I.write (x := a) (e := a) mu (.inl rfl) (fun b q hb z => (hs.2 b hb).trans z) he new
theorem dk_new {P : Program} {w : World} {H' : Hp} {h' : Heap} {kvs : List (Key × V)} {vs : List (Key × Value)} (z : kvs.length ≤ sizeLine) (hd : (a == sysModules) = false) (rel : KV kvs vs) (dd : h'.DictOf (mixKind P w) a vs) :
    ObjOk P w H' h' a (.dK kvs) := ⟨z, hd, vs, rel, dd⟩
theorem d_setItem {H' : Hp} {Q : Unit → Shared → Prop} (hu : A.units + 1 < cLine) (I : Inv X pins σ H s) (g : DPut H a y v H') (ry : RelV y u) (rv : RelV v r) (h : ∀ s', Inv X pins σ H' s' → Q () s') :
    wpAny (model X.prog X.w) A (setItem (.ref a) u r) Q E s := by
  rcases g with ⟨kvs, k, e, ey, l, eH⟩ | ⟨kvs, k, b, e, ey, eb, l, eH⟩
  · subst ey eH
    obtain ⟨z, hd, vs, rel, dd⟩ := dk_of I.hok e
    have hz : vs.length ≤ sizeLine := by rw [← rel.length]; exact z
    have hl : (putK kvs k v).length ≤ sizeLine := by have := length_putK kvs k v; omega
    refine wpAny_setItem_pairs (hsz := hz) (kV_is ry) dd fun h' dd' hs => h _ ?_
    have he : ∃ q, h'.get? a = some q := let ⟨q, _, _, hq, _⟩ := dd'; ⟨q, hq⟩
    exact d_write I (by rw [e]; exact True.intro) hs he (dk_new hl hd (rel.put k rv) dd')
  · subst ey eH
    cases (show u = Value.ref b from ry)
    obtain ⟨z, hd, xs, rel, dd⟩ := dt_of I.hok e
    have hz : xs.length ≤ sizeLine := by rw [← Paired.length rel]; exact z
    have hl : (putK kvs k v).length ≤ sizeLine := by have := length_putK kvs k v; omega
    refine wpAny_setItem_heap (hsz := hz) (tupleKind_room_in1 hu) (key_of I.hok eb) dd fun h' dd' hs => h _ ?_
    obtain ⟨q, es, ep, hq, h2, h3, h4, _, h5⟩ := dd'
    refine d_write I (by rw [e]; exact True.intro) hs ⟨q, hq⟩ ⟨hl, hd, _, (rel.put k eb rv).keeps fun c ys ec => ?_, q, es, ep, hq, h2, h3, h4, h5⟩
    rw [upd_ne (ne_of ec e (fun z => nomatch z))]
    exact ec
end

section
variable {X : Cx} {pins : List (Addr × Obj)} {σ : St} {H : Hp} {s : Shared} {a : Addr} {kvs : List (Key × V)} {k : Key} {u : Value} {A : Around} {E : Value → Shared → Prop}
theorem d_pop {v : V} {more : List Value} {Q : Value → Shared → Prop} (I : Inv X pins σ H s) (e : H a = some (.dK kvs)) (ry : RelV (kV k) u) (l : valV kvs k = some v) (hm : more = [] ∨ ∃ x, more = [x])
    (h : ∀ w' s', Inv X pins σ (upd H a (.dK (dropK kvs k))) s' → RelV v w' → Q w' s') : wpAny (model X.prog X.w) A (call (.builtin "dict.pop") (.ref a :: u :: more)) Q E s := by
  obtain ⟨z, hd, vs, rel, dd⟩ := dk_of I.hok e
  obtain ⟨w', hw, rw'⟩ := RelO.some_of (v := v) (o := valueAt vs k) (by rw [← l]; exact rel.val k)
  have hp : (keyPart u).isSome = true := by
    cases k with
    | inl i => obtain ⟨t, q⟩ := (show ∃ t, u = Value.int i t from ry); subst q; rfl
    | inr x => obtain ⟨t, q⟩ := (show ∃ t, u = Value.str x t from ry); subst q; rfl
  have ha : argsOk "dict.pop" ⟨.ref a :: u :: more, []⟩ := by
    rcases hm with q | ⟨x, q⟩
    · subst q; exact PySem.F.args_dict_pop_2 _ _
    · subst q; exact PySem.F.args_dict_pop_3 _ _ _
  refine call_meetsIn PySem.F.slot_dict_pop dd.typeIs PySem.F.entry_dict_pop ha (meets_dict_pop_there (mixKind X.prog X.w) a (kV_is ry) more hm hp)
    ⟨vs, w', dd, by rw [← rel.length]; exact z, hw, fun h' dd' hs => h w' _ ?_ rw'⟩
  have he : ∃ q, h'.get? a = some q := let ⟨q, _, _, hq, _⟩ := dd'; ⟨q, hq⟩
  exact d_write I (by rw [e]; exact True.intro) hs he (dk_new (Nat.le_trans (dropK_le kvs k) z) hd (rel.drop k) dd')
theorem d_len {Q : Value → Shared → Prop} (I : Inv X pins σ H s) (e : Rd H a (.dK kvs)) (h : ∀ t s', Inv X pins σ H s' → Q (.int kvs.length t) s') : wpAny (model X.prog X.w) A (call (.builtin "len") [.ref a]) Q E s := by
  obtain ⟨z, hd, vs, rel, dd⟩ := dk_rd I.hok e
  refine call_len_dict hd dd (by rw [← rel.length]; rw [sizeLine_eq] at z; omega) ?_
  rw [← rel.length]
  exact h _ _ (I.tok _)
end


def NoSl (i : Expr) : Prop := ∀ ov iv, subscripted i false ov iv = operate [ov, iv] (getItem ov iv)
theorem subD_of {prog : Program} {w : World} {A : Around} {E : Value → Shared → Prop} {s : Shared} {env : Env} {value slice : Expr} {pos : Pos} {T id : String} {Q : Value → Shared → Prop}
    (hl : typeLookup (.type T) "__getitem__" = pure (some (.builtin id))) (hs : NoSl slice)
    (h : wpAny (model prog w) A (eval value env) (fun o s₁ => wpAny (model prog w) A (eval slice env) (fun i s₂ => s₂.TypeIs o T ∧ wpAny (model prog w) A (getItem o i) Q E s₂) E s₁) E s) :
    wpAny (model prog w) A (eval (.Subscript value slice pos) env) Q E s := by
  refine Subscript_ (wpAny_mono h (fun o s₁ h₁ => wpAny_mono h₁ (fun i s₂ h₂ => ?_) fun _ _ x => x) fun _ _ x => x)
  obtain ⟨hT, h₂⟩ := h₂
  unfold subscriptTail
  refine wpAny_bind ?_
  rw [getitemInPython_of_ne hT.not_modules]
  refine wpAny_bind (wpAny_specialOf hT hl ?_)
  have fin : wpAny (model prog w) A (subscripted slice false o i) (fun r s₃ => wpAny (model prog w) A (letTemporaryGo value o r >>= fun _ => pure r) Q E s₃) E s₂ := by
    rw [hs o i]
    exact wpAny_operating (wpAny_mono h₂ (fun r s₃ h₃ => wpAny_bind (wpAny_letTemporaryGo (wpAny_pure h₃))) fun _ _ x => x)
  first
    | exact wpAny_pure (wpAny_bind fin)
    | exact wpAny_bind (wpAny_pure (wpAny_bind fin))
    | exact wpAny_bind fin

theorem dict_typeIs {X : Cx} {pins : List (Addr × Obj)} {σ : St} {H : Hp} {s : Shared} {a : Addr} {y : V} {o : Option V} (I : Inv X pins σ H s) (g : DGet H a y o) : s.TypeIs (.ref a) "dict" := by
  rcases g with ⟨kvs, k, e, _, _⟩ | ⟨kvs, k, b, e, _, _, _⟩
  · obtain ⟨_, _, vs, _, dd⟩ := dk_rd I.hok e
    exact dd.typeIs
  · obtain ⟨_, _, xs, _, dd⟩ := dt_rd I.hok e
    exact dd.typeIs
def tDGet (td ty : TE) : TE := fun σ H Q => td σ H fun x H1 => ty σ H1 fun y H2 => ∃ a v, x = .ref a ∧ DGet H2 a y (some v) ∧ Q v H2
def tDIn (ty td : TE) : TE := fun σ H Q => ty σ H fun y H1 => td σ H1 fun x H2 => ∃ a o, x = .ref a ∧ DGet H2 a y o ∧ Q (.bl o.isSome) H2
def tDNotIn (ty td : TE) : TE := fun σ H Q => ty σ H fun y H1 => td σ H1 fun x H2 => ∃ a o, x = .ref a ∧ DGet H2 a y o ∧ Q (.bl (!o.isSome)) H2
def sDPut (td ty tv : TE) : TS := fun D σ H => tv σ H fun v H1 => td σ H1 fun x H2 => ty σ H2 fun y H3 => ∃ a H4, x = .ref a ∧ DPut H3 a y v H4 ∧ D.nx σ H4
section
variable {X : Cx} {o i e value : Expr} {pos pos' tpos : Pos} {td ty tv : TE}
theorem pe_dget (hu : X.A.units + 1 < cLine) (ho : PE X o td) (hi : PE X i ty) (hs : NoSl i) : PE X (.Subscript o i pos) (tDGet td ty) := by
  intro pins s σ H Q I h
  refine subD_of PySem.F.slot_dict_getitem.lookup hs (thn (ho pins s σ H _ I h) fun u s1 ⟨x, H1, I1, rx, q1⟩ => thn (hi pins s1 σ H1 _ I1 q1) fun iv s2 ⟨y, H2, I2, ry, a, v, ex, g, q2⟩ => ?_)
  subst ex
  obtain rfl : u = Value.ref a := rx
  exact ⟨dict_typeIs I2 g, d_getItem hu I2 g ry fun w' s3 I3 rw' => ⟨v, H2, I3, rw', q2⟩⟩
theorem pc_din (hu : X.A.units + 1 < cLine) (hi : PE X i ty) (ho : PE X o td) : PC X .In i o (tDIn ty td) := by
  intro pins s σ H Q I h
  refine thn (hi pins s σ H _ I h) fun iv s1 ⟨y, H1, I1, ry, q1⟩ => thn (ho pins s1 σ H1 _ I1 q1) fun u s2 ⟨x, H2, I2, rx, a, ov, ex, g, q2⟩ => ?_
  subst ex
  obtain rfl : u = Value.ref a := rx
  exact d_in hu I2 g ry fun s3 I3 => ⟨.bl ov.isSome, H2, I3, rfl, q2⟩
theorem pc_dnotin (hu : X.A.units + 1 < cLine) (hi : PE X i ty) (ho : PE X o td) : PC X .NotIn i o (tDNotIn ty td) := by
  intro pins s σ H Q I h
  refine thn (hi pins s σ H _ I h) fun iv s1 ⟨y, H1, I1, ry, q1⟩ => thn (ho pins s1 σ H1 _ I1 q1) fun u s2 ⟨x, H2, I2, rx, a, ov, ex, g, q2⟩ => ?_
  subst ex
  obtain rfl : u = Value.ref a := rx
  exact d_notIn hu I2 g ry fun s3 I3 => ⟨.bl (!ov.isSome), H2, I3, rfl, q2⟩
theorem ps_dput (hu : X.A.units + 1 < cLine) (ho : PE X o td) (hi : PE X i ty) (hv : PE X value tv) (hs : swapsWith value (some (.Subscript o i pos')) pos.line X.env = pure false) :
    PS X (.Assign [.Subscript o i pos'] value pos) (sDPut td ty tv) := by
  intro pins s σ H D I h
  refine wpAny_Assign_Subscript (thn (hv pins s σ H _ I h) fun r s1 ⟨v, H1, I1, rv, q1⟩ => thn (ho pins s1 σ H1 _ I1 q1) fun u s2 ⟨x, H2, I2, rx, q2⟩ => thn (hi pins s2 σ H2 _ I2 q2) fun iv s3 ⟨y, H3, I3, ry, a, H4, ex, g, q3⟩ => ?_) hs
  subst ex
  obtain rfl : u = Value.ref a := rx
  exact d_setItem hu I3 g ry rv fun s4 I4 => ⟨σ, H4, I4, q3⟩
end


theorem dk_empty {P : Program} {w : World} {H : Hp} (h : Heap) (hb : sysModules < h.objs.size) : ObjOk P w H (h.push { cls := .type "dict", data := .dict #[] }) h.objs.size (.dK []) :=
  ⟨Nat.zero_le _, beq_eq_false_iff_ne.mpr (Ne.symm (Nat.ne_of_lt hb)), [], .nil, Heap.DictOf.new h⟩
def tDNewK : TE := fun _ H Q => ∀ p, H p = none → Q (.ref p) (upd H p (.dK []))
section
variable {X : Cx} {pos : Pos}
theorem pe_dnewK : PE X (.Dict [] [] pos) tDNewK := fun pins s σ H Q I h =>
  wpAny_Dict_empty ⟨.ref s.heap.objs.size, _, I.laid (a := s.heap.objs.size) (o := .dK []) (t' := s.toks) (fun _ _ q => Heap.get?_push_of_some _ q) (Nat.le_refl _) (dk_empty s.heap I.big), rfl, h _ (I.hok.fresh (Nat.le_refl _))⟩
end

def mergeK (kvs more : List (Key × V)) : List (Key × V) := more.foldl (fun acc kv => putK acc kv.1 kv.2) kvs
theorem KV.merge : ∀ {more : List (Key × V)} {rs : List (Key × Value)} {kvs : List (Key × V)} {vs : List (Key × Value)}, KV more rs → KV kvs vs → KV (mergeK kvs more) (merged vs rs) := by
  intro more rs kvs vs r
  unfold KV at r
  induction r generalizing kvs vs with
  | nil => intro q; exact q
  | @cons p q ps qs h t ih =>
    intro r0
    have e : KV (putK kvs p.1 p.2) (stored vs q.1 q.2) := by
      have := r0.put p.1 h.2
      rw [← h.1]; exact this
    exact ih e
theorem length_mergeK : ∀ (more kvs : List (Key × V)), (mergeK kvs more).length ≤ kvs.length + more.length
  | [], kvs => by show kvs.length ≤ kvs.length + 0; omega
  | p :: r, kvs => by
    have h1 := length_mergeK r (putK kvs p.1 p.2)
    have h2 := length_putK kvs p.1 p.2
    show (mergeK (putK kvs p.1 p.2) r).length ≤ _
    rw [List.length_cons]; omega
structure M1 (X : Cx) (o : Expr) (m : Str) (apos : Pos) (e : Expr) (cpos : Pos) : Prop where
  base : attributeBase o m X.env (eval o X.env) = eval o X.env
  few : ((backTo cpos (starEach [e] X.env)).all (fun x => !x.1) && (backToKw cpos (keywordEach [] X.env)).all (fun x => x.1.isSome)
    && decide (([e] : List Expr).length + ([] : List Keyword).length + (if ([] : List Keyword).isEmpty then 0 else 1) < 30)) = true
  line : (apos.endLine == cpos.line) = true
  trees : backTo cpos (starEach [e] X.env) = [(false, eval e X.env)]
def IsD (H : Hp) (a : Addr) : Prop := (∃ kvs, Rd H a (.dK kvs)) ∨ ∃ kvs, Rd H a (.dT kvs)
theorem isD_at {X : Cx} {pins : List (Addr × Obj)} {σ : St} {H : Hp} {s : Shared} {a : Addr} (I : Inv X pins σ H s) (d : IsD H a) :
    s.TypeIs (.ref a) "dict" ∧ (∀ b, Value.ref a = .ref b → ∃ ob, s.heap.get? b = some ob ∧ ob.dict = none) ∧ (a == sysModules) = false := by
  rcases d with ⟨kvs, e⟩ | ⟨kvs, e⟩
  · obtain ⟨_, hd, vs, _, dd⟩ := dk_rd I.hok e
    refine ⟨dd.typeIs, fun b q => ?_, hd⟩
    cases q
    obtain ⟨ob, _, _, h1, h2, _⟩ := dd
    exact ⟨ob, h1, h2.2.1⟩
  · obtain ⟨_, hd, xs, _, dd⟩ := dt_rd I.hok e
    refine ⟨dd.typeIs, fun b q => ?_, hd⟩
    cases q
    obtain ⟨ob, _, _, h1, h2, _⟩ := dd
    exact ⟨ob, h1, h2.2.1⟩

section
variable {X : Cx} {pins : List (Addr × Obj)} {σ : St} {H : Hp} {s : Shared} {a : Addr} {y d : V} {u r : Value} {o : Option V} {A : Around} {E : Value → Shared → Prop}
end

def tDPop1 (td ty : TE) : TE := fun σ H Q => td σ H fun x H1 => ∃ a, x = .ref a ∧ IsD H1 a ∧ ty σ H1 fun y H2 => ∃ kvs k v, H2 a = some (.dK kvs) ∧ y = kV k ∧ valV kvs k = some v ∧ Q v (upd H2 a (.dK (dropK kvs k)))
section
variable {X : Cx} {o e f : Expr} {apos cpos : Pos} {td ty tx : TE}
theorem pe_dpop1 (ho : PE X o td) (he : PE X e ty) (m : M1 X o "pop" apos e cpos) : PE X (.Call (.Attribute o "pop" apos) [e] [] cpos) (tDPop1 td ty) := by
  intro pins s σ H Q I h
  refine wpAny_Call_method m.base m.few m.line PySem.F.plainAttrs_dict PySem.F.slot_dict_pop PySem.F.type_dict_pop (thn (ho pins s σ H _ I h) fun u s1 ⟨x, H1, I1, rx, a, ex, d, q1⟩ => ?_)
  subst ex
  obtain rfl : u = Value.ref a := rx
  obtain ⟨t1, t2, _⟩ := isD_at I1 d
  refine ⟨t1, t2, ?_⟩
  rw [m.trees]
  refine Calls.callWith_builtin rfl (Calls.evalArgs_plain (Calls.spliced_cons (thn (he pins s1 σ H1 _ I1 q1) fun iv s2 ⟨y, H2, I2, ry, kvs, k, v, ea, ey, l, q2⟩ => Calls.spliced_nil ?_)))
  subst ey
  exact d_pop I2 ea ry l (.inl rfl) fun w' s3 I3 rw' => ⟨v, _, I3, rw', q2⟩
end

section
variable {X : Cx} {pins : List (Addr × Obj)} {σ : St} {H : Hp} {s : Shared} {a : Addr} {kvs : List (Key × V)} {A : Around} {E : Value → Shared → Prop}
theorem d_copyOf {Q : Value → Shared → Prop} (I : Inv X pins σ H s) (e : Rd H a (.dK kvs)) (h : ∀ p s', H p = none → Inv X pins σ (upd H p (.dK kvs)) s' → Q (.ref p) s') : wpAny (model X.prog X.w) A (call (.type "dict") [.ref a]) Q E s := by
  obtain ⟨z, hd, vs, rel, dd⟩ := dk_rd I.hok e
  refine kt_call_dict hd dd (by rw [← rel.length]; exact z) fun h' dd' hs => ?_
  refine h _ _ (I.hok.fresh (Nat.le_refl _)) (I.laid (a := s.heap.objs.size) (o := .dK kvs) (t' := s.toks) (fun b q hq => ?_) (Nat.le_refl _) (dk_new z (beq_eq_false_iff_ne.mpr (Ne.symm (Nat.ne_of_lt I.big))) rel dd'))
  exact (hs.2 b (Nat.ne_of_lt (Heap.lt_size hq))).trans (Heap.get?_push_of_some _ hq)
end


section
variable {X : Cx} {pins : List (Addr × Obj)} {σ : St} {H : Hp} {s : Shared} {a : Addr} {y : V} {u : Value} {A : Around} {E : Value → Shared → Prop}
end
end L2

namespace L2
open PySem PySem.Spec PyProof.Rows

theorem list_keys_none : typeLookup (.type "list") "keys" = pure none := am_miss_of_fast (by first | decide +kernel | rfl)
theorem ud_entry : entryFor table "dict.update.loop" = some Builtin.«dict.update.loop» := entryFor_of_tree (by kernel_rfl)
theorem ud_plain : plainId "dict.update.loop" = true := by decide +kernel

section
variable {prog : Program} {w : World} {A : Around} {E : Value → Shared → Prop}
theorem miss_list {s : Shared} {a : Addr} {o : Obj} {xs : Array Value} {k : Nat} {Q : Option Value → Shared → Prop} (hx : s.heap.get? a = some o) (hc : o.cls = .type "list") (hdat : o.data = .seq xs k) (hd : o.dict = none) (hA : A.handled = none)
    (h : ∀ h' tk, (∀ b ob, s.heap.get? b = some ob → h'.get? b = some ob) → Q none { s with heap := h', toks := tk }) : wpAny (model prog w) A (getAttr? (.ref a) "keys") Q E s := by
  obtain ⟨c, dct, dat, sl⟩ := o
  simp only at hc hdat hd
  subst hc hdat hd
  obtain ⟨hp, g, d, tk, os⟩ := s
  have hT : ∀ tk', (⟨hp, g, d, tk', os⟩ : Shared).TypeIs (.ref a) "list" := fun _ => ⟨_, hx, rfl⟩
  have hmiss := list_keys_none
  have hname : (["__module__", "__name__", "__qualname__", "__doc__", "__annotations__"] : List Str).contains "keys" = false := by decide +kernel
  have hsz : ("keys" : Str).length + 100 ≤ sizeLine := by first | size_fits | decide +kernel
  have f1 := sub_AttributeError
  have f3 := PySem.F.slot_list_getattribute.lookup
  have f4 := PySem.F.slot_list_getattribute.bind (.ref a)
  have f5 := am_list_getattr_none
  unfold getAttr? getAttrBy? getAttrBy
  repeat (any_goals (first | assumption | exact hT _ | ((with_reducible show wpAny _ _ (call (Value.builtin "list.__getattribute__") _ _) _ _ _); refine call_meets PySem.F.slot_list_getattribute (hT _) am_entry_list_getattribute (PySem.F.args_list_getattribute_2 _ _) (meets_getattribute_miss_list a xs k sl "keys" _ hmiss hname hsz) ⟨hx, hA, fun h' tk' e hx' => ?_⟩) | wp_step))
  obtain ⟨t', u', he⟩ := hx'.there
  show wpAny _ _ (getattributeRaised _ _ _ _ _ _ _) _ _ _
  unfold getattributeRaised
  repeat (any_goals (first | assumption | wp_step))
  all_goals first | exact h _ _ hx'.keeps | (dsimp only; repeat (any_goals (first | assumption | exact h _ _ hx'.keeps | wp_step)))

theorem upd_loop {R : Result → Shared → Prop} {S I l : Addr} {items : Array Value} {res : Value} (hh : A.handled = none) (hlI : l ≠ I) (hSI : S ≠ I) (hSl : S ≠ l) :
    ∀ (rest : List (Key × Value)) (i : Nat) (acc : List (Key × Value)) (ix : Int) (t : Tok) (s : Shared), items.size = i + rest.length → acc.length + rest.length ≤ sizeLine →
      (∀ (j : Nat) (q : Key × Value), rest[j]? = some q → ∃ (b : Addr) (u : Value), items[i + j]? = some (.ref b) ∧ b ≠ S ∧ b ≠ I ∧ IsTup s.heap b #[u, q.2] ∧ keyIs q.1 u = true) →
      s.heap.IsListIter I l i → s.heap.IsList l items → s.heap.DictOf (mixKind prog w) S acc →
      (∀ h' tk, h'.DictOf (mixKind prog w) S (merged acc rest) → (∀ b o, b ≠ S → b ≠ I → s.heap.get? b = some o → h'.get? b = some o) → R (.ok (.ret res)) { s with heap := h', toks := tk }) →
      codeAny (model prog w) A (.builtin "dict.update.loop" ⟨[.ref S, .ref I, .int ix t, res], []⟩) R s
  | [], i, acc, ix, t, s, hsz, hln, ht, hit, hl, hm, hR => by
    refine codeAny_builtin ud_entry ?_
    rw [Around.under_plainId ud_plain _]
    show wpAny _ A.in1 (pyNext (.ref I) >>= _) _ _ s
    refine wpAny_bind (wpAny_pyNext_list_end (A := A.in1) hh hit hl (by first | exact Array.getElem?_eq_none (Nat.le_of_eq hsz) | (simp at hsz; simp; omega)) fun h' he => ?_)
    show wpAny _ A.in1 (Builtin.Dict.addKeywords S [] >>= _) _ _ _
    refine wpAny_bind (wpAny_pure (wpAny_pure ?_))
    exact hR h' s.toks (hm.extBut he hSI) fun b o _ hb e => he b o hb e
  | q :: rest, i, acc, ix, t, s, hsz, hln, ht, hit, hl, hm, hR => by
    obtain ⟨b, u, hb, hbS, hbI, htup, hk⟩ := ht 0 q rfl
    rw [List.length_cons] at hsz hln
    refine codeAny_builtin ud_entry ?_
    rw [Around.under_plainId ud_plain _]
    show wpAny _ A.in1 (pyNext (.ref I) >>= _) _ _ s
    refine wpAny_bind (wpAny_pyNext_list_item (x := .ref b) hit hl (by simpa using hb) fun h1 hit1 hs1 => ?_)
    have ht1 : IsTup h1 b #[u, q.2] := htup.extBut hs1.extBut hbI
    have hl1 : h1.IsList l items := hl.extBut hs1.extBut hlI
    have hm1 : h1.DictOf (mixKind prog w) S acc := hm.extBut hs1.extBut hSI
    obtain ⟨o, ho, hc, n, hd⟩ := id ht1
    show wpAny _ A.in1 (holding [Value.ref b] _ >>= _) _ _ _
    refine wpAny_bind (wpAny_holding ?_)
    refine wpAny_bind (wpAny_tryCatch ?_)
    unfold Builtin.Dict.pairItems
    refine wpAny_bind (wpAny_typeOf (T := "tuple") ⟨o, ho, hc⟩ ?_)
    rw [if_pos (by first | decide | rfl | simp)]
    refine wpAny_bind (wpAny_seqItems ho hd (wpAny_pure ?_))
    show wpAny _ A.in1 (holding [u, q.2] (dictSet S u q.2)) _ _ _
    refine wpAny_holding (wpAny_dictSet_pairs (knd := mixKind prog w) (k := q.1) hk hm1 (fun h2 hm2 hs2 => ?_) (by omega))
    refine wpAny_pure ⟨plainId_quiet ud_plain _, upd_loop (items := items) hh hlI hSI hSl rest (i + 1) (stored acc q.1 q.2) (ix + 1) 0 _ (show items.size = i + 1 + rest.length by omega) ?_ (fun j q' e => ?_) ?_ ?_ hm2 fun h' tk hd' k => ?_⟩
    · have z := stored_length_le acc q.1 q.2
      omega
    · obtain ⟨b', u', hb', hbS', hbI', htup', hk'⟩ := ht (j + 1) q' (by simpa using e)
      refine ⟨b', u', ?_, hbS', hbI', (htup'.extBut hs1.extBut hbI').extBut hs2.extBut hbS', hk'⟩
      rw [show i + 1 + j = i + (j + 1) by omega]
      exact hb'
    · exact hit1.at fun o' e => hs2.extBut I o' (Ne.symm hSI) e
    · exact hl1.extBut hs2.extBut (Ne.symm hSl)
    · exact hR h' tk hd' fun c oc h3 h4 e => k c oc h3 h4 (hs2.extBut c oc h3 (hs1.extBut c oc h4 e))

theorem call_dict_pairs {s : Shared} {l : Addr} {ol : Obj} {items : Array Value} {n : Nat} {prs : List (Key × Value)} {Q : Value → Shared → Prop} (hh : A.handled = none) (hl : s.heap.get? l = some ol) (hc : ol.cls = .type "list") (hd : ol.dict = none)
    (hdat : ol.data = .seq items n) (hsz : items.size = prs.length) (hln : prs.length ≤ sizeLine)
    (ht : ∀ (j : Nat) (q : Key × Value), prs[j]? = some q → ∃ (b : Addr) (u : Value), items[j]? = some (.ref b) ∧ IsTup s.heap b #[u, q.2] ∧ keyIs q.1 u = true)
    (h : ∀ h' tk, h'.DictOf (mixKind prog w) s.heap.objs.size (merged [] prs) → (∀ b o, s.heap.get? b = some o → h'.get? b = some o) → Q (.ref s.heap.objs.size) { s with heap := h', toks := tk }) :
    wpAny (model prog w) A (call (.type "dict") [.ref l]) Q E s := by
  refine callType_codes (Q₁ := fun obj s₁ => obj = .ref s.heap.objs.size ∧ s₁ = { s with heap := s.heap.push { cls := .type "dict", data := .dict #[] } }) PySem.F.kt_called_dict (PySem.F.kt_typeCall_dict_1 _) PySem.F.entry_dict_init (kt_code_dict_new _ ⟨rfl, rfl⟩) ?_
  rintro obj s₁ ⟨rfl, rfl⟩
  have hnew : (s.heap.push { cls := .type "dict", data := .dict #[] }).DictOf (mixKind prog w) s.heap.objs.size [] := Heap.DictOf.new s.heap
  have k0 : ∀ b o, s.heap.get? b = some o → (s.heap.push { cls := .type "dict", data := .dict #[] }).get? b = some o := fun b o e => Heap.get?_push_of_some _ e
  refine ⟨hnew.typeIs, PySem.F.args_dict_init_2 _ _, ?_⟩
  unfold Builtin.«dict.__init__»
  refine wpAny_bind ?_
  unfold Builtin.Dict.selfAndRest
  refine wpAny_bind (wpAny_notOrdered_dict hnew.typeIs ?_)
  show wpAny _ _ (pure (s.heap.objs.size, [Value.ref l])) _ _ _
  refine wpAny_pure ?_
  show wpAny _ _ (Builtin.Dict.updateFrom "dict.__init__" s.heap.objs.size (.ref l) [] .none) _ _ _
  unfold Builtin.Dict.updateFrom
  refine wpAny_bind (wpAny_typeOf (T := "list") ⟨ol, k0 _ _ hl, hc⟩ ?_)
  rw [if_pos (by first | decide | rfl | simp)]
  refine wpAny_bind (miss_list (k0 _ _ hl) hc hdat hd hh fun h1 tk1 hk1 => ?_)
  rw [if_pos (show (none : Option Value).isNone = true from rfl)]
  refine wpAny_bind (wpAny_rule ?_)
  have hl1 : h1.IsList l items := ⟨ol, hk1 _ _ (k0 _ _ hl), hc, n, hdat⟩
  have hS1 : s.heap.objs.size < h1.objs.size := by
    have e : (s.heap.push { cls := .type "dict", data := .dict #[] }).get? s.heap.objs.size = some { cls := .type "dict", data := .dict #[] } := Heap.get?_push_size _ rfl
    exact Heap.lt_size (hk1 _ _ e)
  refine wpAny_bind (wpAny_pyIter_list hl1 ?_)
  have k2 : ∀ b o, h1.get? b = some o → (h1.push { cls := .type "list_iterator", data := .fields #[.ref l, .int 0 0] }).get? b = some o := fun b o e => Heap.get?_push_of_some _ e
  have hlt : l < s.heap.objs.size := Heap.lt_size hl
  have key := upd_loop (prog := prog) (w := w) (A := A.in1) (R := wants (fun r s₂ => r = .none ∧ Q (.ref s.heap.objs.size) s₂) E) (S := s.heap.objs.size) (I := h1.objs.size) (l := l) (items := items) (res := Value.none) hh
    (Nat.ne_of_lt (Nat.lt_trans hlt hS1)) (Nat.ne_of_lt hS1) (Nat.ne_of_gt hlt) prs 0 [] 0 0
    { s with heap := h1.push { cls := .type "list_iterator", data := .fields #[.ref l, .int 0 0] }, toks := tk1 } (by rw [hsz, Nat.zero_add]) (by rw [List.length_nil, Nat.zero_add]; exact hln)
    (fun j q e => by
      obtain ⟨b, u, e1, e2, e3⟩ := ht j q e
      have hb : b < s.heap.objs.size := e2.lt
      exact ⟨b, u, by rw [Nat.zero_add]; exact e1, Nat.ne_of_lt hb, Nat.ne_of_lt (Nat.lt_trans hb hS1), e2.keeps fun c o z => k2 _ _ (hk1 _ _ (k0 _ _ z)), e3⟩)
    ⟨_, Heap.get?_push_size _ rfl, rfl, rfl⟩ (hl1.at fun o e => k2 _ _ e) ((hnew.at fun o e => hk1 _ _ e).at fun o e => k2 _ _ e)
    (fun h' tk hd' k => ⟨rfl, h h' tk hd' fun b o e => k b o (Nat.ne_of_lt (Heap.lt_size e)) (Nat.ne_of_lt (Nat.lt_trans (Heap.lt_size e) hS1)) (k2 _ _ (hk1 _ _ (k0 _ _ e)))⟩)
  first
    | exact wpAny_pure ⟨plainId_quiet ud_plain _, key⟩
    | exact wpAny_bind (wpAny_pure (wpAny_pure ⟨plainId_quiet ud_plain _, key⟩))
end

section
variable {X : Cx}
theorem pairs_of {pins : List (Addr × Obj)} {σ : St} {H : Hp} {s : Shared} (I : Inv X pins σ H s) : ∀ {ps : List Addr} {kvs : List (Key × V)}, Paired (fun p kv => SqT X.K H p [kV kv.1, kv.2]) ps kvs →
    ∃ prs : List (Key × Value), KV kvs prs ∧ prs.length = ps.length ∧ ∀ (j : Nat) (q : Key × Value), prs[j]? = some q → ∃ (b : Addr) (u : Value), ps[j]? = some b ∧ IsTup s.heap b #[u, q.2] ∧ keyIs q.1 u = true
  | _, _, .nil => ⟨[], .nil, rfl, fun j q e => by simp at e⟩
  | _, _, .cons (a := p) (b := kv) h t => by
    obtain ⟨prs, r, hl, hp⟩ := pairs_of I t
    obtain ⟨its, rv, ht, _⟩ := I.tuple h
    obtain ⟨u, y, ei, ru, ry⟩ := vals2 rv
    subst ei
    refine ⟨(kv.1, y) :: prs, .cons ⟨rfl, ry⟩ r, by rw [List.length_cons, List.length_cons, hl], fun j q e => ?_⟩
    cases j with
    | zero =>
      have e' : (kv.1, y) = q := Option.some.inj e
      subst e'
      exact ⟨p, u, rfl, ht, kV_is (P := X.prog) (w := X.w) ru⟩
    | succ j =>
      obtain ⟨b, u', e1, e2, e3⟩ := hp j q (by simpa using e)
      exact ⟨b, u', by simpa using e1, e2, e3⟩
theorem refs_at : ∀ {ps : List Addr} {us : List Value}, Vals (ps.map V.ref) us → us = ps.map Value.ref
  | [], us, r => by
    rw [List.map_nil] at r
    cases r
    rfl
  | p :: ps, us, r => by
    rw [List.map_cons] at r
    cases r with
    | cons h t =>
      cases h
      rw [List.map_cons, ← refs_at t]
theorem call_dictP (hcalm : X.calm = true) : CallR X (.type "dict") (fun xs H Q => ∃ (a : Addr) (ps : List Addr) (kvs : List (Key × V)), xs = [.ref a] ∧ SqL X.K H a (ps.map V.ref) ∧ Paired (fun p kv => SqT X.K H p [kV kv.1, kv.2]) ps kvs ∧
    ∀ p, H p = none → Q (.ref p) (upd H p (.dK (mergeK [] kvs)))) := by
  intro pins s σ H xs us Q I r q
  obtain ⟨a, ps, kvs, ex, hq, hp, q⟩ := q
  subst ex
  obtain ⟨u, eu, rx⟩ := vals1 r
  subst eu
  cases rx
  obtain ⟨its, rv, pl, hz⟩ := I.list hq
  have ei := refs_at rv
  subst ei
  rw [List.length_map] at hz
  obtain ⟨prs, rel, hl, hpr⟩ := pairs_of I hp
  obtain ⟨o, n, ho, hc, hd, hdat⟩ := pl
  refine call_dict_pairs (prs := prs) (I.ok.hd hcalm) ho hc hd hdat (by simp [hl]) (by rw [hl]; exact hz) (fun j q' e => ?_) fun h' tk hd' k => ?_
  · obtain ⟨b, u, e1, e2, e3⟩ := hpr j q' e
    exact ⟨b, u, by simp [e1], e2, e3⟩
  · have hm : (s.heap.objs.size == sysModules) = false := beq_eq_false_iff_ne.mpr (Nat.ne_of_gt I.big)
    have hlen : (mergeK [] kvs).length ≤ sizeLine := by
      refine Nat.le_trans (length_mergeK kvs []) ?_
      rw [List.length_nil, Nat.zero_add, rel.length, hl]
      exact hz
    exact ⟨.ref s.heap.objs.size, upd H s.heap.objs.size (.dK (mergeK [] kvs)), I.laid (t' := tk) k (Nat.le_refl _) (show ObjOk X.prog X.w _ _ _ (.dK (mergeK [] kvs)) from ⟨hlen, hm, merged [] prs, KV.merge rel .nil, hd'⟩), rfl, q _ (I.hok.fresh (Nat.le_refl _))⟩
end
end L2

namespace L2
open PySem PySem.Spec PyProof.Rows

section
variable {X : Cx} {pins : List (Addr × Obj)} {σ : St} {H : Hp} {s : Shared} {h' : Heap}
theorem Inv.lock {d : Addr} {u : HO} (I : Inv X pins σ H s) (h : H d = some u) (mu : Mut (some u)) : ∃ od, Inv X pins σ (upd H d (.frz od u)) s := by
  have x := I.hok d u h
  have ex : ∃ od, s.heap.get? d = some od := by
    cases u with
    | lst xs => obtain ⟨_, _, _, _, e⟩ := x; exact ⟨_, e⟩
    | dK kvs => obtain ⟨_, _, _, _, o, _, _, e, _⟩ := x; exact ⟨o, e⟩
    | dT kvs => obtain ⟨_, _, _, _, o, _, _, e, _⟩ := x; exact ⟨o, e⟩
    | set S n => obtain ⟨o, _, _, _, e, _⟩ := x; exact ⟨o, e⟩
    | ins C dx fs => obtain ⟨_, _, _, e, _⟩ := x; exact ⟨_, e⟩
    | ext φ => obtain ⟨_, ⟨_, e⟩, _⟩ := x; exact ⟨_, e⟩
    | _ => exact False.elim mu
  obtain ⟨od, e⟩ := ex
  have new : ObjOk X.prog X.w (upd H d (.frz od u)) s.heap d (.frz od u) := by
    refine ⟨e, x.stay (fun b v _ q => q) (fun b q => ?_) fun b xs q => ?_⟩
    · rw [upd_ne (fun z => by rw [z, h] at q; cases q; exact mu)]; exact q
    · rw [upd_ne (fun z => by rw [z, h] at q; cases q; exact mu)]; exact q
  exact ⟨od, I.write (x := d) (e := d) (t' := s.toks) (h' := s.heap) (by rw [h]; exact mu) (.inl rfl) (fun b v _ q => q) ⟨od, e⟩ new⟩
theorem Inv.nofrz {d : Addr} {u : HO} (I : Inv X pins σ H s) (h : H d = some u) (mu : Mut (some u)) : ∀ o' u', X.H_0 d ≠ some (.frz o' u') := fun o' u' e => by
  have q := I.base.frzs d o' u' e
  rw [h] at q
  cases q
  exact mu
theorem Inv.unlock {d : Addr} {od : Obj} {u : HO} (I : Inv X pins σ H s) (h : H d = some (.frz od u)) (hn : ∀ o' u', X.H_0 d ≠ some (.frz o' u')) : Inv X pins σ (upd H d u) s := by
  have neH : ∀ b o, H b = some o → (∀ o' u', o ≠ .frz o' u') → b ≠ d := fun b o e hne z => by
    rw [z, h] at e
    cases e
    exact hne _ _ rfl
  have neN : ∀ b, H b = none → b ≠ d := fun b e z => by rw [z, h] at e; cases e
  refine ⟨I.ok, I.os, I.bare, ⟨I.base.keep, I.base.slot, fun b o e n hx => ?_, I.base.there, fun b xs e => ?_, fun b o x e => ?_, fun b ps e => ?_⟩, I.loc, I.cell, ?_, fun x c e => ?_, fun p hp => ?_, fun b o e => ?_, I.len⟩
  · rw [upd_ne (neN b (I.base.free b o e n hx))]; exact I.base.free b o e n hx
  · have q := I.base.tups b xs e
    rw [upd_ne (neH b _ q (fun _ _ z => nomatch z))]; exact q
  · have q := I.base.frzs b o x e
    rw [upd_ne (fun z => by rw [z] at e; exact hn _ _ e)]; exact q
  · obtain ⟨m, q⟩ := I.base.tbls b ps e
    exact ⟨m, by rw [upd_ne (neH b _ q (fun _ _ z => nomatch z))]; exact q⟩
  · rw [upd_ne (neN _ I.free)]; exact I.free
  · rw [upd_ne (neN c (I.freeC x c e))]; exact I.freeC x c e
  · obtain ⟨e, n, r⟩ := I.pin p hp
    exact ⟨e, by rw [upd_ne (neN _ n)]; exact n, r⟩
  · by_cases hb : b = d
    · rw [hb, upd_same] at e
      cases e
      rw [hb]
      obtain ⟨_, x⟩ := I.hok d _ h
      exact x.stay (fun c v _ q => q) (fun c q => by rw [upd_ne (neH c _ q (fun _ _ z => nomatch z))]; exact q) fun c xs q => by rw [upd_ne (neH c _ q (fun _ _ z => nomatch z))]; exact q
    · rw [upd_ne hb] at e
      exact (I.hok b o e).stay (fun c v _ q => q) (fun c q => by rw [upd_ne (neH c _ q (fun _ _ z => nomatch z))]; exact q) fun c xs q => by rw [upd_ne (neH c _ q (fun _ _ z => nomatch z))]; exact q
end
def tLock (t : TS) : TS := fun D σ H => ∃ d u, H d = some u ∧ Mut (some u) ∧ ∀ od, t ⟨fun σ' H' => H' d = some (.frz od u) ∧ D.nx σ' (upd H' d u), fun v H' => H' d = some (.frz od u) ∧ D.rt v (upd H' d u), fun σ' H' => H' d = some (.frz od u) ∧ D.bk σ' (upd H' d u), fun σ' H' => H' d = some (.frz od u) ∧ D.ct σ' (upd H' d u)⟩ σ (upd H d (.frz od u))
def tLockE (t : TE) : TE := fun σ H Q => ∃ d u, H d = some u ∧ Mut (some u) ∧ ∀ od, t σ (upd H d (.frz od u)) fun v H' => H' d = some (.frz od u) ∧ Q v (upd H' d u)
section
variable {X : Cx}
theorem ps_lock {st : Stmt} {t : TS} (h : PS X st t) : PS X st (tLock t) := by
  intro pins s σ H D I hw
  obtain ⟨d, u, hd, mu, hw⟩ := hw
  obtain ⟨od, I1⟩ := I.lock hd mu
  refine thn (h pins s σ _ _ I1 (hw od)) fun f s1 q => ?_
  cases f with
  | next => obtain ⟨σ', H', I2, e, q⟩ := q; exact ⟨σ', _, I2.unlock e (I.nofrz hd mu), q⟩
  | brk => obtain ⟨σ', H', I2, e, q⟩ := q; exact ⟨σ', _, I2.unlock e (I.nofrz hd mu), q⟩
  | cont => obtain ⟨σ', H', I2, e, q⟩ := q; exact ⟨σ', _, I2.unlock e (I.nofrz hd mu), q⟩
  | ret v => obtain ⟨x, σ', H', I2, r, e, q⟩ := q; exact ⟨x, σ', _, I2.unlock e (I.nofrz hd mu), r, q⟩
theorem pe_lock {e : Expr} {t : TE} (h : PE X e t) : PE X e (tLockE t) := by
  intro pins s σ H Q I hw
  obtain ⟨d, u, hd, mu, hw⟩ := hw
  obtain ⟨od, I1⟩ := I.lock hd mu
  refine thn (h pins s σ _ _ I1 (hw od)) fun v s1 ⟨x, H1, I2, r, e2, q⟩ => ?_
  exact ⟨x, _, I2.unlock e2 (I.nofrz hd mu), r, q⟩

theorem pi_one {tg : Expr} {pins : List (Addr × Obj)} {σ : St} {H : Hp} {s : Shared} {R : It → Hp → Prop} {J : It} {tn : Nat → Heap → Prop} {tk : Nat} (I : Inv X pins σ H s) (o : Obj)
    (T : Turn X.prog X.w X.K tg J [s.heap.objs.size] s.heap.objs.size tn) (st : tn 0 (s.heap.push o)) (q : R J H) : PIE X pins σ tg R (.ref s.heap.objs.size) { s with heap := s.heap.push o, toks := tk } := by
  refine ⟨s.heap.objs.size, [s.heap.objs.size], tn, J, H, rfl, I.kept fun b ob e => Heap.get?_push_of_some _ e, T, st, fun b hb => ?_, q⟩
  have e : b = s.heap.objs.size := by simpa using hb
  subst e
  exact I.fpOk (Nat.le_refl _) (I.hok.fresh (Nat.le_refl _))
end

section
variable {X : Cx} {tg : Expr}
end
section
variable {X : Cx} {tg : Expr}
end

section
variable {prog : Program} {w : World} {A : Around} {E : Value → Shared → Prop} {s : Shared}
theorem iter_keys {d : Addr} {o : Obj} {es : Array DictEntry} {ep : Nat} {Q : Value → Shared → Prop} (hd : (d == sysModules) = false) (ho : s.heap.get? d = some o) (hc : o.ExactDict) (hdat : o.data = .dict es ep)
    (hQ : Q (.ref s.heap.objs.size) { s with heap := s.heap.push { cls := .type "dict_keyiterator", data := .fields #[.ref d, .int 0 0, .int es.size 0, .int ep 0] } }) :
    wpAny (model prog w) A (pyIter (.ref d)) Q E s := by
  have hT : s.TypeIs (.ref d) "dict" := ⟨o, ho, hc.1⟩
  refine wpAny_pyIter_slot hT F.slot_dict_iter (wpAny_call_entry F.slot_dict_iter hT F.entry_dict_iter ?_ (F.args_dict_iter_1 _))
  unfold Builtin.«dict.__iter__»
  refine wpAny_bind ?_
  unfold Builtin.Dict.dictSlotNone
  refine wpAny_bind (wpAny_notOrdered_dict hT ?_)
  show wpAny _ _ (pure (Value.ref d)) _ _ s
  refine wpAny_pure ?_
  show wpAny _ _ (Builtin.Dict.showsAll d >>= _) _ _ s
  unfold Builtin.Dict.showsAll
  rw [if_neg (by rw [hd]; exact Bool.false_ne_true)]
  refine wpAny_bind (wpAny_pure ?_)
  refine wpAny_bind (wpAny_dictEntries ho hdat ?_)
  refine wpAny_bind (wpAny_dictEpoch ho hdat ?_)
  refine wpAny_bind (wpAny_newObj_type (wpAny_pure ⟨_, rfl, "dict_keyiterator", _, ⟨_, Heap.get?_push_size _ rfl, rfl⟩, F.slot_dict_keyiterator_next.lookup, ?_⟩))
  simpa [rawInt] using hQ
theorem next_key_item {it d : Addr} {i n ep : Nat} {od : Obj} {es : Array DictEntry} {en : DictEntry} {Q : Option Value → Shared → Prop} (hit : s.heap.IsKeyIter it d i n ep) (hod : s.heap.get? d = some od) (hdd : od.data = .dict es ep)
    (hsz : es.size = n) (hx : es[i]? = some en) (hQ : ∀ h', h'.IsKeyIter it d (i + 1) n ep → Heap.SameBut it s.heap h' → Q (some en.key) { s with heap := h' }) : wpAny (model prog w) A (pyNext (.ref it)) Q E s := by
  obtain ⟨o, ho, hc, hd⟩ := id hit
  unfold pyNext
  refine wpAny_bind (wpAny_attempt (wpAny_callSpecial?_slot (name := Str.ofString "__next__") hit.typeIs F.slot_dict_keyiterator_next
    (wpAny_call_entry F.slot_dict_keyiterator_next hit.typeIs F.entry_dict_keyiterator_next ?_ (F.args_dict_keyiterator_next_1 _))))
  refine wpAny_bind (wpAny_pure ?_)
  refine wpAny_bind ?_
  refine wpAny_bind ?_
  first | refine wpAny_bind (wpAny_typeNameOfWhole_keyiter hit.typeIs (wpAny_pure ?_)) | refine wpAny_bind (wpAny_typeNameOf_keyiter hit.typeIs (wpAny_pure ?_))
  refine wpAny_bind (wpAny_fieldsOf ho hd ?_)
  have hown : Builtin.Dict_items.ownsTuple "dict_keyiterator" = false := by decide
  simp only [hown, Bool.false_eq_true, if_false]
  show wpAny _ _ (if (Value.ref d == Value.none) = true then _ else _) _ _ s
  rw [if_neg (show ¬ ((Value.ref d == Value.none) = true) from Bool.false_ne_true)]
  refine wpAny_bind (wpAny_pure ?_)
  refine wpAny_bind (wpAny_dictEntries hod hdd ?_)
  rw [if_neg (by rw [hsz]; simp)]
  refine wpAny_bind (wpAny_pure ?_)
  refine wpAny_bind (wpAny_dictEpoch hod hdd ?_)
  rw [if_neg (by simp)]
  refine wpAny_pure ?_
  obtain ⟨hlt', hen⟩ := Array.getElem?_eq_some_iff.mp hx
  simp only [show ¬ ((i : Int) < 0) from by omega, if_false, Int.toNat_natCast, Array.getElem?_eq_getElem hlt']
  refine wpAny_bind ?_
  first | refine wpAny_bind (wpAny_typeNameOfWhole_keyiter hit.typeIs (wpAny_pure ?_)) | refine wpAny_bind (wpAny_typeNameOf_keyiter hit.typeIs (wpAny_pure ?_))
  refine wpAny_bind (wpAny_isOneOf_keyiter hit.typeIs ?_)
  show wpAny _ _ (setField (.ref it) 1 (rawInt ((i : Int) + 1)) >>= _) _ _ s
  refine wpAny_bind (wpAny_setField ho hd (by simp) ?_)
  have hit' : (s.heap.update it (Obj.mapFields (·.setIfInBounds 1 (rawInt ((i : Int) + 1))))).IsKeyIter it d (i + 1) n ep :=
    ⟨_, Heap.get?_update_self _ ho (Obj.isFreed_of_fields (Obj.data_mapFields hd _)), (Obj.cls_mapFields ..).trans hc, by rw [Obj.data_mapFields hd]; simp [rawInt]⟩
  refine wpAny_bind (wpAny_holding ?_)
  refine wpAny_bind (wpAny_isOneOf_keyiter (s := { s with heap := s.heap.update it (Obj.mapFields (·.setIfInBounds 1 (rawInt ((i : Int) + 1)))) }) hit'.typeIs ?_)
  show wpAny _ _ (pure es[i].key) _ _ _
  rw [hen]
  exact wpAny_pure (wpAny_pure ⟨_, rfl, wpAny_pure (hQ _ hit' (Heap.SameBut.update ..))⟩)
theorem next_key_end {it d : Addr} {i n ep : Nat} {od : Obj} {es : Array DictEntry} {Q : Option Value → Shared → Prop} (hh : A.handled = none) (hit : s.heap.IsKeyIter it d i n ep) (hod : s.heap.get? d = some od) (hdd : od.data = .dict es ep)
    (hsz : es.size = n) (hge : n ≤ i) (hQ : ∀ h', Heap.ExtBut it s.heap h' → Q none { s with heap := h' }) : wpAny (model prog w) A (pyNext (.ref it)) Q E s := by
  obtain ⟨o, ho, hc, hd⟩ := id hit
  unfold pyNext
  refine wpAny_bind (wpAny_attempt (wpAny_callSpecial?_slot (name := Str.ofString "__next__") hit.typeIs F.slot_dict_keyiterator_next
    (wpAny_call_entry F.slot_dict_keyiterator_next hit.typeIs F.entry_dict_keyiterator_next ?_ (F.args_dict_keyiterator_next_1 _))))
  refine wpAny_bind (wpAny_pure ?_)
  refine wpAny_bind ?_
  refine wpAny_bind ?_
  first | refine wpAny_bind (wpAny_typeNameOfWhole_keyiter hit.typeIs (wpAny_pure ?_)) | refine wpAny_bind (wpAny_typeNameOf_keyiter hit.typeIs (wpAny_pure ?_))
  refine wpAny_bind (wpAny_fieldsOf ho hd ?_)
  have hown : Builtin.Dict_items.ownsTuple "dict_keyiterator" = false := by decide
  simp only [hown, Bool.false_eq_true, if_false]
  show wpAny _ _ (if (Value.ref d == Value.none) = true then _ else _) _ _ s
  rw [if_neg (show ¬ ((Value.ref d == Value.none) = true) from Bool.false_ne_true)]
  refine wpAny_bind (wpAny_pure ?_)
  refine wpAny_bind (wpAny_dictEntries hod hdd ?_)
  rw [if_neg (by rw [hsz]; simp)]
  refine wpAny_bind (wpAny_pure ?_)
  refine wpAny_bind (wpAny_dictEpoch hod hdd ?_)
  rw [if_neg (by simp)]
  refine wpAny_pure ?_
  have hge' : es.size ≤ i := by rw [hsz]; exact hge
  simp only [show ¬ ((i : Int) < 0) from by omega, if_false, Int.toNat_natCast, Array.getElem?_eq_none hge']
  refine wpAny_bind ?_
  first | refine wpAny_bind (wpAny_typeNameOfWhole_keyiter hit.typeIs (wpAny_pure ?_)) | refine wpAny_bind (wpAny_typeNameOf_keyiter hit.typeIs (wpAny_pure ?_))
  show wpAny _ _ (setField (.ref it) 0 .none >>= _) _ _ s
  refine wpAny_bind (wpAny_setField ho hd (by simp) ?_)
  show wpAny _ _ (newExc (.type "StopIteration") [] >>= _) _ _ _
  refine wpAny_bind ?_
  simp only [newExc, newTuple]
  refine wpAny_bind (wpAny_newObj_type ?_ (by size_fits))
  refine wpAny_bind (m := firstArgMember _ _) (wpAny_of_eq (a := Value.none) (by first | rfl | (simp only [firstArgMember]; rfl)) ?_)
  refine wpAny_newObj_type ?_ (by size_fits)
  simp only [raiseNew]
  refine wpAny_bind (wpAny_handled ?_)
  rw [show A.in1.handled = none from hh]
  refine wpAny_bind (wpAny_pure (wpAny_throw ?_))
  refine wpAny_bind (wpAny_isInstance (T := "StopIteration") (b := true) ⟨_, Heap.get?_push_size _ rfl, rfl⟩ isSubtype_stop ?_)
  exact wpAny_pure (hQ _ (((Heap.SameBut.update ..).extBut.push _).push _))
end

theorem kv_get {κ : Type} {kvs : List (κ × V)} {vs : List (κ × Value)} (h : KV kvs vs) : ∀ {i : Nat} {k : κ} {v : V}, kvs[i]? = some (k, v) → ∃ u, vs[i]? = some (k, u) ∧ RelV v u := by
  unfold KV at h
  induction h with
  | nil => intro i k v e; simp at e
  | @cons a b l₁ l₂ r t ih =>
    intro i k v e
    cases i with
    | zero =>
      simp only [List.getElem?_cons_zero, Option.some.injEq] at e
      subst e
      refine ⟨b.2, ?_, r.2⟩
      simp only [List.getElem?_cons_zero]
      exact congrArg some (Prod.ext r.1.symm rfl)
    | succ j =>
      simp only [List.getElem?_cons_succ] at e ⊢
      exact ih e
theorem paired_get {α β : Type} {G : α → β → Prop} {l₁ : List α} {l₂ : List β} (h : Paired G l₁ l₂) : ∀ {i : Nat} {a : α}, l₁[i]? = some a → ∃ b, l₂[i]? = some b ∧ G a b := by
  induction h with
  | nil => intro i a e; simp at e
  | @cons a b l₁ l₂ r t ih =>
    intro i a' e
    cases i with
    | zero =>
      simp only [List.getElem?_cons_zero, Option.some.injEq] at e
      subst e
      exact ⟨b, rfl, r⟩
    | succ j =>
      simp only [List.getElem?_cons_succ] at e ⊢
      exact ih e
theorem relV_key {k : Key} {u : Value} (h : keyIs k u = true) : RelV (kV k) u := by
  rcases keyIs_shape h with ⟨i, t, rfl, rfl⟩ | ⟨x, t, rfl, rfl⟩
  · exact ⟨t, rfl⟩
  · exact ⟨t, rfl⟩
section
variable {X : Cx} {pins : List (Addr × Obj)} {σ : St} {H : Hp} {s : Shared} {d : Addr} {o : Obj}
theorem Inv.frzK {kvs : List (Key × V)} (I : Inv X pins σ H s) (h : H d = some (.frz o (.dK kvs))) :
    (d == sysModules) = false ∧ s.heap.get? d = some o ∧ o.ExactDict ∧ ∃ (es : Array DictEntry) (ep : Nat) (vs : List (Key × Value)), o.data = .dict es ep ∧ es.size = kvs.length ∧ KV kvs vs ∧ s.heap.DictAt (mixKind X.prog X.w) d vs ep := by
  obtain ⟨hd, z, hs, vs, kv, o', es, ep, ho, hx, hdt, r⟩ := I.hok d _ h
  rw [hd] at ho
  cases ho
  refine ⟨hs, hd, hx, es, ep, vs, hdt, ?_, kv, o, es, hd, hx, hdt, r⟩
  have l1 := r.2.1.length
  have l2 : kvs.length = vs.length := Paired.length kv
  rw [Array.length_toList] at l1
  omega
theorem Inv.frzT {kvs : List (List Key × V)} (I : Inv X pins σ H s) (h : H d = some (.frz o (.dT kvs))) :
    (d == sysModules) = false ∧ s.heap.get? d = some o ∧ o.ExactDict ∧ ∃ (es : Array DictEntry) (ep : Nat), o.data = .dict es ep ∧ es.size = kvs.length ∧
      ∀ (i : Nat) (k : List Key) (v : V), kvs[i]? = some (k, v) → ∃ (en : DictEntry) (q : Addr), es[i]? = some en ∧ en.key = .ref q ∧ H q = some (.tup (k.map kV)) := by
  obtain ⟨hd, z, hs, xs, pr, o', es, ep, ho, hx, hdt, he, _⟩ := I.hok d _ h
  rw [hd] at ho
  cases ho
  refine ⟨hs, hd, hx, es, ep, hdt, ?_, fun i k v e => ?_⟩
  · have l1 : es.size = xs.length := size_of_entries he
    have l2 : kvs.length = xs.length := Paired.length pr
    omega
  · obtain ⟨b, hb, e1, e2, _⟩ := paired_get pr e
    have q := entry_at he i
    rw [hb] at q
    exact ⟨_, b.2.1, q, rfl, e2⟩
end

def Itk (d : Addr) (o : Obj) (kvs : List (Key × V)) : It :=
  ⟨fun i H => H d = some (.frz o (.dK kvs)) ∧ i < kvs.length, fun i H x H' => H' = H ∧ ∃ k v, kvs[i]? = some (k, v) ∧ x = kV k, fun i H => H d = some (.frz o (.dK kvs)) ∧ kvs.length ≤ i⟩
def Itkt (d : Addr) (o : Obj) (kvs : List (List Key × V)) : It :=
  ⟨fun i H => H d = some (.frz o (.dT kvs)) ∧ i < kvs.length, fun i H x H' => H' = H ∧ ∃ (k : List Key) (v : V) (q : Addr), kvs[i]? = some (k, v) ∧ x = .ref q ∧ H q = some (.tup (k.map kV)), fun i H => H d = some (.frz o (.dT kvs)) ∧ kvs.length ≤ i⟩
theorem dict_ep {o : Obj} {es es' : Array DictEntry} {ep ep' : Nat} (h : o.data = .dict es ep) (h' : o.data = .dict es' ep') : es' = es ∧ ep' = ep := by
  rw [h] at h'
  cases h'
  exact ⟨rfl, rfl⟩
section
variable {P : Program} {w : World} {K : PySem.W.Frag} {tg : Expr} {d : Addr} {o : Obj} {es : Array DictEntry} {ep : Nat}
theorem turn_keys {kvs : List (Key × V)} (it : Addr) (hod : o.data = .dict es ep) : Turn P w K tg (Itk d o kvs) [it] it (fun i h => h.IsKeyIter it d i kvs.length ep) where
  mem := by simp
  obj := fun i h st b hb => by
    have e : b = it := by simpa using hb
    subst e
    obtain ⟨oi, e, c, dd⟩ := st
    exact ⟨oi, e, fun v z => by rw [dd] at z; cases z⟩
  keep := fun i h h' st k => st.at fun oi e => k it (by simp) oi e
  item := by
    intro X hP hw hK hc i pins s σ H E I hf st hg
    subst hP hw hK
    obtain ⟨hd, hi⟩ := hg
    obtain ⟨f0, f1, f2, f3, f4, f5⟩ := hf it (by simp)
    obtain ⟨hs, hgd, hx, es', ep', vs, hdt, hsz, kv, hm⟩ := I.frzK hd
    obtain ⟨rfl, rfl⟩ := dict_ep hod hdt
    obtain ⟨⟨k, v⟩, hkv⟩ : ∃ p, kvs[i]? = some p := ⟨kvs[i], List.getElem?_eq_getElem hi⟩
    obtain ⟨u, hu, ru⟩ := kv_get kv hkv
    have hl : kvs.length = vs.length := Paired.length kv
    rw [hl] at st
    refine wpAny_pyNext_dict_item st hm hu fun key h' hkey st' sb => ?_
    have I1 : Inv X pins σ H { s with heap := h' } := I.turned (t' := s.toks) (fun b ob hb e => (sb.2 b hb).trans e) f0 f1 f3 f4 f5
    obtain ⟨oi, e, c, dd⟩ := id st'
    refine ⟨key, rfl, go_of (s := { s with heap := h' }) e c dd (by decide) ⟨kV k, H, I1, relV_key (show keyIs k key = true from hkey), ⟨rfl, k, v, hkv, rfl⟩, ?_, fun b hb => (hf b hb).1⟩⟩
    show h'.IsKeyIter it d (i + 1) kvs.length _
    rw [hl]
    exact st'
  done := by
    intro X hP hw hK hc i pins s σ H E I hf st hg
    subst hP hw hK
    obtain ⟨hd, hi⟩ := hg
    obtain ⟨f0, f1, f2, f3, f4, f5⟩ := hf it (by simp)
    obtain ⟨hs, hgd, hx, es', ep', vs, hdt, hsz, kv, hm⟩ := I.frzK hd
    obtain ⟨rfl, rfl⟩ := dict_ep hod hdt
    exact next_key_end (I.ok.hd hc) st hgd hdt hsz hi fun h' eb => ⟨rfl, I.turned (t' := s.toks) (fun b ob hb e => eb b ob hb e) f0 f1 f3 f4 f5⟩
  self := fun A i s Q E st h => wpAny_pyIter_keyiter st h
theorem turn_keysT {kvs : List (List Key × V)} (it : Addr) (hod : o.data = .dict es ep) : Turn P w K tg (Itkt d o kvs) [it] it (fun i h => h.IsKeyIter it d i kvs.length ep) where
  mem := by simp
  obj := fun i h st b hb => by
    have e : b = it := by simpa using hb
    subst e
    obtain ⟨oi, e, c, dd⟩ := st
    exact ⟨oi, e, fun v z => by rw [dd] at z; cases z⟩
  keep := fun i h h' st k => st.at fun oi e => k it (by simp) oi e
  item := by
    intro X hP hw hK hc i pins s σ H E I hf st hg
    subst hP hw hK
    obtain ⟨hd, hi⟩ := hg
    obtain ⟨f0, f1, f2, f3, f4, f5⟩ := hf it (by simp)
    obtain ⟨hs, hgd, hx, es', ep', hdt, hsz, ent⟩ := I.frzT hd
    obtain ⟨rfl, rfl⟩ := dict_ep hod hdt
    obtain ⟨⟨k, v⟩, hkv⟩ : ∃ p, kvs[i]? = some p := ⟨kvs[i], List.getElem?_eq_getElem hi⟩
    obtain ⟨en, q, hen, hkey, hq⟩ := ent i k v hkv
    refine next_key_item st hgd hdt hsz hen fun h' st' sb => ?_
    have I1 : Inv X pins σ H { s with heap := h' } := I.turned (t' := s.toks) (fun b ob hb e => (sb.2 b hb).trans e) f0 f1 f3 f4 f5
    obtain ⟨oi, e, c, dd⟩ := id st'
    exact ⟨en.key, rfl, go_of (s := { s with heap := h' }) e c dd (by decide) ⟨.ref q, H, I1, hkey, ⟨rfl, k, v, q, hkv, rfl, hq⟩, st', fun b hb => (hf b hb).1⟩⟩
  done := by
    intro X hP hw hK hc i pins s σ H E I hf st hg
    subst hP hw hK
    obtain ⟨hd, hi⟩ := hg
    obtain ⟨f0, f1, f2, f3, f4, f5⟩ := hf it (by simp)
    obtain ⟨hs, hgd, hx, es', ep', hdt, hsz, ent⟩ := I.frzT hd
    obtain ⟨rfl, rfl⟩ := dict_ep hod hdt
    exact next_key_end (I.ok.hd hc) st hgd hdt hsz hi fun h' eb => ⟨rfl, I.turned (t' := s.toks) (fun b ob hb e => eb b ob hb e) f0 f1 f3 f4 f5⟩
  self := fun A i s Q E st h => by
    refine wpAny_pyIter_slot st.typeIs F.slot_dict_keyiterator_iter (wpAny_call_entry F.slot_dict_keyiterator_iter st.typeIs F.entry_dict_keyiterator_iter ?_ (F.args_dict_keyiterator_iter_1 _))
    show wpAny _ _ (ret (.ref it)) _ _ s
    exact wpAny_pure ⟨_, rfl, "dict_keyiterator", _, st.typeIs, F.slot_dict_keyiterator_next.lookup, h⟩
end

def iKeys (td : TE) : TI := fun σ H R => td σ H fun x H1 => ∃ d o, x = .ref d ∧ ((∃ kvs, H1 d = some (.frz o (.dK kvs)) ∧ R (Itk d o kvs) H1) ∨ ∃ kvs, H1 d = some (.frz o (.dT kvs)) ∧ R (Itkt d o kvs) H1)
section
variable {X : Cx} {tg e : Expr} {td : TE} {apos cpos : Pos}
theorem pi_keys (he : PE X e td) : PI X tg e (iKeys td) := by
  intro pins s σ H R I h
  refine thn (he pins s σ H _ I h) fun u s1 ⟨x, H1, I1, rx, d, o, ex, q⟩ => ?_
  subst ex
  obtain rfl : u = Value.ref d := rx
  rcases q with ⟨kvs, hd, q⟩ | ⟨kvs, hd, q⟩
  · obtain ⟨hs, hgd, hx, es, ep, vs, hdt, hsz, kv, hm⟩ := I1.frzK hd
    refine iter_keys hs hgd hx hdt (pi_one (tk := s1.toks) I1 _ (turn_keys _ hdt) ⟨_, Heap.get?_push_size _ rfl, rfl, ?_⟩ q)
    rw [hsz] <;> rfl
  · obtain ⟨hs, hgd, hx, es, ep, hdt, hsz, ent⟩ := I1.frzT hd
    refine iter_keys hs hgd hx hdt (pi_one (tk := s1.toks) I1 _ (turn_keysT _ hdt) ⟨_, Heap.get?_push_size _ rfl, rfl, ?_⟩ q)
    rw [hsz] <;> rfl
end

end L2

section 
namespace Bits
open PySem PyProof.Rows

end Bits
end 

section 
namespace TL
open PySem PySem.Builtin PySem.Builtin.Str PySem.StrLaws

abbrev tl (x : Str) : List Nat := x.cps.toList
theorem len_tl (x : Str) : x.length = (tl x).length := by simp [tl, Str.length]
def pre (S l : List Nat) : Bool := l.take S.length == S
def par (S : List Nat) : List Nat → List Nat → Option (List Nat × List Nat)
  | _, [] => none
  | acc, c :: r => if pre S (c :: r) = true then some (acc, (c :: r).drop S.length) else par S (acc ++ [c]) r

theorem len1 {y : Str} (hy : tl y ≠ []) : 1 ≤ y.length := by
  have e2 : 0 < (tl y).length := List.length_pos_iff.mpr hy
  rw [len_tl y]
  exact e2
end TL
end 

namespace L2
open PySem PySem.Spec PyProof.Rows

section
variable {X : Cx} {pins : List (Addr × Obj)} {σ : St} {H : Hp} {s : Shared} {Q : VK}
end

section
variable {X : Cx}

end

section
variable {X : Cx} {o e : Expr} {to te : TE}
end
end L2

namespace L2
open PySem PySem.Spec PyProof.Rows

section
variable {X : Cx}
end

theorem IsPart.raw {v : Value} {o : Option Int} (p : IsPart v o) : ∃ l : Option (Int × Tok), v = partValue l ∧ l.map (·.1) = o := by
  cases p with
  | none => exact ⟨none, rfl, rfl⟩
  | int i t => exact ⟨some (i, t), rfl, rfl⟩

end L2

namespace Att
open PySem PySem.W PySem.Calls PyProof.Rows

section
variable {prog : Program} {w : World} {A : Around} {E : Value → Shared → Prop} {s : Shared} {K : Frag}

end
end Att

namespace L2
open PySem PySem.Spec PyProof.Rows

end L2

namespace L2
open PySem PySem.Spec PyProof.Rows

abbrev KOf {K : PySem.W.Frag} {h : Heap} (_ : K.In h) : PySem.W.Frag := K

end L2

namespace L2
open PySem PySem.Spec PyProof.Rows

def inClass (s : Stmt) (j : Nat) : Stmt := match s with
  | .ClassDef _ _ _ body _ _ _ _ _ _ _ => body.getD j (.Pass ⟨0, 0, 0, 0⟩)
  | _ => .Pass ⟨0, 0, 0, 0⟩
def defArgs (s : Stmt) : Arguments := match s with
  | .FunctionDef _ a _ _ _ _ _ _ _ _ => a
  | _ => { posonlyargs := [], args := [], vararg := none, kwonlyargs := [], kw_defaults := [], kwarg := none, defaults := [] }
def defBody (s : Stmt) : List Stmt := match s with
  | .FunctionDef _ _ b _ _ _ _ _ _ _ => b
  | _ => []
def defScope (s : Stmt) : Scope := match s with
  | .FunctionDef _ _ _ _ _ _ sc _ _ _ => sc
  | _ => { kind := .function, names := [], isGenerator := false, isCoroutine := false }

abbrev CX0 : CXT := fun _ _ _ _ _ _ => False
abbrev E0 : XK := fun _ _ _ => False
theorem pass0 {X : Cx} : Passes CX0 X E0 := fun _ _ _ _ _ _ _ h => h.elim

structure Fun (K : PySem.W.Frag) (x qual : Str) (st : Stmt) (f : Addr) (fd : FuncData) : Prop where
  ex : ∃ (oc : Value) (od : Option Addr) (kV doc pm : Value) (an : Option Addr) (cdv ct : Value) (osl : Array (Option Value)),
    fd = PySem.W.fnOf x qual (defArgs st) (defBody st) (defScope st) .none kV doc pm an cdv ct ∧ K.lookup f = some ⟨oc, od, .func fd, osl⟩ ∧ PySem.W.codeIn K cdv qual = true
  kp : PySem.W.keepIn K (.ref f) = true
section
variable {P : Program} {w : World} {K : PySem.W.Frag} {mg : Str → Option Value} {base : Heap}
theorem Fun.ok {x qual : Str} {st : Stmt} {f : Addr} {fd : FuncData} {N ps : List Str} {k : Nat} {sp : Sp} (F : Fun K x qual st f fd) (S : FnScope N ps (defScope st)) (len : ∀ vs H Q E, sp vs H Q E → vs.length = ps.length)
    (hbody : ∀ (cdv : Value) (A : Around) (outer : List Env) (s : Shared) (H : Hp) (vs : List V) (Q : VK) (E : XK), Room k (A.deeper (envOfC qual (defScope st) s.heap.objs.size f cdv)) → sp vs H Q E →
      ∃ t, PSs (cxOf CX0 P w K mg base N qual (defScope st) f cdv A outer s H E).nox (defBody st) t ∧ t { nx := fun _ H' => Q .non H', rt := Q } (start N vs) H) : FnOk P w K mg base CX0 (k + 1) f fd ps sp := by
  obtain ⟨oc, od, kV, doc, pm, an, cdv, ct, osl, rfl, lk, hcd⟩ := F.ex
  refine fn_of lk hcd S len fun A outer s H vs Q E hr hsp => ?_
  obtain ⟨t, h, q⟩ := hbody cdv A outer s H vs Q E hr hsp
  exact ⟨t, h.nox, q⟩
theorem Fun.binds {x qual : Str} {st : Stmt} {f : Addr} {fd : FuncData} {ps : List Str} (F : Fun K x qual st f fd)
    (h : ∀ (kV doc pm : Value) (an : Option Addr) (cdv ct : Value) (us : List Value), us.length = ps.length → bindArgs (PySem.W.fnOf x qual (defArgs st) (defBody st) (defScope st) .none kV doc pm an cdv ct) ⟨us, []⟩ = pure (ps.zip us)) : Binds K fd ps [] := by
  obtain ⟨oc, od, kV, doc, pm, an, cdv, ct, osl, rfl, lk, hcd⟩ := F.ex
  exact .all (h kV doc pm an cdv ct)
theorem fun_mk {x qual : Str} {st : Stmt} {f : Addr} {oc : Value} {od an : Option Addr} {osl : Array (Option Value)} {kV doc pm cdv ct : Value} (l : K.lookup f = some ⟨oc, od, .func (PySem.W.fnOf x qual (defArgs st) (defBody st) (defScope st) .none kV doc pm an cdv ct), osl⟩)
    (c : PySem.W.codeIn K cdv qual = true) (k : PySem.W.keepIn K (.ref f) = true) : Fun K x qual st f (PySem.W.fnOf x qual (defArgs st) (defBody st) (defScope st) .none kV doc pm an cdv ct) := ⟨⟨oc, od, kV, doc, pm, an, cdv, ct, osl, rfl, l, c⟩, k⟩
end
theorem hu_of {A : Around} {k : Nat} (hr : Room k A) : A.units + 1 < cLine := Nat.lt_of_le_of_lt (Nat.add_le_add_left (by decide : 1 ≤ 64) _) hr.units
section
variable {X : Cx}
theorem pv (i : Nat) {x : Str} {pos : Pos} (hN : X.N[i]? = some x := by rfl) (hv : Vis X.env.scope x := by first | exact Or.inl rfl | exact Or.inr (Or.inl rfl) | exact Or.inr (Or.inr rfl)) (hd : (x == ("__debug__" : Str)) = false := by decide)
    (hcd : (x == ("__classdict__" : Str)) = false := by decide) : PE X (.Name x pos) (tVar i) := pe_var hN hv hd hcd
theorem call_lenD : CallR X (.builtin "len") (fun xs H Q => ∃ a kvs, xs = [V.ref a] ∧ H a = some (.dK kvs) ∧ Q (.int kvs.length) H) := by
  intro pins s σ H xs us Q I r h
  obtain ⟨a, kvs, rfl, ha, q⟩ := h
  obtain ⟨u, rfl, ru⟩ := vals1 r
  cases ru
  exact d_len I (.inl ha) fun t s' I' => ⟨.int kvs.length, H, I', ⟨t, rfl⟩, q⟩
end

theorem iteF {A B : Prop} (h : B) : if false = true then A else B := by
  rw [if_neg Bool.false_ne_true]
  exact h
theorem iteT {A B : Prop} (h : A) : if true = true then A else B := by
  rw [if_pos rfl]
  exact h
theorem ite2 {c A B : Prop} [Decidable c] (h1 : c → A) (h2 : ¬ c → B) : if c then A else B := by
  by_cases h : c
  · rw [if_pos h]
    exact h1 h
  · rw [if_neg h]
    exact h2 h
def Same (H H' : Hp) : Prop := ∀ b o, H b = some o → H' b = some o
theorem Same.refl (H : Hp) : Same H H := fun _ _ h => h
theorem Same.trans {H H1 H2 : Hp} (a : Same H H1) (b : Same H1 H2) : Same H H2 := fun c o h => b c o (a c o h)
theorem Same.free {H H' : Hp} (e : Same H H') {l : Addr} (h : H' l = Option.none) : H l = Option.none := by
  cases q : H l with
  | none => rfl
  | some o =>
    rw [e l o q] at h
    cases h
theorem Same.seq {K : PySem.W.Frag} {H H' : Hp} {a : Addr} {xs : List V} (e : Same H H') (h : SqL K H a xs) : SqL K H' a xs := by
  rcases h with (h | ⟨o, h⟩) | h
  · exact .inl (.inl (e _ _ h))
  · exact .inl (.inr ⟨o, e _ _ h⟩)
  · exact .inr h

section
variable {κ : Type} [DecidableEq κ]
theorem nd_snoc : ∀ {l : List κ} {k : κ}, l.Nodup → ¬ k ∈ l → (l ++ [k]).Nodup
  | [], k, _, _ => by simp
  | a :: r, k, h, hk => by
    obtain ⟨h1, h2⟩ := List.nodup_cons.mp h
    show (a :: (r ++ [k])).Nodup
    refine List.nodup_cons.mpr ⟨fun m => ?_, nd_snoc h2 fun m => hk (List.mem_cons.mpr (Or.inr m))⟩
    rcases List.mem_append.mp m with q | q
    · exact h1 q
    · exact hk (List.mem_cons.mpr (Or.inl (List.mem_singleton.mp q).symm))
end
theorem at_of {xs : List V} {z : Int} {j : Nat} {v : V} (e : z = (j : Int)) (h : xs[j]? = some v) : atI xs z = some v := by
  rw [e]
  exact atI_nat h
theorem nd_ix {α : Type} {l : List α} (hN : l.Nodup) {i j : Nat} {x : α} (a : l[i]? = some x) (b : l[j]? = some x) : i = j := by
  obtain ⟨h1, e1⟩ := List.getElem?_eq_some_iff.mp a
  obtain ⟨h2, e2⟩ := List.getElem?_eq_some_iff.mp b
  exact (List.getElem_inj hN).mp (e1.trans e2.symm)
theorem Same.made {H H1 : Hp} {x dx C : Addr} (nx : H x = Option.none) (nd : H dx = Option.none) (k : ∀ b o, (upd (upd H dx (.own x)) x (.ins C dx [])) b = some o → b ≠ x → H1 b = some o) : Same H H1 := fun b o e =>
  k b o (by rw [upd_ne (ne_of_none e nx), upd_ne (ne_of_none e nd)]; exact e) (ne_of_none e nx)
end L2


set_option Elab.async false
set_option linter.all false
set_option maxRecDepth 100000
set_option maxHeartbeats 2000000
namespace L2
open PySem PySem.Spec PyProof.Rows
open PySem.W (WData Codec OpenSpec Well WellAll ReadsW ReadsAllW)
/-! ### an answer as data -/
mutual
/-- x stands for the datum d, lists and tuples all the way -/
inductive Dw (K : PySem.W.Frag) (H : Hp) : V → WData → Prop
  | non : Dw K H .non .none
  | bl (b : Bool) : Dw K H (.bl b) (.bool b)
  | int (i : Int) : Dw K H (.int i) (.int i)
  | str (x : Str) : Dw K H (.str x) (.str x)
  | byt (b : Array UInt8) : Dw K H (.byt b) (.bytes b.toList)
  | lst {a : Addr} {xs : List V} {ds : List WData} : SqL K H a xs → DwAll K H xs ds → Dw K H (.ref a) (.list ds)
  | tup {a : Addr} {xs : List V} {ds : List WData} : SqT K H a xs → DwAll K H xs ds → Dw K H (.ref a) (.tuple ds)
inductive DwAll (K : PySem.W.Frag) (H : Hp) : List V → List WData → Prop
  | nil : DwAll K H [] []
  | cons {v : V} {vs : List V} {d : WData} {ds : List WData} : Dw K H v d → DwAll K H vs ds → DwAll K H (v :: vs) (d :: ds)
end
theorem dw_ints {K : PySem.W.Frag} {H : Hp} : ∀ ns : List Int, DwAll K H (ns.map V.int) (ns.map WData.int)
  | [] => .nil
  | n :: r => .cons (.int n) (dw_ints r)
theorem ints_dw {K : PySem.W.Frag} {H : Hp} : ∀ (ns : List Int) (xs : List V), DwAll K H xs (ns.map WData.int) → xs = ns.map V.int
  | [], xs, h => by
    cases h
    rfl
  | n :: r, xs, h => by
    cases h with
    | cons h1 h2 =>
      cases h1
      rw [ints_dw r _ h2] <;> rfl
section
variable {P : Program} {w : World} {K : PySem.W.Frag} {H : Hp} {h : Heap} {R : PySem.W.WRecords} {cl : Str → Option Addr}
theorem sqL_at {a : Addr} {xs : List V} (hok : HOk P w H h) (KX : K.In h) (q : SqL K H a xs) : ∃ (its : List Value) (o : Obj) (n : Nat), Vals xs its ∧ h.get? a = some o ∧ o.cls = .type "list" ∧ o.data = .seq its.toArray n := by
  rcases q with q | ⟨o, its, n, e, hc, _, hd, _, hv⟩
  · obtain ⟨_, its, n, hv, e⟩ := (show ObjOk P w H h a (.lst xs) from q.ok hok)
    exact ⟨its, _, n, hv, e, rfl, rfl⟩
  · exact ⟨its.toList, o, n, hv, KX _ _ e, hc, by simp [hd]⟩
theorem sqT_at {a : Addr} {xs : List V} (hok : HOk P w H h) (KX : K.In h) (q : SqT K H a xs) : ∃ (its : List Value) (o : Obj) (n : Nat), Vals xs its ∧ h.get? a = some o ∧ o.cls = .type "tuple" ∧ o.data = .seq its.toArray n := by
  rcases q with q | ⟨o, its, n, e, hc, hd, _, hv⟩
  · obtain ⟨_, its, hv, o, e, hc, n, hd⟩ := (show ObjOk P w H h a (.tup xs) from q.ok hok)
    exact ⟨its, o, n, hv, e, hc, hd⟩
  · exact ⟨its.toList, o, n, hv, KX _ _ e, hc, by simp [hd]⟩
mutual
theorem Dw.reads (hok : HOk P w H h) (KX : K.In h) : ∀ (d : WData) (v : V) (u : Value), Dw K H v d → RelV v u → ∃ as, ReadsW R cl h u d as
  | .none, _, _, x, r => by
    cases x
    cases r
    exact ⟨_, ReadsW.none⟩
  | .bool b, _, _, x, r => by
    cases x
    cases r
    exact ⟨_, ReadsW.bool b⟩
  | .int i, _, _, x, r => by
    cases x
    obtain ⟨t, rfl⟩ := r
    exact ⟨_, ReadsW.int i t⟩
  | .str s, _, _, x, r => by
    cases x
    obtain ⟨t, rfl⟩ := r
    exact ⟨_, ReadsW.str s t⟩
  | .bytes b, _, _, x, r => by
    cases x
    obtain ⟨t, rfl⟩ := r
    exact ⟨_, ReadsW.bytes _ t⟩
  | .list ds, _, _, x, r => by
    cases x with
    | lst hs ha =>
      cases r
      obtain ⟨its, o, n, rv, ho, hc, hd⟩ := sqL_at hok KX hs
      obtain ⟨as, hr⟩ := Dw.readsAll hok KX ds _ its ha rv
      exact ⟨_, ReadsW.list ho hc hd hr⟩
  | .tuple ds, _, _, x, r => by
    cases x with
    | tup hs ha =>
      cases r
      obtain ⟨its, o, n, rv, ho, hc, hd⟩ := sqT_at hok KX hs
      obtain ⟨as, hr⟩ := Dw.readsAll hok KX ds _ its ha rv
      exact ⟨_, ReadsW.tuple ho hc hd hr⟩
  | .float _, _, _, x, _ => by cases x
  | .dict _, _, _, x, _ => by cases x
  | .bytearray _, _, _, x, _ => by cases x
  | .set _, _, _, x, _ => by cases x
  | .frozenset _, _, _, x, _ => by cases x
  | .obj _ _, _, _, x, _ => by cases x
theorem Dw.readsAll (hok : HOk P w H h) (KX : K.In h) : ∀ (ds : List WData) (vs : List V) (us : List Value), DwAll K H vs ds → Vals vs us → ∃ as, ReadsAllW R cl h us ds as
  | [], _, _, x, r => by
    cases x
    cases r
    exact ⟨_, ReadsAllW.nil⟩
  | d :: ds, _, _, x, r => by
    cases x with
    | cons h1 h2 =>
      cases r with
      | cons r1 r2 =>
        obtain ⟨as, q1⟩ := Dw.reads hok KX d _ _ h1 r1
        obtain ⟨bs, q2⟩ := Dw.readsAll hok KX ds _ _ h2 r2
        exact ⟨_, ReadsAllW.cons q1 q2⟩
end
end
/-! ### the arguments -/
mutual
/-- data that a codec tells -/
def plW : WData → Bool
  | .none => true
  | .bool _ => true
  | .int _ => true
  | .str _ => true
  | .bytes _ => true
  | .list xs => plWs xs
  | .tuple xs => plWs xs
  | _ => false
def plWs : List WData → Bool
  | [] => true
  | x :: r => plW x && plWs r
end
theorem plWs_map {α : Type} {f : α → WData} (h : ∀ a, plW (f a) = true) : ∀ l : List α, plWs (l.map f) = true
  | [] => rfl
  | x :: r => by
    show (plW (f x) && plWs (r.map f)) = true
    rw [h x, plWs_map h r] <;> rfl
theorem pl_enc : ∀ (c : Codec) (a : c.denote), plW (c.enc a) = true
  | .unit, _ => rfl
  | .bool, _ => rfl
  | .int _ _, _ => rfl
  | .nat _ _, _ => rfl
  | .u8, _ => rfl
  | .bytes _ _, _ => rfl
  | .text _ _ _ _, _ => rfl
  | .list _ _ c, a => plWs_map (fun x => pl_enc c x) a
  | .pair c d, a => by
    show (plW (c.enc a.1) && (plW (d.enc a.2) && true)) = true
    rw [pl_enc c a.1, pl_enc d a.2] <;> rfl
  | .triple c d e, a => by
    show (plW (c.enc a.1) && (plW (d.enc a.2.1) && (plW (e.enc a.2.2) && true))) = true
    rw [pl_enc c a.1, pl_enc d a.2.1, pl_enc e a.2.2] <;> rfl
  | .option c, none => rfl
  | .option c, some x => pl_enc c x
theorem pl_encAll : ∀ (cs : List Codec) (a : Codec.denoteAll cs), plWs (Codec.encAll cs a) = true
  | [], _ => rfl
  | c :: cs, a => by
    show (plW (c.enc a.1) && plWs (Codec.encAll cs a.2)) = true
    rw [pl_enc c a.1, pl_encAll cs a.2] <;> rfl
theorem weight_mem : ∀ {xs : List WData} {d : WData}, d ∈ xs → d.weight ≤ WData.weightAll xs
  | [], d, h => absurd h (by simp)
  | x :: r, d, h => by
    show d.weight ≤ x.weight + 1 + WData.weightAll r
    rcases List.mem_cons.mp h with e | m
    · rw [e]
      omega
    · have z := weight_mem m
      omega
def toV : Value → V
  | .none => .non
  | .bool b => .bl b
  | .int i _ => .int i
  | .str x _ => .str x
  | .bytes b _ => .byt b
  | .ref a => .ref a
  | _ => .non
/-- a value of the arguments, its objects among A -/
def OkU (A : List Addr) : Value → Prop
  | .none => True
  | .bool _ => True
  | .int _ _ => True
  | .str _ _ => True
  | .bytes _ _ => True
  | .ref a => a ∈ A
  | _ => False
theorem OkU.mono {A B : List Addr} (h : ∀ a ∈ A, a ∈ B) : ∀ {u : Value}, OkU A u → OkU B u := fun {u} x => by
  cases u with
  | ref a => exact h a x
  | none => trivial
  | bool b => trivial
  | int i t => trivial
  | str s t => trivial
  | bytes b t => trivial
  | _ => exact False.elim x
theorem relV_toV {A : List Addr} {u : Value} (x : OkU A u) : RelV (toV u) u := by
  cases u with
  | ref a => rfl
  | none => rfl
  | bool b => rfl
  | int i t => exact ⟨t, rfl⟩
  | str s t => exact ⟨t, rfl⟩
  | bytes b t => exact ⟨t, rfl⟩
  | _ => exact False.elim x
theorem vals_toV {A : List Addr} : ∀ {vs : List Value}, (∀ u ∈ vs, OkU A u) → Vals (vs.map toV) vs
  | [], _ => .nil
  | u :: r, h => .cons (relV_toV (h u (List.mem_cons_self ..))) (vals_toV fun x hx => h x (List.mem_cons_of_mem _ hx))
/-- an object of the arguments -/
def ArgOb (h : Heap) (A : List Addr) (a : Addr) : Prop := ∃ vs : List Value, vs.length ≤ sizeLine ∧ (∀ u ∈ vs, OkU A u) ∧
  (h.get? a = some { cls := .type "list", data := .seq vs.toArray } ∨ h.get? a = some { cls := .type "tuple", data := .seq vs.toArray })
theorem ArgOb.mono {h : Heap} {A B : List Addr} {a : Addr} (k : ∀ a ∈ A, a ∈ B) (x : ArgOb h A a) : ArgOb h B a := by
  obtain ⟨vs, h1, h2, h3⟩ := x
  exact ⟨vs, h1, fun u hu => (h2 u hu).mono k, h3⟩
theorem wellAll_len {P : Params} {h : Heap} : ∀ {vs : List Value} {ds : List WData}, WellAll P h vs ds → vs.length = ds.length
  | _, _, .nil => rfl
  | _, _, .cons _ b => by
    show _ + 1 = _ + 1
    rw [wellAll_len b]
theorem well_list {P : Params} {h : Heap} {v : Value} {ds : List WData} (x : Well P h v (.list ds)) : ∃ (a : Addr) (vs : List Value), v = .ref a ∧ h.get? a = some { cls := .type "list", data := .seq vs.toArray } ∧ WellAll P h vs ds := by
  cases x with
  | list ho hall => exact ⟨_, _, rfl, ho, hall⟩
theorem well_tuple {P : Params} {h : Heap} {v : Value} {ds : List WData} (x : Well P h v (.tuple ds)) : ∃ (a : Addr) (vs : List Value), v = .ref a ∧ h.get? a = some { cls := .type "tuple", data := .seq vs.toArray } ∧ WellAll P h vs ds := by
  cases x with
  | tuple ho hall => exact ⟨_, _, rfl, ho, hall⟩
theorem well_cons {P : Params} {h : Heap} {us : List Value} {d : WData} {ds : List WData} (x : WellAll P h us (d :: ds)) : ∃ (v : Value) (vs : List Value), us = v :: vs ∧ Well P h v d ∧ WellAll P h vs ds := by
  cases x with
  | cons a b => exact ⟨_, _, rfl, a, b⟩
theorem line_of {n : Nat} (h : n ≤ 1048576) : n ≤ sizeLine := Nat.le_trans h (by decide)
section
variable {P : Params} {h : Heap}
mutual
theorem area_one : ∀ (d : WData) (v : Value), Well P h v d → plW d = true → d.weight ≤ 1048576 → ∃ A : List Addr, OkU A v ∧ ∀ a ∈ A, ArgOb h A a
  | .none, _, x, _, _ => by
    cases x
    exact ⟨[], trivial, fun a m => absurd m (by simp)⟩
  | .bool b, _, x, _, _ => by
    cases x
    exact ⟨[], trivial, fun a m => absurd m (by simp)⟩
  | .int i, _, x, _, _ => by
    cases x
    exact ⟨[], trivial, fun a m => absurd m (by simp)⟩
  | .str s, _, x, _, _ => by
    cases x
    exact ⟨[], trivial, fun a m => absurd m (by simp)⟩
  | .bytes b, _, x, _, _ => by
    cases x
    exact ⟨[], trivial, fun a m => absurd m (by simp)⟩
  | .list ds, _, x, p, z => by
    obtain ⟨a, vs, rfl, ho, hall⟩ := well_list x
    have z2 : WData.weightAll ds ≤ 1048576 := z
    obtain ⟨A, h1, h2⟩ := area_all ds _ hall p fun d hd => Nat.le_trans (weight_mem hd) z2
    have k : ∀ b ∈ A, b ∈ a :: A := fun b hb => List.mem_cons_of_mem _ hb
    refine ⟨a :: A, List.mem_cons_self .., fun b hb => ?_⟩
    rcases List.mem_cons.mp hb with e | m
    · rw [e]
      exact ⟨vs, line_of (by rw [wellAll_len hall]; exact Nat.le_trans (PySem.W.length_le_weightAllW ds) z2), fun u hu => (h1 u hu).mono k, .inl ho⟩
    · exact (h2 b m).mono k
  | .tuple ds, _, x, p, z => by
    obtain ⟨a, vs, rfl, ho, hall⟩ := well_tuple x
    have z2 : WData.weightAll ds ≤ 1048576 := z
    obtain ⟨A, h1, h2⟩ := area_all ds _ hall p fun d hd => Nat.le_trans (weight_mem hd) z2
    have k : ∀ b ∈ A, b ∈ a :: A := fun b hb => List.mem_cons_of_mem _ hb
    refine ⟨a :: A, List.mem_cons_self .., fun b hb => ?_⟩
    rcases List.mem_cons.mp hb with e | m
    · rw [e]
      exact ⟨vs, line_of (by rw [wellAll_len hall]; exact Nat.le_trans (PySem.W.length_le_weightAllW ds) z2), fun u hu => (h1 u hu).mono k, .inr ho⟩
    · exact (h2 b m).mono k
  | .float _, _, _, p, _ => Bool.noConfusion (show false = true from p)
  | .dict _, _, _, p, _ => Bool.noConfusion (show false = true from p)
  | .bytearray _, _, _, p, _ => Bool.noConfusion (show false = true from p)
  | .set _, _, _, p, _ => Bool.noConfusion (show false = true from p)
  | .frozenset _, _, _, p, _ => Bool.noConfusion (show false = true from p)
  | .obj _ _, _, _, p, _ => Bool.noConfusion (show false = true from p)
theorem area_all : ∀ (ds : List WData) (vs : List Value), WellAll P h vs ds → plWs ds = true → (∀ d ∈ ds, d.weight ≤ 1048576) → ∃ A : List Addr, (∀ u ∈ vs, OkU A u) ∧ ∀ a ∈ A, ArgOb h A a
  | [], _, x, _, _ => by
    cases x
    exact ⟨[], fun u m => absurd m (by simp), fun a m => absurd m (by simp)⟩
  | d :: ds, _, x, p, z => by
    obtain ⟨v, vs, rfl, x1, x2⟩ := well_cons x
    have q : plW d = true ∧ plWs ds = true := Bool.and_eq_true_iff.mp p
    obtain ⟨A, a1, a2⟩ := area_one d v x1 q.1 (z d (List.mem_cons_self ..))
    obtain ⟨B, b1, b2⟩ := area_all ds vs x2 q.2 fun e he => z e (List.mem_cons_of_mem _ he)
    have kA : ∀ b ∈ A, b ∈ A ++ B := fun b hb => List.mem_append.mpr (.inl hb)
    have kB : ∀ b ∈ B, b ∈ A ++ B := fun b hb => List.mem_append.mpr (.inr hb)
    refine ⟨A ++ B, fun u hu => ?_, fun b hb => ?_⟩
    · rcases List.mem_cons.mp hu with e | m
      · rw [e]
        exact a1.mono kA
      · exact (b1 u m).mono kB
    · rcases List.mem_append.mp hb with m | m
      · exact (a2 b m).mono kA
      · exact (b2 b m).mono kB
end
end
/-- what is tracked of an argument's object -/
def hoOf (o : Obj) : Option HO := match o.data with
  | .seq vs _ => if (o.cls == Value.type "list") = true then some (.frz o (.lst (vs.toList.map toV))) else some (.frz o (.tup (vs.toList.map toV)))
  | _ => none
def argH (K : PySem.W.Frag) (h : Heap) (A : List Addr) : Hp := fun b => if b ∈ A then (if (K.lookup b).isNone = true then (h.get? b).bind hoOf else none) else none
/-- nothing is tracked but what is known to the object -/
def OnlyF (H : Hp) : Prop := ∀ b, H b = none ∨ ∃ o u, H b = some (.frz o u)
theorem hoOf_lst (vs : List Value) : hoOf { cls := .type "list", data := .seq vs.toArray } = some (.frz { cls := .type "list", data := .seq vs.toArray } (.lst (vs.map toV))) := by
  show (if (Value.type "list" == Value.type "list") = true then some (HO.frz { cls := .type "list", data := .seq vs.toArray } (.lst (vs.toArray.toList.map toV))) else some (HO.frz { cls := .type "list", data := .seq vs.toArray } (.tup (vs.toArray.toList.map toV)))) = _
  rw [if_pos (beq_self_eq_true _)]
theorem hoOf_tup (vs : List Value) : hoOf { cls := .type "tuple", data := .seq vs.toArray } = some (.frz { cls := .type "tuple", data := .seq vs.toArray } (.tup (vs.map toV))) := by
  show (if (Value.type "tuple" == Value.type "list") = true then some (HO.frz { cls := .type "tuple", data := .seq vs.toArray } (.lst (vs.toArray.toList.map toV))) else some (HO.frz { cls := .type "tuple", data := .seq vs.toArray } (.tup (vs.toArray.toList.map toV)))) = _
  rw [if_neg (by decide)]
section
variable {P : Program} {w : World} {K : PySem.W.Frag} {h : Heap} {A : List Addr}
theorem argH_at {b : Addr} {o : Obj} (hb : b ∈ A) (hk : K.lookup b = none) (e : h.get? b = some o) : argH K h A b = hoOf o := by
  unfold argH
  rw [if_pos hb, hk, if_pos (show (none : Option Obj).isNone = true from rfl), e] <;> rfl
theorem of_argH {b : Addr} {u : HO} (q : argH K h A b = some u) : b ∈ A ∧ K.lookup b = none := by
  unfold argH at q
  by_cases hb : b ∈ A
  · rw [if_pos hb] at q
    cases hk : K.lookup b with
    | none => exact ⟨hb, rfl⟩
    | some o =>
      rw [hk, if_neg (by simp)] at q
      cases q
  · rw [if_neg hb] at q
    cases q
/-- what stands tracked -/
theorem argH_is (ar : ∀ a ∈ A, ArgOb h A a) {b : Addr} {u : HO} (q : argH K h A b = some u) : K.lookup b = none ∧ ∃ vs : List Value, vs.length ≤ sizeLine ∧ (∀ u ∈ vs, OkU A u) ∧
    ((h.get? b = some { cls := .type "list", data := .seq vs.toArray } ∧ u = .frz { cls := .type "list", data := .seq vs.toArray } (.lst (vs.map toV))) ∨
     (h.get? b = some { cls := .type "tuple", data := .seq vs.toArray } ∧ u = .frz { cls := .type "tuple", data := .seq vs.toArray } (.tup (vs.map toV)))) := by
  obtain ⟨hb, hk⟩ := of_argH q
  obtain ⟨vs, h1, h2, h3⟩ := ar b hb
  refine ⟨hk, vs, h1, h2, ?_⟩
  rcases h3 with e | e
  · rw [argH_at hb hk e, hoOf_lst] at q
    exact .inl ⟨e, (Option.some.inj q).symm⟩
  · rw [argH_at hb hk e, hoOf_tup] at q
    exact .inr ⟨e, (Option.some.inj q).symm⟩
theorem argH_only (ar : ∀ a ∈ A, ArgOb h A a) : OnlyF (argH K h A) := fun b => by
  cases q : argH K h A b with
  | none => exact .inl rfl
  | some u =>
    obtain ⟨_, vs, _, _, ⟨_, e⟩ | ⟨_, e⟩⟩ := argH_is ar q
    · exact .inr ⟨_, _, by rw [e]⟩
    · exact .inr ⟨_, _, by rw [e]⟩
theorem argH_ok (ar : ∀ a ∈ A, ArgOb h A a) : HOk P w (argH K h A) h := fun b u q => by
  obtain ⟨_, vs, h1, h2, ⟨e, rfl⟩ | ⟨e, rfl⟩⟩ := argH_is ar q
  · exact ⟨e, by rw [List.length_map]; exact h1, vs, _, vals_toV h2, e⟩
  · exact ⟨e, by rw [List.length_map]; exact h1, vs, vals_toV h2, _, e, rfl, _, rfl⟩
theorem seq_inj {c c' : Value} {vs us : List Value} (e : (some { cls := c, data := .seq vs.toArray } : Option Obj) = some { cls := c', data := .seq us.toArray }) : c = c' ∧ vs = us := by
  have e1 := Option.some.inj e
  have e2 : c = c' := congrArg Obj.cls e1
  have e3 : Data.seq vs.toArray = Data.seq us.toArray := congrArg Obj.data e1
  injection e3 with e4
  refine ⟨e2, ?_⟩
  have e5 := congrArg Array.toList e4
  simpa using e5
/-- a list argument -/
theorem argL (KX : K.In h) (ar : ∀ a ∈ A, ArgOb h A a) {a : Addr} {vs : List Value} (ha : a ∈ A) (e : h.get? a = some { cls := .type "list", data := .seq vs.toArray }) : (∀ u ∈ vs, OkU A u) ∧ SqL K (argH K h A) a (vs.map toV) := by
  obtain ⟨us, h1, h2, h3⟩ := ar a ha
  have hu : us = vs := by
    rcases h3 with q | q
    · rw [e] at q
      exact (seq_inj q).2.symm
    · rw [e] at q
      exact absurd (Value.type.inj (seq_inj q).1) (by decide)
  subst hu
  refine ⟨h2, ?_⟩
  cases hk : K.lookup a with
  | none => exact .inl (.inr ⟨_, by rw [argH_at ha hk e, hoOf_lst]⟩)
  | some o =>
    have e2 := KX a o hk
    rw [e] at e2
    obtain rfl := Option.some.inj e2
    exact .inr ⟨_, us.toArray, _, hk, rfl, rfl, rfl, by rw [List.size_toArray]; exact h1, by simpa using vals_toV h2⟩
theorem argT (KX : K.In h) (ar : ∀ a ∈ A, ArgOb h A a) {a : Addr} {vs : List Value} (ha : a ∈ A) (e : h.get? a = some { cls := .type "tuple", data := .seq vs.toArray }) : (∀ u ∈ vs, OkU A u) ∧ SqT K (argH K h A) a (vs.map toV) := by
  obtain ⟨us, h1, h2, h3⟩ := ar a ha
  have hu : us = vs := by
    rcases h3 with q | q
    · rw [e] at q
      exact absurd (Value.type.inj (seq_inj q).1) (by decide)
    · rw [e] at q
      exact (seq_inj q).2.symm
  subst hu
  refine ⟨h2, ?_⟩
  cases hk : K.lookup a with
  | none => exact .inl (.inr ⟨_, by rw [argH_at ha hk e, hoOf_tup]⟩)
  | some o =>
    have e2 := KX a o hk
    rw [e] at e2
    obtain rfl := Option.some.inj e2
    exact .inr ⟨_, us.toArray, _, hk, rfl, rfl, by rw [List.size_toArray]; exact h1, by simpa using vals_toV h2⟩
mutual
theorem dw_one {Pm : Params} (KX : K.In h) (ar : ∀ a ∈ A, ArgOb h A a) : ∀ (d : WData) (v : Value), Well Pm h v d → plW d = true → OkU A v → Dw K (argH K h A) (toV v) d
  | .none, _, x, _, _ => by
    cases x
    exact .non
  | .bool b, _, x, _, _ => by
    cases x
    exact .bl b
  | .int i, _, x, _, _ => by
    cases x
    exact .int i
  | .str s, _, x, _, _ => by
    cases x
    exact .str s
  | .bytes b, _, x, _, _ => by
    cases x
    have z := Dw.byt (K := K) (H := argH K h A) b.toArray
    exact z
  | .list ds, _, x, p, hu => by
    obtain ⟨a, vs, rfl, ho, hall⟩ := well_list x
    obtain ⟨h2, hs⟩ := argL KX ar hu ho
    exact .lst hs (dw_all KX ar ds _ hall p h2)
  | .tuple ds, _, x, p, hu => by
    obtain ⟨a, vs, rfl, ho, hall⟩ := well_tuple x
    obtain ⟨h2, hs⟩ := argT KX ar hu ho
    exact .tup hs (dw_all KX ar ds _ hall p h2)
  | .float _, _, _, p, _ => Bool.noConfusion (show false = true from p)
  | .dict _, _, _, p, _ => Bool.noConfusion (show false = true from p)
  | .bytearray _, _, _, p, _ => Bool.noConfusion (show false = true from p)
  | .set _, _, _, p, _ => Bool.noConfusion (show false = true from p)
  | .frozenset _, _, _, p, _ => Bool.noConfusion (show false = true from p)
  | .obj _ _, _, _, p, _ => Bool.noConfusion (show false = true from p)
theorem dw_all {Pm : Params} (KX : K.In h) (ar : ∀ a ∈ A, ArgOb h A a) : ∀ (ds : List WData) (vs : List Value), WellAll Pm h vs ds → plWs ds = true → (∀ u ∈ vs, OkU A u) → DwAll K (argH K h A) (vs.map toV) ds
  | [], _, x, _, _ => by
    cases x
    exact .nil
  | d :: ds, _, x, p, hu => by
    obtain ⟨v, vs, rfl, x1, x2⟩ := well_cons x
    have q : plW d = true ∧ plWs ds = true := Bool.and_eq_true_iff.mp p
    exact .cons (dw_one KX ar d v x1 q.1 (hu _ (List.mem_cons_self ..))) (dw_all KX ar ds vs x2 q.2 fun u m => hu u (List.mem_cons_of_mem _ m))
end
end
/-! ### the call -/
theorem spec_call {P : Program} {w : World} {K : PySem.W.Frag} {mg mb : Str → Option Value} {CX : CXT} {k : Nat} {fa : Addr} {fd : FuncData} {ps : List Str} {sp : Sp} {s₁ : Shared} {vals : List Value} {ds : List WData} {R : PySem.W.WRecords} {cl : Str → Option Addr} {d0 : WData}
    (KX : K.In s₁.heap) (hns : s₁.heap.Ns mainGlobals mg) (hb : s₁.heap.Ns builtinsNs mb) (hbb : ∀ x : Str, x ≠ "__name__" → mb x = bootBuiltins x) (hlim : s₁.heap.NoLimit) (hg : s₁.gens = #[])
    (hwl : WellAll w.params s₁.heap vals ds) (hpl : plWs ds = true) (hwt : ∀ d ∈ ds, d.weight ≤ 1048576) (hr : Room k callerA)
    (F : ∀ base : Heap, K.In base → base.Ns mainGlobals mg → FnOk P w K mg base CX k fa fd ps sp) (hbind : ∀ (s : Shared) (us : List Value), us.length = ps.length → BindsTo s fd ⟨us, []⟩ (ps.zip us)) (hlen : ds.length = ps.length)
    (hsp : ∀ (H : Hp) (xs : List V), OnlyF H → DwAll K H xs ds → sp xs H (fun v H' => Dw K H' v d0) fun _ _ _ => False)
    (hCX : ∀ H e s', CX [] H s₁ (fun _ _ _ => False) e s' → False) :
    codeAny (model P w) callerA (.call (.ref fa) ⟨vals, []⟩) (fun r s' => ∃ u as, r = .ok (.ret u) ∧ ReadsW R cl s'.heap u d0 as ∧ OldK s₁.heap s'.heap ∧ s'.os = s₁.os ∧ AllBare s'.gens) s₁ := by
  obtain ⟨A, ho, ar⟩ := area_all ds vals hwl hpl hwt
  have hO : OnlyF (argH K s₁.heap A) := argH_only ar
  have hok : HOk P w (argH K s₁.heap A) s₁.heap := argH_ok ar
  have hS := dw_all KX ar ds vals hwl hpl ho
  have hV := vals_toV ho
  have hK : ∀ b u, argH K s₁.heap A b = some u → K.lookup b = none := fun b u q => (argH_is ar q).1
  have noA : ∀ {b : Addr} {o : Obj} {es : Array DictEntry} {ep : Nat}, s₁.heap.get? b = some o → o.data = .dict es ep → argH K s₁.heap A b = none := fun {b o es ep} e d => by
    cases q : argH K s₁.heap A b with
    | none => rfl
    | some u =>
      obtain ⟨_, vs, _, _, ⟨e2, _⟩ | ⟨e2, _⟩⟩ := argH_is ar q
      · rw [e2] at e
        cases e
        have d' : Data.seq vs.toArray _ = Data.dict es ep := d
        cases d'
      · rw [e2] at e
        cases e
        have d' : Data.seq vs.toArray _ = Data.dict es ep := d
        cases d'
  generalize argH K s₁.heap A = H at hO hok hS hK noA
  have base_of : ∀ {b : Addr} {o : Obj}, s₁.heap.get? b = some o → H b = none → (hidT s₁.heap H).get? b = some o := fun e n => hidT_get e n
  have nsK : ∀ {b : Addr} {m : Str → Option Value}, s₁.heap.Ns b m → (hidT s₁.heap H).Ns b m := fun {b m} ⟨o, es, ep, e, d, r⟩ => ⟨o, es, ep, base_of e (noA e d), d, r⟩
  have nK : ∀ b o, K.lookup b = some o → H b = none := fun b o e => by
    cases q : H b with
    | none => rfl
    | some u =>
      rw [hK b u q] at e
      cases e
  have hKb : K.In (hidT s₁.heap H) := fun b o e => base_of (KX b o e) (nK b o e)
  have hM : Mod K mg (hidT s₁.heap H) := ⟨hKb, nsK hns, ⟨mb, nsK hb, hbb⟩, let ⟨mc, h1, h2⟩ := hlim; ⟨mc, nsK h1, h2⟩⟩
  have e0 : Env0 P w K mg (hidT s₁.heap H) callerA [] s₁ H := ⟨rfl, hM, fun b o e => of_hidT e, Nat.le_of_eq (hidT_size _ _), trivial, fun b hb => absurd (show b ∈ ([] : List Addr) from hb) (by simp), hok, .of_eq hg⟩
  have hl : vals.length = ps.length := by rw [wellAll_len hwl]; exact hlen
  refine codeAny_mono ((F _ hKb (nsK hns)).run callerA [] s₁ H ⟨vals, []⟩ vals (vals.map toV) _ _ hr e0 (hbind s₁ vals hl) hV (hsp H _ hO hS)) fun r s' x => ?_
  cases r with
  | error e => exact (hCX H e s' x).elim
  | ok fl =>
    cases fl with
    | next => exact False.elim x
    | brk => exact False.elim x
    | cont => exact False.elim x
    | ret u =>
      obtain ⟨v, H', os, bare, un, hok', r', q⟩ := x
      have kept : ∀ b o, s₁.heap.get? b = some o → s'.heap.get? b = some o := fun b o e => by
        cases q2 : H b with
        | none => exact un.keep b o e q2 (by intro z; exact absurd (show b ∈ ([] : List Addr) from z) (by simp)) (by simp)
        | some u2 =>
          rcases hO b with z | ⟨ob, u3, z⟩
          · rw [q2] at z
            cases z
          · have z2 := un.frzs b ob _ z
            obtain ⟨e1, _⟩ := hok b _ z
            obtain ⟨e2, _⟩ := hok' b _ z2
            rw [e] at e1
            cases e1
            exact e2
      have KX' : K.In s'.heap := fun b o e => kept b o (KX b o e)
      obtain ⟨as, hrd⟩ := Dw.reads (R := R) (cl := cl) hok' KX' d0 v u q r'
      exact ⟨u, as, rfl, hrd, OldK.of_keep kept, os, bare⟩
/-! ### the row -/
theorem layable_weight {ds : List WData} (h : WData.layableAll ds = true) : ∀ d ∈ ds, d.weight ≤ 1048576 := fun d hd =>
  (PySem.W.layableW_iff.mp (List.all_eq_true.mp h d hd)).2.2
theorem encAll_len : ∀ (cs : List Codec) (a : Codec.denoteAll cs), (Codec.encAll cs a).length = cs.length
  | [], _ => rfl
  | c :: cs, a => by
    show (Codec.encAll cs a.2).length + 1 = cs.length + 1
    rw [encAll_len cs a.2]
/-- the goal that k_headS leaves (case hc), from the promise of the row's def: whatever the arguments that the codecs let and the row asks for, the def gives what stands for enc (f ..) -/
theorem walk_spec {r : OpenSpec} {k : Nat} {q : Program} {loose : List Str} {XP : (Str → Option Value) → Heap → Prop} {YP : World → Heap → Prop} {d : DefRec} {K : Params → PySem.W.Frag} {CX : World → CXT} {ps : List Str} {sp : World → Sp}
    (hwell : r.wellSaid = true) (hdf : d.params.defaults = []) (hlen : r.args.length = ps.length) (hr : Room k callerA)
    (hY : ∀ (w : World) (h : Heap), YP w h → (K w.params).In h)
    (F : ∀ (w : World) (mg : Str → Option Value) (fa : Addr) (h : Heap), YP w h → (K w.params).In h → h.Ns mainGlobals mg → mg d.name = some (.ref fa) →
      ∃ fd : FuncData, (∀ (s : Shared) (us : List Value), us.length = ps.length → BindsTo s fd ⟨us, []⟩ (ps.zip us)) ∧
        ∀ base : Heap, (K w.params).In base → base.Ns mainGlobals mg → FnOk r.prog w (K w.params) mg base (CX w) k fa fd ps (sp w))
    (hsp : ∀ (w : World) (H : Hp) (xs : List V) (a : Codec.denoteAll r.args), OnlyF H → Codec.withinAll r.args a = true → Codec.app r.args r.asked a = true → DwAll (K w.params) H xs (Codec.encAll r.args a) →
      sp w xs H (fun v H' => Dw (K w.params) H' v (r.ret.enc (Codec.app r.args r.f a))) fun _ _ _ => False)
    (hCX : ∀ (w : World) (H : Hp) (s : Shared) (e : Value) (s' : Shared), CX w [] H s (fun _ _ _ => False) e s' → False) :
    PySem.W.WalkOS q loose XP YP r d [] (fun f vs => PySem.call f vs) := by
  intro w s_0 s₁ mg mb G Y fa o pm cd doc dV kV ho hd hcd hD hmg hg args vals as hpre hlay hrd hwl hlo
  obtain ⟨a, e1, e2⟩ := PySem.W.os_pre_some hpre
  obtain ⟨e3, hwi⟩ := Codec.encAll_of_decAll r.args args a e1
  subst e3
  have KX := hY w _ Y
  obtain ⟨fd, hb, hF⟩ := F w mg fa _ Y KX G.T.g hmg
  refine PySem.W.enter_call (codeAny_mono (spec_call (R := []) (cl := classAt s_0.heap) (d0 := r.ret.enc (Codec.app r.args r.f a)) KX G.T.g G.T.b G.T.builtins G.T.nolimit hg hwl (pl_encAll _ _) (layable_weight hlay) hr hF hb (by rw [encAll_len]; exact hlen)
    (fun H xs hO hS => hsp w H xs a hO hwi e2 hS) fun H e s' => hCX w H s₁ e s') fun r' s' hq => ?_)
  obtain ⟨u, as', rfl, h1, h2, h3, h4⟩ := hq
  exact ⟨.inl ⟨u, _, as', rfl, fun _ => rfl, h1, (OpenSpec.post_iff hwell hwi _ _).mpr rfl, fun z => Bool.noConfusion (show false = true from z)⟩, h2, h3, h4⟩
/-- the same where the promise hangs on the written part alone -/
theorem walk_specK {r : OpenSpec} {k : Nat} {q : Program} {loose : List Str} {XP : (Str → Option Value) → Heap → Prop} {YP : World → Heap → Prop} {d : DefRec} {K : Params → PySem.W.Frag} {CX : CXT} {ps : List Str} {sp : PySem.W.Frag → Sp}
    (hwell : r.wellSaid = true) (hdf : d.params.defaults = []) (hlen : r.args.length = ps.length) (hr : Room k callerA)
    (hY : ∀ (w : World) (h : Heap), YP w h → (K w.params).In h)
    (F : ∀ (w : World) (mg : Str → Option Value) (fa : Addr) (h : Heap), YP w h → (K w.params).In h → h.Ns mainGlobals mg → mg d.name = some (.ref fa) →
      ∃ fd : FuncData, (∀ (s : Shared) (us : List Value), us.length = ps.length → BindsTo s fd ⟨us, []⟩ (ps.zip us)) ∧
        ∀ base : Heap, (K w.params).In base → base.Ns mainGlobals mg → FnOk r.prog w (K w.params) mg base CX k fa fd ps (sp (K w.params)))
    (hsp : ∀ (K : PySem.W.Frag) (H : Hp) (xs : List V) (a : Codec.denoteAll r.args), OnlyF H → Codec.withinAll r.args a = true → Codec.app r.args r.asked a = true → DwAll K H xs (Codec.encAll r.args a) →
      sp K xs H (fun v H' => Dw K H' v (r.ret.enc (Codec.app r.args r.f a))) fun _ _ _ => False)
    (hCX : ∀ (H : Hp) (s : Shared) (e : Value) (s' : Shared), CX [] H s (fun _ _ _ => False) e s' → False) :
    PySem.W.WalkOS q loose XP YP r d [] (fun f vs => PySem.call f vs) :=
  walk_spec (K := K) (CX := fun _ => CX) (sp := fun w => sp (K w.params)) hwell hdf hlen hr hY F (fun w H xs a h1 h2 h3 h4 => hsp (K w.params) H xs a h1 h2 h3 h4) fun _ H s e s' => hCX H s e s'
end L2

set_option Elab.async false
set_option linter.all false
set_option maxRecDepth 100000
set_option maxHeartbeats 2000000
namespace L2
open PySem PySem.Spec PyProof.Rows

/-! ### a dict of the module: read alone -/
def KDict (P : Program) (w : World) (K : PySem.W.Frag) (a : Addr) (kvs : List (Key × V)) : Prop :=
  (a == sysModules) = false ∧ ∃ (o : Obj) (es : Array DictEntry) (ep : Nat) (vs : List (Key × Value)), K.lookup a = some o ∧ o.ExactDict ∧ o.data = .dict es ep ∧
    PySem.KeysOf (mixKind P w) es ∧ Pairs (mixKind P w) es.toList vs ∧ (vs.map (·.1)).Nodup ∧ KV kvs vs
section
variable {X : Cx} {pins : List (Addr × Obj)} {σ : St} {H : Hp} {s : Shared} {a : Addr} {kvs : List (Key × V)} {o i : Expr} {td ty : TE} {pos : Pos}
theorem Inv.kdict (I : Inv X pins σ H s) (h : KDict X.prog X.w X.K a kvs) : ∃ vs, KV kvs vs ∧ s.heap.DictOf (mixKind X.prog X.w) a vs := by
  obtain ⟨_, ob, es, ep, vs, hk, he, hd, ks, ps, nd, kv⟩ := h
  exact ⟨vs, kv, ob, es, ep, I.kIn a ob hk, he, hd, ks, ps, nd⟩
def tKGet (X : Cx) (td ty : TE) : TE := fun σ H Q => td σ H fun x H1 => ty σ H1 fun y H2 => ∃ a kvs k v, x = .ref a ∧ y = kV k ∧ KDict X.prog X.w X.K a kvs ∧ valV kvs k = some v ∧ Q v H2
def tKNotIn (X : Cx) (ty td : TE) : TE := fun σ H Q => ty σ H fun y H1 => td σ H1 fun x H2 => ∃ a kvs k, x = .ref a ∧ y = kV k ∧ KDict X.prog X.w X.K a kvs ∧ Q (.bl (!(valV kvs k).isSome)) H2
def tKIn (X : Cx) (ty td : TE) : TE := fun σ H Q => ty σ H fun y H1 => td σ H1 fun x H2 => ∃ a kvs k, x = .ref a ∧ y = kV k ∧ KDict X.prog X.w X.K a kvs ∧ Q (.bl (valV kvs k).isSome) H2
theorem pe_kget (ho : PE X o td) (hi : PE X i ty) (hs : NoSl i) : PE X (.Subscript o i pos) (tKGet X td ty) := by
  intro pins s σ H Q I h
  refine subD_of PySem.F.slot_dict_getitem.lookup hs (thn (ho pins s σ H _ I h) fun u s1 ⟨x, H1, I1, rx, q1⟩ => thn (hi pins s1 σ H1 _ I1 q1) fun iv s2 ⟨y, H2, I2, ry, a, kvs, k, v, ex, ey, hd, l, q2⟩ => ?_)
  subst ex ey
  obtain rfl : u = Value.ref a := rx
  obtain ⟨vs, rel, dd⟩ := I2.kdict hd
  obtain ⟨w', hw, rw'⟩ := RelO.some_of (v := v) (o := valueAt vs k) (by rw [← l]; exact rel.val k)
  exact ⟨dd.typeIs, wpAny_getItem_of (kV_is ry) dd.mapOf hw ⟨v, H2, I2.tok _, rw', q2⟩⟩
theorem pc_knotin (hi : PE X i ty) (ho : PE X o td) : PC X .NotIn i o (tKNotIn X ty td) := by
  intro pins s σ H Q I h
  refine thn (hi pins s σ H _ I h) fun iv s1 ⟨y, H1, I1, ry, q1⟩ => thn (ho pins s1 σ H1 _ I1 q1) fun u s2 ⟨x, H2, I2, rx, a, kvs, k, ex, ey, hd, q2⟩ => ?_
  subst ex ey
  obtain rfl : u = Value.ref a := rx
  obtain ⟨vs, rel, dd⟩ := I2.kdict hd
  refine wpAny_notIn_of (kV_is ry) hd.1 dd.mapOf ?_
  rw [← (rel.val k).isSome_eq]
  exact ⟨.bl _, H2, I2.tok _, rfl, q2⟩
theorem pc_kin (hi : PE X i ty) (ho : PE X o td) : PC X .In i o (tKIn X ty td) := by
  intro pins s σ H Q I h
  refine thn (hi pins s σ H _ I h) fun iv s1 ⟨y, H1, I1, ry, q1⟩ => thn (ho pins s1 σ H1 _ I1 q1) fun u s2 ⟨x, H2, I2, rx, a, kvs, k, ex, ey, hd, q2⟩ => ?_
  subst ex ey
  obtain rfl : u = Value.ref a := rx
  obtain ⟨vs, rel, dd⟩ := I2.kdict hd
  refine wpAny_in_of (kV_is ry) hd.1 dd.mapOf ?_
  rw [← (rel.val k).isSome_eq]
  exact ⟨.bl _, H2, I2.tok _, rfl, q2⟩
/-! ### a value of the module that is called -/
def RunOk (X : Cx) (f : Addr) (sp : Sp) : Prop := ∀ (pins : List (Addr × Obj)) (σ : St) (H : Hp) (s : Shared) (Q : VK) (us : List Value) (vs : List V), Inv X pins σ H s → Vals vs us → sp vs H Q E0 →
  wpAny (model X.prog X.w) X.A (call (.ref f) us) (EP X pins σ Q) X.xe s
theorem RunOk.of {CX : CXT} {k : Nat} {f : Addr} {fd : FuncData} {ps : List Str} {sp : Sp} (F : FnOk X.prog X.w X.K X.mg X.base CX k f fd ps sp) (hr : Room k X.A) (hb : Binds X.K fd ps []) (hx : Passes CX X E0) : RunOk X f sp :=
  fun pins σ H s Q us vs I r h => run_fn (dvs := []) (ds := []) F hr hb .nil hx I r (by rw [List.append_nil]; exact h)
def tCallV (X : Cx) (te : TE) (t : TA) : TE := fun σ H Q => te σ H fun x H1 => ∃ f sp, x = .ref f ∧ PySem.W.keepIn X.K (.ref f) = true ∧ RunOk X f sp ∧ t σ H1 fun vs H2 => sp vs H2 Q E0
theorem pe_callV {func e : Expr} {es : List Expr} {te : TE} {t : TA} (hf : PE X func te) (ha : PA X (e :: es) t)
    (hev : eval (.Call func (e :: es) [] pos) X.env = (do callWith pos (← eval func X.env) [] (backTo pos (starEach (e :: es) X.env)) (backToKw pos (keywordEach [] X.env))) := by rfl)
    (he : starEach (e :: es) X.env = (false, eval e X.env) :: starEach es X.env := by rfl) (hpl : (backTo pos (starEach es X.env)).any (·.1) = false := by rfl) :
    PE X (.Call func (e :: es) [] pos) (tCallV X te t) := by
  intro pins s σ H Q I h
  refine Call_ (thn (hf pins s σ H _ I h) fun u s1 ⟨x, H1, I1, rx, f, sp, ex, hk, ro, q1⟩ => ?_) hev
  subst ex
  obtain rfl : u = Value.ref f := rx
  refine PySem.W.callWith_K (h₀ := X.base) I.ok.mod.kin hk (thn (ha pos pins s1 σ H1 _ I1 q1) fun us s2 ⟨vs, H2, I2, r, q⟩ => ⟨I2.kIn, ?_⟩) he hpl
  exact ro pins σ H2 s2 Q us vs I2 r q
end
end L2

set_option Elab.async false
set_option linter.all false
set_option maxRecDepth 100000
set_option maxHeartbeats 2000000
namespace L2
open PySem PySem.Spec PyProof.Rows
section
variable {X : Cx}
/-- sorted(d): the keys of a dict of ints -/
def rSortedD : List V → Hp → VK → Prop := fun vs H Q => ∃ (a : Addr) (kvs : List (Int × V)), vs = [V.ref a] ∧ Rd H a (.dK (kvs.map fun p => (Sum.inl p.1, p.2))) ∧ kvs.length < 64 ∧
  ∀ (ns : List Int) (p : Addr), ns.Perm (kvs.map (·.1)) → ns.Pairwise (· ≤ ·) → H p = none → Q (.ref p) (upd H p (.lst (ns.map V.int)))
theorem ints_at : ∀ {us : List Value} {ns : List Int}, us.length = ns.length → (∀ (j : Nat) (u : Value), us[j]? = some u → ∃ n t, ns[j]? = some n ∧ u = Value.int n t) → IntsAre us ns
  | [], [], _, _ => .nil
  | u :: us, n :: ns, hl, h => by
    obtain ⟨n', t, e1, e2⟩ := h 0 u rfl
    have e3 : n = n' := Option.some.inj e1
    subst e3 e2
    exact .cons _ _ (ints_at (by simpa using hl) fun j u hu => h (j + 1) u hu)
theorem cr_sortedD (hc : X.calm = true) : CallR X (.builtin "sorted") rSortedD := by
  intro pins s σ H vs us Q I r h
  obtain ⟨a, kvs, rfl, hd, h64, q⟩ := h
  rw [Vals.ref1 r]
  obtain ⟨hz, hsys, ws, rel, dd⟩ := dk_rd I.hok hd
  obtain ⟨ep, hat⟩ := dd.dictAt
  have hlen : ws.length = kvs.length := by rw [← rel.length, List.length_map]
  refine Calls.call_function_entry kind_sorted plain_sorted entry_sorted (args_sorted1 _) ?_
  unfold Builtin.«sorted»
  refine wpAny_bind (m := checkCount "sorted" 1 1 _) (wpAny_pure ?_)
  refine wpAny_bind (PySem.W.kdu_collect (A := X.A.in1) (PySem.W.kdl_dict (knd := mixKind X.prog X.w) (kvs := ws) (ep := ep) hsys) (I.ok.hd hc) hat (by rw [hlen]; exact small64 h64) fun h' tk acc hk hacc => ?_)
  have hl : acc.toList.length = ws.length := by rw [Array.length_toList]; exact hacc.1
  have hi : IntsAre acc.toList (kvs.map (·.1)) := ints_at (by rw [hl, List.length_map, hlen]) fun j u hu => by
    obtain ⟨k, x, hx, hkk⟩ := hacc.2 j u (by rw [← Array.getElem?_toList]; exact hu)
    have hks := rel.keys
    have e : (ws.map (·.1))[j]? = some k := by rw [List.getElem?_map, hx]; rfl
    rw [← hks, List.map_map, List.getElem?_map] at e
    obtain ⟨p, hp, hp2⟩ := Option.map_eq_some_iff.mp e
    obtain rfl : Sum.inl p.1 = k := hp2
    obtain ⟨t, e2⟩ := Value.isInt_shape (k := p.1) (v := u) hkk
    exact ⟨p.1, t, by rw [List.getElem?_map, hp]; rfl, e2⟩
  have h64' : acc.toList.length < 64 := by rw [hl, hlen]; exact h64
  refine wpAny_bind (wpAny_newList ?_ (small64 h64'))
  have hob : (h'.push { cls := .type "list", data := .seq acc.toList.toArray }).get? h'.objs.size = some { cls := .type "list", data := .seq acc.toList.toArray } := Heap.get?_push_size _ rfl
  refine wpAny_bind (wpAny_holding (wpAny_call_entry PyProof.Rows.slot_list_sort ⟨_, hob, rfl⟩ PyProof.Rows.entry_list_sort
    (PyProof.Rows.list_sort_tree hob hi h64' fun out ns' h1 h2 h3 => ⟨.none, rfl, ?_⟩) (PyProof.Rows.args_list_sort _)))
  obtain ⟨ep2, he'⟩ := PyProof.Rows.sortedHeap_at (vs := acc.toList) (out := out) hob
  have hlen2 : (ns'.map V.int).length ≤ sizeLine := by rw [List.length_map, h2.length_eq, List.length_map]; exact small64 h64
  have I' := I.kept (t' := tk) hk
  refine wpAny_pure ⟨_, rfl, .ref h'.objs.size, upd H h'.objs.size (.lst (ns'.map V.int)), I'.laid (t' := tk) (fun b u hb => ?_) (Nat.le_refl _) ⟨hlen2, out.toList, ep2, vals_of_ints h1, he'⟩, rfl, q ns' _ h2 h3 (I'.hok.fresh (Nat.le_refl _))⟩
  have hlt : b < h'.objs.size := Heap.lt_size hb
  have hb2 : (h'.push { cls := .type "list", data := .seq acc.toList.toArray }).get? b = some u := Heap.get?_push_of_some _ hb
  have hb3 := Heap.lt_size hb2
  rw [PyProof.Rows.sortedHeap_old (Nat.ne_of_lt hlt) hb3]
  exact hb2
end
end L2

set_option Elab.async false
set_option linter.all false
set_option maxRecDepth 100000
set_option maxHeartbeats 2000000
namespace L2
open PySem PySem.Spec PyProof.Rows
open PySem.W (kla_fn kla_obj envX)
/-! ### a lambda's body -/
def cxLam (CX : CXT) (P : Program) (w : World) (K : PySem.W.Frag) (mg : Str → Option Value) (base : Heap) (N : List Str) (qual : Str) (scope : Scope) (f : Addr) (cd : Value) (cl : List (Str × Addr)) (A : Around) (outer : List Env) (s : Shared) (H : Hp) (E : XK) : Cx where
  prog := P
  w := w
  K := K
  mg := mg
  base := base
  A := A.deeper (envX qual scope s.heap.objs.size f cd cl)
  N := N
  s_0 := s
  H_0 := H
  env := envX qual scope s.heap.objs.size f cd cl
  outer := outer
  stack := envX qual scope s.heap.objs.size f cd cl :: outer
  ex := []
  calm := true
  fn := fun _ => false
  pn := []
  xe := fun e s' => wpAny (model P w) (A.deeper (envX qual scope s.heap.objs.size f cd cl)) (leaving (envX qual scope s.heap.objs.size f cd cl) e) (fun _ s'' => CX outer H s E e s'') (fun e' s'' => CX outer H s E e' s'') s'
/-- the names that a lambda takes from around: each by its cell -/
structure Clo (scope : Scope) (H : Hp) (h : Heap) (cl : List (Str × Addr)) (fs : List (Str × V)) : Prop where
  inj : ∀ x y c, cl.lookup x = some c → cl.lookup y = some c → x = y
  has : ∀ x, scope.names.lookup x = some .free → ∃ c, cl.lookup x = some c
  cell : ∀ x c, cl.lookup x = some c → ∃ v, h.IsCell c v
  free : ∀ x c, cl.lookup x = some c → H c = none
  at_ : ∀ x v, (x, v) ∈ fs → scope.names.lookup x = some .free ∧ ∃ c u, cl.lookup x = some c ∧ h.IsCell c (some u) ∧ RelV v u
theorem lam_run {CX : CXT} {P : Program} {w : World} {K : PySem.W.Frag} {mg : Str → Option Value} {base : Heap} {k : Nat} {f c' : Addr} {name qual x : Str} {params : Arguments} {body : Expr} {scope : Scope} {pm ctv : Value} {cl : List (Str × Addr)} {fs : List (Str × V)}
    {A : Around} {outer : List Env} {s : Shared} {H : Hp} {u : Value} {v : V} {Q : VK} {E : XK} {t : TE}
    (hr : Room (k + 1) A) (e0 : Env0 P w K mg base A outer s H) (ho : s.heap.get? f = some (kla_obj name qual params body scope cl pm c' ctv)) (hcd : s.heap.CodeRec (.ref c') qual)
    (hk : scope.kind = .function) (hco : scope.isCoroutine = false) (hgen : scope.isGenerator = false) (hcell : ∀ y ∈ scope.names, y.2 ≠ .cell) (hx : scope.names.lookup x = some .local)
    (hbind : ∀ u, bindArgs (kla_fn name qual params body scope cl pm (.ref c') ctv) ⟨[u], []⟩ = pure [(x, u)])
    (hnd : (x :: fs.map (·.1)).Nodup) (C : Clo scope H s.heap cl fs) (r : RelV v u)
    (hb : PE (cxLam CX P w K mg base (x :: fs.map (·.1)) qual scope f (.ref c') cl A outer s H E) body t) (h : t (some v :: fs.map (some ·.2)) H Q) :
    codeAny (model P w) A (.call (.ref f) ⟨[u], []⟩) (CR CX outer P w H s Q E) s := by
  have KX : K.In s.heap := e0.mod.kin.keeps fun b o e => (e0.bs b o e).1
  have lim : s.heap.NoLimit := e0.mod.nolimit.keeps fun b o e => (e0.bs b o e).1
  refine PySem.W.kla_callFunE hr.depth ho rfl hco hgen rfl hcd ?_
  rw [hbind]
  refine wpAny_pure (wpAny_newFunctionEnv hcell (fun y hy => by rw [List.mem_singleton.mp hy]; exact hx) (fun h₁ hns hsb => ⟨lim.fresh _ hsb, ?_⟩) hk)
  show codeAny _ _ (.expr body (envX qual scope s.heap.objs.size f (.ref c') cl)) _ _
  have hk₁ : ∀ b o, s.heap.get? b = some o → h₁.get? b = some o := fun b o e => hsb.extBut b o (Nat.ne_of_lt (Heap.lt_size e)) (Heap.get?_push_of_some _ e)
  have noA : ∀ b : Addr, b ∉ (cxLam CX P w K mg base (x :: fs.map (·.1)) qual scope f (.ref c') cl A outer s H E).ex := fun b z => absurd (show b ∈ ([] : List Addr) from z) (by simp)
  have I : Inv (cxLam CX P w K mg base (x :: fs.map (·.1)) qual scope f (.ref c') cl A outer s H E) [] (some v :: fs.map (some ·.2)) H { s with heap := h₁, toks := s.toks + [(x, u)].length } := by
    refine ⟨⟨e0.mod, hk, rfl, rfl, Nat.le_refl _, C.inj, fun y hy => ?_, fun y c z _ => (by cases z), fun _ => hr.hd, Around.frames_deeper e0.frames, .inr ⟨rfl, rfl⟩, fun b z => absurd z (noA b), e0.bs, e0.bsz, fun b _ _ => noA b, fun b z => absurd z (noA b), e0.funs, e0.frf⟩,
      rfl, e0.bare, Un.kept hk₁, ⟨_, hns, fun i y v' h1 h2 h3 => ?_⟩, fun y c z => ?_, e0.hok.fresh (Nat.le_refl _), C.free, fun p hp => absurd (show p ∈ ([] : List (Addr × Obj)) from hp) (by simp), e0.hok.kept hk₁, ?_⟩
    · have hy : scope.names.lookup y = some .cell ∨ scope.names.lookup y = some .free := hy
      rcases hy with hy | hy
      · exact absurd rfl (hcell _ (PySem.mem_of_lookup hy))
      · exact C.has y hy
    · cases i with
      | zero =>
        have e1 : x = y := Option.some.inj h1
        have e2 : v = v' := Option.some.inj (Option.some.inj h2)
        subst e1 e2
        refine ⟨u, r, .inl ⟨hx, ?_⟩⟩
        simp
      | succ i =>
        have h1' : (fs.map (·.1))[i]? = some y := h1
        have h2' : (fs.map (some ·.2))[i]? = some (some v') := h2
        rw [List.getElem?_map] at h1' h2'
        obtain ⟨p, hp, hp2⟩ := Option.map_eq_some_iff.mp h1'
        rw [hp] at h2'
        have e2 : p.2 = v' := Option.some.inj (Option.some.inj h2')
        obtain ⟨f1, c, u', f2, f3, f4⟩ := C.at_ p.1 p.2 (List.mem_of_getElem? hp)
        subst hp2 e2
        exact ⟨u', f4, .inr ⟨.inr f1, c, f2, f3.keeps hk₁⟩⟩
    · obtain ⟨v1, q⟩ := C.cell y c z
      exact ⟨v1, q.keeps hk₁⟩
    · show _ = (x :: fs.map (·.1)).length
      simp
  refine PySem.W.kla_codeExpr (wpAny_mono (hb [] _ _ H _ I h) (fun v1 s' hl => ?_) fun _ _ y => y)
  obtain ⟨v2, H', J, rv, q⟩ := hl
  exact ⟨v2, H', J.os, J.bare, J.base, J.hok, rv, q⟩
end L2

set_option Elab.async false
set_option linter.all false
set_option maxRecDepth 100000
set_option maxHeartbeats 4000000
namespace L2
open PySem PySem.Spec PyProof.Rows PySem.W
/-! ### sorted(xs, key=f), f's values tuples of ints -/
abbrev noTxt : Nat → Bool := fun _ => false
theorem lex_ints : ∀ a b : List Int, PyProof.Rows.lexLt itemOrd (a.map Sum.inl) (b.map Sum.inl) = HT.lexLt a b
  | [], [] => rfl
  | [], _ :: _ => rfl
  | _ :: _, [] => rfl
  | x :: r, y :: t => by
    show (itemLt (Sum.inl x) (Sum.inl y) || (!itemLt (Sum.inl y) (Sum.inl x) && PyProof.Rows.lexLt itemOrd (r.map Sum.inl) (t.map Sum.inl))) = _
    rw [lex_ints r t, HT.lexLt_cons]
    show (decide (x < y) || (!decide (y < x) && HT.lexLt r t)) = _
    by_cases e : x = y
    · subst e; simp
    · rw [if_neg e]
      by_cases h : x < y
      · simp [h]
      · have h2 : y < x := by omega
        simp [h, h2]
theorem tupItems_ints : ∀ {ns : List Int} {us : List Value} (i : Nat), IntsAre us ns → tupItems noTxt i us = some (ns.map Sum.inl)
  | _, _, _, .nil => rfl
  | _, _, i, .cons n t r => by
    show (if noTxt i = true then none else (tupItems noTxt (i + 1) _).map (Sum.inl n :: ·)) = _
    rw [if_neg (show ¬ false = true by decide), tupItems_ints (i + 1) r]
    rfl
/-- a key and its item -/
def KeyOk (h : Heap) (kf : Int → List Int) (p : Keyed) : Prop := ∃ n t, p.2 = Value.int n t ∧ G.tupKeyC h noTxt p.1 = some ((kf n).map Sum.inl)
theorem keyed_out {h : Heap} {kf : Int → List Int} {keys : Array Value} {vs : List Value} {ns : List Int} {xs : Array Keyed} (hi : IntsAre vs ns) (hl : keys.size = vs.length)
    (hk : ∀ p ∈ (keys.zip vs.toArray).toList, KeyOk h kf p) (hp : xs.Perm (keys.zip vs.toArray)) (hs : SortedToK (G.tupKindC h noTxt) xs xs.size) :
    ∃ ns' : List Int, IntsAre (xs.map (·.2)).toList ns' ∧ ns'.Perm ns ∧ ns'.Pairwise (fun a b => HT.lexLt (kf b) (kf a) = false) := by
  have hpl : xs.toList.Perm (keys.zip vs.toArray).toList := Array.perm_iff_toList_perm.mp hp
  have hk' : ∀ p ∈ xs.toList, KeyOk h kf p := fun p q => hk p (hpl.mem_iff.mp q)
  refine ⟨xs.toList.map fun p => numOf p.2, ?_, ?_, ?_⟩
  · rw [Array.toList_map]
    revert hk'
    generalize xs.toList = l
    intro hk'
    induction l with
    | nil => exact .nil
    | cons p r ih =>
      obtain ⟨n, t, e, _⟩ := hk' p (.head _)
      rw [List.map_cons, List.map_cons, e]
      exact .cons n t (ih fun q hq => hk' q (.tail _ hq))
  · have e : (keys.zip vs.toArray).toList.map (fun p => numOf p.2) = ns := by
      have e1 : (keys.zip vs.toArray).toList = keys.toList.zip vs := by simp
      rw [e1]
      have e2 : (keys.toList.zip vs).map (fun p => numOf p.2) = ((keys.toList.zip vs).map Prod.snd).map numOf := by rw [List.map_map]; rfl
      rw [e2, List.map_snd_zip (by have := Array.length_toList (xs := keys); omega)]
      clear e1 e2 hk hp hs hpl hk' hl
      induction hi with
      | nil => rfl
      | cons n t r ih => rw [List.map_cons, ih]; rfl
    have := hpl.map fun p : Keyed => numOf p.2
    rw [e] at this
    exact this
  · have pw := sm_pw_of_sorted hs
    revert pw hk'
    generalize xs.toList = l
    intro hk' pw
    induction pw with
    | nil => exact .nil
    | @cons p r h1 h2 ih =>
      rw [List.map_cons]
      refine .cons (fun b hb => ?_) (ih fun q hq => hk' q (.tail _ hq))
      obtain ⟨q, hq, rfl⟩ := List.mem_map.mp hb
      obtain ⟨n, t, e, ek⟩ := hk' p (.head _)
      obtain ⟨n', t', e', ek'⟩ := hk' q (.tail _ hq)
      have z := h1 q hq
      rw [e, e']
      show HT.lexLt (kf n') (kf n) = false
      rw [← lex_ints]
      have z2 : PyProof.Rows.lexLt itemOrd ((G.tupKeyC h noTxt q.1).getD []) ((G.tupKeyC h noTxt p.1).getD []) = false := z
      rw [ek, ek'] at z2
      exact z2
end L2

set_option Elab.async false
set_option linter.all false
set_option maxRecDepth 100000
set_option maxHeartbeats 4000000
namespace L2
open PySem PySem.Spec PyProof.Rows PySem.W
section
variable {X : Cx} {pins : List (Addr × Obj)} {σ : St} {H : Hp} {s : Shared} {l q D kS : Addr} {ns : List Int} {kf : Int → List Int} {Q : VK}
abbrev lstObj (e : Nat) : Obj := seqObj "list" #[] e
def holdD (D : Addr) (e : Nat) : HO := .ext fun h => h.get? D = some (lstObj e)
theorem Same.upd_new {H H' : Hp} {a : Addr} {o : HO} (s : Same H H') (h : H a = none) : Same H (upd H' a o) := fun b u e => by
  rw [upd_ne (ne_of_none e h)]; exact s b u e
/-- the keys laid so far -/
def KeysAt (H : Hp) (kf : Int → List Int) : List Addr → List Int → Prop := Paired fun p n => H p = some (.tup ((kf n).map V.int))
theorem KeysAt.same {H H' : Hp} {ps : List Addr} {ms : List Int} (k : KeysAt H kf ps ms) (s : Same H H') : KeysAt H' kf ps ms := Paired.mapP k fun _ _ e => s _ _ e
theorem KeysAt.snoc {H : Hp} {p : Addr} {n : Int} : ∀ {ps : List Addr} {ms : List Int}, KeysAt H kf ps ms → H p = some (.tup ((kf n).map V.int)) → KeysAt H kf (ps ++ [p]) (ms ++ [n])
  | _, _, .nil, e => .cons e .nil
  | _, _, .cons a r, e => .cons a (KeysAt.snoc r e)
theorem refs_vals : ∀ ps : List Addr, Vals (ps.map V.ref) (ps.map Value.ref)
  | [] => .nil
  | _ :: r => .cons rfl (refs_vals r)
/-- what is known of a key that is laid -/
theorem key_at {pins : List (Addr × Obj)} {s : Shared} {H : Hp} (I : Inv X pins σ H s) {p : Addr} {n : Int} (hne : kf n ≠ []) (e : H p = some (.tup ((kf n).map V.int))) :
    G.tupKeyC s.heap noTxt (.ref p) = some ((kf n).map Sum.inl) ∧ ∃ f, TupOf s.heap noTxt (.ref p) f := by
  obtain ⟨hz, its, rv, ob, ho, hc, m, hd⟩ := I.hok p _ e
  have hi := rv.ints
  have ek : tupItems noTxt 0 its.toArray.toList = some ((kf n).map Sum.inl) := tupItems_ints 0 hi
  refine ⟨?_, ?_⟩
  · unfold G.tupKeyC
    have e1 : G.isTupObj s.heap (.ref p) = true := by
      simp only [G.isTupObj, ho, hc]
      rfl
    rw [if_pos e1]
    unfold tupKey
    simp only [ho, hd]
    exact ek
  · cases hn : kf n with
    | nil => exact absurd hn hne
    | cons k r =>
      rw [hn] at hi
      cases hi with
      | cons _ t r' => exact ⟨.int k t, p, ob, _, m, rfl, ho, hc, hd, rfl, fun _ => ⟨k, t, rfl⟩, fun z => by cases z⟩
theorem keys_tups {pins : List (Addr × Obj)} {s : Shared} {H : Hp} (I : Inv X pins σ H s) (hne : ∀ n, kf n ≠ []) : ∀ {ps : List Addr} {ms : List Int}, KeysAt H kf ps ms → ∃ fs, TupsOf s.heap noTxt (ps.map Value.ref) fs
  | _, _, .nil => ⟨[], .nil⟩
  | _, _, .cons a r => by
    obtain ⟨fs, h⟩ := keys_tups I hne r
    obtain ⟨f, hf⟩ := (key_at I (hne _) a).2
    exact ⟨f :: fs, .cons hf h⟩
theorem keys_zip {pins : List (Addr × Obj)} {s : Shared} {H : Hp} (I : Inv X pins σ H s) (hne : ∀ n, kf n ≠ []) {ps : List Addr} {ms : List Int} {vs : List Value} (k : KeysAt H kf ps ms) : IntsAre vs ms →
    ∀ p ∈ (ps.map Value.ref).zip vs, KeyOk s.heap kf p := by
  induction k generalizing vs with
  | nil => intro _ p hp; simp at hp
  | cons a r ih =>
    intro hi p hp
    cases hi with
    | cons n t ri =>
      rw [List.map_cons, List.zip_cons_cons] at hp
      rcases List.mem_cons.mp hp with rfl | hp
      · exact ⟨_, t, rfl, (key_at I (hne _) a).1⟩
      · exact ih ri p hp
theorem key_tail {P : PySem.Fin → Shared → Prop} {E : Value → Shared → Prop} {A : Around} {st : SortSt} {ps : List Addr} {ns' : List Int} {e1 : Nat} (I : Inv X pins σ H s) (hD : H D = some (holdD D e1)) (hK : H kS = some (.lst (ps.map V.ref)))
    (hn : ns'.length ≤ 1000) (hi : IntsAre ((arrOf st).map (·.2)).toList ns') (hf : failedOf st = none)
    (h : ∀ s', Inv X pins σ (upd (upd H kS (.lst [])) D (.lst (ns'.map V.int))) s' → P (.done (.ret .none)) s') :
    wpAny (model X.prog X.w) A (ksk_tail D false e1 (.ref kS) st) P E s := by
  obtain ⟨hz, its, m, rv, hl, ho⟩ := I.lstM hK
  have hne : D ≠ kS := ne_of hD hK (by intro z; cases z)
  have I1 := I.lset (t' := s.toks) (f := fun _ => #[]) (its' := []) (ys := []) hK ho rfl .nil (Nat.zero_le _)
  have hD1 : upd H kS (.lst []) D = some (holdD D e1) := by rw [upd_ne hne]; exact hD
  have ho1 : (s.heap.update kS (Obj.mapSeq fun _ => (#[] : Array Value))).get? D = some (lstObj e1) := (I1.hok D _ hD1).1
  have hlen := hi.length
  have hsz : ((arrOf st).map (·.2)).size ≤ 1000 := by rw [Array.length_toList] at hlen; omega
  have h1000 : 1000 ≤ sizeLine := by decide
  unfold ksk_tail
  try dsimp only
  refine wpAny_bind (listUpdate_at ho rfl ?_ (by rw [List.size_toArray, ← hl]; exact hz) (Nat.zero_le _))
  refine wpAny_bind (wpAny_letGo ?_)
  refine wpAny_bind (seqEpoch_at ho1 rfl ?_)
  refine wpAny_bind (listUpdate_at ho1 rfl ?_ (Nat.zero_le _) (Nat.le_trans hsz (by omega)))
  rw [hf]
  simp only [bne_self_eq_false, Bool.false_eq_true, if_false]
  have hq := get?_update_seq ho1 fun _ => (arrOf st).map (·.2)
  refine wpAny_pure (h _ (I1.write (x := D) (e := D) (t' := s.toks) (by rw [hD1]; trivial) (.inl rfl) (fun b u hb hu => ?_) ⟨_, hq⟩ ⟨by rw [List.length_map]; omega, ((arrOf st).map (·.2)).toList, _, vals_of_ints hi, hq⟩))
  rw [Heap.get?_update_ne _ _ _ _ hb]; exact hu
end
end L2

set_option Elab.async false
set_option linter.all false
set_option maxRecDepth 100000
set_option maxHeartbeats 4000000
namespace L2
open PySem PySem.Spec PyProof.Rows PySem.W
section
variable {X : Cx} {pins : List (Addr × Obj)} {σ : St} {H : Hp} {s : Shared} {l q D kS : Addr} {ns : List Int} {kf : Int → List Int} {Q : VK}
theorem key_end {P : PySem.Fin → Shared → Prop} {E : Value → Shared → Prop} {A : Around} {ps : List Addr} {vs : List Value} {e1 : Nat} (I : Inv X pins σ H s) (hD : H D = some (holdD D e1)) (hK : H kS = some (.lst (ps.map V.ref)))
    (hne : ∀ n, kf n ≠ []) (hn : ns.length ≤ 1000) (hi : IntsAre vs ns) (hk : KeysAt H kf ps ns)
    (h : ∀ (s' : Shared) (ns' : List Int), ns'.Perm ns → ns'.Pairwise (fun a b => HT.lexLt (kf b) (kf a) = false) → Inv X pins σ (upd (upd H kS (.lst [])) D (.lst (ns'.map V.int))) s' → P (.done (.ret .none)) s') :
    wpAny (model X.prog X.w) A (ksk_end D false vs.toArray e1 (.ref kS) (ps.map Value.ref).toArray) P E s := by
  have hlen : ps.length = ns.length := Paired.length hk
  have hlv := hi.length
  have hks : (ps.map Value.ref).toArray.size = vs.length := by rw [List.size_toArray, List.length_map]; omega
  have hzs : ((ps.map Value.ref).toArray.zip vs.toArray).size = vs.length := by rw [Array.size_zip, hks, List.size_toArray, Nat.min_self]
  have hko : ∀ p ∈ ((ps.map Value.ref).toArray.zip vs.toArray).toList, KeyOk s.heap kf p := fun p hp => keys_zip I hne hk hi p (by simpa using hp)
  have fin : ∀ st : SortSt, (arrOf st).Perm ((ps.map Value.ref).toArray.zip vs.toArray) → SortedToK (G.tupKindC s.heap noTxt) (arrOf st) (arrOf st).size → failedOf st = none → wpAny (model X.prog X.w) A (ksk_tail D false e1 (.ref kS) st) P E s := fun st hp hs hf => by
    obtain ⟨ns', i1, i2, i3⟩ := keyed_out hi hks hko hp hs
    exact key_tail I hD hK (by rw [i2.length_eq]; exact hn) i1 hf fun s' I' => h s' ns' i2 i3 I'
  unfold ksk_end
  dsimp only
  simp only [Bool.false_eq_true, if_false]
  by_cases h2 : vs.toArray.size < 2
  · rw [if_pos h2, if_pos h2]
    refine wpAny_bind (wpAny_pure ?_)
    rw [StateT.run_pure]
    refine wpAny_bind (wpAny_pure ?_)
    try dsimp only
    refine fin (SortSt.mk' general' ((ps.map Value.ref).toArray.zip vs.toArray) #[] 7 none) (Array.Perm.refl _) ?_ rfl
    intro i j hij hj
    have hj2 : j < ((ps.map Value.ref).toArray.zip vs.toArray).size := hj
    rw [hzs] at hj2
    rw [List.size_toArray] at h2
    have : i = j := by omega
    subst this
    exact KeyOrd.kle_refl _
  · rw [if_neg h2, if_neg h2]
    rw [List.size_toArray] at h2
    obtain ⟨fs, ht⟩ := keys_tups I hne hk
    refine wpAny_bind (tup_kind (shape := noTxt) (by rw [G.TupsOf.length ht, List.length_map]; omega) ht ?_)
    refine wpAny_bind (wpAny_mono (G.wpS_sortRunsSt (κ := G.tupKindC s.heap noTxt) (kd := tuples' true) (a₀ := (ps.map Value.ref).toArray.zip vs.toArray) (st := SortSt.mk' (tuples' true) ((ps.map Value.ref).toArray.zip vs.toArray) #[] 7 none)
      (Q := fun _ st' => (arrOf st').Perm ((ps.map Value.ref).toArray.zip vs.toArray) ∧ failedOf st' = none ∧ SortedToK (G.tupKindC s.heap noTxt) (arrOf st') ((ps.map Value.ref).toArray.zip vs.toArray).size)
      (G.tupC_ltAt (s := s) true (G.KeepsTups.refl _)) (fun p hp => ?_) ⟨Array.Perm.refl _, rfl, rfl⟩ rfl (Stable.refl _) (by rw [hzs]; omega) fun st' a1 a2 a3 a4 => ⟨a1, a2, a3⟩) ?_ fun _ _ e => e)
    · obtain ⟨n, t, _, e⟩ := hko p hp
      exact ⟨_, e⟩
    · rintro ⟨⟨⟩, st'⟩ s' ⟨rfl, hp, hf, hs⟩
      try dsimp only
      exact fin st' hp (by rw [hp.size_eq]; exact hs) hf
end
end L2

set_option Elab.async false
set_option linter.all false
set_option maxRecDepth 100000
set_option maxHeartbeats 4000000
namespace L2
open PySem PySem.Spec PyProof.Rows PySem.W
section
variable {X : Cx} {pins : List (Addr × Obj)} {σ : St} {H : Hp} {s : Shared} {l q D kS : Addr} {ns : List Int} {kf : Int → List Int} {Q : VK}
/-- one key: f of the item is a new tuple, all else stands -/
def KeyTurn (X : Cx) (pins : List (Addr × Obj)) (σ : St) (H : Hp) (q : Addr) (kf : Int → List Int) (ns : List Int) : Prop :=
  ∀ (n : Int) (H' : Hp) (s' : Shared) (u : Value), n ∈ ns → Inv X pins σ H' s' → Same H H' → RelV (.int n) u →
    wpAny (model X.prog X.w) X.A.in1.in1 (call (.ref q) [u]) (EP X pins σ fun v H'' => ∃ p, v = .ref p ∧ H'' p = some (.tup ((kf n).map V.int)) ∧ Same H' H'') (fun _ _ => False) s'
theorem key_rest {P : PySem.Fin → Shared → Prop} {E : Value → Shared → Prop} {H0 : Hp} {vs : List Value} {e1 : Nat} (I : Inv X pins σ H s) (hD : H D = some (holdD D e1)) (hK : H kS = some (.lst []))
    (hS : Same H0 H) (nD : H0 D = none) (nK : H0 kS = none) (hne : ∀ n, kf n ≠ []) (hn : ns.length ≤ 1000) (hi : IntsAre vs ns) (turn : KeyTurn X pins σ H0 q kf ns)
    (h : ∀ (s' : Shared) (ns' : List Int) (H' : Hp), ns'.Perm ns → ns'.Pairwise (fun a b => HT.lexLt (kf b) (kf a) = false) → Same H0 H' → H' D = some (.lst (ns'.map V.int)) → Inv X pins σ H' s' → P (.done (.ret .none)) s') :
    wpAny (model X.prog X.w) X.A.in1.in1 (ksk_rest D (.ref q) false vs.toArray e1 (.ref kS)) P E s := by
  have hlv := hi.length
  have h1000 : 1000 < sizeLine := by decide
  have hDK : D ≠ kS := ne_of hD hK (by intro z; cases z)
  unfold ksk_rest
  refine wpAny_bind (wpAny_rule ?_)
  first
    | rw [List.forIn_toArray]
    | (rw [← Array.forIn_toList]; simp only [List.toList_toArray])
    | rw [← Array.forIn_toList]
  refine wpAny_bind (ksk_fold (fun i s' => ∃ (H' : Hp) (ps : List Addr), Inv X pins σ H' s' ∧ Same H0 H' ∧ H' D = some (holdD D e1) ∧ H' kS = some (.lst (ps.map V.ref)) ∧ KeysAt H' kf ps (ns.take i)) vs 0 s
    ⟨H, [], I, hS, hD, hK, .nil⟩ ?step ?done)
  case step =>
    rintro j x s' hx ⟨H', ps, I', S', D', K', k'⟩
    simp only [Nat.zero_add] at k' ⊢
    have hj : j < vs.length := (List.getElem?_eq_some_iff.mp hx).1
    obtain ⟨n, hnj⟩ : ∃ n, ns[j]? = some n := ⟨_, List.getElem?_eq_getElem (by omega)⟩
    have rx : RelV (.int n) x := by
      obtain ⟨u, hu, r⟩ := (vals_of_ints hi).get (i := j) (x := .int n) (by rw [List.getElem?_map, hnj]; rfl)
      rw [hx] at hu
      cases hu
      exact r
    refine wpAny_bind (wpAny_attempt (wpAny_mono (turn n H' s' x (List.mem_of_getElem? hnj) I' S' rx) (fun v s'' he => ?_) fun _ _ hF => hF.elim))
    obtain ⟨y, H2, I2, ry, p, rfl, hp, S2⟩ := he
    obtain rfl : v = Value.ref p := ry
    try dsimp only
    have D2 := S2 _ _ D'
    have K2 := S2 _ _ K'
    have k2 := k'.same S2
    obtain ⟨hz, its, m, rv, hl, ho⟩ := I2.lstM K2
    have hpl : ps.length ≤ 1000 := by have := Paired.length k'; rw [List.length_take] at this; omega
    have hil : its.length ≤ 1000 := by rw [← hl, List.length_map]; exact hpl
    refine wpAny_bind (listUpdate_at ho rfl ?_ (by rw [List.size_toArray]; omega) (by rw [Array.size_push, List.size_toArray]; omega))
    have I3 := I2.lset (t' := s''.toks) (f := (·.push (.ref p))) (its' := its ++ [.ref p]) (ys := (ps ++ [p]).map V.ref) K2 ho (by simp) (by rw [List.map_append]; exact rv.append (.cons rfl .nil)) (by rw [List.length_map, List.length_append]; show ps.length + 1 ≤ _; omega)
    have npk : p ≠ kS := ne_of hp K2 (by intro z; cases z)
    have S3 : ∀ b o, H2 b = some o → b ≠ kS → upd H2 kS (.lst ((ps ++ [p]).map V.ref)) b = some o := fun b o e hb => by rw [upd_ne hb]; exact e
    refine wpAny_pure ⟨rfl, _, ps ++ [p], I3, fun b o e => S3 b o (S2 _ _ (S' b o e)) (ne_of_none e nK), S3 _ _ D2 hDK, upd_same, ?_⟩
    have ek : ns.take (j + 1) = ns.take j ++ [n] := by rw [List.take_add_one, hnj]; rfl
    rw [ek]
    refine KeysAt.snoc (Paired.mapP k2 fun a b e => S3 _ _ e (ne_of e K2 (by intro z; cases z))) (S3 _ _ hp npk)
  case done =>
    rintro s' ⟨H', ps, I', S', D', K', k'⟩
    have e3 : ns.take (0 + vs.length) = ns := List.take_of_length_le (by omega)
    rw [e3] at k'
    obtain ⟨hz, its, m, rv, hl, ho⟩ := I'.lstM K'
    obtain rfl := refs_at rv
    try dsimp only
    refine wpAny_bind (listItems_at ho rfl ?_)
    refine key_end I' D' K' hne hn hi k' fun s2 ns' hp hw I2 => h s2 ns' _ hp hw (fun b o e => ?_) upd_same I2
    rw [upd_ne (ne_of_none e nD), upd_ne (ne_of_none e nK)]
    exact S' b o e
theorem sorted_key (I : Inv X pins σ H s) (hs : SqL X.K H l (ns.map V.int)) (hn : ns.length ≤ 1000) (hne : ∀ n, kf n ≠ [])
    (ha1 : argsOk "sorted" ⟨[.ref l], [(Str.ofString "key", .ref q)]⟩) (ha2 : ∀ x, argsOk "list.sort" ⟨[.ref x], [(Str.ofString "key", .ref q)]⟩) (turn : KeyTurn X pins σ H q kf ns)
    (h : ∀ (ns' : List Int) (p : Addr) (H' : Hp), ns'.Perm ns → ns'.Pairwise (fun a b => HT.lexLt (kf b) (kf a) = false) → Same H H' → H p = none → H' p = some (.lst (ns'.map V.int)) → Q (.ref p) H') :
    wpAny (model X.prog X.w) X.A (call (.builtin "sorted") [.ref l] [(Str.ofString "key", .ref q)]) (EP X pins σ Q) X.xe s := by
  obtain ⟨vs, rv, hl, hz⟩ := I.list hs
  have hi := rv.ints
  have hlv := hi.length
  have h1000 : 1000 < sizeLine := by decide
  have hvz : vs.length ≤ sizeLine := by omega
  refine call_function_entry_kw kind_sorted plain_sorted entry_sorted ha1 ?_
  unfold Builtin.«sorted»
  refine wpAny_bind (m := checkCount "sorted" 1 1 _) (wpAny_pure ?_)
  refine wpAny_bind (collect_list hl.isList ?_ hvz)
  refine wpAny_bind (wpAny_newList ?_ hvz)
  have hk0 : ∀ b o, s.heap.get? b = some o → ((s.heap.push (seqObj "list" #[] 0)).update s.heap.objs.size (Obj.mapSeq (· ++ vs.toArray))).get? b = some o := fun b o z => by
    have hlt : b < s.heap.objs.size := Heap.lt_size z
    rw [Heap.get?_update_ne _ _ _ _ (Nat.ne_of_lt hlt)]
    exact Heap.get?_push_of_some _ z
  have I1 := I.kept (t' := s.toks) hk0
  generalize ((s.heap.push (seqObj "list" #[] 0)).update s.heap.objs.size (Obj.mapSeq (· ++ vs.toArray))) = h1 at I1 ⊢
  have hob : (h1.push { cls := .type "list", data := .seq vs.toArray }).get? h1.objs.size = some { cls := .type "list", data := .seq vs.toArray } := Heap.get?_push_size _ rfl
  have nD : H h1.objs.size = none := I1.hok.fresh (Nat.le_refl _)
  have I2 := I1.lnew (t' := s.toks) rv (by rw [List.length_map]; omega)
  refine wpAny_bind (wpAny_holding (wpAny_call_entry_kw slot_list_sort ⟨_, hob, rfl⟩ entry_list_sort ?body (ha2 _)))
  case body =>
    show wpAny (model X.prog X.w) X.A.in1.in1 (ksk_tree h1.objs.size (.ref q) false) _ _ _
    unfold ksk_tree
    refine wpAny_bind (listItems_at hob rfl ?_)
    refine wpAny_bind (listUpdate_at hob rfl ?_ (by rw [List.size_toArray]; exact hvz) (Nat.zero_le _))
    obtain ⟨e1, ho1⟩ : ∃ e1, ((h1.push { cls := .type "list", data := .seq vs.toArray }).update h1.objs.size (Obj.mapSeq fun _ => (#[] : Array Value))).get? h1.objs.size = some (lstObj e1) := ⟨_, get?_update_seq hob fun _ => #[]⟩
    have I3 := I2.write (x := h1.objs.size) (e := h1.objs.size) (o := holdD h1.objs.size e1) (h' := (h1.push { cls := .type "list", data := .seq vs.toArray }).update h1.objs.size (Obj.mapSeq fun _ => (#[] : Array Value))) (t' := s.toks)
      (by rw [upd_same]; trivial) (.inl rfl) (fun b u hb hu => by rw [Heap.get?_update_ne _ _ _ _ hb]; exact hu) ⟨_, ho1⟩ ⟨ho1, ⟨_, ho1⟩, fun _ _ a b => b _ a⟩
    refine wpAny_bind (seqEpoch_at ho1 rfl ?_)
    refine wpAny_bind (wpAny_newTuple ?_ hvz)
    have I4 := I3.kept (h' := ((h1.push { cls := .type "list", data := .seq vs.toArray }).update h1.objs.size (Obj.mapSeq fun _ => (#[] : Array Value))).push { cls := .type "tuple", data := .seq vs.toArray }) (t' := s.toks) fun b u z => Heap.get?_push_of_some _ z
    refine wpAny_bind (wpAny_newList ?_ (Nat.zero_le _))
    have I5 := I4.lnew (t' := s.toks) (its := []) (ys := []) .nil (Nat.zero_le _)
    refine wpAny_holding ?_
    have nK := I4.hok.fresh (Nat.le_refl _)
    have nDK := ne_of_none (upd_same (H := upd H h1.objs.size (HO.lst (ns.map V.int))) (a := h1.objs.size) (o := holdD h1.objs.size e1)) nK
    have S4 : Same H (upd (upd H h1.objs.size (HO.lst (ns.map V.int))) h1.objs.size (holdD h1.objs.size e1)) := ((Same.refl H).upd_new nD).upd_new nD
    have nK0 := S4.free nK
    refine key_rest I5 (D := h1.objs.size) (e1 := e1) (H0 := H) (by rw [upd_ne nDK]; exact upd_same) upd_same (S4.upd_new nK0) nD nK0 hne hn hi turn fun s' ns' H' hp hw S' hD' I' => ?_
    exact ⟨_, rfl, wpAny_pure ⟨_, rfl, .ref _, H', I', rfl, h ns' _ H' hp hw S' nD hD'⟩⟩
end
end L2

set_option Elab.async false
set_option linter.all false
set_option maxRecDepth 100000
set_option maxHeartbeats 4000000
namespace L2
open PySem PySem.Spec PyProof.Rows PySem.W
/-! ### the tables of code objects that lambdas are laid in -/
def isT : HO → Bool
  | .tbl _ => true
  | _ => false
/-- the code object of a lambda, laid -/
def codeHO (c : Addr) (qual : Str) : HO := .ext fun h => h.CodeRec (.ref c) qual
/-- a lambda: the table of the def around it, where it stands, its name -/
structure TabRec where
  P : Addr
  pos : Pos
  qual : Str
def TabOk (t : TabRec) (H : Hp) : Prop := ∃ ps : Array Value, H t.P = some (.tbl ps) ∧ TriplesOk ps.toList ∧ (codeAmong t.pos ps.toList = none ∨ ∃ c, codeAmong t.pos ps.toList = some (.ref c) ∧ H c = some (codeHO c t.qual))
def Tabs (ts : List TabRec) (H : Hp) : Prop := (ts.map (·.P)).Nodup ∧ ∀ t ∈ ts, TabOk t H
/-- what stands, stands still; the tables may grow -/
structure Gr (ts : List TabRec) (H H' : Hp) : Prop where
  keep : ∀ b o, H b = some o → isT o = false → H' b = some o
  tabs : Tabs ts H → Tabs ts H'
  tb : ∀ b ps, H b = some (.tbl ps) → ∃ qs, H' b = some (.tbl qs)
theorem Gr.refl {ts : List TabRec} (H : Hp) : Gr ts H H := ⟨fun _ _ e _ => e, id, fun _ ps e => ⟨ps, e⟩⟩
theorem Gr.trans {ts : List TabRec} {H H1 H2 : Hp} (a : Gr ts H H1) (b : Gr ts H1 H2) : Gr ts H H2 :=
  ⟨fun c o e h => b.keep c o (a.keep c o e h) h, fun h => b.tabs (a.tabs h), fun c ps e => let ⟨qs, q⟩ := a.tb c ps e; b.tb c qs q⟩
theorem Tabs.same {ts : List TabRec} {H H' : Hp} (s : Same H H') (h : Tabs ts H) : Tabs ts H' := ⟨h.1, fun t ht => by
  obtain ⟨ps, e1, e2, e3⟩ := h.2 t ht
  refine ⟨ps, s _ _ e1, e2, e3.imp id fun ⟨c, e4, e5⟩ => ⟨c, e4, s _ _ e5⟩⟩⟩
theorem Gr.same {ts : List TabRec} {H H' : Hp} (s : Same H H') : Gr ts H H' := ⟨fun b o e _ => s b o e, fun h => h.same s, fun _ ps e => ⟨ps, s _ _ e⟩⟩
theorem Gr.free {ts : List TabRec} {H H' : Hp} (g : Gr ts H H') {b : Addr} (h : H' b = none) : H b = none := by
  cases e : H b with
  | none => rfl
  | some o =>
    cases ho : isT o with
    | false => rw [g.keep b o e ho] at h; cases h
    | true =>
      cases o <;> simp [isT] at ho
      obtain ⟨qs, q⟩ := g.tb b _ e
      rw [q] at h; cases h
theorem Gr.lst {ts : List TabRec} {H H' : Hp} (g : Gr ts H H') {a : Addr} {xs : List V} (h : H a = some (.lst xs)) : H' a = some (.lst xs) := g.keep a _ h rfl
theorem Gr.seq {ts : List TabRec} {K : PySem.W.Frag} {H H' : Hp} {a : Addr} {xs : List V} (g : Gr ts H H') (h : SqL K H a xs) : SqL K H' a xs := by
  rcases h with (h | ⟨o, h⟩) | h
  · exact .inl (.inl (g.keep a _ h rfl))
  · exact .inl (.inr ⟨o, g.keep a _ h rfl⟩)
  · exact .inr h
theorem Gr.upd {ts : List TabRec} {H H' : Hp} {a : Addr} {o : HO} (g : Gr ts H H') (h : H' a = none) : Gr ts H (upd H' a o) := g.trans (.same ((Same.refl H').upd_new h))
section
variable {X : Cx} {pins : List (Addr × Obj)} {σ : St} {H : Hp} {s : Shared}
/-- a table grows by one code object -/
theorem Inv.tbl {Pt c : Addr} {ps ps' : Array Value} {qual : Str} {h' : Heap} {t' : Nat} (I : Inv X pins σ H s) (hP : H Pt = some (.tbl ps)) (hx : Heap.ExtBut Pt s.heap h') (hge : s.heap.objs.size ≤ c) (hrec : h'.CodeRec (.ref c) qual)
    (htb : h'.get? Pt = some (tabObj (ps ++ ps'))) : Inv X pins σ (upd (upd H Pt (.tbl (ps ++ ps'))) c (codeHO c qual)) { s with heap := h', toks := t' } := by
  have nc : H c = none := I.hok.fresh hge
  have nPc : Pt ≠ c := ne_of_none hP nc
  have nb : ∀ b, H b = none → b ≠ Pt := fun b n z => by rw [z, hP] at n; cases n
  have lt : ∀ b o, s.heap.get? b = some o → b ≠ c := fun b o e => Nat.ne_of_lt (Nat.lt_of_lt_of_le (Heap.lt_size e) hge)
  have same : ∀ b o, H b = some o → b ≠ Pt → upd (upd H Pt (.tbl (ps ++ ps'))) c (codeHO c qual) b = some o := fun b o e hb => by
    rw [upd_ne (ne_of_none e nc), upd_ne hb]; exact e
  have kind : ∀ b o, H b = some o → isT o = false → b ≠ Pt := fun b o e ht z => by rw [z, hP] at e; cases e; cases ht
  refine I.un ⟨fun b o e n _ _ => hx b o (nb b n) e, fun b o e n _ _ => ⟨o.slots, hx b o (nb b n) e⟩, fun b o e n _ => ?_, fun b o e _ => ?_, fun b xs e => same _ _ e (kind _ _ e rfl), fun b o u e => same _ _ e (kind _ _ e rfl), fun b qs e => ?_⟩ fun b o e => ?_
  · rw [upd_ne (lt b o e), upd_ne (nb b n)]; exact n
  · by_cases hb : b = Pt
    · subst hb; exact ⟨_, htb⟩
    · exact ⟨o, hx b o hb e⟩
  · by_cases hb : b = Pt
    · subst hb
      rw [hP] at e; cases e
      exact ⟨ps', by rw [upd_ne nPc]; exact upd_same⟩
    · exact ⟨#[], by rw [same _ _ e hb]; simp⟩
  · by_cases hbc : b = c
    · subst hbc
      rw [upd_same] at e
      cases e
      obtain ⟨c1, ob, vs, t, e1, e2, e3⟩ := hrec
      cases e1
      refine ⟨⟨b, ob, vs, t, rfl, e2, e3⟩, ⟨ob, e2⟩, fun h1 h2 ⟨c2, ob2, vs2, t2, f1, f2, f3⟩ k => ?_⟩
      cases f1
      exact ⟨b, ob2, vs2, t2, rfl, k _ f2, f3⟩
    · rw [upd_ne hbc] at e
      by_cases hb : b = Pt
      · subst hb
        rw [upd_same] at e
        cases e
        exact htb
      · rw [upd_ne hb] at e
        refine (I.hok b o e).stay (fun d u hd q => hx d u ?_ q) (fun d hd => same _ _ hd ?_) fun d xs hd => same _ _ hd (kind _ _ hd rfl)
        · rcases hd with hd | hd
          · rw [hd]; exact hb
          · exact kind _ _ hd rfl
        · exact kind _ _ hd rfl
/-- the lambda, laid -/
def lamHO (f : Addr) (qual : Str) (params : Arguments) (body : Expr) (scope : Scope) (cl : List (Str × Addr)) (pm : Value) (c : Addr) (ctv : Value) : HO :=
  .ext fun h => h.get? f = some (kla_obj "<lambda>" qual params body scope cl pm c ctv)
/-- what the def around is known by: its code object, its table, the module of builtins -/
structure LamIn (X : Cx) (c : Addr) (t : TabRec) : Prop where
  code : X.env.code = .ref c
  hd : CodeHd X.base c t.P
  blt : ∃ bm o, X.mg "__builtins__" = some (.ref bm) ∧ bm ≠ builtinsNs ∧ bm ≠ mainGlobals ∧ X.base.get? bm = some o ∧ o.cls = .type "module" ∧ o.dict = some builtinsNs ∧ o.data = .plain
  qual : X.env.qual ++ "<lambda>" = t.qual
def tLam (X : Cx) (t : TabRec) (ts : List TabRec) (params : Arguments) (body : Expr) (scope : Scope) : TE := fun σ H Q => Tabs ts H ∧
  ∀ (f c : Addr) (ctv : Value) (H' : Hp), Gr ts H H' → H f = none → H' f = some (lamHO f t.qual params body scope (cloFrom X.env.cells scope.names []) ((X.mg "__name__").getD .none) c ctv) → H' c = some (codeHO c t.qual) → Q (.ref f) H'
theorem pe_lam {params : Arguments} {body : Expr} {scope : Scope} {c : Addr} {t : TabRec} {ts : List TabRec} (L : LamIn X c t) (ht : t ∈ ts) (hdef : defaultsOf params X.env = ([], []))
    (hfree : ∀ y ∈ scope.names, y.2 = .free → X.env.kindOf y.1 = some .cell ∨ X.env.kindOf y.1 = some .free) : PE X (.Lambda params body scope t.pos) (tLam X t ts params body scope) := by
  intro pins s σ H Q I h
  obtain ⟨hT, k⟩ := h
  obtain ⟨ps, e1, e2, e3⟩ := hT.2 t ht
  have hP : s.heap.get? t.P = some (tabObj ps) := I.hok t.P _ e1
  have hcl : closureFor scope X.env = pure (cloFrom X.env.cells scope.names []) := closure_ok fun y hy hf => I.ok.has y.1 (hfree y hy hf)
  have hC : CodeHd s.heap c t.P := L.hd.keeps I.bk
  have hg : s.heap.Ns mainGlobals X.mg := I.ok.mod.glob.keeps I.bk
  have hgP : mainGlobals ≠ t.P := fun q => by
    obtain ⟨o, es, ep, e, hd, _⟩ := hg
    rw [q, hP] at e; cases e; cases hd
  obtain ⟨bm, ob, b1, b2, b3, b4, b5, b6, b7⟩ := L.blt
  have hbP : bm ≠ t.P := fun q => by
    have e := (I.bs _ _ b4).2
    rw [q, e1] at e; cases e
  have hB : s.heap.BuiltinsAt X.mg t.P := ⟨bm, ob, b1, b2, b3, hbP, I.bk _ _ b4, b5, b6, b7⟩
  refine kla_eval hdef ?_
  rw [L.qual]
  rcases e3 with e3 | ⟨c', e3, e4⟩
  · refine kla_makeFunction (mg := X.mg) hcl I.ok.glob hg L.code hC hP e2 e3 hgP hB fun c' ctv h' tk hx hge hlt hrec htb => ?_
    have I1 := I.tbl (t' := tk) e1 hx hge hrec htb
    have nc : H c' = none := I.hok.fresh hge
    have I2 := I1.laid (o := lamHO h'.objs.size t.qual params body scope (cloFrom X.env.cells scope.names []) ((X.mg "__name__").getD .none) c' ctv) (h' := h'.push (kla_obj "<lambda>" t.qual params body scope (cloFrom X.env.cells scope.names []) ((X.mg "__name__").getD .none) c' ctv)) (t' := tk)
      (fun b u q => Heap.get?_push_of_some _ q) (Nat.le_refl _) ⟨Heap.get?_push_size _ rfl, ⟨_, Heap.get?_push_size _ rfl⟩, fun _ _ a b => b _ a⟩
    have nf := I1.hok.fresh (Nat.le_refl h'.objs.size)
    have nPc : t.P ≠ c' := ne_of_none e1 nc
    have ncf : c' ≠ h'.objs.size := Nat.ne_of_lt hlt
    have hc1 : upd (upd H t.P (.tbl (ps ++ #[rawInt t.pos.line, rawInt t.pos.col, .ref c']))) c' (codeHO c' t.qual) c' = some (codeHO c' t.qual) := upd_same
    have g1 : Gr ts H (upd (upd H t.P (.tbl (ps ++ #[rawInt t.pos.line, rawInt t.pos.col, .ref c']))) c' (codeHO c' t.qual)) := by
      have kp : ∀ b o, H b = some o → b ≠ t.P → upd (upd H t.P (.tbl (ps ++ #[rawInt t.pos.line, rawInt t.pos.col, .ref c']))) c' (codeHO c' t.qual) b = some o := fun b o e hb => by rw [upd_ne (ne_of_none e nc), upd_ne hb]; exact e
      have kd : ∀ b o, H b = some o → isT o = false → b ≠ t.P := fun b o e hi z => by rw [z, e1] at e; cases e; cases hi
      refine ⟨fun b o e hi => kp b o e (kd b o e hi), fun _ => ⟨hT.1, fun t' ht' => ?_⟩, fun b qs e => ?_⟩
      · by_cases hp : t'.P = t.P
        · have ett : t' = t := by
            obtain ⟨i, hi⟩ := List.getElem?_of_mem ht'
            obtain ⟨j, hj⟩ := List.getElem?_of_mem ht
            have hij := nd_ix hT.1 (i := i) (j := j) (x := t.P) (by rw [List.getElem?_map, hi]; show some t'.P = _; rw [hp]) (by rw [List.getElem?_map, hj]; rfl)
            subst hij
            rw [hi] at hj
            exact Option.some.inj hj
          subst ett
          refine ⟨_, by rw [upd_ne nPc]; exact upd_same, ?_, .inr ⟨c', ?_, upd_same⟩⟩
          · rw [Array.toList_append]
            exact TriplesOk_snoc _ _ _ _ e2
          · rw [Array.toList_append]
            exact codeAmong_snoc _ e2 e3
        · obtain ⟨qs, f1, f2, f3⟩ := hT.2 t' ht'
          exact ⟨qs, kp _ _ f1 hp, f2, f3.imp id fun ⟨d, f4, f5⟩ => ⟨d, f4, kp _ _ f5 (kd _ _ f5 rfl)⟩⟩
      · by_cases hb : b = t.P
        · subst hb; exact ⟨_, by rw [upd_ne nPc]; exact upd_same⟩
        · exact ⟨qs, kp _ _ e hb⟩
    refine ⟨.ref _, _, I2, rfl, k _ c' ctv _ (g1.upd nf) (g1.free nf) upd_same ?_⟩
    rw [upd_ne ncf]; exact upd_same
  · refine kla_makeFunctionHit (mg := X.mg) hcl I.ok.glob hg L.code hC hP e2 e3 hB fun ctv h' tk hk hsz => ?_
    have I1 := I.kept (t' := tk) hk
    have nf := I1.hok.fresh (Nat.le_refl h'.objs.size)
    have I2 := I1.laid (o := lamHO h'.objs.size t.qual params body scope (cloFrom X.env.cells scope.names []) ((X.mg "__name__").getD .none) c' ctv) (h' := h'.push (kla_obj "<lambda>" t.qual params body scope (cloFrom X.env.cells scope.names []) ((X.mg "__name__").getD .none) c' ctv)) (t' := tk)
      (fun b u q => Heap.get?_push_of_some _ q) (Nat.le_refl _) ⟨Heap.get?_push_size _ rfl, ⟨_, Heap.get?_push_size _ rfl⟩, fun _ _ a b => b _ a⟩
    exact ⟨.ref _, _, I2, rfl, k _ c' ctv _ ((Gr.refl H).upd nf) nf upd_same (by rw [upd_ne (ne_of_none e4 nf)]; exact e4)⟩
end
end L2

set_option Elab.async false
set_option linter.all false
set_option maxRecDepth 100000
set_option maxHeartbeats 4000000
namespace L2
open PySem PySem.Spec PyProof.Rows PySem.W
theorem bootSorted : bootBuiltins "sorted" = some (.builtin "sorted") := by decide +kernel
theorem lookup_mem {α : Type} : ∀ {l : List (Str × α)} {n : Str} {c : α}, l.lookup n = some c → (n, c) ∈ l := fun h => PySem.mem_of_lookup h
section
variable {X : Cx} {pins : List (Addr × Obj)} {σ : St} {H : Hp} {s : Shared}
/-- what a lambda takes from around stands in this frame's cells -/
theorem clo_of {scope : Scope} {fx : List (Nat × Str)} {fvs : List V} (I : Inv X pins σ H s) (hfree : ∀ y ∈ scope.names, y.2 = .free → X.env.kindOf y.1 = some .cell ∨ X.env.kindOf y.1 = some .free)
    (hfx : ∀ p ∈ fx, X.N[p.1]? = some p.2 ∧ (X.env.kindOf p.2 = some .cell ∨ X.env.kindOf p.2 = some .free) ∧ scope.names.lookup p.2 = some .free)
    (hv : ∀ (j : Nat) (p : Nat × Str), fx[j]? = some p → ∃ v, fvs[j]? = some v ∧ σ[p.1]? = some (some v)) (hl : fvs.length = fx.length) :
    Clo scope H s.heap (cloFrom X.env.cells scope.names []) ((fx.map (·.2)).zip fvs) := by
  have back : ∀ y c, (cloFrom X.env.cells scope.names []).lookup y = some c → X.env.cells.lookup y = some c := fun y c e => by
    rcases cloFrom_mem (lookup_mem e) with z | ⟨z1, z2⟩
    · simp at z
    · obtain ⟨d, hd⟩ := I.ok.has y (hfree (y, .free) z1 rfl)
      rw [hd] at z2
      rw [hd, z2]; rfl
  have fwd : ∀ y, scope.names.lookup y = some .free → ∃ c, (cloFrom X.env.cells scope.names []).lookup y = some c := fun y e =>
    mem_lookup (cloFrom_has (cells := X.env.cells) (acc := []) (lookup_mem e))
  refine ⟨fun y z c h1 h2 => I.ok.inj y z c (back _ _ h1) (back _ _ h2), fwd, fun y c e => I.cell y c (back _ _ e), fun y c e => I.freeC y c (back _ _ e), fun y v hy => ?_⟩
  obtain ⟨j, hj⟩ := List.getElem?_of_mem hy
  rw [List.getElem?_zip_eq_some] at hj
  obtain ⟨h1, h2⟩ := hj
  rw [List.getElem?_map] at h1
  obtain ⟨p, hp, rfl⟩ := Option.map_eq_some_iff.mp h1
  obtain ⟨f1, f2, f3⟩ := hfx p (List.mem_of_getElem? hp)
  obtain ⟨v', g1, g2⟩ := hv j p hp
  rw [h2] at g1
  cases g1
  refine ⟨f3, ?_⟩
  obtain ⟨m, _, hl'⟩ := I.loc
  obtain ⟨u, ru, lk⟩ := hl' p.1 p.2 v f1 g2 (f2.elim (fun z => .inr (.inl z)) fun z => .inr (.inr z))
  obtain ⟨c, hc⟩ := fwd _ f3
  rcases lk with ⟨z, _⟩ | ⟨_, c', e1, e2⟩
  · rw [z] at f2
    rcases f2 with f2 | f2 <;> cases f2
  · have := back _ _ hc
    rw [e1] at this
    cases this
    exact ⟨_, u, hc, e2, ru⟩
/-- sorted(e, key=lambda x: body), the keys tuples of ints -/
def rSortedLam (X : Cx) (ts : List TabRec) (fx : List (Nat × Str)) (tb : TE) (σ : St) (Q : VK) (y : V) (H1 : Hp) : Prop := ∃ (a : Addr) (ns : List Int) (kf : Int → List Int) (fvs : List V), y = .ref a ∧ SqL X.K H1 a (ns.map V.int) ∧ ns.length ≤ 1000 ∧ (∀ n, kf n ≠ []) ∧
  Tabs ts H1 ∧ (∀ (j : Nat) (p : Nat × Str), fx[j]? = some p → ∃ v, fvs[j]? = some v ∧ σ[p.1]? = some (some v)) ∧ fvs.length = fx.length ∧
  (∀ (n : Int) (H' : Hp), n ∈ ns → Gr ts H1 H' → tb (some (.int n) :: fvs.map some) H' fun v H2 => ∃ p, v = .ref p ∧ H2 p = some (.tup ((kf n).map V.int)) ∧ Same H' H2) ∧
  ∀ (ns' : List Int) (p : Addr) (H' : Hp), ns'.Perm ns → ns'.Pairwise (fun a b => HT.lexLt (kf b) (kf a) = false) → Gr ts H1 H' → H1 p = none → H' p = some (.lst (ns'.map V.int)) → Q (.ref p) H'
def tSortedLam (X : Cx) (ts : List TabRec) (fx : List (Nat × Str)) (te tb : TE) : TE := fun σ H Q => te σ H fun y H1 => rSortedLam X ts fx tb σ Q y H1
theorem pe_sortedLam {e : Expr} {te tb : TE} {x : Str} {fx : List (Nat × Str)} {k : Nat} {params : Arguments} {body : Expr} {scope : Scope} {c : Addr} {t : TabRec} {ts : List TabRec} {p pos kpos : Pos}
    (hr : Room (k + 3) X.A) (hg : Gl X "sorted") (hm : X.mg "sorted" = none) (he : PE X e te) (L : LamIn X c t) (ht : t ∈ ts) (hdef : defaultsOf params X.env = ([], []))
    (hfree : ∀ y ∈ scope.names, y.2 = .free → X.env.kindOf y.1 = some .cell ∨ X.env.kindOf y.1 = some .free)
    (hk : scope.kind = .function) (hco : scope.isCoroutine = false) (hgen : scope.isGenerator = false) (hcell : ∀ y ∈ scope.names, y.2 ≠ .cell) (hx : scope.names.lookup x = some .local)
    (hbind : ∀ cl pm c' ctv u, bindArgs (kla_fn "<lambda>" t.qual params body scope cl pm (.ref c') ctv) ⟨[u], []⟩ = pure [(x, u)]) (hnd : (x :: fx.map (·.2)).Nodup)
    (hfx : ∀ p ∈ fx, X.N[p.1]? = some p.2 ∧ (X.env.kindOf p.2 = some .cell ∨ X.env.kindOf p.2 = some .free) ∧ scope.names.lookup p.2 = some .free)
    (hb : ∀ (f c' : Addr) (cl : List (Str × Addr)) (A : Around) (outer : List Env) (s : Shared) (H' : Hp), Room (k + 1) A → PE (cxLam CX0 X.prog X.w X.K X.mg X.base (x :: fx.map (·.2)) t.qual scope f (.ref c') cl A outer s H' E0) body tb)
    (hs1 : starEach [e] X.env = [(false, eval e X.env)] := by rfl) :
    PE X (.Call (.Name "sorted" p) [e] [⟨some "key", .Lambda params body scope t.pos, kpos⟩] pos) (tSortedLam X ts fx te tb) := by
  intro pins s σ H Q I h
  refine wpAny_Call_Name_kw (ld_blt I hg hm bootSorted ?_ (by decide) (by decide))
  have hA : PA X [e] (tCons te tNil) := pa_cons he pa_nil hs1
  refine callWith_kw (thn (hA pos pins s σ H (fun vs H1 => match vs with | [y] => rSortedLam X ts fx tb σ Q y H1 | _ => False) I h) fun us s1 ⟨vs, H1, I1, r, q⟩ => ?_) (by rw [hs1]; rfl) (by rw [hs1]; rfl)
  match vs, r, q with
  | [y], r, q =>
    obtain ⟨a, ns, kf, fvs, rfl, hS, hn, hne, hT, hfv, hfl, hbody, fin⟩ := q
    rw [Vals.ref1 r]
    have hK : PK X [⟨some "key", .Lambda params body scope t.pos, kpos⟩] (tCons (tLam X t ts params body scope) tNil) := pk_cons (pe_lam L ht hdef hfree) pk_nil
    refine thn (hK pos pins s1 σ H1 (fun vs H2 => match vs with
      | [z] => ∃ (f c' : Addr) (ctv : Value), z = .ref f ∧ Gr ts H1 H2 ∧ H1 f = none ∧ H2 f = some (lamHO f t.qual params body scope (cloFrom X.env.cells scope.names []) ((X.mg "__name__").getD .none) c' ctv) ∧ H2 c' = some (codeHO c' t.qual)
      | _ => False) I1 ⟨hT, fun f c' ctv H' g1 g2 g3 g4 => ⟨f, c', ctv, rfl, g1, g2, g3, g4⟩⟩) fun ws s2 ⟨zs, H2, I2, rz, q2⟩ => ?_
    match zs, rz, q2 with
    | [z], rz, q2 =>
      obtain ⟨f, c', ctv, rfl, g1, g2, g3, g4⟩ := q2
      rw [Vals.ref1 rz]
      refine sorted_key (kf := kf) I2 (g1.seq hS) hn hne (ksk_s1 _ _) (fun x => ksk_l1 _ _) (fun n H' s' u hmem I' S' ru => ?_) fun ns' p H' h1 h2 h3 h4 h5 => fin ns' p H' h1 h2 (g1.trans (.same h3)) (g1.free h4) h5
      have hf : s'.heap.get? f = some (kla_obj "<lambda>" t.qual params body scope (cloFrom X.env.cells scope.names []) ((X.mg "__name__").getD .none) c' ctv) := (I'.hok f _ (S' _ _ g3)).1
      have hc : s'.heap.CodeRec (.ref c') t.qual := (I'.hok c' _ (S' _ _ g4)).1
      have C := clo_of (fx := fx) (fvs := fvs) I' hfree hfx hfv hfl
      have en : ((fx.map (·.2)).zip fvs).map (·.1) = fx.map (·.2) := List.map_fst_zip (by rw [List.length_map, hfl]; exact Nat.le_refl _)
      have ev : ((fx.map (·.2)).zip fvs).map (some ·.2) = fvs.map some := by
        have e1 : ((fx.map (·.2)).zip fvs).map (some ·.2) = (((fx.map (·.2)).zip fvs).map Prod.snd).map some := by rw [List.map_map]; rfl
        rw [e1, List.map_snd_zip (by rw [List.length_map, hfl]; exact Nat.le_refl _)]
      have hrl : Room (k + 1) X.A.in1.in1 := Room.in1 (k := k + 1) (Room.in1 (k := k + 2) hr)
      have run := lam_run (CX := CX0) (k := k) (A := X.A.in1.in1) (outer := X.stack) (s := s') (H := H') (E := E0) (v := .int n) (u := u) (x := x) (t := tb) (fs := (fx.map (·.2)).zip fvs)
        (Q := fun v H3 => ∃ p, v = .ref p ∧ H3 p = some (.tup ((kf n).map V.int)) ∧ Same H' H3)
        hrl I'.env0.in1.in1 hf hc hk hco hgen hcell hx (fun u => hbind _ _ _ _ u) (by rw [en]; exact hnd) C ru (by rw [en]; exact hb _ _ _ _ _ _ _ hrl) (by rw [ev]; exact hbody n H' hmem (g1.trans (.same S')))
      refine wpAny_call (codeAny_mono run fun r s3 hq => ?_)
      cases r with
      | error e => exact hq
      | ok fl =>
        cases fl with
        | ret v => exact I'.after hq
        | next => exact False.elim hq
        | brk => exact False.elim hq
        | cont => exact False.elim hq
end
end L2

set_option Elab.async false
set_option linter.all false
set_option maxRecDepth 100000
set_option maxHeartbeats 4000000
namespace L2
open PySem PySem.Spec PyProof.Rows
open PySem.Calls (call_function_entry)
/-! ### max(xs, default=d) of a list of ints -/
section
variable {prog : Program} {w : World} {A : Around} {R : Result → Shared → Prop} {it : Addr} {fp wr : List Addr} {n : Nat} {P : Nat → Value → Prop} {St : Nat → Heap → Prop} {d : Value}
abbrev mxArgs (it S : Addr) (d : Value) : Args := ⟨[.ref it, .none, .ref S], [("default", d)]⟩
theorem mx_name : (toString "max" ++ toString ".loop" : String) = "max.loop" := by decide
theorem maxD_on (W : Walks prog w A.in1 it fp wr n P St) (bt : Nat → Nat → Bool) (cmp : CmpOf prog w A.in1 .Gt P bt) (S : Addr) (nS : S ∉ fp) (k : Nat) :
    ∀ (j : Nat) (s : Shared) (vb : Value) (c : Nat), j + 1 + k = n → St (j + 1) s.heap → P (argBest bt j) vb → s.heap.get? S = some { cls := .type "list", dict := none, data := .seq #[vb, vb] c, slots := #[] } →
    (∀ v g tk, P (argBest bt (n - 1)) v → (∀ b o, b ∉ wr → b ≠ S → s.heap.get? b = some o → g.get? b = some o) → R (.ok (.ret v)) { s with heap := g, toks := tk }) →
    codeAny (model prog w) A (.builtin "max.loop" (mxArgs it S d)) R s := by
  have nw : S ∉ wr := fun z => nS (W.sub _ z)
  induction k with
  | zero =>
    intro j s vb c hj st hP hS hR
    have hn : n = j + 1 := by omega
    subst hn
    refine codeAny_builtin F.entry_max_loop ?_
    rw [Around.under_plainId F.plain_max_loop _]; show wpAny _ A.in1 (seqItems? (.ref S) >>= _) _ _ s
    refine wpAny_bind (wpAny_seqItems hS rfl ?_); show wpAny _ A.in1 (tryCatch (pyNext (.ref it)) _ >>= _) _ _ s
    refine wpAny_bind (wpAny_tryCatch (W.done s _ _ st fun g tk kp => ?_))
    have hS' := kp S _ nw hS
    show wpAny _ A.in1 (updateSeq S (fun _ => #[]) >>= _) _ _ _
    refine wpAny_bind (wpAny_updateSeq hS' rfl (wpAny_bind (wpAny_letGo (wpAny_pure (hR vb _ tk hP fun b o h1 h2 e => ?_)))))
    exact (Heap.get?_update_other _ _ (Ne.symm h2)).trans (kp b o h1 e)
  | succ k ih =>
    intro j s vb c hj st hP hS hR
    refine codeAny_builtin F.entry_max_loop ?_
    rw [Around.under_plainId F.plain_max_loop _]; show wpAny _ A.in1 (seqItems? (.ref S) >>= _) _ _ s
    refine wpAny_bind (wpAny_seqItems hS rfl ?_); show wpAny _ A.in1 (tryCatch (pyNext (.ref it)) _ >>= _) _ _ s
    refine wpAny_bind (wpAny_tryCatch (W.item (j + 1) s _ _ (by omega) st fun v g tk hv st' kp => ?_))
    have hS' := kp S _ nw hS
    show wpAny _ A.in1 (tryCatch (holding [v, v] (richCompare .Gt v vb >>= _)) _ >>= _) _ _ _
    refine wpAny_bind (wpAny_tryCatch (wpAny_holding (wpAny_bind (cmp (j + 1) (argBest bt j) v vb _ _ _ hv hP ?_))))
    refine wpAny_bind (wpAny_holding (wpAny_truthy_bool ?_)); refine wpAny_bind (wpAny_letGo (wpAny_pure ?_))
    cases hb : bt (j + 1) (argBest bt j) with
    | true =>
      simp only [if_true]
      refine wpAny_bind (wpAny_updateSeq hS' rfl (wpAny_bind (wpAny_letGo ?_)))
      rw [mx_name]
      refine wpAny_pure ⟨plainId_quiet F.plain_max_loop _, ih (j + 1) _ v _ (by omega) (W.frame _ _ _ st' fun b hf o e => ?_) (by simp only [argBest, hb, if_true]; exact hv) (Heap.get?_update_self _ hS' rfl) fun v' g' tk' hv' kp' => hR v' g' tk' hv' fun b o h1 h2 e => ?_⟩
      · exact (Heap.get?_update_other _ _ (fun z : S = b => nS (by rw [z]; exact hf))).trans e
      · exact kp' b o h1 h2 ((Heap.get?_update_other _ _ (Ne.symm h2)).trans (kp b o h1 e))
    | false =>
      simp only [Bool.false_eq_true, if_false]
      refine wpAny_bind (wpAny_letGo ?_)
      rw [mx_name]
      exact wpAny_pure ⟨plainId_quiet F.plain_max_loop _, ih (j + 1) _ vb c (by omega) st' (by simp only [argBest, hb, Bool.false_eq_true, if_false]; exact hP) hS' fun v' g' tk' hv' kp' => hR v' g' tk' hv' fun b o h1 h2 e => kp' b o h1 h2 (kp b o h1 e)⟩
theorem maxD_first (W : Walks prog w A.in1 it fp wr n P St) (bt : Nat → Nat → Bool) (cmp : CmpOf prog w A.in1 .Gt P bt) (S : Addr) (nS : S ∉ fp) {s : Shared} {c : Nat} (st : St 0 s.heap)
    (hS : s.heap.get? S = some { cls := .type "list", dict := none, data := .seq #[] c, slots := #[] })
    (hR : ∀ v g tk, (n = 0 ∧ v = d ∨ 0 < n ∧ P (argBest bt (n - 1)) v) → (∀ b o, b ∉ wr → b ≠ S → s.heap.get? b = some o → g.get? b = some o) → R (.ok (.ret v)) { s with heap := g, toks := tk }) :
    codeAny (model prog w) A (.builtin "max.loop" (mxArgs it S d)) R s := by
  have nw : S ∉ wr := fun z => nS (W.sub _ z)
  refine codeAny_builtin F.entry_max_loop ?_
  rw [Around.under_plainId F.plain_max_loop _]; show wpAny _ A.in1 (seqItems? (.ref S) >>= _) _ _ s
  refine wpAny_bind (wpAny_seqItems hS rfl ?_); show wpAny _ A.in1 (tryCatch (pyNext (.ref it)) _ >>= _) _ _ s
  by_cases hn : n = 0
  · subst hn
    refine wpAny_bind (wpAny_tryCatch (W.done s _ _ st fun g tk kp => ?_))
    refine wpAny_bind (wpAny_rule (wpAny_pure (hR d g tk (.inl ⟨rfl, rfl⟩) fun b o h1 _ e => kp b o h1 e)))
  · refine wpAny_bind (wpAny_tryCatch (W.item 0 s _ _ (by omega) st fun v g tk hv st' kp => ?_))
    have hS' := kp S _ nw hS
    show wpAny _ A.in1 (updateSeq S (fun _ => #[v, v]) >>= _) _ _ _
    refine wpAny_bind (wpAny_updateSeq hS' rfl ?_)
    rw [mx_name]
    refine wpAny_pure ⟨plainId_quiet F.plain_max_loop _, maxD_on W bt cmp S nS (n - 1) 0 _ v _ (by omega) (W.frame _ _ _ st' fun b hf o e => ?_) hv (Heap.get?_update_self _ hS' rfl) fun v' g' tk' hv' kp' => hR v' g' tk' (.inr ⟨by omega, hv'⟩) fun b o h1 h2 e => ?_⟩
    · exact (Heap.get?_update_other _ _ (fun z : S = b => nS (by rw [z]; exact hf))).trans e
    · exact kp' b o h1 h2 ((Heap.get?_update_other _ _ (Ne.symm h2)).trans (kp b o h1 e))
end
section
variable {prog : Program} {w : World} {A : Around} {E : Value → Shared → Prop} {s : Shared}
theorem call_tree_kw {id : String} {b : Builtin} {args : List Value} {kw : List (Str × Value)} {Q : Value → Shared → Prop} (hk : builtinKind id = none) (hp : plainId id = true) (hb : entryFor table id = some b) (ha : argsOk id ⟨args, kw⟩)
    (hc : wpAny (model prog w) A.in1 (b ⟨args, kw⟩) (fun fin s' => match fin with
      | .done f => (match (Except.ok f : Result) with | .ok (.ret v) => Q v s' | .ok _ => False | .error e => E e s')
      | .again c' => c'.quiet = true ∧ codeAny (model prog w) A c' (fun r s' => match r with | .ok (.ret v) => Q v s' | .ok _ => False | .error e => E e s') s') E s) : wpAny (model prog w) A (call (.builtin id) args kw) Q E s := by
  refine wpAny_call (codeAny_call_builtin hp hb ?_)
  simp only [checkBuiltinCall, hk]
  cases hsig : Manifest.signature? id with
  | none => exact wpAny_pure hc
  | some sig =>
    simp only [argsOk, hsig] at ha
    have h2 : Bind.checkArgs id sig ⟨args, kw⟩ = pure () := ha
    show wpAny _ A.in1 (Bind.checkArgs id sig ⟨args, kw⟩) _ _ s
    rw [h2]; exact wpAny_pure hc
end
theorem args_maxD (a d : Value) : argsOk "max" ⟨[a], [(Str.ofString "default", d)]⟩ := by unfold argsOk; kernel_rfl
section
variable {prog : Program} {w : World} {A : Around} {E : Value → Shared → Prop} {s : Shared} {l : Addr} {its : List Value} {ns : List Int} {Q : Value → Shared → Prop} {d : Value}
theorem maxD_raw (hh : A.handled = none) (hl : s.heap.IsList l its.toArray) (hi : IntsAre its ns)
    (h : ∀ (g : Heap) (tk : Nat) (v : Value), (∀ b o, s.heap.get? b = some o → g.get? b = some o) → (ns = [] ∧ v = d ∨ ∃ m t, v = .int m t ∧ m ∈ ns ∧ ∀ a, a ∈ ns → a ≤ m) → Q v { s with heap := g, toks := tk }) :
    wpAny (model prog w) A (call (.builtin "max") [.ref l] [(Str.ofString "default", d)]) Q E s := by
  obtain ⟨xs, e⟩ := hi.allInts.items
  have hn : numsOf (intItems xs).toList = ns := by rw [← e]; exact hi.numsOf
  rw [nums_intItems] at hn
  subst hn
  rw [e] at hl
  refine call_tree_kw F.kind_max F.plain_max F.entry_max (args_maxD _ _) ?_
  show wpAny _ A.in1 (Builtin.Builtins.bindParams "max" ["key", "default"] 0 ⟨[], [(Str.ofString "default", d)]⟩ >>= _) _ _ s
  refine wpAny_bind (wpAny_of_eq (show Builtin.Builtins.bindParams "max" ["key", "default"] 0 ⟨[], [(Str.ofString "default", d)]⟩ = pure [none, some d] from rfl) ?_)
  refine wpAny_bind (wpAny_pure ?_)
  refine wpAny_bind (iter_intList hl fun s₂ es st hfp hlI => ?_)
  subst es
  refine wpAny_bind (wpAny_newObj_type ?_)
  have nS : (s.heap.push { cls := .type "list_iterator", data := .fields #[.ref l, .int 0 0] }).objs.size ∉ [s.heap.objs.size, l] := fun hm => Nat.lt_irrefl _ (hfp _ hm)
  rw [mx_name]
  have W := Walks.list (prog := prog) (w := w) (A := A.in1) hh s.heap.objs.size l hlI (intItems xs)
  refine wpAny_pure ⟨plainId_quiet F.plain_max_loop _, maxD_first (d := d) W _ (CmpOf.ints_gt (numAt xs) (fun _ _ => intItems_at)) _ nS (W.frame _ _ _ st fun b _ o e => Heap.get?_push_of_some _ e) (Heap.get?_push_size _ rfl) fun v g tk hv kp => ?_⟩
  have hsz : (intItems xs).size = xs.size := by simp [intItems]
  refine h g tk v (old_kept fun b o h1 e => kp b o h1 (Nat.ne_of_lt (Heap.lt_size e)) (Heap.get?_push_of_some _ e)) ?_
  rw [hsz] at hv
  rcases hv with ⟨h0, rfl⟩ | ⟨h0, hv⟩
  · exact .inl ⟨by rw [Array.eq_empty_of_size_eq_zero h0]; rfl, rfl⟩
  · obtain ⟨t, rfl⟩ := intItems_at hv
    obtain ⟨h1, h2⟩ := argBest_gt (numAt xs) (xs.size - 1)
    refine .inr ⟨_, t, rfl, ?_, fun a ha => ?_⟩
    · rw [numAt_eq]; exact PySem.getD_mem (by rw [List.length_map, Array.length_toList]; omega)
    · obtain ⟨j, hj, rfl⟩ := mem_getD ha
      rw [List.length_map, Array.length_toList] at hj
      rw [← numAt_eq]; exact h2 j (by omega)
end
section
variable {X : Cx}
/-- max(xs, default=d) of a list of ints -/
def tMaxD (K : PySem.W.Frag) (te td : TE) : TE := fun σ H Q => te σ H fun x H1 => td σ H1 fun y H2 => ∃ (a : Addr) (ns : List Int) (d : Int), x = .ref a ∧ y = .int d ∧ SqL K H2 a (ns.map V.int) ∧
  (ns = [] → Q (.int d) H2) ∧ ∀ m, m ∈ ns → (∀ a, a ∈ ns → a ≤ m) → Q (.int m) H2
theorem pe_maxD {e e2 : Expr} {te td : TE} {p pos kpos : Pos} (hc : X.calm = true) (hg : Gl X "max") (hm : X.mg "max" = none) (he : PE X e te) (hd : PE X e2 td) (hs1 : starEach [e] X.env = [(false, eval e X.env)] := by rfl) :
    PE X (.Call (.Name "max" p) [e] [⟨some "default", e2, kpos⟩] pos) (tMaxD X.K te td) := by
  intro pins s σ H Q I h
  refine wpAny_Call_Name_kw (ld_blt I hg hm boot_max ?_ (by decide) (by decide))
  have hA : PA X [e] (tCons te tNil) := pa_cons he pa_nil hs1
  have hK : PK X [⟨some "default", e2, kpos⟩] (tCons td tNil) := pk_cons hd pk_nil
  refine callWith_kw (thn (hA pos pins s σ H (fun vs H1 => match vs with
    | [x] => td σ H1 fun y H2 => ∃ (a : Addr) (ns : List Int) (d : Int), x = .ref a ∧ y = .int d ∧ SqL X.K H2 a (ns.map V.int) ∧ (ns = [] → Q (.int d) H2) ∧ ∀ m, m ∈ ns → (∀ a, a ∈ ns → a ≤ m) → Q (.int m) H2
    | _ => False) I h) fun us s1 ⟨vs, H1, I1, r, q⟩ => ?_) (by rw [hs1]; rfl) (by rw [hs1]; rfl)
  match vs, r, q with
  | [x], r, q =>
    refine thn (hK pos pins s1 σ H1 (fun vs H2 => match vs with
      | [y] => ∃ (a : Addr) (ns : List Int) (d : Int), x = .ref a ∧ y = .int d ∧ SqL X.K H2 a (ns.map V.int) ∧ (ns = [] → Q (.int d) H2) ∧ ∀ m, m ∈ ns → (∀ a, a ∈ ns → a ≤ m) → Q (.int m) H2
      | _ => False) I1 q) fun ws s2 ⟨zs, H2, I2, rz, q2⟩ => ?_
    match zs, rz, q2 with
    | [y], rz, q2 =>
      obtain ⟨a, ns, d, rfl, rfl, hS, q3, q4⟩ := q2
      rw [Vals.ref1 r]
      obtain ⟨u, rfl, t, rfl⟩ := rz.one
      obtain ⟨its, rv, hl, _⟩ := I2.list hS
      refine maxD_raw (I2.ok.hd hc) hl.isList rv.ints fun g tk v kp hv => ?_
      rcases hv with ⟨e0, rfl⟩ | ⟨m, t', rfl, h1, h2⟩
      · exact ⟨.int d, H2, I2.kept kp, ⟨_, rfl⟩, q3 e0⟩
      · exact ⟨.int m, H2, I2.kept kp, ⟨_, rfl⟩, q4 m h1 h2⟩
end
end L2

set_option Elab.async false
set_option linter.all false
set_option maxRecDepth 100000
set_option maxHeartbeats 4000000
namespace L2
open PySem PySem.Spec PyProof.Rows
open PySem.Calls (call_function_entry)
/-! ### min(xs, default=d) of a list of ints -/
section
variable {prog : Program} {w : World} {A : Around} {R : Result → Shared → Prop} {it : Addr} {fp wr : List Addr} {n : Nat} {P : Nat → Value → Prop} {St : Nat → Heap → Prop} {d : Value}
abbrev mnArgs (it S : Addr) (d : Value) : Args := ⟨[.ref it, .none, .ref S], [("default", d)]⟩
theorem mn_name : (toString "min" ++ toString ".loop" : String) = "min.loop" := by decide
theorem minD_on (W : Walks prog w A.in1 it fp wr n P St) (bt : Nat → Nat → Bool) (cmp : CmpOf prog w A.in1 .Lt P bt) (S : Addr) (nS : S ∉ fp) (k : Nat) :
    ∀ (j : Nat) (s : Shared) (vb : Value) (c : Nat), j + 1 + k = n → St (j + 1) s.heap → P (argBest bt j) vb → s.heap.get? S = some { cls := .type "list", dict := none, data := .seq #[vb, vb] c, slots := #[] } →
    (∀ v g tk, P (argBest bt (n - 1)) v → (∀ b o, b ∉ wr → b ≠ S → s.heap.get? b = some o → g.get? b = some o) → R (.ok (.ret v)) { s with heap := g, toks := tk }) →
    codeAny (model prog w) A (.builtin "min.loop" (mnArgs it S d)) R s := by
  have nw : S ∉ wr := fun z => nS (W.sub _ z)
  induction k with
  | zero =>
    intro j s vb c hj st hP hS hR
    have hn : n = j + 1 := by omega
    subst hn
    refine codeAny_builtin F.entry_min_loop ?_
    rw [Around.under_plainId F.plain_min_loop _]; show wpAny _ A.in1 (seqItems? (.ref S) >>= _) _ _ s
    refine wpAny_bind (wpAny_seqItems hS rfl ?_); show wpAny _ A.in1 (tryCatch (pyNext (.ref it)) _ >>= _) _ _ s
    refine wpAny_bind (wpAny_tryCatch (W.done s _ _ st fun g tk kp => ?_))
    have hS' := kp S _ nw hS
    show wpAny _ A.in1 (updateSeq S (fun _ => #[]) >>= _) _ _ _
    refine wpAny_bind (wpAny_updateSeq hS' rfl (wpAny_bind (wpAny_letGo (wpAny_pure (hR vb _ tk hP fun b o h1 h2 e => ?_)))))
    exact (Heap.get?_update_other _ _ (Ne.symm h2)).trans (kp b o h1 e)
  | succ k ih =>
    intro j s vb c hj st hP hS hR
    refine codeAny_builtin F.entry_min_loop ?_
    rw [Around.under_plainId F.plain_min_loop _]; show wpAny _ A.in1 (seqItems? (.ref S) >>= _) _ _ s
    refine wpAny_bind (wpAny_seqItems hS rfl ?_); show wpAny _ A.in1 (tryCatch (pyNext (.ref it)) _ >>= _) _ _ s
    refine wpAny_bind (wpAny_tryCatch (W.item (j + 1) s _ _ (by omega) st fun v g tk hv st' kp => ?_))
    have hS' := kp S _ nw hS
    show wpAny _ A.in1 (tryCatch (holding [v, v] (richCompare .Lt v vb >>= _)) _ >>= _) _ _ _
    refine wpAny_bind (wpAny_tryCatch (wpAny_holding (wpAny_bind (cmp (j + 1) (argBest bt j) v vb _ _ _ hv hP ?_))))
    refine wpAny_bind (wpAny_holding (wpAny_truthy_bool ?_)); refine wpAny_bind (wpAny_letGo (wpAny_pure ?_))
    cases hb : bt (j + 1) (argBest bt j) with
    | true =>
      simp only [if_true]
      refine wpAny_bind (wpAny_updateSeq hS' rfl (wpAny_bind (wpAny_letGo ?_)))
      rw [mn_name]
      refine wpAny_pure ⟨plainId_quiet F.plain_min_loop _, ih (j + 1) _ v _ (by omega) (W.frame _ _ _ st' fun b hf o e => ?_) (by simp only [argBest, hb, if_true]; exact hv) (Heap.get?_update_self _ hS' rfl) fun v' g' tk' hv' kp' => hR v' g' tk' hv' fun b o h1 h2 e => ?_⟩
      · exact (Heap.get?_update_other _ _ (fun z : S = b => nS (by rw [z]; exact hf))).trans e
      · exact kp' b o h1 h2 ((Heap.get?_update_other _ _ (Ne.symm h2)).trans (kp b o h1 e))
    | false =>
      simp only [Bool.false_eq_true, if_false]
      refine wpAny_bind (wpAny_letGo ?_)
      rw [mn_name]
      exact wpAny_pure ⟨plainId_quiet F.plain_min_loop _, ih (j + 1) _ vb c (by omega) st' (by simp only [argBest, hb, Bool.false_eq_true, if_false]; exact hP) hS' fun v' g' tk' hv' kp' => hR v' g' tk' hv' fun b o h1 h2 e => kp' b o h1 h2 (kp b o h1 e)⟩
theorem minD_first (W : Walks prog w A.in1 it fp wr n P St) (bt : Nat → Nat → Bool) (cmp : CmpOf prog w A.in1 .Lt P bt) (S : Addr) (nS : S ∉ fp) {s : Shared} {c : Nat} (st : St 0 s.heap)
    (hS : s.heap.get? S = some { cls := .type "list", dict := none, data := .seq #[] c, slots := #[] })
    (hR : ∀ v g tk, (n = 0 ∧ v = d ∨ 0 < n ∧ P (argBest bt (n - 1)) v) → (∀ b o, b ∉ wr → b ≠ S → s.heap.get? b = some o → g.get? b = some o) → R (.ok (.ret v)) { s with heap := g, toks := tk }) :
    codeAny (model prog w) A (.builtin "min.loop" (mnArgs it S d)) R s := by
  have nw : S ∉ wr := fun z => nS (W.sub _ z)
  refine codeAny_builtin F.entry_min_loop ?_
  rw [Around.under_plainId F.plain_min_loop _]; show wpAny _ A.in1 (seqItems? (.ref S) >>= _) _ _ s
  refine wpAny_bind (wpAny_seqItems hS rfl ?_); show wpAny _ A.in1 (tryCatch (pyNext (.ref it)) _ >>= _) _ _ s
  by_cases hn : n = 0
  · subst hn
    refine wpAny_bind (wpAny_tryCatch (W.done s _ _ st fun g tk kp => ?_))
    refine wpAny_bind (wpAny_rule (wpAny_pure (hR d g tk (.inl ⟨rfl, rfl⟩) fun b o h1 _ e => kp b o h1 e)))
  · refine wpAny_bind (wpAny_tryCatch (W.item 0 s _ _ (by omega) st fun v g tk hv st' kp => ?_))
    have hS' := kp S _ nw hS
    show wpAny _ A.in1 (updateSeq S (fun _ => #[v, v]) >>= _) _ _ _
    refine wpAny_bind (wpAny_updateSeq hS' rfl ?_)
    rw [mn_name]
    refine wpAny_pure ⟨plainId_quiet F.plain_min_loop _, minD_on W bt cmp S nS (n - 1) 0 _ v _ (by omega) (W.frame _ _ _ st' fun b hf o e => ?_) hv (Heap.get?_update_self _ hS' rfl) fun v' g' tk' hv' kp' => hR v' g' tk' (.inr ⟨by omega, hv'⟩) fun b o h1 h2 e => ?_⟩
    · exact (Heap.get?_update_other _ _ (fun z : S = b => nS (by rw [z]; exact hf))).trans e
    · exact kp' b o h1 h2 ((Heap.get?_update_other _ _ (Ne.symm h2)).trans (kp b o h1 e))
end
theorem args_minD (a d : Value) : argsOk "min" ⟨[a], [(Str.ofString "default", d)]⟩ := by unfold argsOk; kernel_rfl
section
variable {prog : Program} {w : World} {A : Around} {E : Value → Shared → Prop} {s : Shared} {l : Addr} {its : List Value} {ns : List Int} {Q : Value → Shared → Prop} {d : Value}
theorem minD_raw (hh : A.handled = none) (hl : s.heap.IsList l its.toArray) (hi : IntsAre its ns)
    (h : ∀ (g : Heap) (tk : Nat) (v : Value), (∀ b o, s.heap.get? b = some o → g.get? b = some o) → (ns = [] ∧ v = d ∨ ∃ m t, v = .int m t ∧ m ∈ ns ∧ ∀ a, a ∈ ns → m ≤ a) → Q v { s with heap := g, toks := tk }) :
    wpAny (model prog w) A (call (.builtin "min") [.ref l] [(Str.ofString "default", d)]) Q E s := by
  obtain ⟨xs, e⟩ := hi.allInts.items
  have hn : numsOf (intItems xs).toList = ns := by rw [← e]; exact hi.numsOf
  rw [nums_intItems] at hn
  subst hn
  rw [e] at hl
  refine call_tree_kw F.kind_min F.plain_min F.entry_min (args_minD _ _) ?_
  show wpAny _ A.in1 (Builtin.Builtins.bindParams "min" ["key", "default"] 0 ⟨[], [(Str.ofString "default", d)]⟩ >>= _) _ _ s
  refine wpAny_bind (wpAny_of_eq (show Builtin.Builtins.bindParams "min" ["key", "default"] 0 ⟨[], [(Str.ofString "default", d)]⟩ = pure [none, some d] from rfl) ?_)
  refine wpAny_bind (wpAny_pure ?_)
  refine wpAny_bind (iter_intList hl fun s₂ es st hfp hlI => ?_)
  subst es
  refine wpAny_bind (wpAny_newObj_type ?_)
  have nS : (s.heap.push { cls := .type "list_iterator", data := .fields #[.ref l, .int 0 0] }).objs.size ∉ [s.heap.objs.size, l] := fun hm => Nat.lt_irrefl _ (hfp _ hm)
  rw [mn_name]
  have W := Walks.list (prog := prog) (w := w) (A := A.in1) hh s.heap.objs.size l hlI (intItems xs)
  refine wpAny_pure ⟨plainId_quiet F.plain_min_loop _, minD_first (d := d) W _ (CmpOf.ints_lt (numAt xs) (fun _ _ => intItems_at)) _ nS (W.frame _ _ _ st fun b _ o e => Heap.get?_push_of_some _ e) (Heap.get?_push_size _ rfl) fun v g tk hv kp => ?_⟩
  have hsz : (intItems xs).size = xs.size := by simp [intItems]
  refine h g tk v (old_kept fun b o h1 e => kp b o h1 (Nat.ne_of_lt (Heap.lt_size e)) (Heap.get?_push_of_some _ e)) ?_
  rw [hsz] at hv
  rcases hv with ⟨h0, rfl⟩ | ⟨h0, hv⟩
  · exact .inl ⟨by rw [Array.eq_empty_of_size_eq_zero h0]; rfl, rfl⟩
  · obtain ⟨t, rfl⟩ := intItems_at hv
    obtain ⟨h1, h2⟩ := argBest_lt (numAt xs) (xs.size - 1)
    refine .inr ⟨_, t, rfl, ?_, fun a ha => ?_⟩
    · rw [numAt_eq]; exact PySem.getD_mem (by rw [List.length_map, Array.length_toList]; omega)
    · obtain ⟨j, hj, rfl⟩ := mem_getD ha
      rw [List.length_map, Array.length_toList] at hj
      rw [← numAt_eq]; exact h2 j (by omega)
end
section
variable {X : Cx}
/-- max(xs, default=d) of a list of ints -/
def tMinD (K : PySem.W.Frag) (te td : TE) : TE := fun σ H Q => te σ H fun x H1 => td σ H1 fun y H2 => ∃ (a : Addr) (ns : List Int) (d : Int), x = .ref a ∧ y = .int d ∧ SqL K H2 a (ns.map V.int) ∧
  (ns = [] → Q (.int d) H2) ∧ ∀ m, m ∈ ns → (∀ a, a ∈ ns → m ≤ a) → Q (.int m) H2
theorem pe_minD {e e2 : Expr} {te td : TE} {p pos kpos : Pos} (hc : X.calm = true) (hg : Gl X "min") (hm : X.mg "min" = none) (he : PE X e te) (hd : PE X e2 td) (hs1 : starEach [e] X.env = [(false, eval e X.env)] := by rfl) :
    PE X (.Call (.Name "min" p) [e] [⟨some "default", e2, kpos⟩] pos) (tMinD X.K te td) := by
  intro pins s σ H Q I h
  refine wpAny_Call_Name_kw (ld_blt I hg hm boot_min ?_ (by decide) (by decide))
  have hA : PA X [e] (tCons te tNil) := pa_cons he pa_nil hs1
  have hK : PK X [⟨some "default", e2, kpos⟩] (tCons td tNil) := pk_cons hd pk_nil
  refine callWith_kw (thn (hA pos pins s σ H (fun vs H1 => match vs with
    | [x] => td σ H1 fun y H2 => ∃ (a : Addr) (ns : List Int) (d : Int), x = .ref a ∧ y = .int d ∧ SqL X.K H2 a (ns.map V.int) ∧ (ns = [] → Q (.int d) H2) ∧ ∀ m, m ∈ ns → (∀ a, a ∈ ns → m ≤ a) → Q (.int m) H2
    | _ => False) I h) fun us s1 ⟨vs, H1, I1, r, q⟩ => ?_) (by rw [hs1]; rfl) (by rw [hs1]; rfl)
  match vs, r, q with
  | [x], r, q =>
    refine thn (hK pos pins s1 σ H1 (fun vs H2 => match vs with
      | [y] => ∃ (a : Addr) (ns : List Int) (d : Int), x = .ref a ∧ y = .int d ∧ SqL X.K H2 a (ns.map V.int) ∧ (ns = [] → Q (.int d) H2) ∧ ∀ m, m ∈ ns → (∀ a, a ∈ ns → m ≤ a) → Q (.int m) H2
      | _ => False) I1 q) fun ws s2 ⟨zs, H2, I2, rz, q2⟩ => ?_
    match zs, rz, q2 with
    | [y], rz, q2 =>
      obtain ⟨a, ns, d, rfl, rfl, hS, q3, q4⟩ := q2
      rw [Vals.ref1 r]
      obtain ⟨u, rfl, t, rfl⟩ := rz.one
      obtain ⟨its, rv, hl, _⟩ := I2.list hS
      refine minD_raw (I2.ok.hd hc) hl.isList rv.ints fun g tk v kp hv => ?_
      rcases hv with ⟨e0, rfl⟩ | ⟨m, t', rfl, h1, h2⟩
      · exact ⟨.int d, H2, I2.kept kp, ⟨_, rfl⟩, q3 e0⟩
      · exact ⟨.int m, H2, I2.kept kp, ⟨_, rfl⟩, q4 m h1 h2⟩
end
end L2
namespace L2
open PySem PySem.Spec PyProof.Rows
section
variable {X : Cx}
/-- dict(d): a copy -/
theorem call_dictC : CallR X (.type "dict") (fun xs H Q => ∃ (a : Addr) (kvs : List (Key × V)), xs = [.ref a] ∧ Rd H a (.dK kvs) ∧ ∀ p, H p = none → Q (.ref p) (upd H p (.dK kvs))) := by
  intro pins s σ H vs us Q I r h
  obtain ⟨a, kvs, rfl, hd, q⟩ := h
  rw [Vals.ref1 r]
  exact d_copyOf I hd fun p s' hp I' => ⟨.ref p, _, I', rfl, q p hp⟩
theorem bootDict : bootBuiltins "dict" = some (.type "dict") := by decide +kernel
theorem bootSum : bootBuiltins "sum" = some (.builtin "sum") := by decide +kernel
end
end L2

set_option Elab.async false
set_option linter.all false
set_option maxRecDepth 100000
set_option maxHeartbeats 4000000
namespace L2
open PySem PySem.Spec PyProof.Rows PySem.W
/-! ### sorted(d, key=lambda ..) of a dict of ints, the keys tuples of ints -/
section
variable {X : Cx} {pins : List (Addr × Obj)} {σ : St} {H : Hp} {s : Shared} {l q D kS : Addr} {kf : Int → List Int} {Q : VK}
theorem sorted_keyD {kvs : List (Int × V)} (hc : X.calm = true) (I : Inv X pins σ H s) (hd : Rd H l (.dK (kvs.map fun p => (Sum.inl p.1, p.2)))) (hn : kvs.length ≤ 1000) (hne : ∀ n, kf n ≠ [])
    (ha1 : argsOk "sorted" ⟨[.ref l], [(Str.ofString "key", .ref q)]⟩) (ha2 : ∀ x, argsOk "list.sort" ⟨[.ref x], [(Str.ofString "key", .ref q)]⟩) (turn : KeyTurn X pins σ H q kf (kvs.map (·.1)))
    (h : ∀ (ns' : List Int) (p : Addr) (H' : Hp), ns'.Perm (kvs.map (·.1)) → ns'.Pairwise (fun a b => HT.lexLt (kf b) (kf a) = false) → Same H H' → H p = none → H' p = some (.lst (ns'.map V.int)) → Q (.ref p) H') :
    wpAny (model X.prog X.w) X.A (call (.builtin "sorted") [.ref l] [(Str.ofString "key", .ref q)]) (EP X pins σ Q) X.xe s := by
  obtain ⟨hz, hsys, ws, rel, dd⟩ := dk_rd I.hok hd
  obtain ⟨ep, hat⟩ := dd.dictAt
  have hlen : ws.length = kvs.length := by rw [← rel.length, List.length_map]
  have h1000 : 1000 < sizeLine := by decide
  refine call_function_entry_kw kind_sorted plain_sorted entry_sorted ha1 ?_
  unfold Builtin.«sorted»
  refine wpAny_bind (m := checkCount "sorted" 1 1 _) (wpAny_pure ?_)
  refine wpAny_bind (PySem.W.kdu_collect (A := X.A.in1) (PySem.W.kdl_dict (knd := mixKind X.prog X.w) (kvs := ws) (ep := ep) hsys) (I.ok.hd hc) hat (by rw [hlen]; omega) fun h1 tk acc hk hacc => ?_)
  have hl : acc.toList.length = ws.length := by rw [Array.length_toList]; exact hacc.1
  have hi : IntsAre acc.toList (kvs.map (·.1)) := ints_at (by rw [hl, List.length_map, hlen]) fun j u hu => by
    obtain ⟨k, x, hx, hkk⟩ := hacc.2 j u (by rw [← Array.getElem?_toList]; exact hu)
    have hks := rel.keys
    have e : (ws.map (·.1))[j]? = some k := by rw [List.getElem?_map, hx]; rfl
    rw [← hks, List.map_map, List.getElem?_map] at e
    obtain ⟨p, hp, hp2⟩ := Option.map_eq_some_iff.mp e
    obtain rfl : Sum.inl p.1 = k := hp2
    obtain ⟨t, e2⟩ := Value.isInt_shape (k := p.1) (v := u) hkk
    exact ⟨p.1, t, by rw [List.getElem?_map, hp]; rfl, e2⟩
  have hvz : acc.toList.length ≤ sizeLine := by omega
  refine wpAny_bind (wpAny_newList ?_ hvz)
  have I1 := I.kept (t' := tk) hk
  have hob : (h1.push { cls := .type "list", data := .seq acc.toList.toArray }).get? h1.objs.size = some { cls := .type "list", data := .seq acc.toList.toArray } := Heap.get?_push_size _ rfl
  have nD : H h1.objs.size = none := I1.hok.fresh (Nat.le_refl _)
  have I2 := I1.lnew (t' := tk) (vals_of_ints hi) (by rw [List.length_map, List.length_map]; omega)
  refine wpAny_bind (wpAny_holding (wpAny_call_entry_kw slot_list_sort ⟨_, hob, rfl⟩ entry_list_sort ?body (ha2 _)))
  case body =>
    show wpAny (model X.prog X.w) X.A.in1.in1 (ksk_tree h1.objs.size (.ref q) false) _ _ _
    unfold ksk_tree
    refine wpAny_bind (listItems_at hob rfl ?_)
    refine wpAny_bind (listUpdate_at hob rfl ?_ (by rw [List.size_toArray]; exact hvz) (Nat.zero_le _))
    obtain ⟨e1, ho1⟩ : ∃ e1, ((h1.push { cls := .type "list", data := .seq acc.toList.toArray }).update h1.objs.size (Obj.mapSeq fun _ => (#[] : Array Value))).get? h1.objs.size = some (lstObj e1) := ⟨_, get?_update_seq hob fun _ => #[]⟩
    have I3 := I2.write (x := h1.objs.size) (e := h1.objs.size) (o := holdD h1.objs.size e1) (h' := (h1.push { cls := .type "list", data := .seq acc.toList.toArray }).update h1.objs.size (Obj.mapSeq fun _ => (#[] : Array Value))) (t' := tk)
      (by rw [upd_same]; trivial) (.inl rfl) (fun b u hb hu => by rw [Heap.get?_update_ne _ _ _ _ hb]; exact hu) ⟨_, ho1⟩ ⟨ho1, ⟨_, ho1⟩, fun _ _ a b => b _ a⟩
    refine wpAny_bind (seqEpoch_at ho1 rfl ?_)
    refine wpAny_bind (wpAny_newTuple ?_ hvz)
    have I4 := I3.kept (h' := ((h1.push { cls := .type "list", data := .seq acc.toList.toArray }).update h1.objs.size (Obj.mapSeq fun _ => (#[] : Array Value))).push { cls := .type "tuple", data := .seq acc.toList.toArray }) (t' := tk) fun b u z => Heap.get?_push_of_some _ z
    refine wpAny_bind (wpAny_newList ?_ (Nat.zero_le _))
    have I5 := I4.lnew (t' := tk) (its := []) (ys := []) .nil (Nat.zero_le _)
    refine wpAny_holding ?_
    have nK := I4.hok.fresh (Nat.le_refl _)
    have nDK := ne_of_none (upd_same (H := upd H h1.objs.size (HO.lst ((kvs.map (·.1)).map V.int))) (a := h1.objs.size) (o := holdD h1.objs.size e1)) nK
    have S4 : Same H (upd (upd H h1.objs.size (HO.lst ((kvs.map (·.1)).map V.int))) h1.objs.size (holdD h1.objs.size e1)) := ((Same.refl H).upd_new nD).upd_new nD
    have nK0 := S4.free nK
    refine key_rest I5 (D := h1.objs.size) (e1 := e1) (H0 := H) (by rw [upd_ne nDK]; exact upd_same) upd_same (S4.upd_new nK0) nD nK0 hne (by rw [List.length_map]; exact hn) hi turn fun s' ns' H' hp hw S' hD' I' => ?_
    exact ⟨_, rfl, wpAny_pure ⟨_, rfl, .ref _, H', I', rfl, h ns' _ H' hp hw S' nD hD'⟩⟩
/-- sorted(d, key=lambda x: body) -/
def rSortedLamD (X : Cx) (ts : List TabRec) (fx : List (Nat × Str)) (tb : TE) (σ : St) (Q : VK) (y : V) (H1 : Hp) : Prop := ∃ (a : Addr) (kvs : List (Int × V)) (kf : Int → List Int) (fvs : List V), y = .ref a ∧ Rd H1 a (.dK (kvs.map fun p => (Sum.inl p.1, p.2))) ∧ kvs.length ≤ 1000 ∧ (∀ n, kf n ≠ []) ∧
  Tabs ts H1 ∧ (∀ (j : Nat) (p : Nat × Str), fx[j]? = some p → ∃ v, fvs[j]? = some v ∧ σ[p.1]? = some (some v)) ∧ fvs.length = fx.length ∧
  (∀ (n : Int) (H' : Hp), n ∈ kvs.map (·.1) → Gr ts H1 H' → tb (some (.int n) :: fvs.map some) H' fun v H2 => ∃ p, v = .ref p ∧ H2 p = some (.tup ((kf n).map V.int)) ∧ Same H' H2) ∧
  ∀ (ns' : List Int) (p : Addr) (H' : Hp), ns'.Perm (kvs.map (·.1)) → ns'.Pairwise (fun a b => HT.lexLt (kf b) (kf a) = false) → Gr ts H1 H' → H1 p = none → H' p = some (.lst (ns'.map V.int)) → Q (.ref p) H'
def tSortedLamD (X : Cx) (ts : List TabRec) (fx : List (Nat × Str)) (te tb : TE) : TE := fun σ H Q => te σ H fun y H1 => rSortedLamD X ts fx tb σ Q y H1
theorem pe_sortedLamD {e : Expr} {te tb : TE} {x : Str} {fx : List (Nat × Str)} {k : Nat} {params : Arguments} {body : Expr} {scope : Scope} {c : Addr} {t : TabRec} {ts : List TabRec} {p pos kpos : Pos}
    (hr : Room (k + 3) X.A) (hcalm : X.calm = true) (hg : Gl X "sorted") (hm : X.mg "sorted" = none) (he : PE X e te) (L : LamIn X c t) (ht : t ∈ ts) (hdef : defaultsOf params X.env = ([], []))
    (hfree : ∀ y ∈ scope.names, y.2 = .free → X.env.kindOf y.1 = some .cell ∨ X.env.kindOf y.1 = some .free)
    (hk : scope.kind = .function) (hco : scope.isCoroutine = false) (hgen : scope.isGenerator = false) (hcell : ∀ y ∈ scope.names, y.2 ≠ .cell) (hx : scope.names.lookup x = some .local)
    (hbind : ∀ cl pm c' ctv u, bindArgs (kla_fn "<lambda>" t.qual params body scope cl pm (.ref c') ctv) ⟨[u], []⟩ = pure [(x, u)]) (hnd : (x :: fx.map (·.2)).Nodup)
    (hfx : ∀ p ∈ fx, X.N[p.1]? = some p.2 ∧ (X.env.kindOf p.2 = some .cell ∨ X.env.kindOf p.2 = some .free) ∧ scope.names.lookup p.2 = some .free)
    (hb : ∀ (f c' : Addr) (cl : List (Str × Addr)) (A : Around) (outer : List Env) (s : Shared) (H' : Hp), Room (k + 1) A → PE (cxLam CX0 X.prog X.w X.K X.mg X.base (x :: fx.map (·.2)) t.qual scope f (.ref c') cl A outer s H' E0) body tb)
    (hs1 : starEach [e] X.env = [(false, eval e X.env)] := by rfl) :
    PE X (.Call (.Name "sorted" p) [e] [⟨some "key", .Lambda params body scope t.pos, kpos⟩] pos) (tSortedLamD X ts fx te tb) := by
  intro pins s σ H Q I h
  refine wpAny_Call_Name_kw (ld_blt I hg hm bootSorted ?_ (by decide) (by decide))
  have hA : PA X [e] (tCons te tNil) := pa_cons he pa_nil hs1
  refine callWith_kw (thn (hA pos pins s σ H (fun vs H1 => match vs with | [y] => rSortedLamD X ts fx tb σ Q y H1 | _ => False) I h) fun us s1 ⟨vs, H1, I1, r, q⟩ => ?_) (by rw [hs1]; rfl) (by rw [hs1]; rfl)
  match vs, r, q with
  | [y], r, q =>
    obtain ⟨a, kvs, kf, fvs, rfl, hS, hn, hne, hT, hfv, hfl, hbody, fin⟩ := q
    rw [Vals.ref1 r]
    have hK : PK X [⟨some "key", .Lambda params body scope t.pos, kpos⟩] (tCons (tLam X t ts params body scope) tNil) := pk_cons (pe_lam L ht hdef hfree) pk_nil
    refine thn (hK pos pins s1 σ H1 (fun vs H2 => match vs with
      | [z] => ∃ (f c' : Addr) (ctv : Value), z = .ref f ∧ Gr ts H1 H2 ∧ H1 f = none ∧ H2 f = some (lamHO f t.qual params body scope (cloFrom X.env.cells scope.names []) ((X.mg "__name__").getD .none) c' ctv) ∧ H2 c' = some (codeHO c' t.qual)
      | _ => False) I1 ⟨hT, fun f c' ctv H' g1 g2 g3 g4 => ⟨f, c', ctv, rfl, g1, g2, g3, g4⟩⟩) fun ws s2 ⟨zs, H2, I2, rz, q2⟩ => ?_
    match zs, rz, q2 with
    | [z], rz, q2 =>
      obtain ⟨f, c', ctv, rfl, g1, g2, g3, g4⟩ := q2
      rw [Vals.ref1 rz]
      have hS2 : Rd H2 a (.dK (kvs.map fun p => (Sum.inl p.1, p.2))) := hS.imp (fun e => g1.keep _ _ e rfl) fun ⟨o, e⟩ => ⟨o, g1.keep _ _ e rfl⟩
      refine sorted_keyD (kf := kf) hcalm I2 hS2 hn hne (ksk_s1 _ _) (fun x => ksk_l1 _ _) (fun n H' s' u hmem I' S' ru => ?_) fun ns' p H' h1 h2 h3 h4 h5 => fin ns' p H' h1 h2 (g1.trans (.same h3)) (g1.free h4) h5
      have hf : s'.heap.get? f = some (kla_obj "<lambda>" t.qual params body scope (cloFrom X.env.cells scope.names []) ((X.mg "__name__").getD .none) c' ctv) := (I'.hok f _ (S' _ _ g3)).1
      have hc : s'.heap.CodeRec (.ref c') t.qual := (I'.hok c' _ (S' _ _ g4)).1
      have C := clo_of (fx := fx) (fvs := fvs) I' hfree hfx hfv hfl
      have en : ((fx.map (·.2)).zip fvs).map (·.1) = fx.map (·.2) := List.map_fst_zip (by rw [List.length_map, hfl]; exact Nat.le_refl _)
      have ev : ((fx.map (·.2)).zip fvs).map (some ·.2) = fvs.map some := by
        have e1 : ((fx.map (·.2)).zip fvs).map (some ·.2) = (((fx.map (·.2)).zip fvs).map Prod.snd).map some := by rw [List.map_map]; rfl
        rw [e1, List.map_snd_zip (by rw [List.length_map, hfl]; exact Nat.le_refl _)]
      have hrl : Room (k + 1) X.A.in1.in1 := Room.in1 (k := k + 1) (Room.in1 (k := k + 2) hr)
      have run := lam_run (CX := CX0) (k := k) (A := X.A.in1.in1) (outer := X.stack) (s := s') (H := H') (E := E0) (v := .int n) (u := u) (x := x) (t := tb) (fs := (fx.map (·.2)).zip fvs)
        (Q := fun v H3 => ∃ p, v = .ref p ∧ H3 p = some (.tup ((kf n).map V.int)) ∧ Same H' H3)
        hrl I'.env0.in1.in1 hf hc hk hco hgen hcell hx (fun u => hbind _ _ _ _ u) (by rw [en]; exact hnd) C ru (by rw [en]; exact hb _ _ _ _ _ _ _ hrl) (by rw [ev]; exact hbody n H' hmem (g1.trans (.same S')))
      refine wpAny_call (codeAny_mono run fun r s3 hq => ?_)
      cases r with
      | error e => exact hq
      | ok fl =>
        cases fl with
        | ret v => exact I'.after hq
        | next => exact False.elim hq
        | brk => exact False.elim hq
        | cont => exact False.elim hq
end
end L2

set_option Elab.async false
set_option linter.all false
set_option maxRecDepth 100000
set_option maxHeartbeats 4000000
namespace L2
open PySem PySem.Spec PyProof.Rows PySem.W
/-! ### max(xs, key=lambda ..), the keys ints -/
section
variable {X : Cx} {pins : List (Addr × Obj)} {σ : St} {l q it S : Addr} {xs : List V} {kf : Nat → Int} {Q : VK} {H0 : Hp} {R : Result → Shared → Prop}
/-- one key: f of the item is an int, all else stands -/
def KeyTurnI (X : Cx) (σ : St) (H0 : Hp) (q : Addr) (kf : Nat → Int) (xs : List V) : Prop :=
  ∀ (pins : List (Addr × Obj)) (i : Nat) (x : V) (H' : Hp) (s' : Shared) (u : Value), xs[i]? = some x → Inv X pins σ H' s' → Same H0 H' → RelV x u →
    wpAny (model X.prog X.w) X.A.in1 (call (.ref q) [u]) (EP X pins σ fun v H'' => v = .int (kf i) ∧ Same H' H'') (fun _ _ => False) s'
theorem mxk_name : (toString "max" ++ toString ".loop" : String) = "max.loop" := by decide
theorem FpOk.mono {H H' : Hp} {b : Addr} (f : FpOk X pins H b) (h : H' b = none) : FpOk X pins H' b := ⟨h, f.2⟩
/-- the key's call, the iterator held still -/
theorem key_call {H : Hp} {s : Shared} {i : Nat} {x : V} {u : Value} {n : Nat} {E : Value → Shared → Prop} {P : Value → Shared → Prop} (turn : KeyTurnI X σ H0 q kf xs) (I : Inv X pins σ H s) (fp : FpOk X pins H it) (hit : s.heap.IsListIter it l n) (hS : Same H0 H) (hx : xs[i]? = some x) (ru : RelV x u)
    (h : ∀ (t : Tok) (H' : Hp) (s' : Shared), Inv X pins σ H' s' → FpOk X pins H' it → s'.heap.IsListIter it l n → Same H H' → P (.int (kf i) t) s') :
    wpAny (model X.prog X.w) X.A.in1 (call (.ref q) [u]) P E s := by
  obtain ⟨o, e, c, d⟩ := hit
  have I1 := I.pinned (fp := [it]) (fun b hb => by rw [List.mem_singleton.mp hb]; exact fp) fun b hb => by
    rw [List.mem_singleton.mp hb]
    exact ⟨o, e, fun v z => by rw [d] at z; cases z⟩
  refine wpAny_mono (turn _ i x H s u hx I1 hS ru) (fun v s' hv => ?_) fun _ _ z => z.elim
  obtain ⟨y, H', I2, ry, rfl, S2⟩ := hv
  obtain ⟨t, rfl⟩ := ry
  have z := I2.pin (it, o) (List.mem_append_right _ (List.mem_append_right _ (mem_pinsAt (List.mem_singleton.mpr rfl) e)))
  exact h t H' s' (I2.unpinned (pins := pins)) (fp.mono z.2.1) ⟨o, z.1, c, d⟩ S2
theorem maxK_on (hc : X.calm = true) (hl0 : SqL X.K H0 l xs) (hlI : l ≠ it) (nS0 : H0 S = none) (nSI : S ≠ it) (turn : KeyTurnI X σ H0 q kf xs)
    (fin : ∀ (i : Nat) (x : V) (H' : Hp), xs[i]? = some x → (∀ j, j < xs.length → kf j ≤ kf i ∧ (j < i → kf j < kf i)) → Same H0 H' → Q x H') (hR : ∀ v s', EP X pins σ Q v s' → R (.ok (.ret v)) s') :
    ∀ (r j i : Nat) (H : Hp) (s : Shared) (x : V), xs.length - (j + 1) = r → j + 1 ≤ xs.length → Inv X pins σ H s → FpOk X pins H it → Same H0 H → s.heap.IsListIter it l (j + 1) → H S = some (.lst [x, .int (kf i)]) → xs[i]? = some x → i ≤ j →
      (∀ j', j' ≤ j → kf j' ≤ kf i ∧ (j' < i → kf j' < kf i)) → codeAny (model X.prog X.w) X.A (.builtin "max.loop" ⟨[.ref it, .ref q, .ref S], []⟩) R s := by
  intro r
  induction r with
  | zero =>
    intro j i H s x hr hj I fp S0 hit hS hx hij hb
    have hh := I.ok.hd hc
    obtain ⟨vs, rvs, pl, hz⟩ := I.list (S0.seq hl0)
    have hvl : vs.length = xs.length := rvs.length.symm
    obtain ⟨_, its, n, rv, hls, ho⟩ := I.lstM hS
    obtain ⟨vb, kv, rfl, rb, tb, rfl⟩ := vals2 rv
    have W := Walks.list (prog := X.prog) (w := X.w) (A := X.A.in1) hh it l hlI vs.toArray
    refine codeAny_builtin PySem.F.entry_max_loop ?_
    rw [Around.under_plainId PySem.F.plain_max_loop _]
    show wpAny _ X.A.in1 (seqItems? (.ref S) >>= _) _ _ s
    refine wpAny_bind (wpAny_seqItems ho rfl ?_)
    show wpAny _ X.A.in1 (tryCatch (pyNext (.ref it)) _ >>= _) _ _ s
    have hn : vs.toArray.size = j + 1 := by rw [List.size_toArray]; omega
    refine wpAny_bind (wpAny_tryCatch (W.done s _ _ ⟨by rw [hn]; exact hit, pl.isList⟩ fun h' tk kp => ?_))
    obtain ⟨f0, f1, f2, f3, f4, f5⟩ := fp
    have I1 : Inv X pins σ H { s with heap := h', toks := tk } := I.turned (fun b o hb e => kp b o (by simpa using hb) e) f0 f1 f3 f4 f5
    have ho' := kp S _ (by simpa using nSI) ho
    show wpAny _ X.A.in1 (updateSeq S (fun _ => #[]) >>= _) _ _ _
    refine wpAny_bind (wpAny_updateSeq ho' rfl (wpAny_bind (wpAny_letGo (wpAny_pure ?_))))
    have I2 := I1.lset (t' := tk) (f := fun _ => #[]) (its' := []) (ys := []) hS ho' rfl .nil (Nat.zero_le _)
    exact hR _ _ ⟨x, _, I2, rb, fin i x _ hx (fun j' hj' => hb j' (by omega)) fun b o e => by rw [upd_ne (ne_of_none e nS0)]; exact S0 b o e⟩
  | succ r ih =>
    intro j i H s x hr hj I fp S0 hit hS hx hij hb
    have hlt : j + 1 < xs.length := by omega
    have hh := I.ok.hd hc
    obtain ⟨vs, rvs, pl, hz⟩ := I.list (S0.seq hl0)
    have hvl : vs.length = xs.length := rvs.length.symm
    obtain ⟨_, its, n, rv, hls, ho⟩ := I.lstM hS
    obtain ⟨vb, kv, rfl, rb, tb, rfl⟩ := vals2 rv
    have W := Walks.list (prog := X.prog) (w := X.w) (A := X.A.in1) hh it l hlI vs.toArray
    refine codeAny_builtin PySem.F.entry_max_loop ?_
    rw [Around.under_plainId PySem.F.plain_max_loop _]
    show wpAny _ X.A.in1 (seqItems? (.ref S) >>= _) _ _ s
    refine wpAny_bind (wpAny_seqItems ho rfl ?_)
    show wpAny _ X.A.in1 (tryCatch (pyNext (.ref it)) _ >>= _) _ _ s
    refine wpAny_bind (wpAny_tryCatch (W.item (j + 1) s _ _ (by rw [List.size_toArray]; omega) ⟨hit, pl.isList⟩ fun v h' tk hP hst' kp => ?_))
    have hv : vs[j + 1]? = some v := by simpa using hP
    obtain ⟨y, hy⟩ : ∃ y, xs[j + 1]? = some y := ⟨_, List.getElem?_eq_getElem hlt⟩
    have ry : RelV y v := by
      obtain ⟨u, hu, r⟩ := rvs.get hy
      rw [hv] at hu; cases hu; exact r
    obtain ⟨f0, f1, f2, f3, f4, f5⟩ := fp
    have fp : FpOk X pins H it := ⟨f0, f1, f2, f3, f4, f5⟩
    have I1 : Inv X pins σ H { s with heap := h', toks := tk } := I.turned (fun b o hb e => kp b o (by simpa using hb) e) f0 f1 f3 f4 f5
    show wpAny _ X.A.in1 (tryCatch (holding [v] (call (.ref q) [v])) _ >>= _) _ _ _
    refine wpAny_bind (wpAny_tryCatch (wpAny_holding (key_call turn I1 fp hst'.1 S0 hy ry fun t2 H2 s2 I2 fp2 hit2 S2 => ?_)))
    have hS2 := S2 _ _ hS
    obtain ⟨_, its2, n2, rv2, hls2, ho2⟩ := I2.lstM hS2
    obtain ⟨vb2, kv2, rfl, rb2, tb2, rfl⟩ := vals2 rv2
    show wpAny _ X.A.in1 (tryCatch (holding [v, .int (kf (j + 1)) t2] (richCompare .Gt (.int (kf (j + 1)) t2) (.int (kf i) tb) >>= _)) _ >>= _) _ _ _
    refine wpAny_bind (wpAny_tryCatch (wpAny_holding (wpAny_bind (CmpOf.ints_gt (prog := X.prog) (w := X.w) (A := X.A.in1) (P := fun i v => ∃ t, v = .int (kf i) t) kf (fun i v h => h) (j + 1) i _ _ _ _ _ ⟨t2, rfl⟩ ⟨tb, rfl⟩ ?_))))
    refine wpAny_bind (wpAny_holding (wpAny_truthy_bool ?_))
    refine wpAny_bind (wpAny_letGo (wpAny_pure ?_))
    have S3 : Same H0 H2 := S0.trans S2
    by_cases hb' : kf (j + 1) > kf i
    · simp only [hb', decide_true, if_true]
      refine wpAny_bind ?_
      refine wpAny_updateSeq ho2 rfl (wpAny_bind (wpAny_letGo ?_))
      rw [mxk_name]
      have I3 := I2.lset (t' := s2.toks) (f := fun _ => #[v, .int (kf (j + 1)) t2]) (its' := [v, .int (kf (j + 1)) t2]) (ys := [y, .int (kf (j + 1))]) hS2 ho2 rfl (.cons ry (.cons ⟨_, rfl⟩ .nil)) (by show 2 ≤ sizeLine; decide)
      refine wpAny_pure ⟨plainId_quiet PySem.F.plain_max_loop _, ih (j + 1) (j + 1) _ _ y (by omega) hlt I3 (fp2.mono (by rw [upd_ne nSI.symm]; exact fp2.1)) (fun b o e => by rw [upd_ne (ne_of_none e nS0)]; exact S3 b o e) ?_ upd_same hy (Nat.le_refl _) fun j' hj' => ?_⟩
      · exact hit2.at fun o e => by
          show (s2.heap.update S _).get? it = some o
          rw [Heap.get?_update_ne _ _ _ _ nSI.symm]; exact e
      · by_cases e : j' = j + 1
        · subst e
          exact ⟨by omega, fun _ => by omega⟩
        · have hb1 := (hb j' (by omega)).1
          exact ⟨by omega, fun _ => by omega⟩
    · simp only [hb', decide_false, Bool.false_eq_true, if_false]
      refine wpAny_bind (wpAny_letGo ?_)
      rw [mxk_name]
      refine wpAny_pure ⟨plainId_quiet PySem.F.plain_max_loop _, ih (j + 1) i _ _ x (by omega) hlt I2 fp2 S3 hit2 hS2 hx (by omega) fun j' hj' => ?_⟩
      by_cases e : j' = j + 1
      · subst e
        exact ⟨by omega, fun _ => by omega⟩
      · exact hb j' (by omega)
theorem max_key {H : Hp} {s : Shared} (hc : X.calm = true) (I : Inv X pins σ H s) (hl0 : SqL X.K H l xs) (hne : 0 < xs.length) (turn : KeyTurnI X σ H q kf xs)
    (fin : ∀ (i : Nat) (x : V) (H' : Hp), xs[i]? = some x → (∀ j, j < xs.length → kf j ≤ kf i ∧ (j < i → kf j < kf i)) → Same H H' → Q x H') :
    wpAny (model X.prog X.w) X.A (call (.builtin "max") [.ref l] [(Str.ofString "key", .ref q)]) (EP X pins σ Q) X.xe s := by
  have hh := I.ok.hd hc
  obtain ⟨vs, rvs, pl, hz⟩ := I.list hl0
  have hvl : vs.length = xs.length := rvs.length.symm
  refine kmk_tree PySem.F.kind_max PySem.F.plain_max PySem.F.entry_max (kmk_max_key _ _) ?_
  show wpAny _ X.A.in1 (Builtin.Builtins.bindParams "max" ["key", "default"] 0 ⟨[], [(Str.ofString "key", .ref q)]⟩ >>= _) _ _ s
  refine wpAny_bind (wpAny_of_eq (show Builtin.Builtins.bindParams "max" ["key", "default"] 0 ⟨[], [(Str.ofString "key", .ref q)]⟩ = pure [some (.ref q), none] from rfl) ?_)
  refine wpAny_bind (wpAny_pure ?_)
  refine wpAny_bind (wpAny_pyIter_list pl.isList ?_)
  refine wpAny_bind (wpAny_newList ?_ (Nat.zero_le _))
  rw [mxk_name]
  have I1 := I.kept (h' := s.heap.push { cls := .type "list_iterator", data := .fields #[.ref l, .int 0 0] }) (t' := s.toks) fun b u z => Heap.get?_push_of_some _ z
  have fp1 : FpOk X pins H s.heap.objs.size := I.fpOk (Nat.le_refl _) (I.hok.fresh (Nat.le_refl _))
  have hll : l < s.heap.objs.size := by
    obtain ⟨o, n, ho, _⟩ := id pl
    exact Heap.lt_size ho
  have hlI : l ≠ s.heap.objs.size := Nat.ne_of_lt hll
  have I2 := I1.lnew (t' := s.toks) (its := []) (ys := []) .nil (Nat.zero_le _)
  have nS0 : H (s.heap.push { cls := .type "list_iterator", data := .fields #[.ref l, .int 0 0] }).objs.size = none := I1.hok.fresh (Nat.le_refl _)
  have nSI : (s.heap.push { cls := .type "list_iterator", data := .fields #[.ref l, .int 0 0] }).objs.size ≠ s.heap.objs.size := by rw [Heap.size_push]; exact Nat.ne_of_gt (Nat.lt_succ_self _)
  have hit0 : ((s.heap.push { cls := .type "list_iterator", data := .fields #[.ref l, .int 0 0] }).push { cls := .type "list", data := .seq ([] : List Value).toArray }).IsListIter s.heap.objs.size l 0 := ⟨_, Heap.get?_push_of_some _ (Heap.get?_push_size _ rfl), rfl, rfl⟩
  refine wpAny_pure ⟨plainId_quiet PySem.F.plain_max_loop _, ?_⟩
  generalize hSS : (s.heap.push { cls := .type "list_iterator", data := .fields #[.ref l, .int 0 0] }).objs.size = S at I2 nS0 nSI ⊢
  generalize ((s.heap.push { cls := .type "list_iterator", data := .fields #[.ref l, .int 0 0] }).push { cls := .type "list", data := .seq ([] : List Value).toArray }) = h2 at I2 hit0 ⊢
  generalize s.heap.objs.size = it at *
  have S0 : Same H (upd H S (.lst [])) := (Same.refl H).upd_new nS0
  obtain ⟨vs2, rvs2, pl2, _⟩ := I2.list (S0.seq hl0)
  have hvl2 : vs2.length = xs.length := rvs2.length.symm
  obtain ⟨_, its, n, rv, hls, ho⟩ := I2.lstM upd_same
  cases rv
  have W := Walks.list (prog := X.prog) (w := X.w) (A := X.A.in1) hh it l hlI vs2.toArray
  refine codeAny_builtin PySem.F.entry_max_loop ?_
  rw [Around.under_plainId PySem.F.plain_max_loop _]
  show wpAny _ X.A.in1 (seqItems? (.ref S) >>= _) _ _ _
  refine wpAny_bind (wpAny_seqItems ho rfl ?_)
  show wpAny _ X.A.in1 (tryCatch (pyNext (.ref it)) _ >>= _) _ _ _
  refine wpAny_bind (wpAny_tryCatch (W.item 0 _ _ _ (by rw [List.size_toArray]; omega) ⟨hit0, pl2.isList⟩ fun v h' tk hP hst' kp => ?_))
  have hv : vs2[0]? = some v := by simpa using hP
  obtain ⟨y, hy⟩ : ∃ y, xs[0]? = some y := ⟨_, List.getElem?_eq_getElem hne⟩
  have ry : RelV y v := by
    obtain ⟨u, hu, r⟩ := rvs2.get hy
    rw [hv] at hu; cases hu; exact r
  have fp2 : FpOk X pins (upd H S (.lst [])) it := fp1.mono (by rw [upd_ne nSI.symm]; exact fp1.1)
  obtain ⟨f0, f1, f2, f3, f4, f5⟩ := id fp2
  have I3 := I2.turned (h' := h') (t' := tk) (it := it) (fun b o hb e => kp b o (by simpa using hb) e) f0 f1 f3 f4 f5
  show wpAny _ X.A.in1 (tryCatch (holding [v] (call (.ref q) [v])) _ >>= _) _ _ _
  refine wpAny_bind (wpAny_tryCatch (wpAny_holding (key_call turn I3 fp2 hst'.1 S0 hy ry fun t4 H4 s4 I4 fp4 hit4 S4 => ?_)))
  have hS4 := S4 _ _ upd_same
  obtain ⟨_, its4, n4, rv4, hls4, ho4⟩ := I4.lstM hS4
  cases rv4
  show wpAny _ X.A.in1 (updateSeq S (fun _ => #[v, .int (kf 0) t4]) >>= _) _ _ _
  refine wpAny_bind ?_
  refine wpAny_updateSeq ho4 rfl ?_
  rw [mxk_name]
  have I5 := I4.lset (t' := s4.toks) (f := fun _ => #[v, .int (kf 0) t4]) (its' := [v, .int (kf 0) t4]) (ys := [y, .int (kf 0)]) hS4 ho4 rfl (.cons ry (.cons ⟨_, rfl⟩ .nil)) (by show 2 ≤ sizeLine; decide)
  have S5 : Same H H4 := S0.trans S4
  refine wpAny_pure ⟨plainId_quiet PySem.F.plain_max_loop _, maxK_on hc hl0 hlI nS0 nSI turn fin (fun v s' z => z) _ 0 0 _ _ y rfl hne I5 (fp4.mono (by rw [upd_ne nSI.symm]; exact fp4.1)) (fun b o e => by rw [upd_ne (ne_of_none e nS0)]; exact S5 b o e) ?_ upd_same hy (Nat.le_refl _) fun j' hj' => ?_⟩
  · exact hit4.at fun o e => by
      show (s4.heap.update S _).get? it = some o
      rw [Heap.get?_update_ne _ _ _ _ nSI.symm]; exact e
  · have e : j' = 0 := by omega
    subst e
    exact ⟨Int.le_refl _, fun h => absurd h (Nat.lt_irrefl _)⟩
/-- max(e, key=lambda x: body) -/
def rMaxLam (X : Cx) (ts : List TabRec) (fx : List (Nat × Str)) (tb : TE) (σ : St) (Q : VK) (y : V) (H1 : Hp) : Prop := ∃ (a : Addr) (xs : List V) (kf : Nat → Int) (fvs : List V), y = .ref a ∧ SqL X.K H1 a xs ∧ 0 < xs.length ∧
  Tabs ts H1 ∧ (∀ (j : Nat) (p : Nat × Str), fx[j]? = some p → ∃ v, fvs[j]? = some v ∧ σ[p.1]? = some (some v)) ∧ fvs.length = fx.length ∧
  (∀ (i : Nat) (x : V) (H' : Hp), xs[i]? = some x → Gr ts H1 H' → tb (some x :: fvs.map some) H' fun v H2 => v = .int (kf i) ∧ Same H' H2) ∧
  ∀ (i : Nat) (x : V) (H' : Hp), xs[i]? = some x → (∀ j, j < xs.length → kf j ≤ kf i ∧ (j < i → kf j < kf i)) → Gr ts H1 H' → Q x H'
def tMaxLam (X : Cx) (ts : List TabRec) (fx : List (Nat × Str)) (te tb : TE) : TE := fun σ H Q => te σ H fun y H1 => rMaxLam X ts fx tb σ Q y H1
theorem pe_maxLam {e : Expr} {te tb : TE} {x : Str} {fx : List (Nat × Str)} {k : Nat} {params : Arguments} {body : Expr} {scope : Scope} {c : Addr} {t : TabRec} {ts : List TabRec} {p pos kpos : Pos}
    (hr : Room (k + 2) X.A) (hcalm : X.calm = true) (hg : Gl X "max") (hm : X.mg "max" = none) (he : PE X e te) (L : LamIn X c t) (ht : t ∈ ts) (hdef : defaultsOf params X.env = ([], []))
    (hfree : ∀ y ∈ scope.names, y.2 = .free → X.env.kindOf y.1 = some .cell ∨ X.env.kindOf y.1 = some .free)
    (hk : scope.kind = .function) (hco : scope.isCoroutine = false) (hgen : scope.isGenerator = false) (hcell : ∀ y ∈ scope.names, y.2 ≠ .cell) (hx : scope.names.lookup x = some .local)
    (hbind : ∀ cl pm c' ctv u, bindArgs (kla_fn "<lambda>" t.qual params body scope cl pm (.ref c') ctv) ⟨[u], []⟩ = pure [(x, u)]) (hnd : (x :: fx.map (·.2)).Nodup)
    (hfx : ∀ p ∈ fx, X.N[p.1]? = some p.2 ∧ (X.env.kindOf p.2 = some .cell ∨ X.env.kindOf p.2 = some .free) ∧ scope.names.lookup p.2 = some .free)
    (hb : ∀ (f c' : Addr) (cl : List (Str × Addr)) (A : Around) (outer : List Env) (s : Shared) (H' : Hp), Room (k + 1) A → PE (cxLam CX0 X.prog X.w X.K X.mg X.base (x :: fx.map (·.2)) t.qual scope f (.ref c') cl A outer s H' E0) body tb)
    (hs1 : starEach [e] X.env = [(false, eval e X.env)] := by rfl) :
    PE X (.Call (.Name "max" p) [e] [⟨some "key", .Lambda params body scope t.pos, kpos⟩] pos) (tMaxLam X ts fx te tb) := by
  intro pins s σ H Q I h
  refine wpAny_Call_Name_kw (ld_blt I hg hm boot_max ?_ (by decide) (by decide))
  have hA : PA X [e] (tCons te tNil) := pa_cons he pa_nil hs1
  refine callWith_kw (thn (hA pos pins s σ H (fun vs H1 => match vs with | [y] => rMaxLam X ts fx tb σ Q y H1 | _ => False) I h) fun us s1 ⟨vs, H1, I1, r, q⟩ => ?_) (by rw [hs1]; rfl) (by rw [hs1]; rfl)
  match vs, r, q with
  | [y], r, q =>
    obtain ⟨a, xs, kf, fvs, rfl, hS, hne, hT, hfv, hfl, hbody, fin⟩ := q
    rw [Vals.ref1 r]
    have hK : PK X [⟨some "key", .Lambda params body scope t.pos, kpos⟩] (tCons (tLam X t ts params body scope) tNil) := pk_cons (pe_lam L ht hdef hfree) pk_nil
    refine thn (hK pos pins s1 σ H1 (fun vs H2 => match vs with
      | [z] => ∃ (f c' : Addr) (ctv : Value), z = .ref f ∧ Gr ts H1 H2 ∧ H1 f = none ∧ H2 f = some (lamHO f t.qual params body scope (cloFrom X.env.cells scope.names []) ((X.mg "__name__").getD .none) c' ctv) ∧ H2 c' = some (codeHO c' t.qual)
      | _ => False) I1 ⟨hT, fun f c' ctv H' g1 g2 g3 g4 => ⟨f, c', ctv, rfl, g1, g2, g3, g4⟩⟩) fun ws s2 ⟨zs, H2, I2, rz, q2⟩ => ?_
    match zs, rz, q2 with
    | [z], rz, q2 =>
      obtain ⟨f, c', ctv, rfl, g1, g2, g3, g4⟩ := q2
      rw [Vals.ref1 rz]
      refine max_key (kf := kf) hcalm I2 (g1.seq hS) hne (fun pins' i y H' s' u hy I' S' ru => ?_) fun i x' H' h1 h2 h3 => fin i x' H' h1 h2 (g1.trans (.same h3))
      have hf : s'.heap.get? f = some (kla_obj "<lambda>" t.qual params body scope (cloFrom X.env.cells scope.names []) ((X.mg "__name__").getD .none) c' ctv) := (I'.hok f _ (S' _ _ g3)).1
      have hc : s'.heap.CodeRec (.ref c') t.qual := (I'.hok c' _ (S' _ _ g4)).1
      have C := clo_of (fx := fx) (fvs := fvs) I' hfree hfx hfv hfl
      have en : ((fx.map (·.2)).zip fvs).map (·.1) = fx.map (·.2) := List.map_fst_zip (by rw [List.length_map, hfl]; exact Nat.le_refl _)
      have ev : ((fx.map (·.2)).zip fvs).map (some ·.2) = fvs.map some := by
        have e1 : ((fx.map (·.2)).zip fvs).map (some ·.2) = (((fx.map (·.2)).zip fvs).map Prod.snd).map some := by rw [List.map_map]; rfl
        rw [e1, List.map_snd_zip (by rw [List.length_map, hfl]; exact Nat.le_refl _)]
      have hrl : Room (k + 1) X.A.in1 := Room.in1 (k := k + 1) hr
      have run := lam_run (CX := CX0) (k := k) (A := X.A.in1) (outer := X.stack) (s := s') (H := H') (E := E0) (v := y) (u := u) (x := x) (t := tb) (fs := (fx.map (·.2)).zip fvs)
        (Q := fun v H3 => v = .int (kf i) ∧ Same H' H3)
        hrl I'.env0.in1 hf hc hk hco hgen hcell hx (fun u => hbind _ _ _ _ u) (by rw [en]; exact hnd) C ru (by rw [en]; exact hb _ _ _ _ _ _ _ hrl) (by rw [ev]; exact hbody i y H' hy (g1.trans (.same S')))
      refine wpAny_call (codeAny_mono run fun r s3 hq => ?_)
      cases r with
      | error e => exact hq
      | ok fl =>
        cases fl with
        | ret v => exact I'.after hq
        | next => exact False.elim hq
        | brk => exact False.elim hq
        | cont => exact False.elim hq
end
end L2

set_option Elab.async false
set_option linter.all false
set_option maxRecDepth 100000
set_option maxHeartbeats 4000000
namespace L2
open PySem PySem.Spec PyProof.Rows
open PySem.W (WData Codec OpenSpec Well WellAll ReadsW ReadsAllW tabObj CodeHd)
/-! ### the call of the row's def, tables of code objects tracked -/
/-- the module of builtins, as it stands -/
def BltAt (mg : Str → Option Value) (h : Heap) : Prop := ∃ bm o, mg "__builtins__" = some (.ref bm) ∧ bm ≠ builtinsNs ∧ bm ≠ mainGlobals ∧ h.get? bm = some o ∧ o.cls = .type "module" ∧ o.dict = some builtinsNs ∧ o.data = .plain
def withT (H : Hp) (Ps : List Addr) : Hp := fun b => if b ∈ Ps then some (.tbl #[]) else H b
theorem withT_in {H : Hp} {Ps : List Addr} {b : Addr} (h : b ∈ Ps) : withT H Ps b = some (.tbl #[]) := by unfold withT; rw [if_pos h]
theorem withT_out {H : Hp} {Ps : List Addr} {b : Addr} (h : b ∉ Ps) : withT H Ps b = H b := by unfold withT; rw [if_neg h]
def OnlyT (Ps : List Addr) (H : Hp) : Prop := ∀ b, (H b = none ∧ b ∉ Ps) ∨ (∃ o u, H b = some (.frz o u) ∧ b ∉ Ps) ∨ (H b = some (.tbl #[]) ∧ b ∈ Ps)
mutual
theorem Dw.mono {K : PySem.W.Frag} {H H' : Hp} (m : ∀ b o u, H b = some (.frz o u) → H' b = some (.frz o u)) (only : ∀ b u, H b = some u → ∃ o u', u = .frz o u') : ∀ {v : V} {d : WData}, Dw K H v d → Dw K H' v d
  | _, _, .non => .non
  | _, _, .bl b => .bl b
  | _, _, .int i => .int i
  | _, _, .str x => .str x
  | _, _, .byt b => .byt b
  | _, _, .lst h r => .lst (by
      rcases h with (h | ⟨o, h⟩) | h
      · obtain ⟨o, u', e⟩ := only _ _ h; cases e
      · exact .inl (.inr ⟨o, m _ _ _ h⟩)
      · exact .inr h) (DwAll.mono m only r)
  | _, _, .tup h r => .tup (by
      rcases h with (h | ⟨o, h⟩) | h
      · obtain ⟨o, u', e⟩ := only _ _ h; cases e
      · exact .inl (.inr ⟨o, m _ _ _ h⟩)
      · exact .inr h) (DwAll.mono m only r)
theorem DwAll.mono {K : PySem.W.Frag} {H H' : Hp} (m : ∀ b o u, H b = some (.frz o u) → H' b = some (.frz o u)) (only : ∀ b u, H b = some u → ∃ o u', u = .frz o u') : ∀ {vs : List V} {ds : List WData}, DwAll K H vs ds → DwAll K H' vs ds
  | _, _, .nil => .nil
  | _, _, .cons a r => .cons (Dw.mono m only a) (DwAll.mono m only r)
end
theorem spec_callT {P : Program} {w : World} {K : PySem.W.Frag} {mg mb : Str → Option Value} {CX : CXT} {k : Nat} {fa : Addr} {fd : FuncData} {ps : List Str} {sp : Sp} {s₁ : Shared} {vals : List Value} {ds : List WData} {R : PySem.W.WRecords} {cl : Str → Option Addr} {d0 : WData} {Ps : List Addr}
    (KX : K.In s₁.heap) (hns : s₁.heap.Ns mainGlobals mg) (hb : s₁.heap.Ns builtinsNs mb) (hbb : ∀ x : Str, x ≠ "__name__" → mb x = bootBuiltins x) (hlim : s₁.heap.NoLimit) (hg : s₁.gens = #[])
    (hwl : WellAll w.params s₁.heap vals ds) (hpl : plWs ds = true) (hwt : ∀ d ∈ ds, d.weight ≤ 1048576) (hr : Room k callerA) (hBm : BltAt mg s₁.heap)
    (hPs : ∀ p ∈ Ps, ∃ c, CodeHd s₁.heap c p ∧ s₁.heap.get? p = some (tabObj #[])) (hPK : ∀ p ∈ Ps, K.lookup p = none)
    (F : ∀ base : Heap, K.In base → base.Ns mainGlobals mg → BltAt mg base → FnOk P w K mg base CX k fa fd ps sp) (hbind : ∀ (s : Shared) (us : List Value), us.length = ps.length → BindsTo s fd ⟨us, []⟩ (ps.zip us)) (hlen : ds.length = ps.length)
    (hsp : ∀ (H : Hp) (xs : List V), OnlyT Ps H → DwAll K H xs ds → sp xs H (fun v H' => Dw K H' v d0) fun _ _ _ => False)
    (hCX : ∀ H e s', CX [] H s₁ (fun _ _ _ => False) e s' → False) :
    codeAny (model P w) callerA (.call (.ref fa) ⟨vals, []⟩) (fun r s' => ∃ u as, r = .ok (.ret u) ∧ ReadsW R cl s'.heap u d0 as ∧ OldK s₁.heap s'.heap ∧ s'.os = s₁.os ∧ AllBare s'.gens) s₁ := by
  obtain ⟨A, ho, ar⟩ := area_all ds vals hwl hpl hwt
  have hO1 : OnlyF (argH K s₁.heap A) := argH_only ar
  have hok1 : HOk P w (argH K s₁.heap A) s₁.heap := argH_ok ar
  have hS1 := dw_all KX ar ds vals hwl hpl ho
  have hV := vals_toV ho
  have only : ∀ b u, argH K s₁.heap A b = some u → ∃ o u', u = .frz o u' := fun b u e => by
    rcases hO1 b with z | ⟨o, u', z⟩
    · rw [e] at z; cases z
    · rw [e] at z; cases z; exact ⟨o, u', rfl⟩
  -- what is tracked ahead: no table, no dict, no module
  have isSeq : ∀ b u, argH K s₁.heap A b = some u → ∃ o vs n, s₁.heap.get? b = some o ∧ o.data = .seq vs n := fun b u e => by
    obtain ⟨_, vs, _, _, ⟨e2, _⟩ | ⟨e2, _⟩⟩ := argH_is ar e
    · exact ⟨_, _, _, e2, rfl⟩
    · exact ⟨_, _, _, e2, rfl⟩
  have nP : ∀ b u, argH K s₁.heap A b = some u → b ∉ Ps := fun b u e hm => by
    obtain ⟨c, _, e1⟩ := hPs b hm
    obtain ⟨o, vs, n, e2, e3⟩ := isSeq b u e
    rw [e1] at e2; cases e2; cases e3
  have mono : ∀ b o u, argH K s₁.heap A b = some (.frz o u) → withT (argH K s₁.heap A) Ps b = some (.frz o u) := fun b o u e => by rw [withT_out (nP _ _ e)]; exact e
  have hS := DwAll.mono mono only hS1
  have hO : OnlyT Ps (withT (argH K s₁.heap A) Ps) := fun b => by
    by_cases hm : b ∈ Ps
    · exact .inr (.inr ⟨withT_in hm, hm⟩)
    · rw [withT_out hm]
      rcases hO1 b with z | ⟨o, u, z⟩
      · exact .inl ⟨z, hm⟩
      · exact .inr (.inl ⟨o, u, z, hm⟩)
  have hok : HOk P w (withT (argH K s₁.heap A) Ps) s₁.heap := fun b u e => by
    by_cases hm : b ∈ Ps
    · rw [withT_in hm] at e; cases e
      obtain ⟨_, _, z⟩ := hPs b hm
      exact z
    · rw [withT_out hm] at e
      obtain ⟨o, u', rfl⟩ := only b u e
      refine (hok1 b _ e).stay (fun _ _ _ q => q) (fun d hd => ?_) fun d xs hd => ?_
      · obtain ⟨_, _, z⟩ := only _ _ hd; cases z
      · obtain ⟨_, _, z⟩ := only _ _ hd; cases z
  have hK : ∀ b u, withT (argH K s₁.heap A) Ps b = some u → K.lookup b = none := fun b u q => by
    by_cases hm : b ∈ Ps
    · exact hPK b hm
    · rw [withT_out hm] at q; exact (argH_is ar q).1
  have plainIn : ∀ {b : Addr} {o : Obj}, s₁.heap.get? b = some o → (∀ vs n, o.data ≠ .seq vs n) → (∀ vs, o.data ≠ .fields vs) → withT (argH K s₁.heap A) Ps b = none := fun {b o} e d1 d2 => by
    by_cases hm : b ∈ Ps
    · obtain ⟨c, _, e1⟩ := hPs b hm
      rw [e1] at e; cases e
      exact absurd rfl (d2 _)
    · rw [withT_out hm]
      cases q : argH K s₁.heap A b with
      | none => rfl
      | some u =>
        obtain ⟨o', vs, n, e2, e3⟩ := isSeq b u q
        rw [e] at e2; cases e2
        exact absurd e3 (d1 _ _)
  generalize withT (argH K s₁.heap A) Ps = H at hO hok hS hK plainIn
  have nsK : ∀ {b : Addr} {m : Str → Option Value}, s₁.heap.Ns b m → (hidT s₁.heap H).Ns b m := fun {b m} ⟨o, es, ep, e, d, r⟩ =>
    ⟨o, es, ep, hidT_get e (plainIn e (fun vs n z => by rw [d] at z; cases z) fun vs z => by rw [d] at z; cases z), d, r⟩
  have nK : ∀ b o, K.lookup b = some o → H b = none := fun b o e => by
    cases q : H b with
    | none => rfl
    | some u => rw [hK b u q] at e; cases e
  have hKb : K.In (hidT s₁.heap H) := fun b o e => hidT_get (KX b o e) (nK b o e)
  have hBb : BltAt mg (hidT s₁.heap H) := by
    obtain ⟨bm, o, b1, b2, b3, b4, b5, b6, b7⟩ := hBm
    exact ⟨bm, o, b1, b2, b3, hidT_get b4 (plainIn b4 (fun vs n z => by rw [b7] at z; cases z) fun vs z => by rw [b7] at z; cases z), b5, b6, b7⟩
  have hM : Mod K mg (hidT s₁.heap H) := ⟨hKb, nsK hns, ⟨mb, nsK hb, hbb⟩, let ⟨mc, h1, h2⟩ := hlim; ⟨mc, nsK h1, h2⟩⟩
  have e0 : Env0 P w K mg (hidT s₁.heap H) callerA [] s₁ H := ⟨rfl, hM, fun b o e => of_hidT e, Nat.le_of_eq (hidT_size _ _), trivial, fun b hb => absurd (show b ∈ ([] : List Addr) from hb) (by simp), hok, .of_eq hg⟩
  have hl : vals.length = ps.length := by rw [wellAll_len hwl]; exact hlen
  refine codeAny_mono ((F _ hKb (nsK hns) hBb).run callerA [] s₁ H ⟨vals, []⟩ vals (vals.map toV) _ _ hr e0 (hbind s₁ vals hl) hV (hsp H _ hO hS)) fun r s' x => ?_
  cases r with
  | error e => exact (hCX H e s' x).elim
  | ok fl =>
    cases fl with
    | next => exact False.elim x
    | brk => exact False.elim x
    | cont => exact False.elim x
    | ret u =>
      obtain ⟨v, H', os, bare, un, hok', r', q⟩ := x
      have kept : ∀ b o, s₁.heap.get? b = some o → b ∉ Ps → s'.heap.get? b = some o := fun b o e hm => by
        rcases hO b with ⟨z, _⟩ | ⟨ob, u3, z, _⟩ | ⟨_, z⟩
        · exact un.keep b o e z (by intro z; exact absurd (show b ∈ ([] : List Addr) from z) (by simp)) (by simp)
        · have z2 := un.frzs b ob _ z
          obtain ⟨e1, _⟩ := hok b _ z
          obtain ⟨e2, _⟩ := hok' b _ z2
          rw [e] at e1; cases e1
          exact e2
        · exact absurd z hm
      have grown : ∀ b, b ∈ Ps → ∃ more, s'.heap.get? b = some (tabObj (#[] ++ more)) := fun b hm => by
        rcases hO b with ⟨_, z⟩ | ⟨_, _, _, z⟩ | ⟨z, _⟩
        · exact absurd hm z
        · exact absurd hm z
        · obtain ⟨more, z2⟩ := un.tbls b _ z
          exact ⟨more, hok' b _ z2⟩
      have KX' : K.In s'.heap := fun b o e => kept b o (KX b o e) fun hm => by rw [hPK b hm] at e; cases e
      have old : OldK s₁.heap s'.heap := ⟨fun b o e => by
        by_cases hm : b ∈ Ps
        · obtain ⟨c, hc, hp⟩ := hPs b hm
          obtain ⟨more, hmo⟩ := grown b hm
          rw [hp] at e; cases e
          exact .inr (.inl ⟨(hc.tab hp).isCodeTable, rfl, #[], more, rfl, hmo⟩)
        · exact .inl (kept b o e hm), fun b o e => by
        by_cases hm : b ∈ Ps
        · obtain ⟨more, hmo⟩ := grown b hm
          exact ⟨_, hmo⟩
        · exact ⟨o, kept b o e hm⟩⟩
      obtain ⟨as, hrd⟩ := Dw.reads (R := R) (cl := cl) hok' KX' d0 v u q r'
      exact ⟨u, as, rfl, hrd, old, os, bare⟩
/-- the goal that k_headS leaves, the promise given tables -/
theorem walk_specT {r : OpenSpec} {k : Nat} {q : Program} {loose : List Str} {XP : (Str → Option Value) → Heap → Prop} {YP : World → Heap → Prop} {d : DefRec} {K : Params → PySem.W.Frag} {CX : CXT} {ps : List Str} {sp : PySem.W.Frag → List Addr → Sp} {Ps : List Addr}
    (hwell : r.wellSaid = true) (hdf : d.params.defaults = []) (hlen : r.args.length = ps.length) (hr : Room k callerA)
    (hY : ∀ (w : World) (h : Heap), YP w h → (K w.params).In h)
    (F : ∀ (w : World) (mg mb : Str → Option Value) (mean : ExcName → Option Value) (fa : Addr) (h : Heap), YP w h → (K w.params).In h → Top q (PySem.W.looseW q loose) mean mg mb h → mg d.name = some (.ref fa) →
      ∃ fd : FuncData, (∀ (s : Shared) (us : List Value), us.length = ps.length → BindsTo s fd ⟨us, []⟩ (ps.zip us)) ∧ (∀ p ∈ Ps, ∃ c, CodeHd h c p ∧ h.get? p = some (tabObj #[])) ∧ (∀ p ∈ Ps, (K w.params).lookup p = none) ∧
        ∀ base : Heap, (K w.params).In base → base.Ns mainGlobals mg → BltAt mg base → FnOk r.prog w (K w.params) mg base CX k fa fd ps (sp (K w.params) Ps))
    (hsp : ∀ (K : PySem.W.Frag) (H : Hp) (xs : List V) (a : Codec.denoteAll r.args), OnlyT Ps H → Codec.withinAll r.args a = true → Codec.app r.args r.asked a = true → DwAll K H xs (Codec.encAll r.args a) →
      sp K Ps xs H (fun v H' => Dw K H' v (r.ret.enc (Codec.app r.args r.f a))) fun _ _ _ => False)
    (hCX : ∀ (H : Hp) (s : Shared) (e : Value) (s' : Shared), CX [] H s (fun _ _ _ => False) e s' → False) :
    PySem.W.WalkOS q loose XP YP r d [] (fun f vs => PySem.call f vs) := by
  intro w s_0 s₁ mg mb G Y fa o pm cd doc dV kV ho hd hcd hD hmg hg args vals as hpre hlay hrd hwl hlo
  obtain ⟨a, e1, e2⟩ := PySem.W.os_pre_some hpre
  obtain ⟨e3, hwi⟩ := Codec.encAll_of_decAll r.args args a e1
  subst e3
  have KX := hY w _ Y
  obtain ⟨fd, hb, hP1, hP2, hF⟩ := F w mg mb _ fa _ Y KX G.T hmg
  have hBm : BltAt mg s₁.heap := by
    obtain ⟨bm, ob, b1, b2, b3, b4, b5, b6⟩ := G.T.bmain
    refine ⟨bm, ob, b1, b2, fun z => ?_, b3, b4, b5, b6⟩
    obtain ⟨o', es, ep, e, hd', _⟩ := G.T.g
    rw [z, e] at b3; cases b3; rw [hd'] at b6; cases b6
  refine PySem.W.enter_call (codeAny_mono (spec_callT (R := []) (cl := classAt s_0.heap) (d0 := r.ret.enc (Codec.app r.args r.f a)) KX G.T.g G.T.b G.T.builtins G.T.nolimit hg hwl (pl_encAll _ _) (layable_weight hlay) hr hBm hP1 hP2 hF hb (by rw [encAll_len]; exact hlen)
    (fun H xs hO hS => hsp (K w.params) H xs a hO hwi e2 hS) fun H e s' => hCX H s₁ e s') fun r' s' hq => ?_)
  obtain ⟨u, as', rfl, h1, h2, h3, h4⟩ := hq
  exact ⟨.inl ⟨u, _, as', rfl, fun _ => rfl, h1, (OpenSpec.post_iff hwell hwi _ _).mpr rfl, fun z => Bool.noConfusion (show false = true from z)⟩, h2, h3, h4⟩
end L2

set_option Elab.async false
set_option linter.all false
namespace Ap
open Kqu5
/-! ### sorted lists -/
theorem insertBy_perm (bf : Nat → Nat → Bool) (i : Nat) : ∀ l : List Nat, (insertBy bf i l).Perm (i :: l)
  | [] => .refl _
  | j :: l => by
    unfold insertBy
    split
    · exact .refl _
    · exact ((insertBy_perm bf i l).cons j).trans (List.Perm.swap i j l)
theorem sorted_perm (bf : Nat → Nat → Bool) : ∀ l : List Nat, (sorted bf l).Perm l
  | [] => .refl _
  | i :: l => (insertBy_perm bf i (sorted bf l)).trans ((sorted_perm bf l).cons i)
/-- an order by which a list is sorted -/
structure Ord (bf : Nat → Nat → Bool) : Prop where
  total : ∀ i j, bf i j = true ∨ bf j i = true
  trans : ∀ i j k, bf i j = true → bf j k = true → bf i k = true
  anti : ∀ i j, bf i j = true → bf j i = true → i = j
theorem insertBy_pw {bf : Nat → Nat → Bool} (O : Ord bf) (i : Nat) : ∀ l : List Nat, l.Pairwise (fun a b => bf a b = true) → (insertBy bf i l).Pairwise (fun a b => bf a b = true)
  | [], _ => List.pairwise_singleton _ _
  | j :: l, h => by
    unfold insertBy
    have hc := List.pairwise_cons.mp h
    split
    · rename_i e
      exact List.pairwise_cons.mpr ⟨fun k hk => (List.mem_cons.mp hk).elim (fun z => by rw [z]; exact e) fun z => O.trans _ _ _ e (hc.1 k z), h⟩
    · rename_i e
      refine List.pairwise_cons.mpr ⟨fun k hk => ?_, insertBy_pw O i l hc.2⟩
      rcases List.mem_cons.mp ((insertBy_perm bf i l).mem_iff.mp hk) with z | z
      · rw [z]; exact (O.total i j).resolve_left e
      · exact hc.1 k z
theorem sorted_pw {bf : Nat → Nat → Bool} (O : Ord bf) : ∀ l : List Nat, (sorted bf l).Pairwise (fun a b => bf a b = true)
  | [] => .nil
  | i :: l => insertBy_pw O i _ (sorted_pw O l)
theorem pw_unique {r : Nat → Nat → Prop} (anti : ∀ i j, r i j → r j i → i = j) : ∀ {l m : List Nat}, l.Perm m → l.Pairwise r → m.Pairwise r → l = m
  | [], m, p, _, _ => (List.nil_perm.mp p).symm
  | a :: l, m, p, h1, h2 => by
    cases m with
    | nil => exact absurd p.symm.nil_eq (by simp)
    | cons b m =>
      have c1 := List.pairwise_cons.mp h1
      have c2 := List.pairwise_cons.mp h2
      have e : a = b := by
        have ha : a ∈ b :: m := p.mem_iff.mp (.head _)
        have hb : b ∈ a :: l := p.mem_iff.mpr (.head _)
        rcases List.mem_cons.mp ha with z | z
        · exact z
        · rcases List.mem_cons.mp hb with w | w
          · exact w.symm
          · exact anti _ _ (c1.1 b w) (c2.1 a z)
      subst e
      rw [pw_unique anti (List.Perm.cons_inv p) c1.2 c2.2]
theorem sorted_eq {bf : Nat → Nat → Bool} (O : Ord bf) {l m : List Nat} (p : m.Perm l) (h : m.Pairwise (fun a b => bf a b = true)) : sorted bf l = m :=
  pw_unique O.anti ((sorted_perm bf l).trans p.symm) (sorted_pw O l) h
theorem sorted_congr {bf : Nat → Nat → Bool} (O : Ord bf) {l m : List Nat} (p : l.Perm m) : sorted bf l = sorted bf m := sorted_eq O ((sorted_perm bf m).trans p.symm) (sorted_pw O m)
/-! ### the order of the plan -/
def byEnd (b : Book) (i j : Nat) : Bool := decide (to b i < to b j) || (to b i == to b j && decide (i ≤ j))
theorem byEnd_iff {b : Book} {i j : Nat} : byEnd b i j = true ↔ to b i < to b j ∨ (to b i = to b j ∧ i ≤ j) := by simp [byEnd]
theorem byEnd_ord (b : Book) : Ord (byEnd b) where
  total := fun i j => by rw [byEnd_iff, byEnd_iff]; omega
  trans := fun i j k => by rw [byEnd_iff, byEnd_iff, byEnd_iff]; omega
  anti := fun i j => by rw [byEnd_iff, byEnd_iff]; omega
theorem le_ord : Ord (fun i j => decide (i ≤ j)) where
  total := fun i j => by simp only [decide_eq_true_eq]; omega
  trans := fun i j k => by simp only [decide_eq_true_eq]; omega
  anti := fun i j => by simp only [decide_eq_true_eq]; omega
def here (b : Book) (s i : Nat) : Bool := decide (from_ b i ≤ s) && decide (s < to b i)
theorem waiting_def (b : Book) (l : List Nat) (s : Nat) : waiting b l s = sorted (byEnd b) (l.filter (here b s)) := rfl
theorem waiting_congr (b : Book) {l m : List Nat} (p : l.Perm m) (s : Nat) : waiting b l s = waiting b m s := by
  rw [waiting_def, waiting_def]; exact sorted_congr (byEnd_ord b) (p.filter _)
/-! ### slot by slot -/
/-- who is left ahead of slot s -/
def rem (b : Book) (m : Nat) (L : List Nat) : Nat → List Nat
  | 0 => L
  | s + 1 => (rem b m L s).filter fun i => !(((waiting b (rem b m L s) s).take m).contains i)
def now (b : Book) (m : Nat) (L : List Nat) (s : Nat) : List Nat := (waiting b (rem b m L s) s).take m
/-- whom the plan serves ahead of slot s -/
def pre (b : Book) (m : Nat) (L : List Nat) : Nat → List (Nat × Nat)
  | 0 => []
  | s + 1 => pre b m L s ++ (now b m L s).map fun i => (i, s)
theorem give_pre (b : Book) (m : Nat) (L : List Nat) : ∀ k s, pre b m L (s + k) = pre b m L s ++ give b m k s (rem b m L s)
  | 0, s => by simp [give]
  | k + 1, s => by
    have e : s + (k + 1) = (s + 1) + k := by omega
    rw [e, give_pre b m L k (s + 1)]
    show pre b m L s ++ (now b m L s).map (fun i => (i, s)) ++ give b m k (s + 1) (rem b m L (s + 1)) = _
    rw [List.append_assoc]
    rfl
theorem plan_pre (b : Book) (m : Nat) (L : List Nat) : plan b m L = pre b m L SLOTS := by
  have := give_pre b m L SLOTS 0
  rw [Nat.zero_add] at this
  rw [this]; rfl
theorem now_sub {b : Book} {m : Nat} {L : List Nat} {s i : Nat} (h : i ∈ now b m L s) : i ∈ rem b m L s ∧ here b s i = true := by
  have h1 := List.mem_of_mem_take h
  rw [waiting_def] at h1
  exact List.mem_filter.mp ((sorted_perm _ _).mem_iff.mp h1)
theorem mem_rem_succ {b : Book} {m : Nat} {L : List Nat} {s i : Nat} : i ∈ rem b m L (s + 1) ↔ i ∈ rem b m L s ∧ i ∉ now b m L s := by
  show i ∈ (rem b m L s).filter _ ↔ _
  rw [List.mem_filter]
  unfold now
  simp
theorem rem_nodup {b : Book} {m : Nat} {L : List Nat} (h : L.Nodup) : ∀ s, (rem b m L s).Nodup
  | 0 => h
  | s + 1 => (rem_nodup h s).sublist List.filter_sublist
theorem now_nodup {b : Book} {m : Nat} {L : List Nat} (h : L.Nodup) (s : Nat) : (now b m L s).Nodup := by
  refine List.Nodup.sublist (List.take_sublist _ _) ?_
  rw [waiting_def]
  exact ((sorted_perm _ _).nodup_iff).mpr ((rem_nodup h s).sublist List.filter_sublist)
/-- of L: left, or served -/
theorem rem_or {b : Book} {m : Nat} {L : List Nat} {i : Nat} (h : i ∈ L) : ∀ s, (i ∈ rem b m L s ∧ ∀ x, (i, x) ∉ pre b m L s) ∨ (i ∉ rem b m L s ∧ ∃ x, x < s ∧ (i, x) ∈ pre b m L s)
  | 0 => .inl ⟨h, fun x hx => by cases hx⟩
  | s + 1 => by
    rcases rem_or (b := b) (m := m) h s with ⟨h1, h2⟩ | ⟨h1, x, h2, h3⟩
    · by_cases hn : i ∈ now b m L s
      · exact .inr ⟨fun z => (mem_rem_succ.mp z).2 hn, s, Nat.lt_succ_self _, List.mem_append_right _ (List.mem_map.mpr ⟨i, hn, rfl⟩)⟩
      · refine .inl ⟨mem_rem_succ.mpr ⟨h1, hn⟩, fun x hx => ?_⟩
        rcases List.mem_append.mp hx with z | z
        · exact h2 x z
        · obtain ⟨j, hj, e⟩ := List.mem_map.mp z
          cases e
          exact hn hj
    · exact .inr ⟨fun z => h1 (mem_rem_succ.mp z).1, x, Nat.lt_succ_of_lt h2, List.mem_append_left _ h3⟩
theorem pre_sub {b : Book} {m : Nat} {L : List Nat} {i x : Nat} : ∀ {s}, (i, x) ∈ pre b m L s → i ∈ L
  | 0, h => by cases h
  | s + 1, h => by
    rcases List.mem_append.mp h with z | z
    · exact pre_sub z
    · obtain ⟨j, hj, e⟩ := List.mem_map.mp z
      cases e
      have : ∀ s, i ∈ rem b m L s → i ∈ L := fun s => by
        induction s with
        | zero => exact id
        | succ s ih => exact fun q => ih (mem_rem_succ.mp q).1
      exact this _ (now_sub hj).1
theorem rem_sub {b : Book} {m : Nat} {L : List Nat} {i : Nat} : ∀ {s}, i ∈ rem b m L s → i ∈ L
  | 0, h => h
  | s + 1, h => rem_sub (mem_rem_succ.mp h).1
theorem pre_keys {b : Book} {m : Nat} {L : List Nat} {i : Nat} (h : i ∈ L) (s : Nat) : i ∈ (pre b m L s).map (·.1) ↔ i ∉ rem b m L s := by
  rcases rem_or (b := b) (m := m) h s with ⟨h1, h2⟩ | ⟨h1, x, _, h3⟩
  · refine ⟨fun z => ?_, fun z => absurd h1 z⟩
    obtain ⟨p, hp, rfl⟩ := List.mem_map.mp z
    exact absurd hp (h2 p.2)
  · exact ⟨fun _ => h1, fun _ => List.mem_map.mpr ⟨_, h3, rfl⟩⟩
theorem pre_nodup {b : Book} {m : Nat} {L : List Nat} (h : L.Nodup) : ∀ s, ((pre b m L s).map (·.1)).Nodup
  | 0 => .nil
  | s + 1 => by
    show ((pre b m L s ++ (now b m L s).map fun i => (i, s)).map (·.1)).Nodup
    rw [List.map_append, List.map_map]
    have e : (now b m L s).map ((fun x : Nat × Nat => x.1) ∘ fun i => (i, s)) = now b m L s := by
      rw [show ((fun x : Nat × Nat => x.1) ∘ fun i => (i, s)) = id from rfl, List.map_id]
    rw [e]
    refine List.nodup_append.mpr ⟨pre_nodup h s, now_nodup h s, fun a ha c hc q => ?_⟩
    subst q
    have hr := (now_sub hc).1
    exact (pre_keys (rem_sub hr) s).mp ha hr
theorem rem_congr {b : Book} {m : Nat} {L M : List Nat} (p : L.Perm M) : ∀ s, (rem b m L s).Perm (rem b m M s)
  | 0 => p
  | s + 1 => by
    show ((rem b m L s).filter _).Perm ((rem b m M s).filter _)
    rw [waiting_congr b (rem_congr p s) s]
    exact (rem_congr p s).filter _
theorem now_congr {b : Book} {m : Nat} {L M : List Nat} (p : L.Perm M) (s : Nat) : now b m L s = now b m M s := by
  unfold now; rw [waiting_congr b (rem_congr p s) s]
theorem pre_congr {b : Book} {m : Nat} {L M : List Nat} (p : L.Perm M) : ∀ s, pre b m L s = pre b m M s
  | 0 => rfl
  | s + 1 => by show pre b m L s ++ _ = pre b m M s ++ _; rw [pre_congr p s, now_congr p s]
theorem plan_congr {b : Book} {m : Nat} {L M : List Nat} (p : L.Perm M) : plan b m L = plan b m M := by rw [plan_pre, plan_pre, pre_congr p]
end Ap

set_option Elab.async false
set_option linter.all false
namespace Ap
open Kqu5
/-! ### books that agree on a list -/
def AgreeT (b c : Book) (L : List Nat) : Prop := ∀ i ∈ L, from_ b i = from_ c i ∧ to b i = to c i
theorem sorted_agree {b c : Book} {l : List Nat} (h : ∀ i ∈ l, to b i = to c i) : sorted (byEnd b) l = sorted (byEnd c) l := by
  refine sorted_eq (byEnd_ord b) (sorted_perm _ _) ?_
  refine (sorted_pw (byEnd_ord c) l).imp_of_mem fun ha hc e => ?_
  rw [byEnd_iff] at e ⊢
  rw [h _ ((sorted_perm _ _).mem_iff.mp ha), h _ ((sorted_perm _ _).mem_iff.mp hc)]
  exact e
theorem waiting_agree {b c : Book} {l : List Nat} {s : Nat} (h : AgreeT b c l) : waiting b l s = waiting c l s := by
  rw [waiting_def, waiting_def]
  have e : l.filter (here b s) = l.filter (here c s) := List.filter_congr fun i hi => by unfold here; rw [(h i hi).1, (h i hi).2]
  rw [e]
  exact sorted_agree fun i hi => (h i (List.mem_filter.mp hi).1).2
theorem rem_agree {b c : Book} {m : Nat} {L : List Nat} (h : AgreeT b c L) : ∀ s, rem b m L s = rem c m L s
  | 0 => rfl
  | s + 1 => by
    show (rem b m L s).filter _ = (rem c m L s).filter _
    rw [rem_agree h s, waiting_agree (b := b) (c := c) fun i hi => h i (rem_sub hi)]
theorem now_agree {b c : Book} {m : Nat} {L : List Nat} (h : AgreeT b c L) (s : Nat) : now b m L s = now c m L s := by
  unfold now
  rw [rem_agree h s, waiting_agree (b := b) (c := c) fun i hi => h i (rem_sub hi)]
theorem plan_agree {b c : Book} {m : Nat} {L : List Nat} (h : AgreeT b c L) : plan b m L = plan c m L := by
  rw [plan_pre, plan_pre]
  have : ∀ s, pre b m L s = pre c m L s := fun s => by
    induction s with
    | zero => rfl
    | succ s ih => show pre b m L s ++ _ = pre c m L s ++ _; rw [ih, now_agree h s]
  exact this _
/-! ### whole numbers and natural ones -/
abbrev up (l : List Nat) : List Int := l.map (fun n : Nat => (n : Int))
theorem up_inj : ∀ {l m : List Nat}, up l = up m → l = m
  | [], [], _ => rfl
  | [], _ :: _, h => by cases h
  | _ :: _, [], h => by cases h
  | a :: l, b :: m, h => by
    have h1 : (a : Int) = b := (List.cons.inj h).1
    have h2 := up_inj (List.cons.inj h).2
    rw [h2, Int.ofNat_inj.mp h1]
theorem perm_up {ns : List Int} {L : List Nat} (p : ns.Perm (up L)) : ∃ M : List Nat, ns = up M ∧ M.Perm L := by
  refine ⟨ns.map Int.toNat, ?_, ?_⟩
  · rw [up, List.map_map]
    have : ns.map id = ns.map ((fun n : Nat => (n : Int)) ∘ Int.toNat) := List.map_congr_left fun x hx => by
      obtain ⟨n, _, rfl⟩ := List.mem_map.mp (p.mem_iff.mp hx)
      rfl
    rw [← this, List.map_id]
  · have := p.map Int.toNat
    rw [up, List.map_map] at this
    have e : L.map (Int.toNat ∘ fun n : Nat => (n : Int)) = L := by
      rw [show (Int.toNat ∘ fun n : Nat => (n : Int)) = id from funext fun n => rfl, List.map_id]
    rw [e] at this
    exact this
/-- what sorted(..) gives of whole numbers -/
theorem rising_up {ns : List Int} {L : List Nat} (p : ns.Perm (up L)) (h : ns.Pairwise (· ≤ ·)) : ns = up (rising L) := by
  obtain ⟨M, rfl, q⟩ := perm_up p
  have hw : M.Pairwise (fun a b => decide (a ≤ b) = true) := by
    rw [up, List.pairwise_map] at h
    exact h.imp fun {a b} z => by simp only [decide_eq_true_eq]; omega
  rw [show rising L = M from sorted_eq le_ord q hw]
end Ap

set_option Elab.async false
set_option linter.all false
namespace Ap
open Kqu5 Kqu5Neutral
/-- how many numbers stand behind a call's own -/
def sizeOf (k : Int) (r : List Int) : Nat := if k = 14 then 1 + (r.headD 0).toNat else ((PyKqu5.shape k).map (·.1)).getD 0
/-- the call, by its number and what stands behind -/
def callC (k : Int) (tl : List Int) : List (List Int) := if k = 14 then [[14], tl.drop 1] else [k :: tl]
theorem upto20 {k : Int} (h0 : 0 ≤ k) (h1 : k ≤ 20) : ∃ n : Nat, n < 21 ∧ k = (n : Int) := ⟨k.toNat, by omega, by omega⟩
theorem nat21 {C : Nat → Prop} (c0 : C 0) (c1 : C 1) (c2 : C 2) (c3 : C 3) (c4 : C 4) (c5 : C 5) (c6 : C 6) (c7 : C 7) (c8 : C 8) (c9 : C 9) (c10 : C 10) (c11 : C 11) (c12 : C 12) (c13 : C 13) (c14 : C 14) (c15 : C 15) (c16 : C 16) (c17 : C 17) (c18 : C 18) (c19 : C 19) (c20 : C 20) : ∀ n, n < 21 → C n
  | 0, _ => c0
  | 1, _ => c1
  | 2, _ => c2
  | 3, _ => c3
  | 4, _ => c4
  | 5, _ => c5
  | 6, _ => c6
  | 7, _ => c7
  | 8, _ => c8
  | 9, _ => c9
  | 10, _ => c10
  | 11, _ => c11
  | 12, _ => c12
  | 13, _ => c13
  | 14, _ => c14
  | 15, _ => c15
  | 16, _ => c16
  | 17, _ => c17
  | 18, _ => c18
  | 19, _ => c19
  | 20, _ => c20
  | n + 21, h => absurd h (by omega)
theorem shape_fin : ∀ i : _root_.Fin 21, ∀ n ∈ List.range 4, ∀ j ∈ List.range 2, PyKqu5.shape (i.val : Int) = some (n, j) → ((i.val = 14 ∧ n = 0 ∧ j = 1) ∨ (i.val ≠ 14 ∧ j = 0)) := by decide
theorem shape_all : ∀ i : _root_.Fin 21, ∃ n ∈ List.range 4, ∃ j ∈ List.range 2, PyKqu5.shape (i.val : Int) = some (n, j) := by decide
theorem shape_out {k : Int} (h : ¬ (0 ≤ k ∧ k ≤ 20)) : PyKqu5.shape k = none := by
  have n : ∀ i : Nat, i ≤ 20 → ¬ k = (i : Int) := fun i hi e => h (by omega)
  unfold PyKqu5.shape
  exact (if_neg (n 0 (by decide))).trans <| (if_neg (n 1 (by decide))).trans <| (if_neg (n 2 (by decide))).trans <| (if_neg (n 3 (by decide))).trans <| (if_neg (n 4 (by decide))).trans <| (if_neg (n 5 (by decide))).trans <| (if_neg (n 6 (by decide))).trans <|
    (if_neg (n 7 (by decide))).trans <| (if_neg (n 8 (by decide))).trans <| (if_neg (n 9 (by decide))).trans <| (if_neg (n 10 (by decide))).trans <| (if_neg (n 11 (by decide))).trans <| (if_neg (n 12 (by decide))).trans <| (if_neg (n 13 (by decide))).trans <|
    (if_neg (n 14 (by decide))).trans <| (if_neg (n 15 (by decide))).trans <| (if_neg (n 16 (by decide))).trans <| (if_neg (n 17 (by decide))).trans <| (if_neg (n 18 (by decide))).trans <| (if_neg (n 19 (by decide))).trans <| if_neg (n 20 (by decide))
theorem shape_some {k : Int} {n j : Nat} (h : PyKqu5.shape k = some (n, j)) : 0 ≤ k ∧ k ≤ 20 ∧ n ≤ 3 ∧ ((k = 14 ∧ n = 0 ∧ j = 1) ∨ (k ≠ 14 ∧ j = 0)) := by
  by_cases hk : 0 ≤ k ∧ k ≤ 20
  · obtain ⟨i, hi, rfl⟩ := upto20 hk.1 hk.2
    obtain ⟨n', hn, j', hj, e⟩ := shape_all ⟨i, hi⟩
    have hf := shape_fin ⟨i, hi⟩ n' hn j' hj e
    have e : PyKqu5.shape (i : Int) = some (n', j') := e
    have hf : ((i = 14 ∧ n' = 0 ∧ j' = 1) ∨ (i ≠ 14 ∧ j' = 0)) := hf
    rw [e] at h
    cases h
    have := List.mem_range.mp hn
    refine ⟨hk.1, hk.2, by omega, hf.imp (fun z => ⟨by omega, z.2⟩) fun z => ⟨by omega, z.2⟩⟩
  · rw [shape_out hk] at h; cases h
/-- one call taken off -/
theorem take_call {f : Nat} {k : Int} {r : List Int} {cs : List (List (List Int))} (h : PyFlat.calls PyKqu5.shape f (k :: r) = some cs) :
    ∃ f' cs', cs = callC k (r.take (sizeOf k r)) :: cs' ∧ PyFlat.calls PyKqu5.shape f' (r.drop (sizeOf k r)) = some cs' ∧ sizeOf k r ≤ r.length ∧ 0 ≤ k ∧ k ≤ 20 ∧ (k = 14 → ∃ n r', r = n :: r' ∧ 0 ≤ n ∧ n.toNat ≤ r'.length) ∧ (k ≠ 14 → ∃ n, PyKqu5.shape k = some (n, 0) ∧ sizeOf k r = n) := by
  cases f with
  | zero => cases h
  | succ f =>
    unfold PyFlat.calls at h
    cases hc : PyFlat.call PyKqu5.shape (k :: r) with
    | none => rw [hc] at h; cases h
    | some ct =>
      obtain ⟨c, t⟩ := ct
      rw [hc] at h
      dsimp only at h
      cases hcs : PyFlat.calls PyKqu5.shape f t with
      | none => rw [hcs] at h; cases h
      | some cs' =>
        rw [hcs] at h
        have h : c :: cs' = cs := Option.some.inj h
        unfold PyFlat.call at hc
        dsimp only at hc
        cases hs : PyKqu5.shape k with
        | none => rw [hs] at hc; cases hc
        | some nj =>
          obtain ⟨n, j⟩ := nj
          rw [hs] at hc
          obtain ⟨k0, k1, k2, hk⟩ := shape_some hs
          have hc : (if r.length < n then none else match PyFlat.rows j (r.drop n) with | none => none | some (xs, t) => some ((k :: r.take n) :: xs, t)) = some (c, t) := hc
          by_cases hl : r.length < n
          · rw [if_pos hl] at hc; cases hc
          · rw [if_neg hl] at hc
            rcases hk with ⟨rfl, rfl, rfl⟩ | ⟨hk, rfl⟩
            · rw [List.drop_zero] at hc
              cases r with
              | nil => cases hc
              | cons a r' =>
                have hc : (match (match PyFlat.row (a :: r') with | none => none | some (x, s) => some ([x], s)) with | none => none | some (xs, t) => some (((14 : Int) :: (a :: r').take 0) :: xs, t)) = some (c, t) := by
                  unfold PyFlat.rows at hc
                  cases hrow : PyFlat.row (a :: r') with
                  | none => rw [hrow] at hc; cases hc
                  | some xs => rw [hrow] at hc; exact hc
                unfold PyFlat.row at hc
                dsimp only at hc
                by_cases ha : 0 ≤ a ∧ a.toNat ≤ r'.length
                · rw [if_pos ha] at hc
                  have hc := Option.some.inj hc
                  have e1 : [[14], r'.take a.toNat] = c := congrArg Prod.fst hc
                  have e2 : r'.drop a.toNat = t := congrArg Prod.snd hc
                  have es : sizeOf 14 (a :: r') = a.toNat + 1 := by unfold sizeOf; rw [if_pos rfl]; show 1 + a.toNat = _; omega
                  refine ⟨f, cs', ?_, ?_, ?_, by omega, by omega, fun _ => ⟨a, r', rfl, ha⟩, fun z => absurd rfl z⟩
                  · rw [es, ← h, ← e1]; rfl
                  · rw [es]; show PyFlat.calls PyKqu5.shape f (r'.drop a.toNat) = _; rw [e2]; exact hcs
                  · rw [es, List.length_cons]; omega
                · rw [if_neg ha] at hc; cases hc
            · have hc : some ((k :: r.take n) :: [], r.drop n) = some (c, t) := hc
              have hc := Option.some.inj hc
              have e1 : [k :: r.take n] = c := congrArg Prod.fst hc
              have e2 : r.drop n = t := congrArg Prod.snd hc
              have es : sizeOf k r = n := by unfold sizeOf; rw [if_neg hk, hs]; rfl
              refine ⟨f, cs', ?_, ?_, ?_, k0, k1, fun z => absurd z hk, fun _ => ⟨n, rfl, es⟩⟩
              · rw [es, ← h, ← e1]; unfold callC; rw [if_neg hk]
              · rw [es, e2]; exact hcs
              · rw [es]; omega
theorem calls_nil {f : Nat} {cs : List (List (List Int))} (h : PyFlat.calls PyKqu5.shape f [] = some cs) : cs = [] := by
  cases f <;> exact (Option.some.inj h).symm
/-! ### lists of so many -/
theorem len0 {l : List Int} (h : l.length = 0) : l = [] := List.eq_nil_of_length_eq_zero h
theorem len1 {l : List Int} (h : l.length = 1) : ∃ a, l = [a] := List.length_eq_one_iff.mp h
theorem lenS {l : List Int} {n : Nat} (h : l.length = n + 1) : ∃ a t, l = a :: t ∧ t.length = n := by
  cases l with
  | nil => cases h
  | cons a t => exact ⟨a, t, rfl, Nat.succ.inj h⟩
theorem len2 {l : List Int} (h : l.length = 2) : ∃ a b, l = [a, b] := by
  obtain ⟨a, t, rfl, h2⟩ := lenS h
  obtain ⟨b, rfl⟩ := len1 h2
  exact ⟨a, b, rfl⟩
theorem len3 {l : List Int} (h : l.length = 3) : ∃ a b c, l = [a, b, c] := by
  obtain ⟨a, t, rfl, h2⟩ := lenS h
  obtain ⟨b, c, rfl⟩ := len2 h2
  exact ⟨a, b, c, rfl⟩
def szs : List Nat := [1, 3, 1, 3, 1, 0, 0, 1, 1, 0, 0, 0, 2, 0, 0, 1, 1, 2, 0, 1, 0]
theorem szs_fin : ∀ i : _root_.Fin 21, ∀ n ∈ List.range 4, PyKqu5.shape (i.val : Int) = some (n, 0) → szs[i.val]? = some n := by decide
/-- a property of the calls of each form -/
theorem by_form {C : Int → List Int → Prop} (c0 : ∀ a, C 0 [a]) (c1 : ∀ a b c, C 1 [a, b, c]) (c2 : ∀ a, C 2 [a]) (c3 : ∀ a b c, C 3 [a, b, c]) (c4 : ∀ a, C 4 [a]) (c5 : C 5 []) (c6 : C 6 []) (c7 : ∀ a, C 7 [a]) (c8 : ∀ a, C 8 [a]) (c9 : C 9 []) (c10 : C 10 []) (c11 : C 11 [])
    (c12 : ∀ a b, C 12 [a, b]) (c13 : C 13 []) (c14 : ∀ l, C 14 l) (c15 : ∀ a, C 15 [a]) (c16 : ∀ a, C 16 [a]) (c17 : ∀ a b, C 17 [a, b]) (c18 : C 18 []) (c19 : ∀ a, C 19 [a]) (c20 : C 20 []) :
    ∀ (n : Nat) (_ : n < 21) (tl : List Int), (n ≠ 14 → szs[n]? = some tl.length) → C (n : Int) tl :=
  nat21 (C := fun n => ∀ tl : List Int, (n ≠ 14 → szs[n]? = some tl.length) → C (n : Int) tl) (fun tl h => by obtain ⟨a, rfl⟩ := len1 (Option.some.inj (h (by decide))).symm; exact c0 a)
    (fun tl h => by obtain ⟨a, b, c, rfl⟩ := len3 (Option.some.inj (h (by decide))).symm; exact c1 a b c)
    (fun tl h => by obtain ⟨a, rfl⟩ := len1 (Option.some.inj (h (by decide))).symm; exact c2 a)
    (fun tl h => by obtain ⟨a, b, c, rfl⟩ := len3 (Option.some.inj (h (by decide))).symm; exact c3 a b c)
    (fun tl h => by obtain ⟨a, rfl⟩ := len1 (Option.some.inj (h (by decide))).symm; exact c4 a)
    (fun tl h => by obtain rfl := len0 (Option.some.inj (h (by decide))).symm; exact c5)
    (fun tl h => by obtain rfl := len0 (Option.some.inj (h (by decide))).symm; exact c6)
    (fun tl h => by obtain ⟨a, rfl⟩ := len1 (Option.some.inj (h (by decide))).symm; exact c7 a)
    (fun tl h => by obtain ⟨a, rfl⟩ := len1 (Option.some.inj (h (by decide))).symm; exact c8 a)
    (fun tl h => by obtain rfl := len0 (Option.some.inj (h (by decide))).symm; exact c9)
    (fun tl h => by obtain rfl := len0 (Option.some.inj (h (by decide))).symm; exact c10)
    (fun tl h => by obtain rfl := len0 (Option.some.inj (h (by decide))).symm; exact c11)
    (fun tl h => by obtain ⟨a, b, rfl⟩ := len2 (Option.some.inj (h (by decide))).symm; exact c12 a b)
    (fun tl h => by obtain rfl := len0 (Option.some.inj (h (by decide))).symm; exact c13)
    (fun tl _ => c14 tl)
    (fun tl h => by obtain ⟨a, rfl⟩ := len1 (Option.some.inj (h (by decide))).symm; exact c15 a)
    (fun tl h => by obtain ⟨a, rfl⟩ := len1 (Option.some.inj (h (by decide))).symm; exact c16 a)
    (fun tl h => by obtain ⟨a, b, rfl⟩ := len2 (Option.some.inj (h (by decide))).symm; exact c17 a b)
    (fun tl h => by obtain rfl := len0 (Option.some.inj (h (by decide))).symm; exact c18)
    (fun tl h => by obtain ⟨a, rfl⟩ := len1 (Option.some.inj (h (by decide))).symm; exact c19 a)
    (fun tl h => by obtain rfl := len0 (Option.some.inj (h (by decide))).symm; exact c20)
theorem whole_call : ∀ (n : Nat) (_ : n < 21) (tl : List Int), (n ≠ 14 → szs[n]? = some tl.length) → PyKqu5.whole (callC (n : Int) tl) = callC (n : Int) tl :=
  by_form (C := fun k tl => PyKqu5.whole (callC k tl) = callC k tl) (fun _ => rfl) (fun _ _ _ => rfl) (fun _ => rfl) (fun _ _ _ => rfl) (fun _ => rfl) rfl rfl (fun _ => rfl) (fun _ => rfl) rfl rfl rfl (fun _ _ => rfl) rfl (fun _ => rfl) (fun _ => rfl) (fun _ => rfl) (fun _ _ => rfl) rfl (fun _ => rfl) rfl
theorem map_whole' : ∀ (n f : Nat) (l : List Int) (cs : List (List (List Int))), l.length ≤ n → PyFlat.calls PyKqu5.shape f l = some cs → cs.map PyKqu5.whole = cs
  | _, _, [], cs, _, h => by rw [calls_nil h]; rfl
  | 0, _, _ :: _, _, hl, _ => absurd hl (by simp)
  | n + 1, f, k :: r, cs, hl, h => by
    obtain ⟨f', cs', rfl, h', hs, k0, k20, h14, hn⟩ := take_call h
    have ih := map_whole' n f' (r.drop (sizeOf k r)) cs' (by rw [List.length_drop]; rw [List.length_cons] at hl; omega) h'
    rw [List.map_cons, ih]
    obtain ⟨i, hi21, rfl⟩ := upto20 k0 k20
    rw [whole_call i hi21 _ fun hi => ?_]
    obtain ⟨m, hm, em⟩ := hn (by omega)
    have := (shape_some hm).2.2.1
    rw [List.length_take, Nat.min_eq_left hs, em]
    exact szs_fin ⟨i, hi21⟩ m (List.mem_range.mpr (by omega)) hm
theorem map_whole {f : Nat} {l : List Int} {cs : List (List (List Int))} (h : PyFlat.calls PyKqu5.shape f l = some cs) : cs.map PyKqu5.whole = cs := map_whole' _ f l cs (Nat.le_refl _) h
/-- what is asked, in parts -/
theorem asked_parts {l : List Int} (h : PyKqu5.answers_asked l = true) : ∃ raw, PyFlat.calls PyKqu5.shape l.length l = some raw ∧ (∀ c ∈ raw, asked1 c = true) ∧ raw.length ≤ 200 ∧ PyKqu5.answers l = PyFlat.told (PyFlat.played Kqu5Neutral.step Kqu5Neutral.start raw) ∧ (PyKqu5.answers l).length ≤ 10000000 := by
  unfold PyKqu5.answers_asked at h
  cases e : PyFlat.calls PyKqu5.shape l.length l with
  | none => rw [e] at h; cases h
  | some raw =>
    rw [e] at h
    simp only [Bool.and_eq_true] at h
    obtain ⟨⟨⟨⟨_, h2⟩, _⟩, h4⟩, h5⟩ := h
    rw [map_whole e] at h4
    unfold Kqu5Neutral.asked at h4
    simp only [Bool.and_eq_true] at h4
    refine ⟨raw, rfl, List.all_eq_true.mp h4.1.2.1, of_decide_eq_true h2, ?_, of_decide_eq_true h5⟩
    unfold PyKqu5.answers PyKqu5.calls
    rw [e]
    show PyFlat.told (PyFlat.played Kqu5Neutral.step Kqu5Neutral.start (raw.map PyKqu5.whole)) = _
    rw [map_whole e]
/-! ### what is asked of a call, by its kind -/
theorem nat32 {a : Int} (h : Kqu5Neutral.natural a 32 = true) : 0 ≤ a := by
  unfold Kqu5Neutral.natural at h
  rw [Bool.and_eq_true] at h
  exact of_decide_eq_true h.1
theorem nil_of {f : List Int → Bool} (h1 : ∀ a t, f (a :: t) = false) {tl : List Int} (h : f tl = true) : tl = [] := by
  cases tl with
  | nil => rfl
  | cons a t => rw [h1] at h; cases h
theorem one_of {f : List Int → Bool} (h0 : f [] = false) (h1 : ∀ a, f [a] = Kqu5Neutral.natural a 32) (h2 : ∀ a b t, f (a :: b :: t) = false) {tl : List Int} (h : f tl = true) : ∃ a : Nat, tl = [(a : Int)] := by
  cases tl with
  | nil => rw [h0] at h; cases h
  | cons a t =>
    cases t with
    | nil => rw [h1] at h; exact ⟨a.toNat, by rw [Int.toNat_of_nonneg (nat32 h)]⟩
    | cons b t => rw [h2] at h; cases h
theorem two_of {f : List Int → Bool} (h0 : f [] = false) (h1 : ∀ a, f [a] = false) (h2 : ∀ a b, f [a, b] = (Kqu5Neutral.natural a 32 && Kqu5Neutral.natural b 32)) (h3 : ∀ a b c t, f (a :: b :: c :: t) = false) {tl : List Int} (h : f tl = true) : ∃ a c : Nat, tl = [(a : Int), (c : Int)] := by
  cases tl with
  | nil => rw [h0] at h; cases h
  | cons a t =>
    cases t with
    | nil => rw [h1] at h; cases h
    | cons b t =>
      cases t with
      | nil =>
        rw [h2, Bool.and_eq_true] at h
        exact ⟨a.toNat, b.toNat, by rw [Int.toNat_of_nonneg (nat32 h.1), Int.toNat_of_nonneg (nat32 h.2)]⟩
      | cons c t => rw [h3] at h; cases h
theorem three_of {f : List Int → Bool} (h0 : f [] = false) (h1 : ∀ a, f [a] = false) (h2 : ∀ a b, f [a, b] = false) (h3 : ∀ a b c, f [a, b, c] = (Kqu5Neutral.natural a 32 && Kqu5Neutral.natural b 32 && Kqu5Neutral.natural c 32)) (h4 : ∀ a b c d t, f (a :: b :: c :: d :: t) = false)
    {tl : List Int} (h : f tl = true) : ∃ a b c : Nat, tl = [(a : Int), (b : Int), (c : Int)] := by
  cases tl with
  | nil => rw [h0] at h; cases h
  | cons a t =>
    cases t with
    | nil => rw [h1] at h; cases h
    | cons b t =>
      cases t with
      | nil => rw [h2] at h; cases h
      | cons c t =>
        cases t with
        | nil =>
          rw [h3, Bool.and_eq_true, Bool.and_eq_true] at h
          exact ⟨a.toNat, b.toNat, c.toNat, by rw [Int.toNat_of_nonneg (nat32 h.1.1), Int.toNat_of_nonneg (nat32 h.1.2), Int.toNat_of_nonneg (nat32 h.2)]⟩
        | cons d t => rw [h4] at h; cases h
theorem asked_0 {tl : List Int} (h : asked1 [0 :: tl] = true) : ∃ a : Nat, tl = [(a : Int)] := one_of (f := fun tl => asked1 [0 :: tl]) rfl (fun _ => rfl) (fun _ _ _ => rfl) h
theorem asked_2 {tl : List Int} (h : asked1 [2 :: tl] = true) : ∃ a : Nat, tl = [(a : Int)] := one_of (f := fun tl => asked1 [2 :: tl]) rfl (fun _ => rfl) (fun _ _ _ => rfl) h
theorem asked_4 {tl : List Int} (h : asked1 [4 :: tl] = true) : ∃ a : Nat, tl = [(a : Int)] := one_of (f := fun tl => asked1 [4 :: tl]) rfl (fun _ => rfl) (fun _ _ _ => rfl) h
theorem asked_7 {tl : List Int} (h : asked1 [7 :: tl] = true) : ∃ a : Nat, tl = [(a : Int)] := one_of (f := fun tl => asked1 [7 :: tl]) rfl (fun _ => rfl) (fun _ _ _ => rfl) h
theorem asked_8 {tl : List Int} (h : asked1 [8 :: tl] = true) : ∃ a : Nat, tl = [(a : Int)] := one_of (f := fun tl => asked1 [8 :: tl]) rfl (fun _ => rfl) (fun _ _ _ => rfl) h
theorem asked_15 {tl : List Int} (h : asked1 [15 :: tl] = true) : ∃ a : Nat, tl = [(a : Int)] := one_of (f := fun tl => asked1 [15 :: tl]) rfl (fun _ => rfl) (fun _ _ _ => rfl) h
theorem asked_16 {tl : List Int} (h : asked1 [16 :: tl] = true) : ∃ a : Nat, tl = [(a : Int)] := one_of (f := fun tl => asked1 [16 :: tl]) rfl (fun _ => rfl) (fun _ _ _ => rfl) h
theorem asked_19 {tl : List Int} (h : asked1 [19 :: tl] = true) : ∃ a : Nat, tl = [(a : Int)] := one_of (f := fun tl => asked1 [19 :: tl]) rfl (fun _ => rfl) (fun _ _ _ => rfl) h
theorem asked_12 {tl : List Int} (h : asked1 [12 :: tl] = true) : ∃ a c : Nat, tl = [(a : Int), (c : Int)] := two_of (f := fun tl => asked1 [12 :: tl]) rfl (fun _ => rfl) (fun _ _ => rfl) (fun _ _ _ _ => rfl) h
theorem asked_17 {tl : List Int} (h : asked1 [17 :: tl] = true) : ∃ a c : Nat, tl = [(a : Int), (c : Int)] := two_of (f := fun tl => asked1 [17 :: tl]) rfl (fun _ => rfl) (fun _ _ => rfl) (fun _ _ _ _ => rfl) h
theorem asked_1 {tl : List Int} (h : asked1 [1 :: tl] = true) : ∃ a b c : Nat, tl = [(a : Int), (b : Int), (c : Int)] := three_of (f := fun tl => asked1 [1 :: tl]) rfl (fun _ => rfl) (fun _ _ => rfl) (fun _ _ _ => rfl) (fun _ _ _ _ _ => rfl) h
theorem asked_3 {tl : List Int} (h : asked1 [3 :: tl] = true) : ∃ a b c : Nat, tl = [(a : Int), (b : Int), (c : Int)] := three_of (f := fun tl => asked1 [3 :: tl]) rfl (fun _ => rfl) (fun _ _ => rfl) (fun _ _ _ => rfl) (fun _ _ _ _ _ => rfl) h
theorem asked_5 {tl : List Int} (h : asked1 [5 :: tl] = true) : tl = [] := nil_of (f := fun tl => asked1 [5 :: tl]) (fun _ _ => rfl) h
theorem asked_6 {tl : List Int} (h : asked1 [6 :: tl] = true) : tl = [] := nil_of (f := fun tl => asked1 [6 :: tl]) (fun _ _ => rfl) h
theorem asked_9 {tl : List Int} (h : asked1 [9 :: tl] = true) : tl = [] := nil_of (f := fun tl => asked1 [9 :: tl]) (fun _ _ => rfl) h
theorem asked_10 {tl : List Int} (h : asked1 [10 :: tl] = true) : tl = [] := nil_of (f := fun tl => asked1 [10 :: tl]) (fun _ _ => rfl) h
theorem asked_11 {tl : List Int} (h : asked1 [11 :: tl] = true) : tl = [] := nil_of (f := fun tl => asked1 [11 :: tl]) (fun _ _ => rfl) h
theorem asked_13 {tl : List Int} (h : asked1 [13 :: tl] = true) : tl = [] := nil_of (f := fun tl => asked1 [13 :: tl]) (fun _ _ => rfl) h
theorem asked_18 {tl : List Int} (h : asked1 [18 :: tl] = true) : tl = [] := nil_of (f := fun tl => asked1 [18 :: tl]) (fun _ _ => rfl) h
theorem asked_20 {tl : List Int} (h : asked1 [20 :: tl] = true) : tl = [] := nil_of (f := fun tl => asked1 [20 :: tl]) (fun _ _ => rfl) h
theorem asked_14 {r : List Int} (h : asked1 [[14], r] = true) : ∃ L : List Nat, r = up L := by
  refine ⟨r.map Int.toNat, ?_⟩
  have h : (r.all (fun (z : Int) => Kqu5Neutral.natural z 32) && decide (r.length ≤ 60)) = true := h
  rw [Bool.and_eq_true] at h
  rw [up, List.map_map]
  have : r.map id = r.map ((fun n : Nat => (n : Int)) ∘ Int.toNat) := List.map_congr_left fun x hx => (Int.toNat_of_nonneg (nat32 (List.all_eq_true.mp h.1 x hx))).symm
  rw [← this, List.map_id]
/-- ahead of a start -/
theorem step_none {k : Int} {tl : List Int} (h : asked1 (callC k tl) = true) (hk : k ≠ 0) (k0 : 0 ≤ k) (k20 : k ≤ 20) : Kqu5Neutral.step none (callC k tl) = (none, [-11]) := by
  obtain ⟨i, hi, rfl⟩ := upto20 k0 k20
  exact nat21 (C := fun n => asked1 (callC (n : Int) tl) = true → (n : Int) ≠ 0 → Kqu5Neutral.step none (callC (n : Int) tl) = (none, [-11])) (fun _ z => absurd rfl z)
    (fun h _ => by obtain ⟨_, _, _, rfl⟩ := asked_1 h; rfl)
    (fun h _ => by obtain ⟨_, rfl⟩ := asked_2 h; rfl)
    (fun h _ => by obtain ⟨_, _, _, rfl⟩ := asked_3 h; rfl)
    (fun h _ => by obtain ⟨_, rfl⟩ := asked_4 h; rfl)
    (fun h _ => by obtain rfl := asked_5 h; rfl)
    (fun h _ => by obtain rfl := asked_6 h; rfl)
    (fun h _ => by obtain ⟨_, rfl⟩ := asked_7 h; rfl)
    (fun h _ => by obtain ⟨_, rfl⟩ := asked_8 h; rfl)
    (fun h _ => by obtain rfl := asked_9 h; rfl)
    (fun h _ => by obtain rfl := asked_10 h; rfl)
    (fun h _ => by obtain rfl := asked_11 h; rfl)
    (fun h _ => by obtain ⟨_, _, rfl⟩ := asked_12 h; rfl)
    (fun h _ => by obtain rfl := asked_13 h; rfl)
    (fun h _ => rfl)
    (fun h _ => by obtain ⟨_, rfl⟩ := asked_15 h; rfl)
    (fun h _ => by obtain ⟨_, rfl⟩ := asked_16 h; rfl)
    (fun h _ => by obtain ⟨_, _, rfl⟩ := asked_17 h; rfl)
    (fun h _ => by obtain rfl := asked_18 h; rfl)
    (fun h _ => by obtain ⟨_, rfl⟩ := asked_19 h; rfl)
    (fun h _ => by obtain rfl := asked_20 h; rfl)
    i hi h hk
end Ap

set_option Elab.async false
set_option linter.all false
namespace Ap
open Kqu5
variable {A : Type}
/-- the persons of a book, as pairs of a number and what stands there -/
def RepB (b : Book) (l : List (Nat × A × Person)) : Prop := ∀ i, b.persons.getD i none = (l.find? fun q => decide (q.1 = i)).map (·.2.2)
theorem find_key {l : List (Nat × A × Person)} {i : Nat} : (l.find? fun q => decide (q.1 = i)).isSome = true ↔ i ∈ l.map (·.1) := by
  rw [List.find?_isSome, List.mem_map]
  exact ⟨fun ⟨q, h1, h2⟩ => ⟨q, h1, of_decide_eq_true h2⟩, fun ⟨q, h1, h2⟩ => ⟨q, h1, decide_eq_true h2⟩⟩
theorem find_mem {l : List (Nat × A × Person)} (hn : (l.map (·.1)).Nodup) {q : Nat × A × Person} (hq : q ∈ l) : (l.find? fun r => decide (r.1 = q.1)) = some q := by
  induction l with
  | nil => cases hq
  | cons r t ih =>
    rw [List.find?_cons]
    rw [List.map_cons] at hn
    have hc := List.nodup_cons.mp hn
    rcases List.mem_cons.mp hq with rfl | hq
    · rw [decide_eq_true rfl]
    · have : ¬ r.1 = q.1 := fun e => hc.1 (by rw [e]; exact List.mem_map.mpr ⟨q, hq, rfl⟩)
      rw [decide_eq_false this]
      exact ih hc.2 hq
theorem find_none {l : List (Nat × A × Person)} {i : Nat} (h : i ∉ l.map (·.1)) : (l.find? fun q => decide (q.1 = i)) = none := by
  cases e : l.find? fun q => decide (q.1 = i) with
  | none => rfl
  | some q => exact absurd (find_key.mp (by rw [e]; rfl)) h
namespace RepB
variable {b : Book} {l : List (Nat × A × Person)}
theorem get (R : RepB b l) (hn : (l.map (·.1)).Nodup) {q : Nat × A × Person} (hq : q ∈ l) : b.persons.getD q.1 none = some q.2.2 := by rw [R, find_mem hn hq]; rfl
theorem none (R : RepB b l) {i : Nat} (h : i ∉ l.map (·.1)) : b.persons.getD i none = none := by rw [R, find_none h]; rfl
theorem isSome (R : RepB b l) (i : Nat) : (b.persons.getD i Option.none).isSome = true ↔ i ∈ l.map (·.1) := by rw [R, Option.isSome_map, find_key]
theorem ag (R : RepB b l) (hn : (l.map (·.1)).Nodup) {q : Nat × A × Person} (hq : q ∈ l) : from_ b q.1 = q.2.2.from_ ∧ to b q.1 = q.2.2.to ∧ counts b q.1 = q.2.2.counts := by
  unfold from_ to counts
  rw [R.get hn hq]
  exact ⟨rfl, rfl, rfl⟩
theorem mem_ids (R : RepB b l) (i : Nat) : i ∈ ids b ↔ i ∈ l.map (·.1) := by
  unfold ids
  rw [List.mem_filter, List.mem_range, R.isSome]
  refine ⟨fun h => h.2, fun h => ⟨?_, h⟩⟩
  apply Nat.lt_of_not_le
  intro hge
  have := (R.isSome i).mpr h
  rw [List.getD_eq_getElem?_getD, List.getElem?_eq_none_iff.mpr hge] at this
  cases this
theorem ids_eq (R : RepB b l) (hn : (l.map (·.1)).Nodup) : ids b = rising (l.map (·.1)) := by
  have nd : (ids b).Nodup := List.nodup_range.sublist List.filter_sublist
  have pm : (ids b).Perm (l.map (·.1)) := (List.perm_ext_iff_of_nodup nd hn).mpr fun i => R.mem_ids i
  have pw : (ids b).Pairwise (fun a c => decide (a ≤ c) = true) := by
    refine List.Pairwise.imp (R := fun a c => a < c) (fun {a c} h => decide_eq_true (Nat.le_of_lt h)) ?_
    exact List.Pairwise.sublist List.filter_sublist List.pairwise_lt_range
  exact (sorted_eq le_ord pm pw).symm
theorem free (R : RepB b l) {n : Nat} (h1 : ∀ j, j < n → j ∈ l.map (·.1)) (h2 : n ∉ l.map (·.1)) : firstFree b.persons = n := by
  have a1 : ∀ j, j < n → (b.persons.getD j Option.none).isSome = true := fun j hj => (R.isSome j).mpr (h1 j hj)
  have a2 : b.persons.getD n Option.none = Option.none := R.none h2
  have lt : ∀ j, j < n → j < b.persons.length := fun j hj => by
    apply Nat.lt_of_not_le
    intro hge
    have := a1 j hj
    rw [List.getD_eq_getElem?_getD, List.getElem?_eq_none_iff.mpr hge] at this
    cases this
  unfold firstFree
  by_cases hl : n < b.persons.length
  · have : b.persons.findIdx? Option.isNone = some n := by
      rw [List.findIdx?_eq_some_iff_getElem]
      refine ⟨hl, ?_, fun j hj => ?_⟩
      · rw [List.getD_eq_getElem?_getD, List.getElem?_eq_getElem hl] at a2
        rw [show b.persons[n] = Option.none from a2]; rfl
      · have := a1 j hj
        rw [List.getD_eq_getElem?_getD, List.getElem?_eq_getElem (lt j hj)] at this
        cases e : b.persons[j] with
        | none => rw [e] at this; cases this
        | some x => simp
    rw [this]; rfl
  · have hn : n = b.persons.length := by
      cases n with
      | zero => omega
      | succ k => have := lt k (Nat.lt_succ_self k); omega
    have : b.persons.findIdx? Option.isNone = Option.none := by
      rw [List.findIdx?_eq_none_iff]
      intro x hx
      obtain ⟨j, hj, rfl⟩ := List.getElem_of_mem hx
      have := a1 j (by omega)
      rw [List.getD_eq_getElem?_getD, List.getElem?_eq_getElem hj] at this
      cases e : b.persons[j] with
      | none => rw [e] at this; cases this
      | some x => rfl
    rw [this]; exact hn.symm
theorem put (R : RepB b l) {n : Nat} {a : A} {p : Person} {w : Nat} (h1 : ∀ j, j < n → j ∈ l.map (·.1)) (h2 : n ∉ l.map (·.1)) : RepB ⟨w, putIn b.persons p⟩ (l ++ [(n, a, p)]) := by
  have hf := R.free h1 h2
  intro i
  show (putIn b.persons p).getD i Option.none = _
  unfold putIn
  rw [hf, List.find?_append]
  by_cases hl : n < b.persons.length
  · rw [if_pos hl, List.getD_eq_getElem?_getD, List.getElem?_set]
    by_cases hi : n = i
    · subst hi
      rw [if_pos rfl, if_pos hl, find_none h2]; simp
    · rw [if_neg hi]
      have := R i
      rw [List.getD_eq_getElem?_getD] at this
      rw [this]
      simp [hi]
  · rw [if_neg hl]
    have hle : b.persons.length ≤ n := by omega
    have hn : n = b.persons.length := by
      cases n with
      | zero => omega
      | succ k =>
        have := (R.isSome k).mpr (h1 k (Nat.lt_succ_self k))
        apply Nat.le_antisymm _ hle
        apply Nat.lt_of_not_le
        intro hge
        rw [List.getD_eq_getElem?_getD, List.getElem?_eq_none_iff.mpr hge] at this
        cases this
    rw [List.getD_eq_getElem?_getD]
    by_cases hi : i < b.persons.length
    · rw [List.getElem?_append_left hi]
      have := R i
      rw [List.getD_eq_getElem?_getD] at this
      rw [this]
      have hne : ¬ n = i := by omega
      simp [hne]
    · rw [List.getElem?_append_right (by omega)]
      by_cases hi2 : i = n
      · subst hi2
        rw [← hn, Nat.sub_self, find_none h2]; simp
      · have e1 : i - b.persons.length ≠ 0 := by omega
        have : (l.find? fun q => decide (q.1 = i)) = Option.none := by
          have := R i
          rw [List.getD_eq_getElem?_getD, List.getElem?_eq_none_iff.mpr (by omega)] at this
          cases e : l.find? fun q => decide (q.1 = i) with
          | none => rfl
          | some q => rw [e] at this; cases this
        rw [this]
        have hne : ¬ n = i := fun z => hi2 z.symm
        cases e : i - b.persons.length with
        | zero => exact absurd e e1
        | succ k => simp [hne]
theorem drop (R : RepB b l) (i : Nat) : RepB { b with persons := b.persons.set i Option.none } (l.filter fun q => decide (q.1 ≠ i)) := by
  intro j
  show (b.persons.set i Option.none).getD j Option.none = _
  rw [List.getD_eq_getElem?_getD, List.getElem?_set]
  by_cases hi : i = j
  · subst hi
    have : ((l.filter fun q => decide (q.1 ≠ i)).find? fun q => decide (q.1 = i)) = Option.none := find_none (fun z => by
      obtain ⟨q, hq, e⟩ := List.mem_map.mp z
      exact (of_decide_eq_true (List.mem_filter.mp hq).2) e)
    rw [this, if_pos rfl]
    split <;> rfl
  · rw [if_neg hi]
    have := R j
    rw [List.getD_eq_getElem?_getD] at this
    rw [this, List.find?_filter]
    congr 1
    congr 1
    funext q
    by_cases e : q.1 = j
    · have hne : q.1 ≠ i := fun z => hi (z.symm.trans e)
      simp [e, hne]
      exact fun z => hi z.symm
    · simp [e]
theorem set (R : RepB b l) {i : Nat} {a : A} {p : Person} (h : i ∈ l.map (·.1)) : RepB { b with persons := b.persons.set i (some p) } (l.map fun q => if q.1 = i then (i, a, p) else q) := by
  intro j
  show (b.persons.set i (some p)).getD j Option.none = _
  have hlt : i < b.persons.length := by
    apply Nat.lt_of_not_le
    intro hge
    have := (R.isSome i).mpr h
    rw [List.getD_eq_getElem?_getD, List.getElem?_eq_none_iff.mpr hge] at this
    cases this
  rw [List.getD_eq_getElem?_getD, List.getElem?_set]
  by_cases hi : i = j
  · subst hi
    rw [if_pos rfl, if_pos hlt]
    have : ∀ l : List (Nat × A × Person), i ∈ l.map (·.1) → ((l.map fun q => if q.1 = i then (i, a, p) else q).find? fun q => decide (q.1 = i)) = some (i, a, p) := fun l => by
      induction l with
      | nil => intro z; cases z
      | cons q t ih =>
        intro z
        rw [List.map_cons, List.find?_cons]
        by_cases e : q.1 = i
        · rw [if_pos e, decide_eq_true rfl]
        · rw [if_neg e, decide_eq_false e]
          rw [List.map_cons] at z
          rcases List.mem_cons.mp z with z | z
          · exact absurd z.symm e
          · exact ih z
    rw [this l h]; rfl
  · rw [if_neg hi]
    have := R j
    rw [List.getD_eq_getElem?_getD] at this
    rw [this]
    clear this
    have : ∀ l : List (Nat × A × Person), (l.find? fun q => decide (q.1 = j)) = ((l.map fun q => if q.1 = i then (i, a, p) else q).find? fun q => decide (q.1 = j)) := fun l => by
      induction l with
      | nil => rfl
      | cons q t ih =>
        rw [List.map_cons, List.find?_cons, List.find?_cons]
        by_cases e : q.1 = i
        · rw [if_pos e]
          have e1 : ¬ q.1 = j := fun z => hi (e.symm.trans z)
          rw [decide_eq_false e1, decide_eq_false hi]
          exact ih
        · rw [if_neg e]
          cases decide (q.1 = j) with
          | true => rfl
          | false => exact ih
    rw [this l]
end RepB
end Ap

set_option Elab.async false
set_option linter.all false
namespace Ap
open Kqu5
/-! ### how many are served hangs on the times alone, not on the numbers -/
/-- as from slot s on: who can come already can come from s -/
def eff (b : Book) (s i : Nat) : Nat × Nat := (max (from_ b i) s, to b i)
theorem here_eff (b : Book) (s i : Nat) : here b s i = (decide ((eff b s i).1 = s) && decide (s < (eff b s i).2)) := by
  unfold here eff
  rw [Bool.eq_iff_iff]
  simp only [Bool.and_eq_true, decide_eq_true_eq]
  omega
theorem filter_eff (b : Book) (s : Nat) (L : List Nat) : (L.filter (here b s)).map (eff b s) = (L.map (eff b s)).filter fun x => decide (x.1 = s) && decide (s < x.2) := by
  rw [List.filter_map]
  congr 1
  exact List.filter_congr fun i _ => here_eff b s i
theorem waiting_to_pw (b : Book) (L : List Nat) (s : Nat) : ((waiting b L s).map (to b)).Pairwise (fun x y => x ≤ y) := by
  rw [List.pairwise_map, waiting_def]
  refine (sorted_pw (byEnd_ord b) _).imp fun {x y} h => ?_
  rw [byEnd_iff] at h; omega
theorem waiting_to {b c : Book} {L M : List Nat} {s : Nat} (h : (L.map (eff b s)).Perm (M.map (eff c s))) : (waiting b L s).map (to b) = (waiting c M s).map (to c) := by
  refine pw_unique (r := fun x y => x ≤ y) (fun i j h1 h2 => Nat.le_antisymm h1 h2) ?_ (waiting_to_pw b L s) (waiting_to_pw c M s)
  have e : ∀ (b : Book) (L : List Nat), ((waiting b L s).map (to b)).Perm (((L.map (eff b s)).filter fun x => decide (x.1 = s) && decide (s < x.2)).map (·.2)) := fun b L => by
    rw [← filter_eff, List.map_map, waiting_def]
    exact (sorted_perm _ _).map _
  exact (e b L).trans (((h.filter _).map _).trans (e c M).symm)
theorem waiting_eff (b : Book) (L : List Nat) (s : Nat) : (waiting b L s).map (eff b s) = ((waiting b L s).map (to b)).map fun t => (s, t) := by
  rw [List.map_map]
  refine List.map_congr_left fun i hi => ?_
  rw [waiting_def] at hi
  have := (List.mem_filter.mp ((sorted_perm _ _).mem_iff.mp hi)).2
  rw [here_eff, Bool.and_eq_true] at this
  have h1 := of_decide_eq_true this.1
  show eff b s i = (s, to b i)
  exact Prod.ext h1 rfl
theorem rem_split {b : Book} {m : Nat} {L : List Nat} (hn : L.Nodup) (s : Nat) : (rem b m L s).Perm (now b m L s ++ rem b m L (s + 1)) := by
  have n1 := rem_nodup (b := b) (m := m) hn s
  have n2 := now_nodup (b := b) (m := m) hn s
  have n3 := rem_nodup (b := b) (m := m) hn (s + 1)
  refine (List.perm_ext_iff_of_nodup n1 (List.nodup_append.mpr ⟨n2, n3, fun x hx y hy e => ?_⟩)).mpr fun i => ?_
  · subst e
    exact (mem_rem_succ.mp hy).2 hx
  · rw [List.mem_append, mem_rem_succ]
    constructor
    · intro h
      by_cases hi : i ∈ now b m L s
      · exact .inl hi
      · exact .inr ⟨h, hi⟩
    · rintro (h | h)
      · exact (now_sub h).1
      · exact h.1
theorem rem_eff {b c : Book} {m : Nat} {L M : List Nat} (hL : L.Nodup) (hM : M.Nodup) (h : (L.map fun i => (from_ b i, to b i)).Perm (M.map fun i => (from_ c i, to c i))) :
    ∀ s, ((rem b m L s).map (eff b s)).Perm ((rem c m M s).map (eff c s)) ∧ (pre b m L s).length = (pre c m M s).length
  | 0 => by
    refine ⟨?_, rfl⟩
    have e : ∀ b : Book, eff b 0 = fun i => (from_ b i, to b i) := fun b => by funext i; simp [eff]
    rw [e, e]; exact h
  | s + 1 => by
    obtain ⟨ih, ihl⟩ := rem_eff (m := m) hL hM h s
    have ew := waiting_to ih
    have en : (now b m L s).map (eff b s) = (now c m M s).map (eff c s) := by
      unfold now
      rw [List.map_take, List.map_take, waiting_eff, waiting_eff, ew]
    have p1 := (rem_split (b := b) (m := m) hL s).map (eff b s)
    have p2 := (rem_split (b := c) (m := m) hM s).map (eff c s)
    rw [List.map_append] at p1 p2
    have p3 := (p1.symm.trans ih).trans p2
    rw [en] at p3
    have p4 := (List.perm_append_left_iff _).mp p3
    have p5 := p4.map fun x : Nat × Nat => (max x.1 (s + 1), x.2)
    rw [List.map_map, List.map_map] at p5
    have e : ∀ b : Book, ((fun x : Nat × Nat => (max x.1 (s + 1), x.2)) ∘ eff b s) = eff b (s + 1) := fun b => by
      funext i
      show (max (max (from_ b i) s) (s + 1), to b i) = (max (from_ b i) (s + 1), to b i)
      congr 1
      omega
    rw [e, e] at p5
    refine ⟨p5, ?_⟩
    show (pre b m L s ++ _).length = (pre c m M s ++ _).length
    have el := congrArg List.length en
    rw [List.length_map, List.length_map] at el
    rw [List.length_append, List.length_append, List.length_map, List.length_map, ihl, el]
theorem plan_times {b c : Book} {m : Nat} {L M : List Nat} (hL : L.Nodup) (hM : M.Nodup) (h : (L.map fun i => (from_ b i, to b i)).Perm (M.map fun i => (from_ c i, to c i))) : (plan b m L).length = (plan c m M).length := by
  rw [plan_pre, plan_pre]
  exact (rem_eff hL hM h SLOTS).2
/-- whether all can be served hangs on the times alone -/
theorem can_times {b c : Book} {m : Nat} {L M : List Nat} (hL : L.Nodup) (hM : M.Nodup) (h : (L.map fun i => (from_ b i, to b i)).Perm (M.map fun i => (from_ c i, to c i))) : can b m L = can c m M := by
  unfold can
  have := h.length_eq
  rw [List.length_map, List.length_map] at this
  rw [plan_times hL hM h, this]
end Ap

set_option Elab.async false
set_option linter.all false
namespace Ap
open Kqu5
/-! ### whether all can be served -/
theorem can_congr {b : Book} {m : Nat} {L M : List Nat} (p : L.Perm M) : can b m L = can b m M := by
  unfold can
  rw [plan_congr p, p.length_eq]
theorem can_agree {b c : Book} {m : Nat} {L : List Nat} (h : AgreeT b c L) : can b m L = can c m L := by
  unfold can
  rw [plan_agree h]
theorem now_most (b : Book) (m : Nat) (L : List Nat) (s : Nat) : (now b m L s).length ≤ m := by
  unfold now
  rw [List.length_take]
  exact Nat.min_le_left _ _
theorem pre_most (b : Book) (m : Nat) (L : List Nat) : ∀ s, (pre b m L s).length ≤ s * m
  | 0 => by simp [pre]
  | s + 1 => by
    show (pre b m L s ++ _).length ≤ _
    rw [List.length_append, List.length_map, Nat.succ_mul]
    exact Nat.add_le_add (pre_most b m L s) (now_most b m L s)
theorem plan_most (b : Book) (m : Nat) (L : List Nat) : (plan b m L).length ≤ 40 * m := by
  rw [plan_pre]
  exact pre_most b m L 40
/-! ### first and last of a range -/
theorem find_first {p : Nat → Bool} {n m : Nat} (hm : m < n) (h1 : p m = true) (h2 : ∀ j, j < m → p j = false) : (List.range n).find? p = some m := by
  rw [List.find?_eq_some_iff_getElem]
  refine ⟨h1, m, by rw [List.length_range]; exact hm, by rw [List.getElem_range], fun j hj => ?_⟩
  rw [List.getElem_range, h2 j hj]; rfl
theorem find_no {p : Nat → Bool} {n : Nat} (h : ∀ j, j < n → p j = false) : (List.range n).find? p = none := by
  rw [List.find?_eq_none]
  intro x hx
  rw [h x (List.mem_range.mp hx)]; decide
theorem find_last {p : Nat → Bool} {m : Nat} (h1 : p m = true) : ∀ n, m < n → (∀ j, m < j → j < n → p j = false) → (List.range n).reverse.find? p = some m
  | 0, hm, _ => absurd hm (Nat.not_lt_zero _)
  | n + 1, hm, h => by
    rw [List.range_succ, List.reverse_append, List.reverse_singleton, List.singleton_append, List.find?_cons]
    by_cases e : m = n
    · subst e; rw [h1]
    · rw [h n (by omega) (by omega)]
      exact find_last h1 n (by omega) fun j a c => h j a (by omega)
theorem find_no_rev {p : Nat → Bool} {n : Nat} (h : ∀ j, j < n → p j = false) : (List.range n).reverse.find? p = none := by
  rw [List.find?_eq_none]
  intro x hx
  rw [h x (List.mem_range.mp (List.mem_reverse.mp hx))]; decide
/-- the slots of a time in which it may be -/
def fitOf (g : Nat → Bool) (x y : Nat) : List Nat := ((List.range (y - x)).map (x + ·)).filter g
theorem mem_fit {g : Nat → Bool} {x y s : Nat} : s ∈ fitOf g x y ↔ (x ≤ s ∧ s < y) ∧ g s = true := by
  unfold fitOf
  rw [List.mem_filter, List.mem_map]
  constructor
  · rintro ⟨⟨k, hk, rfl⟩, h⟩
    have := List.mem_range.mp hk
    exact ⟨by omega, h⟩
  · rintro ⟨h1, h2⟩
    exact ⟨⟨s - x, List.mem_range.mpr (by omega), by omega⟩, h2⟩
def mayIn (g : Nat → Bool) (x y s : Nat) : Bool := decide (x ≤ s) && decide (s < y) && g s
theorem may_iff {g : Nat → Bool} {x y s : Nat} : mayIn g x y s = true ↔ s ∈ fitOf g x y := by
  rw [mem_fit]; simp [mayIn]
theorem may_not {g : Nat → Bool} {x y s : Nat} (h : s ∉ fitOf g x y) : mayIn g x y s = false := by
  cases e : mayIn g x y s with
  | false => rfl
  | true => exact absurd (may_iff.mp e) h
theorem fit_min {g : Nat → Bool} {x y : Nat} (hy : y ≤ 40) {m : Int} (h1 : m ∈ up (fitOf g x y)) (h2 : ∀ a, a ∈ up (fitOf g x y) → m ≤ a) : ∃ k : Nat, m = (k : Int) ∧ (List.range 40).find? (mayIn g x y) = some k := by
  obtain ⟨k, hk, rfl⟩ := List.mem_map.mp h1
  refine ⟨k, rfl, find_first (by have := (mem_fit.mp hk).1; omega) (may_iff.mpr hk) fun j hj => may_not fun z => ?_⟩
  have := h2 _ (List.mem_map.mpr ⟨j, z, rfl⟩)
  omega
theorem fit_max {g : Nat → Bool} {x y : Nat} (hy : y ≤ 40) {m : Int} (h1 : m ∈ up (fitOf g x y)) (h2 : ∀ a, a ∈ up (fitOf g x y) → a ≤ m) : ∃ k : Nat, m = (k : Int) ∧ (List.range 40).reverse.find? (mayIn g x y) = some k := by
  obtain ⟨k, hk, rfl⟩ := List.mem_map.mp h1
  refine ⟨k, rfl, find_last (may_iff.mpr hk) 40 (by have := (mem_fit.mp hk).1; omega) fun j hj _ => may_not fun z => ?_⟩
  have := h2 _ (List.mem_map.mpr ⟨j, z, rfl⟩)
  omega
theorem fit_nil {g : Nat → Bool} {x y : Nat} (h : up (fitOf g x y) = []) : (List.range 40).find? (mayIn g x y) = none ∧ (List.range 40).reverse.find? (mayIn g x y) = none := by
  have h : fitOf g x y = [] := List.map_eq_nil_iff.mp h
  have n : ∀ j, j < 40 → mayIn g x y j = false := fun j _ => may_not fun z => by rw [h] at z; cases z
  exact ⟨find_no n, find_no_rev n⟩
/-! ### the first of the greatest -/
theorem find_greatest {α : Type} {l : List α} {f : α → Nat} {i : Nat} {x : α} (hx : l[i]? = some x) (h : ∀ (j : Nat) (y : α), l[j]? = some y → f y ≤ f x ∧ (j < i → f y < f x)) : (l.find? fun s => l.all fun r => decide (f r ≤ f s)) = some x := by
  rw [List.find?_eq_some_iff_getElem]
  obtain ⟨hi, e⟩ := List.getElem?_eq_some_iff.mp hx
  refine ⟨?_, i, hi, e, fun j hj => ?_⟩
  · rw [List.all_eq_true]
    intro y hy
    obtain ⟨j, hj⟩ := List.getElem?_of_mem hy
    exact decide_eq_true (h j y hj).1
  · have hjl : j < l.length := by omega
    have z := (h j l[j] (List.getElem?_eq_getElem hjl)).2 hj
    have : (l.all fun r => decide (f r ≤ f l[j])) = false := by
      rw [List.all_eq_false]
      exact ⟨x, List.mem_of_getElem? hx, by simp; omega⟩
    rw [this]; rfl
/-! ### by what they count -/
def byCnt (b : Book) (i j : Nat) : Bool := decide (counts b j < counts b i) || (counts b i == counts b j && decide (i ≤ j))
theorem byCnt_iff {b : Book} {i j : Nat} : byCnt b i j = true ↔ counts b j < counts b i ∨ (counts b i = counts b j ∧ i ≤ j) := by simp [byCnt]
theorem byCnt_ord (b : Book) : Ord (byCnt b) where
  total := fun i j => by rw [byCnt_iff, byCnt_iff]; omega
  trans := fun i j k => by rw [byCnt_iff, byCnt_iff, byCnt_iff]; omega
  anti := fun i j => by rw [byCnt_iff, byCnt_iff]; omega
/-- one more is taken, if all can be served so -/
def takeIf (b : Book) (m : Nat) (l : List Nat) (i : Nat) : List Nat := if can b m (l ++ [i]) then l ++ [i] else l
def takenOf (b : Book) (m : Nat) (L : List Nat) : List Nat := L.foldl (takeIf b m) []
theorem takenOf_snoc (b : Book) (m : Nat) (L : List Nat) (i : Nat) : takenOf b m (L ++ [i]) = takeIf b m (takenOf b m L) i := by
  unfold takenOf
  rw [List.foldl_append]; rfl
theorem takeIf_sub {b : Book} {m : Nat} {l : List Nat} {i x : Nat} (h : x ∈ takeIf b m l i) : x ∈ l ∨ x = i := by
  unfold takeIf at h
  split at h
  · rcases List.mem_append.mp h with h | h
    · exact .inl h
    · exact .inr (List.mem_singleton.mp h)
  · exact .inl h
theorem takenOf_sub {b : Book} {m : Nat} {x : Nat} {L : List Nat} (h : x ∈ takenOf b m L) : x ∈ L := by
  have : ∀ (L l : List Nat), x ∈ L.foldl (takeIf b m) l → x ∈ l ∨ x ∈ L := fun L => by
    induction L with
    | nil => exact fun l h => .inl h
    | cons i L ih =>
      intro l h
      rcases ih _ h with h | h
      · rcases takeIf_sub h with h | h
        · exact .inl h
        · exact .inr (by rw [h]; exact .head _)
      · exact .inr (.tail _ h)
  rcases this L [] h with h | h
  · cases h
  · exact h
theorem worthy_eq (b : Book) : worthy b = takenOf b b.windows (sorted (byCnt b) (ids b)) := rfl
/-! ### sums -/
theorem sum_up : ∀ L : List Nat, (up L).sum = ((Kqu5.sum L : Nat) : Int)
  | [] => rfl
  | a :: L => by
    show (a : Int) + (up L).sum = ((a + Kqu5.sum L : Nat) : Int)
    rw [sum_up L]; omega
/-! ### a set of persons that is told -/
theorem okSet_nodup : ∀ l : List Nat, ((List.range l.length).all fun i => !((l.drop (i + 1)).contains (l.getD i 0))) = true ↔ l.Nodup
  | [] => by simp
  | a :: l => by
    rw [List.all_eq_true]
    have ih := okSet_nodup l
    rw [List.all_eq_true] at ih
    constructor
    · intro h
      refine List.nodup_cons.mpr ⟨fun z => ?_, ih.mp fun i hi => ?_⟩
      · have := h 0 (List.mem_range.mpr (by rw [List.length_cons]; omega))
        simp at this
        exact this z
      · have hi := List.mem_range.mp hi
        have := h (i + 1) (List.mem_range.mpr (by rw [List.length_cons]; omega))
        simpa using this
    · intro h i hi
      have hc := List.nodup_cons.mp h
      have hi := List.mem_range.mp hi
      cases i with
      | zero =>
        simp
        exact hc.1
      | succ i =>
        have := ih.mpr hc.2 i (List.mem_range.mpr (by rw [List.length_cons] at hi; omega))
        simpa using this
theorem okSet_iff {b : Book} {L : List Nat} : okSet b L = true ↔ (∀ i ∈ L, i ∈ ids b) ∧ L.Nodup := by
  unfold okSet
  rw [Bool.and_eq_true, okSet_nodup, List.all_eq_true]
  simp
end Ap

set_option Elab.async false
set_option linter.all false
set_option maxRecDepth 100000
set_option maxHeartbeats 4000000
namespace Ap
open PySem PySem.Spec PyProof.Rows L2
open Kqu5 (Person Book)
/-! ### the text by places -/
def top (i : Nat) : Stmt := PySem.Challenge.pw_appointments_s01_answers.main.body.getD i (.Pass ⟨0, 0, 0, 0⟩)
abbrev sPersonInit : Stmt := inClass (top 2) 0
abbrev sCanCome : Stmt := top 3
abbrev sNextServed : Stmt := top 4
abbrev sPlanOf : Stmt := top 5
/-! ### a person -/
def pf (p : Person) : List (Str × V) := putF "counts" (.int p.counts) (putF "end" (.int p.to) (putF "first" (.int p.from_) []))
theorem pf_first (p : Person) : (pf p).lookup ("first" : Str) = some (.int p.from_) := by
  unfold pf
  rw [lookup_putF, if_neg (by decide +kernel), lookup_putF, if_neg (by decide +kernel), lookup_putF, if_pos rfl]
theorem pf_end (p : Person) : (pf p).lookup ("end" : Str) = some (.int p.to) := by
  unfold pf
  rw [lookup_putF, if_neg (by decide +kernel), lookup_putF, if_pos rfl]
theorem pf_counts (p : Person) : (pf p).lookup ("counts" : Str) = some (.int p.counts) := by
  unfold pf
  rw [lookup_putF, if_pos rfl]
/-- a Person stands at a -/
def PersonAt (C : Addr) (H : Hp) (a : Addr) (p : Person) : Prop := ∃ dx, H a = some (.ins C dx (pf p))
/-- persons by their numbers stand in the dict at d -/
structure PsAt (C : Addr) (H : Hp) (d : Addr) (l : List (Nat × Addr × Person)) : Prop where
  dict : H d = some (.dK (l.map fun p => (Sum.inl (p.1 : Int), V.ref p.2.1)))
  nd : (l.map (·.1)).Nodup
  at_ : ∀ p ∈ l, PersonAt C H p.2.1 p.2.2
theorem PersonAt.gr {ts : List TabRec} {C : Addr} {H H' : Hp} {a : Addr} {p : Person} (g : Gr ts H H') (h : PersonAt C H a p) : PersonAt C H' a p := let ⟨dx, e⟩ := h; ⟨dx, g.keep _ _ e rfl⟩
theorem PsAt.gr {ts : List TabRec} {C : Addr} {H H' : Hp} {d : Addr} {l : List (Nat × Addr × Person)} (g : Gr ts H H') (h : PsAt C H d l) : PsAt C H' d l :=
  ⟨g.keep _ _ h.dict rfl, h.nd, fun p hp => (h.at_ p hp).gr g⟩
theorem PsAt.rd {C : Addr} {H : Hp} {d : Addr} {l : List (Nat × Addr × Person)} (h : PsAt C H d l) : Rd H d (.dK (l.map fun p => (Sum.inl (p.1 : Int), V.ref p.2.1))) := .inl h.dict
/-- what is known of the class of persons -/
structure PC (K : PySem.W.Frag) (C : Addr) : Prop where
  cl : Cls K C
  nF : NoAttr K C "first"
  nE : NoAttr K C "end"
  nC : NoAttr K C "counts"
/-- a def that can be called by its name -/
structure Cal (P : Program) (w : World) (K : PySem.W.Frag) (mg : Str → Option Value) (base : Heap) (x : Str) (f : Addr) (fd : FuncData) (ps : List Str) (k : Nat) (sp : Sp) : Prop where
  fn : FnOk P w K mg base CX0 k f fd ps sp
  m : mg x = some (.ref f)
  kp : PySem.W.keepIn K (.ref f) = true
  b : Binds K fd ps []
section
variable {X : Cx} {x : Str} {f : Addr} {fd : FuncData} {ps : List Str} {k : Nat} {sp : Sp} {p pos : Pos} {e : Expr} {es : List Expr} {t : TA}
theorem pe_cal (C : Cal X.prog X.w X.K X.mg X.base x f fd ps k sp) (hr : Room k X.A) (hg : Gl X x) (ha : PA X (e :: es) t) (hdb : (x == ("__debug__" : Str)) = false := by decide)
    (he : starEach (e :: es) X.env = (false, eval e X.env) :: starEach es X.env := by rfl) (hpl : (backTo pos (starEach es X.env)).any (·.1) = false := by rfl) : PE X (.Call (.Name x p) (e :: es) [] pos) (tCall sp [] E0 t) :=
  pe_call C.fn hr hg C.m C.kp C.b .nil pass0 ha hdb he hpl
end
/-! ### promises -/
def spPInit (C : Addr) : Sp := fun vs H Q _ => ∃ (a dx : Addr) (p : Person), vs = [.ref a, .int p.from_, .int p.to, .int p.counts] ∧ H a = some (.ins C dx []) ∧ ∀ H' : Hp, PersonAt C H' a p → (∀ b o, H b = some o → b ≠ a → H' b = some o) → Q .non H'
def spCanCome (C : Addr) : Sp := fun vs H Q _ => ∃ (a : Addr) (p : Person) (s : Nat), vs = [.ref a, .int s] ∧ PersonAt C H a p ∧ Q (.bl (decide (p.from_ ≤ s) && decide (s < p.to))) H
section
variable {P : Program} {w : World} {K : PySem.W.Frag} {mg : Str → Option Value} {base : Heap}
theorem sc_pinit : FnScope ["self", "first", "end", "counts"] ["self", "first", "end", "counts"] (defScope sPersonInit) := ⟨rfl, rfl, rfl, by decide +kernel, rfl, by decide +kernel, by decide +kernel⟩
theorem ok_pinit {f C : Addr} {fd : FuncData} (F : Fun K "__init__" "Person.__init__" sPersonInit f fd) (T : PC K C) : FnOk P w K mg base CX0 1 f fd ["self", "first", "end", "counts"] (spPInit C) := by
  refine F.ok sc_pinit (fun vs H Q E h => ?_) (fun cdv A outer s H vs Q E hr h => ?_)
  · obtain ⟨a, dx, p, rfl, _⟩ := h
    rfl
  · obtain ⟨a, dx, p, rfl, hp, k⟩ := h
    refine ⟨_, pss_cons (ps_fld (pv 0) (pv 1) rfl) (pss_cons (ps_fld (pv 0) (pv 2) rfl) (pss_one (ps_fld (pv 0) (pv 3) rfl))), ?_⟩
    refine ⟨_, rfl, _, rfl, a, C, dx, [], rfl, hp, T.cl, T.nF, (by show 0 < 1000; decide), ?_⟩
    refine ⟨_, rfl, _, rfl, a, C, dx, _, rfl, upd_same, T.cl, T.nE, (by show 1 < 1000; decide), ?_⟩
    refine ⟨_, rfl, _, rfl, a, C, dx, _, rfl, upd_same, T.cl, T.nC, (by show 2 < 1000; decide), ?_⟩
    exact k _ ⟨dx, upd_same⟩ fun b o e hb => by rw [upd_ne hb, upd_ne hb, upd_ne hb]; exact e
theorem sc_cancome : FnScope ["person", "slot"] ["person", "slot"] (defScope sCanCome) := ⟨rfl, rfl, rfl, by decide +kernel, rfl, by decide +kernel, by decide +kernel⟩
theorem ok_cancome {f C : Addr} {fd : FuncData} (F : Fun K "can_come" "can_come" sCanCome f fd) (T : PC K C) : FnOk P w K mg base CX0 1 f fd ["person", "slot"] (spCanCome C) := by
  refine F.ok sc_cancome (fun vs H Q E h => ?_) (fun cdv A outer s H vs Q E hr h => ?_)
  · obtain ⟨a, p, s, rfl, _⟩ := h
    rfl
  · obtain ⟨a, p, s, rfl, ⟨dx, ha⟩, k⟩ := h
    refine ⟨_, pss_one (ps_ret (pe_and (pe_cmpR op_le (pe_fld (pv 0) rfl) (pv 1) (nomark _)) (pe_one (pe_cmpR op_lt (pv 1) (pe_fld (pv 0) rfl) (nomark _))))), ?_⟩
    refine ⟨_, rfl, a, C, dx, _, _, rfl, ha, T.cl, T.nF, pf_first p, _, rfl, _, _, rfl, rfl, _, rfl, ?_⟩
    have e1 : decide ((p.from_ : Int) ≤ (s : Int)) = decide (p.from_ ≤ s) := by simp
    have e2 : decide ((s : Int) < (p.to : Int)) = decide (s < p.to) := by simp
    refine ite2 (fun z => ?_) fun z => ?_
    · rw [e1] at z
      refine ⟨_, rfl, _, rfl, a, C, dx, _, _, rfl, ha, T.cl, T.nE, pf_end p, _, _, rfl, rfl, ?_⟩
      rw [z, Bool.true_and] at k
      show Q (.bl (decide ((s : Int) < (p.to : Int)))) H
      rw [e2]
      exact k
    · rw [e1] at z
      have z2 : decide (p.from_ ≤ s) = false := by cases h : decide (p.from_ ≤ s) with | true => exact absurd h z | false => rfl
      rw [z2, Bool.false_and] at k
      exact k
end
end Ap

set_option Elab.async false
set_option linter.all false
set_option maxRecDepth 100000
set_option maxHeartbeats 4000000
namespace Ap
open PySem PySem.Spec PyProof.Rows L2
open PySem.W (CodeHd)
open Kqu5 (Person Book)
/-- a def whose code object is known: a lambda is laid there -/
structure FunC (K : PySem.W.Frag) (x qual : Str) (st : Stmt) (f : Addr) (fd : FuncData) (c : Addr) : Prop where
  ex : ∃ (oc : Value) (od : Option Addr) (kV doc pm : Value) (an : Option Addr) (ct : Value) (osl : Array (Option Value)),
    fd = PySem.W.fnOf x qual (defArgs st) (defBody st) (defScope st) .none kV doc pm an (.ref c) ct ∧ K.lookup f = some ⟨oc, od, .func fd, osl⟩ ∧ PySem.W.codeIn K (.ref c) qual = true
  kp : PySem.W.keepIn K (.ref f) = true
section
variable {P : Program} {w : World} {K : PySem.W.Frag} {mg : Str → Option Value} {base : Heap}
theorem FunC.ok {x qual : Str} {st : Stmt} {f c : Addr} {fd : FuncData} {N ps : List Str} {k : Nat} {sp : Sp} (F : FunC K x qual st f fd c) (S : FnScope N ps (defScope st)) (len : ∀ vs H Q E, sp vs H Q E → vs.length = ps.length)
    (hbody : ∀ (A : Around) (outer : List Env) (s : Shared) (H : Hp) (vs : List V) (Q : VK) (E : XK), Room k (A.deeper (envOfC qual (defScope st) s.heap.objs.size f (.ref c))) → sp vs H Q E →
      ∃ t, PSs (cxOf CX0 P w K mg base N qual (defScope st) f (.ref c) A outer s H E).nox (defBody st) t ∧ t { nx := fun _ H' => Q .non H', rt := Q } (start N vs) H) : FnOk P w K mg base CX0 (k + 1) f fd ps sp := by
  obtain ⟨oc, od, kV, doc, pm, an, ct, osl, rfl, lk, hcd⟩ := F.ex
  refine fn_of lk hcd S len fun A outer s H vs Q E hr hsp => ?_
  obtain ⟨t, h, q⟩ := hbody A outer s H vs Q E hr hsp
  exact ⟨t, h.nox, q⟩
end
/-! ### dicts by numbers -/
abbrev keys (l : List (Nat × Addr × Person)) : List Nat := l.map (·.1)
abbrev svK (sv : List (Nat × Nat)) : List (Key × V) := sv.map fun x => (Sum.inl (x.1 : Int), V.int x.2)
abbrev psK (l : List (Nat × Addr × Person)) : List (Key × V) := l.map fun p => (Sum.inl (p.1 : Int), V.ref p.2.1)
theorem inl_ne {i j : Nat} (h : ¬ i = j) : ¬ (Sum.inl (i : Int) : Key) = Sum.inl (j : Int) := fun q => h (Int.ofNat_inj.mp (Sum.inl.inj q))
theorem val_map {α : Type} (g : α → Nat) (v : α → V) : ∀ (l : List α) (i : Nat), valV (l.map fun x => ((Sum.inl ((g x : Nat) : Int) : Key), v x)) (Sum.inl (i : Int)) = (l.find? fun x => decide (g x = i)).map v
  | [], _ => rfl
  | x :: r, i => by
    rw [List.map_cons, List.find?_cons]
    by_cases h : g x = i
    · rw [valV_pos (by show (Sum.inl ((g x : Nat) : Int) : Key) = _; rw [h]), decide_eq_true h]; rfl
    · rw [valV_neg (inl_ne h), decide_eq_false h, val_map g v r i]
theorem find_nd {α : Type} (g : α → Nat) : ∀ {l : List α} {x : α}, (l.map g).Nodup → x ∈ l → (l.find? fun y => decide (g y = g x)) = some x
  | y :: r, x, hn, hx => by
    rw [List.find?_cons]
    rw [List.map_cons] at hn
    have hc := List.nodup_cons.mp hn
    rcases List.mem_cons.mp hx with rfl | hx
    · rw [decide_eq_true rfl]
    · have : ¬ g y = g x := fun e => hc.1 (by rw [e]; exact List.mem_map.mpr ⟨x, hx, rfl⟩)
      rw [decide_eq_false this, find_nd g hc.2 hx]
theorem ps_val {l : List (Nat × Addr × Person)} (hn : (keys l).Nodup) {p : Nat × Addr × Person} (hp : p ∈ l) : valV (psK l) (Sum.inl (p.1 : Int)) = some (V.ref p.2.1) := by
  have e := val_map (fun q : Nat × Addr × Person => q.1) (fun q => V.ref q.2.1) l p.1
  rw [find_nd (fun q : Nat × Addr × Person => q.1) hn hp] at e
  exact e
theorem sv_isSome (sv : List (Nat × Nat)) (i : Nat) : (valV (svK sv) (Sum.inl (i : Int))).isSome = decide (i ∈ sv.map (·.1)) := by
  rw [val_map (fun q : Nat × Nat => q.1) (fun q => V.int q.2) sv i, Option.isSome_map]
  rw [Bool.eq_iff_iff, List.find?_isSome, decide_eq_true_eq, List.mem_map]
  exact ⟨fun ⟨x, h1, h2⟩ => ⟨x, h1, of_decide_eq_true h2⟩, fun ⟨x, h1, h2⟩ => ⟨x, h1, decide_eq_true h2⟩⟩
theorem PsAt.kvs {C : Addr} {H : Hp} {d : Addr} {l : List (Nat × Addr × Person)} (h : PsAt C H d l) : Rd H d (.dK ((l.map fun p => ((p.1 : Int), V.ref p.2.1)).map fun p => (Sum.inl p.1, p.2))) := by
  rw [List.map_map]; exact h.rd
/-- sorted(persons) -/
theorem keys_sorted {ns : List Int} {l : List (Nat × Addr × Person)} (p : ns.Perm ((l.map fun p => ((p.1 : Int), V.ref p.2.1)).map (·.1))) (h : ns.Pairwise (· ≤ ·)) : ns = up (Kqu5.rising (keys l)) := by
  refine rising_up ?_ h
  rw [List.map_map] at p
  rw [up, List.map_map]
  exact p
theorem mem_rising {L : List Nat} {i : Nat} : i ∈ Kqu5.rising L ↔ i ∈ L := (sorted_perm _ _).mem_iff
/-- the book that a text of persons stands for, as far as times go -/
def Ag (b : Book) (l : List (Nat × Addr × Person)) : Prop := ∀ p ∈ l, Kqu5.from_ b p.1 = p.2.2.from_ ∧ Kqu5.to b p.1 = p.2.2.to
theorem cut_take (xs : List V) (m : Nat) : cutV xs none (some (m : Int)) = xs.take m := by
  unfold cutV
  rw [HT.sIx_none, HT.sIx_nat, List.drop_zero, Nat.sub_zero]
  by_cases h : m ≤ xs.length
  · rw [Nat.min_eq_left h]
  · rw [Nat.min_eq_right (by omega), List.take_of_length_le (Nat.le_refl _), List.take_of_length_le (by omega)]
theorem lex2 (a b c d : Int) : HT.lexLt [a, b] [c, d] = false ↔ c < a ∨ (c = a ∧ d ≤ b) := by
  rw [HT.lexLt_cons, HT.lexLt_cons, HT.lexLt_nil_nil]
  by_cases h : a = c
  · rw [if_pos h]
    by_cases h2 : b = d
    · rw [if_pos h2]; simp; omega
    · rw [if_neg h2]; simp; omega
  · rw [if_neg h]; simp; omega
/-- what sorted(.., key=(end, number)) gives -/
theorem byEnd_up {b : Book} {ns : List Int} {W : List Nat} (p : ns.Perm (up W)) (h : ns.Pairwise (fun x y => HT.lexLt [(Kqu5.to b y.toNat : Int), y] [(Kqu5.to b x.toNat : Int), x] = false)) : ns = up (Kqu5.sorted (byEnd b) W) := by
  obtain ⟨M, rfl, q⟩ := perm_up p
  have hw : M.Pairwise (fun x y => byEnd b x y = true) := by
    rw [up, List.pairwise_map] at h
    refine h.imp fun {x y} z => ?_
    rw [lex2] at z
    rw [byEnd_iff]
    have e1 : ((x : Int)).toNat = x := rfl
    have e2 : ((y : Int)).toNat = y := rfl
    rw [e1, e2] at z
    omega
  rw [show Kqu5.sorted (byEnd b) W = M from sorted_eq (byEnd_ord b) q hw]
theorem filter_up (W : List Nat) (f : Int → Bool) (g : Nat → Bool) (h : ∀ i ∈ W, f (i : Int) = g i) : (up W).filter f = up (W.filter g) := by
  rw [up, List.filter_map]
  exact congrArg up (List.filter_congr h)
/-! ### a dict is walked: locked meanwhile -/
theorem unlock_same {H H' : Hp} {d : Addr} {u : HO} {od : Obj} (hd : H d = some u) (S : Same (upd H d (.frz od u)) H') : Same H (upd H' d u) := fun b o e => by
  by_cases h : b = d
  · subst h
    rw [hd] at e; cases e
    exact upd_same
  · rw [upd_ne h]
    exact S b o (by rw [upd_ne h]; exact e)
theorem lock_keep {H : Hp} {d b : Addr} {u o : HO} {od : Obj} (hd : H d = some u) (e : H b = some o) (h : u ≠ o) : upd H d (.frz od u) b = some o := by
  rw [upd_ne fun z => by rw [z, hd] at e; cases e; exact h rfl]; exact e
theorem lock_rd {H : Hp} {d a : Addr} {u v : HO} {od : Obj} (hd : H d = some u) (mu : ∀ o v, u ≠ .frz o v) (e : Rd H a v) : Rd (upd H d (.frz od u)) a v := by
  by_cases h : a = d
  · subst h
    rcases e with e | ⟨o, e⟩
    · rw [hd] at e; cases e
      exact .inr ⟨od, upd_same⟩
    · rw [hd] at e; cases e
      exact absurd rfl (mu _ _)
  · exact e.imp (fun e => by rw [upd_ne h]; exact e) fun ⟨o, e⟩ => ⟨o, by rw [upd_ne h]; exact e⟩
theorem lc_kfm {d D : Addr} {od : Obj} {l : List (Nat × Addr × Person)} {f : Nat → Bool} {g : Nat → Int} {n : Nat} {tt : TT} {te : TE} {vs : List Nat} {σ : L2.St} {H1 : Hp} {Qd : Hp → Prop} (hD : H1 D = none) (ha : H1 d = some (.frz od (.dK (psK l)))) (hl : l.length ≤ 1000)
    (hw : ∀ j : Nat, wipe ((wipe σ vs).set n (some (.int j))) vs = wipe σ vs)
    (ht : ∀ q ∈ l, ∀ H', Same H1 H' → ∀ R : Bool → Hp → Prop, R (f q.1) H' → tt ((wipe σ vs).set n (some (.int (q.1 : Nat)))) H' R)
    (he : ∀ q ∈ l, f q.1 = true → ∀ H', Same H1 H' → ∀ R : VK, R (.int (g q.1)) H' → te ((wipe σ vs).set n (some (.int (q.1 : Nat)))) H' R)
    (hd : Qd (upd H1 D (.lst ((((keys l).filter f).map g).map V.int)))) :
    ∃ W : Nat → Nat → Hp → Prop, (∃ m, W 0 m (upd H1 D (.lst []))) ∧ ∀ i m H, W i m H →
      ((Itk d od (psK l)).stop i H ∧ Qd H) ∨ ((Itk d od (psK l)).go i H ∧ ∃ Nx : Hp → Prop, (∀ H', Nx H' → ∃ m', m' < m ∧ W (i + 1) m' H') ∧ ∀ x H', (Itk d od (psK l)).yld i H x H' → gName n x (wipe σ vs) H' fun σ2 H2 => wipe σ2 vs = wipe σ vs ∧ tt σ2 H2 fun b H3 =>
        if b = true then te σ2 H3 fun y H4 => ∃ acc, H4 D = some (.lst acc) ∧ acc.length < sizeLine ∧ Nx (upd H4 D (.lst (acc ++ [y]))) else Nx H3) := by
  have nDd : d ≠ D := ne_of_none ha hD
  refine ⟨fun i m H => m = l.length - i ∧ i ≤ l.length ∧ H = upd H1 D (.lst (((((keys l).take i).filter f).map g).map V.int)), ⟨l.length, by simp, Nat.zero_le _, rfl⟩, ?_⟩
  rintro i m H ⟨rfl, hi, rfl⟩
  have hfz : upd H1 D (.lst (((((keys l).take i).filter f).map g).map V.int)) d = some (.frz od (.dK (psK l))) := by rw [upd_ne nDd]; exact ha
  by_cases hlt : i < l.length
  · refine .inr ⟨⟨hfz, by rw [List.length_map]; exact hlt⟩, fun H' => H' = upd H1 D (.lst (((((keys l).take (i + 1)).filter f).map g).map V.int)), fun H' e => ⟨l.length - (i + 1), by omega, rfl, hlt, e⟩, fun x H' y => ?_⟩
    obtain ⟨rfl, k, v, hk, rfl⟩ := y
    rw [List.getElem?_map] at hk
    obtain ⟨q, hq, e⟩ := Option.map_eq_some_iff.mp hk
    cases e
    have hqm : q ∈ l := List.mem_of_getElem? hq
    have S := (Same.refl H1).upd_new (o := .lst (((((keys l).take i).filter f).map g).map V.int)) hD
    have hkq : (keys l)[i]? = some q.1 := by rw [List.getElem?_map, hq]; rfl
    have hno : (((keys l).take (i + 1)).filter f) = ((keys l).take i).filter f ++ (if f q.1 = true then [q.1] else []) := by
      rw [List.take_add_one, hkq, List.filter_append]
      show _ ++ List.filter f [q.1] = _
      rw [List.filter_cons, List.filter_nil]
    refine ⟨hw q.1, ht q hqm _ S _ ?_⟩
    cases hf : f q.1 with
    | false =>
      refine iteF ?_
      show _ = _
      rw [hno, hf]; simp
    | true =>
      refine iteT (he q hqm hf _ S _ ⟨_, upd_same, ?_, ?_⟩)
      · rw [List.length_map, List.length_map]
        refine Nat.lt_of_le_of_lt (List.length_filter_le _ _) ?_
        rw [List.length_take]
        exact Nat.lt_of_le_of_lt (Nat.min_le_left _ _) (Nat.lt_trans hlt (Nat.lt_of_le_of_lt hl (by decide)))
      · show _ = _
        rw [upd_upd, hno, hf, if_pos rfl, List.map_append, List.map_append]
        rfl
  · have e : i = l.length := by omega
    subst e
    refine .inl ⟨⟨hfz, by rw [List.length_map]; exact Nat.le_refl _⟩, ?_⟩
    rw [show (keys l).take l.length = keys l from List.take_of_length_le (by rw [List.length_map]; exact Nat.le_refl _)]
    exact hd
end Ap

set_option Elab.async false
set_option linter.all false
set_option maxRecDepth 100000
set_option maxHeartbeats 8000000
namespace Ap
open PySem PySem.Spec PyProof.Rows L2
open PySem.W (CodeHd)
open Kqu5 (Person Book)
/-- whom next_served gives -/
def nextOf (b : Book) (l : List (Nat × Addr × Person)) (sv : List (Nat × Nat)) (s m : Nat) : List Nat := (Kqu5.waiting b ((keys l).filter fun i => decide (i ∉ sv.map (·.1))) s).take m
def spNext (C : Addr) (ts : List TabRec) : Sp := fun vs H Q _ => ∃ (d sd : Addr) (l : List (Nat × Addr × Person)) (sv : List (Nat × Nat)) (b : Book) (s m : Nat), vs = [.ref d, .ref sd, .int s, .int m] ∧ PsAt C H d l ∧ l.length < 64 ∧ Rd H sd (.dK (svK sv)) ∧ Tabs ts H ∧ Ag b l ∧
  ∀ (H' : Hp) (p : Addr), Gr ts H H' → H p = none → H' p = some (.lst ((up (nextOf b l sv s m)).map V.int)) → Q (.ref p) H'
/-- the lambda of next_served -/
abbrev lamNext (Pt : Addr) : TabRec := ⟨Pt, ⟨13, 33, 13, 77⟩, (("next_served" : Str) ++ ".<locals>.") ++ "<lambda>"⟩
theorem rising_perm (L : List Nat) : (Kqu5.rising L).Perm L := sorted_perm _ _
theorem take_succ' {α : Type} {l : List α} {i : Nat} {x : α} (h : l[i]? = some x) : l.take (i + 1) = l.take i ++ [x] := by rw [List.take_add_one, h]; rfl
theorem Rd.same {H H' : Hp} {a : Addr} {u : HO} (s : Same H H') (h : Rd H a u) : Rd H' a u := h.imp (fun e => s _ _ e) fun ⟨o, e⟩ => ⟨o, s _ _ e⟩
theorem Rd.gr {ts : List TabRec} {H H' : Hp} {a : Addr} {u : HO} (s : Gr ts H H') (hu : isT u = false) (h : Rd H a u) : Rd H' a u := h.imp (fun e => s.keep _ _ e hu) fun ⟨o, e⟩ => ⟨o, s.keep _ _ e rfl⟩
theorem up_at {L : List Nat} {i : Nat} {x : V} (h : ((up L).map V.int)[i]? = some x) : ∃ j, L[i]? = some j ∧ x = V.int (j : Int) := by
  rw [List.getElem?_map, up, List.getElem?_map] at h
  cases e : L[i]? with
  | none => rw [e] at h; cases h
  | some j => rw [e] at h; exact ⟨j, rfl, (Option.some.inj h).symm⟩
theorem up_snoc (L : List Nat) (j : Nat) : (up (L ++ [j])).map V.int = (up L).map V.int ++ [V.int (j : Int)] := by
  rw [up, List.map_append, List.map_append]; rfl
theorem lam_free {X : Cx} {sc scope : Scope} (h : ∀ y ∈ scope.names, y.2 = .free → sc.names.lookup y.1 = some .cell ∨ sc.names.lookup y.1 = some .free) (e : X.env.scope = sc := by rfl) :
    ∀ y ∈ scope.names, y.2 = .free → X.env.kindOf y.1 = some .cell ∨ X.env.kindOf y.1 = some .free := by subst e; exact h
theorem lam_fx {X : Cx} {N : List Str} {sc scope : Scope} {fx : List (Nat × Str)} (h : ∀ p ∈ fx, N[p.1]? = some p.2 ∧ (sc.names.lookup p.2 = some .cell ∨ sc.names.lookup p.2 = some .free) ∧ scope.names.lookup p.2 = some .free) (e : X.env.scope = sc := by rfl) (eN : X.N = N := by rfl) :
    ∀ p ∈ fx, X.N[p.1]? = some p.2 ∧ (X.env.kindOf p.2 = some .cell ∨ X.env.kindOf p.2 = some .free) ∧ scope.names.lookup p.2 = some .free := by subst e eN; exact h
theorem pe_endKey {X : Cx} {x y : Str} {p1 p2 p3 p4 p5 p6 : Pos} {kk} (h0 : X.N[0]? = some x) (h1 : X.N[1]? = some y) (v0 : Vis X.env.scope x) (v1 : Vis X.env.scope y) (hu : X.A.units + 1 < cLine)
    (d1 : (x == ("__debug__" : Str)) = false := by decide) (d2 : (x == ("__classdict__" : Str)) = false := by decide) (d3 : (y == ("__debug__" : Str)) = false := by decide) (d4 : (y == ("__classdict__" : Str)) = false := by decide) :
    PE X (.Tuple [.Attribute (.Subscript (.Name y p1) (.Name x p2) p3) "end" p4, .Name x p5] kk p6) (tTup (tCons (tFld X.K (tDGet (tVar 1) (tVar 0)) "end") (tCons (tVar 0) tNil))) :=
  pe_tup (pa_cons (pe_fld (pe_dget hu (pe_var h1 v1 d3 d4) (pe_var h0 v0 d1 d2) (fun _ _ => rfl)) rfl) (pa_cons (pe_var h0 v0 d1 d2) pa_nil))
section
variable {P : Program} {w : World} {K : PySem.W.Frag} {mg : Str → Option Value} {base : Heap}
abbrev nNext : List Str := ["persons", "served", "slot", "windows", "waiting", "by_end", "number"]
theorem sc_next : FnScope nNext ["persons", "served", "slot", "windows"] (defScope sNextServed) := ⟨rfl, rfl, rfl, by decide +kernel, rfl, by decide +kernel, by decide +kernel⟩
theorem ok_next {f C c Pt fC : Addr} {fd fdC : FuncData} {ts : List TabRec} (F : FunC K "next_served" "next_served" sNextServed f fd c) (T : PC K C) (hd : CodeHd base c Pt) (hB : BltAt mg base) (ht : lamNext Pt ∈ ts) (hs : mg "sorted" = none)
    (CC : Cal P w K mg base "can_come" fC fdC ["person", "slot"] 1 (spCanCome C)) : FnOk P w K mg base CX0 5 f fd ["persons", "served", "slot", "windows"] (spNext C ts) := by
  refine F.ok sc_next (fun vs H Q E h => ?_) (fun A outer s H vs Q E hr h => ?_)
  · obtain ⟨d, sd, l, sv, b, s, m, rfl, _⟩ := h
    rfl
  · obtain ⟨d, sd, l, sv, b, sl, m, rfl, hP, hl, hsv, hT, hA, k⟩ := h
    have hu := hu_of hr
    have hr1 : Room 1 _ := hr.mono (by decide)
    refine ⟨_, pss_cons (ps_lock (ps_setLc (i := 4) (own := [("number", 6)]) rfl sc_next.nd rfl rfl (sw_true rfl rfl rfl (by decide +kernel))
        (pi_keys (pv 0)) (blkOk_by (by show blkC nNext (defScope sNextServed) _ _ = true; decide +kernel))
        (fun _ _ _ _ _ => pg_name (i := 6) sc_next.nd rfl (Or.inl rfl))
        (fun _ _ _ _ _ => pts_one (PW.pt (pw_and (pt_cmp (pc_dnotin hu (pv 6) (pv 1))) (pw_and1 (pt_val (pe_cal CC hr1 rfl (pa_cons (pe_dget hu (pv 0) (pv 6) (fun _ _ => rfl)) (pa_cons (pv 2) pa_nil))))))))
        (fun _ _ _ _ _ => pv 6)))
      (pss_cons (ps_set (i := 5) sc_next.nd rfl (Or.inl rfl) (pe_sortedLam (tb := tTup (tCons (tFld K (tDGet (tVar 1) (tVar 0)) "end") (tCons (tVar 0) tNil))) (k := 0) (x := "number") (fx := [(0, "persons")]) (t := lamNext Pt) (ts := ts) (hr.mono (by decide)) rfl hs (pv 4) ⟨rfl, hd, hB, rfl⟩ ht rfl (lam_free (sc := defScope sNextServed) (by decide +kernel)) rfl rfl rfl (by decide +kernel) rfl (fun _ _ _ _ _ => rfl) (by decide +kernel) (lam_fx (N := nNext) (sc := defScope sNextServed) (by decide +kernel))
        (fun f' c' cl A' outer' s' H' hr' => pe_endKey (x := "number") (y := "persons") rfl rfl (Or.inl rfl) (Or.inr (Or.inr rfl)) (hu_of (hr'.deeper _)))))
      (pss_one (ps_ret (pe_slice sl_list (pv 5) po_none (po_some (pv 3)))))), ?_⟩
    -- waiting
    refine ⟨d, _, hP.dict, trivial, fun od => ?_⟩
    refine ⟨_, rfl, d, od, rfl, .inl ⟨psK l, upd_same, fun D hD => ?_⟩⟩
    have nDd : D ≠ d := fun z => by rw [z, upd_same] at hD; cases hD
    have nD : H D = none := by rw [upd_ne nDd] at hD; exact hD
    refine lc_kfm (l := l) (f := fun j => decide (j ∉ sv.map (·.1)) && here b sl j) (g := fun i => (i : Int)) (n := 6) hD upd_same (by omega) (fun j => rfl) (fun q hq H' S R hR => ?_) (fun q hq _ H' S R hR => ⟨_, rfl, hR⟩) ?_
    · have hsv' : Rd H' sd (.dK (svK sv)) := Rd.same S (lock_rd hP.dict (by intro _ _ z; cases z) hsv)
      have hdd : Rd H' d (.dK (psK l)) := Rd.same S (lock_rd hP.dict (by intro _ _ z; cases z) hP.rd)
      refine ⟨_, rfl, _, rfl, sd, _, rfl, .inl ⟨svK sv, Sum.inl (q.1 : Int), hsv', rfl, rfl⟩, _, rfl, ?_⟩
      rw [sv_isSome]
      by_cases hin : q.1 ∈ sv.map (·.1)
      · rw [decide_eq_true hin]
        rw [decide_eq_false (p := q.1 ∉ sv.map (·.1)) (fun z => z hin), Bool.false_and] at hR
        exact iteF hR
      · rw [decide_eq_false hin]
        rw [decide_eq_true (p := q.1 ∉ sv.map (·.1)) hin, Bool.true_and] at hR
        refine iteT ?_
        obtain ⟨dx, hpa⟩ := hP.at_ q hq
        have hpa' : H' q.2.1 = some (.ins C dx (pf q.2.2)) := S _ _ (lock_keep hP.dict hpa (by intro z; cases z))
        refine ⟨_, rfl, _, rfl, d, V.ref q.2.1, rfl, .inl ⟨psK l, Sum.inl (q.1 : Int), hdd, rfl, (ps_val hP.nd hq).symm⟩, _, rfl, q.2.1, q.2.2, sl, rfl, ⟨dx, hpa'⟩, _, rfl, ?_⟩
        have eh : (decide (q.2.2.from_ ≤ sl) && decide (sl < q.2.2.to)) = here b sl q.1 := by unfold here; rw [(hA q hq).1, (hA q hq).2]
        rw [eh]; exact hR
    · have S2 := unlock_same hP.dict ((Same.refl _).upd_new (o := .lst ((((keys l).filter fun j => decide (j ∉ sv.map (·.1)) && here b sl j).map fun i : Nat => (i : Int)).map V.int)) hD)
      refine ⟨by rw [upd_ne nDd.symm]; exact upd_same, ?_⟩
      have hD2 : upd (upd (upd H d (.frz od (.dK (psK l)))) D (.lst ((up ((keys l).filter fun j => decide (j ∉ sv.map (·.1)) && here b sl j)).map V.int))) d (.dK (psK l)) D = some (.lst ((up ((keys l).filter fun j => decide (j ∉ sv.map (·.1)) && here b sl j)).map V.int)) := by rw [upd_ne nDd]; exact upd_same
      have hW : ((keys l).filter fun j => decide (j ∉ sv.map (·.1)) && here b sl j).Perm (((keys l).filter fun i => decide (i ∉ sv.map (·.1))).filter (here b sl)) := by
        rw [List.filter_filter]
        refine List.Perm.of_eq (List.filter_congr fun i _ => ?_)
        exact Bool.and_comm _ _
      have hmem : ∀ n, n ∈ up ((keys l).filter fun j => decide (j ∉ sv.map (·.1)) && here b sl j) → ∃ q ∈ l, n = (q.1 : Int) := fun n hn => by
        obtain ⟨i, hi, rfl⟩ := List.mem_map.mp hn
        obtain ⟨q, hq, rfl⟩ := List.mem_map.mp (List.mem_filter.mp hi).1
        exact ⟨q, hq, rfl⟩
      -- by_end
      refine ⟨_, rfl, D, _, fun n => [(Kqu5.to b n.toNat : Int), n], [.ref d], rfl, SqL.of hD2, ?_, fun _ => by simp, hT.same S2, fun j p hp => ?_, rfl, fun n H1 hn g1 => ?_, fun ns' p H1 h1 h2 g1 h3 h4 => ?_⟩
      · rw [List.length_map]
        refine Nat.le_trans (List.length_filter_le _ _) ?_
        rw [List.length_map]; omega
      · cases j with
        | zero => cases hp; exact ⟨_, rfl, rfl⟩
        | succ j => cases hp
      · obtain ⟨q, hq, rfl⟩ := hmem n hn
        obtain ⟨dx, hpa⟩ := hP.at_ q hq
        refine ⟨_, rfl, _, rfl, d, V.ref q.2.1, rfl, .inl ⟨psK l, Sum.inl (q.1 : Int), Rd.gr g1 rfl (Rd.same S2 hP.rd), rfl, (ps_val hP.nd hq).symm⟩, q.2.1, C, dx, _, _, rfl, g1.keep _ _ (S2 _ _ hpa) rfl, T.cl, T.nE, pf_end _, _, rfl, (by show 2 ≤ sizeLine; decide), fun p hp => ⟨p, rfl, ?_, (Same.refl H1).upd_new hp⟩⟩
        rw [upd_same, ← (hA q hq).2]
        rfl
      · have e2 := byEnd_up (b := b) (h1.trans (hW.map _)) h2
        subst e2
        refine ⟨_, rfl, _, rfl, (m : Int), rfl, p, _, rfl, SqL.of h4, fun p2 hp2 => ?_⟩
        have gg : Gr ts H H1 := (Gr.same S2).trans g1
        refine k _ p2 (gg.upd hp2) (gg.free hp2) ?_
        rw [upd_same, cut_take, ← List.map_take, ← List.map_take]
        rfl
end
end Ap

set_option Elab.async false
set_option linter.all false
set_option maxRecDepth 100000
set_option maxHeartbeats 8000000
namespace Ap
open PySem PySem.Spec PyProof.Rows L2
open Kqu5 (Person Book)
theorem rem_filter (b : Book) (m : Nat) (L : List Nat) : ∀ s, rem b m L s = L.filter fun i => decide (i ∉ (pre b m L s).map (·.1))
  | 0 => (List.filter_eq_self.mpr fun _ _ => by simp [pre]).symm
  | s + 1 => by
    show (rem b m L s).filter (fun i => !((now b m L s).contains i)) = _
    have e : (pre b m L (s + 1)).map (·.1) = (pre b m L s).map (·.1) ++ now b m L s := by
      show ((pre b m L s ++ (now b m L s).map fun i => (i, s)).map (·.1)) = _
      rw [List.map_append, List.map_map]
      congr 1
      rw [show ((fun x : Nat × Nat => x.1) ∘ fun i => (i, s)) = id from rfl, List.map_id]
    rw [rem_filter b m L s, List.filter_filter, e]
    refine List.filter_congr fun i _ => ?_
    have e1 : (now b m L s).contains i = decide (i ∈ now b m L s) := by simp
    rw [e1]
    by_cases h1 : i ∈ now b m L s
    · have h3 : i ∈ (pre b m L s).map (·.1) ++ now b m L s := List.mem_append_right _ h1
      rw [decide_eq_true h1, decide_eq_false (p := i ∉ (pre b m L s).map (·.1) ++ now b m L s) (fun z => z h3)]; rfl
    · by_cases h2 : i ∈ (pre b m L s).map (·.1)
      · have h3 : i ∈ (pre b m L s).map (·.1) ++ now b m L s := List.mem_append_left _ h2
        rw [decide_eq_false h1, decide_eq_false (fun z => z h2), decide_eq_false (fun z => z h3)]; rfl
      · have h3 : i ∉ (pre b m L s).map (·.1) ++ now b m L s := fun z => (List.mem_append.mp z).elim h2 h1
        rw [decide_eq_false h1, decide_eq_true h2, decide_eq_true h3]; rfl
theorem now_length (b : Book) (m : Nat) (L : List Nat) (s : Nat) : (now b m L s).length ≤ L.length := by
  unfold now
  rw [List.length_take]
  refine Nat.le_trans (Nat.min_le_right _ _) ?_
  rw [waiting_def, (sorted_perm _ _).length_eq]
  refine Nat.le_trans (List.length_filter_le _ _) ?_
  rw [rem_filter]
  exact List.length_filter_le _ _
theorem pre_length (b : Book) (m : Nat) (L : List Nat) : ∀ s, (pre b m L s).length ≤ s * L.length
  | 0 => by simp [pre]
  | s + 1 => by
    show (pre b m L s ++ _).length ≤ _
    rw [List.length_append, List.length_map, Nat.succ_mul]
    exact Nat.add_le_add (pre_length b m L s) (now_length b m L s)
theorem nextOf_now (b : Book) (l : List (Nat × Addr × Person)) (m s : Nat) : nextOf b l (pre b m (keys l) s) s m = now b m (keys l) s := by
  unfold nextOf now
  rw [rem_filter]
theorem tabs_upd {ts : List TabRec} {H : Hp} {a : Addr} {o o' : HO} (h : Tabs ts H) (e : H a = some o) (hk : match o with | .dK _ => True | .lst _ => True | .ins _ _ _ => True | _ => False) : Tabs ts (upd H a o') := ⟨h.1, fun t ht => by
  obtain ⟨ps, e1, e2, e3⟩ := h.2 t ht
  have n1 : t.P ≠ a := fun z => by rw [z, e] at e1; cases e1; exact hk
  refine ⟨ps, by rw [upd_ne n1]; exact e1, e2, e3.imp id fun ⟨c, e4, e5⟩ => ⟨c, e4, ?_⟩⟩
  rw [upd_ne (fun z => by rw [z, e] at e5; cases e5; exact hk)]; exact e5⟩
def spPlan (C : Addr) (ts : List TabRec) : Sp := fun vs H Q _ => ∃ (d : Addr) (l : List (Nat × Addr × Person)) (b : Book) (m : Nat), vs = [.ref d, .int m] ∧ PsAt C H d l ∧ l.length < 64 ∧ Tabs ts H ∧ Ag b l ∧
  ∀ (H' : Hp) (p : Addr), Gr ts H H' → H p = none → H' p = some (.dK (svK (Kqu5.plan b m (keys l)))) → Q (.ref p) H'
section
variable {P : Program} {w : World} {K : PySem.W.Frag} {mg : Str → Option Value} {base : Heap}
abbrev nPlan : List Str := ["persons", "windows", "served", "slot", "number"]
theorem sc_plan : FnScope nPlan ["persons", "windows"] (defScope sPlanOf) := ⟨rfl, rfl, rfl, by decide +kernel, rfl, by decide +kernel, by decide +kernel⟩
theorem ok_plan {f C fN : Addr} {fd fdN : FuncData} {ts : List TabRec} {tk : Tok} (F : Fun K "plan_of" "plan_of" sPlanOf f fd) (hSl : mg "SLOTS" = some (.int 40 tk)) (hrg : mg "range" = none)
    (CN : Cal P w K mg base "next_served" fN fdN ["persons", "served", "slot", "windows"] 5 (spNext C ts)) : FnOk P w K mg base CX0 6 f fd ["persons", "windows"] (spPlan C ts) := by
  refine F.ok sc_plan (fun vs H Q E h => ?_) (fun cdv A outer s H vs Q E hr h => ?_)
  · obtain ⟨d, l, b, m, rfl, _⟩ := h
    rfl
  · obtain ⟨d, l, b, m, rfl, hP, hl, hT, hA, k⟩ := h
    have hu := hu_of hr
    refine ⟨_, pss_cons (ps_set (i := 2) sc_plan.nd rfl (Or.inl rfl) pe_dnewK)
      (pss_cons (ps_for PassesOwn.never rfl (pi_range1 rfl hrg (pa_cons (pe_glob (v := .int 40) rfl hSl ⟨_, rfl⟩) pa_nil)) (pg_name (i := 3) sc_plan.nd rfl (Or.inl rfl))
        (pss_one (ps_for PassesOwn.never rfl (pi_list (pe_cal CN hr rfl (pa_cons (pv 0) (pa_cons (pv 2) (pa_cons (pv 3) (pa_cons (pv 1) pa_nil)))))) (pg_name (i := 4) sc_plan.nd rfl (Or.inl rfl))
          (pss_one (ps_dput hu (pv 2) (pv 4) (pv 3) rfl)))))
      (pss_one (ps_ret (pv 2)))), ?_⟩
    intro p hp
    have g0 : Gr ts H (upd H p (.dK [])) := (Gr.refl H).upd hp
    refine ⟨40, rfl, by decide, by decide, for_range (n := 40) (fun i σ H' => ∃ v3 v4 : Option V, σ = [some (.ref d), some (.int m), some (.ref p), v3, v4] ∧ Gr ts H H' ∧ H' p = some (.dK (svK (pre b m (keys l) i))))
      ⟨none, none, rfl, g0, upd_same⟩ ?_ ?_⟩
    · rintro i σ H1 hi ⟨v3, v4, rfl, g1, h1⟩
      refine ⟨_, rfl, _, rfl, _, rfl, _, rfl, d, p, l, pre b m (keys l) i, b, i, m, (by rw [Int.zero_add]; rfl), hP.gr g1, hl, .inl h1, g1.tabs hT, hA, fun H2 q g2 nq hq => ?_⟩
      rw [nextOf_now] at hq
      have g12 := g1.trans g2
      have hl2 : (pre b m (keys l) (i + 1)).length ≤ 40 * 64 := Nat.le_trans (pre_length b m (keys l) (i + 1)) (Nat.mul_le_mul (by omega) (by rw [List.length_map]; omega))
      have el : (pre b m (keys l) (i + 1)).length = (pre b m (keys l) i).length + (now b m (keys l) i).length := by
        show (pre b m (keys l) i ++ _).length = _
        rw [List.length_append, List.length_map]
      have npq : p ≠ q := ne_of_none h1 nq
      refine ⟨q, rfl, ⟨_, SqL.of hq⟩, for_list (K := K) (a := q) (xs := (up (now b m (keys l) i)).map V.int)
        (fun j σ H' => ∃ v4 : Option V, σ = [some (.ref d), some (.int m), some (.ref p), some (.int (0 + (i : Int))), v4] ∧ Gr ts H H' ∧ H' q = some (.lst ((up (now b m (keys l) i)).map V.int)) ∧ H' p = some (.dK (svK (pre b m (keys l) i ++ ((now b m (keys l) i).take j).map fun x => (x, i)))))
        ⟨v4, rfl, g12, hq, ?_⟩ (fun j σ H' _ ⟨_, _, _, h, _⟩ => SqL.of h) ?_ ?_⟩
      · rw [List.take_zero, List.map_nil, List.append_nil]
        exact g2.keep _ _ h1 rfl
      · rintro j x σ H3 hx ⟨v4', rfl, g3, q3, p3⟩
        obtain ⟨n, hn, rfl⟩ := up_at hx
        have hjl : j < (now b m (keys l) i).length := (List.getElem?_eq_some_iff.mp hn).1
        have hnm : n ∈ now b m (keys l) i := List.mem_of_getElem? hn
        refine ⟨_, rfl, _, rfl, _, rfl, p, _, rfl, DPut.k (k := Sum.inl (n : Int)) p3 ?_, ?_⟩
        · rw [List.length_map, List.length_append, List.length_map, List.length_take]
          have : min j (now b m (keys l) i).length ≤ (now b m (keys l) i).length := Nat.min_le_right _ _
          exact Nat.lt_of_le_of_lt (show _ ≤ 40 * 64 by omega) (by decide)
        · refine ⟨_, rfl, ⟨fun c o e ho => ?_, fun h => tabs_upd (g3.tabs h) p3 trivial, fun c qs e => ?_⟩, by rw [upd_ne npq.symm]; exact q3, ?_⟩
          · rw [upd_ne (ne_of_none e hp)]; exact g3.keep c o e ho
          · rw [upd_ne (ne_of_none e hp)]; exact g3.tb c qs e
          · have nv : valV (svK (pre b m (keys l) i ++ ((now b m (keys l) i).take j).map fun x => (x, i))) (Sum.inl (n : Int)) = none := by
              cases hv : valV (svK (pre b m (keys l) i ++ ((now b m (keys l) i).take j).map fun x => (x, i))) (Sum.inl (n : Int)) with
              | none => rfl
              | some v =>
                exfalso
                have hs := sv_isSome (pre b m (keys l) i ++ ((now b m (keys l) i).take j).map fun x => (x, i)) n
                rw [hv] at hs
                have hin := of_decide_eq_true hs.symm
                rw [List.map_append, List.map_map] at hin
                rcases List.mem_append.mp hin with z | z
                · have hr := (now_sub hnm).1
                  exact (pre_keys (rem_sub hr) i).mp z hr
                · obtain ⟨y, hy, hyn⟩ := List.mem_map.mp z
                  have hyn : y = n := hyn
                  subst hyn
                  obtain ⟨j', hj'⟩ := List.getElem?_of_mem hy
                  have hlt : j' < j := by
                    have := (List.getElem?_eq_some_iff.mp hj').1
                    rw [List.length_take] at this; omega
                  rw [List.getElem?_take_of_lt hlt] at hj'
                  exact absurd (nd_ix (now_nodup hP.nd i) hj' hn) (by omega)
            rw [upd_same, putK_new _ nv, take_succ' hn, List.map_append, ← List.append_assoc]
            show some (HO.dK (_ ++ [_])) = some (HO.dK (List.map _ (_ ++ [_])))
            rw [List.map_append, Int.zero_add]
            rfl
      · rintro σ H3 ⟨v4', rfl, g3, q3, p3⟩
        rw [List.length_map, List.length_map, List.take_length] at p3
        exact ⟨_, _, rfl, g3, p3⟩
    · rintro σ H1 ⟨v3, v4, rfl, g1, h1⟩
      refine ⟨_, rfl, k H1 p g1 hp ?_⟩
      rw [plan_pre]; exact h1
end
end Ap

set_option Elab.async false
set_option linter.all false
set_option maxRecDepth 100000
set_option maxHeartbeats 8000000
namespace Ap
open PySem PySem.Spec PyProof.Rows L2
open Kqu5 (Person Book)
abbrev sBookInit : Stmt := inClass (top 29) 0
abbrev sWindowsFit : Stmt := top 30
abbrev sTimeFits : Stmt := top 31
abbrev sLeastFree : Stmt := top 32
abbrev sBookPlan : Stmt := top 33
theorem nodup_len : ∀ {l m : List Nat}, l.Nodup → (∀ x ∈ l, x ∈ m) → l.length ≤ m.length
  | [], _, _, _ => Nat.zero_le _
  | x :: l, m, hn, hs => by
    have hc := List.nodup_cons.mp hn
    have hx := hs x (.head _)
    have := nodup_len (l := l) (m := m.erase x) hc.2 fun y hy => (List.mem_erase_of_ne (fun z => hc.1 (by rw [← z]; exact hy))).mpr (hs y (.tail _ hy))
    rw [List.length_erase_of_mem hx] at this
    have hp : 0 < m.length := List.length_pos_of_mem hx
    rw [List.length_cons]; omega
theorem ps_isSome (l : List (Nat × Addr × Person)) (i : Nat) : (valV (psK l) (Sum.inl (i : Int))).isSome = decide (i ∈ keys l) := by
  rw [val_map (fun q : Nat × Addr × Person => q.1) (fun q => V.ref q.2.1) l i, Option.isSome_map]
  rw [Bool.eq_iff_iff, decide_eq_true_eq]
  exact find_key
/-! ### the book -/
def bkf (w : Nat) (pd : Addr) : List (Str × V) := putF "persons" (.ref pd) (putF "windows" (.int w) [])
theorem bkf_w (w : Nat) (pd : Addr) : (bkf w pd).lookup ("windows" : Str) = some (.int w) := by
  unfold bkf
  rw [lookup_putF, if_neg (by decide +kernel), lookup_putF, if_pos rfl]
theorem bkf_p (w : Nat) (pd : Addr) : (bkf w pd).lookup ("persons" : Str) = some (.ref pd) := by
  unfold bkf
  rw [lookup_putF, if_pos rfl]
theorem bkf_setw (w w' : Nat) (pd : Addr) : putF "windows" (.int w') (bkf w pd) = bkf w' pd := by
  have e : ("windows" : Str) ≠ "persons" := by decide +kernel
  have e2 : ("persons" : Str) ≠ "windows" := by decide +kernel
  simp [bkf, putF, e, e2]
theorem bkf_setp (w : Nat) (pd pd' : Addr) : putF "persons" (.ref pd') (bkf w pd) = bkf w pd' := by
  have e : ("windows" : Str) ≠ "persons" := by decide +kernel
  have e2 : ("persons" : Str) ≠ "windows" := by decide +kernel
  simp [bkf, putF, e, e2]
theorem bkf_len (w : Nat) (pd : Addr) : (bkf w pd).length = 2 := by
  have e : ("windows" : Str) ≠ "persons" := by decide +kernel
  simp [bkf, putF, e]
structure BC (K : PySem.W.Frag) (C : Addr) : Prop where
  cl : Cls K C
  nW : NoAttr K C "windows"
  nP : NoAttr K C "persons"
/-- a person as it may be asked for -/
def Valid (p : Person) : Prop := p.from_ < p.to ∧ p.to ≤ 40 ∧ p.counts ≤ 100
/-- what the spec's state says of what stands there -/
def StOk (s : Option Book) (w : Nat) (l : List (Nat × Addr × Person)) : Prop := match s with
  | none => w = 0 ∧ l = []
  | some b => w = b.windows ∧ 1 ≤ w ∧ w ≤ 4 ∧ RepB b l ∧ l.length ≤ 10 ∧ ∀ q ∈ l, Valid q.2.2
/-- the Book at bk, its persons in the dict at pd -/
structure BkAt (CB CP : Addr) (H : Hp) (bk pd : Addr) (w : Nat) (l : List (Nat × Addr × Person)) : Prop where
  ins : ∃ dx, H bk = some (.ins CB dx (bkf w pd))
  dict : H pd = some (.dK (psK l))
  nd : (keys l).Nodup
  at_ : ∀ p ∈ l, PersonAt CP H p.2.1 p.2.2
theorem BkAt.ps {CB CP : Addr} {H : Hp} {bk pd : Addr} {w : Nat} {l : List (Nat × Addr × Person)} (B : BkAt CB CP H bk pd w l) : PsAt CP H pd l := ⟨B.dict, B.nd, B.at_⟩
theorem BkAt.gr {ts : List TabRec} {CB CP : Addr} {H H' : Hp} {bk pd : Addr} {w : Nat} {l : List (Nat × Addr × Person)} (g : Gr ts H H') (B : BkAt CB CP H bk pd w l) : BkAt CB CP H' bk pd w l :=
  ⟨let ⟨dx, e⟩ := B.ins; ⟨dx, g.keep _ _ e rfl⟩, g.keep _ _ B.dict rfl, B.nd, fun p hp => (B.at_ p hp).gr g⟩
def BookS (CB CP : Addr) (H : Hp) (bk : Addr) (s : Option Book) : Prop := ∃ pd w l, BkAt CB CP H bk pd w l ∧ StOk s w l
/-! ### promises -/
def spWFit : Sp := fun vs H Q _ => ∃ m : Int, vs = [.int m] ∧ Q (.bl (decide (1 ≤ m) && decide (m ≤ 4))) H
def spTFit : Sp := fun vs H Q _ => ∃ r d : Int, vs = [.int r, .int d] ∧ Q (.bl (decide (r < d) && decide (d ≤ 40))) H
def spFree : Sp := fun vs H Q _ => ∃ (d : Addr) (l : List (Nat × Addr × Person)), vs = [.ref d] ∧ Rd H d (.dK (psK l)) ∧ ∀ n : Nat, (∀ j, j < n → j ∈ keys l) → n ∉ keys l → Q (.int n) H
def spBInit (CB : Addr) : Sp := fun vs H Q _ => ∃ (a dx : Addr), vs = [.ref a] ∧ H a = some (.ins CB dx []) ∧ ∀ (H' : Hp) (pd : Addr), H' a = some (.ins CB dx (bkf 0 pd)) → H' pd = some (.dK []) → H pd = none → (∀ b o, H b = some o → b ≠ a → H' b = some o) → Q .non H'
def spBPlan (CB CP : Addr) (ts : List TabRec) : Sp := fun vs H Q _ => ∃ (bk pd : Addr) (w : Nat) (l : List (Nat × Addr × Person)) (b : Book), vs = [.ref bk] ∧ BkAt CB CP H bk pd w l ∧ l.length < 64 ∧ Tabs ts H ∧ Ag b l ∧
  ∀ (H' : Hp) (p : Addr), Gr ts H H' → H p = none → H' p = some (.dK (svK (Kqu5.plan b w (keys l)))) → Q (.ref p) H'
section
variable {P : Program} {w : World} {K : PySem.W.Frag} {mg : Str → Option Value} {base : Heap}
/-- a and b of two truths -/
theorem and_read {a c : Bool} {Q : V → Hp → Prop} {H : Hp} (h : Q (.bl (a && c)) H) : if a = true then Q (.bl c) H else Q (.bl false) H := by
  cases a with
  | true => exact iteT h
  | false => exact iteF h
theorem sc_wfit : FnScope ["windows"] ["windows"] (defScope sWindowsFit) := ⟨rfl, rfl, rfl, by decide +kernel, rfl, by decide +kernel, by decide +kernel⟩
theorem ok_wfit {f : Addr} {fd : FuncData} {tk : Tok} (F : Fun K "windows_fit" "windows_fit" sWindowsFit f fd) (hm : mg "MOST_WINDOWS" = some (.int 4 tk)) : FnOk P w K mg base CX0 1 f fd ["windows"] spWFit := by
  refine F.ok sc_wfit (fun vs H Q E h => ?_) (fun cdv A outer s H vs Q E hr h => ?_)
  · obtain ⟨m, rfl, _⟩ := h
    rfl
  · obtain ⟨m, rfl, k⟩ := h
    refine ⟨_, pss_one (ps_ret (pe_and (pe_cmpR op_le pe_int (pv 0) (nomark _)) (pe_one (pe_cmpR op_le (pv 0) (pe_glob (v := .int 4) rfl hm ⟨_, rfl⟩) (nomark _))))), ?_⟩
    refine ⟨_, rfl, _, _, rfl, rfl, _, rfl, ite2 (fun z => ?_) fun z => ?_⟩
    · refine ⟨_, rfl, _, _, rfl, rfl, ?_⟩
      rw [z, Bool.true_and] at k
      exact k
    · have z2 : decide (1 ≤ m) = false := by cases h : decide (1 ≤ m) with | true => exact absurd h z | false => rfl
      rw [z2, Bool.false_and] at k
      exact k
theorem sc_tfit : FnScope ["first", "end"] ["first", "end"] (defScope sTimeFits) := ⟨rfl, rfl, rfl, by decide +kernel, rfl, by decide +kernel, by decide +kernel⟩
theorem ok_tfit {f : Addr} {fd : FuncData} {tk : Tok} (F : Fun K "time_fits" "time_fits" sTimeFits f fd) (hm : mg "SLOTS" = some (.int 40 tk)) : FnOk P w K mg base CX0 1 f fd ["first", "end"] spTFit := by
  refine F.ok sc_tfit (fun vs H Q E h => ?_) (fun cdv A outer s H vs Q E hr h => ?_)
  · obtain ⟨r, d, rfl, _⟩ := h
    rfl
  · obtain ⟨r, d, rfl, k⟩ := h
    refine ⟨_, pss_one (ps_ret (pe_and (pe_cmpR op_lt (pv 0) (pv 1) (nomark _)) (pe_one (pe_cmpR op_le (pv 1) (pe_glob (v := .int 40) rfl hm ⟨_, rfl⟩) (nomark _))))), ?_⟩
    refine ⟨_, rfl, _, rfl, _, _, rfl, rfl, _, rfl, ite2 (fun z => ?_) fun z => ?_⟩
    · refine ⟨_, rfl, _, _, rfl, rfl, ?_⟩
      rw [z, Bool.true_and] at k
      exact k
    · have z2 : decide (r < d) = false := by cases h : decide (r < d) with | true => exact absurd h z | false => rfl
      rw [z2, Bool.false_and] at k
      exact k
theorem sc_free : FnScope ["persons", "number"] ["persons"] (defScope sLeastFree) := ⟨rfl, rfl, rfl, by decide +kernel, rfl, by decide +kernel, by decide +kernel⟩
theorem ok_free {f : Addr} {fd : FuncData} (F : Fun K "least_free_number" "least_free_number" sLeastFree f fd) : FnOk P w K mg base CX0 1 f fd ["persons"] spFree := by
  refine F.ok sc_free (fun vs H Q E h => ?_) (fun cdv A outer s H vs Q E hr h => ?_)
  · obtain ⟨d, l, rfl, _⟩ := h
    rfl
  · obtain ⟨d, l, rfl, hd, k⟩ := h
    have hu := hu_of hr
    refine ⟨_, pss_cons (ps_set (i := 1) sc_free.nd rfl (Or.inl rfl) pe_int)
      (pss_cons (ps_while PassesOwn.never (pt_cmp (pc_din hu (pv 1) (pv 0))) (pss_one (ps_aug (i := 1) sc_free.nd rfl (Or.inl rfl) pe_int ip_add (.inl rfl))))
      (pss_one (ps_ret (pv 1)))), ?_⟩
    show tWhile (tB (tDIn (tVar 1) (tVar 0))) (tAug 1 (tC (.int 1)) (ipI fun i j => i + j)) _ [some (.ref d), some (.int ((0 : Nat) : Int))] H
    refine while_by (fun σ H' => ∃ n : Nat, H' = H ∧ σ = [some (.ref d), some (.int n)] ∧ ∀ j, j < n → j ∈ keys l) (fun σ _ => (keys l).length + 1 - (match σ with | [_, some (.int n)] => n.toNat | _ => 0)) ⟨0, rfl, rfl, fun j hj => absurd hj (Nat.not_lt_zero _)⟩ ?_
      fun σ H1 Q1 Q2 hq ⟨v, hv, u, hu, a, o, e, g, c, hc, q⟩ => ⟨v, hv, u, hu, a, o, e, g, c, hc, hq _ _ q⟩
    rintro σ H' ⟨n, rfl, rfl, hn⟩
    refine ⟨_, rfl, _, rfl, d, _, rfl, .inl ⟨psK l, Sum.inl (n : Int), hd, rfl, rfl⟩, _, rfl, ?_⟩
    rw [ps_isSome]
    have hle : n ≤ (keys l).length := by
      have := nodup_len (l := List.range n) (m := keys l) List.nodup_range fun j hj => hn j (List.mem_range.mp hj)
      rw [List.length_range] at this
      exact this
    refine ite2 (fun z => ?_) fun z => ?_
    · have hin := of_decide_eq_true z
      refine ⟨_, rfl, _, _, rfl, rfl, ⟨n + 1, rfl, rfl, fun j hj => ?_⟩, ?_⟩
      · rcases Nat.lt_succ_iff_lt_or_eq.mp hj with h | h
        · exact hn j h
        · rw [h]; exact hin
      · show (keys l).length + 1 - ((n : Int) + 1).toNat < (keys l).length + 1 - ((n : Int)).toNat
        omega
    · exact ⟨_, rfl, k n hn fun h => z (decide_eq_true h)⟩
theorem sc_binit : FnScope ["self"] ["self"] (defScope sBookInit) := ⟨rfl, rfl, rfl, by decide +kernel, rfl, by decide +kernel, by decide +kernel⟩
theorem ok_binit {f C : Addr} {fd : FuncData} (F : Fun K "__init__" "Book.__init__" sBookInit f fd) (T : BC K C) : FnOk P w K mg base CX0 1 f fd ["self"] (spBInit C) := by
  refine F.ok sc_binit (fun vs H Q E h => ?_) (fun cdv A outer s H vs Q E hr h => ?_)
  · obtain ⟨a, dx, rfl, _⟩ := h
    rfl
  · obtain ⟨a, dx, rfl, hp, k⟩ := h
    refine ⟨_, pss_cons (ps_fld (pv 0) pe_int rfl) (pss_one (ps_fld (pv 0) pe_dnewK rfl)), ?_⟩
    refine ⟨_, rfl, a, C, dx, [], rfl, hp, T.cl, T.nW, (by show 0 < 1000; decide), fun pd hpd => ?_⟩
    have npa : a ≠ pd := ne_of_none upd_same hpd
    refine ⟨_, rfl, a, C, dx, _, rfl, by rw [upd_ne npa]; exact upd_same, T.cl, T.nP, (by show 1 < 1000; decide), ?_⟩
    have nH : H pd = none := by rw [upd_ne npa.symm] at hpd; exact hpd
    refine k _ pd upd_same (by rw [upd_ne npa.symm]; exact upd_same) nH fun b o e hb => ?_
    rw [upd_ne hb, upd_ne (ne_of_none e nH), upd_ne hb]; exact e
theorem sc_bplan : FnScope ["book"] ["book"] (defScope sBookPlan) := ⟨rfl, rfl, rfl, by decide +kernel, rfl, by decide +kernel, by decide +kernel⟩
theorem ok_bplan {f CB CP fP : Addr} {fd fdP : FuncData} {ts : List TabRec} (F : Fun K "book_plan" "book_plan" sBookPlan f fd) (T : BC K CB) (CPl : Cal P w K mg base "plan_of" fP fdP ["persons", "windows"] 6 (spPlan CP ts)) : FnOk P w K mg base CX0 7 f fd ["book"] (spBPlan CB CP ts) := by
  refine F.ok sc_bplan (fun vs H Q E h => ?_) (fun cdv A outer s H vs Q E hr h => ?_)
  · obtain ⟨bk, pd, w, l, b, rfl, _⟩ := h
    rfl
  · obtain ⟨bk, pd, w, l, b, rfl, B, hl, hT, hA, k⟩ := h
    refine ⟨_, pss_one (ps_ret (pe_cal CPl hr rfl (pa_cons (pe_fld (pv 0) rfl) (pa_cons (pe_fld (pv 0) rfl) pa_nil)))), ?_⟩
    obtain ⟨dx, hb⟩ := B.ins
    exact ⟨_, rfl, bk, CB, dx, _, _, rfl, hb, T.cl, T.nP, bkf_p _ _, _, rfl, bk, CB, dx, _, _, rfl, hb, T.cl, T.nW, bkf_w _ _, pd, l, b, w, rfl, B.ps, hl, hT, hA, k⟩
end
end Ap

set_option Elab.async false
set_option linter.all false
set_option maxRecDepth 100000
set_option maxHeartbeats 8000000
namespace Ap
open PySem PySem.Spec PyProof.Rows L2
open Kqu5 (Person Book)
open Kqu5Neutral (asked1)
abbrev sStart : Stmt := top 34
abbrev sWindows : Stmt := top 38
/-- lists, as they are kept through a call -/
def keepK : HO → Bool
  | .lst _ => true
  | .frz _ _ => true
  | .tup _ => true
  | _ => false
theorem keepK_T {o : HO} (h : keepK o = true) : isT o = false := by cases o <;> first | rfl | cases h
abbrev stp (s : Option Book) (k : Int) (tl : List Int) : Option Book × List Int := Kqu5Neutral.step s (callC k tl)
/-- what a call answers: the promise of each answer_.. -/
def spA (K : PySem.W.Frag) (CB CP : Addr) (ts : List TabRec) (k : Int) : Sp := fun vs H Q _ => ∃ (bk tp : Addr) (tl : List Int) (s : Option Book), vs = [.ref bk, .ref tp] ∧ BookS CB CP H bk s ∧ SqL K H tp (tl.map V.int) ∧ Tabs ts H ∧ asked1 (callC k tl) = true ∧ (k = 14 → tl.headD 0 = ((tl.length - 1 : Nat) : Int)) ∧ (k = 0 ∨ s.isSome = true) ∧
  ∀ (H' : Hp) (p : Addr), BookS CB CP H' bk (stp s k tl).1 → Tabs ts H' → (∀ b o, H b = some o → keepK o = true → H' b = some o) → H p = none → H' p = some (.lst ((stp s k tl).2.map V.int)) → Q (.ref p) H'
theorem BookS.gr {ts : List TabRec} {CB CP : Addr} {H H' : Hp} {bk : Addr} {s : Option Book} (g : Gr ts H H') (B : BookS CB CP H bk s) : BookS CB CP H' bk s := let ⟨pd, w, l, h1, h2⟩ := B; ⟨pd, w, l, h1.gr g, h2⟩
/-- the end of a call that leaves the book as it is -/
theorem endA {CB CP : Addr} {ts : List TabRec} {H H1 : Hp} {bk p : Addr} {s : Option Book} {k : Int} {tl out : List Int} {Q : VK} (g : Gr ts H H1) (hp : H1 p = none) (B : BookS CB CP H bk s) (hT : Tabs ts H)
    (kq : ∀ (H' : Hp) (p : Addr), BookS CB CP H' bk (stp s k tl).1 → Tabs ts H' → (∀ b o, H b = some o → keepK o = true → H' b = some o) → H p = none → H' p = some (.lst ((stp s k tl).2.map V.int)) → Q (.ref p) H')
    (e1 : (stp s k tl).1 = s) (e2 : (stp s k tl).2 = out) : Q (.ref p) (upd H1 p (.lst (out.map V.int))) := by
  have g2 : Gr ts H (upd H1 p (.lst (out.map V.int))) := g.upd hp
  exact kq _ p (by rw [e1]; exact B.gr g2) (g2.tabs hT) (fun b o e hk => g2.keep b o e (keepK_T hk)) (g.free hp) (by rw [e2]; exact upd_same)
structure Cst (mg : Str → Option Value) : Prop where
  c2 : ∃ t, mg "NO_SUCH_PERSON" = some (.int (-2) t)
  c11 : ∃ t, mg "NOT_STARTED" = some (.int (-11) t)
  c22 : ∃ t, mg "NOT_AS_TOLD" = some (.int (-22) t)
  c28 : ∃ t, mg "NO_ROOM" = some (.int (-28) t)
  c33 : ∃ t, mg "NOT_SERVED" = some (.int (-33) t)
  c4 : ∃ t, mg "MOST_WINDOWS" = some (.int 4 t)
  c10 : ∃ t, mg "MOST_PERSONS" = some (.int 10 t)
  c100 : ∃ t, mg "MOST_COUNTS" = some (.int 100 t)
  c0 : ∃ t, mg "START" = some (.int 0 t)
  c14 : ∃ t, mg "WORTH" = some (.int 14 t)
  c40 : ∃ t, mg "SLOTS" = some (.int 40 t)
/-! ### what is asked of a call -/
section
variable {P : Program} {w : World} {K : PySem.W.Frag} {mg : Str → Option Value} {base : Heap} {CB CP : Addr} {ts : List TabRec}
theorem sc_start : FnScope ["book", "told"] ["book", "told"] (defScope sStart) := ⟨rfl, rfl, rfl, by decide +kernel, rfl, by decide +kernel, by decide +kernel⟩
theorem ok_start {f fW : Addr} {fd fdW : FuncData} (F : Fun K "answer_start" "answer_start" sStart f fd) (T : BC K CB) (M : Cst mg) (CW : Cal P w K mg base "windows_fit" fW fdW ["windows"] 1 spWFit) : FnOk P w K mg base CX0 2 f fd ["book", "told"] (spA K CB CP ts 0) := by
  refine F.ok sc_start (fun vs H Q E h => ?_) (fun cdv A outer s H vs Q E hr h => ?_)
  · obtain ⟨bk, tp, tl, s, rfl, _⟩ := h
    rfl
  · obtain ⟨bk, tp, tl, st, rfl, B, ht, hT, hq, -, -, k⟩ := h
    obtain ⟨a, rfl⟩ := asked_0 hq
    obtain ⟨t22, m22⟩ := M.c22
    refine ⟨_, pss_cons (ps_if (pt_not (pt_val (pe_cal CW hr rfl (pa_cons (pe_ix ix_list (pv 1) pe_int (fun _ _ => rfl)) pa_nil)))) (pss_one (ps_ret (pe_lst (pa_cons (pe_glob (v := .int (-22)) rfl m22 ⟨_, rfl⟩) pa_nil)))) pss_nil)
      (pss_cons (ps_fld (pv 0) (pe_ix ix_list (pv 1) pe_int (fun _ _ => rfl)) rfl) (pss_cons (ps_fld (pv 0) pe_dnewK rfl) (pss_one (ps_ret (pe_lst (pa_cons pe_int pa_nil)))))), ?_⟩
    refine ⟨_, rfl, tp, _, _, _, rfl, rfl, ht, at_of (j := 0) rfl rfl, (a : Int), rfl, _, rfl, ?_⟩
    have est : stp st 0 [(a : Int)] = (if a = 0 ∨ 4 < a then (st, [-22]) else (some ⟨a, []⟩, [0])) := by
      show ((Kqu5.step st (.start ((a : Int)).toNat)).1, Kqu5Neutral.tell (Kqu5.step st (.start ((a : Int)).toNat)).2) = _
      rw [show ((a : Int)).toNat = a from rfl]
      by_cases h : a = 0 ∨ 4 < a
      · rw [if_pos h]; simp [Kqu5.step, h, Kqu5Neutral.tell]
      · rw [if_neg h]; simp [Kqu5.step, h, Kqu5Neutral.tell]
    have ed : (decide ((1 : Int) ≤ a) && decide ((a : Int) ≤ 4)) = decide (¬ (a = 0 ∨ 4 < a)) := by
      rw [Bool.eq_iff_iff]; simp; omega
    rw [ed]
    by_cases hc : a = 0 ∨ 4 < a
    · rw [decide_eq_false (fun z => z hc)]
      rw [if_pos hc] at est
      refine iteT ⟨(by show 1 ≤ sizeLine; decide), fun p hp => ?_⟩
      exact endA (out := [-22]) (Gr.refl H) hp B hT k (by rw [est]) (by rw [est])
    · rw [decide_eq_true hc]
      rw [if_neg hc] at est
      refine iteF ?_
      obtain ⟨pd, w0, l, ⟨⟨dx, hb⟩, hd, nd, hat⟩, hst⟩ := B
      refine ⟨_, rfl, tp, _, _, _, rfl, rfl, ht, at_of (j := 0) rfl rfl, _, rfl, bk, CB, dx, _, rfl, hb, T.cl, T.nW, (by rw [bkf_len]; decide), fun pd' hpd => ?_⟩
      rw [bkf_setw] at hpd ⊢
      have n1 : bk ≠ pd' := ne_of_none upd_same hpd
      have nH : H pd' = none := by rw [upd_ne n1.symm] at hpd; exact hpd
      refine ⟨_, rfl, bk, CB, dx, _, rfl, by rw [upd_ne n1]; exact upd_same, T.cl, T.nP, (by rw [bkf_len]; decide), (by show 1 ≤ sizeLine; decide), fun p hp => ?_⟩
      rw [bkf_setp] at hp ⊢
      have kp : ∀ b o, H b = some o → b ≠ bk → upd (upd (upd H bk (.ins CB dx (bkf a pd))) pd' (.dK [])) bk (.ins CB dx (bkf a pd')) b = some o := fun b o e hne => by
        rw [upd_ne hne, upd_ne (ne_of_none e nH), upd_ne hne]; exact e
      have hd' : upd (upd (upd H bk (.ins CB dx (bkf a pd))) pd' (.dK [])) bk (.ins CB dx (bkf a pd')) pd' = some (.dK []) := by rw [upd_ne n1.symm]; exact upd_same
      have nbp : bk ≠ p := ne_of_none upd_same hp
      have npp : pd' ≠ p := ne_of_none hd' hp
      have np : H p = none := by rw [upd_ne nbp.symm, upd_ne npp.symm, upd_ne nbp.symm] at hp; exact hp
      refine k _ p ?_ ?_ (fun b o e hk => ?_) np ?_
      · rw [est]
        refine ⟨pd', a, [], ⟨⟨dx, by rw [upd_ne nbp]; exact upd_same⟩, by rw [upd_ne npp]; exact hd', .nil, fun _ z => nomatch z⟩, rfl, by omega, by omega, fun i => rfl, Nat.zero_le _, fun _ z => nomatch z⟩
      · refine (Tabs.same ((Same.refl _).upd_new hp) (tabs_upd (o := .ins CB dx (bkf a pd)) (Tabs.same ((Same.refl _).upd_new hpd) (tabs_upd hT hb trivial)) ?_ trivial))
        rw [upd_ne n1]; exact upd_same
      · rw [upd_ne (ne_of_none e np)]
        exact kp b o e fun z => by rw [z, hb] at e; cases e; cases hk
      · rw [est]; exact upd_same
end
end Ap

set_option Elab.async false
set_option linter.all false
set_option maxRecDepth 100000
set_option maxHeartbeats 8000000
namespace Ap
open PySem PySem.Spec PyProof.Rows L2
open Kqu5 (Person Book)
open Kqu5Neutral (asked1)
abbrev sAsk : Stmt := top 35
abbrev sDrop : Stmt := top 36
abbrev sMove : Stmt := top 37
theorem some_of {s : Option Book} {k : Int} (hk : k ≠ 0) (h : k = 0 ∨ s.isSome = true) : ∃ b, s = some b := Option.isSome_iff_exists.mp (h.resolve_left hk)
section
variable {P : Program} {w : World} {K : PySem.W.Frag} {mg : Str → Option Value} {base : Heap} {CB CP : Addr} {ts : List TabRec}
theorem sc_windows : FnScope ["book", "told", "before"] ["book", "told"] (defScope sWindows) := ⟨rfl, rfl, rfl, by decide +kernel, rfl, by decide +kernel, by decide +kernel⟩
theorem ok_windows {f fW : Addr} {fd fdW : FuncData} (F : Fun K "answer_windows" "answer_windows" sWindows f fd) (T : BC K CB) (M : Cst mg) (CW : Cal P w K mg base "windows_fit" fW fdW ["windows"] 1 spWFit) : FnOk P w K mg base CX0 2 f fd ["book", "told"] (spA K CB CP ts 4) := by
  refine F.ok sc_windows (fun vs H Q E h => ?_) (fun cdv A outer s H vs Q E hr h => ?_)
  · obtain ⟨bk, tp, tl, s, rfl, _⟩ := h
    rfl
  · obtain ⟨bk, tp, tl, st, rfl, B, ht, hT, hq, -, hs, k⟩ := h
    obtain ⟨a, rfl⟩ := asked_4 hq
    obtain ⟨b, rfl⟩ := some_of (by decide) hs
    obtain ⟨t22, m22⟩ := M.c22
    refine ⟨_, pss_cons (ps_if (pt_not (pt_val (pe_cal CW hr rfl (pa_cons (pe_ix ix_list (pv 1) pe_int (fun _ _ => rfl)) pa_nil)))) (pss_one (ps_ret (pe_lst (pa_cons (pe_glob (v := .int (-22)) rfl m22 ⟨_, rfl⟩) pa_nil)))) pss_nil)
      (pss_cons (ps_set (i := 2) sc_windows.nd rfl (Or.inl rfl) (pe_fld (pv 0) rfl)) (pss_cons (ps_fld (pv 0) (pe_ix ix_list (pv 1) pe_int (fun _ _ => rfl)) rfl) (pss_one (ps_ret (pe_lst (pa_cons (pv 2) pa_nil)))))), ?_⟩
    refine ⟨_, rfl, tp, _, _, _, rfl, rfl, ht, at_of (j := 0) rfl rfl, (a : Int), rfl, _, rfl, ?_⟩
    have est : stp (some b) 4 [(a : Int)] = (if a = 0 ∨ 4 < a then (some b, [-22]) else (some { b with windows := a }, [(b.windows : Int)])) := by
      show ((Kqu5.step (some b) (.windows ((a : Int)).toNat)).1, Kqu5Neutral.tell (Kqu5.step (some b) (.windows ((a : Int)).toNat)).2) = _
      rw [show ((a : Int)).toNat = a from rfl]
      by_cases h : a = 0 ∨ 4 < a
      · rw [if_pos h]; simp [Kqu5.step, h, Kqu5Neutral.tell]
      · rw [if_neg h]; simp [Kqu5.step, h, Kqu5Neutral.tell]
    have ed : (decide ((1 : Int) ≤ a) && decide ((a : Int) ≤ 4)) = decide (¬ (a = 0 ∨ 4 < a)) := by
      rw [Bool.eq_iff_iff]; simp; omega
    rw [ed]
    by_cases hc : a = 0 ∨ 4 < a
    · rw [decide_eq_false (fun z => z hc)]
      rw [if_pos hc] at est
      refine iteT ⟨(by show 1 ≤ sizeLine; decide), fun p hp => ?_⟩
      exact endA (out := [-22]) (Gr.refl H) hp B hT k (by rw [est]) (by rw [est])
    · rw [decide_eq_true hc]
      rw [if_neg hc] at est
      refine iteF ?_
      obtain ⟨pd, w0, l, ⟨⟨dx, hb⟩, hd, nd, hat⟩, rfl, hst⟩ := B
      refine ⟨_, rfl, bk, CB, dx, _, _, rfl, hb, T.cl, T.nW, bkf_w _ _, _, rfl, tp, _, _, _, rfl, rfl, ht, at_of (j := 0) rfl rfl, _, rfl, bk, CB, dx, _, rfl, hb, T.cl, T.nW, (by rw [bkf_len]; decide), _, rfl, (by show 1 ≤ sizeLine; decide), fun p hp => ?_⟩
      rw [bkf_setw] at hp ⊢
      have nbp : bk ≠ p := ne_of_none upd_same hp
      have np : H p = none := by rw [upd_ne nbp.symm] at hp; exact hp
      have kp : ∀ c o, H c = some o → c ≠ bk → upd (upd H bk (.ins CB dx (bkf a pd))) p (.lst [V.int (b.windows : Int)]) c = some o := fun c o e hne => by
        rw [upd_ne (ne_of_none e np), upd_ne hne]; exact e
      have npb : pd ≠ bk := ne_of hd hb (by intro z; cases z)
      refine k _ p ?_ ?_ (fun c o e hk => kp c o e fun z => by rw [z, hb] at e; cases e; cases hk) np ?_
      · rw [est]
        refine ⟨pd, a, l, ⟨⟨dx, by rw [upd_ne nbp]; exact upd_same⟩, kp _ _ hd npb, nd, fun q hq => ?_⟩, rfl, by omega, by omega, hst.2.2.1, hst.2.2.2⟩
        obtain ⟨dq, e⟩ := hat q hq
        refine ⟨dq, kp _ _ e fun z => ?_⟩
        rw [z, hb] at e; cases e
      · exact Tabs.same ((Same.refl _).upd_new hp) (tabs_upd hT hb trivial)
      · rw [est]; exact upd_same
theorem dropK_ps (l : List (Nat × Addr × Person)) (i : Nat) : dropK (psK l) (Sum.inl (i : Int)) = psK (l.filter fun q => decide (q.1 ≠ i)) := by
  unfold dropK
  rw [List.filter_map]
  congr 1
  refine List.filter_congr fun q _ => ?_
  show decide ((Sum.inl (q.1 : Int) : Key) ≠ Sum.inl (i : Int)) = decide (q.1 ≠ i)
  by_cases h : q.1 = i
  · rw [h]; simp
  · rw [decide_eq_true h, decide_eq_true (inl_ne h)]
theorem sc_drop : FnScope ["book", "told", "person"] ["book", "told"] (defScope sDrop) := ⟨rfl, rfl, rfl, by decide +kernel, rfl, by decide +kernel, by decide +kernel⟩
theorem ok_drop {f : Addr} {fd : FuncData} (F : Fun K "answer_drop" "answer_drop" sDrop f fd) (T : BC K CB) (TP : PC K CP) (M : Cst mg) : FnOk P w K mg base CX0 2 f fd ["book", "told"] (spA K CB CP ts 2) := by
  refine F.ok sc_drop (fun vs H Q E h => ?_) (fun cdv A outer s H vs Q E hr h => ?_)
  · obtain ⟨bk, tp, tl, s, rfl, _⟩ := h
    rfl
  · obtain ⟨bk, tp, tl, st, rfl, B, ht, hT, hq, -, hs, k⟩ := h
    obtain ⟨a, rfl⟩ := asked_2 hq
    clear hq
    obtain ⟨b, rfl⟩ := some_of (by decide) hs
    obtain ⟨t2, m2⟩ := M.c2
    have hu := hu_of hr
    refine ⟨_, pss_cons (ps_if (pt_cmp (pc_dnotin hu (pe_ix ix_list (pv 1) pe_int (fun _ _ => rfl)) (pe_fld (pv 0) rfl))) (pss_one (ps_ret (pe_lst (pa_cons (pe_glob (v := .int (-2)) rfl m2 ⟨_, rfl⟩) pa_nil)))) pss_nil)
      (pss_cons (ps_set (i := 2) sc_drop.nd rfl (Or.inl rfl) (pe_dpop1 (pe_fld (pv 0) rfl) (pe_ix ix_list (pv 1) pe_int (fun _ _ => rfl)) ⟨rfl, rfl, rfl, rfl⟩)) (pss_one (ps_ret (pe_lst (pa_cons (pe_fld (pv 2) rfl) pa_nil))))), ?_⟩
    have B0 := B
    obtain ⟨pd, w0, l, ⟨⟨dx, hb⟩, hd, nd, hat⟩, rfl, w1, w2, R, hl, hv⟩ := B
    refine ⟨_, rfl, tp, _, _, _, rfl, rfl, ht, at_of (j := 0) rfl rfl, _, rfl, bk, CB, dx, _, _, rfl, hb, T.cl, T.nP, bkf_p _ _, pd, _, rfl, DGet.k (k := Sum.inl (a : Int)) hd, _, rfl, ?_⟩
    rw [ps_isSome]
    have est : stp (some b) 2 [(a : Int)] = (match b.persons.getD a none with | none => (some b, [-2]) | some p => (some { b with persons := b.persons.set a none }, [(p.counts : Int)])) := by
      show ((Kqu5.step (some b) (.drop a)).1, Kqu5Neutral.tell (Kqu5.step (some b) (.drop a)).2) = _
      cases e : b.persons.getD a none with
      | none => simp only [Kqu5.step, e]; rfl
      | some p => simp only [Kqu5.step, e]; rfl
    by_cases hin : a ∈ keys l
    · rw [decide_eq_true hin]
      refine iteF ?_
      obtain ⟨q, hq, rfl⟩ := List.mem_map.mp hin
      rw [R.get nd hq] at est
      obtain ⟨dq, hpq⟩ := hat q hq
      refine ⟨_, rfl, bk, CB, dx, _, _, rfl, hb, T.cl, T.nP, bkf_p _ _, pd, rfl, .inl ⟨_, .inl hd⟩, _, rfl, tp, _, _, _, rfl, rfl, ht, at_of (j := 0) rfl rfl, psK l, Sum.inl (q.1 : Int), V.ref q.2.1, hd, rfl, ps_val nd hq, ?_⟩
      rw [dropK_ps]
      have kp1 : ∀ c o, H c = some o → c ≠ pd → upd H pd (.dK (psK (l.filter fun r => decide (r.1 ≠ q.1)))) c = some o := fun c o e hne => by rw [upd_ne hne]; exact e
      refine ⟨_, rfl, q.2.1, CP, dq, _, _, rfl, kp1 _ _ hpq (ne_of hpq hd (by intro z; cases z)), TP.cl, TP.nC, pf_counts _, (by show 1 ≤ sizeLine; decide), fun p hp => ?_⟩
      have npp : pd ≠ p := ne_of_none upd_same hp
      have np : H p = none := by rw [upd_ne npp.symm] at hp; exact hp
      have kp : ∀ c o, H c = some o → c ≠ pd → upd (upd H pd (.dK (psK (l.filter fun r => decide (r.1 ≠ q.1))))) p (.lst [V.int (q.2.2.counts : Int)]) c = some o := fun c o e hne => by
        rw [upd_ne (ne_of_none e np)]; exact kp1 c o e hne
      refine k _ p ?_ ?_ (fun c o e hk => kp c o e fun z => by rw [z, hd] at e; cases e; cases hk) np ?_
      · rw [est]
        refine ⟨pd, b.windows, l.filter fun r => decide (r.1 ≠ q.1), ⟨⟨dx, kp _ _ hb (ne_of hb hd (by intro z; cases z))⟩, by rw [upd_ne npp]; exact upd_same, ?_, fun r hr => ?_⟩, rfl, w1, w2, R.drop q.1, Nat.le_trans (List.length_filter_le _ _) hl, fun r hr => hv r (List.mem_filter.mp hr).1⟩
        · exact nd.sublist ((List.filter_sublist (l := l)).map _)
        · obtain ⟨dr, e⟩ := hat r (List.mem_filter.mp hr).1
          exact ⟨dr, kp _ _ e (ne_of e hd (by intro z; cases z))⟩
      · exact Tabs.same ((Same.refl _).upd_new hp) (tabs_upd hT hd trivial)
      · rw [est]; exact upd_same
    · rw [decide_eq_false hin]
      rw [R.none hin] at est
      refine iteT ⟨(by show 1 ≤ sizeLine; decide), fun p hp => ?_⟩
      exact endA (out := [-2]) (Gr.refl H) hp B0 hT k (by rw [est]) (by rw [est])
end
end Ap

set_option Elab.async false
set_option linter.all false
set_option maxRecDepth 100000
set_option maxHeartbeats 8000000
namespace Ap
open PySem PySem.Spec PyProof.Rows L2
open Kqu5 (Person Book)
open Kqu5Neutral (asked1)
/-- a class that is called to make persons -/
structure MkP (P : Program) (w : World) (K : PySem.W.Frag) (mg : Str → Option Value) (base : Heap) (C fI : Addr) (fdI : FuncData) : Prop where
  mak : Mk K C fI
  fn : FnOk P w K mg base CX0 1 fI fdI ["self", "first", "end", "counts"] (spPInit C)
  b : Binds K fdI ["self", "first", "end", "counts"] []
  m : mg "Person" = some (.ref C)
theorem putK_ps_new {l : List (Nat × Addr × Person)} {n : Nat} {a : Addr} {p : Person} (h : n ∉ keys l) : putK (psK l) (Sum.inl (n : Int)) (V.ref a) = psK (l ++ [(n, a, p)]) := by
  have : valV (psK l) (Sum.inl (n : Int)) = none := by
    have e := ps_isSome l n
    rw [decide_eq_false h] at e
    cases hv : valV (psK l) (Sum.inl (n : Int)) with
    | none => rfl
    | some v => rw [hv] at e; cases e
  rw [putK_new _ this, psK, psK, List.map_append]
  rfl
theorem putK_ps_old {l : List (Nat × Addr × Person)} {n : Nat} {a : Addr} {p : Person} (h : n ∈ keys l) : putK (psK l) (Sum.inl (n : Int)) (V.ref a) = psK (l.map fun q => if q.1 = n then (n, a, p) else q) := by
  have hs : ((psK l).any fun kv => decide (kv.1 = Sum.inl (n : Int))) = true := by
    rw [valV_any, ps_isSome, decide_eq_true h]
  unfold putK
  rw [if_pos hs, psK, psK, List.map_map, List.map_map]
  refine List.map_congr_left fun q _ => ?_
  show (if (Sum.inl (q.1 : Int) : Key) = Sum.inl (n : Int) then ((Sum.inl (q.1 : Int) : Key), V.ref a) else (Sum.inl (q.1 : Int), V.ref q.2.1)) = _
  by_cases e : q.1 = n
  · rw [if_pos (by rw [e])]
    show _ = ((Sum.inl (((if q.1 = n then (n, a, p) else q).1 : Nat) : Int) : Key), V.ref (if q.1 = n then (n, a, p) else q).2.1)
    rw [if_pos e, e]
  · rw [if_neg (inl_ne e)]
    show _ = ((Sum.inl (((if q.1 = n then (n, a, p) else q).1 : Nat) : Int) : Key), V.ref (if q.1 = n then (n, a, p) else q).2.1)
    rw [if_neg e]
theorem okSpan_iff (r d : Nat) : (decide ((r : Int) < d) && decide ((d : Int) ≤ 40)) = Kqu5.okSpan r d := by
  unfold Kqu5.okSpan
  rw [Bool.eq_iff_iff]
  simp only [Bool.and_eq_true, decide_eq_true_eq]
  show ((r : Int) < d ∧ (d : Int) ≤ 40) ↔ (r < d ∧ d ≤ 40)
  omega
section
variable {P : Program} {w : World} {K : PySem.W.Frag} {mg : Str → Option Value} {base : Heap} {CB CP : Addr} {ts : List TabRec}
theorem sc_ask : FnScope ["book", "told", "number"] ["book", "told"] (defScope sAsk) := ⟨rfl, rfl, rfl, by decide +kernel, rfl, by decide +kernel, by decide +kernel⟩
theorem ok_ask {f fT fF fI : Addr} {fd fdT fdF fdI : FuncData} (F : Fun K "answer_ask" "answer_ask" sAsk f fd) (T : BC K CB) (TP : PC K CP) (M : Cst mg) (hlen : mg "len" = none) (CT : Cal P w K mg base "time_fits" fT fdT ["first", "end"] 1 spTFit)
    (CF : Cal P w K mg base "least_free_number" fF fdF ["persons"] 1 spFree) (MP : MkP P w K mg base CP fI fdI) : FnOk P w K mg base CX0 3 f fd ["book", "told"] (spA K CB CP ts 1) := by
  refine F.ok sc_ask (fun vs H Q E h => ?_) (fun cdv A outer s H vs Q E hr h => ?_)
  · obtain ⟨bk, tp, tl, s, rfl, _⟩ := h
    rfl
  · obtain ⟨bk, tp, tl, st, rfl, B, ht, hT, hq, -, hs, k⟩ := h
    obtain ⟨r, d, v, rfl⟩ := asked_1 hq
    clear hq
    obtain ⟨b, rfl⟩ := some_of (by decide) hs
    obtain ⟨t22, m22⟩ := M.c22
    obtain ⟨t28, m28⟩ := M.c28
    obtain ⟨t10, m10⟩ := M.c10
    obtain ⟨t100, m100⟩ := M.c100
    have hu := hu_of hr
    have hr1 : Room 1 _ := hr.mono (by decide)
    refine ⟨_, pss_cons (ps_if (PW.pt (pw_or (pt_not (pt_val (pe_cal CT hr1 rfl (pa_cons (pe_ix ix_list (pv 1) pe_int (fun _ _ => rfl)) (pa_cons (pe_ix ix_list (pv 1) pe_int (fun _ _ => rfl)) pa_nil))))) (pw_or1 (pt_cmpR op_gt (pe_ix ix_list (pv 1) pe_int (fun _ _ => rfl)) (pe_glob (v := .int 100) rfl m100 ⟨_, rfl⟩) (nomark _)))))
        (pss_one (ps_ret (pe_lst (pa_cons (pe_glob (v := .int (-22)) rfl m22 ⟨_, rfl⟩) pa_nil)))) pss_nil)
      (pss_cons (ps_if (pt_cmpR op_ge (pe_callB call_lenD (by rfl) hlen PySem.boot_len (pa_cons (pe_fld (pv 0) rfl) pa_nil)) (pe_glob (v := .int 10) rfl m10 ⟨_, rfl⟩) (nomark _)) (pss_one (ps_ret (pe_lst (pa_cons (pe_glob (v := .int (-28)) rfl m28 ⟨_, rfl⟩) pa_nil)))) pss_nil)
      (pss_cons (ps_set (i := 2) sc_ask.nd rfl (Or.inl rfl) (pe_cal CF hr1 rfl (pa_cons (pe_fld (pv 0) rfl) pa_nil)))
      (pss_cons (ps_dput hu (pe_fld (pv 0) rfl) (pv 2) (pe_make MP.mak MP.fn hr rfl MP.m MP.b .nil pass0 (pa_cons (pe_ix ix_list (pv 1) pe_int (fun _ _ => rfl)) (pa_cons (pe_ix ix_list (pv 1) pe_int (fun _ _ => rfl)) (pa_cons (pe_ix ix_list (pv 1) pe_int (fun _ _ => rfl)) pa_nil)))) rfl)
      (pss_one (ps_ret (pe_lst (pa_cons (pv 2) pa_nil))))))), ?_⟩
    have B0 := B
    obtain ⟨pd, w0, l, ⟨⟨dx, hb⟩, hd, nd, hat⟩, rfl, w1, w2, R, hl, hv⟩ := B
    have hids : (Kqu5.ids b).length = l.length := by rw [R.ids_eq nd, (rising_perm _).length_eq, List.length_map]
    have est : stp (some b) 1 [(r : Int), (d : Int), (v : Int)] = (if Kqu5.okSpan r d = false ∨ 100 < v then (some b, [-22]) else if 10 ≤ l.length then (some b, [-28]) else (some { b with persons := Kqu5.putIn b.persons ⟨r, d, v⟩ }, [(Kqu5.firstFree b.persons : Int)])) := by
      show ((Kqu5.step (some b) (.ask r d v)).1, Kqu5Neutral.tell (Kqu5.step (some b) (.ask r d v)).2) = _
      by_cases h1 : Kqu5.okSpan r d = false ∨ 100 < v
      · rw [if_pos h1]; simp only [Kqu5.step, if_pos h1]; rfl
      · rw [if_neg h1]
        by_cases h2 : 10 ≤ l.length
        · rw [if_pos h2]; simp only [Kqu5.step, if_neg h1, hids, if_pos h2]; rfl
        · rw [if_neg h2]; simp only [Kqu5.step, if_neg h1, hids, if_neg h2]; rfl
    have e22 : Kqu5.okSpan r d = false ∨ 100 < v → ∀ p, H p = none → Q (.ref p) (upd H p (.lst [V.int (-22)])) := fun h1 p hp => by
      rw [if_pos h1] at est
      exact endA (out := [-22]) (Gr.refl H) hp B0 hT k (by rw [est]) (by rw [est])
    refine ⟨_, rfl, tp, _, _, _, rfl, rfl, ht, at_of (j := 0) rfl rfl, _, rfl, tp, _, _, _, rfl, rfl, ht, at_of (j := 1) rfl rfl, (r : Int), (d : Int), rfl, _, rfl, ?_⟩
    rw [okSpan_iff]
    cases hok : Kqu5.okSpan r d with
    | false => exact iteT (iteT ⟨(by show 1 ≤ sizeLine; decide), e22 (.inl hok)⟩)
    | true =>
      refine iteF ⟨_, rfl, tp, _, _, _, rfl, rfl, ht, at_of (j := 2) rfl rfl, _, _, rfl, rfl, _, rfl, ite2 (fun z => ?_) fun z => ?_⟩
      · have z := of_decide_eq_true z
        exact ⟨(by show 1 ≤ sizeLine; decide), e22 (.inr (by omega))⟩
      · have z : ¬ (100 : Int) < v := fun y => z (decide_eq_true y)
        have h1 : ¬ (Kqu5.okSpan r d = false ∨ 100 < v) := fun y => y.elim (fun y => by rw [hok] at y; cases y) fun y => z (by omega)
        rw [if_neg h1] at est
        refine ⟨_, rfl, bk, CB, dx, _, _, rfl, hb, T.cl, T.nP, bkf_p _ _, pd, psK l, rfl, hd, _, _, rfl, rfl, _, rfl, ite2 (fun y => ?_) fun y => ?_⟩
        · have y := of_decide_eq_true y
          rw [List.length_map] at y
          have h2 : 10 ≤ l.length := by omega
          rw [if_pos h2] at est
          refine ⟨(by show 1 ≤ sizeLine; decide), fun p hp => ?_⟩
          exact endA (out := [-28]) (Gr.refl H) hp B0 hT k (by rw [est]) (by rw [est])
        · have h2 : ¬ 10 ≤ l.length := fun h => y (decide_eq_true (by rw [List.length_map]; omega))
          rw [if_neg h2] at est
          refine ⟨_, rfl, bk, CB, dx, _, _, rfl, hb, T.cl, T.nP, bkf_p _ _, pd, l, rfl, .inl hd, fun n hn1 hn2 => ?_⟩
          rw [R.free hn1 hn2] at est
          refine ⟨_, rfl, tp, _, _, _, rfl, rfl, ht, at_of (j := 0) rfl rfl, _, rfl, tp, _, _, _, rfl, rfl, ht, at_of (j := 1) rfl rfl, _, rfl, tp, _, _, _, rfl, rfl, ht, at_of (j := 2) rfl rfl, ?_⟩
          intro x dxp nx ndx nex
          refine ⟨x, dxp, ⟨r, d, v⟩, rfl, upd_same, fun H1 hp1 kp1 => ⟨rfl, ?_⟩⟩
          have S1 : Same H H1 := Same.made nx ndx kp1
          have hd1 := S1 _ _ hd
          have hb1 := S1 _ _ hb
          obtain ⟨dx1, hx1⟩ := hp1
          have npx : x ≠ pd := ne_of hx1 hd1 (by intro z; cases z)
          refine ⟨_, rfl, bk, CB, dx, _, _, rfl, hb1, T.cl, T.nP, bkf_p _ _, _, rfl, pd, _, rfl, DPut.k (k := Sum.inl (n : Int)) hd1 (by rw [List.length_map]; exact Nat.lt_of_le_of_lt hl (by decide)), ?_⟩
          rw [putK_ps_new (p := ⟨r, d, v⟩) hn2]
          refine ⟨_, rfl, (by show 1 ≤ sizeLine; decide), fun p hp => ?_⟩
          have npp : pd ≠ p := ne_of_none upd_same hp
          have np1 : H1 p = none := by rw [upd_ne npp.symm] at hp; exact hp
          have kp : ∀ c o, H1 c = some o → c ≠ pd → upd (upd H1 pd (.dK (psK (l ++ [(n, x, ⟨r, d, v⟩)])))) p (.lst [V.int (n : Int)]) c = some o := fun c o e hne => by
            rw [upd_ne (ne_of_none e np1), upd_ne hne]; exact e
          refine k _ p ?_ ?_ (fun c o e hk => kp c o (S1 _ _ e) fun z => by rw [z, hd] at e; cases e; cases hk) (S1.free np1) ?_
          · rw [est]
            refine ⟨pd, b.windows, l ++ [(n, x, ⟨r, d, v⟩)], ⟨⟨dx, kp _ _ hb1 (ne_of hb1 hd1 (by intro z; cases z))⟩, by rw [upd_ne npp]; exact upd_same, ?_, fun q hq => ?_⟩, rfl, w1, w2, R.put hn1 hn2, ?_, fun q hq => ?_⟩
            · rw [keys, List.map_append]
              exact nd_snoc nd hn2
            · rcases List.mem_append.mp hq with hq | hq
              · obtain ⟨dq, e⟩ := hat q hq
                exact ⟨dq, kp _ _ (S1 _ _ e) (ne_of e hd (by intro z; cases z))⟩
              · rw [List.mem_singleton.mp hq]
                exact ⟨dx1, kp _ _ hx1 npx⟩
            · rw [List.length_append]; show l.length + 1 ≤ 10; omega
            · rcases List.mem_append.mp hq with hq | hq
              · exact hv q hq
              · rw [List.mem_singleton.mp hq]
                unfold Kqu5.okSpan at hok
                simp at hok
                exact ⟨hok.1, hok.2, show v ≤ 100 by omega⟩
          · exact Tabs.same ((Same.refl _).upd_new hp) (tabs_upd (Tabs.same S1 hT) hd1 trivial)
          · rw [est]; exact upd_same
end
end Ap

set_option Elab.async false
set_option linter.all false
set_option maxRecDepth 100000
set_option maxHeartbeats 8000000
namespace Ap
open PySem PySem.Spec PyProof.Rows L2
open Kqu5 (Person Book)
open Kqu5Neutral (asked1)
section
variable {P : Program} {w : World} {K : PySem.W.Frag} {mg : Str → Option Value} {base : Heap} {CB CP : Addr} {ts : List TabRec}
theorem sc_move : FnScope ["book", "told", "before"] ["book", "told"] (defScope sMove) := ⟨rfl, rfl, rfl, by decide +kernel, rfl, by decide +kernel, by decide +kernel⟩
theorem keys_set (l : List (Nat × Addr × Person)) (n : Nat) (a : Addr) (p : Person) : keys (l.map fun q => if q.1 = n then (n, a, p) else q) = keys l := by
  rw [keys, List.map_map]
  refine List.map_congr_left fun q _ => ?_
  show (if q.1 = n then (n, a, p) else q).1 = q.1
  by_cases e : q.1 = n
  · rw [if_pos e]; exact e.symm
  · rw [if_neg e]
theorem mem_set {l : List (Nat × Addr × Person)} {n : Nat} {a : Addr} {p : Person} {q : Nat × Addr × Person} (h : q ∈ l.map fun q => if q.1 = n then (n, a, p) else q) : q ∈ l ∨ q = (n, a, p) := by
  obtain ⟨r, hr, e⟩ := List.mem_map.mp h
  by_cases z : r.1 = n
  · rw [if_pos z] at e; exact .inr e.symm
  · rw [if_neg z] at e; rw [← e]; exact .inl hr
theorem ok_move {f fT fI : Addr} {fd fdT fdI : FuncData} (F : Fun K "answer_move" "answer_move" sMove f fd) (T : BC K CB) (TP : PC K CP) (M : Cst mg) (CT : Cal P w K mg base "time_fits" fT fdT ["first", "end"] 1 spTFit)
    (MP : MkP P w K mg base CP fI fdI) : FnOk P w K mg base CX0 3 f fd ["book", "told"] (spA K CB CP ts 3) := by
  refine F.ok sc_move (fun vs H Q E h => ?_) (fun cdv A outer s H vs Q E hr h => ?_)
  · obtain ⟨bk, tp, tl, s, rfl, _⟩ := h
    rfl
  · obtain ⟨bk, tp, tl, st, rfl, B, ht, hT, hq, -, hs, k⟩ := h
    obtain ⟨a, r, d, rfl⟩ := asked_3 hq
    clear hq
    obtain ⟨b, rfl⟩ := some_of (by decide) hs
    obtain ⟨t22, m22⟩ := M.c22
    obtain ⟨t2, m2⟩ := M.c2
    have hu := hu_of hr
    have hr1 : Room 1 _ := hr.mono (by decide)
    refine ⟨_, pss_cons (ps_if (pt_cmp (pc_dnotin hu (pe_ix ix_list (pv 1) pe_int (fun _ _ => rfl)) (pe_fld (pv 0) rfl))) (pss_one (ps_ret (pe_lst (pa_cons (pe_glob (v := .int (-2)) rfl m2 ⟨_, rfl⟩) pa_nil)))) pss_nil)
      (pss_cons (ps_if (pt_not (pt_val (pe_cal CT hr1 rfl (pa_cons (pe_ix ix_list (pv 1) pe_int (fun _ _ => rfl)) (pa_cons (pe_ix ix_list (pv 1) pe_int (fun _ _ => rfl)) pa_nil))))) (pss_one (ps_ret (pe_lst (pa_cons (pe_glob (v := .int (-22)) rfl m22 ⟨_, rfl⟩) pa_nil)))) pss_nil)
      (pss_cons (ps_set (i := 2) sc_move.nd rfl (Or.inl rfl) (pe_dget hu (pe_fld (pv 0) rfl) (pe_ix ix_list (pv 1) pe_int (fun _ _ => rfl)) (fun _ _ => rfl)))
      (pss_cons (ps_dput hu (pe_fld (pv 0) rfl) (pe_ix ix_list (pv 1) pe_int (fun _ _ => rfl)) (pe_make MP.mak MP.fn hr rfl MP.m MP.b .nil pass0 (pa_cons (pe_ix ix_list (pv 1) pe_int (fun _ _ => rfl)) (pa_cons (pe_ix ix_list (pv 1) pe_int (fun _ _ => rfl)) (pa_cons (pe_fld (pv 2) rfl) pa_nil)))) rfl)
      (pss_one (ps_ret (pe_lst (pa_cons (pe_fld (pv 2) rfl) (pa_cons (pe_fld (pv 2) rfl) pa_nil)))))))), ?_⟩
    have B0 := B
    obtain ⟨pd, w0, l, ⟨⟨dx, hb⟩, hd, nd, hat⟩, rfl, w1, w2, R, hl, hv⟩ := B
    have est : stp (some b) 3 [(a : Int), (r : Int), (d : Int)] = (match b.persons.getD a none with | none => (some b, [-2]) | some p => if Kqu5.okSpan r d = false then (some b, [-22]) else (some { b with persons := b.persons.set a (some { p with from_ := r, to := d }) }, [(p.from_ : Int), (p.to : Int)])) := by
      show ((Kqu5.step (some b) (.move a r d)).1, Kqu5Neutral.tell (Kqu5.step (some b) (.move a r d)).2) = _
      cases e : b.persons.getD a none with
      | none => simp only [Kqu5.step, e]; rfl
      | some p =>
        by_cases h : Kqu5.okSpan r d = false
        · simp only [Kqu5.step, e, if_pos h]; rfl
        · simp only [Kqu5.step, e, if_neg h]; rfl
    refine ⟨_, rfl, tp, _, _, _, rfl, rfl, ht, at_of (j := 0) rfl rfl, _, rfl, bk, CB, dx, _, _, rfl, hb, T.cl, T.nP, bkf_p _ _, pd, _, rfl, DGet.k (k := Sum.inl (a : Int)) hd, _, rfl, ?_⟩
    rw [ps_isSome]
    by_cases hin : a ∈ keys l
    · rw [decide_eq_true hin]
      refine iteF ?_
      obtain ⟨q, hq, rfl⟩ := List.mem_map.mp hin
      rw [R.get nd hq] at est
      obtain ⟨dq, hpq⟩ := hat q hq
      refine ⟨_, rfl, tp, _, _, _, rfl, rfl, ht, at_of (j := 1) rfl rfl, _, rfl, tp, _, _, _, rfl, rfl, ht, at_of (j := 2) rfl rfl, (r : Int), (d : Int), rfl, _, rfl, ?_⟩
      rw [okSpan_iff]
      cases hok : Kqu5.okSpan r d with
      | false =>
        have est : stp (some b) 3 [(q.1 : Int), (r : Int), (d : Int)] = (some b, [-22]) := by rw [est]; simp only [hok, if_true]
        refine iteT ⟨(by show 1 ≤ sizeLine; decide), fun p hp => ?_⟩
        exact endA (out := [-22]) (Gr.refl H) hp B0 hT k (by rw [est]) (by rw [est])
      | true =>
        have est : stp (some b) 3 [(q.1 : Int), (r : Int), (d : Int)] = (some { b with persons := b.persons.set q.1 (some { q.2.2 with from_ := r, to := d }) }, [(q.2.2.from_ : Int), (q.2.2.to : Int)]) := by rw [est]; simp only [hok]; rfl
        refine iteF ⟨_, rfl, bk, CB, dx, _, _, rfl, hb, T.cl, T.nP, bkf_p _ _, _, rfl, tp, _, _, _, rfl, rfl, ht, at_of (j := 0) rfl rfl, pd, V.ref q.2.1, rfl, .inl ⟨psK l, Sum.inl (q.1 : Int), .inl hd, rfl, (ps_val nd hq).symm⟩, ?_⟩
        refine ⟨_, rfl, tp, _, _, _, rfl, rfl, ht, at_of (j := 1) rfl rfl, _, rfl, tp, _, _, _, rfl, rfl, ht, at_of (j := 2) rfl rfl, _, rfl, q.2.1, CP, dq, _, _, rfl, hpq, TP.cl, TP.nC, pf_counts _, ?_⟩
        intro x dxp nx ndx nex
        refine ⟨x, dxp, { q.2.2 with from_ := r, to := d }, rfl, upd_same, fun H1 hp1 kp1 => ⟨rfl, ?_⟩⟩
        have S1 : Same H H1 := Same.made nx ndx kp1
        have hd1 := S1 _ _ hd
        have hb1 := S1 _ _ hb
        have ht1 := S1.seq ht
        obtain ⟨dx1, hx1⟩ := hp1
        have npx : x ≠ pd := ne_of hx1 hd1 (by intro z; cases z)
        refine ⟨_, rfl, bk, CB, dx, _, _, rfl, hb1, T.cl, T.nP, bkf_p _ _, _, rfl, tp, _, _, _, rfl, rfl, ht1, at_of (j := 0) rfl rfl, pd, _, rfl, DPut.k (k := Sum.inl (q.1 : Int)) hd1 (by rw [List.length_map]; exact Nat.lt_of_le_of_lt hl (by decide)), ?_⟩
        rw [putK_ps_old (p := { q.2.2 with from_ := r, to := d }) hin]
        have kp2 : ∀ c o, H1 c = some o → c ≠ pd → upd H1 pd (.dK (psK (l.map fun z => if z.1 = q.1 then (q.1, x, { q.2.2 with from_ := r, to := d }) else z))) c = some o := fun c o e hne => by rw [upd_ne hne]; exact e
        have hq2 := kp2 _ _ (S1 _ _ hpq) (ne_of hpq hd (by intro z; cases z))
        refine ⟨_, rfl, q.2.1, CP, dq, _, _, rfl, hq2, TP.cl, TP.nF, pf_first _, _, rfl, q.2.1, CP, dq, _, _, rfl, hq2, TP.cl, TP.nE, pf_end _, (by show 2 ≤ sizeLine; decide), fun p hp => ?_⟩
        have npp : pd ≠ p := ne_of_none upd_same hp
        have np1 : H1 p = none := by rw [upd_ne npp.symm] at hp; exact hp
        have kp : ∀ c o, H1 c = some o → c ≠ pd → upd (upd H1 pd (.dK (psK (l.map fun z => if z.1 = q.1 then (q.1, x, { q.2.2 with from_ := r, to := d }) else z)))) p (.lst [V.int (q.2.2.from_ : Int), V.int (q.2.2.to : Int)]) c = some o := fun c o e hne => by
          rw [upd_ne (ne_of_none e np1)]; exact kp2 c o e hne
        refine k _ p ?_ ?_ (fun c o e hk => kp c o (S1 _ _ e) fun z => by rw [z, hd] at e; cases e; cases hk) (S1.free np1) ?_
        · rw [est]
          refine ⟨pd, b.windows, _, ⟨⟨dx, kp _ _ hb1 (ne_of hb1 hd1 (by intro z; cases z))⟩, by rw [upd_ne npp]; exact upd_same, by rw [keys_set]; exact nd, fun z hz => ?_⟩, rfl, w1, w2, R.set hin, by rw [List.length_map]; exact hl, fun z hz => ?_⟩
          · rcases mem_set hz with hz | rfl
            · obtain ⟨dz, e⟩ := hat z hz
              exact ⟨dz, kp _ _ (S1 _ _ e) (ne_of e hd (by intro z; cases z))⟩
            · exact ⟨dx1, kp _ _ hx1 npx⟩
          · rcases mem_set hz with hz | rfl
            · exact hv z hz
            · unfold Kqu5.okSpan at hok
              simp at hok
              exact ⟨hok.1, hok.2, (hv q hq).2.2⟩
        · exact Tabs.same ((Same.refl _).upd_new hp) (tabs_upd (Tabs.same S1 hT) hd1 trivial)
        · rw [est]; exact upd_same
    · rw [decide_eq_false hin]
      rw [R.none hin] at est
      refine iteT ⟨(by show 1 ≤ sizeLine; decide), fun p hp => ?_⟩
      exact endA (out := [-2]) (Gr.refl H) hp B0 hT k (by rw [est]) (by rw [est])
end
end Ap

set_option Elab.async false
set_option linter.all false
set_option maxRecDepth 100000
set_option maxHeartbeats 8000000
namespace Ap
open PySem PySem.Spec PyProof.Rows L2
open Kqu5 (Person Book)
abbrev sAllServed : Stmt := top 6
abbrev sAllWith : Stmt := top 7
theorem Gr.put {ts : List TabRec} {H H' : Hp} {a : Addr} {o o' : HO} (g : Gr ts H H') (hn : H a = none) (e : H' a = some o) (hk : match o with | .dK _ => True | .lst _ => True | .ins _ _ _ => True | _ => False) : Gr ts H (upd H' a o') :=
  ⟨fun c u ec hu => by rw [upd_ne (ne_of_none ec hn)]; exact g.keep c u ec hu, fun h => tabs_upd (g.tabs h) e hk, fun c qs ec => by rw [upd_ne (ne_of_none ec hn)]; exact g.tb c qs ec⟩
/-- one person put under a number -/
def putL (l : List (Nat × Addr × Person)) (n : Nat) (a : Addr) (p : Person) : List (Nat × Addr × Person) := if n ∈ keys l then l.map fun q => if q.1 = n then (n, a, p) else q else l ++ [(n, a, p)]
theorem keys_setL (l : List (Nat × Addr × Person)) (n : Nat) (a : Addr) (p : Person) : keys (l.map fun q => if q.1 = n then (n, a, p) else q) = keys l := by
  rw [keys, List.map_map]
  refine List.map_congr_left fun q _ => ?_
  show (if q.1 = n then (n, a, p) else q).1 = q.1
  by_cases e : q.1 = n
  · rw [if_pos e]; exact e.symm
  · rw [if_neg e]
theorem putL_old {l : List (Nat × Addr × Person)} {n : Nat} {a : Addr} {p : Person} (h : n ∈ keys l) : putL l n a p = l.map fun q => if q.1 = n then (n, a, p) else q := if_pos h
theorem putL_new {l : List (Nat × Addr × Person)} {n : Nat} {a : Addr} {p : Person} (h : n ∉ keys l) : putL l n a p = l ++ [(n, a, p)] := if_neg h
theorem putK_putL (l : List (Nat × Addr × Person)) (n : Nat) (a : Addr) (p : Person) : putK (psK l) (Sum.inl (n : Int)) (V.ref a) = psK (putL l n a p) := by
  by_cases h : n ∈ keys l
  · rw [putL_old h, putK_ps_old h]
  · rw [putL_new h, putK_ps_new h]
theorem keys_snoc (l : List (Nat × Addr × Person)) (q : Nat × Addr × Person) : keys (l ++ [q]) = keys l ++ [q.1] := by rw [keys, List.map_append]; rfl
theorem putL_nodup {l : List (Nat × Addr × Person)} {n : Nat} {a : Addr} {p : Person} (nd : (keys l).Nodup) : (keys (putL l n a p)).Nodup := by
  by_cases h : n ∈ keys l
  · rw [putL_old h, keys_setL]; exact nd
  · rw [putL_new h, keys_snoc]; exact nd_snoc nd h
theorem putL_len (l : List (Nat × Addr × Person)) (n : Nat) (a : Addr) (p : Person) : (putL l n a p).length ≤ l.length + 1 := by
  by_cases h : n ∈ keys l
  · rw [putL_old h, List.length_map]; omega
  · rw [putL_new h, List.length_append]; exact Nat.le_refl _
theorem mem_putL {l : List (Nat × Addr × Person)} {n : Nat} {a : Addr} {p : Person} {q : Nat × Addr × Person} (hq : q ∈ putL l n a p) : q ∈ l ∨ q = (n, a, p) := by
  by_cases h : n ∈ keys l
  · rw [putL_old h] at hq
    obtain ⟨r, hr, e⟩ := List.mem_map.mp hq
    by_cases z : r.1 = n
    · rw [if_pos z] at e; exact .inr e.symm
    · rw [if_neg z] at e; rw [← e]; exact .inl hr
  · rw [putL_new h] at hq
    rcases List.mem_append.mp hq with hq | hq
    · exact .inl hq
    · exact .inr (List.mem_singleton.mp hq)
def spAllS (C : Addr) (ts : List TabRec) : Sp := fun vs H Q _ => ∃ (d : Addr) (l : List (Nat × Addr × Person)) (b : Book) (m : Nat), vs = [.ref d, .int m] ∧ PsAt C H d l ∧ l.length < 64 ∧ Tabs ts H ∧ Ag b l ∧ ∀ H' : Hp, Gr ts H H' → Q (.bl (Kqu5.can b m (keys l))) H'
def spAllW (C : Addr) (ts : List TabRec) : Sp := fun vs H Q _ => ∃ (d : Addr) (l : List (Nat × Addr × Person)) (b : Book) (m n : Nat) (a : Addr) (p : Person), vs = [.ref d, .int m, .int n, .ref a] ∧ PsAt C H d l ∧ l.length < 63 ∧ PersonAt C H a p ∧ Tabs ts H ∧ Ag b (putL l n a p) ∧ ∀ H' : Hp, Gr ts H H' → Q (.bl (Kqu5.can b m (keys (putL l n a p)))) H'
theorem can_dec (b : Book) (m : Nat) (L : List Nat) (x y : Int) (hx : x = (Kqu5.plan b m L).length) (hy : y = L.length) : decide (V.int x = V.int y) = Kqu5.can b m L := by
  subst hx hy
  unfold Kqu5.can
  rw [Bool.eq_iff_iff]
  simp
  omega
section
variable {P : Program} {w : World} {K : PySem.W.Frag} {mg : Str → Option Value} {base : Heap} {C : Addr} {ts : List TabRec}
theorem sc_alls : FnScope ["persons", "windows"] ["persons", "windows"] (defScope sAllServed) := ⟨rfl, rfl, rfl, by decide +kernel, rfl, by decide +kernel, by decide +kernel⟩
theorem ok_alls {f fP : Addr} {fd fdP : FuncData} (F : Fun K "all_served" "all_served" sAllServed f fd) (hlen : mg "len" = none) (CPl : Cal P w K mg base "plan_of" fP fdP ["persons", "windows"] 6 (spPlan C ts)) : FnOk P w K mg base CX0 7 f fd ["persons", "windows"] (spAllS C ts) := by
  refine F.ok sc_alls (fun vs H Q E h => ?_) (fun cdv A outer s H vs Q E hr h => ?_)
  · obtain ⟨d, l, b, m, rfl, _⟩ := h
    rfl
  · obtain ⟨d, l, b, m, rfl, hP, hl, hT, hA, k⟩ := h
    refine ⟨_, pss_one (ps_ret (pe_cmpR op_eq (pe_callB call_lenD (by rfl) hlen PySem.boot_len (pa_cons (pe_cal CPl hr rfl (pa_cons (pv 0) (pa_cons (pv 1) pa_nil))) pa_nil)) (pe_callB call_lenD (by rfl) hlen PySem.boot_len (pa_cons (pv 0) pa_nil)) (nomark _))), ?_⟩
    refine ⟨_, rfl, _, rfl, d, l, b, m, rfl, hP, hl, hT, hA, fun H1 p g1 np hp => ?_⟩
    refine ⟨p, _, rfl, hp, _, rfl, d, _, rfl, g1.keep _ _ hP.dict rfl, rfl, ?_⟩
    rw [can_dec b m (keys l) _ _ (by rw [List.length_map]) (by rw [List.length_map, List.length_map])]
    exact k H1 g1
abbrev nWith : List Str := ["persons", "windows", "number", "person", "changed"]
theorem sc_allw : FnScope nWith ["persons", "windows", "number", "person"] (defScope sAllWith) := ⟨rfl, rfl, rfl, by decide +kernel, rfl, by decide +kernel, by decide +kernel⟩
theorem ok_allw {f fA : Addr} {fd fdA : FuncData} (F : Fun K "all_served_with" "all_served_with" sAllWith f fd) (hdi : mg "dict" = none) (CA : Cal P w K mg base "all_served" fA fdA ["persons", "windows"] 7 (spAllS C ts)) : FnOk P w K mg base CX0 8 f fd ["persons", "windows", "number", "person"] (spAllW C ts) := by
  refine F.ok sc_allw (fun vs H Q E h => ?_) (fun cdv A outer s H vs Q E hr h => ?_)
  · obtain ⟨d, l, b, m, n, a, p, rfl, _⟩ := h
    rfl
  · obtain ⟨d, l, b, m, n, a, p, rfl, hP, hl, hPa, hT, hA, k⟩ := h
    have hu := hu_of hr
    refine ⟨_, pss_cons (ps_set (i := 4) sc_allw.nd rfl (Or.inl rfl) (pe_callTy call_dictC (by rfl) hdi bootDict (pa_cons (pv 0) pa_nil)))
      (pss_cons (ps_dput hu (pv 4) (pv 2) (pv 3) rfl)
      (pss_one (ps_ret (pe_cal CA hr rfl (pa_cons (pv 4) (pa_cons (pv 1) pa_nil)))))), ?_⟩
    refine ⟨_, rfl, d, _, rfl, hP.rd, fun q hq => ?_⟩
    refine ⟨_, rfl, _, rfl, _, rfl, q, _, rfl, DPut.k (k := Sum.inl (n : Int)) upd_same (by rw [List.length_map]; exact Nat.lt_trans hl (by decide)), ?_⟩
    rw [upd_upd, putK_putL (p := p)]
    have g1 : Gr ts H (upd H q (.dK (psK (putL l n a p)))) := (Gr.refl H).upd hq
    refine ⟨_, rfl, _, rfl, q, putL l n a p, b, m, rfl, ⟨upd_same, putL_nodup hP.nd, fun r hr => ?_⟩, ?_, g1.tabs hT, hA, fun H1 g2 => k H1 (g1.trans g2)⟩
    · rcases mem_putL hr with hr | rfl
      · exact (hP.at_ r hr).gr g1
      · exact hPa.gr g1
    · have := putL_len l n a p
      omega
end
end Ap

set_option Elab.async false
set_option linter.all false
set_option maxRecDepth 100000
set_option maxHeartbeats 8000000
namespace Ap
open PySem PySem.Spec PyProof.Rows L2
open Kqu5 (Person Book)
open Kqu5Neutral (asked1)
abbrev sPlaceTold : Stmt := top 39
abbrev sAPlan : Stmt := top 40
abbrev sLeft : Stmt := top 41
abbrev sSlot : Stmt := top 42
abbrev sAt : Stmt := top 43
abbrev sCan : Stmt := top 44
/-- a comprehension over a list of numbers that leaves all else as it is -/
theorem lc_fm {K : PySem.W.Frag} {a : Addr} {L : List Nat} {f : Nat → Bool} {g : Nat → Int} {n : Nat} {tt : TT} {te : TE} {vs : List Nat} {σ : L2.St} {H1 : Hp} {D : Addr} {Qd : Hp → Prop} (hD : H1 D = none) (ha : H1 a = some (.lst ((up L).map V.int))) (hl : L.length ≤ 1000)
    (hw : ∀ j : Nat, wipe ((wipe σ vs).set n (some (.int j))) vs = wipe σ vs)
    (ht : ∀ j ∈ L, ∀ H', Same H1 H' → ∀ R : Bool → Hp → Prop, R (f j) H' → tt ((wipe σ vs).set n (some (.int j))) H' R)
    (he : ∀ j ∈ L, f j = true → ∀ H', Same H1 H' → ∀ R : VK, R (.int (g j)) H' → te ((wipe σ vs).set n (some (.int j))) H' R)
    (hd : Qd (upd H1 D (.lst (((L.filter f).map g).map V.int)))) :
    ∃ W : Nat → Nat → Hp → Prop, (∃ m, W 0 m (upd H1 D (.lst []))) ∧ ∀ i m H, W i m H →
      ((Itl K a).stop i H ∧ Qd H) ∨ ((Itl K a).go i H ∧ ∃ Nx : Hp → Prop, (∀ H', Nx H' → ∃ m', m' < m ∧ W (i + 1) m' H') ∧ ∀ x H', (Itl K a).yld i H x H' → gName n x (wipe σ vs) H' fun σ2 H2 => wipe σ2 vs = wipe σ vs ∧ tt σ2 H2 fun b H3 =>
        if b = true then te σ2 H3 fun y H4 => ∃ acc, H4 D = some (.lst acc) ∧ acc.length < sizeLine ∧ Nx (upd H4 D (.lst (acc ++ [y]))) else Nx H3) := by
  have nDa : a ≠ D := ne_of_none ha hD
  refine lc_list (K := K) (a := a) (xs := (up L).map V.int) (fun i H' => H' = upd H1 D (.lst ((((L.take i).filter f).map g).map V.int))) rfl (fun i H' _ e => by subst e; exact SqL.of (by rw [upd_ne nDa]; exact ha)) (fun i x H' hx e => ?_) (fun H' e => ?_)
  · subst e
    obtain ⟨j, hj, rfl⟩ := up_at hx
    have hjm : j ∈ L := List.mem_of_getElem? hj
    have hil : i < L.length := (List.getElem?_eq_some_iff.mp hj).1
    have S := (Same.refl H1).upd_new (o := .lst ((((L.take i).filter f).map g).map V.int)) hD
    have hno : ((L.take (i + 1)).filter f) = (L.take i).filter f ++ (if f j = true then [j] else []) := by
      rw [take_succ' hj, List.filter_append, List.filter_cons, List.filter_nil]
    refine ⟨hw j, ht j hjm _ S _ ?_⟩
    cases hf : f j with
    | false =>
      refine iteF ?_
      show _ = _
      rw [hno, hf]; simp
    | true =>
      refine iteT (he j hjm hf _ S _ ⟨_, upd_same, ?_, ?_⟩)
      · rw [List.length_map, List.length_map]
        refine Nat.lt_of_le_of_lt (List.length_filter_le _ _) ?_
        rw [List.length_take]
        exact Nat.lt_of_le_of_lt (Nat.min_le_left _ _) (Nat.lt_trans hil (Nat.lt_of_le_of_lt hl (by decide)))
      · show _ = _
        rw [upd_upd, hno, hf, if_pos rfl, List.map_append, List.map_append]
        rfl
  · subst e
    rw [List.length_map, List.length_map, List.take_length]
    exact hd
/-! ### the plan's answers -/
theorem slot_eq (sv : List (Nat × Nat)) (i : Nat) : Kqu5.slot sv i = (sv.find? fun x => decide (x.1 = i)).map (·.2) := by
  unfold Kqu5.slot
  congr 1
theorem sv_val (sv : List (Nat × Nat)) (i : Nat) : valV (svK sv) (Sum.inl (i : Int)) = (Kqu5.slot sv i).map fun x : Nat => V.int (x : Int) := by
  rw [val_map (fun q : Nat × Nat => q.1) (fun q => V.int q.2) sv i, slot_eq, Option.map_map]
  rfl
def spPlaceTold : Sp := fun vs H Q _ => ∃ (sd : Addr) (sv : List (Nat × Nat)) (i : Nat), vs = [.ref sd, .int i] ∧ Rd H sd (.dK (svK sv)) ∧ Q (.int (((Kqu5.slot sv i).map fun x => x + 1).getD 0 : Nat)) H
section
variable {P : Program} {w : World} {K : PySem.W.Frag} {mg : Str → Option Value} {base : Heap} {CB CP : Addr} {ts : List TabRec}
theorem sc_ptold : FnScope ["served", "number"] ["served", "number"] (defScope sPlaceTold) := ⟨rfl, rfl, rfl, by decide +kernel, rfl, by decide +kernel, by decide +kernel⟩
theorem ok_ptold {f : Addr} {fd : FuncData} (F : Fun K "place_told" "place_told" sPlaceTold f fd) : FnOk P w K mg base CX0 1 f fd ["served", "number"] spPlaceTold := by
  refine F.ok sc_ptold (fun vs H Q E h => ?_) (fun cdv A outer s H vs Q E hr h => ?_)
  · obtain ⟨sd, sv, i, rfl, _⟩ := h
    rfl
  · obtain ⟨sd, sv, i, rfl, hd, k⟩ := h
    have hu := hu_of hr
    refine ⟨_, pss_cons (ps_if (pt_cmp (pc_din hu (pv 1) (pv 0))) (pss_one (ps_ret (pe_op op_add (pe_dget hu (pv 0) (pv 1) (fun _ _ => rfl)) pe_int))) pss_nil) (pss_one (ps_ret pe_int)), ?_⟩
    refine ⟨_, rfl, _, rfl, sd, _, rfl, .inl ⟨svK sv, Sum.inl (i : Int), hd, rfl, rfl⟩, _, rfl, ?_⟩
    have e := sv_val sv i
    cases hs : Kqu5.slot sv i with
    | none =>
      rw [hs] at e k
      rw [e]
      exact iteF k
    | some x =>
      rw [hs] at e k
      rw [e]
      refine iteT ⟨_, rfl, _, rfl, sd, V.int (x : Int), rfl, .inl ⟨svK sv, Sum.inl (i : Int), hd, rfl, e.symm⟩, _, _, rfl, rfl, ?_⟩
      exact k
theorem sc_aplan : FnScope ["book", "told", "served", "number"] ["book", "told"] (defScope sAPlan) := ⟨rfl, rfl, rfl, by decide +kernel, rfl, by decide +kernel, by decide +kernel⟩
/-- what a plan of the book's own persons is -/
theorem RepB.plan {b : Book} {l : List (Nat × Addr × Person)} (R : RepB b l) (nd : (keys l).Nodup) (m : Nat) : Kqu5.plan b m (Kqu5.ids b) = Kqu5.plan b m (keys l) := by
  rw [R.ids_eq nd]; exact plan_congr (rising_perm _)
theorem RepB.agr {b : Book} {l : List (Nat × Addr × Person)} (R : RepB b l) (nd : (keys l).Nodup) : Ag b l := fun q hq => ⟨(R.ag nd hq).1, (R.ag nd hq).2.1⟩
theorem ok_aplan {f fB fT : Addr} {fd fdB fdT : FuncData} (F : Fun K "answer_plan" "answer_plan" sAPlan f fd) (T : BC K CB) (hlen : mg "len" = none) (hs : mg "sorted" = none) (CBp : Cal P w K mg base "book_plan" fB fdB ["book"] 7 (spBPlan CB CP ts))
    (CTo : Cal P w K mg base "place_told" fT fdT ["served", "number"] 1 spPlaceTold) : FnOk P w K mg base CX0 8 f fd ["book", "told"] (spA K CB CP ts 5) := by
  refine F.ok sc_aplan (fun vs H Q E h => ?_) (fun cdv A outer s H vs Q E hr h => ?_)
  · obtain ⟨bk, tp, tl, s, rfl, _⟩ := h
    rfl
  · obtain ⟨bk, tp, tl, st, rfl, B, ht, hT, hq, -, hst, k⟩ := h
    obtain rfl := asked_5 hq
    clear hq
    obtain ⟨b, rfl⟩ := some_of (by decide) hst
    have hr1 : Room 1 _ := hr.mono (by decide)
    refine ⟨_, pss_cons (ps_set (i := 2) sc_aplan.nd rfl (Or.inr rfl) (pe_cal CBp hr rfl (pa_cons (pv 0) pa_nil)))
      (pss_one (ps_ret (pe_op op_cat (pe_lst (pa_cons (pe_callB call_lenD (by rfl) hlen PySem.boot_len (pa_cons (pv 2) pa_nil)) pa_nil))
        (pe_lc (own := [("number", 3)]) rfl sc_aplan.nd (pi_list (pe_callB (cr_sortedD rfl) (by rfl) hs bootSorted (pa_cons (pe_fld (pv 0) rfl) pa_nil))) (blkOk_by (by show blkC ["book", "told", "served", "number"] (defScope sAPlan) _ _ = true; decide +kernel))
          (fun _ _ _ _ _ => pg_name (i := 3) sc_aplan.nd rfl (Or.inl rfl)) (fun _ _ _ _ _ => pts_nil) (fun _ _ _ _ _ => pe_cal CTo hr1 rfl (pa_cons (pv 2) (pa_cons (pv 3) pa_nil))))))), ?_⟩
    have B0 := B
    obtain ⟨pd, w0, l, Bk, rfl, w1, w2, R, hl, hv⟩ := B
    have nd := Bk.nd
    obtain ⟨dx, hb⟩ := Bk.ins
    refine ⟨_, rfl, bk, pd, b.windows, l, b, rfl, Bk, Nat.lt_of_le_of_lt hl (by decide), hT, R.agr nd, fun H1 sd g1 nsd hsd => ?_⟩
    refine ⟨_, rfl, sd, _, rfl, hsd, (by show 1 ≤ sizeLine; decide), fun p1 hp1 => ?_⟩
    have g2 := g1.upd (o := .lst [V.int ((svK (Kqu5.plan b b.windows (keys l))).length : Int)]) hp1
    refine ⟨_, rfl, bk, CB, dx, _, _, rfl, g2.keep _ _ hb rfl, T.cl, T.nP, bkf_p _ _, pd, _, rfl, (Bk.ps.gr g2).kvs, (by rw [List.length_map]; omega), fun ns p2 hpm hpw hp2 => ?_⟩
    obtain rfl := keys_sorted hpm hpw
    refine ⟨p2, rfl, ⟨_, SqL.of upd_same⟩, fun D hD => ?_⟩
    have g3 := g2.upd (o := .lst ((up (Kqu5.rising (keys l))).map V.int)) hp2
    have hsd2 : upd H1 p1 (.lst [V.int ((svK (Kqu5.plan b b.windows (keys l))).length : Int)]) sd = some (.dK (svK (Kqu5.plan b b.windows (keys l)))) := by rw [upd_ne (ne_of_none hsd hp1)]; exact hsd
    have hsd3 : upd (upd H1 p1 (.lst [V.int ((svK (Kqu5.plan b b.windows (keys l))).length : Int)])) p2 (.lst ((up (Kqu5.rising (keys l))).map V.int)) sd = some (.dK (svK (Kqu5.plan b b.windows (keys l)))) := by rw [upd_ne (ne_of_none hsd2 hp2)]; exact hsd2
    have hp1b : upd (upd H1 p1 (.lst [V.int ((svK (Kqu5.plan b b.windows (keys l))).length : Int)])) p2 (.lst ((up (Kqu5.rising (keys l))).map V.int)) p1 = some (.lst [V.int ((svK (Kqu5.plan b b.windows (keys l))).length : Int)]) := by rw [upd_ne (ne_of_none upd_same hp2)]; exact upd_same
    refine lc_fm (L := Kqu5.rising (keys l)) (f := fun _ => true) (g := fun i => (((Kqu5.slot (Kqu5.plan b b.windows (keys l)) i).map fun x => x + 1).getD 0 : Nat)) (n := 3) hD upd_same ?_ (fun j => rfl) (fun j hj H' S R hR => hR) (fun j hj _ H' S R hR => ?_) ?_
    · rw [(rising_perm _).length_eq, List.length_map]; omega
    · exact ⟨_, rfl, _, rfl, sd, _, j, rfl, .inl (S _ _ hsd3), hR⟩
    · have nDp : p1 ≠ D := ne_of_none hp1b hD
      refine ⟨p1, D, _, _, rfl, rfl, by rw [upd_ne nDp]; exact hp1b, upd_same, ?_, fun p hp => ?_⟩
      · show 1 + _ ≤ _
        rw [List.length_map, List.length_map]
        have : ((Kqu5.rising (keys l)).filter fun _ => true).length ≤ (Kqu5.rising (keys l)).length := List.length_filter_le _ _
        have h2 : (Kqu5.rising (keys l)).length = l.length := by rw [(rising_perm _).length_eq, List.length_map]
        exact Nat.le_trans (show 1 + _ ≤ 11 by omega) (by decide)
      · have g4 := g3.upd (o := .lst ((((Kqu5.rising (keys l)).filter fun _ => true).map fun i => ((((Kqu5.slot (Kqu5.plan b b.windows (keys l)) i).map fun x => x + 1).getD 0 : Nat) : Int)).map V.int)) hD
        have e5 : (stp (some b) 5 []) = (some b, ((Kqu5.plan b b.windows (keys l)).length : Int) :: ((Kqu5.rising (keys l)).map fun i => ((((Kqu5.slot (Kqu5.plan b b.windows (keys l)) i).map fun x => x + 1).getD 0 : Nat) : Int))) := by
          show (some b, Kqu5Neutral.tell (.some_ ((Kqu5.plan b b.windows (Kqu5.ids b)).length : Int) ((Kqu5.ids b).map fun i => ((Kqu5.slot (Kqu5.plan b b.windows (Kqu5.ids b)) i).map fun x => x + 1).getD 0))) = _
          rw [R.plan nd, R.ids_eq nd]
          unfold Kqu5Neutral.tell
          dsimp only
          rw [List.map_map]; rfl
        have ef : ((Kqu5.rising (keys l)).filter fun _ => true) = Kqu5.rising (keys l) := List.filter_eq_self.mpr fun _ _ => rfl
        have := endA (out := ((Kqu5.plan b b.windows (keys l)).length : Int) :: ((Kqu5.rising (keys l)).map fun i => ((((Kqu5.slot (Kqu5.plan b b.windows (keys l)) i).map fun x => x + 1).getD 0 : Nat) : Int))) g4 hp B0 hT k (by rw [e5]) (by rw [e5])
        rw [List.map_cons] at this
        rw [ef] at this ⊢
        rw [show (svK (Kqu5.plan b b.windows (keys l))).length = (Kqu5.plan b b.windows (keys l)).length from List.length_map _] at this ⊢
        exact this
end
end Ap

set_option Elab.async false
set_option linter.all false
set_option maxRecDepth 100000
set_option maxHeartbeats 8000000
namespace Ap
open PySem PySem.Spec PyProof.Rows L2
open Kqu5 (Person Book)
open Kqu5Neutral (asked1)
theorem slot_isSome (sv : List (Nat × Nat)) (i : Nat) : (Kqu5.slot sv i).isSome = decide (i ∈ sv.map (·.1)) := by
  have e := sv_isSome sv i
  rw [sv_val, Option.isSome_map] at e
  exact e
theorem rising_len (l : List (Nat × Addr × Person)) : (Kqu5.rising (keys l)).length = l.length := by rw [(rising_perm _).length_eq, List.length_map]
section
variable {P : Program} {w : World} {K : PySem.W.Frag} {mg : Str → Option Value} {base : Heap} {CB CP : Addr} {ts : List TabRec}
theorem sc_left : FnScope ["book", "told", "served", "left", "number"] ["book", "told"] (defScope sLeft) := ⟨rfl, rfl, rfl, by decide +kernel, rfl, by decide +kernel, by decide +kernel⟩
theorem ok_left {f fB : Addr} {fd fdB : FuncData} (F : Fun K "answer_left" "answer_left" sLeft f fd) (T : BC K CB) (hlen : mg "len" = none) (hs : mg "sorted" = none) (CBp : Cal P w K mg base "book_plan" fB fdB ["book"] 7 (spBPlan CB CP ts)) : FnOk P w K mg base CX0 8 f fd ["book", "told"] (spA K CB CP ts 6) := by
  refine F.ok sc_left (fun vs H Q E h => ?_) (fun cdv A outer s H vs Q E hr h => ?_)
  · obtain ⟨bk, tp, tl, s, rfl, _⟩ := h
    rfl
  · obtain ⟨bk, tp, tl, st, rfl, B, ht, hT, hq, -, hst, k⟩ := h
    obtain rfl := asked_6 hq
    clear hq
    obtain ⟨b, rfl⟩ := some_of (by decide) hst
    have hu := hu_of hr
    refine ⟨_, pss_cons (ps_set (i := 2) sc_left.nd rfl (Or.inr rfl) (pe_cal CBp hr rfl (pa_cons (pv 0) pa_nil)))
      (pss_cons (ps_setLc (i := 3) (own := [("number", 4)]) rfl sc_left.nd rfl rfl (sw_true rfl rfl rfl (by decide +kernel)) (pi_list (pe_callB (cr_sortedD rfl) (by rfl) hs bootSorted (pa_cons (pe_fld (pv 0) rfl) pa_nil))) (blkOk_by (by show blkC ["book", "told", "served", "left", "number"] (defScope sLeft) _ _ = true; decide +kernel))
          (fun _ _ _ _ _ => pg_name (i := 4) sc_left.nd rfl (Or.inl rfl)) (fun _ _ _ _ _ => pts_one (pt_cmp (pc_dnotin hu (pv 4) (pv 2)))) (fun _ _ _ _ _ => pv 4))
      (pss_one (ps_ret (pe_op op_cat (pe_lst (pa_cons (pe_callB call_len_seq (by rfl) hlen PySem.boot_len (pa_cons (pv 3) pa_nil)) pa_nil)) (pv 3))))), ?_⟩
    have B0 := B
    obtain ⟨pd, w0, l, Bk, rfl, w1, w2, R, hl, hv⟩ := B
    have nd := Bk.nd
    obtain ⟨dx, hb⟩ := Bk.ins
    refine ⟨_, rfl, bk, pd, b.windows, l, b, rfl, Bk, Nat.lt_of_le_of_lt hl (by decide), hT, R.agr nd, fun H1 sd g1 nsd hsd => ?_⟩
    refine ⟨_, rfl, bk, CB, dx, _, _, rfl, g1.keep _ _ hb rfl, T.cl, T.nP, bkf_p _ _, pd, _, rfl, (Bk.ps.gr g1).kvs, (by rw [List.length_map]; omega), fun ns p2 hpm hpw hp2 => ?_⟩
    obtain rfl := keys_sorted hpm hpw
    refine ⟨p2, rfl, ⟨_, SqL.of upd_same⟩, fun D hD => ?_⟩
    have g3 := g1.upd (o := .lst ((up (Kqu5.rising (keys l))).map V.int)) hp2
    have hsd3 : upd H1 p2 (.lst ((up (Kqu5.rising (keys l))).map V.int)) sd = some (.dK (svK (Kqu5.plan b b.windows (keys l)))) := by rw [upd_ne (ne_of_none hsd hp2)]; exact hsd
    have hrl := rising_len l
    refine lc_fm (L := Kqu5.rising (keys l)) (f := fun i => (Kqu5.slot (Kqu5.plan b b.windows (keys l)) i).isNone) (g := fun i => (i : Int)) (n := 4) hD upd_same (by omega) (fun j => rfl) (fun j hj H' S R hR => ?_) (fun j hj _ H' S R hR => ⟨_, rfl, hR⟩) ?_
    · refine ⟨_, rfl, _, rfl, sd, _, rfl, .inl ⟨_, Sum.inl (j : Int), .inl (S _ _ hsd3), rfl, rfl⟩, _, rfl, ?_⟩
      rw [sv_isSome, ← slot_isSome, Option.not_isSome]
      exact hR
    · have g4 := g3.upd (o := .lst ((((Kqu5.rising (keys l)).filter fun i => (Kqu5.slot (Kqu5.plan b b.windows (keys l)) i).isNone).map fun i : Nat => (i : Int)).map V.int)) hD
      have hlf : ((Kqu5.rising (keys l)).filter fun i => (Kqu5.slot (Kqu5.plan b b.windows (keys l)) i).isNone).length ≤ 10 := Nat.le_trans (List.length_filter_le _ _) (by omega)
      refine ⟨_, rfl, D, _, rfl, .inl (SqL.of upd_same), (by show 1 ≤ sizeLine; decide), fun p1 hp1 => ?_⟩
      have nDp : D ≠ p1 := ne_of_none upd_same hp1
      have g5 := g4.upd (o := .lst [V.int (((((Kqu5.rising (keys l)).filter fun i => (Kqu5.slot (Kqu5.plan b b.windows (keys l)) i).isNone).map fun i : Nat => (i : Int)).map V.int).length : Int)]) hp1
      refine ⟨_, rfl, p1, D, _, _, rfl, rfl, upd_same, by rw [upd_ne nDp]; exact upd_same, ?_, fun p hp => ?_⟩
      · show 1 + _ ≤ _
        rw [List.length_map, List.length_map]
        exact Nat.le_trans (show 1 + _ ≤ 11 by omega) (by decide)
      · have e6 : (stp (some b) 6 []) = (some b, ((((Kqu5.rising (keys l)).filter fun i => (Kqu5.slot (Kqu5.plan b b.windows (keys l)) i).isNone).length : Nat) : Int) :: (((Kqu5.rising (keys l)).filter fun i => (Kqu5.slot (Kqu5.plan b b.windows (keys l)) i).isNone).map fun i : Nat => (i : Int))) := by
          show (some b, Kqu5Neutral.tell (Kqu5.row (Kqu5.left b))) = _
          unfold Kqu5.left
          rw [R.plan nd, R.ids_eq nd]
          rfl
        have := endA (out := ((((Kqu5.rising (keys l)).filter fun i => (Kqu5.slot (Kqu5.plan b b.windows (keys l)) i).isNone).length : Nat) : Int) :: (((Kqu5.rising (keys l)).filter fun i => (Kqu5.slot (Kqu5.plan b b.windows (keys l)) i).isNone).map fun i : Nat => (i : Int))) g5 hp B0 hT k (by rw [e6]) (by rw [e6])
        rw [List.map_cons] at this
        rw [List.length_map, List.length_map] at this ⊢
        exact this
theorem sc_slot : FnScope ["book", "told", "served"] ["book", "told"] (defScope sSlot) := ⟨rfl, rfl, rfl, by decide +kernel, rfl, by decide +kernel, by decide +kernel⟩
theorem ok_slot {f fB : Addr} {fd fdB : FuncData} (F : Fun K "answer_slot" "answer_slot" sSlot f fd) (T : BC K CB) (M : Cst mg) (CBp : Cal P w K mg base "book_plan" fB fdB ["book"] 7 (spBPlan CB CP ts)) : FnOk P w K mg base CX0 8 f fd ["book", "told"] (spA K CB CP ts 7) := by
  refine F.ok sc_slot (fun vs H Q E h => ?_) (fun cdv A outer s H vs Q E hr h => ?_)
  · obtain ⟨bk, tp, tl, s, rfl, _⟩ := h
    rfl
  · obtain ⟨bk, tp, tl, st, rfl, B, ht, hT, hq, -, hst, k⟩ := h
    obtain ⟨a, rfl⟩ := asked_7 hq
    clear hq
    obtain ⟨b, rfl⟩ := some_of (by decide) hst
    obtain ⟨t2, m2⟩ := M.c2
    obtain ⟨t33, m33⟩ := M.c33
    have hu := hu_of hr
    refine ⟨_, pss_cons (ps_if (pt_cmp (pc_dnotin hu (pe_ix ix_list (pv 1) pe_int (fun _ _ => rfl)) (pe_fld (pv 0) rfl))) (pss_one (ps_ret (pe_lst (pa_cons (pe_glob (v := .int (-2)) rfl m2 ⟨_, rfl⟩) pa_nil)))) pss_nil)
      (pss_cons (ps_set (i := 2) sc_slot.nd rfl (Or.inl rfl) (pe_cal CBp hr rfl (pa_cons (pv 0) pa_nil)))
      (pss_cons (ps_if (pt_cmp (pc_dnotin hu (pe_ix ix_list (pv 1) pe_int (fun _ _ => rfl)) (pv 2))) (pss_one (ps_ret (pe_lst (pa_cons (pe_glob (v := .int (-33)) rfl m33 ⟨_, rfl⟩) pa_nil)))) pss_nil)
      (pss_one (ps_ret (pe_lst (pa_cons (pe_dget hu (pv 2) (pe_ix ix_list (pv 1) pe_int (fun _ _ => rfl)) (fun _ _ => rfl)) pa_nil)))))), ?_⟩
    have B0 := B
    obtain ⟨pd, w0, l, Bk, rfl, w1, w2, R, hl, hv⟩ := B
    have nd := Bk.nd
    have hd := Bk.dict
    obtain ⟨dx, hb⟩ := Bk.ins
    have e7 : (stp (some b) 7 [(a : Int)]) = (some b, Kqu5Neutral.tell (if (b.persons.getD a none).isNone then .num (-2) else match Kqu5.slot (Kqu5.plan b b.windows (keys l)) a with | none => .num (-33) | some x => .num x)) := by
      rw [← R.plan nd]; rfl
    refine ⟨_, rfl, tp, _, _, _, rfl, rfl, ht, at_of (j := 0) rfl rfl, _, rfl, bk, CB, dx, _, _, rfl, hb, T.cl, T.nP, bkf_p _ _, pd, _, rfl, DGet.k (k := Sum.inl (a : Int)) hd, _, rfl, ?_⟩
    rw [ps_isSome]
    by_cases hin : a ∈ keys l
    · rw [decide_eq_true hin]
      obtain ⟨q, hq, hqa⟩ := List.mem_map.mp hin
      have hqa : q.1 = a := hqa
      have hget := R.get nd hq
      rw [hqa] at hget
      rw [hget] at e7
      refine iteF ⟨_, rfl, bk, pd, b.windows, l, b, rfl, Bk, Nat.lt_of_le_of_lt hl (by decide), hT, R.agr nd, fun H1 sd g1 nsd hsd => ?_⟩
      have ht1 := g1.seq ht
      refine ⟨_, rfl, tp, _, _, _, rfl, rfl, ht1, at_of (j := 0) rfl rfl, _, rfl, sd, _, rfl, DGet.k (k := Sum.inl (a : Int)) hsd, _, rfl, ?_⟩
      have ev := sv_val (Kqu5.plan b b.windows (keys l)) a
      cases hsl : Kqu5.slot (Kqu5.plan b b.windows (keys l)) a with
      | none =>
        rw [hsl] at ev e7
        rw [ev]
        refine iteT ⟨(by show 1 ≤ sizeLine; decide), fun p hp => ?_⟩
        exact endA (out := [-33]) g1 hp B0 hT k (by rw [e7]) (by rw [e7]; rfl)
      | some x =>
        rw [hsl] at ev e7
        rw [ev]
        refine iteF ⟨_, rfl, _, rfl, tp, _, _, _, rfl, rfl, ht1, at_of (j := 0) rfl rfl, sd, V.int (x : Int), rfl, .inl ⟨_, Sum.inl (a : Int), .inl hsd, rfl, ev.symm⟩, (by show 1 ≤ sizeLine; decide), fun p hp => ?_⟩
        exact endA (out := [(x : Int)]) g1 hp B0 hT k (by rw [e7]) (by rw [e7]; rfl)
    · rw [decide_eq_false hin]
      rw [R.none hin] at e7
      refine iteT ⟨(by show 1 ≤ sizeLine; decide), fun p hp => ?_⟩
      exact endA (out := [-2]) (Gr.refl H) hp B0 hT k (by rw [e7]) (by rw [e7]; rfl)
end
end Ap

set_option Elab.async false
set_option linter.all false
set_option maxRecDepth 100000
set_option maxHeartbeats 8000000
namespace Ap
open PySem PySem.Spec PyProof.Rows L2
open Kqu5 (Person Book)
open Kqu5Neutral (asked1)
theorem plan_nodup {b : Book} {m : Nat} {L : List Nat} (h : L.Nodup) : ((Kqu5.plan b m L).map (·.1)).Nodup := by rw [plan_pre]; exact pre_nodup h _
theorem plan_sub {b : Book} {m : Nat} {L : List Nat} {i : Nat} (h : i ∈ (Kqu5.plan b m L).map (·.1)) : i ∈ L := by
  rw [plan_pre] at h
  obtain ⟨p, hp, rfl⟩ := List.mem_map.mp h
  exact pre_sub hp
theorem plan_len {b : Book} {m : Nat} {L : List Nat} (h : L.Nodup) : (Kqu5.plan b m L).length ≤ L.length := by
  have := nodup_len (plan_nodup (b := b) (m := m) h) fun x hx => plan_sub hx
  rw [List.length_map] at this
  exact this
theorem sv_sorted {ns : List Int} {sv : List (Nat × Nat)} (p : ns.Perm ((sv.map fun x => ((x.1 : Int), V.int (x.2 : Int))).map (·.1))) (h : ns.Pairwise (· ≤ ·)) : ns = up (Kqu5.rising (sv.map (·.1))) := by
  refine rising_up ?_ h
  rw [List.map_map] at p
  rw [up, List.map_map]
  exact p
/-- whom a plan serves in a slot, rising -/
theorem at_eq {sv : List (Nat × Nat)} (nd : (sv.map (·.1)).Nodup) (a : Nat) : (Kqu5.rising (sv.map (·.1))).filter (fun i => decide (Kqu5.slot sv i = some a)) = Kqu5.rising ((sv.filter fun p => p.2 == a).map fun p => p.1) := by
  symm
  refine sorted_eq le_ord ?_ ?_
  · refine ((rising_perm _).filter _).trans ?_
    rw [List.filter_map]
    refine List.Perm.of_eq ?_
    congr 1
    refine List.filter_congr fun q hq => ?_
    show decide (Kqu5.slot sv q.1 = some a) = (q.2 == a)
    rw [slot_eq, find_nd (fun x : Nat × Nat => x.1) nd hq]
    show decide (some q.2 = some a) = _
    rw [Bool.eq_iff_iff]; simp
  · exact List.Pairwise.sublist List.filter_sublist (sorted_pw le_ord _)
section
variable {P : Program} {w : World} {K : PySem.W.Frag} {mg : Str → Option Value} {base : Heap} {CB CP : Addr} {ts : List TabRec}
theorem sc_at : FnScope ["book", "told", "served", "there", "number"] ["book", "told"] (defScope sAt) := ⟨rfl, rfl, rfl, by decide +kernel, rfl, by decide +kernel, by decide +kernel⟩
theorem ok_at {f fB : Addr} {fd fdB : FuncData} (F : Fun K "answer_at" "answer_at" sAt f fd) (T : BC K CB) (M : Cst mg) (hlen : mg "len" = none) (hs : mg "sorted" = none) (CBp : Cal P w K mg base "book_plan" fB fdB ["book"] 7 (spBPlan CB CP ts)) : FnOk P w K mg base CX0 8 f fd ["book", "told"] (spA K CB CP ts 8) := by
  refine F.ok sc_at (fun vs H Q E h => ?_) (fun cdv A outer s H vs Q E hr h => ?_)
  · obtain ⟨bk, tp, tl, s, rfl, _⟩ := h
    rfl
  · obtain ⟨bk, tp, tl, st, rfl, B, ht, hT, hq, -, hst, k⟩ := h
    obtain ⟨a, rfl⟩ := asked_8 hq
    clear hq
    obtain ⟨b, rfl⟩ := some_of (by decide) hst
    obtain ⟨t22, m22⟩ := M.c22
    obtain ⟨t40, m40⟩ := M.c40
    have hu := hu_of hr
    refine ⟨_, pss_cons (ps_if (pt_cmpR op_ge (pe_ix ix_list (pv 1) pe_int (fun _ _ => rfl)) (pe_glob (v := .int 40) rfl m40 ⟨_, rfl⟩) (nomark _)) (pss_one (ps_ret (pe_lst (pa_cons (pe_glob (v := .int (-22)) rfl m22 ⟨_, rfl⟩) pa_nil)))) pss_nil)
      (pss_cons (ps_set (i := 2) sc_at.nd rfl (Or.inr rfl) (pe_cal CBp hr rfl (pa_cons (pv 0) pa_nil)))
      (pss_cons (ps_setLc (i := 3) (own := [("number", 4)]) rfl sc_at.nd rfl rfl (sw_true rfl rfl rfl (by decide +kernel)) (pi_list (pe_callB (cr_sortedD rfl) (by rfl) hs bootSorted (pa_cons (pv 2) pa_nil))) (blkOk_by (by show blkC ["book", "told", "served", "there", "number"] (defScope sAt) _ _ = true; decide +kernel))
          (fun _ _ _ _ _ => pg_name (i := 4) sc_at.nd rfl (Or.inl rfl)) (fun _ _ _ _ _ => pts_one (pt_cmpR op_eq (pe_dget hu (pv 2) (pv 4) (fun _ _ => rfl)) (pe_ix (r := rIxL K) ix_list (pv 1) pe_int (fun _ _ => rfl)) (nomark _))) (fun _ _ _ _ _ => pv 4))
      (pss_one (ps_ret (pe_op op_cat (pe_lst (pa_cons (pe_callB call_len_seq (by rfl) hlen PySem.boot_len (pa_cons (pv 3) pa_nil)) pa_nil)) (pv 3)))))), ?_⟩
    have B0 := B
    obtain ⟨pd, w0, l, Bk, rfl, w1, w2, R, hl, hv⟩ := B
    have nd := Bk.nd
    obtain ⟨dx, hb⟩ := Bk.ins
    have e8 : (stp (some b) 8 [(a : Int)]) = (some b, Kqu5Neutral.tell (if 40 ≤ a then .num (-22) else Kqu5.row (Kqu5.rising (((Kqu5.plan b b.windows (keys l)).filter fun p => p.2 == a).map fun p => p.1)))) := by
      rw [← R.plan nd]; rfl
    refine ⟨_, rfl, tp, _, _, _, rfl, rfl, ht, at_of (j := 0) rfl rfl, _, _, rfl, rfl, _, rfl, ite2 (fun z => ?_) fun z => ?_⟩
    · have z := of_decide_eq_true z
      have h40 : 40 ≤ a := by omega
      rw [if_pos h40] at e8
      refine ⟨(by show 1 ≤ sizeLine; decide), fun p hp => ?_⟩
      exact endA (out := [-22]) (Gr.refl H) hp B0 hT k (by rw [e8]) (by rw [e8]; rfl)
    · have h40 : ¬ 40 ≤ a := fun h => z (decide_eq_true (by omega))
      rw [if_neg h40] at e8
      refine ⟨_, rfl, bk, pd, b.windows, l, b, rfl, Bk, Nat.lt_of_le_of_lt hl (by decide), hT, R.agr nd, fun H1 sd g1 nsd hsd => ?_⟩
      have nds := plan_nodup (b := b) (m := b.windows) nd
      have hpl := plan_len (b := b) (m := b.windows) nd
      rw [List.length_map] at hpl
      have hsdk : Rd H1 sd (.dK (((Kqu5.plan b b.windows (keys l)).map fun x => ((x.1 : Int), V.int (x.2 : Int))).map fun p => (Sum.inl p.1, p.2))) := by rw [List.map_map]; exact .inl hsd
      rw [← at_eq nds] at e8
      generalize Kqu5.plan b b.windows (keys l) = sv at hsd hsdk nds hpl e8
      refine ⟨_, rfl, sd, _, rfl, hsdk, (by rw [List.length_map]; omega), fun ns p2 hpm hpw hp2 => ?_⟩
      obtain rfl := sv_sorted hpm hpw
      refine ⟨p2, rfl, ⟨_, SqL.of upd_same⟩, fun D hD => ?_⟩
      have g3 := g1.upd (o := .lst ((up (Kqu5.rising (sv.map (·.1)))).map V.int)) hp2
      have hsd3 : upd H1 p2 (.lst ((up (Kqu5.rising (sv.map (·.1)))).map V.int)) sd = some (.dK (svK sv)) := by rw [upd_ne (ne_of_none hsd hp2)]; exact hsd
      have hrl : (Kqu5.rising (sv.map (·.1))).length = sv.length := by rw [(rising_perm _).length_eq, List.length_map]
      refine lc_fm (L := Kqu5.rising (sv.map (·.1))) (f := fun i => decide (Kqu5.slot sv i = some a)) (g := fun i => (i : Int)) (n := 4) hD upd_same (by omega) (fun j => rfl) (fun j hj H' S R' hR => ?_) (fun j hj _ H' S R' hR => ⟨_, rfl, hR⟩) ?_
      · obtain ⟨q, hq, rfl⟩ := List.mem_map.mp (mem_rising.mp hj)
        have es : Kqu5.slot sv q.1 = some q.2 := by rw [slot_eq, find_nd (fun x : Nat × Nat => x.1) nds hq]; rfl
        have ev := sv_val sv q.1
        rw [es] at ev
        refine ⟨_, rfl, _, rfl, sd, V.int (q.2 : Int), rfl, .inl ⟨_, Sum.inl (q.1 : Int), .inl (S _ _ hsd3), rfl, ev.symm⟩, _, rfl, tp, _, _, _, rfl, rfl, Same.seq S (g3.seq ht), at_of (j := 0) rfl rfl, rfl, _, rfl, ?_⟩
        have ed : decide (V.int (q.2 : Int) = V.int (a : Int)) = decide (Kqu5.slot sv q.1 = some a) := by
          rw [es, Bool.eq_iff_iff]; simp; omega
        rw [ed]; exact hR
      · have g4 := g3.upd (o := .lst ((((Kqu5.rising (sv.map (·.1))).filter fun i => decide (Kqu5.slot sv i = some a)).map fun i : Nat => (i : Int)).map V.int)) hD
        have hlf : ((Kqu5.rising (sv.map (·.1))).filter fun i => decide (Kqu5.slot sv i = some a)).length ≤ 10 := Nat.le_trans (List.length_filter_le _ _) (by omega)
        refine ⟨_, rfl, D, _, rfl, .inl (SqL.of upd_same), (by show 1 ≤ sizeLine; decide), fun p1 hp1 => ?_⟩
        have nDp : D ≠ p1 := ne_of_none upd_same hp1
        have g5 := g4.upd (o := .lst [V.int (((((Kqu5.rising (sv.map (·.1))).filter fun i => decide (Kqu5.slot sv i = some a)).map fun i : Nat => (i : Int)).map V.int).length : Int)]) hp1
        refine ⟨_, rfl, p1, D, _, _, rfl, rfl, upd_same, by rw [upd_ne nDp]; exact upd_same, ?_, fun p hp => ?_⟩
        · show 1 + _ ≤ _
          rw [List.length_map, List.length_map]
          exact Nat.le_trans (show 1 + _ ≤ 11 by omega) (by decide)
        · have := endA (out := ((((Kqu5.rising (sv.map (·.1))).filter fun i => decide (Kqu5.slot sv i = some a)).length : Nat) : Int) :: (((Kqu5.rising (sv.map (·.1))).filter fun i => decide (Kqu5.slot sv i = some a)).map fun i : Nat => (i : Int))) g5 hp B0 hT k (by rw [e8]) (by rw [e8]; rfl)
          rw [List.map_cons] at this
          rw [List.length_map, List.length_map] at this ⊢
          exact this
theorem sc_can : FnScope ["book", "told"] ["book", "told"] (defScope sCan) := ⟨rfl, rfl, rfl, by decide +kernel, rfl, by decide +kernel, by decide +kernel⟩
theorem RepB.can {b : Book} {l : List (Nat × Addr × Person)} (R : RepB b l) (nd : (keys l).Nodup) (m : Nat) : Kqu5.can b m (Kqu5.ids b) = Kqu5.can b m (keys l) := by
  rw [R.ids_eq nd]; exact can_congr (rising_perm _)
theorem ok_can {f fA : Addr} {fd fdA : FuncData} (F : Fun K "answer_can" "answer_can" sCan f fd) (T : BC K CB) (CA : Cal P w K mg base "all_served" fA fdA ["persons", "windows"] 7 (spAllS CP ts)) : FnOk P w K mg base CX0 8 f fd ["book", "told"] (spA K CB CP ts 9) := by
  refine F.ok sc_can (fun vs H Q E h => ?_) (fun cdv A outer s H vs Q E hr h => ?_)
  · obtain ⟨bk, tp, tl, s, rfl, _⟩ := h
    rfl
  · obtain ⟨bk, tp, tl, st, rfl, B, ht, hT, hq, -, hst, k⟩ := h
    obtain rfl := asked_9 hq
    clear hq
    obtain ⟨b, rfl⟩ := some_of (by decide) hst
    refine ⟨_, pss_one (ps_ret (pe_lst (pa_cons (pe_ifExp (pt_val (pe_cal CA hr rfl (pa_cons (pe_fld (pv 0) rfl) (pa_cons (pe_fld (pv 0) rfl) pa_nil)))) pe_int pe_int) pa_nil))), ?_⟩
    have B0 := B
    obtain ⟨pd, w0, l, Bk, rfl, w1, w2, R, hl, hv⟩ := B
    have nd := Bk.nd
    obtain ⟨dx, hb⟩ := Bk.ins
    have e9 : (stp (some b) 9 []) = (some b, [if Kqu5.can b b.windows (keys l) then 1 else 0]) := by
      show (some b, Kqu5Neutral.tell (.num (if Kqu5.can b b.windows (Kqu5.ids b) then 1 else 0))) = _
      rw [R.can nd]; rfl
    refine ⟨_, rfl, bk, CB, dx, _, _, rfl, hb, T.cl, T.nP, bkf_p _ _, _, rfl, bk, CB, dx, _, _, rfl, hb, T.cl, T.nW, bkf_w _ _, pd, l, b, b.windows, rfl, Bk.ps, Nat.lt_of_le_of_lt hl (by decide), hT, R.agr nd, fun H1 g1 => ⟨_, rfl, ?_⟩⟩
    cases hc : Kqu5.can b b.windows (keys l) with
    | true =>
      rw [hc] at e9
      exact iteT ⟨(by show 1 ≤ sizeLine; decide), fun p hp => endA (out := [1]) g1 hp B0 hT k (by rw [e9]) (by rw [e9]; rfl)⟩
    | false =>
      rw [hc] at e9
      exact iteF ⟨(by show 1 ≤ sizeLine; decide), fun p hp => endA (out := [0]) g1 hp B0 hT k (by rw [e9]) (by rw [e9]; rfl)⟩
end
end Ap

set_option Elab.async false
set_option linter.all false
set_option maxRecDepth 100000
set_option maxHeartbeats 8000000
namespace Ap
open PySem PySem.Spec PyProof.Rows L2
open Kqu5 (Person Book)
open Kqu5Neutral (asked1)
abbrev sSpansOf : Stmt := top 11
abbrev sHeldBy : Stmt := top 12
abbrev sSpanNeeds : Stmt := top 13
abbrev sWindowsNeeded : Stmt := top 14
/-- who can come only between -/
def inSpan (b : Book) (x y i : Nat) : Bool := decide (x ≤ Kqu5.from_ b i) && decide (Kqu5.to b i ≤ y)
def loadOf (b : Book) (L : List Nat) (x y : Nat) : Nat := ((Kqu5.rising L).filter (inSpan b x y)).length
def spHeldBy (C : Addr) : Sp := fun vs H Q _ => ∃ (d : Addr) (l : List (Nat × Addr × Person)) (b : Book) (x y : Nat), vs = [.ref d, .int x, .int y] ∧ PsAt C H d l ∧ l.length < 64 ∧ Ag b l ∧ ∀ H' : Hp, Same H H' → Q (.int (loadOf b (keys l) x y : Nat)) H'
def needsOf (b : Book) (L : List Nat) (s : Nat × Nat) : Nat := (loadOf b L s.1 s.2 + (s.2 - s.1) - 1) / (s.2 - s.1)
def spNeeds (C : Addr) : Sp := fun vs H Q _ => ∃ (d sp : Addr) (l : List (Nat × Addr × Person)) (b : Book) (s : Nat × Nat), vs = [.ref d, .ref sp] ∧ PsAt C H d l ∧ l.length < 64 ∧ Ag b l ∧ H sp = some (.tup [.int s.1, .int s.2]) ∧ s.1 < s.2 ∧ s.2 ≤ 1000 ∧ ∀ H' : Hp, Same H H' → Q (.int (needsOf b (keys l) s : Nat)) H'
/-- tuples that stand for spans -/
def SpansAt (H : Hp) : List Addr → List (Nat × Nat) → Prop := Paired fun a s => H a = some (.tup [.int s.1, .int s.2])
theorem SpansAt.same {H H' : Hp} {as : List Addr} {ss : List (Nat × Nat)} (k : SpansAt H as ss) (s : Same H H') : SpansAt H' as ss := Paired.mapP k fun _ _ e => s _ _ e
def spansOf (b : Book) (L : List Nat) : List (Nat × Nat) := ((Kqu5.rising L).flatMap fun i => (Kqu5.rising L).map fun j => (Kqu5.from_ b i, Kqu5.to b j)).filter fun s => decide (s.1 < s.2)
def spSpans (C : Addr) : Sp := fun vs H Q _ => ∃ (d : Addr) (l : List (Nat × Addr × Person)) (b : Book), vs = [.ref d] ∧ PsAt C H d l ∧ l.length < 64 ∧ Ag b l ∧ ∀ (H' : Hp) (p : Addr) (as : List Addr), Same H H' → H p = none → H' p = some (.lst (as.map V.ref)) → SpansAt H' as (spansOf b (keys l)) → Q (.ref p) H'
def fewOf (b : Book) (L : List Nat) : Nat := ((spansOf b L).map (needsOf b L)).foldl max 0
def spFew (C : Addr) : Sp := fun vs H Q _ => ∃ (d : Addr) (l : List (Nat × Addr × Person)) (b : Book), vs = [.ref d] ∧ PsAt C H d l ∧ l.length < 64 ∧ Ag b l ∧ (∀ q ∈ l, Valid q.2.2) ∧ ∀ H' : Hp, Same H H' → Q (.int (fewOf b (keys l) : Nat)) H'
section
variable {P : Program} {w : World} {K : PySem.W.Frag} {mg : Str → Option Value} {base : Heap} {C : Addr}
theorem sc_held : FnScope ["persons", "first", "end", "number"] ["persons", "first", "end"] (defScope sHeldBy) := ⟨rfl, rfl, rfl, by decide +kernel, rfl, by decide +kernel, by decide +kernel⟩
theorem ok_held {f : Addr} {fd : FuncData} (F : Fun K "held_by" "held_by" sHeldBy f fd) (T : PC K C) (hlen : mg "len" = none) : FnOk P w K mg base CX0 1 f fd ["persons", "first", "end"] (spHeldBy C) := by
  refine F.ok sc_held (fun vs H Q E h => ?_) (fun cdv A outer s H vs Q E hr h => ?_)
  · obtain ⟨d, l, b, x, y, rfl, _⟩ := h
    rfl
  · obtain ⟨d, l, b, x, y, rfl, hP, hl, hA, k⟩ := h
    have hu := hu_of hr
    refine ⟨_, pss_one (ps_ret (pe_callB call_len_seq (by rfl) hlen PySem.boot_len (pa_cons (pe_lock (pe_lc (own := [("number", 3)]) rfl sc_held.nd (pi_keys (pv 0)) (blkOk_by (by show blkC ["persons", "first", "end", "number"] (defScope sHeldBy) _ _ = true; decide +kernel))
      (fun _ _ _ _ _ => pg_name (i := 3) sc_held.nd rfl (Or.inl rfl))
      (tt := tAnd (tTest (tOp (rI0 fun i j => .bl (decide (j ≤ i))) (tFld K (tDGet (tVar 0) (tVar 3)) "first") (tVar 1))) (tTest (tOp (rI0 fun i j => .bl (decide (i ≤ j))) (tFld K (tDGet (tVar 0) (tVar 3)) "end") (tVar 2))))
      (fun _ _ _ _ _ => pts_one (PW.pt (pw_and (pt_cmpR op_ge (pe_fld (pe_dget hu (pv 0) (pv 3) (fun _ _ => rfl)) rfl) (pv 1) (nomark _)) (pw_and1 (pt_cmpR op_le (pe_fld (pe_dget hu (pv 0) (pv 3) (fun _ _ => rfl)) rfl) (pv 2) (nomark _)))))) (fun _ _ _ _ _ => pv 3))) pa_nil))), ?_⟩
    refine ⟨d, _, hP.dict, trivial, fun od => ?_⟩
    refine ⟨_, rfl, d, od, rfl, .inl ⟨psK l, upd_same, fun D hD => ?_⟩⟩
    have nDd : D ≠ d := fun z => by rw [z, upd_same] at hD; cases hD
    refine lc_kfm (l := l) (f := inSpan b x y) (g := fun i => (i : Int)) (n := 3) hD upd_same (by omega) (fun j => rfl) (fun q hq H' S R hR => ?_) (fun q hq _ H' S R hR => ⟨_, rfl, hR⟩) ?_
    · obtain ⟨dx, hpa⟩ := hP.at_ q hq
      have hq2 : H' q.2.1 = some (.ins C dx (pf q.2.2)) := S _ _ (lock_keep hP.dict hpa (by intro z; cases z))
      have hg : DGet H' d (kV (Sum.inl (q.1 : Int))) (some (V.ref q.2.1)) := .inl ⟨psK l, Sum.inl (q.1 : Int), Rd.same S (lock_rd hP.dict (by intro _ _ z; cases z) hP.rd), rfl, (ps_val hP.nd hq).symm⟩
      have eA := hA q hq
      unfold inSpan at hR
      rw [eA.1, eA.2] at hR
      refine ⟨_, rfl, _, rfl, d, _, rfl, hg, q.2.1, C, dx, _, _, rfl, hq2, T.cl, T.nF, pf_first _, _, rfl, _, _, rfl, rfl, _, rfl, ?_⟩
      refine ite2 (fun z => ?_) fun z => ?_
      · have z2 : decide (x ≤ q.2.2.from_) = true := decide_eq_true (by have := of_decide_eq_true z; omega)
        rw [z2, Bool.true_and] at hR
        refine ⟨_, rfl, _, rfl, d, _, rfl, hg, q.2.1, C, dx, _, _, rfl, hq2, T.cl, T.nE, pf_end _, _, rfl, _, _, rfl, rfl, _, rfl, ?_⟩
        have e3 : decide ((q.2.2.to : Int) ≤ (y : Int)) = decide (q.2.2.to ≤ y) := by rw [Bool.eq_iff_iff]; simp
        show R (decide ((q.2.2.to : Int) ≤ (y : Int))) H'
        rw [e3]; exact hR
      · have z2 : decide (x ≤ q.2.2.from_) = false := decide_eq_false (fun h => z (decide_eq_true (by omega)))
        rw [z2, Bool.false_and] at hR
        exact hR
    · have S2 := unlock_same hP.dict ((Same.refl _).upd_new (o := .lst ((((keys l).filter (inSpan b x y)).map fun i : Nat => (i : Int)).map V.int)) hD)
      refine ⟨by rw [upd_ne nDd.symm]; exact upd_same, D, _, rfl, .inl (SqL.of (by rw [upd_ne nDd]; exact upd_same)), ?_⟩
      rw [List.length_map, List.length_map]
      have el : ((keys l).filter (inSpan b x y)).length = loadOf b (keys l) x y := ((rising_perm (keys l)).filter _).length_eq.symm
      rw [el]
      exact k _ S2
theorem sc_needs : FnScope ["persons", "span", "length"] ["persons", "span"] (defScope sSpanNeeds) := ⟨rfl, rfl, rfl, by decide +kernel, rfl, by decide +kernel, by decide +kernel⟩
theorem ok_needs {f fH : Addr} {fd fdH : FuncData} (F : Fun K "span_needs" "span_needs" sSpanNeeds f fd) (CH : Cal P w K mg base "held_by" fH fdH ["persons", "first", "end"] 1 (spHeldBy C)) : FnOk P w K mg base CX0 2 f fd ["persons", "span"] (spNeeds C) := by
  refine F.ok sc_needs (fun vs H Q E h => ?_) (fun cdv A outer s H vs Q E hr h => ?_)
  · obtain ⟨d, sp, l, b, s, rfl, _⟩ := h
    rfl
  · obtain ⟨d, sp, l, b, ⟨x, y⟩, rfl, hP, hl, hA, hsp, hxy, hy, k⟩ := h
    have hxy : x < y := hxy
    have hy : y ≤ 1000 := hy
    refine ⟨_, pss_cons (ps_set (i := 2) sc_needs.nd rfl (Or.inl rfl) (pe_op op_sub (pe_ix ix_tup (pv 1) pe_int (fun _ _ => rfl)) (pe_ix ix_tup (pv 1) pe_int (fun _ _ => rfl))))
      (pss_one (ps_ret (pe_op op_fdiv (pe_op op_sub (pe_op op_add (pe_cal CH hr rfl (pa_cons (pv 0) (pa_cons (pe_ix ix_tup (pv 1) pe_int (fun _ _ => rfl)) (pa_cons (pe_ix ix_tup (pv 1) pe_int (fun _ _ => rfl)) pa_nil)))) (pv 2)) pe_int) (pv 2)))), ?_⟩
    refine ⟨_, rfl, sp, _, _, _, rfl, rfl, SqT.of hsp, at_of (j := 1) rfl rfl, _, rfl, sp, _, _, _, rfl, rfl, SqT.of hsp, at_of (j := 0) rfl rfl, _, _, rfl, rfl, ?_⟩
    refine ⟨_, rfl, _, rfl, sp, _, _, _, rfl, rfl, SqT.of hsp, at_of (j := 0) rfl rfl, _, rfl, sp, _, _, _, rfl, rfl, SqT.of hsp, at_of (j := 1) rfl rfl, d, l, b, x, y, rfl, hP, hl, hA, fun H1 S1 => ?_⟩
    refine ⟨_, rfl, _, _, rfl, rfl, _, _, rfl, rfl, _, rfl, _, _, rfl, rfl, ⟨(by show (0 : Int) < (y : Int) - x; omega), (by show (y : Int) - x < 1073741824; omega)⟩, ?_⟩
    have e : ((loadOf b (keys l) x y : Nat) : Int) + ((y : Int) - x) - 1 = ((loadOf b (keys l) x y + (y - x) - 1 : Nat) : Int) := by omega
    have e2 : (y : Int) - x = ((y - x : Nat) : Int) := by omega
    have := k H1 S1
    show Q (.int ((((loadOf b (keys l) x y : Nat) : Int) + ((y : Int) - x) - 1) / ((y : Int) - x))) H1
    rw [e, e2, ← Int.natCast_ediv]
    exact this
end
end Ap

set_option Elab.async false
set_option linter.all false
set_option maxRecDepth 100000
set_option maxHeartbeats 8000000
namespace Ap
open PySem PySem.Spec PyProof.Rows L2
open Kqu5 (Person Book)
open Kqu5Neutral (asked1)
theorem SpansAt.snoc {H : Hp} {a : Addr} {s : Nat × Nat} : ∀ {as : List Addr} {ss : List (Nat × Nat)}, SpansAt H as ss → H a = some (.tup [.int s.1, .int s.2]) → SpansAt H (as ++ [a]) (ss ++ [s])
  | _, _, .nil, e => .cons e .nil
  | _, _, .cons h r, e => .cons h (SpansAt.snoc r e)
/-- the spans that begin with one of M, of L -/
def spansIn (b : Book) (M L : List Nat) : List (Nat × Nat) := (M.flatMap fun i => L.map fun j => (Kqu5.from_ b i, Kqu5.to b j)).filter fun s => decide (s.1 < s.2)
def spansRow (b : Book) (i : Nat) (M : List Nat) : List (Nat × Nat) := (M.map fun j => (Kqu5.from_ b i, Kqu5.to b j)).filter fun s => decide (s.1 < s.2)
theorem spansIn_snoc (b : Book) (M L : List Nat) (i : Nat) : spansIn b (M ++ [i]) L = spansIn b M L ++ spansRow b i L := by
  unfold spansIn spansRow
  rw [List.flatMap_append, List.filter_append]
  simp
theorem spansRow_snoc (b : Book) (i : Nat) (M : List Nat) (j : Nat) : spansRow b i (M ++ [j]) = spansRow b i M ++ (if Kqu5.from_ b i < Kqu5.to b j then [(Kqu5.from_ b i, Kqu5.to b j)] else []) := by
  unfold spansRow
  rw [List.map_append, List.filter_append]
  congr 1
  by_cases h : Kqu5.from_ b i < Kqu5.to b j
  · simp [h]
  · simp [h]
theorem spansIn_len (b : Book) (L : List Nat) : ∀ M : List Nat, (spansIn b M L).length ≤ M.length * L.length
  | [] => by simp [spansIn]
  | i :: M => by
    have e : spansIn b (i :: M) L = spansRow b i L ++ spansIn b M L := by
      unfold spansIn spansRow
      rw [List.flatMap_cons, List.filter_append]
    rw [e, List.length_append, List.length_cons, Nat.succ_mul, Nat.add_comm]
    refine Nat.add_le_add (spansIn_len b L M) ?_
    unfold spansRow
    refine Nat.le_trans (List.length_filter_le _ _) ?_
    rw [List.length_map]; exact Nat.le_refl _
theorem spansRow_len (b : Book) (i : Nat) (M : List Nat) : (spansRow b i M).length ≤ M.length := by
  unfold spansRow
  refine Nat.le_trans (List.length_filter_le _ _) ?_
  rw [List.length_map]; exact Nat.le_refl _
section
variable {P : Program} {w : World} {K : PySem.W.Frag} {mg : Str → Option Value} {base : Heap} {C : Addr}
theorem sc_spans : FnScope ["persons", "spans", "opener", "closer"] ["persons"] (defScope sSpansOf) := ⟨rfl, rfl, rfl, by decide +kernel, rfl, by decide +kernel, by decide +kernel⟩
theorem ok_spans {f : Addr} {fd : FuncData} (F : Fun K "spans_of" "spans_of" sSpansOf f fd) (T : PC K C) (hs : mg "sorted" = none) : FnOk P w K mg base CX0 1 f fd ["persons"] (spSpans C) := by
  refine F.ok sc_spans (fun vs H Q E h => ?_) (fun cdv A outer s H vs Q E hr h => ?_)
  · obtain ⟨d, l, b, rfl, _⟩ := h
    rfl
  · obtain ⟨d, l, b, rfl, hP, hl, hA, k⟩ := h
    have hu := hu_of hr
    refine ⟨_, pss_cons (ps_set (i := 1) sc_spans.nd rfl (Or.inl rfl) (pe_lst pa_nil))
      (pss_cons (ps_for PassesOwn.never rfl (pi_list (pe_callB (cr_sortedD rfl) (by rfl) hs bootSorted (pa_cons (pv 0) pa_nil))) (pg_name (i := 2) sc_spans.nd rfl (Or.inl rfl))
        (pss_one (ps_for PassesOwn.never rfl (pi_list (pe_callB (cr_sortedD rfl) (by rfl) hs bootSorted (pa_cons (pv 0) pa_nil))) (pg_name (i := 3) sc_spans.nd rfl (Or.inl rfl))
          (pss_one (ps_if (pt_cmpR op_lt (pe_fld (pe_dget hu (pv 0) (pv 2) (fun _ _ => rfl)) rfl) (pe_fld (pe_dget hu (pv 0) (pv 3) (fun _ _ => rfl)) rfl) (nomark _))
            (pss_one (ps_expr (pe_bm PySem.F.plainAttrs_list PySem.F.slot_list_append PySem.F.type_list_append mt_append (pv 1) (pa_cons (pe_tup (pa_cons (pe_fld (pe_dget hu (pv 0) (pv 2) (fun _ _ => rfl)) rfl) (pa_cons (pe_fld (pe_dget hu (pv 0) (pv 3) (fun _ _ => rfl)) rfl) pa_nil))) pa_nil)))) pss_nil)))))
      (pss_one (ps_ret (pv 1)))), ?_⟩
    have hrl := rising_len l
    refine ⟨Nat.zero_le _, fun p hp => ?_⟩
    have S0 := (Same.refl H).upd_new (o := .lst []) hp
    refine ⟨_, rfl, d, _, rfl, (hP.gr (ts := []) (Gr.same S0)).kvs, (by rw [List.length_map]; exact hl), fun ns p0 hpm hpw hp0 => ?_⟩
    obtain rfl := keys_sorted hpm hpw
    have np0 : p ≠ p0 := ne_of_none upd_same hp0
    have S1 := S0.trans ((Same.refl _).upd_new (o := .lst ((up (Kqu5.rising (keys l))).map V.int)) hp0)
    refine ⟨p0, rfl, ⟨_, SqL.of upd_same⟩, for_list (K := K) (a := p0) (xs := (up (Kqu5.rising (keys l))).map V.int)
      (fun i σ H' => ∃ (v2 v3 : Option V) (as : List Addr), σ = [some (.ref d), some (.ref p), v2, v3] ∧ Same H H' ∧ H' p = some (.lst (as.map V.ref)) ∧ H' p0 = some (.lst ((up (Kqu5.rising (keys l))).map V.int)) ∧ SpansAt H' as (spansIn b ((Kqu5.rising (keys l)).take i) (Kqu5.rising (keys l))))
      ⟨none, none, [], rfl, S1, by rw [upd_ne (ne_of_none upd_same hp0)]; exact upd_same, upd_same, .nil⟩ (fun i σ H' _ ⟨_, _, _, _, _, _, h, _⟩ => SqL.of h) ?_ ?_⟩
    · rintro i z σ H2 hz ⟨v2, v3, as, rfl, S2, h2p, h2l, hsp⟩
      obtain ⟨o, ho, rfl⟩ := up_at hz
      have hil : i < (Kqu5.rising (keys l)).length := (List.getElem?_eq_some_iff.mp ho).1
      obtain ⟨qo, hqo, rfl⟩ := List.mem_map.mp (mem_rising.mp (List.mem_of_getElem? ho))
      obtain ⟨dxo, hpo⟩ := hP.at_ qo hqo
      refine ⟨_, rfl, d, _, rfl, (hP.gr (ts := []) (Gr.same S2)).kvs, (by rw [List.length_map]; exact hl), fun ns2 p3 hpm2 hpw2 hp3 => ?_⟩
      obtain rfl := keys_sorted hpm2 hpw2
      have np3 : p ≠ p3 := ne_of_none h2p hp3
      have S3 := (Same.refl H2).upd_new (o := .lst ((up (Kqu5.rising (keys l))).map V.int)) hp3
      refine ⟨p3, rfl, ⟨_, SqL.of upd_same⟩, for_list (K := K) (a := p3) (xs := (up (Kqu5.rising (keys l))).map V.int)
        (fun j σ H' => ∃ (v3 : Option V) (as : List Addr), σ = [some (.ref d), some (.ref p), some (.int (qo.1 : Int)), v3] ∧ Same H H' ∧ H' p = some (.lst (as.map V.ref)) ∧ H' p0 = some (.lst ((up (Kqu5.rising (keys l))).map V.int)) ∧ H' p3 = some (.lst ((up (Kqu5.rising (keys l))).map V.int)) ∧
          SpansAt H' as (spansIn b ((Kqu5.rising (keys l)).take i) (Kqu5.rising (keys l)) ++ spansRow b qo.1 ((Kqu5.rising (keys l)).take j)))
        ⟨v3, as, rfl, S2.trans S3, S3 _ _ h2p, S3 _ _ h2l, upd_same, by rw [List.take_zero]; show SpansAt _ _ (_ ++ []); rw [List.append_nil]; exact hsp.same S3⟩ (fun j σ H' _ ⟨_, _, _, _, _, _, h, _⟩ => SqL.of h) ?_ ?_⟩
      · rintro j z σ H4 hz4 ⟨v3', as4, rfl, S4, h4p, h4l, h4m, hsp4⟩
        obtain ⟨cl, hcl, rfl⟩ := up_at hz4
        have hjl : j < (Kqu5.rising (keys l)).length := (List.getElem?_eq_some_iff.mp hcl).1
        obtain ⟨qc, hqc, rfl⟩ := List.mem_map.mp (mem_rising.mp (List.mem_of_getElem? hcl))
        obtain ⟨dxc, hpc⟩ := hP.at_ qc hqc
        have gO : ∀ H5, Same H H5 → DGet H5 d (kV (Sum.inl (qo.1 : Int))) (some (V.ref qo.2.1)) := fun H5 S5 => .inl ⟨psK l, Sum.inl (qo.1 : Int), Rd.same S5 hP.rd, rfl, (ps_val hP.nd hqo).symm⟩
        have gC : ∀ H5, Same H H5 → DGet H5 d (kV (Sum.inl (qc.1 : Int))) (some (V.ref qc.2.1)) := fun H5 S5 => .inl ⟨psK l, Sum.inl (qc.1 : Int), Rd.same S5 hP.rd, rfl, (ps_val hP.nd hqc).symm⟩
        have eo := (hA qo hqo).1
        have ec := (hA qc hqc).2
        have hrow : spansRow b qo.1 ((Kqu5.rising (keys l)).take (j + 1)) = spansRow b qo.1 ((Kqu5.rising (keys l)).take j) ++ (if qo.2.2.from_ < qc.2.2.to then [(qo.2.2.from_, qc.2.2.to)] else []) := by
          rw [take_succ' hcl, spansRow_snoc, eo, ec]
        refine ⟨_, rfl, _, rfl, d, _, rfl, gO _ S4, qo.2.1, C, dxo, _, _, rfl, S4 _ _ hpo, T.cl, T.nF, pf_first _, _, rfl, _, rfl, d, _, rfl, gC _ S4, qc.2.1, C, dxc, _, _, rfl, S4 _ _ hpc, T.cl, T.nE, pf_end _, _, _, rfl, rfl, _, rfl, ite2 (fun y => ?_) fun y => ?_⟩
        · have y : (qo.2.2.from_ : Int) < (qc.2.2.to : Int) := of_decide_eq_true y
          have y2 : qo.2.2.from_ < qc.2.2.to := by omega
          rw [if_pos y2] at hrow
          refine ⟨_, rfl, .inl ⟨rfl, _, SqL.of h4p⟩, _, rfl, _, rfl, d, _, rfl, gO _ S4, qo.2.1, C, dxo, _, _, rfl, S4 _ _ hpo, T.cl, T.nF, pf_first _, _, rfl, _, rfl, d, _, rfl, gC _ S4, qc.2.1, C, dxc, _, _, rfl, S4 _ _ hpc, T.cl, T.nE, pf_end _, (by show 2 ≤ sizeLine; decide), fun t ht => ?_⟩
          have S5 := (Same.refl H4).upd_new (o := .tup [V.int (qo.2.2.from_ : Int), V.int (qc.2.2.to : Int)]) ht
          have ntp : t ≠ p := ne_of (upd_same (H := H4) (a := t) (o := .tup [V.int (qo.2.2.from_ : Int), V.int (qc.2.2.to : Int)])) (S5 _ _ h4p) (by intro z; cases z)
          refine ⟨p, _, _, rfl, rfl, S5 _ _ h4p, ?_, ?_⟩
          · rw [List.length_map, Paired.length hsp4, List.length_append]
            have a1 := spansIn_len b (Kqu5.rising (keys l)) ((Kqu5.rising (keys l)).take i)
            have a2 := spansRow_len b qo.1 ((Kqu5.rising (keys l)).take j)
            rw [List.length_take] at a1 a2
            have a3 : min i (Kqu5.rising (keys l)).length * (Kqu5.rising (keys l)).length ≤ 64 * 64 := Nat.mul_le_mul (by omega) (by omega)
            exact Nat.lt_of_le_of_lt (show _ ≤ 64 * 64 + 64 by omega) (by decide)
          · have kp : ∀ c o, H4 c = some o → c ≠ p → upd (upd H4 t (.tup [V.int (qo.2.2.from_ : Int), V.int (qc.2.2.to : Int)])) p (.lst (as4.map V.ref ++ [V.ref t])) c = some o := fun c o e hne => by rw [upd_ne hne]; exact S5 c o e
            refine ⟨_, as4 ++ [t], rfl, fun c o e => kp c o (S4 c o e) (ne_of_none e hp), by rw [upd_same, List.map_append]; rfl, kp _ _ h4l np0.symm, kp _ _ h4m np3.symm, ?_⟩
            rw [hrow, ← List.append_assoc]
            exact SpansAt.snoc (Paired.mapP hsp4 fun _ _ e => kp _ _ e (ne_of e h4p (by intro z; cases z))) (by rw [upd_ne ntp]; exact upd_same)
        · have y2 : ¬ qo.2.2.from_ < qc.2.2.to := fun h => y (decide_eq_true (by omega))
          rw [if_neg y2, List.append_nil] at hrow
          exact ⟨_, as4, rfl, S4, h4p, h4l, h4m, by rw [hrow]; exact hsp4⟩
      · rintro σ H4 ⟨v3', as4, rfl, S4, h4p, h4l, h4m, hsp4⟩
        rw [List.length_map, List.length_map, List.take_length] at hsp4
        refine ⟨_, _, as4, rfl, S4, h4p, h4l, ?_⟩
        rw [take_succ' ho, spansIn_snoc]; exact hsp4
    · rintro σ H2 ⟨v2, v3, as, rfl, S2, h2p, h2l, hsp⟩
      rw [List.length_map, List.length_map, List.take_length] at hsp
      exact ⟨_, rfl, k H2 p as S2 hp h2p hsp⟩
end
end Ap

set_option Elab.async false
set_option linter.all false
set_option maxRecDepth 100000
set_option maxHeartbeats 8000000
namespace Ap
open PySem PySem.Spec PyProof.Rows L2
open Kqu5 (Person Book)
open Kqu5Neutral (asked1)
abbrev sFewest : Stmt := top 45
theorem foldl_max_ge : ∀ (L : List Nat) (a : Nat), a ≤ L.foldl max a ∧ ∀ x ∈ L, x ≤ L.foldl max a
  | [], a => ⟨Nat.le_refl _, fun _ h => nomatch h⟩
  | y :: L, a => by
    obtain ⟨h1, h2⟩ := foldl_max_ge L (max a y)
    exact ⟨Nat.le_trans (Nat.le_max_left _ _) h1, fun x hx => (List.mem_cons.mp hx).elim (fun e => by rw [e]; exact Nat.le_trans (Nat.le_max_right _ _) h1) (h2 x)⟩
theorem foldl_max_mem : ∀ (L : List Nat) (a : Nat), L.foldl max a = a ∨ L.foldl max a ∈ L
  | [], a => .inl rfl
  | y :: L, a => by
    show (L.foldl max (max a y)) = a ∨ _
    rcases foldl_max_mem L (max a y) with h | h
    · rcases Nat.le_total a y with z | z
      · rw [Nat.max_eq_right z] at h
        exact .inr (by show L.foldl max (max a y) ∈ _; rw [Nat.max_eq_right z, h]; exact .head _)
      · rw [Nat.max_eq_left z] at h ⊢
        exact .inl h
    · exact .inr (.tail _ h)
theorem max_is {L : List Nat} {m : Int} (h1 : m ∈ up L) (h2 : ∀ a, a ∈ up L → a ≤ m) : m = ((L.foldl max 0 : Nat) : Int) := by
  obtain ⟨k, hk, rfl⟩ := List.mem_map.mp h1
  obtain ⟨g1, g2⟩ := foldl_max_ge L 0
  have a1 := g2 k hk
  rcases foldl_max_mem L 0 with h | h
  · omega
  · have := h2 _ (List.mem_map.mpr ⟨_, h, rfl⟩)
    omega
theorem spansOf_is (b : Book) (L : List Nat) : spansOf b L = spansIn b (Kqu5.rising L) (Kqu5.rising L) := rfl
theorem spansOf_mem {b : Book} {l : List (Nat × Addr × Person)} (hA : Ag b l) (hv : ∀ q ∈ l, Valid q.2.2) {s : Nat × Nat} (h : s ∈ spansOf b (keys l)) : s.1 < s.2 ∧ s.2 ≤ 40 := by
  unfold spansOf at h
  obtain ⟨h1, h2⟩ := List.mem_filter.mp h
  refine ⟨of_decide_eq_true h2, ?_⟩
  obtain ⟨i, hi, h3⟩ := List.mem_flatMap.mp h1
  obtain ⟨j, hj, rfl⟩ := List.mem_map.mp h3
  obtain ⟨q, hq, rfl⟩ := List.mem_map.mp (mem_rising.mp hj)
  show Kqu5.to b q.1 ≤ 40
  rw [(hA q hq).2]
  exact (hv q hq).2.1
section
variable {P : Program} {w : World} {K : PySem.W.Frag} {mg : Str → Option Value} {base : Heap} {C CB CP : Addr} {ts : List TabRec}
theorem sc_few : FnScope ["persons", "span"] ["persons"] (defScope sWindowsNeeded) := ⟨rfl, rfl, rfl, by decide +kernel, rfl, by decide +kernel, by decide +kernel⟩
theorem ok_few {f fS fN : Addr} {fd fdS fdN : FuncData} (F : Fun K "windows_needed" "windows_needed" sWindowsNeeded f fd) (hmx : mg "max" = none) (CS : Cal P w K mg base "spans_of" fS fdS ["persons"] 1 (spSpans C)) (CN : Cal P w K mg base "span_needs" fN fdN ["persons", "span"] 2 (spNeeds C)) : FnOk P w K mg base CX0 3 f fd ["persons"] (spFew C) := by
  refine F.ok sc_few (fun vs H Q E h => ?_) (fun cdv A outer s H vs Q E hr h => ?_)
  · obtain ⟨d, l, b, rfl, _⟩ := h
    rfl
  · obtain ⟨d, l, b, rfl, hP, hl, hA, hv, k⟩ := h
    have hr1 : Room 1 _ := hr.mono (by decide)
    refine ⟨_, pss_one (ps_ret (pe_maxD rfl rfl hmx (pe_lc (own := [("span", 1)]) rfl sc_few.nd (pi_list (pe_cal CS hr1 rfl (pa_cons (pv 0) pa_nil))) (blkOk_by (by show blkC ["persons", "span"] (defScope sWindowsNeeded) _ _ = true; decide +kernel))
      (fun _ _ _ _ _ => pg_name (i := 1) sc_few.nd rfl (Or.inl rfl)) (fun _ _ _ _ _ => pts_nil) (fun _ _ _ _ _ => pe_cal CN hr rfl (pa_cons (pv 0) (pa_cons (pv 1) pa_nil)))) pe_int)), ?_⟩
    refine ⟨_, rfl, d, l, b, rfl, hP, hl, hA, fun H1 p as S1 np hp hsp => ?_⟩
    have hlen := Paired.length hsp
    refine ⟨p, rfl, ⟨_, SqL.of hp⟩, fun D hD => ?_⟩
    have nDp : p ≠ D := ne_of_none hp hD
    have hsl : (spansOf b (keys l)).length ≤ 64 * 64 := by
      rw [spansOf_is]
      refine Nat.le_trans (spansIn_len _ _ _) ?_
      have := rising_len l
      exact Nat.mul_le_mul (by omega) (by omega)
    refine lc_list (K := K) (a := p) (xs := as.map V.ref) (fun i H' => H' D = some (.lst ((up (((spansOf b (keys l)).take i).map (needsOf b (keys l)))).map V.int)) ∧ ∀ c o, H1 c = some o → H' c = some o) ⟨upd_same, (Same.refl H1).upd_new hD⟩ (fun i H' _ e => SqL.of (e.2 _ _ hp)) (fun i x H' hx e => ?_) (fun H' e => ?_)
    · obtain ⟨e1, S2⟩ := e
      have hi : i < as.length := by
        have := (List.getElem?_eq_some_iff.mp hx).1
        rw [List.length_map] at this; exact this
      rw [List.getElem?_map, List.getElem?_eq_getElem hi] at hx
      obtain rfl : V.ref as[i] = x := Option.some.inj hx
      have hs : (spansOf b (keys l))[i]? = some ((spansOf b (keys l))[i]'(by omega)) := List.getElem?_eq_getElem (by omega)
      generalize (spansOf b (keys l))[i]'(by omega) = sp at hs
      have hsm := spansOf_mem hA hv (List.mem_of_getElem? hs)
      have hat : H1 as[i] = some (.tup [.int sp.1, .int sp.2]) := by
        obtain ⟨s2, z1, z2⟩ := paired_get hsp (List.getElem?_eq_getElem hi)
        rw [hs] at z1; cases z1
        exact z2
      refine ⟨rfl, ⟨_, rfl, _, rfl, d, as[i], l, b, sp, rfl, (hP.gr (ts := []) (Gr.same (S1.trans S2))), hl, hA, S2 _ _ hat, hsm.1, by omega, fun H3 S3 => ⟨_, S3 _ _ e1, ?_, ?_, fun c o e => ?_⟩⟩⟩
      · rw [List.length_map, List.length_map, List.length_map, List.length_take]
        exact Nat.lt_of_le_of_lt (show _ ≤ 64 * 64 by omega) (by decide)
      · rw [upd_same, take_succ' hs, List.map_append]
        show _ = some (HO.lst ((up (_ ++ [_])).map V.int))
        rw [up_snoc]
      · rw [upd_ne (ne_of_none e hD)]
        exact S3 _ _ (S2 _ _ e)
    · obtain ⟨e1, S2⟩ := e
      rw [List.length_map, hlen, List.take_length] at e1
      refine ⟨D, up ((spansOf b (keys l)).map (needsOf b (keys l))), 0, rfl, rfl, SqL.of e1, fun h0 => ?_, fun m hm1 hm2 => ?_⟩
      · have : (spansOf b (keys l)).map (needsOf b (keys l)) = [] := List.map_eq_nil_iff.mp h0
        have e : fewOf b (keys l) = 0 := by unfold fewOf; rw [this]; rfl
        have := k H' (S1.trans S2)
        rw [e] at this
        exact this
      · have := k H' (S1.trans S2)
        rw [max_is hm1 hm2]
        exact this
theorem load_eq {b : Book} {l : List (Nat × Addr × Person)} (R : RepB b l) (nd : (keys l).Nodup) (x y : Nat) : Kqu5.load b x y = loadOf b (keys l) x y := by
  unfold Kqu5.load loadOf
  rw [R.ids_eq nd]; rfl
theorem spans_eq {b : Book} {l : List (Nat × Addr × Person)} (R : RepB b l) (nd : (keys l).Nodup) : Kqu5.spans b = spansOf b (keys l) := by
  unfold Kqu5.spans spansOf
  rw [R.ids_eq nd]
theorem needs_eq {b : Book} {l : List (Nat × Addr × Person)} (R : RepB b l) (nd : (keys l).Nodup) (s : Nat × Nat) : Kqu5.needs b s = needsOf b (keys l) s := by
  unfold Kqu5.needs needsOf
  rw [load_eq R nd]
theorem few_eq {b : Book} {l : List (Nat × Addr × Person)} (R : RepB b l) (nd : (keys l).Nodup) (hv : ∀ q ∈ l, Valid q.2.2) : (Kqu5.fewest b).getD 0 = fewOf b (keys l) := by
  unfold Kqu5.fewest
  have h : (Kqu5.ids b).all (fun i => decide (Kqu5.from_ b i < Kqu5.to b i)) = true := by
    rw [List.all_eq_true]
    intro i hi
    obtain ⟨q, hq, rfl⟩ := List.mem_map.mp ((R.mem_ids i).mp hi)
    have := R.ag nd hq
    rw [this.1, this.2.1]
    exact decide_eq_true (hv q hq).1
  rw [if_pos h]
  show ((Kqu5.spans b).map (Kqu5.needs b)).foldl max 0 = fewOf b (keys l)
  unfold fewOf
  rw [spans_eq R nd]
  congr 1
  exact List.map_congr_left fun s _ => needs_eq R nd s
theorem sc_afew : FnScope ["book", "told"] ["book", "told"] (defScope sFewest) := ⟨rfl, rfl, rfl, by decide +kernel, rfl, by decide +kernel, by decide +kernel⟩
theorem ok_afew {f fW : Addr} {fd fdW : FuncData} (F : Fun K "answer_fewest" "answer_fewest" sFewest f fd) (T : BC K CB) (CW : Cal P w K mg base "windows_needed" fW fdW ["persons"] 3 (spFew CP)) : FnOk P w K mg base CX0 4 f fd ["book", "told"] (spA K CB CP ts 10) := by
  refine F.ok sc_afew (fun vs H Q E h => ?_) (fun cdv A outer s H vs Q E hr h => ?_)
  · obtain ⟨bk, tp, tl, s, rfl, _⟩ := h
    rfl
  · obtain ⟨bk, tp, tl, st, rfl, B, ht, hT, hq, -, hst, k⟩ := h
    obtain rfl := asked_10 hq
    clear hq
    obtain ⟨b, rfl⟩ := some_of (by decide) hst
    refine ⟨_, pss_one (ps_ret (pe_lst (pa_cons (pe_cal CW hr rfl (pa_cons (pe_fld (pv 0) rfl) pa_nil)) pa_nil))), ?_⟩
    have B0 := B
    obtain ⟨pd, w0, l, Bk, rfl, w1, w2, R, hl, hv⟩ := B
    obtain ⟨dx, hb⟩ := Bk.ins
    have e10 : (stp (some b) 10 []) = (some b, [((fewOf b (keys l) : Nat) : Int)]) := by
      show (some b, Kqu5Neutral.tell (.num (((Kqu5.fewest b).getD 0 : Nat) : Int))) = _
      rw [few_eq R Bk.nd hv]; rfl
    refine ⟨_, rfl, bk, CB, dx, _, _, rfl, hb, T.cl, T.nP, bkf_p _ _, pd, l, b, rfl, Bk.ps, Nat.lt_of_le_of_lt hl (by decide), R.agr Bk.nd, hv, fun H1 S1 => ⟨(by show 1 ≤ sizeLine; decide), fun p hp => ?_⟩⟩
    exact endA (out := [((fewOf b (keys l) : Nat) : Int)]) (Gr.same S1) hp B0 hT k (by rw [e10]) (by rw [e10])
end
end Ap

set_option Elab.async false
set_option linter.all false
set_option maxRecDepth 100000
set_option maxHeartbeats 8000000
namespace Ap
open PySem PySem.Spec PyProof.Rows L2
open Kqu5 (Person Book)
open Kqu5Neutral (asked1)
abbrev sSizeAt : Stmt := top 58
abbrev sAnswers : Stmt := top 59
def sizesL : List Int := [1, 3, 1, 3, 1, 0, 0, 1, 1, 0, 0, 0, 2, 0, 1, 1, 1, 2, 0, 1, 0]
theorem sizes_fin : ∀ i : _root_.Fin 21, i.val ≠ 14 → sizesL[i.val]? = some (((PyKqu5.shape (i.val : Int)).map (·.1)).getD 0 : Nat) := by decide
theorem sizes_at {k : Int} (h0 : 0 ≤ k) (h1 : k ≤ 20) (h : k ≠ 14) (r : List Int) : sizesL[k.toNat]? = some (sizeOf k r : Nat) := by
  have := sizes_fin ⟨k.toNat, by omega⟩ (by show k.toNat ≠ 14; omega)
  have e : ((k.toNat : Nat) : Int) = k := by omega
  show sizesL[k.toNat]? = _
  unfold sizeOf
  rw [if_neg h]
  have this : sizesL[k.toNat]? = some (((PyKqu5.shape ((k.toNat : Nat) : Int)).map (·.1)).getD 0 : Nat) := this
  rw [this, e]
def spSize (K : PySem.W.Frag) : Sp := fun vs H Q _ => ∃ (cp : Addr) (l : List Int) (pl : Nat) (k : Int) (r : List Int), vs = [.ref cp, .int pl] ∧ SqL K H cp (l.map V.int) ∧ l.drop pl = k :: r ∧ 0 ≤ k ∧ k ≤ 20 ∧ (k = 14 → ∃ n r', r = n :: r' ∧ 0 ≤ n) ∧ Q (.int (sizeOf k r : Nat)) H
/-- what one call answers, whatever it is -/
def spOne (K : PySem.W.Frag) (CB CP : Addr) (ts : List TabRec) : Sp := fun vs H Q _ => ∃ (bk tp : Addr) (k : Int) (tl : List Int) (s : Option Book), vs = [.ref bk, .int k, .ref tp] ∧ BookS CB CP H bk s ∧ SqL K H tp (tl.map V.int) ∧ Tabs ts H ∧ asked1 (callC k tl) = true ∧ (k = 14 → tl.headD 0 = ((tl.length - 1 : Nat) : Int)) ∧ 0 ≤ k ∧ k ≤ 20 ∧
  ∀ (H' : Hp) (p : Addr), BookS CB CP H' bk (stp s k tl).1 → Tabs ts H' → (∀ b o, H b = some o → keepK o = true → H' b = some o) → H p = none → H' p = some (.lst ((stp s k tl).2.map V.int)) → Q (.ref p) H'
theorem drop_at {l : List Int} {pl : Nat} {k : Int} {r : List Int} (h : l.drop pl = k :: r) : l[pl]? = some k ∧ l.drop (pl + 1) = r ∧ pl < l.length ∧ l.length = pl + 1 + r.length := by
  have h1 : pl < l.length := by
    apply Nat.lt_of_not_le
    intro hge
    rw [List.drop_eq_nil_of_le hge] at h; cases h
  rw [List.drop_eq_getElem_cons h1] at h
  have e := List.cons.inj h
  refine ⟨by rw [List.getElem?_eq_getElem h1, e.1], e.2, h1, ?_⟩
  have := congrArg List.length e.2
  rw [List.length_drop] at this
  omega
theorem at_int {l : List Int} {j : Nat} {z : Int} (h : l[j]? = some z) : atI (l.map V.int) (j : Int) = some (V.int z) := atI_nat (by rw [List.getElem?_map, h]; rfl)
section
variable {P : Program} {w : World} {K : PySem.W.Frag} {mg : Str → Option Value} {base : Heap} {C CB CP : Addr} {ts : List TabRec}
theorem sc_size : FnScope ["calls", "place", "kind"] ["calls", "place"] (defScope sSizeAt) := ⟨rfl, rfl, rfl, by decide +kernel, rfl, by decide +kernel, by decide +kernel⟩
theorem ok_size {f za : Addr} {fd : FuncData} (F : Fun K "size_at" "size_at" sSizeAt f fd) (M : Cst mg) (hz : mg "SIZES" = some (.ref za)) (hzK : ∀ H, SqT K H za (sizesL.map V.int)) : FnOk P w K mg base CX0 1 f fd ["calls", "place"] (spSize K) := by
  refine F.ok sc_size (fun vs H Q E h => ?_) (fun cdv A outer s H vs Q E hr h => ?_)
  · obtain ⟨cp, l, pl, k, r, rfl, _⟩ := h
    rfl
  · obtain ⟨cp, l, pl, kk, r, rfl, hl, hd, k0, k20, h14, k⟩ := h
    obtain ⟨t14, m14⟩ := M.c14
    obtain ⟨d1, d2, d3, d4⟩ := drop_at hd
    refine ⟨_, pss_cons (ps_set (i := 2) sc_size.nd rfl (Or.inl rfl) (pe_ix ix_list (pv 0) (pv 1) (fun _ _ => rfl)))
      (pss_cons (ps_if (pt_cmpR op_eq (pv 2) (pe_glob (v := .int 14) rfl m14 ⟨_, rfl⟩) (nomark _)) (pss_one (ps_ret (pe_op op_add (pe_ix ix_tup (pe_glob (v := .ref za) rfl hz rfl) (pv 2) (fun _ _ => rfl)) (pe_ix ix_list (pv 0) (pe_op op_add (pv 1) pe_int) (fun _ _ => rfl))))) pss_nil)
      (pss_one (ps_ret (pe_ix ix_tup (pe_glob (v := .ref za) rfl hz rfl) (pv 2) (fun _ _ => rfl))))), ?_⟩
    refine ⟨_, rfl, _, rfl, cp, _, _, _, rfl, rfl, hl, at_int d1, _, rfl, rfl, _, rfl, ite2 (fun z => ?_) fun z => ?_⟩
    · have z : V.int kk = V.int 14 := of_decide_eq_true z
      have z : kk = 14 := V.int.inj z
      subst z
      obtain ⟨n, r', rfl, hn⟩ := h14 rfl
      have d5 : l[pl + 1]? = some n := by
        have := List.getElem?_drop (xs := l) (i := pl + 1) (j := 0)
        rw [d2] at this
        exact this.symm
      refine ⟨_, rfl, za, _, _, _, rfl, rfl, hzK H, at_int (j := 14) (z := 1) rfl, _, rfl, _, rfl, _, _, rfl, rfl, cp, _, _, _, rfl, rfl, hl, at_of (j := pl + 1) (by omega) (by rw [List.getElem?_map, d5]; rfl), _, _, rfl, rfl, ?_⟩
      have e : (1 : Int) + n = ((sizeOf 14 (n :: r') : Nat) : Int) := by
        unfold sizeOf
        rw [if_pos rfl]
        show 1 + n = ((1 + n.toNat : Nat) : Int)
        omega
      show Q (.int ((1 : Int) + n)) H
      rw [e]; exact k
    · have z : kk ≠ 14 := fun y => z (decide_eq_true (by rw [y]))
      have hs := sizes_at k0 k20 z r
      have ek : kk = ((kk.toNat : Nat) : Int) := by omega
      refine ⟨_, rfl, za, _, _, _, rfl, rfl, hzK H, at_of (j := kk.toNat) ek (by rw [List.getElem?_map, hs]; rfl), ?_⟩
      exact k
end
end Ap

set_option Elab.async false
set_option linter.all false
set_option maxRecDepth 100000
set_option maxHeartbeats 8000000
namespace Ap
open PySem PySem.Spec PyProof.Rows L2
open Kqu5 (Person Book)
open Kqu5Neutral (asked1)
/-- a class that is called to make books -/
structure MkB (P : Program) (w : World) (K : PySem.W.Frag) (mg : Str → Option Value) (base : Heap) (C fI : Addr) (fdI : FuncData) : Prop where
  mak : Mk K C fI
  fn : FnOk P w K mg base CX0 1 fI fdI ["self"] (spBInit C)
  b : Binds K fdI ["self"] []
  m : mg "Book" = some (.ref C)
/-- the whole: a list of calls comes in, what is due comes out -/
def spAll (K : PySem.W.Frag) (ts : List TabRec) : Sp := fun vs H Q _ => ∃ (cp : Addr) (l : List Int), vs = [.ref cp] ∧ SqL K H cp (l.map V.int) ∧ l.length ≤ 15000 ∧ PyKqu5.answers_asked l = true ∧ Tabs ts H ∧
  ∀ (H' : Hp) (p : Addr), H' p = some (.lst ((PyKqu5.answers l).map V.int)) → Q (.ref p) H'
theorem SqL.keep {K : PySem.W.Frag} {H H' : Hp} {a : Addr} {xs : List V} (h : SqL K H a xs) (k : ∀ b o, H b = some o → keepK o = true → H' b = some o) : SqL K H' a xs := by
  rcases h with (h | ⟨o, h⟩) | h
  · exact .inl (.inl (k _ _ h rfl))
  · exact .inl (.inr ⟨o, k _ _ h rfl⟩)
  · exact .inr h
/-- how the list that is handed in stays known -/
theorem keep_case {K : PySem.W.Frag} {H : Hp} {cp : Addr} {xs : List V} (h : SqL K H cp xs) : ∃ CL : Hp → Prop, CL H ∧ (∀ H', CL H' → SqL K H' cp xs) ∧ (∀ H' H'', CL H' → (∀ o, H' cp = some o → keepK o = true → H'' cp = some o) → CL H'') ∧ ((∃ o, H cp = some o) ∨ ∀ H', CL H') := by
  rcases h with (h | ⟨o, h⟩) | h
  · exact ⟨fun H' => H' cp = some (.lst xs), h, fun H' e => .inl (.inl e), fun H' H'' e k => k _ e rfl, .inl ⟨_, h⟩⟩
  · exact ⟨fun H' => H' cp = some (.frz o (.lst xs)), h, fun H' e => .inl (.inr ⟨o, e⟩), fun H' H'' e k => k _ e rfl, .inl ⟨_, h⟩⟩
  · exact ⟨fun _ => True, trivial, fun H' _ => .inr h, fun _ _ _ _ => trivial, .inr fun _ => trivial⟩
theorem cut_mid (l : List Int) (a n : Nat) (h : a + n ≤ l.length) : cutV (l.map V.int) (some ((a : Nat) : Int)) (some ((a + n : Nat) : Int)) = ((l.drop a).take n).map V.int := by
  unfold cutV
  rw [HT.sIx_nat, HT.sIx_nat, List.length_map, Nat.min_eq_left (by omega), Nat.min_eq_left (by omega), ← List.map_drop, ← List.map_take]
  congr 2
  omega
theorem told_cons (a : List Int) (r : List (List Int)) : PyFlat.told (a :: r) = (a.length : Int) :: a ++ PyFlat.told r := by
  unfold PyFlat.told
  rw [List.flatMap_cons]
section
variable {P : Program} {w : World} {K : PySem.W.Frag} {mg : Str → Option Value} {base : Heap} {CB CP : Addr} {ts : List TabRec}
abbrev nAll : List Str := ["calls", "book", "given", "place", "behind", "answer"]
theorem sc_all : FnScope nAll ["calls"] (defScope sAnswers) := ⟨rfl, rfl, rfl, by decide +kernel, rfl, by decide +kernel, by decide +kernel⟩
/-- between two calls -/
structure Mid (CL : Hp → Prop) (CB CP : Addr) (ts : List TabRec) (l : List Int) (bk gv : Addr) (H : Hp) (pl : Nat) : Prop where
  ex : ∃ (s : Option Book) (out : List Int) (f : Nat) (cs : List (List (List Int))), BookS CB CP H bk s ∧ H gv = some (.lst (out.map V.int)) ∧ PyFlat.calls PyKqu5.shape f (l.drop pl) = some cs ∧ (∀ c ∈ cs, asked1 c = true) ∧ PyKqu5.answers l = out ++ PyFlat.told (PyFlat.played Kqu5Neutral.step s cs)
  le : pl ≤ l.length
  tabs : Tabs ts H
  cl : CL H
theorem ok_answers {f fS fO fI : Addr} {fd fdS fdO fdI : FuncData} {n : Nat} (hn : 2 ≤ n) (F : Fun K "answers" "answers" sAnswers f fd) (hlen : mg "len" = none) (MB : MkB P w K mg base CB fI fdI) (CS : Cal P w K mg base "size_at" fS fdS ["calls", "place"] 1 (spSize K))
    (CO : Cal P w K mg base "answer_one" fO fdO ["book", "kind", "told"] n (spOne K CB CP ts)) : FnOk P w K mg base CX0 (n + 1) f fd ["calls"] (spAll K ts) := by
  refine F.ok sc_all (fun vs H Q E h => ?_) (fun cdv A outer s H vs Q E hr h => ?_)
  · obtain ⟨cp, l, rfl, _⟩ := h
    rfl
  · obtain ⟨cp, l, rfl, hl, hll, hq, hT, k⟩ := h
    obtain ⟨raw, hraw, hask, -, hans, hbig⟩ := asked_parts hq
    obtain ⟨CL, cl0, clS, clK, clN⟩ := keep_case hl
    have hr1 : Room 1 _ := hr.mono (by omega)
    have hr2 : Room 2 _ := hr.mono hn
    refine ⟨_, pss_cons (ps_set (i := 1) sc_all.nd rfl (Or.inl rfl) (pe_make0 MB.mak MB.fn hr2 rfl MB.m MB.b .nil pass0))
      (pss_cons (ps_set (i := 2) sc_all.nd rfl (Or.inl rfl) (pe_lst pa_nil))
      (pss_cons (ps_set (i := 3) sc_all.nd rfl (Or.inl rfl) pe_int)
      (pss_cons (ps_while PassesOwn.never (pt_cmpR op_lt (pv 3) (pe_callB call_len_seq (by rfl) hlen PySem.boot_len (pa_cons (pv 0) pa_nil)) (nomark _))
        (pss_cons (ps_set (i := 4) sc_all.nd rfl (Or.inl rfl) (pe_op op_add (pe_op op_add (pv 3) pe_int) (pe_cal CS hr1 rfl (pa_cons (pv 0) (pa_cons (pv 3) pa_nil)))))
        (pss_cons (ps_set (i := 5) sc_all.nd rfl (Or.inl rfl) (pe_cal CO hr rfl (pa_cons (pv 1) (pa_cons (pe_ix ix_list (pv 0) (pv 3) (fun _ _ => rfl)) (pa_cons (pe_slice sl_list (pv 0) (po_some (pe_op op_add (pv 3) pe_int)) (po_some (pv 4))) pa_nil)))))
        (pss_cons (ps_expr (pe_bm PySem.F.plainAttrs_list PySem.F.slot_list_append PySem.F.type_list_append mt_append (pv 2) (pa_cons (pe_callB call_len_seq (by rfl) hlen PySem.boot_len (pa_cons (pv 5) pa_nil)) pa_nil)))
        (pss_cons (ps_expr (pe_bm PySem.F.plainAttrs_list PySem.F.slot_list_extend PySem.F.type_list_extend mt_extend (pv 2) (pa_cons (pv 5) pa_nil)))
        (pss_one (ps_set (i := 3) sc_all.nd rfl (Or.inl rfl) (pv 4))))))))
      (pss_one (ps_ret (pv 2)))))), ?_⟩
    intro bk dx nb nd ne
    refine ⟨bk, dx, rfl, upd_same, fun H1 pd hb hpd npd k1 => ⟨rfl, ?_⟩⟩
    have S1 : Same H H1 := Same.made nb nd k1
    refine ⟨Nat.zero_le _, fun gv hg => ?_⟩
    have S2 := S1.trans ((Same.refl H1).upd_new (o := .lst []) hg)
    have nbg : bk ≠ gv := ne_of_none hb hg
    have npg : pd ≠ gv := ne_of_none hpd hg
    have ncg : (∃ o, H cp = some o) → cp ≠ gv := fun ⟨o, e⟩ => ne_of_none (S1 _ _ e) hg
    have M0 : Mid CL CB CP ts l bk gv (upd H1 gv (.lst [])) 0 := by
      refine ⟨⟨none, [], l.length, raw, ⟨pd, 0, [], ⟨⟨dx, by rw [upd_ne nbg]; exact hb⟩, by rw [upd_ne npg]; exact hpd, .nil, fun _ z => nomatch z⟩, rfl, rfl⟩, upd_same, by rw [List.drop_zero]; exact hraw, hask, hans⟩, Nat.zero_le _, hT.same S2, clK _ _ cl0 fun o e _ => S2 _ _ e⟩
    show tWhile (tTest (tOp (rI0 fun i j => .bl (decide (i < j))) (tVar 3) (tCB _ (tCons (tVar 0) tNil)))) _ _ [some (.ref cp), some (.ref bk), some (.ref gv), some (.int ((0 : Nat) : Int)), none, none] (upd H1 gv (.lst []))
    refine while_by (fun σ H' => ∃ (pl : Nat) (v4 v5 : Option V), σ = [some (.ref cp), some (.ref bk), some (.ref gv), some (.int pl), v4, v5] ∧ Mid CL CB CP ts l bk gv H' pl) (fun σ _ => l.length + 1 - (match σ with | [_, _, _, some (.int n), _, _] => n.toNat | _ => 0)) ⟨0, none, none, rfl, M0⟩ ?_
      fun σ H1 Q1 Q2 hq ⟨v, hv, u, hu, p, ys, e, h, i, j, e1, e2, c, e3, q⟩ => ⟨v, hv, u, hu, p, ys, e, h, i, j, e1, e2, c, e3, hq _ _ q⟩
    rintro σ H2 ⟨pl, v4, v5, rfl, M⟩
    refine ⟨_, rfl, _, rfl, cp, _, rfl, .inl (clS _ M.cl), _, _, rfl, rfl, _, rfl, ite2 (fun z => ?_) fun z => ?_⟩
    · have z := of_decide_eq_true z
      rw [List.length_map] at z
      have hpl : pl < l.length := by omega
      obtain ⟨st, out, f0, cs, B, hgv, hcs, hca, hout⟩ := M.ex
      have hd := List.drop_eq_getElem_cons hpl
      rw [hd] at hcs
      generalize l[pl] = kk at hd hcs
      obtain ⟨d1, d2, d3, d4⟩ := drop_at hd
      rw [d2] at hd hcs
      generalize hdr : l.drop (pl + 1) = r at hd hcs d4
      obtain ⟨f1, cs1, rfl, hcs1, hsz, k0, k20, h14, hn14⟩ := take_call hcs
      have e1 : ((pl : Int) + 1) = ((pl + 1 : Nat) : Int) := by omega
      have e2 : ((pl : Int) + 1 + (sizeOf kk r : Nat)) = ((pl + 1 + sizeOf kk r : Nat) : Int) := by omega
      refine ⟨_, rfl, _, _, rfl, rfl, _, rfl, _, rfl, cp, l, pl, kk, r, rfl, clS _ M.cl, hd, k0, k20, fun z => ?_, _, _, rfl, rfl, ?_⟩
      · obtain ⟨n1, r1, a1, a2, _⟩ := h14 z
        exact ⟨n1, r1, a1, a2⟩
      · refine ⟨_, rfl, _, rfl, _, rfl, cp, _, _, _, rfl, rfl, clS _ M.cl, at_int d1, _, rfl, _, rfl, _, _, rfl, rfl, _, rfl, _, rfl, _, rfl, cp, _, rfl, clS _ M.cl, fun tp htp => ?_⟩
        have ecut : cutV (l.map V.int) (some ((pl : Int) + 1)) (some ((pl : Int) + 1 + (sizeOf kk r : Nat))) = (r.take (sizeOf kk r)).map V.int := by
          rw [e2, e1, cut_mid l (pl + 1) (sizeOf kk r) (by omega), hdr]
        rw [ecut]
        have S3 := (Same.refl H2).upd_new (o := .lst ((r.take (sizeOf kk r)).map V.int)) htp
        refine ⟨bk, tp, kk, r.take (sizeOf kk r), st, rfl, B.gr (ts := ts) (Gr.same S3), SqL.of upd_same, M.tabs.same S3, hca _ (.head _), fun z => ?_, k0, k20, fun H4 p B4 T4 kp4 np hp => ?_⟩
        · obtain ⟨n1, r1, a1, a2, a3⟩ := h14 z
          subst a1 z
          have es : sizeOf 14 (n1 :: r1) = n1.toNat + 1 := by unfold sizeOf; rw [if_pos rfl]; show 1 + n1.toNat = _; omega
          rw [es, List.take_succ_cons]
          show n1 = (((n1 :: r1.take n1.toNat).length - 1 : Nat) : Int)
          rw [List.length_cons, List.length_take, Nat.min_eq_left a3, Nat.add_sub_cancel, Int.toNat_of_nonneg a2]
        · have hgv4 : H4 gv = some (.lst (out.map V.int)) := kp4 _ _ (S3 _ _ hgv) rfl
          have hcl4 : CL H4 := clK _ _ (clK _ _ M.cl fun o e _ => S3 _ _ e) fun o e hk => kp4 _ _ e hk
          have hplay : PyFlat.played Kqu5Neutral.step st (callC kk (r.take (sizeOf kk r)) :: cs1) = (stp st kk (r.take (sizeOf kk r))).2 :: PyFlat.played Kqu5Neutral.step (stp st kk (r.take (sizeOf kk r))).1 cs1 := rfl
          rw [hplay, told_cons] at hout
          generalize stp st kk (r.take (sizeOf kk r)) = so at B4 hp hout
          obtain ⟨s', ans⟩ := so
          have hout : PyKqu5.answers l = out ++ ((ans.length : Int) :: ans ++ PyFlat.told (PyFlat.played Kqu5Neutral.step s' cs1)) := hout
          have B4 : BookS CB CP H4 bk s' := B4
          have hp : H4 p = some (.lst (ans.map V.int)) := hp
          have hbl : out.length + (ans.length + 1) ≤ 10000000 := by
            have := congrArg List.length hout
            rw [List.length_append, List.length_append, List.length_cons] at this
            omega
          have h10 : 10000000 < sizeLine := by decide
          have npg : p ≠ gv := fun z => by
            rw [z] at np
            have := S3 _ _ hgv
            rw [np] at this; cases this
          refine ⟨_, rfl, .inl ⟨rfl, _, SqL.of hgv4⟩, _, rfl, p, _, rfl, .inl (SqL.of hp), gv, _, _, rfl, rfl, hgv4, ?_, ?_⟩
          · rw [List.length_map]; omega
          · refine ⟨_, rfl, .inl ⟨rfl, _, SqL.of upd_same⟩, _, rfl, gv, p, _, _, rfl, rfl, upd_same, by rw [upd_ne npg]; exact hp, ?_, _, rfl, ⟨pl + 1 + sizeOf kk r, _, _, by rw [← e2]; rfl, ?_⟩, ?_⟩
            · rw [List.length_append, List.length_map, List.length_map]
              show out.length + 1 + ans.length ≤ _
              omega
            · have kpg : ∀ c o, H4 c = some o → c ≠ gv → upd (upd H4 gv (.lst (out.map V.int ++ [V.int ((ans.map V.int).length : Int)]))) gv (.lst (out.map V.int ++ [V.int ((ans.map V.int).length : Int)] ++ ans.map V.int)) c = some o := fun c o e hne => by rw [upd_ne hne, upd_ne hne]; exact e
              obtain ⟨pd4, w4, l4, ⟨⟨dx4, i1⟩, i2, i3, i4⟩, i5⟩ := B4
              refine ⟨⟨s', out ++ ((ans.length : Int) :: ans), f1, cs1, ⟨pd4, w4, l4, ⟨⟨dx4, kpg _ _ i1 (ne_of i1 hgv4 (by intro z; cases z))⟩, kpg _ _ i2 (ne_of i2 hgv4 (by intro z; cases z)), i3, fun q hq => ?_⟩, i5⟩, ?_, ?_, fun c hc => hca c (.tail _ hc), ?_⟩, by omega, ?_, ?_⟩
              · obtain ⟨dq, e⟩ := i4 q hq
                exact ⟨dq, kpg _ _ e (ne_of e hgv4 (by intro z; cases z))⟩
              · rw [upd_same, List.length_map, List.map_append, List.map_cons, List.append_assoc]; rfl
              · rw [← List.drop_drop, hdr]; exact hcs1
              · rw [hout, List.append_assoc]
              · exact tabs_upd (tabs_upd T4 hgv4 trivial) upd_same trivial
              · rcases clN with z | z
                · exact clK _ _ hcl4 fun o e _ => kpg _ _ e (ncg z)
                · exact z _
            · show l.length + 1 - (((pl : Int) + 1 + (sizeOf kk r : Nat))).toNat < l.length + 1 - ((pl : Int)).toNat
              omega
    · have z : ¬ (pl : Int) < ((l.map V.int).length : Int) := fun y => z (decide_eq_true y)
      rw [List.length_map] at z
      have hpl : pl = l.length := by have := M.le; omega
      obtain ⟨st, out, f0, cs, B, hgv, hcs, hca, hout⟩ := M.ex
      rw [hpl, List.drop_length] at hcs
      obtain rfl := calls_nil hcs
      refine ⟨_, rfl, k H2 gv ?_⟩
      rw [hout]
      show H2 gv = some (.lst ((out ++ []).map V.int))
      rw [List.append_nil]; exact hgv
end
end Ap

set_option Elab.async false
set_option linter.all false
set_option maxRecDepth 100000
set_option maxHeartbeats 8000000
namespace Ap
open PySem PySem.Spec PyProof.Rows L2
open Kqu5 (Person Book)
open Kqu5Neutral (asked1)
abbrev sOne : Stmt := top 57
/-- what stands in the table of answers -/
def AnsTab (P : Program) (w : World) (K : PySem.W.Frag) (mg : Str → Option Value) (base : Heap) (CB CP : Addr) (ts : List TabRec) (kmax : Int) (n : Nat) (kvs : List (Key × V)) : Prop :=
  ∀ k : Int, 0 ≤ k → k ≤ kmax → ∃ (f : Addr) (fd : FuncData), valV kvs (Sum.inl k) = some (V.ref f) ∧ PySem.W.keepIn K (.ref f) = true ∧ FnOk P w K mg base CX0 n f fd ["book", "told"] (spA K CB CP ts k) ∧ Binds K fd ["book", "told"] []
/-- like spOne, of the calls up to kmax -/
def spOneM (kmax : Int) (K : PySem.W.Frag) (CB CP : Addr) (ts : List TabRec) : Sp := fun vs H Q _ => ∃ (bk tp : Addr) (k : Int) (tl : List Int) (s : Option Book), vs = [.ref bk, .int k, .ref tp] ∧ BookS CB CP H bk s ∧ SqL K H tp (tl.map V.int) ∧ Tabs ts H ∧ asked1 (callC k tl) = true ∧ (k = 14 → tl.headD 0 = ((tl.length - 1 : Nat) : Int)) ∧ 0 ≤ k ∧ k ≤ kmax ∧
  ∀ (H' : Hp) (p : Addr), BookS CB CP H' bk (stp s k tl).1 → Tabs ts H' → (∀ b o, H b = some o → keepK o = true → H' b = some o) → H p = none → H' p = some (.lst ((stp s k tl).2.map V.int)) → Q (.ref p) H'
section
variable {P : Program} {w : World} {K : PySem.W.Frag} {mg : Str → Option Value} {base : Heap} {CB CP : Addr} {ts : List TabRec}
theorem sc_one : FnScope ["book", "kind", "told"] ["book", "kind", "told"] (defScope sOne) := ⟨rfl, rfl, rfl, by decide +kernel, rfl, by decide +kernel, by decide +kernel⟩
theorem ok_one {f ab : Addr} {fd : FuncData} {n : Nat} {kmax : Int} {kvs : List (Key × V)} (F : Fun K "answer_one" "answer_one" sOne f fd) (T : BC K CB) (M : Cst mg) (hab : mg "ANSWERED_BY" = some (.ref ab)) (hK : KDict P w K ab kvs) (hmx20 : kmax ≤ 20) (A1 : AnsTab P w K mg base CB CP ts kmax n kvs) :
    FnOk P w K mg base CX0 (n + 1) f fd ["book", "kind", "told"] (spOneM kmax K CB CP ts) := by
  refine F.ok sc_one (fun vs H Q E h => ?_) (fun cdv A outer s H vs Q E hr h => ?_)
  · obtain ⟨bk, tp, k, tl, s, rfl, _⟩ := h
    rfl
  · obtain ⟨bk, tp, kk, tl, st, rfl, B, ht, hT, hq, h14, k0, kM, k⟩ := h
    obtain ⟨t0, m0⟩ := M.c0
    obtain ⟨t11, m11⟩ := M.c11
    refine ⟨_, pss_cons (ps_if (PW.pt (pw_and (pt_cmpR op_ne (pv 1) (pe_glob (v := .int 0) rfl m0 ⟨_, rfl⟩) (nomark _)) (pw_and1 (pt_cmpR op_eq (pe_fld (pv 0) rfl) pe_int (nomark _))))) (pss_one (ps_ret (pe_lst (pa_cons (pe_glob (v := .int (-11)) rfl m11 ⟨_, rfl⟩) pa_nil)))) pss_nil)
      (pss_one (ps_ret (pe_callV (pe_kget (pe_glob (v := .ref ab) rfl hab rfl) (pv 1) (fun _ _ => rfl)) (pa_cons (pv 0) (pa_cons (pv 2) pa_nil))))), ?_⟩
    have B0 := B
    obtain ⟨pd, w0, l, Bk, hst⟩ := B
    obtain ⟨dx, hb⟩ := Bk.ins
    -- the call by the table
    have call : (kk = 0 ∨ st.isSome = true) → tRet (tCallV ((cxOf CX0 P w K mg base ["book", "kind", "told"] "answer_one" (defScope sOne) f cdv A outer s H E).nox) (tKGet ((cxOf CX0 P w K mg base ["book", "kind", "told"] "answer_one" (defScope sOne) f cdv A outer s H E).nox) (tC (.ref ab)) (tVar 1)) (tCons (tVar 0) (tCons (tVar 2) tNil))) { nx := fun _ H' => Q .non H', rt := Q } [some (.ref bk), some (.int kk), some (.ref tp)] H := fun hs => by
      obtain ⟨f1, fd1, v1, kp1, fn1, b1⟩ := A1 kk k0 kM
      exact ⟨_, rfl, ab, kvs, Sum.inl kk, _, rfl, rfl, hK, v1, f1, spA K CB CP ts kk, rfl, kp1, RunOk.of fn1 hr b1 pass0, _, rfl, _, rfl, bk, tp, tl, st, rfl, B0, ht, hT, hq, h14, hs, k⟩
    refine ⟨_, rfl, rfl, _, rfl, ?_⟩
    by_cases hk : kk = 0
    · have : (!decide (V.int kk = V.int 0)) = false := by rw [hk]; simp
      rw [this]
      exact iteF (iteF (call (.inl hk)))
    · have : (!decide (V.int kk = V.int 0)) = true := by simp [hk]
      rw [this]
      refine iteT ⟨_, rfl, bk, CB, dx, _, _, rfl, hb, T.cl, T.nW, bkf_w _ _, rfl, _, rfl, ?_⟩
      cases st with
      | none =>
        obtain ⟨rfl, rfl⟩ := hst
        have : decide (V.int ((0 : Nat) : Int) = V.int 0) = true := by decide
        rw [this]
        refine iteT ⟨(by show 1 ≤ sizeLine; decide), fun p hp => ?_⟩
        have es : stp none kk tl = (none, [-11]) := step_none hq hk k0 (by omega)
        exact endA (out := [-11]) (Gr.refl H) hp B0 hT k (by rw [es]) (by rw [es])
      | some b =>
        obtain ⟨rfl, w1, _⟩ := hst
        have : decide (V.int (b.windows : Int) = V.int 0) = false := by
          refine decide_eq_false fun z => ?_
          have := V.int.inj z
          omega
        rw [this]
        exact iteF (call (.inr rfl))
end
end Ap

set_option Elab.async false
set_option linter.all false
set_option maxRecDepth 100000
set_option maxHeartbeats 8000000
namespace Ap
open PySem PySem.Spec PyProof.Rows L2
open Kqu5 (Person Book)
abbrev sFitting : Stmt := top 8
abbrev sCounted : Stmt := top 10
/-- the book, as if one could come in one slot alone -/
theorem RepB.fix {b : Book} {l : List (Nat × Addr × Person)} (R : RepB b l) (nd : (keys l).Nodup) {q : Nat × Addr × Person} (hq : q ∈ l) (s : Nat) (a : Addr) : RepB (Kqu5.fixed b q.1 s) (putL l q.1 a ⟨s, s + 1, q.2.2.counts⟩) := by
  have hin : q.1 ∈ keys l := List.mem_map.mpr ⟨q, hq, rfl⟩
  have e : Kqu5.fixed b q.1 s = { b with persons := b.persons.set q.1 (some ⟨s, s + 1, q.2.2.counts⟩) } := by
    unfold Kqu5.fixed
    rw [R.get nd hq]; rfl
  rw [e, putL_old hin]
  exact R.set hin
def spFit (C : Addr) (ts : List TabRec) : Sp := fun vs H Q _ => ∃ (d : Addr) (l : List (Nat × Addr × Person)) (q : Nat × Addr × Person) (m : Nat) (b : Book), vs = [.ref d, .int m, .int (q.1 : Nat)] ∧ PsAt C H d l ∧ l.length < 63 ∧ q ∈ l ∧ RepB b l ∧ Valid q.2.2 ∧ Tabs ts H ∧
  ∀ (H' : Hp) (p : Addr), Gr ts H H' → H p = none → H' p = some (.lst ((up (fitOf (fun s => Kqu5.can (Kqu5.fixed b q.1 s) m (keys l)) q.2.2.from_ q.2.2.to)).map V.int)) → Q (.ref p) H'
def AgC (b : Book) (l : List (Nat × Addr × Person)) : Prop := ∀ p ∈ l, Kqu5.counts b p.1 = p.2.2.counts
def spCnt (C : Addr) : Sp := fun vs H Q _ => ∃ (d : Addr) (l : List (Nat × Addr × Person)) (b : Book), vs = [.ref d] ∧ PsAt C H d l ∧ l.length < 64 ∧ AgC b l ∧ ∀ H' : Hp, Same H H' → Q (.int (Kqu5.sum ((keys l).map (Kqu5.counts b)) : Nat)) H'
section
variable {P : Program} {w : World} {K : PySem.W.Frag} {mg : Str → Option Value} {base : Heap} {C : Addr} {ts : List TabRec}
abbrev nFit : List Str := ["persons", "windows", "number", "person", "slot"]
theorem sc_fit : FnScope nFit ["persons", "windows", "number"] (defScope sFitting) := ⟨rfl, rfl, rfl, by decide +kernel, rfl, by decide +kernel, by decide +kernel⟩
theorem ok_fit {f fW fI : Addr} {fd fdW fdI : FuncData} (F : Fun K "fitting_slots" "fitting_slots" sFitting f fd) (T : PC K C) (hrg : mg "range" = none) (MP : MkP P w K mg base C fI fdI) (CW : Cal P w K mg base "all_served_with" fW fdW ["persons", "windows", "number", "person"] 8 (spAllW C ts)) : FnOk P w K mg base CX0 9 f fd ["persons", "windows", "number"] (spFit C ts) := by
  refine F.ok sc_fit (fun vs H Q E h => ?_) (fun cdv A outer s H vs Q E hr h => ?_)
  · obtain ⟨d, l, q, m, b, rfl, _⟩ := h
    rfl
  · obtain ⟨d, l, q, m, b, rfl, hP, hl, hq, R, h40, hT, k⟩ := h
    have hu := hu_of hr
    have hr2 : Room 2 _ := hr.mono (by decide)
    refine ⟨_, pss_cons (ps_set (i := 3) sc_fit.nd rfl (Or.inr rfl) (pe_dget hu (pv 0) (pv 2) (fun _ _ => rfl)))
      (pss_one (ps_ret (pe_lc (own := [("slot", 4)]) rfl sc_fit.nd (pi_range2 rfl hrg (pa_cons (pe_fld (pv 3) rfl) (pa_cons (pe_fld (pv 3) rfl) pa_nil))) (blkOk_by (by show blkC nFit (defScope sFitting) _ _ = true; decide +kernel))
        (fun _ _ _ _ _ => pg_name (i := 4) sc_fit.nd rfl (Or.inl rfl))
        (tt := tB (tCall (spAllW C ts) [] E0 (tCons (tVar 0) (tCons (tVar 1) (tCons (tVar 2) (tCons (tMake C (spPInit C) [] E0 (tCons (tVar 4) (tCons (tOp (rI0 fun i j => .int (i + j)) (tVar 4) (tC (.int 1))) (tCons (tFld K (tVar 3) "counts") tNil)))) tNil))))))
        (fun _ _ _ _ _ => pts_one (pt_val (pe_cal CW hr rfl (pa_cons (pv 0) (pa_cons (pv 1) (pa_cons (pv 2) (pa_cons (pe_make MP.mak MP.fn hr2 rfl MP.m MP.b .nil pass0 (pa_cons (pv 4) (pa_cons (pe_op op_add (pv 4) pe_int) (pa_cons (pe_fld (pv 3) rfl) pa_nil)))) pa_nil))))))) (fun _ _ _ _ _ => pv 4)))), ?_⟩
    obtain ⟨dx, hpa⟩ := hP.at_ q hq
    refine ⟨_, rfl, _, rfl, d, V.ref q.2.1, rfl, .inl ⟨psK l, Sum.inl (q.1 : Int), hP.rd, rfl, (ps_val hP.nd hq).symm⟩, ?_⟩
    refine ⟨_, rfl, q.2.1, C, dx, _, _, rfl, hpa, T.cl, T.nF, pf_first _, _, rfl, q.2.1, C, dx, _, _, rfl, hpa, T.cl, T.nE, pf_end _, (q.2.2.from_ : Int), (q.2.2.to : Int), rfl, ?_, fun D hD => ?_⟩
    · have h1 : q.2.2.from_ < q.2.2.to := h40.1
      have h2 : q.2.2.to ≤ 40 := h40.2.1
      have e62 : (2 : Int) ^ 62 = 4611686018427387904 := by decide
      rw [e62]
      exact ⟨by omega, by omega, by omega, by omega⟩
    · have g0 : Gr ts H (upd H D (.lst [])) := (Gr.refl H).upd hD
      have hin : q.1 ∈ keys l := List.mem_map.mpr ⟨q, hq, rfl⟩
      refine lc_range (lo := (q.2.2.from_ : Int)) (n := ((q.2.2.to : Int) - (q.2.2.from_ : Int)).toNat) (fun i H' => Gr ts H H' ∧ H' D = some (.lst ((up (((List.range i).map (q.2.2.from_ + ·)).filter fun s => Kqu5.can (Kqu5.fixed b q.1 s) m (keys l))).map V.int))) ⟨g0, upd_same⟩ (fun i H1 hi e => ?_) (fun H1 e => ?_)
      · obtain ⟨g1, h1⟩ := e
        refine ⟨rfl, ⟨_, rfl, _, rfl, _, rfl, _, rfl, _, rfl, _, _, rfl, rfl, _, rfl, q.2.1, C, dx, _, _, rfl, g1.keep _ _ hpa rfl, T.cl, T.nC, pf_counts _, ?_⟩⟩
        intro x dxp nx ndx nex
        refine ⟨x, dxp, ⟨q.2.2.from_ + i, q.2.2.from_ + i + 1, q.2.2.counts⟩, rfl, upd_same, fun H2 hp2 kp2 => ⟨rfl, ?_⟩⟩
        have S2 : Same H1 H2 := Same.made nx ndx kp2
        have g2 : Gr ts H H2 := g1.trans (.same S2)
        have RF := RepB.fix R hP.nd hq (q.2.2.from_ + i) x
        have ndF := putL_nodup (n := q.1) (a := x) (p := ⟨q.2.2.from_ + i, q.2.2.from_ + i + 1, q.2.2.counts⟩) hP.nd
        have ek : keys (putL l q.1 x ⟨q.2.2.from_ + i, q.2.2.from_ + i + 1, q.2.2.counts⟩) = keys l := by rw [putL_old hin, keys_setL]
        refine ⟨d, l, Kqu5.fixed b q.1 (q.2.2.from_ + i), m, q.1, x, ⟨q.2.2.from_ + i, q.2.2.from_ + i + 1, q.2.2.counts⟩, rfl, hP.gr g2, hl, hp2, g2.tabs hT, fun r hr => ⟨(RF.ag ndF hr).1, (RF.ag ndF hr).2.1⟩, fun H3 g3 => ⟨_, rfl, ?_⟩⟩
        rw [ek]
        have h3 : H3 D = some (.lst ((up (((List.range i).map (q.2.2.from_ + ·)).filter fun s => Kqu5.can (Kqu5.fixed b q.1 s) m (keys l))).map V.int)) := g3.keep _ _ (S2 _ _ h1) rfl
        have g4 : Gr ts H H3 := g2.trans g3
        have hno : (((List.range (i + 1)).map (q.2.2.from_ + ·)).filter fun s => Kqu5.can (Kqu5.fixed b q.1 s) m (keys l)) = (((List.range i).map (q.2.2.from_ + ·)).filter fun s => Kqu5.can (Kqu5.fixed b q.1 s) m (keys l)) ++ (if Kqu5.can (Kqu5.fixed b q.1 (q.2.2.from_ + i)) m (keys l) = true then [q.2.2.from_ + i] else []) := by
          rw [List.range_succ, List.map_append, List.filter_append, List.map_singleton, List.filter_cons, List.filter_nil]
        cases hc : Kqu5.can (Kqu5.fixed b q.1 (q.2.2.from_ + i)) m (keys l) with
        | false =>
          rw [hc] at hno
          refine iteF ⟨g4, ?_⟩
          rw [hno, if_neg (by decide), List.append_nil]; exact h3
        | true =>
          rw [hc, if_pos rfl] at hno
          refine iteT ⟨_, rfl, _, h3, ?_, Gr.put g4 hD h3 trivial, ?_⟩
          · rw [List.length_map, List.length_map]
            refine Nat.lt_of_le_of_lt (List.length_filter_le _ _) ?_
            rw [List.length_map, List.length_range]
            have h1 : q.2.2.to ≤ 40 := h40.2.1
            exact Nat.lt_of_lt_of_le (show i < 40 by omega) (by decide)
          · rw [hno, up_snoc, upd_same]
            rfl
      · obtain ⟨g1, h1⟩ := e
        have en : ((q.2.2.to : Int) - (q.2.2.from_ : Int)).toNat = q.2.2.to - q.2.2.from_ := by omega
        rw [en] at h1
        exact k H1 D g1 hD h1
theorem sc_cnt : FnScope ["persons", "number"] ["persons"] (defScope sCounted) := ⟨rfl, rfl, rfl, by decide +kernel, rfl, by decide +kernel, by decide +kernel⟩
theorem ok_cnt {f : Addr} {fd : FuncData} (F : Fun K "counted" "counted" sCounted f fd) (T : PC K C) (hsm : mg "sum" = none) : FnOk P w K mg base CX0 1 f fd ["persons"] (spCnt C) := by
  refine F.ok sc_cnt (fun vs H Q E h => ?_) (fun cdv A outer s H vs Q E hr h => ?_)
  · obtain ⟨d, l, b, rfl, _⟩ := h
    rfl
  · obtain ⟨d, l, b, rfl, hP, hl, hA, k⟩ := h
    have hu := hu_of hr
    refine ⟨_, pss_one (ps_ret (pe_callB (cr_sum rfl) (by rfl) hsm bootSum (pa_cons (pe_lock (pe_lc (own := [("number", 1)]) rfl sc_cnt.nd (pi_keys (pv 0)) (blkOk_by (by show blkC ["persons", "number"] (defScope sCounted) _ _ = true; decide +kernel))
      (fun _ _ _ _ _ => pg_name (i := 1) sc_cnt.nd rfl (Or.inl rfl)) (fun _ _ _ _ _ => pts_nil) (te := tFld K (tDGet (tVar 0) (tVar 1)) "counts")
      (fun _ _ _ _ _ => pe_fld (pe_dget hu (pv 0) (pv 1) (fun _ _ => rfl)) rfl))) pa_nil))), ?_⟩
    refine ⟨d, _, hP.dict, trivial, fun od => ?_⟩
    refine ⟨_, rfl, d, od, rfl, .inl ⟨psK l, upd_same, fun D hD => ?_⟩⟩
    have nDd : D ≠ d := fun z => by rw [z, upd_same] at hD; cases hD
    refine lc_kfm (l := l) (f := fun _ => true) (g := fun i => (Kqu5.counts b i : Int)) (n := 1) hD upd_same (by omega) (fun j => rfl) (fun q hq H' S R hR => hR) (fun q hq _ H' S R hR => ?_) ?_
    · obtain ⟨dx, hpa⟩ := hP.at_ q hq
      have hq2 : H' q.2.1 = some (.ins C dx (pf q.2.2)) := S _ _ (lock_keep hP.dict hpa (by intro z; cases z))
      have hg : DGet H' d (kV (Sum.inl (q.1 : Int))) (some (V.ref q.2.1)) := .inl ⟨psK l, Sum.inl (q.1 : Int), Rd.same S (lock_rd hP.dict (by intro _ _ z; cases z) hP.rd), rfl, (ps_val hP.nd hq).symm⟩
      rw [hA q hq] at hR
      exact ⟨_, rfl, _, rfl, d, _, rfl, hg, q.2.1, C, dx, _, _, rfl, hq2, T.cl, T.nC, pf_counts _, hR⟩
    · have S2 := unlock_same hP.dict ((Same.refl _).upd_new (o := .lst ((((keys l).filter fun _ => true).map fun i : Nat => (Kqu5.counts b i : Int)).map V.int)) hD)
      refine ⟨by rw [upd_ne nDd.symm]; exact upd_same, D, _, rfl, SqL.of (by rw [upd_ne nDd]; exact upd_same), ?_⟩
      have ef : ((keys l).filter fun _ => true) = keys l := List.filter_eq_self.mpr fun _ _ => rfl
      have es : (((keys l).filter fun _ => true).map fun i : Nat => (Kqu5.counts b i : Int)).sum = ((Kqu5.sum ((keys l).map (Kqu5.counts b)) : Nat) : Int) := by
        rw [ef, ← sum_up]
        generalize keys l = M
        rw [up, List.map_map]; rfl
      rw [es]
      exact k _ S2
end
end Ap

set_option Elab.async false
set_option linter.all false
set_option maxRecDepth 100000
set_option maxHeartbeats 8000000
namespace Ap
open PySem PySem.Spec PyProof.Rows L2
open PySem.W (CodeHd)
open Kqu5 (Person Book)
abbrev sTaken : Stmt := top 9
/-- what sorted(.., key=(-counts, number)) gives -/
theorem byCnt_up {b : Book} {ns : List Int} {W : List Nat} (p : ns.Perm (up W)) (h : ns.Pairwise (fun x y => HT.lexLt [-(Kqu5.counts b y.toNat : Int), y] [-(Kqu5.counts b x.toNat : Int), x] = false)) : ns = up (Kqu5.sorted (byCnt b) W) := by
  obtain ⟨M, rfl, q⟩ := perm_up p
  have hw : M.Pairwise (fun x y => byCnt b x y = true) := by
    rw [up, List.pairwise_map] at h
    refine h.imp fun {x y} z => ?_
    rw [lex2] at z
    rw [byCnt_iff]
    have e1 : ((x : Int)).toNat = x := rfl
    have e2 : ((y : Int)).toNat = y := rfl
    rw [e1, e2] at z
    omega
  rw [show Kqu5.sorted (byCnt b) W = M from sorted_eq (byCnt_ord b) q hw]
/-- the lambda of taken_by_counts -/
abbrev lamTaken (Pt : Addr) : TabRec := ⟨Pt, ⟨32, 38, 32, 83⟩, (("taken_by_counts" : Str) ++ ".<locals>.") ++ "<lambda>"⟩
theorem pe_cntKey {X : Cx} {x y : Str} {p1 p2 p3 p4 p5 p6 p7 : Pos} {kk} (h0 : X.N[0]? = some x) (h1 : X.N[1]? = some y) (v0 : Vis X.env.scope x) (v1 : Vis X.env.scope y) (hu : X.A.units + 1 < cLine)
    (d1 : (x == ("__debug__" : Str)) = false := by decide) (d2 : (x == ("__classdict__" : Str)) = false := by decide) (d3 : (y == ("__debug__" : Str)) = false := by decide) (d4 : (y == ("__classdict__" : Str)) = false := by decide) :
    PE X (.Tuple [.UnaryOp .USub (.Attribute (.Subscript (.Name y p1) (.Name x p2) p3) "counts" p4) p7, .Name x p5] kk p6) (tTup (tCons (tUn (rU fun i => .int (-i)) (tFld X.K (tDGet (tVar 1) (tVar 0)) "counts")) (tCons (tVar 0) tNil))) :=
  pe_tup (pa_cons (pe_un un_neg (pe_fld (pe_dget hu (pe_var h1 v1 d3 d4) (pe_var h0 v0 d1 d2) (fun _ _ => rfl)) rfl)) (pa_cons (pe_var h0 v0 d1 d2) pa_nil))
def spTaken (C : Addr) (ts : List TabRec) : Sp := fun vs H Q _ => ∃ (d : Addr) (l : List (Nat × Addr × Person)) (b : Book) (m : Nat), vs = [.ref d, .int m] ∧ PsAt C H d l ∧ l.length < 63 ∧ RepB b l ∧ Tabs ts H ∧
  ∀ (H' : Hp) (p : Addr) (lt : List (Nat × Addr × Person)), Gr ts H H' → H p = none → PsAt C H' p lt → (∀ q ∈ lt, q ∈ l) → keys lt = takenOf b m (Kqu5.sorted (byCnt b) (keys l)) → Q (.ref p) H'
section
variable {P : Program} {w : World} {K : PySem.W.Frag} {mg : Str → Option Value} {base : Heap} {C : Addr} {ts : List TabRec}
abbrev nTaken : List Str := ["persons", "windows", "taken", "number"]
theorem sc_taken : FnScope nTaken ["persons", "windows"] (defScope sTaken) := ⟨rfl, rfl, rfl, by decide +kernel, rfl, by decide +kernel, by decide +kernel⟩
theorem ok_taken {f c Pt fW : Addr} {fd fdW : FuncData} (F : FunC K "taken_by_counts" "taken_by_counts" sTaken f fd c) (T : PC K C) (hd : CodeHd base c Pt) (hB : BltAt mg base) (ht : lamTaken Pt ∈ ts) (hs : mg "sorted" = none)
    (CW : Cal P w K mg base "all_served_with" fW fdW ["persons", "windows", "number", "person"] 8 (spAllW C ts)) : FnOk P w K mg base CX0 9 f fd ["persons", "windows"] (spTaken C ts) := by
  refine F.ok sc_taken (fun vs H Q E h => ?_) (fun A outer s H vs Q E hr h => ?_)
  · obtain ⟨d, l, b, m, rfl, _⟩ := h
    rfl
  · obtain ⟨d, l, b, m, rfl, hP, hl, R, hT, k⟩ := h
    have hu := hu_of hr
    refine ⟨_, pss_cons (ps_set (i := 2) sc_taken.nd rfl (Or.inl rfl) pe_dnewK)
      (pss_cons (ps_for PassesOwn.never rfl (pi_list (pe_sortedLamD (tb := tTup (tCons (tUn (rU fun i => .int (-i)) (tFld K (tDGet (tVar 1) (tVar 0)) "counts")) (tCons (tVar 0) tNil))) (k := 0) (x := "asker") (fx := [(0, "persons")]) (t := lamTaken Pt) (ts := ts) (hr.mono (by decide)) rfl rfl hs (pv 0) ⟨rfl, hd, hB, rfl⟩ ht rfl (lam_free (sc := defScope sTaken) (by decide +kernel)) rfl rfl rfl (by decide +kernel) rfl (fun _ _ _ _ _ => rfl) (by decide +kernel) (lam_fx (N := nTaken) (sc := defScope sTaken) (by decide +kernel))
          (fun f' c' cl A' outer' s' H' hr' => pe_cntKey (x := "asker") (y := "persons") rfl rfl (Or.inl rfl) (Or.inr (Or.inr rfl)) (hu_of (hr'.deeper _))))) (pg_name (i := 3) sc_taken.nd rfl (Or.inl rfl))
        (pss_one (ps_if (pt_val (pe_cal CW hr rfl (pa_cons (pv 2) (pa_cons (pv 1) (pa_cons (pv 3) (pa_cons (pe_dget hu (pv 0) (pv 3) (fun _ _ => rfl)) pa_nil))))))
          (pss_one (ps_dput hu (pv 2) (pv 3) (pe_dget hu (pv 0) (pv 3) (fun _ _ => rfl)) rfl)) pss_nil)))
      (pss_one (ps_ret (pv 2)))), ?_⟩
    intro tk htk
    have g0 : Gr ts H (upd H tk (.dK [])) := (Gr.refl H).upd htk
    have hP0 := hP.gr g0
    refine ⟨_, rfl, d, l.map (fun p => ((p.1 : Int), V.ref p.2.1)), fun n => [-(Kqu5.counts b n.toNat : Int), n], [.ref d], rfl, hP0.kvs, (by rw [List.length_map]; omega), fun _ => by simp, g0.tabs hT, fun j p hp => ?_, rfl, fun n H1 hn g1 => ?_, fun ns' sp H1 h1 h2 g1 nsp hsp => ?_⟩
    · cases j with
      | zero => cases hp; exact ⟨_, rfl, rfl⟩
      | succ j => cases hp
    · rw [List.map_map] at hn
      obtain ⟨q, hq, rfl⟩ := List.mem_map.mp hn
      obtain ⟨dx, hpa⟩ := hP0.at_ q hq
      refine ⟨_, rfl, _, rfl, d, V.ref q.2.1, rfl, .inl ⟨psK l, Sum.inl (q.1 : Int), Rd.gr g1 rfl hP0.rd, rfl, (ps_val hP.nd hq).symm⟩, q.2.1, C, dx, _, _, rfl, g1.keep _ _ hpa rfl, T.cl, T.nC, pf_counts _, _, rfl, _, rfl, (by show 2 ≤ sizeLine; decide), fun p hp => ⟨p, rfl, ?_, (Same.refl H1).upd_new hp⟩⟩
      rw [upd_same, ← (R.ag hP.nd hq).2.2]
      rfl
    · have h1' : ns'.Perm (up (keys l)) := by
        rw [List.map_map] at h1
        rw [up, keys, List.map_map]
        exact h1
      have e2 := byCnt_up (b := b) h1' h2
      subst e2
      have hMp : (Kqu5.sorted (byCnt b) (keys l)).Perm (keys l) := sorted_perm _ _
      have hMn : (Kqu5.sorted (byCnt b) (keys l)).Nodup := hMp.nodup_iff.mpr hP.nd
      generalize hM : Kqu5.sorted (byCnt b) (keys l) = M at hMp hMn hsp k
      have g2 : Gr ts H H1 := g0.trans g1
      have hlt1 : H1 tk = some (.dK []) := g1.keep _ _ upd_same rfl
      have ntk : tk ≠ sp := ne_of_none upd_same nsp
      refine ⟨sp, rfl, ⟨_, SqL.of hsp⟩, for_list (K := K) (a := sp) (xs := (up M).map V.int)
        (fun i σ H' => ∃ (v3 : Option V) (lt : List (Nat × Addr × Person)), σ = [some (.ref d), some (.int m), some (.ref tk), v3] ∧ Gr ts H H' ∧ H' sp = some (.lst ((up M).map V.int)) ∧ PsAt C H' tk lt ∧ (∀ q ∈ lt, q ∈ l) ∧ keys lt = takenOf b m (M.take i))
        ⟨none, [], rfl, g2, hsp, ⟨hlt1, .nil, (fun _ z => nomatch z)⟩, (fun _ z => nomatch z), rfl⟩ (fun i σ H' _ ⟨_, _, _, _, h, _⟩ => SqL.of h) ?_ ?_⟩
      · rintro i z σ H3 hz ⟨v3, lt, rfl, g3, h3s, h3t, hsub, hkeys⟩
        obtain ⟨j, hj, rfl⟩ := up_at hz
        obtain ⟨q, hq, hqj⟩ := List.mem_map.mp (hMp.mem_iff.mp (List.mem_of_getElem? hj))
        have hqj : q.1 = j := hqj
        subst hqj
        have hnin : q.1 ∉ keys lt := fun hm => by
          rw [hkeys] at hm
          obtain ⟨j', hj'⟩ := List.getElem?_of_mem (takenOf_sub hm)
          have hlt : j' < i := by
            have := (List.getElem?_eq_some_iff.mp hj').1
            rw [List.length_take] at this; omega
          rw [List.getElem?_take_of_lt hlt] at hj'
          exact absurd (nd_ix hMn hj' hj) (by omega)
        have hltl : lt.length ≤ l.length := by
          have := nodup_len (l := keys lt) (m := keys l) h3t.nd fun x hx => by
            obtain ⟨r, hr, rfl⟩ := List.mem_map.mp hx
            exact List.mem_map.mpr ⟨r, hsub r hr, rfl⟩
          rw [List.length_map, List.length_map] at this
          exact this
        have hP3 := hP.gr g3
        have hgd : DGet H3 d (kV (Sum.inl (q.1 : Int))) (some (V.ref q.2.1)) := .inl ⟨psK l, Sum.inl (q.1 : Int), hP3.rd, rfl, (ps_val hP.nd hq).symm⟩
        have eput : putL lt q.1 q.2.1 q.2.2 = lt ++ [q] := putL_new hnin
        refine ⟨_, rfl, _, rfl, _, rfl, _, rfl, _, rfl, d, _, rfl, hgd, tk, lt, b, m, q.1, q.2.1, q.2.2, rfl, h3t, by omega, hP3.at_ q hq, g3.tabs hT, ?_, fun H4 g4 => ⟨_, rfl, ?_⟩⟩
        · rw [eput]
          intro r hr
          have hrl : r ∈ l := by
            rcases List.mem_append.mp hr with hr | hr
            · exact hsub r hr
            · rw [List.mem_singleton.mp hr]; exact hq
          exact ⟨(R.ag hP.nd hrl).1, (R.ag hP.nd hrl).2.1⟩
        · rw [eput, keys_snoc, hkeys]
          have g5 := g3.trans g4
          have h4s := g4.keep _ _ h3s rfl
          have h4t := h3t.gr g4
          have etk : takenOf b m (M.take (i + 1)) = takeIf b m (takenOf b m (M.take i)) q.1 := by rw [take_succ' hj, takenOf_snoc]
          cases hc : Kqu5.can b m (takenOf b m (M.take i) ++ [q.1]) with
          | false =>
            refine iteF ⟨_, lt, rfl, g5, h4s, h4t, hsub, ?_⟩
            rw [etk, hkeys]; unfold takeIf; rw [hc]; rfl
          | true =>
            have hP5 := hP.gr g5
            refine iteT ⟨_, rfl, _, rfl, d, V.ref q.2.1, rfl, .inl ⟨psK l, Sum.inl (q.1 : Int), hP5.rd, rfl, (ps_val hP.nd hq).symm⟩, _, rfl, _, rfl, tk, _, rfl, DPut.k (k := Sum.inl (q.1 : Int)) h4t.dict (by rw [List.length_map]; exact Nat.lt_of_le_of_lt hltl (Nat.lt_trans hl (by decide))), ?_⟩
            rw [putK_ps_new (p := q.2.2) hnin]
            have kp : ∀ c o, H4 c = some o → c ≠ tk → upd H4 tk (.dK (psK (lt ++ [(q.1, q.2.1, q.2.2)]))) c = some o := fun c o e hne => by rw [upd_ne hne]; exact e
            refine ⟨_, lt ++ [q], rfl, Gr.put g5 htk h4t.dict trivial, kp _ _ h4s ntk.symm, ⟨upd_same, ?_, fun r hr => ?_⟩, fun r hr => ?_, ?_⟩
            · rw [← keys, keys_snoc]; exact nd_snoc h3t.nd hnin
            · have hrl : r ∈ l := by
                rcases List.mem_append.mp hr with hr | hr
                · exact hsub r hr
                · rw [List.mem_singleton.mp hr]; exact hq
              obtain ⟨dr, er⟩ := hP5.at_ r hrl
              exact ⟨dr, kp _ _ er (ne_of er h4t.dict (by intro z; cases z))⟩
            · rcases List.mem_append.mp hr with hr | hr
              · exact hsub r hr
              · rw [List.mem_singleton.mp hr]; exact hq
            · rw [keys_snoc, etk, hkeys]; unfold takeIf; rw [hc]; rfl
      · rintro σ H3 ⟨v3, lt, rfl, g3, h3s, h3t, hsub, hkeys⟩
        rw [List.length_map, List.length_map, List.take_length] at hkeys
        exact ⟨_, rfl, k H3 tk lt g3 htk h3t hsub hkeys⟩
end
end Ap

set_option Elab.async false
set_option linter.all false
set_option maxRecDepth 100000
set_option maxHeartbeats 8000000
namespace Ap
open PySem PySem.Spec PyProof.Rows L2
open PySem.W (CodeHd)
open Kqu5 (Person Book)
open Kqu5Neutral (asked1)
abbrev sTightest : Stmt := top 15
abbrev sTight : Stmt := top 46
abbrev sLoad : Stmt := top 47
/-- the lambda of tightest_span -/
abbrev lamTight (Pt : Addr) : TabRec := ⟨Pt, ⟨53, 38, 53, 76⟩, (("tightest_span" : Str) ++ ".<locals>.") ++ "<lambda>"⟩
def greatest (b : Book) (L : List Nat) : Option (Nat × Nat) := (spansOf b L).find? fun s => (spansOf b L).all fun r => decide (needsOf b L r ≤ needsOf b L s)
theorem tight_eq {b : Book} {l : List (Nat × Addr × Person)} (R : RepB b l) (nd : (keys l).Nodup) : Kqu5.tight b = greatest b (keys l) := by
  unfold Kqu5.tight greatest
  rw [spans_eq R nd]
  congr 1
  funext s
  congr 1
  funext r
  rw [needs_eq R nd, needs_eq R nd]
def spTight (C : Addr) (ts : List TabRec) : Sp := fun vs H Q _ => ∃ (d : Addr) (l : List (Nat × Addr × Person)) (b : Book), vs = [.ref d] ∧ PsAt C H d l ∧ l.length < 64 ∧ Ag b l ∧ (∀ q ∈ l, Valid q.2.2) ∧ 0 < l.length ∧ Tabs ts H ∧
  ∀ (H' : Hp) (a : Addr) (s : Nat × Nat), Gr ts H H' → H' a = some (.tup [.int s.1, .int s.2]) → s.1 < s.2 → s.2 ≤ 40 → greatest b (keys l) = some s → Q (.ref a) H'
theorem spans_pos {b : Book} {l : List (Nat × Addr × Person)} (hA : Ag b l) (hv : ∀ q ∈ l, Valid q.2.2) (h : 0 < l.length) : 0 < (spansOf b (keys l)).length := by
  cases l with
  | nil => cases h
  | cons q r =>
    refine List.length_pos_of_mem (a := (Kqu5.from_ b q.1, Kqu5.to b q.1)) ?_
    unfold spansOf
    have hm : q.1 ∈ Kqu5.rising (keys (q :: r)) := mem_rising.mpr (List.mem_map.mpr ⟨q, .head _, rfl⟩)
    refine List.mem_filter.mpr ⟨List.mem_flatMap.mpr ⟨q.1, hm, List.mem_map.mpr ⟨q.1, hm, rfl⟩⟩, ?_⟩
    have e := hA q (.head _)
    show decide (Kqu5.from_ b q.1 < Kqu5.to b q.1) = true
    rw [e.1, e.2]
    exact decide_eq_true (hv q (.head _)).1
theorem pe_needKey {X : Cx} {C f : Addr} {fd : FuncData} {x y : Str} {p p1 p2 pos : Pos} (CN : Cal X.prog X.w X.K X.mg X.base "span_needs" f fd ["persons", "span"] 2 (spNeeds C)) (hr : Room 2 X.A) (hg : Gl X "span_needs") (h0 : X.N[0]? = some x) (h1 : X.N[1]? = some y) (v0 : Vis X.env.scope x) (v1 : Vis X.env.scope y)
    (d1 : (x == ("__debug__" : Str)) = false := by decide) (d2 : (x == ("__classdict__" : Str)) = false := by decide) (d3 : (y == ("__debug__" : Str)) = false := by decide) (d4 : (y == ("__classdict__" : Str)) = false := by decide) :
    PE X (.Call (.Name "span_needs" p) [.Name y p1, .Name x p2] [] pos) (tCall (spNeeds C) [] E0 (tCons (tVar 1) (tCons (tVar 0) tNil))) :=
  pe_cal CN hr hg (pa_cons (pe_var h1 v1 d3 d4) (pa_cons (pe_var h0 v0 d1 d2) pa_nil))
section
variable {P : Program} {w : World} {K : PySem.W.Frag} {mg : Str → Option Value} {base : Heap} {C CB CP : Addr} {ts : List TabRec}
theorem sc_tst : FnScope ["persons"] ["persons"] (defScope sTightest) := ⟨rfl, rfl, rfl, by decide +kernel, rfl, by decide +kernel, by decide +kernel⟩
theorem ok_tst {f c Pt fS fN : Addr} {fd fdS fdN : FuncData} (F : FunC K "tightest_span" "tightest_span" sTightest f fd c) (hd : CodeHd base c Pt) (hB : BltAt mg base) (ht : lamTight Pt ∈ ts) (hmx : mg "max" = none)
    (CS : Cal P w K mg base "spans_of" fS fdS ["persons"] 1 (spSpans C)) (CN : Cal P w K mg base "span_needs" fN fdN ["persons", "span"] 2 (spNeeds C)) : FnOk P w K mg base CX0 5 f fd ["persons"] (spTight C ts) := by
  refine F.ok sc_tst (fun vs H Q E h => ?_) (fun A outer s H vs Q E hr h => ?_)
  · obtain ⟨d, l, b, rfl, _⟩ := h
    rfl
  · obtain ⟨d, l, b, rfl, hP, hl, hA, hv, h0, hT, k⟩ := h
    have hr1 : Room 1 _ := hr.mono (by decide)
    refine ⟨_, pss_one (ps_ret (pe_maxLam (tb := tCall (spNeeds C) [] E0 (tCons (tVar 1) (tCons (tVar 0) tNil))) (k := 2) (x := "span") (fx := [(0, "persons")]) (t := lamTight Pt) (ts := ts) (hr.mono (by decide)) rfl rfl hmx (pe_cal CS hr1 rfl (pa_cons (pv 0) pa_nil)) ⟨rfl, hd, hB, rfl⟩ ht rfl (lam_free (sc := defScope sTightest) (by decide +kernel)) rfl rfl rfl (by decide +kernel) rfl (fun _ _ _ _ _ => rfl) (by decide +kernel) (lam_fx (N := ["persons"]) (sc := defScope sTightest) (by decide +kernel))
          (fun f' c' cl A' outer' s' H' hr' => pe_needKey (x := "span") (y := "persons") CN (hr'.deeper _) rfl rfl rfl (Or.inl rfl) (Or.inr (Or.inr rfl))))), ?_⟩
    refine ⟨_, rfl, d, l, b, rfl, hP, hl, hA, fun H1 p as S1 np hp hsp => ?_⟩
    have hlen := Paired.length hsp
    have hpos := spans_pos hA hv h0
    -- the span at a place
    have hat : ∀ (i : Nat) (x : V), (as.map V.ref)[i]? = some x → ∃ (a : Addr) (sp : Nat × Nat), x = V.ref a ∧ (spansOf b (keys l))[i]? = some sp ∧ H1 a = some (.tup [.int sp.1, .int sp.2]) ∧ sp.1 < sp.2 ∧ sp.2 ≤ 40 := fun i x hx => by
      rw [List.getElem?_map] at hx
      obtain ⟨a, ha, rfl⟩ := Option.map_eq_some_iff.mp hx
      obtain ⟨sp, z1, z2⟩ := paired_get hsp ha
      have hsm := spansOf_mem hA hv (List.mem_of_getElem? z1)
      exact ⟨a, sp, rfl, z1, z2, hsm.1, hsm.2⟩
    refine ⟨p, _, fun i => ((((spansOf b (keys l))[i]?.map (needsOf b (keys l))).getD 0 : Nat) : Int), [.ref d], rfl, SqL.of hp, (by rw [List.length_map]; omega), hT.same S1, fun j q hq => ?_, rfl, fun i x H2 hx g2 => ?_, fun i x H2 hx hbest g2 => ?_⟩
    · cases j with
      | zero => cases hq; exact ⟨_, rfl, rfl⟩
      | succ j => cases hq
    · obtain ⟨a, sp, rfl, z1, z2, z3, z4⟩ := hat i x hx
      refine ⟨_, rfl, _, rfl, d, a, l, b, sp, rfl, (hP.gr (ts := ts) (Gr.same S1)).gr g2, hl, hA, g2.keep _ _ z2 rfl, z3, by omega, fun H3 S3 => ⟨?_, S3⟩⟩
      simp only [z1, Option.map_some, Option.getD_some]
    · obtain ⟨a, sp, rfl, z1, z2, z3, z4⟩ := hat i x hx
      refine k H2 a sp ((Gr.same S1).trans g2) (g2.keep _ _ z2 rfl) z3 z4 (find_greatest z1 fun j y hy => ?_)
      have hj : j < (as.map V.ref).length := by
        rw [List.length_map, hlen]
        exact (List.getElem?_eq_some_iff.mp hy).1
      have hb := hbest j hj
      simp only [z1, hy, Option.map_some, Option.getD_some] at hb
      exact ⟨by omega, fun h => by have := hb.2 h; omega⟩
theorem sc_tight : FnScope ["book", "told", "span"] ["book", "told"] (defScope sTight) := ⟨rfl, rfl, rfl, by decide +kernel, rfl, by decide +kernel, by decide +kernel⟩
theorem ok_tight {f fT fN fH : Addr} {fd fdT fdN fdH : FuncData} {tk : Tok} (F : Fun K "answer_tight" "answer_tight" sTight f fd) (T : BC K CB) (m6 : mg "NOBODY" = some (.int (-6) tk)) (hlen : mg "len" = none) (CT : Cal P w K mg base "tightest_span" fT fdT ["persons"] 5 (spTight CP ts))
    (CN : Cal P w K mg base "span_needs" fN fdN ["persons", "span"] 2 (spNeeds CP)) (CH : Cal P w K mg base "held_by" fH fdH ["persons", "first", "end"] 1 (spHeldBy CP)) : FnOk P w K mg base CX0 6 f fd ["book", "told"] (spA K CB CP ts 11) := by
  refine F.ok sc_tight (fun vs H Q E h => ?_) (fun cdv A outer s H vs Q E hr h => ?_)
  · obtain ⟨bk, tp, tl, s, rfl, _⟩ := h
    rfl
  · obtain ⟨bk, tp, tl, st, rfl, B, ht, hT, hq, -, hst, k⟩ := h
    obtain rfl := asked_11 hq
    clear hq
    obtain ⟨b, rfl⟩ := some_of (by decide) hst
    have hr1 : Room 1 _ := hr.mono (by decide)
    have hr2 : Room 2 _ := hr.mono (by decide)
    refine ⟨_, pss_cons (ps_if (pt_cmpR op_eq (pe_callB call_lenD (by rfl) hlen PySem.boot_len (pa_cons (pe_fld (pv 0) rfl) pa_nil)) pe_int (nomark _)) (pss_one (ps_ret (pe_lst (pa_cons (pe_glob (v := .int (-6)) rfl m6 ⟨_, rfl⟩) pa_nil)))) pss_nil)
      (pss_cons (ps_set (i := 2) sc_tight.nd rfl (Or.inl rfl) (pe_cal CT hr rfl (pa_cons (pe_fld (pv 0) rfl) pa_nil)))
      (pss_one (ps_ret (pe_lst (pa_cons (pe_cal CN hr2 rfl (pa_cons (pe_fld (pv 0) rfl) (pa_cons (pv 2) pa_nil))) (pa_cons (pe_ix ix_tup (pv 2) pe_int (fun _ _ => rfl)) (pa_cons (pe_ix ix_tup (pv 2) pe_int (fun _ _ => rfl)) (pa_cons (pe_cal CH hr1 rfl (pa_cons (pe_fld (pv 0) rfl) (pa_cons (pe_ix ix_tup (pv 2) pe_int (fun _ _ => rfl)) (pa_cons (pe_ix ix_tup (pv 2) pe_int (fun _ _ => rfl)) pa_nil)))) pa_nil)))))))), ?_⟩
    have B0 := B
    obtain ⟨pd, w0, l, Bk, rfl, w1, w2, R, hl, hv⟩ := B
    have nd := Bk.nd
    obtain ⟨dx, hb⟩ := Bk.ins
    have e11 : (stp (some b) 11 []) = (some b, Kqu5Neutral.tell (match greatest b (keys l) with | none => .num (-6) | some x => .some_ (needsOf b (keys l) x : Nat) [x.1, x.2, loadOf b (keys l) x.1 x.2])) := by
      show (some b, Kqu5Neutral.tell (match Kqu5.tight b with | none => .num (-6) | some x => .some_ (Kqu5.needs b x : Nat) [x.1, x.2, Kqu5.load b x.1 x.2])) = _
      rw [tight_eq R nd]
      cases greatest b (keys l) with
      | none => rfl
      | some x =>
        dsimp only
        rw [needs_eq R nd, load_eq R nd]
    refine ⟨_, rfl, bk, CB, dx, _, _, rfl, hb, T.cl, T.nP, bkf_p _ _, pd, _, rfl, Bk.dict, rfl, _, rfl, ite2 (fun z => ?_) fun z => ?_⟩
    · have z : V.int ((psK l).length : Int) = V.int 0 := of_decide_eq_true z
      have z := V.int.inj z
      rw [List.length_map] at z
      have hnil : l = [] := List.eq_nil_of_length_eq_zero (by omega)
      have eg : greatest b (keys l) = none := by rw [hnil]; rfl
      rw [eg] at e11
      refine ⟨(by show 1 ≤ sizeLine; decide), fun p hp => ?_⟩
      exact endA (out := [-6]) (Gr.refl H) hp B0 hT k (by rw [e11]) (by rw [e11]; rfl)
    · have hpos : 0 < l.length := by
        apply Nat.pos_of_ne_zero
        intro h
        exact z (decide_eq_true (by rw [List.length_map, h]; rfl))
      have hlt : l.length < 64 := Nat.lt_of_le_of_lt hl (by decide)
      refine ⟨_, rfl, bk, CB, dx, _, _, rfl, hb, T.cl, T.nP, bkf_p _ _, pd, l, b, rfl, Bk.ps, hlt, R.agr nd, hv, hpos, hT, fun H1 a sp g1 ha hs1 hs2 eg => ?_⟩
      rw [eg] at e11
      have Bk1 := Bk.gr g1
      refine ⟨_, rfl, bk, CB, dx, _, _, rfl, g1.keep _ _ hb rfl, T.cl, T.nP, bkf_p _ _, _, rfl, pd, a, l, b, sp, rfl, Bk1.ps, hlt, R.agr nd, ha, hs1, by omega, fun H2 S2 => ?_⟩
      have ha2 := S2 _ _ ha
      have Bk2 := Bk1.gr (ts := ts) (Gr.same S2)
      have hb2 := S2 _ _ (g1.keep _ _ hb rfl)
      refine ⟨_, rfl, a, _, _, _, rfl, rfl, SqT.of ha2, at_of (j := 0) rfl rfl, _, rfl, a, _, _, _, rfl, rfl, SqT.of ha2, at_of (j := 1) rfl rfl, _, rfl, bk, CB, dx, _, _, rfl, hb2, T.cl, T.nP, bkf_p _ _, _, rfl, a, _, _, _, rfl, rfl, SqT.of ha2, at_of (j := 0) rfl rfl, _, rfl, a, _, _, _, rfl, rfl, SqT.of ha2, at_of (j := 1) rfl rfl, pd, l, b, sp.1, sp.2, rfl, Bk2.ps, hlt, R.agr nd, fun H3 S3 => ?_⟩
      refine ⟨(by show 4 ≤ sizeLine; decide), fun p hp => ?_⟩
      exact endA (out := [((needsOf b (keys l) sp : Nat) : Int), (sp.1 : Int), (sp.2 : Int), ((loadOf b (keys l) sp.1 sp.2 : Nat) : Int)]) ((g1.trans (.same S2)).trans (.same S3)) hp B0 hT k (by rw [e11]) (by rw [e11]; rfl)
theorem sc_load : FnScope ["book", "told"] ["book", "told"] (defScope sLoad) := ⟨rfl, rfl, rfl, by decide +kernel, rfl, by decide +kernel, by decide +kernel⟩
theorem ok_load {f fH : Addr} {fd fdH : FuncData} (F : Fun K "answer_load" "answer_load" sLoad f fd) (T : BC K CB) (M : Cst mg) (CH : Cal P w K mg base "held_by" fH fdH ["persons", "first", "end"] 1 (spHeldBy CP)) : FnOk P w K mg base CX0 2 f fd ["book", "told"] (spA K CB CP ts 12) := by
  refine F.ok sc_load (fun vs H Q E h => ?_) (fun cdv A outer s H vs Q E hr h => ?_)
  · obtain ⟨bk, tp, tl, s, rfl, _⟩ := h
    rfl
  · obtain ⟨bk, tp, tl, st, rfl, B, ht, hT, hq, -, hst, k⟩ := h
    obtain ⟨x, y, rfl⟩ := asked_12 hq
    clear hq
    obtain ⟨b, rfl⟩ := some_of (by decide) hst
    obtain ⟨t22, m22⟩ := M.c22
    obtain ⟨t40, m40⟩ := M.c40
    refine ⟨_, pss_cons (ps_if (PW.pt (pw_or (pt_cmpR op_lt (pe_ix ix_list (pv 1) pe_int (fun _ _ => rfl)) (pe_ix ix_list (pv 1) pe_int (fun _ _ => rfl)) (nomark _)) (pw_or1 (pt_cmpR op_gt (pe_ix ix_list (pv 1) pe_int (fun _ _ => rfl)) (pe_glob (v := .int 40) rfl m40 ⟨_, rfl⟩) (nomark _)))))
        (pss_one (ps_ret (pe_lst (pa_cons (pe_glob (v := .int (-22)) rfl m22 ⟨_, rfl⟩) pa_nil)))) pss_nil)
      (pss_one (ps_ret (pe_lst (pa_cons (pe_cal CH hr rfl (pa_cons (pe_fld (pv 0) rfl) (pa_cons (pe_ix ix_list (pv 1) pe_int (fun _ _ => rfl)) (pa_cons (pe_ix ix_list (pv 1) pe_int (fun _ _ => rfl)) pa_nil)))) pa_nil)))), ?_⟩
    have B0 := B
    obtain ⟨pd, w0, l, Bk, rfl, w1, w2, R, hl, hv⟩ := B
    have nd := Bk.nd
    obtain ⟨dx, hb⟩ := Bk.ins
    have e12 : (stp (some b) 12 [(x : Int), (y : Int)]) = (some b, [if y < x ∨ 40 < y then -22 else ((loadOf b (keys l) x y : Nat) : Int)]) := by
      show (some b, Kqu5Neutral.tell (if y < x ∨ 40 < y then .num (-22) else .num ((Kqu5.load b x y : Nat) : Int))) = _
      rw [load_eq R nd]
      split <;> rfl
    have bad : y < x ∨ 40 < y → ∀ p, H p = none → Q (.ref p) (upd H p (.lst [V.int (-22)])) := fun h p hp => by
      rw [if_pos h] at e12
      exact endA (out := [-22]) (Gr.refl H) hp B0 hT k (by rw [e12]) (by rw [e12])
    refine ⟨_, rfl, tp, _, _, _, rfl, rfl, ht, at_of (j := 1) rfl rfl, _, rfl, tp, _, _, _, rfl, rfl, ht, at_of (j := 0) rfl rfl, _, _, rfl, rfl, _, rfl, ite2 (fun z => ?_) fun z => ?_⟩
    · have z : (y : Int) < (x : Int) := of_decide_eq_true z
      exact iteT ⟨(by show 1 ≤ sizeLine; decide), bad (.inl (by omega))⟩
    · have z : ¬ (y : Int) < (x : Int) := fun h => z (decide_eq_true h)
      refine ⟨_, rfl, tp, _, _, _, rfl, rfl, ht, at_of (j := 1) rfl rfl, _, _, rfl, rfl, _, rfl, ite2 (fun z2 => ?_) fun z2 => ?_⟩
      · have z2 : (40 : Int) < (y : Int) := of_decide_eq_true z2
        exact ⟨(by show 1 ≤ sizeLine; decide), bad (.inr (by omega))⟩
      · have z2 : ¬ (40 : Int) < (y : Int) := fun h => z2 (decide_eq_true h)
        have hno : ¬ (y < x ∨ 40 < y) := by omega
        rw [if_neg hno] at e12
        refine ⟨_, rfl, bk, CB, dx, _, _, rfl, hb, T.cl, T.nP, bkf_p _ _, _, rfl, tp, _, _, _, rfl, rfl, ht, at_of (j := 0) rfl rfl, _, rfl, tp, _, _, _, rfl, rfl, ht, at_of (j := 1) rfl rfl, pd, l, b, x, y, rfl, Bk.ps, Nat.lt_of_le_of_lt hl (by decide), R.agr nd, fun H1 S1 => ⟨(by show 1 ≤ sizeLine; decide), fun p hp => ?_⟩⟩
        exact endA (out := [((loadOf b (keys l) x y : Nat) : Int)]) (Gr.same S1) hp B0 hT k (by rw [e12]) (by rw [e12])
end
end Ap

set_option Elab.async false
set_option linter.all false
set_option maxRecDepth 100000
set_option maxHeartbeats 8000000
namespace Ap
open PySem PySem.Spec PyProof.Rows L2
open Kqu5 (Person Book)
open Kqu5Neutral (asked1)
abbrev sEarliest : Stmt := top 50
abbrev sLatest : Stmt := top 51
abbrev sCould : Stmt := top 52
abbrev sFree : Stmt := top 53
abbrev sLook : Stmt := top 54
abbrev sState : Stmt := top 55
/-- when it may come, by its own time -/
theorem may_eq {b : Book} {l : List (Nat × Addr × Person)} (R : RepB b l) (nd : (keys l).Nodup) {q : Nat × Addr × Person} (hq : q ∈ l) : Kqu5.mayAt b q.1 = mayIn (fun s => Kqu5.can (Kqu5.fixed b q.1 s) b.windows (keys l)) q.2.2.from_ q.2.2.to := by
  funext s
  unfold Kqu5.mayAt mayIn
  have e := R.ag nd hq
  rw [e.1, e.2.1, R.ids_eq nd, can_congr (rising_perm (keys l))]
section
variable {P : Program} {w : World} {K : PySem.W.Frag} {mg : Str → Option Value} {base : Heap} {CB CP : Addr} {ts : List TabRec}
theorem sc_earl : FnScope ["book", "told", "fitting"] ["book", "told"] (defScope sEarliest) := ⟨rfl, rfl, rfl, by decide +kernel, rfl, by decide +kernel, by decide +kernel⟩
theorem ok_earl {f fF : Addr} {fd fdF : FuncData} (F : Fun K "answer_earliest" "answer_earliest" sEarliest f fd) (T : BC K CB) (M : Cst mg) (hmn : mg "min" = none) (CF : Cal P w K mg base "fitting_slots" fF fdF ["persons", "windows", "number"] 9 (spFit CP ts)) : FnOk P w K mg base CX0 10 f fd ["book", "told"] (spA K CB CP ts 15) := by
  refine F.ok sc_earl (fun vs H Q E h => ?_) (fun cdv A outer s H vs Q E hr h => ?_)
  · obtain ⟨bk, tp, tl, s, rfl, _⟩ := h
    rfl
  · obtain ⟨bk, tp, tl, st, rfl, B, ht, hT, hq, -, hst, k⟩ := h
    obtain ⟨a, rfl⟩ := asked_15 hq
    clear hq
    obtain ⟨b, rfl⟩ := some_of (by decide) hst
    obtain ⟨t2, m2⟩ := M.c2
    obtain ⟨t33, m33⟩ := M.c33
    have hu := hu_of hr
    refine ⟨_, pss_cons (ps_if (pt_cmp (pc_dnotin hu (pe_ix ix_list (pv 1) pe_int (fun _ _ => rfl)) (pe_fld (pv 0) rfl))) (pss_one (ps_ret (pe_lst (pa_cons (pe_glob (v := .int (-2)) rfl m2 ⟨_, rfl⟩) pa_nil)))) pss_nil)
      (pss_cons (ps_set (i := 2) sc_earl.nd rfl (Or.inl rfl) (pe_cal CF hr rfl (pa_cons (pe_fld (pv 0) rfl) (pa_cons (pe_fld (pv 0) rfl) (pa_cons (pe_ix ix_list (pv 1) pe_int (fun _ _ => rfl)) pa_nil)))))
      (pss_one (ps_ret (pe_lst (pa_cons (pe_minD rfl rfl hmn (pv 2) (pe_glob (v := .int (-33)) rfl m33 ⟨_, rfl⟩)) pa_nil))))), ?_⟩
    have B0 := B
    obtain ⟨pd, w0, l, Bk, rfl, w1, w2, R, hl, hv⟩ := B
    have nd := Bk.nd
    have hd := Bk.dict
    obtain ⟨dx, hb⟩ := Bk.ins
    have e15 : (stp (some b) 15 [(a : Int)]) = (some b, Kqu5Neutral.tell (if (b.persons.getD a none).isNone then .num (-2) else match Kqu5.earliest b a with | none => .num (-33) | some x => .num x)) := rfl
    refine ⟨_, rfl, tp, _, _, _, rfl, rfl, ht, at_of (j := 0) rfl rfl, _, rfl, bk, CB, dx, _, _, rfl, hb, T.cl, T.nP, bkf_p _ _, pd, _, rfl, DGet.k (k := Sum.inl (a : Int)) hd, _, rfl, ?_⟩
    rw [ps_isSome]
    by_cases hin : a ∈ keys l
    · rw [decide_eq_true hin]
      obtain ⟨q, hq, rfl⟩ := List.mem_map.mp hin
      rw [R.get nd hq] at e15
      have ee : Kqu5.earliest b q.1 = (List.range 40).find? (mayIn (fun s => Kqu5.can (Kqu5.fixed b q.1 s) b.windows (keys l)) q.2.2.from_ q.2.2.to) := by
        unfold Kqu5.earliest
        rw [may_eq R nd hq]; rfl
      rw [ee] at e15
      refine iteF ⟨_, rfl, bk, CB, dx, _, _, rfl, hb, T.cl, T.nP, bkf_p _ _, _, rfl, bk, CB, dx, _, _, rfl, hb, T.cl, T.nW, bkf_w _ _, _, rfl, tp, _, _, _, rfl, rfl, ht, at_of (j := 0) rfl rfl, pd, l, q, b.windows, b, rfl, Bk.ps, Nat.lt_of_le_of_lt hl (by decide), hq, R, hv q hq, hT, fun H1 fp g1 nfp hfp => ?_⟩
      refine ⟨_, rfl, fp, _, -33, rfl, rfl, SqL.of hfp, fun h0 => ?_, fun m hm1 hm2 => ?_⟩
      · rw [(fit_nil h0).1] at e15
        refine ⟨(by show 1 ≤ sizeLine; decide), fun p hp => ?_⟩
        exact endA (out := [-33]) g1 hp B0 hT k (by rw [e15]) (by rw [e15]; rfl)
      · obtain ⟨x, rfl, ex⟩ := fit_min (hv q hq).2.1 hm1 hm2
        rw [ex] at e15
        refine ⟨(by show 1 ≤ sizeLine; decide), fun p hp => ?_⟩
        exact endA (out := [(x : Int)]) g1 hp B0 hT k (by rw [e15]) (by rw [e15]; rfl)
    · rw [decide_eq_false hin]
      rw [R.none hin] at e15
      refine iteT ⟨(by show 1 ≤ sizeLine; decide), fun p hp => ?_⟩
      exact endA (out := [-2]) (Gr.refl H) hp B0 hT k (by rw [e15]) (by rw [e15]; rfl)
theorem sc_late : FnScope ["book", "told", "fitting"] ["book", "told"] (defScope sLatest) := ⟨rfl, rfl, rfl, by decide +kernel, rfl, by decide +kernel, by decide +kernel⟩
theorem ok_late {f fF : Addr} {fd fdF : FuncData} (F : Fun K "answer_latest" "answer_latest" sLatest f fd) (T : BC K CB) (M : Cst mg) (hmx : mg "max" = none) (CF : Cal P w K mg base "fitting_slots" fF fdF ["persons", "windows", "number"] 9 (spFit CP ts)) : FnOk P w K mg base CX0 10 f fd ["book", "told"] (spA K CB CP ts 16) := by
  refine F.ok sc_late (fun vs H Q E h => ?_) (fun cdv A outer s H vs Q E hr h => ?_)
  · obtain ⟨bk, tp, tl, s, rfl, _⟩ := h
    rfl
  · obtain ⟨bk, tp, tl, st, rfl, B, ht, hT, hq, -, hst, k⟩ := h
    obtain ⟨a, rfl⟩ := asked_16 hq
    clear hq
    obtain ⟨b, rfl⟩ := some_of (by decide) hst
    obtain ⟨t2, m2⟩ := M.c2
    obtain ⟨t33, m33⟩ := M.c33
    have hu := hu_of hr
    refine ⟨_, pss_cons (ps_if (pt_cmp (pc_dnotin hu (pe_ix ix_list (pv 1) pe_int (fun _ _ => rfl)) (pe_fld (pv 0) rfl))) (pss_one (ps_ret (pe_lst (pa_cons (pe_glob (v := .int (-2)) rfl m2 ⟨_, rfl⟩) pa_nil)))) pss_nil)
      (pss_cons (ps_set (i := 2) sc_late.nd rfl (Or.inl rfl) (pe_cal CF hr rfl (pa_cons (pe_fld (pv 0) rfl) (pa_cons (pe_fld (pv 0) rfl) (pa_cons (pe_ix ix_list (pv 1) pe_int (fun _ _ => rfl)) pa_nil)))))
      (pss_one (ps_ret (pe_lst (pa_cons (pe_maxD rfl rfl hmx (pv 2) (pe_glob (v := .int (-33)) rfl m33 ⟨_, rfl⟩)) pa_nil))))), ?_⟩
    have B0 := B
    obtain ⟨pd, w0, l, Bk, rfl, w1, w2, R, hl, hv⟩ := B
    have nd := Bk.nd
    have hd := Bk.dict
    obtain ⟨dx, hb⟩ := Bk.ins
    have e16 : (stp (some b) 16 [(a : Int)]) = (some b, Kqu5Neutral.tell (if (b.persons.getD a none).isNone then .num (-2) else match Kqu5.latest b a with | none => .num (-33) | some x => .num x)) := rfl
    refine ⟨_, rfl, tp, _, _, _, rfl, rfl, ht, at_of (j := 0) rfl rfl, _, rfl, bk, CB, dx, _, _, rfl, hb, T.cl, T.nP, bkf_p _ _, pd, _, rfl, DGet.k (k := Sum.inl (a : Int)) hd, _, rfl, ?_⟩
    rw [ps_isSome]
    by_cases hin : a ∈ keys l
    · rw [decide_eq_true hin]
      obtain ⟨q, hq, rfl⟩ := List.mem_map.mp hin
      rw [R.get nd hq] at e16
      have ee : Kqu5.latest b q.1 = (List.range 40).reverse.find? (mayIn (fun s => Kqu5.can (Kqu5.fixed b q.1 s) b.windows (keys l)) q.2.2.from_ q.2.2.to) := by
        unfold Kqu5.latest
        rw [may_eq R nd hq]; rfl
      rw [ee] at e16
      refine iteF ⟨_, rfl, bk, CB, dx, _, _, rfl, hb, T.cl, T.nP, bkf_p _ _, _, rfl, bk, CB, dx, _, _, rfl, hb, T.cl, T.nW, bkf_w _ _, _, rfl, tp, _, _, _, rfl, rfl, ht, at_of (j := 0) rfl rfl, pd, l, q, b.windows, b, rfl, Bk.ps, Nat.lt_of_le_of_lt hl (by decide), hq, R, hv q hq, hT, fun H1 fp g1 nfp hfp => ?_⟩
      refine ⟨_, rfl, fp, _, -33, rfl, rfl, SqL.of hfp, fun h0 => ?_, fun m hm1 hm2 => ?_⟩
      · rw [(fit_nil h0).2] at e16
        refine ⟨(by show 1 ≤ sizeLine; decide), fun p hp => ?_⟩
        exact endA (out := [-33]) g1 hp B0 hT k (by rw [e16]) (by rw [e16]; rfl)
      · obtain ⟨x, rfl, ex⟩ := fit_max (hv q hq).2.1 hm1 hm2
        rw [ex] at e16
        refine ⟨(by show 1 ≤ sizeLine; decide), fun p hp => ?_⟩
        exact endA (out := [(x : Int)]) g1 hp B0 hT k (by rw [e16]) (by rw [e16]; rfl)
    · rw [decide_eq_false hin]
      rw [R.none hin] at e16
      refine iteT ⟨(by show 1 ≤ sizeLine; decide), fun p hp => ?_⟩
      exact endA (out := [-2]) (Gr.refl H) hp B0 hT k (by rw [e16]) (by rw [e16]; rfl)
theorem sc_could : FnScope ["book", "told", "number", "one_more"] ["book", "told"] (defScope sCould) := ⟨rfl, rfl, rfl, by decide +kernel, rfl, by decide +kernel, by decide +kernel⟩
theorem ok_could {f fT fF fI fW : Addr} {fd fdT fdF fdI fdW : FuncData} (F : Fun K "answer_could" "answer_could" sCould f fd) (T : BC K CB) (M : Cst mg) (CT : Cal P w K mg base "time_fits" fT fdT ["first", "end"] 1 spTFit) (CF : Cal P w K mg base "least_free_number" fF fdF ["persons"] 1 spFree) (MP : MkP P w K mg base CP fI fdI)
    (CW : Cal P w K mg base "all_served_with" fW fdW ["persons", "windows", "number", "person"] 8 (spAllW CP ts)) : FnOk P w K mg base CX0 9 f fd ["book", "told"] (spA K CB CP ts 17) := by
  refine F.ok sc_could (fun vs H Q E h => ?_) (fun cdv A outer s H vs Q E hr h => ?_)
  · obtain ⟨bk, tp, tl, s, rfl, _⟩ := h
    rfl
  · obtain ⟨bk, tp, tl, st, rfl, B, ht, hT, hq, -, hst, k⟩ := h
    obtain ⟨r, d, rfl⟩ := asked_17 hq
    clear hq
    obtain ⟨b, rfl⟩ := some_of (by decide) hst
    obtain ⟨t22, m22⟩ := M.c22
    have hr1 : Room 1 _ := hr.mono (by decide)
    have hr2 : Room 2 _ := hr.mono (by decide)
    refine ⟨_, pss_cons (ps_if (pt_not (pt_val (pe_cal CT hr1 rfl (pa_cons (pe_ix ix_list (pv 1) pe_int (fun _ _ => rfl)) (pa_cons (pe_ix ix_list (pv 1) pe_int (fun _ _ => rfl)) pa_nil))))) (pss_one (ps_ret (pe_lst (pa_cons (pe_glob (v := .int (-22)) rfl m22 ⟨_, rfl⟩) pa_nil)))) pss_nil)
      (pss_cons (ps_set (i := 2) sc_could.nd rfl (Or.inl rfl) (pe_cal CF hr1 rfl (pa_cons (pe_fld (pv 0) rfl) pa_nil)))
      (pss_cons (ps_set (i := 3) sc_could.nd rfl (Or.inl rfl) (pe_make MP.mak MP.fn hr2 rfl MP.m MP.b .nil pass0 (pa_cons (pe_ix ix_list (pv 1) pe_int (fun _ _ => rfl)) (pa_cons (pe_ix ix_list (pv 1) pe_int (fun _ _ => rfl)) (pa_cons pe_int pa_nil)))))
      (pss_one (ps_ret (pe_lst (pa_cons (pe_ifExp (pt_val (pe_cal CW hr rfl (pa_cons (pe_fld (pv 0) rfl) (pa_cons (pe_fld (pv 0) rfl) (pa_cons (pv 2) (pa_cons (pv 3) pa_nil)))))) pe_int pe_int) pa_nil)))))), ?_⟩
    have B0 := B
    obtain ⟨pd, w0, l, Bk, rfl, w1, w2, R, hl, hv⟩ := B
    have nd := Bk.nd
    obtain ⟨dx, hb⟩ := Bk.ins
    have e17 : (stp (some b) 17 [(r : Int), (d : Int)]) = (some b, Kqu5Neutral.tell (if Kqu5.okSpan r d = false then .num (-22) else .num (if Kqu5.can ⟨b.windows, Kqu5.putIn b.persons ⟨r, d, 0⟩⟩ b.windows (Kqu5.ids ⟨b.windows, Kqu5.putIn b.persons ⟨r, d, 0⟩⟩) then 1 else 0))) := rfl
    refine ⟨_, rfl, tp, _, _, _, rfl, rfl, ht, at_of (j := 0) rfl rfl, _, rfl, tp, _, _, _, rfl, rfl, ht, at_of (j := 1) rfl rfl, (r : Int), (d : Int), rfl, _, rfl, ?_⟩
    rw [okSpan_iff]
    cases hok : Kqu5.okSpan r d with
    | false =>
      rw [if_pos hok] at e17
      refine iteT ⟨(by show 1 ≤ sizeLine; decide), fun p hp => ?_⟩
      exact endA (out := [-22]) (Gr.refl H) hp B0 hT k (by rw [e17]) (by rw [e17]; rfl)
    | true =>
      rw [if_neg (by rw [hok]; decide)] at e17
      refine iteF ⟨_, rfl, bk, CB, dx, _, _, rfl, hb, T.cl, T.nP, bkf_p _ _, pd, l, rfl, .inl Bk.dict, fun n hn1 hn2 => ?_⟩
      refine ⟨_, rfl, tp, _, _, _, rfl, rfl, ht, at_of (j := 0) rfl rfl, _, rfl, tp, _, _, _, rfl, rfl, ht, at_of (j := 1) rfl rfl, ?_⟩
      intro x dxp nx ndx nex
      refine ⟨x, dxp, ⟨r, d, 0⟩, rfl, upd_same, fun H1 hp1 kp1 => ⟨rfl, ?_⟩⟩
      have S1 : Same H H1 := Same.made nx ndx kp1
      have Bk1 := Bk.gr (ts := ts) (Gr.same S1)
      have hb1 := S1 _ _ hb
      have RP : RepB ⟨b.windows, Kqu5.putIn b.persons ⟨r, d, 0⟩⟩ (putL l n x ⟨r, d, 0⟩) := by
        rw [putL_new hn2]; exact R.put hn1 hn2
      have ndP := putL_nodup (n := n) (a := x) (p := ⟨r, d, 0⟩) nd
      rw [RepB.can RP ndP] at e17
      refine ⟨_, rfl, bk, CB, dx, _, _, rfl, hb1, T.cl, T.nP, bkf_p _ _, _, rfl, bk, CB, dx, _, _, rfl, hb1, T.cl, T.nW, bkf_w _ _, _, rfl, _, rfl, pd, l, ⟨b.windows, Kqu5.putIn b.persons ⟨r, d, 0⟩⟩, b.windows, n, x, ⟨r, d, 0⟩, rfl, Bk1.ps, Nat.lt_of_le_of_lt hl (by decide), hp1, hT.same S1, RP.agr ndP, fun H2 g2 => ⟨_, rfl, ?_⟩⟩
      have g3 : Gr ts H H2 := (Gr.same S1).trans g2
      cases hc : Kqu5.can ⟨b.windows, Kqu5.putIn b.persons ⟨r, d, 0⟩⟩ b.windows (keys (putL l n x ⟨r, d, 0⟩)) with
      | true =>
        rw [hc] at e17
        exact iteT ⟨(by show 1 ≤ sizeLine; decide), fun p hp => endA (out := [1]) g3 hp B0 hT k (by rw [e17]) (by rw [e17]; rfl)⟩
      | false =>
        rw [hc] at e17
        exact iteF ⟨(by show 1 ≤ sizeLine; decide), fun p hp => endA (out := [0]) g3 hp B0 hT k (by rw [e17]) (by rw [e17]; rfl)⟩
theorem sc_afree : FnScope ["book", "told"] ["book", "told"] (defScope sFree) := ⟨rfl, rfl, rfl, by decide +kernel, rfl, by decide +kernel, by decide +kernel⟩
theorem ok_afree {f fB : Addr} {fd fdB : FuncData} (F : Fun K "answer_free" "answer_free" sFree f fd) (T : BC K CB) (M : Cst mg) (hlen : mg "len" = none) (CBp : Cal P w K mg base "book_plan" fB fdB ["book"] 7 (spBPlan CB CP ts)) : FnOk P w K mg base CX0 8 f fd ["book", "told"] (spA K CB CP ts 18) := by
  refine F.ok sc_afree (fun vs H Q E h => ?_) (fun cdv A outer s H vs Q E hr h => ?_)
  · obtain ⟨bk, tp, tl, s, rfl, _⟩ := h
    rfl
  · obtain ⟨bk, tp, tl, st, rfl, B, ht, hT, hq, -, hst, k⟩ := h
    obtain rfl := asked_18 hq
    clear hq
    obtain ⟨b, rfl⟩ := some_of (by decide) hst
    obtain ⟨t40, m40⟩ := M.c40
    refine ⟨_, pss_one (ps_ret (pe_lst (pa_cons (pe_op op_sub (pe_op op_mul (pe_glob (v := .int 40) rfl m40 ⟨_, rfl⟩) (pe_fld (pv 0) rfl)) (pe_callB call_lenD (by rfl) hlen PySem.boot_len (pa_cons (pe_cal CBp hr rfl (pa_cons (pv 0) pa_nil)) pa_nil))) pa_nil))), ?_⟩
    have B0 := B
    obtain ⟨pd, w0, l, Bk, rfl, w1, w2, R, hl, hv⟩ := B
    have nd := Bk.nd
    obtain ⟨dx, hb⟩ := Bk.ins
    have e18 : (stp (some b) 18 []) = (some b, [((40 * b.windows - (Kqu5.plan b b.windows (keys l)).length : Nat) : Int)]) := by
      rw [← R.plan nd]; rfl
    have hpm := plan_most b b.windows (keys l)
    refine ⟨_, rfl, bk, CB, dx, _, _, rfl, hb, T.cl, T.nW, bkf_w _ _, _, _, rfl, rfl, .inl ⟨by decide, by decide⟩, _, rfl, bk, pd, b.windows, l, b, rfl, Bk, Nat.lt_of_le_of_lt hl (by decide), hT, R.agr nd, fun H1 sd g1 nsd hsd => ?_⟩
    refine ⟨sd, _, rfl, hsd, _, _, rfl, rfl, (by show 1 ≤ sizeLine; decide), fun p hp => ?_⟩
    have ee : (40 : Int) * (b.windows : Int) - ((svK (Kqu5.plan b b.windows (keys l))).length : Int) = ((40 * b.windows - (Kqu5.plan b b.windows (keys l)).length : Nat) : Int) := by
      rw [List.length_map]; omega
    have := endA (out := [((40 * b.windows - (Kqu5.plan b b.windows (keys l)).length : Nat) : Int)]) g1 hp B0 hT k (by rw [e18]) (by rw [e18])
    rw [← ee] at this
    exact this
theorem sc_look : FnScope ["book", "told", "person"] ["book", "told"] (defScope sLook) := ⟨rfl, rfl, rfl, by decide +kernel, rfl, by decide +kernel, by decide +kernel⟩
theorem ok_look {f : Addr} {fd : FuncData} (F : Fun K "answer_look" "answer_look" sLook f fd) (T : BC K CB) (TP : PC K CP) (M : Cst mg) : FnOk P w K mg base CX0 1 f fd ["book", "told"] (spA K CB CP ts 19) := by
  refine F.ok sc_look (fun vs H Q E h => ?_) (fun cdv A outer s H vs Q E hr h => ?_)
  · obtain ⟨bk, tp, tl, s, rfl, _⟩ := h
    rfl
  · obtain ⟨bk, tp, tl, st, rfl, B, ht, hT, hq, -, hst, k⟩ := h
    obtain ⟨a, rfl⟩ := asked_19 hq
    clear hq
    obtain ⟨b, rfl⟩ := some_of (by decide) hst
    obtain ⟨t2, m2⟩ := M.c2
    have hu := hu_of hr
    refine ⟨_, pss_cons (ps_if (pt_cmp (pc_dnotin hu (pe_ix ix_list (pv 1) pe_int (fun _ _ => rfl)) (pe_fld (pv 0) rfl))) (pss_one (ps_ret (pe_lst (pa_cons (pe_glob (v := .int (-2)) rfl m2 ⟨_, rfl⟩) pa_nil)))) pss_nil)
      (pss_cons (ps_set (i := 2) sc_look.nd rfl (Or.inl rfl) (pe_dget hu (pe_fld (pv 0) rfl) (pe_ix ix_list (pv 1) pe_int (fun _ _ => rfl)) (fun _ _ => rfl)))
      (pss_one (ps_ret (pe_lst (pa_cons (pe_fld (pv 2) rfl) (pa_cons (pe_fld (pv 2) rfl) (pa_cons (pe_fld (pv 2) rfl) pa_nil))))))), ?_⟩
    have B0 := B
    obtain ⟨pd, w0, l, Bk, rfl, w1, w2, R, hl, hv⟩ := B
    have nd := Bk.nd
    have hd := Bk.dict
    obtain ⟨dx, hb⟩ := Bk.ins
    have e19 : (stp (some b) 19 [(a : Int)]) = (some b, Kqu5Neutral.tell (match b.persons.getD a none with | none => .num (-2) | some p => .some_ p.from_ [p.to, p.counts])) := rfl
    refine ⟨_, rfl, tp, _, _, _, rfl, rfl, ht, at_of (j := 0) rfl rfl, _, rfl, bk, CB, dx, _, _, rfl, hb, T.cl, T.nP, bkf_p _ _, pd, _, rfl, DGet.k (k := Sum.inl (a : Int)) hd, _, rfl, ?_⟩
    rw [ps_isSome]
    by_cases hin : a ∈ keys l
    · rw [decide_eq_true hin]
      obtain ⟨q, hq, rfl⟩ := List.mem_map.mp hin
      rw [R.get nd hq] at e19
      obtain ⟨dq, hpq⟩ := Bk.at_ q hq
      refine iteF ⟨_, rfl, bk, CB, dx, _, _, rfl, hb, T.cl, T.nP, bkf_p _ _, _, rfl, tp, _, _, _, rfl, rfl, ht, at_of (j := 0) rfl rfl, pd, V.ref q.2.1, rfl, .inl ⟨psK l, Sum.inl (q.1 : Int), .inl hd, rfl, (ps_val nd hq).symm⟩, ?_⟩
      refine ⟨_, rfl, q.2.1, CP, dq, _, _, rfl, hpq, TP.cl, TP.nF, pf_first _, _, rfl, q.2.1, CP, dq, _, _, rfl, hpq, TP.cl, TP.nE, pf_end _, _, rfl, q.2.1, CP, dq, _, _, rfl, hpq, TP.cl, TP.nC, pf_counts _, (by show 3 ≤ sizeLine; decide), fun p hp => ?_⟩
      exact endA (out := [(q.2.2.from_ : Int), (q.2.2.to : Int), (q.2.2.counts : Int)]) (Gr.refl H) hp B0 hT k (by rw [e19]) (by rw [e19]; rfl)
    · rw [decide_eq_false hin]
      rw [R.none hin] at e19
      refine iteT ⟨(by show 1 ≤ sizeLine; decide), fun p hp => ?_⟩
      exact endA (out := [-2]) (Gr.refl H) hp B0 hT k (by rw [e19]) (by rw [e19]; rfl)
theorem sc_state : FnScope ["book", "told"] ["book", "told"] (defScope sState) := ⟨rfl, rfl, rfl, by decide +kernel, rfl, by decide +kernel, by decide +kernel⟩
theorem ok_state {f : Addr} {fd : FuncData} (F : Fun K "answer_state" "answer_state" sState f fd) (T : BC K CB) (hlen : mg "len" = none) : FnOk P w K mg base CX0 1 f fd ["book", "told"] (spA K CB CP ts 20) := by
  refine F.ok sc_state (fun vs H Q E h => ?_) (fun cdv A outer s H vs Q E hr h => ?_)
  · obtain ⟨bk, tp, tl, s, rfl, _⟩ := h
    rfl
  · obtain ⟨bk, tp, tl, st, rfl, B, ht, hT, hq, -, hst, k⟩ := h
    obtain rfl := asked_20 hq
    clear hq
    obtain ⟨b, rfl⟩ := some_of (by decide) hst
    refine ⟨_, pss_one (ps_ret (pe_lst (pa_cons (pe_callB call_lenD (by rfl) hlen PySem.boot_len (pa_cons (pe_fld (pv 0) rfl) pa_nil)) (pa_cons (pe_fld (pv 0) rfl) pa_nil)))), ?_⟩
    have B0 := B
    obtain ⟨pd, w0, l, Bk, rfl, w1, w2, R, hl, hv⟩ := B
    have nd := Bk.nd
    obtain ⟨dx, hb⟩ := Bk.ins
    have hi : (Kqu5.ids b).length = l.length := by rw [R.ids_eq nd]; exact rising_len l
    have e20 : (stp (some b) 20 []) = (some b, [((l.length : Nat) : Int), (b.windows : Int)]) := by
      show (some b, Kqu5Neutral.tell (.some_ ((Kqu5.ids b).length : Int) [b.windows])) = _
      rw [hi]; rfl
    refine ⟨_, rfl, bk, CB, dx, _, _, rfl, hb, T.cl, T.nP, bkf_p _ _, pd, _, rfl, Bk.dict, _, rfl, bk, CB, dx, _, _, rfl, hb, T.cl, T.nW, bkf_w _ _, (by show 2 ≤ sizeLine; decide), fun p hp => ?_⟩
    rw [List.length_map]
    exact endA (out := [((l.length : Nat) : Int), (b.windows : Int)]) (Gr.refl H) hp B0 hT k (by rw [e20]) (by rw [e20])
end
end Ap

set_option Elab.async false
set_option linter.all false
set_option maxRecDepth 100000
set_option maxHeartbeats 8000000
namespace Ap
open PySem PySem.Spec PyProof.Rows L2
open Kqu5 (Person Book)
open Kqu5Neutral (asked1)
abbrev sWorthy : Stmt := top 48
abbrev sWorth : Stmt := top 49
section
variable {P : Program} {w : World} {K : PySem.W.Frag} {mg : Str → Option Value} {base : Heap} {CB CP : Addr} {ts : List TabRec}
theorem sc_worthy : FnScope ["book", "told", "taken"] ["book", "told"] (defScope sWorthy) := ⟨rfl, rfl, rfl, by decide +kernel, rfl, by decide +kernel, by decide +kernel⟩
theorem ok_worthy {f fT fC : Addr} {fd fdT fdC : FuncData} (F : Fun K "answer_worthy" "answer_worthy" sWorthy f fd) (T : BC K CB) (hs : mg "sorted" = none) (CT : Cal P w K mg base "taken_by_counts" fT fdT ["persons", "windows"] 9 (spTaken CP ts)) (CC : Cal P w K mg base "counted" fC fdC ["persons"] 1 (spCnt CP)) :
    FnOk P w K mg base CX0 10 f fd ["book", "told"] (spA K CB CP ts 13) := by
  refine F.ok sc_worthy (fun vs H Q E h => ?_) (fun cdv A outer s H vs Q E hr h => ?_)
  · obtain ⟨bk, tp, tl, s, rfl, _⟩ := h
    rfl
  · obtain ⟨bk, tp, tl, st, rfl, B, ht, hT, hq, -, hst, k⟩ := h
    obtain rfl := asked_13 hq
    clear hq
    obtain ⟨b, rfl⟩ := some_of (by decide) hst
    have hr1 : Room 1 _ := hr.mono (by decide)
    refine ⟨_, pss_cons (ps_set (i := 2) sc_worthy.nd rfl (Or.inl rfl) (pe_cal CT hr rfl (pa_cons (pe_fld (pv 0) rfl) (pa_cons (pe_fld (pv 0) rfl) pa_nil))))
      (pss_one (ps_ret (pe_op op_cat (pe_lst (pa_cons (pe_cal CC hr1 rfl (pa_cons (pv 2) pa_nil)) pa_nil)) (pe_callB (cr_sortedD rfl) (by rfl) hs bootSorted (pa_cons (pv 2) pa_nil))))), ?_⟩
    have B0 := B
    obtain ⟨pd, w0, l, Bk, rfl, w1, w2, R, hl, hv⟩ := B
    have nd := Bk.nd
    obtain ⟨dx, hb⟩ := Bk.ins
    refine ⟨_, rfl, bk, CB, dx, _, _, rfl, hb, T.cl, T.nP, bkf_p _ _, _, rfl, bk, CB, dx, _, _, rfl, hb, T.cl, T.nW, bkf_w _ _, pd, l, b, b.windows, rfl, Bk.ps, Nat.lt_of_le_of_lt hl (by decide), R, hT, fun H1 tk lt g1 ntk hlt hsub hkeys => ?_⟩
    have ew : Kqu5.worthy b = keys lt := by
      rw [worthy_eq, hkeys, R.ids_eq nd, sorted_congr (byCnt_ord b) (rising_perm (keys l))]
    have hll : lt.length ≤ l.length := by
      have := nodup_len (l := keys lt) (m := keys l) hlt.nd fun x hx => by
        obtain ⟨r, hr, rfl⟩ := List.mem_map.mp hx
        exact List.mem_map.mpr ⟨r, hsub r hr, rfl⟩
      rw [List.length_map, List.length_map] at this
      exact this
    have e13 : (stp (some b) 13 []) = (some b, ((Kqu5.sum ((keys lt).map (Kqu5.counts b)) : Nat) : Int) :: up (Kqu5.rising (keys lt))) := by
      show (some b, Kqu5Neutral.tell (.some_ ((Kqu5.sum ((Kqu5.worthy b).map (Kqu5.counts b)) : Nat) : Int) (Kqu5.rising (Kqu5.worthy b)))) = _
      rw [ew]; rfl
    refine ⟨_, rfl, tk, lt, b, rfl, hlt, by omega, fun r hr => (R.ag nd (hsub r hr)).2.2, fun H2 S2 => ⟨(by show 1 ≤ sizeLine; decide), fun p1 hp1 => ?_⟩⟩
    have g2 : Gr ts H H2 := g1.trans (.same S2)
    have S3 := (Same.refl H2).upd_new (o := .lst [V.int ((Kqu5.sum ((keys lt).map (Kqu5.counts b)) : Nat) : Int)]) hp1
    have hlt3 := (hlt.gr (ts := ts) (Gr.same S2)).gr (ts := ts) (Gr.same S3)
    refine ⟨_, rfl, tk, _, rfl, hlt3.kvs, (by rw [List.length_map]; omega), fun ns p2 hpm hpw hp2 => ?_⟩
    obtain rfl := keys_sorted hpm hpw
    have n12 : p1 ≠ p2 := ne_of_none upd_same hp2
    have hrl := rising_len lt
    refine ⟨p1, p2, _, _, rfl, rfl, by rw [upd_ne n12]; exact upd_same, upd_same, ?_, fun p hp => ?_⟩
    · show 1 + _ ≤ _
      rw [List.length_map, List.length_map]
      exact Nat.le_trans (show 1 + _ ≤ 11 by omega) (by decide)
    · have g3 : Gr ts H _ := (g2.trans (.same S3)).upd (o := .lst ((up (Kqu5.rising (keys lt))).map V.int)) hp2
      exact endA (out := ((Kqu5.sum ((keys lt).map (Kqu5.counts b)) : Nat) : Int) :: up (Kqu5.rising (keys lt))) g3 hp B0 hT k (by rw [e13]) (by rw [e13])
end
/-! ### a set that is told -/
theorem cut_one (xs : List V) : cutV xs (some 1) none = xs.drop 1 := by
  unfold cutV
  have e : HT.sIx xs.length 0 (some 1) = min 1 xs.length := HT.sIx_nat _ _ 1
  rw [e, HT.sIx_none]
  cases xs with
  | nil => rfl
  | cons a t =>
    have : min 1 (a :: t).length = 1 := by rw [List.length_cons]; omega
    rw [this, List.take_of_length_le (by rw [List.length_drop]; omega)]
/-- the person under a number -/
def pick (l : List (Nat × Addr × Person)) (i : Nat) : Option (Nat × Addr × Person) := l.find? fun q => decide (q.1 = i)
theorem pick_key {l : List (Nat × Addr × Person)} {i : Nat} {q : Nat × Addr × Person} (h : pick l i = some q) : q.1 = i ∧ q ∈ l := by
  unfold pick at h
  have h1 := List.find?_some h
  exact ⟨of_decide_eq_true h1, List.mem_of_find?_eq_some h⟩
theorem pick_isSome {l : List (Nat × Addr × Person)} {i : Nat} : (pick l i).isSome = true ↔ i ∈ keys l := find_key
def picks (l : List (Nat × Addr × Person)) (L : List Nat) : List (Nat × Addr × Person) := L.filterMap (pick l)
theorem picks_sub {l : List (Nat × Addr × Person)} {L : List Nat} {q : Nat × Addr × Person} (h : q ∈ picks l L) : q ∈ l := by
  obtain ⟨i, _, hi⟩ := List.mem_filterMap.mp h
  exact (pick_key hi).2
theorem picks_len (l : List (Nat × Addr × Person)) (L : List Nat) : (picks l L).length ≤ L.length := List.length_filterMap_le _ _
theorem picks_keys {l : List (Nat × Addr × Person)} : ∀ {L : List Nat}, (∀ i ∈ L, i ∈ keys l) → keys (picks l L) = L
  | [], _ => rfl
  | i :: L, h => by
    obtain ⟨q, hq⟩ := Option.isSome_iff_exists.mp (pick_isSome.mpr (h i (.head _)))
    have ih := picks_keys (l := l) (L := L) fun j hj => h j (.tail _ hj)
    have e : picks l (i :: L) = q :: picks l L := by unfold picks; rw [List.filterMap_cons, hq]
    rw [e]
    show q.1 :: keys (picks l L) = _
    rw [ih, (pick_key hq).1]
theorem picks_all {l : List (Nat × Addr × Person)} : ∀ {L : List Nat}, (picks l L).length = L.length → ∀ i ∈ L, i ∈ keys l
  | [], _ => fun _ z => nomatch z
  | i :: L, h => by
    cases hq : pick l i with
    | none =>
      have e : picks l (i :: L) = picks l L := by unfold picks; rw [List.filterMap_cons, hq]
      have := picks_len l L
      rw [e, List.length_cons] at h
      omega
    | some q =>
      have e : picks l (i :: L) = q :: picks l L := by unfold picks; rw [List.filterMap_cons, hq]
      rw [e, List.length_cons, List.length_cons] at h
      intro j hj
      rcases List.mem_cons.mp hj with rfl | hj
      · exact pick_isSome.mp (by rw [hq]; rfl)
      · exact picks_all (by omega) j hj
theorem picks_snoc (l : List (Nat × Addr × Person)) (L : List Nat) (i : Nat) : picks l (L ++ [i]) = picks l L ++ (match pick l i with | some q => [q] | none => []) := by
  unfold picks
  rw [List.filterMap_append, List.filterMap_cons, List.filterMap_nil]
  cases pick l i <;> rfl
/-- what dict(..) makes of pairs -/
theorem mergeK_step {acc more : List (Key × V)} {p : Key × V} : mergeK acc (p :: more) = mergeK (putK acc p.1 p.2) more := rfl
theorem putK_len_old {acc : List (Key × V)} {k : Key} {v : V} (h : (acc.any fun kv => decide (kv.1 = k)) = true) : (putK acc k v).length = acc.length := by
  unfold putK
  rw [if_pos h, List.length_map]
theorem mergeK_full : ∀ (more acc : List (Key × V)), (acc.map (·.1)).Nodup → (mergeK acc more).length = acc.length + more.length → ((acc ++ more).map (·.1)).Nodup
  | [], acc, nd, _ => by rw [List.append_nil]; exact nd
  | p :: r, acc, nd, h => by
    rw [mergeK_step] at h
    cases ha : acc.any fun kv => decide (kv.1 = p.1) with
    | true =>
      have h1 := length_mergeK r (putK acc p.1 p.2)
      rw [putK_len_old ha] at h1
      rw [List.length_cons] at h
      omega
    | false =>
      have e : putK acc p.1 p.2 = acc ++ [p] := by unfold putK; rw [ha]; rfl
      have hn : p.1 ∉ acc.map (·.1) := fun z => by
        obtain ⟨q, hq, e⟩ := List.mem_map.mp z
        have : (acc.any fun kv => decide (kv.1 = p.1)) = true := List.any_eq_true.mpr ⟨q, hq, decide_eq_true e⟩
        rw [ha] at this; cases this
      rw [e] at h
      have := mergeK_full r (acc ++ [p]) (by rw [List.map_append]; exact nd_snoc nd hn) (by rw [h, List.length_append, List.length_cons]; show _ = acc.length + 1 + r.length; omega)
      rw [List.append_assoc] at this
      exact this
theorem mergeK_new : ∀ (more acc : List (Key × V)), ((acc ++ more).map (·.1)).Nodup → mergeK acc more = acc ++ more
  | [], acc, _ => by rw [List.append_nil]; rfl
  | p :: r, acc, nd => by
    rw [mergeK_step]
    have hn : (acc.any fun kv => decide (kv.1 = p.1)) = false := by
      rw [List.any_eq_false]
      intro q hq z
      have z := of_decide_eq_true z
      rw [List.map_append] at nd
      exact (List.nodup_append.mp nd).2.2 q.1 (List.mem_map.mpr ⟨q, hq, rfl⟩) p.1 (List.mem_map.mpr ⟨p, .head _, rfl⟩) z
    have e : putK acc p.1 p.2 = acc ++ [p] := by unfold putK; rw [hn]; rfl
    rw [e, mergeK_new r (acc ++ [p]) (by rw [List.append_assoc]; exact nd), List.append_assoc]; rfl
theorem psK_keys_nd {l : List (Nat × Addr × Person)} : ((psK l).map (·.1)).Nodup ↔ (keys l).Nodup := by
  have e : (psK l).map (·.1) = (keys l).map fun n : Nat => (Sum.inl (n : Int) : Key) := by rw [List.map_map, keys, List.map_map]; rfl
  rw [e]
  constructor
  · intro h
    refine (List.pairwise_map.mp h).imp fun {a c} hne z => hne ?_
    rw [z]
  · intro h
    refine List.pairwise_map.mpr (h.imp fun {a c} hne z => hne ?_)
    exact Int.ofNat_inj.mp (Sum.inl.inj z)
/-- fewer are picked than told just if one hasn't asked, or is told twice -/
theorem picked_iff {b : Book} {l : List (Nat × Addr × Person)} (R : RepB b l) (L : List Nat) : (mergeK [] (psK (picks l L))).length < L.length ↔ Kqu5.okSet b L = false := by
  have hle : (mergeK [] (psK (picks l L))).length ≤ (picks l L).length := by
    have := length_mergeK (psK (picks l L)) []
    rw [List.length_map] at this
    simpa using this
  have hpl := picks_len l L
  constructor
  · intro h
    cases e : Kqu5.okSet b L with
    | false => rfl
    | true =>
      obtain ⟨h1, h2⟩ := okSet_iff.mp e
      have hk := picks_keys (l := l) (L := L) fun i hi => (R.mem_ids i).mp (h1 i hi)
      have hn : (([] ++ psK (picks l L) : List (Key × V)).map (·.1)).Nodup := psK_keys_nd.mpr (by rw [hk]; exact h2)
      rw [mergeK_new _ _ hn, List.nil_append, List.length_map] at h
      have := congrArg List.length hk
      rw [List.length_map] at this
      omega
  · intro h
    apply Nat.lt_of_not_le
    intro hge
    have e1 : (picks l L).length = L.length := by omega
    have h1 := picks_all e1
    have hk := picks_keys h1
    have hn := mergeK_full (psK (picks l L)) [] .nil (by rw [List.length_map]; show _ = 0 + _; omega)
    rw [List.nil_append] at hn
    have hn2 := psK_keys_nd.mp hn
    rw [hk] at hn2
    rw [okSet_iff.mpr ⟨fun i hi => (R.mem_ids i).mpr (h1 i hi), hn2⟩] at h
    cases h
theorem picked_ok {b : Book} {l : List (Nat × Addr × Person)} (R : RepB b l) {L : List Nat} (h : Kqu5.okSet b L = true) : mergeK [] (psK (picks l L)) = psK (picks l L) ∧ keys (picks l L) = L ∧ (keys (picks l L)).Nodup := by
  obtain ⟨h1, h2⟩ := okSet_iff.mp h
  have hk := picks_keys (l := l) (L := L) fun i hi => (R.mem_ids i).mp (h1 i hi)
  have hn : (keys (picks l L)).Nodup := by rw [hk]; exact h2
  exact ⟨mergeK_new _ _ (psK_keys_nd.mpr hn), hk, hn⟩
/-- pairs laid: a number and its person -/
def PairsAt (H : Hp) : List Addr → List (Nat × Addr × Person) → Prop := Paired fun a q => H a = some (.tup [.int (q.1 : Nat), .ref q.2.1])
theorem PairsAt.snoc {H : Hp} {a : Addr} {q : Nat × Addr × Person} : ∀ {as : List Addr} {qs : List (Nat × Addr × Person)}, PairsAt H as qs → H a = some (.tup [.int (q.1 : Nat), .ref q.2.1]) → PairsAt H (as ++ [a]) (qs ++ [q])
  | _, _, .nil, e => .cons e .nil
  | _, _, .cons h r, e => .cons h (PairsAt.snoc r e)
theorem PairsAt.kv {K : PySem.W.Frag} {H : Hp} : ∀ {as : List Addr} {qs : List (Nat × Addr × Person)}, PairsAt H as qs → Paired (fun p kv => SqT K H p [kV kv.1, kv.2]) as (psK qs)
  | _, _, .nil => .nil
  | _, _, .cons h r => .cons (SqT.of h) (PairsAt.kv r)
end Ap

set_option Elab.async false
set_option linter.all false
set_option maxRecDepth 100000
set_option maxHeartbeats 8000000
namespace Ap
open PySem PySem.Spec PyProof.Rows L2
open Kqu5 (Person Book)
open Kqu5Neutral (asked1)
theorem pick_nd {l : List (Nat × Addr × Person)} {i : Nat} (h : i ∈ keys l) : ∃ q, pick l i = some q ∧ q ∈ l ∧ q.1 = i := by
  obtain ⟨q, hq⟩ := Option.isSome_iff_exists.mp (pick_isSome.mpr h)
  exact ⟨q, hq, (pick_key hq).2, (pick_key hq).1⟩
theorem pick_no {l : List (Nat × Addr × Person)} {i : Nat} (h : i ∉ keys l) : pick l i = none := by
  cases e : pick l i with
  | none => rfl
  | some q => exact absurd (pick_isSome.mp (by rw [e]; rfl)) h
section
variable {P : Program} {w : World} {K : PySem.W.Frag} {mg : Str → Option Value} {base : Heap} {CB CP : Addr} {ts : List TabRec}
abbrev nWorth : List Str := ["book", "told", "numbers", "picked", "number"]
theorem sc_worth : FnScope nWorth ["book", "told"] (defScope sWorth) := ⟨rfl, rfl, rfl, by decide +kernel, rfl, by decide +kernel, by decide +kernel⟩
theorem ok_worth {f fA fC : Addr} {fd fdA fdC : FuncData} (F : Fun K "answer_worth" "answer_worth" sWorth f fd) (T : BC K CB) (M : Cst mg) (hlen : mg "len" = none) (hdi : mg "dict" = none) (CA : Cal P w K mg base "all_served" fA fdA ["persons", "windows"] 7 (spAllS CP ts)) (CC : Cal P w K mg base "counted" fC fdC ["persons"] 1 (spCnt CP)) :
    FnOk P w K mg base CX0 8 f fd ["book", "told"] (spA K CB CP ts 14) := by
  refine F.ok sc_worth (fun vs H Q E h => ?_) (fun cdv A outer s H vs Q E hr h => ?_)
  · obtain ⟨bk, tp, tl, s, rfl, _⟩ := h
    rfl
  · obtain ⟨bk, tp, tl, st, rfl, B, ht, hT, hq, -, hst, k⟩ := h
    have ec : callC 14 tl = [[14], tl.drop 1] := if_pos rfl
    rw [ec] at hq
    obtain ⟨L, hL⟩ := asked_14 hq
    have hL60 : L.length ≤ 60 := by
      rw [hL] at hq
      have hq : ((up L).all (fun (z : Int) => Kqu5Neutral.natural z 32) && decide ((up L).length ≤ 60)) = true := hq
      rw [Bool.and_eq_true] at hq
      have := of_decide_eq_true hq.2
      rw [List.length_map] at this
      exact this
    clear hq
    obtain ⟨b, rfl⟩ := some_of (by decide) hst
    obtain ⟨t22, m22⟩ := M.c22
    obtain ⟨t33, m33⟩ := M.c33
    have hu := hu_of hr
    have hr1 : Room 1 _ := hr.mono (by decide)
    refine ⟨_, pss_cons (ps_set (i := 2) sc_worth.nd rfl (Or.inl rfl) (pe_slice sl_list (pv 1) (po_some pe_int) po_none))
      (pss_cons (ps_set (i := 3) sc_worth.nd rfl (Or.inl rfl) (pe_callTy (call_dictP rfl) (by rfl) hdi bootDict (pa_cons (pe_lc (own := [("number", 4)]) rfl sc_worth.nd (pi_list (pv 2)) (blkOk_by (by show blkC nWorth (defScope sWorth) _ _ = true; decide +kernel))
        (fun _ _ _ _ _ => pg_name (i := 4) sc_worth.nd rfl (Or.inl rfl))
        (tt := tB (tDIn (tVar 4) (tFld K (tVar 0) "persons"))) (fun _ _ _ _ _ => pts_one (pt_cmp (pc_din hu (pv 4) (pe_fld (pv 0) rfl))))
        (te := tTup (tCons (tVar 4) (tCons (tDGet (tFld K (tVar 0) "persons") (tVar 4)) tNil))) (fun _ _ _ _ _ => pe_tup (pa_cons (pv 4) (pa_cons (pe_dget hu (pe_fld (pv 0) rfl) (pv 4) (fun _ _ => rfl)) pa_nil)))) pa_nil)))
      (pss_cons (ps_if (pt_cmpR op_lt (pe_callB call_lenD (by rfl) hlen PySem.boot_len (pa_cons (pv 3) pa_nil)) (pe_callB call_len_seq (by rfl) hlen PySem.boot_len (pa_cons (pv 2) pa_nil)) (nomark _)) (pss_one (ps_ret (pe_lst (pa_cons (pe_glob (v := .int (-22)) rfl m22 ⟨_, rfl⟩) pa_nil)))) pss_nil)
      (pss_cons (ps_if (pt_not (pt_val (pe_cal CA hr rfl (pa_cons (pv 3) (pa_cons (pe_fld (pv 0) rfl) pa_nil))))) (pss_one (ps_ret (pe_lst (pa_cons (pe_glob (v := .int (-33)) rfl m33 ⟨_, rfl⟩) pa_nil)))) pss_nil)
      (pss_one (ps_ret (pe_lst (pa_cons (pe_cal CC hr1 rfl (pa_cons (pv 3) pa_nil)) pa_nil))))))), ?_⟩
    have B0 := B
    obtain ⟨pd, w0, l, Bk, rfl, w1, w2, R, hl, hv⟩ := B
    have nd := Bk.nd
    have hd := Bk.dict
    obtain ⟨dx, hb⟩ := Bk.ins
    have eL : (up L).map Kqu5Neutral.n = L := by
      rw [up, List.map_map]
      rw [show (Kqu5Neutral.n ∘ fun n : Nat => (n : Int)) = id from funext fun n => rfl, List.map_id]
    have e14 : (stp (some b) 14 tl) = (some b, Kqu5Neutral.tell (if Kqu5.okSet b L = false then .num (-22) else if Kqu5.can b b.windows L = false then .num (-33) else .num ((Kqu5.sum (L.map (Kqu5.counts b)) : Nat) : Int))) := by
      show Kqu5Neutral.step (some b) (callC 14 tl) = _
      rw [ec, hL]
      show (some b, Kqu5Neutral.tell (if Kqu5.okSet b ((up L).map Kqu5Neutral.n) = false then .num (-22) else if Kqu5.can b b.windows ((up L).map Kqu5Neutral.n) = false then .num (-33) else .num ((Kqu5.sum (((up L).map Kqu5Neutral.n).map (Kqu5.counts b)) : Nat) : Int))) = _
      rw [eL]
    have hLl : L.length < sizeLine := Nat.lt_of_le_of_lt hL60 (by decide)
    -- numbers
    refine ⟨_, rfl, _, rfl, tp, _, rfl, ht, fun np hnp => ?_⟩
    rw [show cutV (tl.map V.int) (some 1) none = (up L).map V.int from by rw [cut_one, ← List.map_drop, hL]]
    have S1 := (Same.refl H).upd_new (o := .lst ((up L).map V.int)) hnp
    have hn1 : upd H np (.lst ((up L).map V.int)) np = some (.lst ((up L).map V.int)) := upd_same
    generalize upd H np (.lst ((up L).map V.int)) = H1 at S1 hn1
    -- picked
    refine ⟨_, rfl, np, rfl, ⟨_, SqL.of hn1⟩, fun D hD => ?_⟩
    refine lc_list (K := K) (a := np) (xs := (up L).map V.int) (fun i H' => Same H1 H' ∧ ∃ as : List Addr, H' D = some (.lst (as.map V.ref)) ∧ PairsAt H' as (picks l (L.take i))) ⟨(Same.refl H1).upd_new hD, [], upd_same, .nil⟩ (fun i H' _ e => SqL.of (e.1 _ _ hn1)) (fun i x H2 hx e => ?_) (fun H2 e => ?_)
    · obtain ⟨S2, as, h2D, h2p⟩ := e
      obtain ⟨j, hj, rfl⟩ := up_at hx
      have hb2 := S2 _ _ (S1 _ _ hb)
      have hd2 := S2 _ _ (S1 _ _ hd)
      refine ⟨rfl, ⟨_, rfl, _, rfl, bk, CB, dx, _, _, rfl, hb2, T.cl, T.nP, bkf_p _ _, pd, _, rfl, .inl ⟨psK l, Sum.inl (j : Int), .inl hd2, rfl, rfl⟩, _, rfl, ?_⟩⟩
      rw [ps_isSome]
      by_cases hin : j ∈ keys l
      · rw [decide_eq_true hin]
        obtain ⟨q, hq, hql, rfl⟩ := pick_nd hin
        have hpk : picks l (L.take (i + 1)) = picks l (L.take i) ++ [q] := by rw [take_succ' hj, picks_snoc, hq]
        refine iteT ⟨_, rfl, _, rfl, bk, CB, dx, _, _, rfl, hb2, T.cl, T.nP, bkf_p _ _, _, rfl, pd, V.ref q.2.1, rfl, .inl ⟨psK l, Sum.inl (q.1 : Int), .inl hd2, rfl, (ps_val nd hql).symm⟩, (by show 2 ≤ sizeLine; decide), fun t ht => ?_⟩
        have S3 := (Same.refl H2).upd_new (o := .tup [V.int (q.1 : Int), V.ref q.2.1]) ht
        have nDt : t ≠ D := fun z => by rw [z, h2D] at ht; cases ht
        have kp : ∀ c o, H2 c = some o → c ≠ D → upd (upd H2 t (.tup [V.int (q.1 : Int), V.ref q.2.1])) D (.lst (as.map V.ref ++ [V.ref t])) c = some o := fun c o e hne => by rw [upd_ne hne]; exact S3 c o e
        refine ⟨_, S3 _ _ h2D, ?_, fun c o e => kp c o (S2 c o e) (ne_of_none e hD), as ++ [t], by rw [upd_same, List.map_append]; rfl, ?_⟩
        · rw [List.length_map, Paired.length h2p]
          refine Nat.lt_of_le_of_lt (picks_len l _) ?_
          rw [List.length_take]
          exact Nat.lt_of_le_of_lt (Nat.min_le_right _ _) hLl
        · rw [hpk]
          exact PairsAt.snoc (Paired.mapP h2p fun _ _ e => kp _ _ e (ne_of e h2D (by intro z; cases z))) (by rw [upd_ne nDt]; exact upd_same)
      · rw [decide_eq_false hin]
        have hpk : picks l (L.take (i + 1)) = picks l (L.take i) := by rw [take_succ' hj, picks_snoc, pick_no hin, List.append_nil]
        exact iteF ⟨S2, as, h2D, by rw [hpk]; exact h2p⟩
    · obtain ⟨S2, as, h2D, h2p⟩ := e
      rw [List.length_map, List.length_map, List.take_length] at h2p
      refine ⟨D, as, psK (picks l L), rfl, SqL.of h2D, h2p.kv, fun pk hpk => ?_⟩
      have S3 := (S1.trans S2).trans ((Same.refl H2).upd_new (o := .dK (mergeK [] (psK (picks l L)))) hpk)
      have hpk3 : upd H2 pk (.dK (mergeK [] (psK (picks l L)))) pk = some (.dK (mergeK [] (psK (picks l L)))) := upd_same
      have hn3 : upd H2 pk (.dK (mergeK [] (psK (picks l L)))) np = some (.lst ((up L).map V.int)) := by
        have := S2 _ _ hn1
        rw [upd_ne (ne_of_none this hpk)]; exact this
      generalize upd H2 pk (.dK (mergeK [] (psK (picks l L)))) = H3 at S3 hpk3 hn3
      have g3 : Gr ts H H3 := .same S3
      refine ⟨_, rfl, pk, _, rfl, hpk3, _, rfl, np, _, rfl, .inl (SqL.of hn3), _, _, rfl, rfl, _, rfl, ite2 (fun z => ?_) fun z => ?_⟩
      · have z := of_decide_eq_true z
        rw [List.length_map, List.length_map] at z
        have hno := (picked_iff R L).mp (by omega)
        rw [if_pos hno] at e14
        refine ⟨(by show 1 ≤ sizeLine; decide), fun p hp => ?_⟩
        exact endA (out := [-22]) g3 hp B0 hT k (by rw [e14]) (by rw [e14]; rfl)
      · have hok : Kqu5.okSet b L = true := by
          cases e : Kqu5.okSet b L with
          | true => rfl
          | false =>
            have := (picked_iff R L).mpr e
            exact absurd (decide_eq_true (by rw [List.length_map, List.length_map]; omega)) z
        obtain ⟨em, ek, en⟩ := picked_ok R hok
        rw [if_neg (by rw [hok]; decide)] at e14
        rw [em] at hpk3
        have hPk : PsAt CP H3 pk (picks l L) := ⟨hpk3, en, fun r hr => (Bk.at_ r (picks_sub hr)).gr g3⟩
        have hpl : (picks l L).length < 64 := by
          have := nodup_len (l := keys (picks l L)) (m := keys l) en fun x hx => by
            obtain ⟨r, hr, rfl⟩ := List.mem_map.mp hx
            exact List.mem_map.mpr ⟨r, picks_sub hr, rfl⟩
          rw [List.length_map, List.length_map] at this
          omega
        refine ⟨_, rfl, _, rfl, bk, CB, dx, _, _, rfl, S3 _ _ hb, T.cl, T.nW, bkf_w _ _, pk, picks l L, b, b.windows, rfl, hPk, hpl, g3.tabs hT, fun r hr => R.agr nd r (picks_sub hr), fun H4 g4 => ⟨_, rfl, ?_⟩⟩
        rw [ek]
        have g5 := g3.trans g4
        cases hc : Kqu5.can b b.windows L with
        | false =>
          rw [if_pos hc] at e14
          refine iteT ⟨(by show 1 ≤ sizeLine; decide), fun p hp => ?_⟩
          exact endA (out := [-33]) g5 hp B0 hT k (by rw [e14]) (by rw [e14]; rfl)
        | true =>
          rw [if_neg (by rw [hc]; decide)] at e14
          refine iteF ⟨_, rfl, pk, picks l L, b, rfl, hPk.gr g4, hpl, fun r hr => (R.ag nd (picks_sub hr)).2.2, fun H5 S5 => ⟨(by show 1 ≤ sizeLine; decide), fun p hp => ?_⟩⟩
          rw [ek]
          exact endA (out := [((Kqu5.sum (L.map (Kqu5.counts b)) : Nat) : Int)]) (g5.trans (.same S5)) hp B0 hT k (by rw [e14]) (by rw [e14]; rfl)
end
end Ap

set_option Elab.async false
set_option linter.all false
set_option maxRecDepth 100000
set_option maxHeartbeats 8000000
namespace Ap
open PySem PySem.Spec PyProof.Rows L2
/-! ### what the top has written, read off -/
theorem vals_abs : ∀ {us : List Value} {xs : List V}, us.map absV = xs.map some → Vals xs us
  | [], [], _ => .nil
  | [], _ :: _, h => by cases h
  | _ :: _, [], h => by cases h
  | u :: us, x :: xs, h => by
    have h1 : absV u = some x := (List.cons.inj h).1
    have h2 : us.map absV = xs.map some := (List.cons.inj h).2
    refine .cons ?_ (vals_abs h2)
    cases u <;> cases h1 <;> first | rfl | exact ⟨_, rfl⟩
theorem tup_K {K : PySem.W.Frag} {a : Addr} {od : Option Addr} {its : Array Value} {n : Nat} {sl : Array (Option Value)} {xs : List V} (h : K.lookup a = some ⟨.type "tuple", od, .seq its n, sl⟩) (e : its.toList.map absV = xs.map some) (hz : its.size ≤ sizeLine) (H : Hp) : SqT K H a xs :=
  .inr ⟨_, its, n, h, rfl, rfl, hz, vals_abs e⟩
/-- the keys of a dict of whole numbers, each with its hash -/
def intKeys : List DictEntry → Option (List (Key × Value))
  | [] => some []
  | e :: r => match e.key with
    | .int i _ => if e.hash = hashInt i then (intKeys r).map ((Sum.inl i, e.val) :: ·) else none
    | _ => none
theorem intKeys_ok {P : Program} {w : World} : ∀ {es : List DictEntry} {vs : List (Key × Value)}, intKeys es = some vs → (∀ e ∈ es, ∃ k, (mixKind P w).is k e.key = true ∧ e.hash = (mixKind P w).hash k) ∧ Pairs (mixKind P w) es vs
  | [], vs, h => by cases h; exact ⟨(fun _ z => nomatch z), .nil⟩
  | e :: r, vs, h => by
    unfold intKeys at h
    cases hk : e.key with
    | int i t =>
      rw [hk] at h
      dsimp only at h
      by_cases hh : e.hash = hashInt i
      · rw [if_pos hh] at h
        obtain ⟨ws, hw, rfl⟩ := Option.map_eq_some_iff.mp h
        obtain ⟨h1, h2⟩ := intKeys_ok (P := P) (w := w) hw
        have hi : (mixKind P w).is (Sum.inl i) e.key = true := by rw [hk]; exact mixKind_int P w i t
        refine ⟨fun e' he' => ?_, .cons hi rfl h2⟩
        rcases List.mem_cons.mp he' with rfl | he'
        · exact ⟨_, hi, hh⟩
        · exact h1 e' he'
      · rw [if_neg hh] at h; cases h
    | _ => rw [hk] at h; cases h
theorem kv_abs : ∀ {vs : List (Key × Value)} {kvs : List (Key × V)}, vs.map (fun p => (p.1, absV p.2)) = kvs.map (fun p => (p.1, some p.2)) → KV kvs vs
  | [], [], _ => .nil
  | [], _ :: _, h => by cases h
  | _ :: _, [], h => by cases h
  | v :: vs, x :: xs, h => by
    have h1 := (List.cons.inj h).1
    have h2 := (List.cons.inj h).2
    have a1 : v.1 = x.1 := congrArg Prod.fst h1
    have a2 : absV v.2 = some x.2 := congrArg Prod.snd h1
    refine .cons ⟨a1.symm, ?_⟩ (kv_abs h2)
    have := vals_abs (us := [v.2]) (xs := [x.2]) (by rw [List.map_cons, a2]; rfl)
    cases this with
    | cons r _ => exact r
theorem kdict_K {P : Program} {w : World} {K : PySem.W.Frag} {a : Addr} {es : Array DictEntry} {ep : Nat} {vs : List (Key × Value)} {kvs : List (Key × V)} (h : K.lookup a = some ⟨.type "dict", none, .dict es ep, #[]⟩) (ha : (a == sysModules) = false) (hv : intKeys es.toList = some vs)
    (hn : (vs.map (·.1)).Nodup) (hk : vs.map (fun p => (p.1, absV p.2)) = kvs.map (fun p => (p.1, some p.2))) : KDict P w K a kvs := by
  obtain ⟨h1, h2⟩ := intKeys_ok (P := P) (w := w) hv
  exact ⟨ha, _, es, ep, vs, h, ⟨rfl, rfl, rfl⟩, rfl, fun e he => h1 e (Array.mem_toList_iff.mpr he), h2, hn, kv_abs hk⟩
/-- a def of the top, its facts as they are read off -/
theorem cal_mk {P : Program} {w : World} {K : PySem.W.Frag} {mg : Str → Option Value} {base h : Heap} {x : Str} {st : Stmt} {f : Addr} {fd : FuncData} {ps : List Str} {k : Nat} {sp : Sp} (X : K.In h) (G : h.Ns mainGlobals mg) (a : PySem.W.nsIn K mainGlobals x = some (some (.ref f))) (F : Fun K x x st f fd) (b : Binds K fd ps [])
    (ok : FnOk P w K mg base CX0 k f fd ps sp) : Cal P w K mg base x f fd ps k sp := ⟨ok, PySem.W.mg_of X G a, F.kp, b⟩
end Ap

set_option Elab.async false
set_option linter.all false
set_option maxRecDepth 100000
set_option maxHeartbeats 8000000
namespace Ap
open PySem PySem.Spec PyProof.Rows L2
open PySem.W (CodeHd)
open Kqu5 (Person Book)
/-- a def of the top: where it stands, what it is, how its arguments bind -/
def Fact (K : PySem.W.Frag) (x : Str) (st : Stmt) (ps : List Str) : Prop := ∃ (f : Addr) (fd : FuncData), PySem.W.nsIn K mainGlobals x = some (some (.ref f)) ∧ Fun K x x st f fd ∧ Binds K fd ps []
theorem fact_mk {K : PySem.W.Frag} {x : Str} {st : Stmt} {ps : List Str} {f : Addr} {oc : Value} {od an : Option Addr} {osl : Array (Option Value)} {kV doc pm cdv ct : Value} (a : PySem.W.nsIn K mainGlobals x = some (some (.ref f)))
    (l : K.lookup f = some ⟨oc, od, .func (PySem.W.fnOf x x (defArgs st) (defBody st) (defScope st) .none kV doc pm an cdv ct), osl⟩) (c : PySem.W.codeIn K cdv x = true) (k : PySem.W.keepIn K (.ref f) = true)
    (b : ∀ (kV doc pm : Value) (an : Option Addr) (cdv ct : Value) (us : List Value), us.length = ps.length → bindArgs (PySem.W.fnOf x x (defArgs st) (defBody st) (defScope st) .none kV doc pm an cdv ct) ⟨us, []⟩ = pure (ps.zip us)) : Fact K x st ps :=
  ⟨f, _, a, fun_mk l c k, (fun_mk l c k).binds b⟩
/-- a def within which a lambda is laid -/
def FactC (K : PySem.W.Frag) (x : Str) (st : Stmt) (ps : List Str) (c : Addr) : Prop := ∃ (f : Addr) (fd : FuncData), PySem.W.nsIn K mainGlobals x = some (some (.ref f)) ∧ FunC K x x st f fd c ∧ Binds K fd ps []
theorem factC_mk {K : PySem.W.Frag} {x : Str} {st : Stmt} {ps : List Str} {f c : Addr} {oc : Value} {od an : Option Addr} {osl : Array (Option Value)} {kV doc pm ct : Value} (a : PySem.W.nsIn K mainGlobals x = some (some (.ref f)))
    (l : K.lookup f = some ⟨oc, od, .func (PySem.W.fnOf x x (defArgs st) (defBody st) (defScope st) .none kV doc pm an (.ref c) ct), osl⟩) (cd : PySem.W.codeIn K (.ref c) x = true) (k : PySem.W.keepIn K (.ref f) = true)
    (b : ∀ (kV doc pm : Value) (an : Option Addr) (cdv ct : Value) (us : List Value), us.length = ps.length → bindArgs (PySem.W.fnOf x x (defArgs st) (defBody st) (defScope st) .none kV doc pm an cdv ct) ⟨us, []⟩ = pure (ps.zip us)) : FactC K x st ps c :=
  ⟨f, _, a, ⟨⟨oc, od, kV, doc, pm, an, ct, osl, rfl, l, cd⟩, k⟩, (fun_mk l cd k).binds b⟩
/-- a class of the top with its __init__ -/
def FactK (K : PySem.W.Frag) (x qual : Str) (st : Stmt) (ps fs : List Str) (C : Addr) : Prop := ∃ (fI : Addr) (fdI : FuncData), PySem.W.nsIn K mainGlobals x = some (some (.ref C)) ∧ Fun K "__init__" qual st fI fdI ∧ Binds K fdI ps [] ∧ Mk K C fI ∧ Cls K C ∧ ∀ y ∈ fs, NoAttr K C y
theorem factK_mk {K : PySem.W.Frag} {x qual : Str} {st : Stmt} {ps fs : List Str} {C f : Addr} {oc : Value} {od an : Option Addr} {osl : Array (Option Value)} {kV doc pm cdv ct : Value} (a : PySem.W.nsIn K mainGlobals x = some (some (.ref C))) (i : PySem.W.findIn K (.ref C) "__init__" = some (some (.ref f))) (i1 : PySem.W.isFn K (.ref f) = true)
    (l : K.lookup f = some ⟨oc, od, .func (PySem.W.fnOf "__init__" qual (defArgs st) (defBody st) (defScope st) .none kV doc pm an cdv ct), osl⟩) (c : PySem.W.codeIn K cdv qual = true) (k : PySem.W.keepIn K (.ref f) = true)
    (pg : PySem.W.plainGet K C Str.empty = true) (hd : PySem.W.hasDictIn K C = true) (po : PySem.W.plainOver K C = true) (sa : PySem.W.findIn K (.ref C) "__setattr__" = some (some (.builtin "object.__setattr__"))) (mk : PySem.W.makesIn K C = true) (kc : PySem.W.keepIn K (.ref C) = true) (nf : ∀ y ∈ fs, NoAttr K C y)
    (b : ∀ (kV doc pm : Value) (an : Option Addr) (cdv ct : Value) (us : List Value), us.length = ps.length → bindArgs (PySem.W.fnOf "__init__" qual (defArgs st) (defBody st) (defScope st) .none kV doc pm an cdv ct) ⟨us, []⟩ = pure (ps.zip us)) : FactK K x qual st ps fs C :=
  ⟨f, _, a, fun_mk l c k, (fun_mk l c k).binds b, ⟨mk, i, i1, kc⟩, ⟨pg, hd, po, sa⟩, nf⟩
theorem no3 {K : PySem.W.Frag} {C : Addr} {x y z : Str} (a : PySem.W.findIn K (.ref C) x = some none) (b : PySem.W.findIn K (.ref C) y = some none) (c : PySem.W.findIn K (.ref C) z = some none) : ∀ t ∈ [x, y, z], NoAttr K C t := fun t ht => by
  rcases List.mem_cons.mp ht with rfl | ht
  · exact a
  · rcases List.mem_cons.mp ht with rfl | ht
    · exact b
    · rw [List.mem_singleton.mp ht]; exact c
theorem no2 {K : PySem.W.Frag} {C : Addr} {x y : Str} (a : PySem.W.findIn K (.ref C) x = some none) (b : PySem.W.findIn K (.ref C) y = some none) : ∀ t ∈ [x, y], NoAttr K C t := fun t ht => by
  rcases List.mem_cons.mp ht with rfl | ht
  · exact a
  · rw [List.mem_singleton.mp ht]; exact b

def kvOf (vs : List (Key × Value)) : List (Key × V) := vs.map fun p => (p.1, (absV p.2).getD .non)
theorem kvOf_abs : ∀ {vs : List (Key × Value)}, vs.all (fun p => (absV p.2).isSome) = true → vs.map (fun p => (p.1, absV p.2)) = (kvOf vs).map (fun p => (p.1, some p.2))
  | [], _ => rfl
  | v :: r, h => by
    rw [List.all_cons, Bool.and_eq_true] at h
    obtain ⟨x, hx⟩ := Option.isSome_iff_exists.mp h.1
    have ih := kvOf_abs h.2
    rw [kvOf, List.map_cons, List.map_cons, List.map_cons, hx]
    rw [kvOf] at ih
    rw [ih]; rfl
/-- the entry k of the table is the def x -/
def TabAt (K : PySem.W.Frag) (kvs : List (Key × V)) (k : Int) (x : Str) : Prop := ∃ f, PySem.W.nsIn K mainGlobals x = some (some (.ref f)) ∧ valV kvs (Sum.inl k) = some (V.ref f)
theorem tab_fn {P : Program} {w : World} {K : PySem.W.Frag} {mg : Str → Option Value} {base : Heap} {kvs : List (Key × V)} {k : Int} {x : Str} {st : Stmt} {n m : Nat} {sp : Sp} (t : TabAt K kvs k x) (F : Fact K x st ["book", "told"]) (hn : m ≤ n)
    (ok : ∀ f fd, Fun K x x st f fd → FnOk P w K mg base CX0 m f fd ["book", "told"] sp) : ∃ (f : Addr) (fd : FuncData), valV kvs (Sum.inl k) = some (V.ref f) ∧ PySem.W.keepIn K (.ref f) = true ∧ FnOk P w K mg base CX0 n f fd ["book", "told"] sp ∧ Binds K fd ["book", "told"] [] := by
  obtain ⟨f, a1, a2⟩ := t
  obtain ⟨f', fd, b1, b2, b3⟩ := F
  rw [a1] at b1
  cases b1
  exact ⟨f, fd, a2, b2.kp, (ok f fd b2).mono hn, b3⟩
theorem fact_cal {P : Program} {w : World} {K : PySem.W.Frag} {mg : Str → Option Value} {base : Heap} {x : Str} {st : Stmt} {ps : List Str} {k : Nat} {sp : Sp} (KB : K.In base) (GB : base.Ns mainGlobals mg) (F : Fact K x st ps)
    (ok : ∀ f fd, Fun K x x st f fd → FnOk P w K mg base CX0 k f fd ps sp) : ∃ f fd, Cal P w K mg base x f fd ps k sp := by
  obtain ⟨f, fd, a, b, c⟩ := F
  exact ⟨f, fd, ok f fd b, PySem.W.mg_of KB GB a, b.kp, c⟩
theorem asm_one {P : Program} {w : World} {K : PySem.W.Frag} {mg : Str → Option Value} {base : Heap} {P1 P2 P3 : Addr} {ts : List TabRec} (ht1 : lamNext P1 ∈ ts) (ht2 : lamTaken P2 ∈ ts) (ht3 : lamTight P3 ∈ ts) (KB : K.In base) (GB : base.Ns mainGlobals mg) (BB : BltAt mg base)
    (h_can_come : Fact K "can_come" sCanCome ["person", "slot"])
    (h_plan_of : Fact K "plan_of" sPlanOf ["persons", "windows"])
    (h_all_served : Fact K "all_served" sAllServed ["persons", "windows"])
    (h_all_served_with : Fact K "all_served_with" sAllWith ["persons", "windows", "number", "person"])
    (h_fitting_slots : Fact K "fitting_slots" sFitting ["persons", "windows", "number"])
    (h_counted : Fact K "counted" sCounted ["persons"])
    (h_spans_of : Fact K "spans_of" sSpansOf ["persons"])
    (h_held_by : Fact K "held_by" sHeldBy ["persons", "first", "end"])
    (h_span_needs : Fact K "span_needs" sSpanNeeds ["persons", "span"])
    (h_windows_needed : Fact K "windows_needed" sWindowsNeeded ["persons"])
    (h_windows_fit : Fact K "windows_fit" sWindowsFit ["windows"])
    (h_time_fits : Fact K "time_fits" sTimeFits ["first", "end"])
    (h_least_free_number : Fact K "least_free_number" sLeastFree ["persons"])
    (h_book_plan : Fact K "book_plan" sBookPlan ["book"])
    (h_place_told : Fact K "place_told" sPlaceTold ["served", "number"])
    (h_size_at : Fact K "size_at" sSizeAt ["calls", "place"])
    (h_answer_one : Fact K "answer_one" sOne ["book", "kind", "told"])
    (h_answer_start : Fact K "answer_start" sStart ["book", "told"])
    (h_answer_ask : Fact K "answer_ask" sAsk ["book", "told"])
    (h_answer_drop : Fact K "answer_drop" sDrop ["book", "told"])
    (h_answer_move : Fact K "answer_move" sMove ["book", "told"])
    (h_answer_windows : Fact K "answer_windows" sWindows ["book", "told"])
    (h_answer_plan : Fact K "answer_plan" sAPlan ["book", "told"])
    (h_answer_left : Fact K "answer_left" sLeft ["book", "told"])
    (h_answer_slot : Fact K "answer_slot" sSlot ["book", "told"])
    (h_answer_at : Fact K "answer_at" sAt ["book", "told"])
    (h_answer_can : Fact K "answer_can" sCan ["book", "told"])
    (h_answer_fewest : Fact K "answer_fewest" sFewest ["book", "told"])
    (h_answer_tight : Fact K "answer_tight" sTight ["book", "told"])
    (h_answer_load : Fact K "answer_load" sLoad ["book", "told"])
    (h_answer_worthy : Fact K "answer_worthy" sWorthy ["book", "told"])
    (h_answer_worth : Fact K "answer_worth" sWorth ["book", "told"])
    (h_answer_earliest : Fact K "answer_earliest" sEarliest ["book", "told"])
    (h_answer_latest : Fact K "answer_latest" sLatest ["book", "told"])
    (h_answer_could : Fact K "answer_could" sCould ["book", "told"])
    (h_answer_free : Fact K "answer_free" sFree ["book", "told"])
    (h_answer_look : Fact K "answer_look" sLook ["book", "told"])
    (h_answer_state : Fact K "answer_state" sState ["book", "told"])
    {c1 c2 c3 CP CB : Addr} (h_next : FactC K "next_served" sNextServed ["persons", "served", "slot", "windows"] c1) (hcd1 : CodeHd base c1 P1)
    (h_taken : FactC K "taken_by_counts" sTaken ["persons", "windows"] c2) (hcd2 : CodeHd base c2 P2) (h_tight : FactC K "tightest_span" sTightest ["persons"] c3) (hcd3 : CodeHd base c3 P3)
    (h_P : FactK K "Person" "Person.__init__" sPersonInit ["self", "first", "end", "counts"] ["first", "end", "counts"] CP) (h_B : FactK K "Book" "Book.__init__" sBookInit ["self"] ["windows", "persons"] CB)
    (M : Cst mg) (hs : mg "sorted" = none) (hlen : mg "len" = none) (hrg : mg "range" = none) (hmx : mg "max" = none) (hmn : mg "min" = none) (hsm : mg "sum" = none) (hdi : mg "dict" = none) (h6 : ∃ t, mg "NOBODY" = some (.int (-6) t)) {za ab : Addr} (hz : mg "SIZES" = some (.ref za)) (hzK : ∀ H, SqT K H za (sizesL.map V.int)) {kvs : List (Key × V)} (hab : mg "ANSWERED_BY" = some (.ref ab)) (hK : KDict P w K ab kvs)
    (t0 : TabAt K kvs 0 "answer_start")
    (t1 : TabAt K kvs 1 "answer_ask")
    (t2 : TabAt K kvs 2 "answer_drop")
    (t3 : TabAt K kvs 3 "answer_move")
    (t4 : TabAt K kvs 4 "answer_windows")
    (t5 : TabAt K kvs 5 "answer_plan")
    (t6 : TabAt K kvs 6 "answer_left")
    (t7 : TabAt K kvs 7 "answer_slot")
    (t8 : TabAt K kvs 8 "answer_at")
    (t9 : TabAt K kvs 9 "answer_can")
    (t10 : TabAt K kvs 10 "answer_fewest")
    (t11 : TabAt K kvs 11 "answer_tight")
    (t12 : TabAt K kvs 12 "answer_load")
    (t13 : TabAt K kvs 13 "answer_worthy")
    (t14 : TabAt K kvs 14 "answer_worth")
    (t15 : TabAt K kvs 15 "answer_earliest")
    (t16 : TabAt K kvs 16 "answer_latest")
    (t17 : TabAt K kvs 17 "answer_could")
    (t18 : TabAt K kvs 18 "answer_free")
    (t19 : TabAt K kvs 19 "answer_look")
    (t20 : TabAt K kvs 20 "answer_state")
    : (∃ f fd, Cal P w K mg base "answer_one" f fd ["book", "kind", "told"] 11 (spOneM 20 K CB CP ts)) ∧ (∃ f fd, Cal P w K mg base "size_at" f fd ["calls", "place"] 1 (spSize K)) ∧ ∃ f fd, MkB P w K mg base CB f fd := by
  obtain ⟨fP, fdP, aP, FP, bP, mP, cP, nP⟩ := h_P
  obtain ⟨fB, fdB, aB, FB, bB, mB, cB, nB⟩ := h_B
  have TP : PC K CP := ⟨cP, nP _ (by simp), nP _ (by simp), nP _ (by simp)⟩
  have TB : BC K CB := ⟨cB, nB _ (by simp), nB _ (by simp)⟩
  have MP : MkP P w K mg base CP fP fdP := ⟨mP, ok_pinit FP TP, bP, PySem.W.mg_of KB GB aP⟩
  have MB : MkB P w K mg base CB fB fdB := ⟨mB, ok_binit FB TB, bB, PySem.W.mg_of KB GB aB⟩
  obtain ⟨t40, m40⟩ := M.c40
  obtain ⟨tk4, m4⟩ := M.c4
  obtain ⟨tk6, m6⟩ := h6
  obtain ⟨_, _, CC⟩ := fact_cal (P := P) (w := w) KB GB h_can_come fun _ _ F => ok_cancome F TP
  obtain ⟨fN, fdN, aN, FN, bN⟩ := h_next
  have CN : Cal P w K mg base "next_served" fN fdN ["persons", "served", "slot", "windows"] 5 (spNext CP ts) := ⟨ok_next FN TP hcd1 BB ht1 hs CC, PySem.W.mg_of KB GB aN, FN.kp, bN⟩
  obtain ⟨_, _, CPl⟩ := fact_cal (P := P) (w := w) KB GB h_plan_of fun _ _ F => ok_plan F m40 hrg CN
  obtain ⟨_, _, CBp⟩ := fact_cal (P := P) (w := w) KB GB h_book_plan fun _ _ F => ok_bplan F TB CPl
  obtain ⟨_, _, CAs⟩ := fact_cal (P := P) (w := w) KB GB h_all_served fun _ _ F => ok_alls F hlen CPl
  obtain ⟨_, _, CAw⟩ := fact_cal (P := P) (w := w) KB GB h_all_served_with fun _ _ F => ok_allw F hdi CAs
  obtain ⟨_, _, CFi⟩ := fact_cal (P := P) (w := w) KB GB h_fitting_slots fun _ _ F => ok_fit F TP hrg MP CAw
  obtain ⟨_, _, CCo⟩ := fact_cal (P := P) (w := w) KB GB h_counted fun _ _ F => ok_cnt F TP hsm
  obtain ⟨fK, fdK, aK, FK, bK⟩ := h_taken
  have CTk : Cal P w K mg base "taken_by_counts" fK fdK ["persons", "windows"] 9 (spTaken CP ts) := ⟨ok_taken FK TP hcd2 BB ht2 hs CAw, PySem.W.mg_of KB GB aK, FK.kp, bK⟩
  obtain ⟨_, _, CSp⟩ := fact_cal (P := P) (w := w) KB GB h_spans_of fun _ _ F => ok_spans F TP hs
  obtain ⟨_, _, CH⟩ := fact_cal (P := P) (w := w) KB GB h_held_by fun _ _ F => ok_held F TP hlen
  obtain ⟨_, _, CNe⟩ := fact_cal (P := P) (w := w) KB GB h_span_needs fun _ _ F => ok_needs F CH
  obtain ⟨fG, fdG, aG, FG, bG⟩ := h_tight
  have CTi : Cal P w K mg base "tightest_span" fG fdG ["persons"] 5 (spTight CP ts) := ⟨ok_tst FG hcd3 BB ht3 hmx CSp CNe, PySem.W.mg_of KB GB aG, FG.kp, bG⟩
  obtain ⟨_, _, CFew⟩ := fact_cal (P := P) (w := w) KB GB h_windows_needed fun _ _ F => ok_few F hmx CSp CNe
  obtain ⟨_, _, CW⟩ := fact_cal (P := P) (w := w) KB GB h_windows_fit fun _ _ F => ok_wfit F m4
  obtain ⟨_, _, CT⟩ := fact_cal (P := P) (w := w) KB GB h_time_fits fun _ _ F => ok_tfit F m40
  obtain ⟨_, _, CF⟩ := fact_cal (P := P) (w := w) KB GB h_least_free_number fun _ _ F => ok_free F
  obtain ⟨_, _, CTo⟩ := fact_cal (P := P) (w := w) KB GB h_place_told fun _ _ F => ok_ptold F
  have tab : AnsTab P w K mg base CB CP ts 20 10 kvs := fun k k0 k20 => by
    obtain ⟨i, hi, rfl⟩ := upto20 k0 k20
    exact nat21 (C := fun n => ∃ (f : Addr) (fd : FuncData), valV kvs (Sum.inl (n : Int)) = some (V.ref f) ∧ PySem.W.keepIn K (.ref f) = true ∧ FnOk P w K mg base CX0 10 f fd ["book", "told"] (spA K CB CP ts (n : Int)) ∧ Binds K fd ["book", "told"] [])
      (tab_fn t0 h_answer_start (by decide) fun _ _ F => ok_start F TB M CW)
      (tab_fn t1 h_answer_ask (by decide) fun _ _ F => ok_ask F TB TP M hlen CT CF MP)
      (tab_fn t2 h_answer_drop (by decide) fun _ _ F => ok_drop F TB TP M)
      (tab_fn t3 h_answer_move (by decide) fun _ _ F => ok_move F TB TP M CT MP)
      (tab_fn t4 h_answer_windows (by decide) fun _ _ F => ok_windows F TB M CW)
      (tab_fn t5 h_answer_plan (by decide) fun _ _ F => ok_aplan F TB hlen hs CBp CTo)
      (tab_fn t6 h_answer_left (by decide) fun _ _ F => ok_left F TB hlen hs CBp)
      (tab_fn t7 h_answer_slot (by decide) fun _ _ F => ok_slot F TB M CBp)
      (tab_fn t8 h_answer_at (by decide) fun _ _ F => ok_at F TB M hlen hs CBp)
      (tab_fn t9 h_answer_can (by decide) fun _ _ F => ok_can F TB CAs)
      (tab_fn t10 h_answer_fewest (by decide) fun _ _ F => ok_afew F TB CFew)
      (tab_fn t11 h_answer_tight (by decide) fun _ _ F => ok_tight F TB m6 hlen CTi CNe CH)
      (tab_fn t12 h_answer_load (by decide) fun _ _ F => ok_load F TB M CH)
      (tab_fn t13 h_answer_worthy (by decide) fun _ _ F => ok_worthy F TB hs CTk CCo)
      (tab_fn t14 h_answer_worth (by decide) fun _ _ F => ok_worth F TB M hlen hdi CAs CCo)
      (tab_fn t15 h_answer_earliest (by decide) fun _ _ F => ok_earl F TB M hmn CFi)
      (tab_fn t16 h_answer_latest (by decide) fun _ _ F => ok_late F TB M hmx CFi)
      (tab_fn t17 h_answer_could (by decide) fun _ _ F => ok_could F TB M CT CF MP CAw)
      (tab_fn t18 h_answer_free (by decide) fun _ _ F => ok_afree F TB M hlen CBp)
      (tab_fn t19 h_answer_look (by decide) fun _ _ F => ok_look F TB TP M)
      (tab_fn t20 h_answer_state (by decide) fun _ _ F => ok_state F TB hlen)
      i hi
  exact ⟨fact_cal (P := P) (w := w) KB GB h_answer_one fun _ _ F => ok_one F TB M hab hK (by decide) tab, fact_cal (P := P) (w := w) KB GB h_size_at fun _ _ F => ok_size F M hz hzK, fB, fdB, MB⟩
end Ap

set_option Elab.async false
set_option linter.all false
namespace Ap
open PySem PySem.Spec PyProof.Rows L2
open PySem.W (CodeHd)
theorem code_base {K : PySem.W.Frag} {h base : Heap} {c Pt : Addr} {x : Str} (C : CodeHd h c Pt) (X : K.In h) (XB : K.In base) (hc : PySem.W.codeIn K (.ref c) x = true) : CodeHd base c Pt := by
  obtain ⟨o, r1, r2, r3, r4, r5, r6, r7, r8, e, r⟩ := C
  have : ∃ o', K.lookup c = some o' := by
    unfold PySem.W.codeIn at hc
    dsimp only at hc
    cases hl : K.lookup c with
    | none => rw [hl] at hc; cases hc
    | some o' => exact ⟨o', rfl⟩
  obtain ⟨o', ho⟩ := this
  have e2 := X c o' ho
  rw [e] at e2; cases e2
  exact ⟨o, r1, r2, r3, r4, r5, r6, r7, r8, XB c o ho, r⟩
theorem FactC.code {K : PySem.W.Frag} {x : Str} {st : Stmt} {ps : List Str} {c : Addr} (F : FactC K x st ps c) : PySem.W.codeIn K (.ref c) x = true := by
  obtain ⟨_, _, _, ⟨⟨_, _, _, _, _, _, _, _, _, _, h⟩, _⟩, _⟩ := F
  exact h
theorem ex_int {K : PySem.W.Frag} {x : Str} {v : Int} {t : Tok} (a : PySem.W.nsIn K mainGlobals x = some (some (.int v t))) : ∃ t, PySem.W.nsIn K mainGlobals x = some (some (.int v t)) := ⟨t, a⟩
theorem tab_mk {K : PySem.W.Frag} {kvs : List (Key × V)} {k : Int} {x : Str} {f : Addr} (a : PySem.W.nsIn K mainGlobals x = some (some (.ref f))) (v : valV kvs (Sum.inl k) = some (V.ref f)) : TabAt K kvs k x := ⟨f, a, v⟩
theorem hz_mk {K : PySem.W.Frag} {x : Str} {a : Addr} {od : Option Addr} {its : Array Value} {n : Nat} {sl : Array (Option Value)} {xs : List V} (e : PySem.W.nsIn K mainGlobals x = some (some (.ref a))) (h : K.lookup a = some ⟨.type "tuple", od, .seq its n, sl⟩) (e2 : its.toList.map absV = xs.map some) (hz : its.size ≤ sizeLine) :
    ∃ a, PySem.W.nsIn K mainGlobals x = some (some (.ref a)) ∧ ∀ H, SqT K H a xs := ⟨a, e, tup_K h e2 hz⟩
theorem hab_mk {K : PySem.W.Frag} {x : Str} {a : Addr} {es : Array DictEntry} {ep : Nat} {vs : List (Key × Value)} {R : List (Key × V) → Prop} (e : PySem.W.nsIn K mainGlobals x = some (some (.ref a))) (h : K.lookup a = some ⟨.type "dict", none, .dict es ep, #[]⟩) (ha : (a == sysModules) = false) (hv : intKeys es.toList = some vs)
    (hn : (vs.map (·.1)).Nodup) (ho : vs.all (fun p => (absV p.2).isSome) = true) (r : R (kvOf vs)) : ∃ ab kvs, PySem.W.nsIn K mainGlobals x = some (some (.ref ab)) ∧ (∀ (P : Program) (w : World), KDict P w K ab kvs) ∧ R kvs := ⟨a, kvOf vs, e, fun P w => kdict_K h ha hv hn (kvOf_abs ho), r⟩
theorem lenV1 {P : List Value → Prop} (h : ∀ a, P [a]) : ∀ us : List Value, us.length = 1 → P us
  | [a], _ => h a
theorem lenV2 {P : List Value → Prop} (h : ∀ a b, P [a, b]) : ∀ us : List Value, us.length = 2 → P us
  | [a, b], _ => h a b
theorem lenV3 {P : List Value → Prop} (h : ∀ a b c, P [a, b, c]) : ∀ us : List Value, us.length = 3 → P us
  | [a, b, c], _ => h a b c
theorem lenV4 {P : List Value → Prop} (h : ∀ a b c d, P [a, b, c, d]) : ∀ us : List Value, us.length = 4 → P us
  | [a, b, c, d], _ => h a b c d
end Ap
/-! names that are taken ahead: the head's tactic else lays a twin of each of these written-out parts (the frag, the heap at the end, the view), which the proof can do without and which is some twelve megabytes compiled -/
noncomputable def PySem.W.Fast.tw14722015098605747339 : Nat := 0
noncomputable def PySem.W.Fast.tw13854099420610978756 : Nat := 0
noncomputable def PySem.W.Fast.tw11909663652011225689 : Nat := 0
open PySem PySem.W PyProof.Rows
set_option maxRecDepth 100000 in
set_option maxHeartbeats 0 in
theorem PySem.Challenge.cw_appointments_s01_answers_holds : PySem.Challenge.rw_appointments_s01_answers.Holds := by
  w_on; k_headS; (case hw => exact ⟨[.list [.int 5]], by decide +kernel, by decide +kernel⟩)
  k_fillS
  refine L2.walk_specT (r := PySem.Challenge.rw_appointments_s01_answers) (k := 12) (CX := L2.CX0) (ps := ["calls"]) (Ps := [44, 75, 111]) (sp := fun K _ => Ap.spAll K [Ap.lamNext 44, Ap.lamTaken 75, Ap.lamTight 111]) (by decide +kernel) rfl rfl ⟨rfl, by decide, by decide⟩ (fun w h Y => PySem.W.kIn_of Y) ?F ?S (fun _ _ _ _ z => z)
  case F =>
    intro w mg mb mean fa h Y KX TT hmg
    have G := TT.g
    have h_can_come : Ap.Fact (L2.KOf KX) "can_come" Ap.sCanCome ["person", "slot"] := by
      dsimp only [L2.KOf]
      refine' Ap.fact_mk ?a ?l ?c ?k ?b
      (case a => k_is); (case l => k_is); (case c => k_is); (case k => k_is)
      (case b => exact fun _ _ _ _ _ _ => Ap.lenV2 fun _ _ => rfl)
    have h_next_served : Ap.FactC (L2.KOf KX) "next_served" Ap.sNextServed ["persons", "served", "slot", "windows"] 46 := by
      dsimp only [L2.KOf]
      refine' Ap.factC_mk ?a ?l ?c ?k ?b
      (case a => k_is); (case l => k_is); (case c => k_is); (case k => k_is)
      (case b => exact fun _ _ _ _ _ _ => Ap.lenV4 fun _ _ _ _ => rfl)
    have h_plan_of : Ap.Fact (L2.KOf KX) "plan_of" Ap.sPlanOf ["persons", "windows"] := by
      dsimp only [L2.KOf]
      refine' Ap.fact_mk ?a ?l ?c ?k ?b
      (case a => k_is); (case l => k_is); (case c => k_is); (case k => k_is)
      (case b => exact fun _ _ _ _ _ _ => Ap.lenV2 fun _ _ => rfl)
    have h_all_served : Ap.Fact (L2.KOf KX) "all_served" Ap.sAllServed ["persons", "windows"] := by
      dsimp only [L2.KOf]
      refine' Ap.fact_mk ?a ?l ?c ?k ?b
      (case a => k_is); (case l => k_is); (case c => k_is); (case k => k_is)
      (case b => exact fun _ _ _ _ _ _ => Ap.lenV2 fun _ _ => rfl)
    have h_all_served_with : Ap.Fact (L2.KOf KX) "all_served_with" Ap.sAllWith ["persons", "windows", "number", "person"] := by
      dsimp only [L2.KOf]
      refine' Ap.fact_mk ?a ?l ?c ?k ?b
      (case a => k_is); (case l => k_is); (case c => k_is); (case k => k_is)
      (case b => exact fun _ _ _ _ _ _ => Ap.lenV4 fun _ _ _ _ => rfl)
    have h_fitting_slots : Ap.Fact (L2.KOf KX) "fitting_slots" Ap.sFitting ["persons", "windows", "number"] := by
      dsimp only [L2.KOf]
      refine' Ap.fact_mk ?a ?l ?c ?k ?b
      (case a => k_is); (case l => k_is); (case c => k_is); (case k => k_is)
      (case b => exact fun _ _ _ _ _ _ => Ap.lenV3 fun _ _ _ => rfl)
    have h_taken_by_counts : Ap.FactC (L2.KOf KX) "taken_by_counts" Ap.sTaken ["persons", "windows"] 79 := by
      dsimp only [L2.KOf]
      refine' Ap.factC_mk ?a ?l ?c ?k ?b
      (case a => k_is); (case l => k_is); (case c => k_is); (case k => k_is)
      (case b => exact fun _ _ _ _ _ _ => Ap.lenV2 fun _ _ => rfl)
    have h_counted : Ap.Fact (L2.KOf KX) "counted" Ap.sCounted ["persons"] := by
      dsimp only [L2.KOf]
      refine' Ap.fact_mk ?a ?l ?c ?k ?b
      (case a => k_is); (case l => k_is); (case c => k_is); (case k => k_is)
      (case b => exact fun _ _ _ _ _ _ => Ap.lenV1 fun _ => rfl)
    have h_spans_of : Ap.Fact (L2.KOf KX) "spans_of" Ap.sSpansOf ["persons"] := by
      dsimp only [L2.KOf]
      refine' Ap.fact_mk ?a ?l ?c ?k ?b
      (case a => k_is); (case l => k_is); (case c => k_is); (case k => k_is)
      (case b => exact fun _ _ _ _ _ _ => Ap.lenV1 fun _ => rfl)
    have h_held_by : Ap.Fact (L2.KOf KX) "held_by" Ap.sHeldBy ["persons", "first", "end"] := by
      dsimp only [L2.KOf]
      refine' Ap.fact_mk ?a ?l ?c ?k ?b
      (case a => k_is); (case l => k_is); (case c => k_is); (case k => k_is)
      (case b => exact fun _ _ _ _ _ _ => Ap.lenV3 fun _ _ _ => rfl)
    have h_span_needs : Ap.Fact (L2.KOf KX) "span_needs" Ap.sSpanNeeds ["persons", "span"] := by
      dsimp only [L2.KOf]
      refine' Ap.fact_mk ?a ?l ?c ?k ?b
      (case a => k_is); (case l => k_is); (case c => k_is); (case k => k_is)
      (case b => exact fun _ _ _ _ _ _ => Ap.lenV2 fun _ _ => rfl)
    have h_windows_needed : Ap.Fact (L2.KOf KX) "windows_needed" Ap.sWindowsNeeded ["persons"] := by
      dsimp only [L2.KOf]
      refine' Ap.fact_mk ?a ?l ?c ?k ?b
      (case a => k_is); (case l => k_is); (case c => k_is); (case k => k_is)
      (case b => exact fun _ _ _ _ _ _ => Ap.lenV1 fun _ => rfl)
    have h_tightest_span : Ap.FactC (L2.KOf KX) "tightest_span" Ap.sTightest ["persons"] 115 := by
      dsimp only [L2.KOf]
      refine' Ap.factC_mk ?a ?l ?c ?k ?b
      (case a => k_is); (case l => k_is); (case c => k_is); (case k => k_is)
      (case b => exact fun _ _ _ _ _ _ => Ap.lenV1 fun _ => rfl)
    have h_windows_fit : Ap.Fact (L2.KOf KX) "windows_fit" Ap.sWindowsFit ["windows"] := by
      dsimp only [L2.KOf]
      refine' Ap.fact_mk ?a ?l ?c ?k ?b
      (case a => k_is); (case l => k_is); (case c => k_is); (case k => k_is)
      (case b => exact fun _ _ _ _ _ _ => Ap.lenV1 fun _ => rfl)
    have h_time_fits : Ap.Fact (L2.KOf KX) "time_fits" Ap.sTimeFits ["first", "end"] := by
      dsimp only [L2.KOf]
      refine' Ap.fact_mk ?a ?l ?c ?k ?b
      (case a => k_is); (case l => k_is); (case c => k_is); (case k => k_is)
      (case b => exact fun _ _ _ _ _ _ => Ap.lenV2 fun _ _ => rfl)
    have h_least_free_number : Ap.Fact (L2.KOf KX) "least_free_number" Ap.sLeastFree ["persons"] := by
      dsimp only [L2.KOf]
      refine' Ap.fact_mk ?a ?l ?c ?k ?b
      (case a => k_is); (case l => k_is); (case c => k_is); (case k => k_is)
      (case b => exact fun _ _ _ _ _ _ => Ap.lenV1 fun _ => rfl)
    have h_book_plan : Ap.Fact (L2.KOf KX) "book_plan" Ap.sBookPlan ["book"] := by
      dsimp only [L2.KOf]
      refine' Ap.fact_mk ?a ?l ?c ?k ?b
      (case a => k_is); (case l => k_is); (case c => k_is); (case k => k_is)
      (case b => exact fun _ _ _ _ _ _ => Ap.lenV1 fun _ => rfl)
    have h_answer_start : Ap.Fact (L2.KOf KX) "answer_start" Ap.sStart ["book", "told"] := by
      dsimp only [L2.KOf]
      refine' Ap.fact_mk ?a ?l ?c ?k ?b
      (case a => k_is); (case l => k_is); (case c => k_is); (case k => k_is)
      (case b => exact fun _ _ _ _ _ _ => Ap.lenV2 fun _ _ => rfl)
    have h_answer_ask : Ap.Fact (L2.KOf KX) "answer_ask" Ap.sAsk ["book", "told"] := by
      dsimp only [L2.KOf]
      refine' Ap.fact_mk ?a ?l ?c ?k ?b
      (case a => k_is); (case l => k_is); (case c => k_is); (case k => k_is)
      (case b => exact fun _ _ _ _ _ _ => Ap.lenV2 fun _ _ => rfl)
    have h_answer_drop : Ap.Fact (L2.KOf KX) "answer_drop" Ap.sDrop ["book", "told"] := by
      dsimp only [L2.KOf]
      refine' Ap.fact_mk ?a ?l ?c ?k ?b
      (case a => k_is); (case l => k_is); (case c => k_is); (case k => k_is)
      (case b => exact fun _ _ _ _ _ _ => Ap.lenV2 fun _ _ => rfl)
    have h_answer_move : Ap.Fact (L2.KOf KX) "answer_move" Ap.sMove ["book", "told"] := by
      dsimp only [L2.KOf]
      refine' Ap.fact_mk ?a ?l ?c ?k ?b
      (case a => k_is); (case l => k_is); (case c => k_is); (case k => k_is)
      (case b => exact fun _ _ _ _ _ _ => Ap.lenV2 fun _ _ => rfl)
    have h_answer_windows : Ap.Fact (L2.KOf KX) "answer_windows" Ap.sWindows ["book", "told"] := by
      dsimp only [L2.KOf]
      refine' Ap.fact_mk ?a ?l ?c ?k ?b
      (case a => k_is); (case l => k_is); (case c => k_is); (case k => k_is)
      (case b => exact fun _ _ _ _ _ _ => Ap.lenV2 fun _ _ => rfl)
    have h_place_told : Ap.Fact (L2.KOf KX) "place_told" Ap.sPlaceTold ["served", "number"] := by
      dsimp only [L2.KOf]
      refine' Ap.fact_mk ?a ?l ?c ?k ?b
      (case a => k_is); (case l => k_is); (case c => k_is); (case k => k_is)
      (case b => exact fun _ _ _ _ _ _ => Ap.lenV2 fun _ _ => rfl)
    have h_answer_plan : Ap.Fact (L2.KOf KX) "answer_plan" Ap.sAPlan ["book", "told"] := by
      dsimp only [L2.KOf]
      refine' Ap.fact_mk ?a ?l ?c ?k ?b
      (case a => k_is); (case l => k_is); (case c => k_is); (case k => k_is)
      (case b => exact fun _ _ _ _ _ _ => Ap.lenV2 fun _ _ => rfl)
    have h_answer_left : Ap.Fact (L2.KOf KX) "answer_left" Ap.sLeft ["book", "told"] := by
      dsimp only [L2.KOf]
      refine' Ap.fact_mk ?a ?l ?c ?k ?b
      (case a => k_is); (case l => k_is); (case c => k_is); (case k => k_is)
      (case b => exact fun _ _ _ _ _ _ => Ap.lenV2 fun _ _ => rfl)
    have h_answer_slot : Ap.Fact (L2.KOf KX) "answer_slot" Ap.sSlot ["book", "told"] := by
      dsimp only [L2.KOf]
      refine' Ap.fact_mk ?a ?l ?c ?k ?b
      (case a => k_is); (case l => k_is); (case c => k_is); (case k => k_is)
      (case b => exact fun _ _ _ _ _ _ => Ap.lenV2 fun _ _ => rfl)
    have h_answer_at : Ap.Fact (L2.KOf KX) "answer_at" Ap.sAt ["book", "told"] := by
      dsimp only [L2.KOf]
      refine' Ap.fact_mk ?a ?l ?c ?k ?b
      (case a => k_is); (case l => k_is); (case c => k_is); (case k => k_is)
      (case b => exact fun _ _ _ _ _ _ => Ap.lenV2 fun _ _ => rfl)
    have h_answer_can : Ap.Fact (L2.KOf KX) "answer_can" Ap.sCan ["book", "told"] := by
      dsimp only [L2.KOf]
      refine' Ap.fact_mk ?a ?l ?c ?k ?b
      (case a => k_is); (case l => k_is); (case c => k_is); (case k => k_is)
      (case b => exact fun _ _ _ _ _ _ => Ap.lenV2 fun _ _ => rfl)
    have h_answer_fewest : Ap.Fact (L2.KOf KX) "answer_fewest" Ap.sFewest ["book", "told"] := by
      dsimp only [L2.KOf]
      refine' Ap.fact_mk ?a ?l ?c ?k ?b
      (case a => k_is); (case l => k_is); (case c => k_is); (case k => k_is)
      (case b => exact fun _ _ _ _ _ _ => Ap.lenV2 fun _ _ => rfl)
    have h_answer_tight : Ap.Fact (L2.KOf KX) "answer_tight" Ap.sTight ["book", "told"] := by
      dsimp only [L2.KOf]
      refine' Ap.fact_mk ?a ?l ?c ?k ?b
      (case a => k_is); (case l => k_is); (case c => k_is); (case k => k_is)
      (case b => exact fun _ _ _ _ _ _ => Ap.lenV2 fun _ _ => rfl)
    have h_answer_load : Ap.Fact (L2.KOf KX) "answer_load" Ap.sLoad ["book", "told"] := by
      dsimp only [L2.KOf]
      refine' Ap.fact_mk ?a ?l ?c ?k ?b
      (case a => k_is); (case l => k_is); (case c => k_is); (case k => k_is)
      (case b => exact fun _ _ _ _ _ _ => Ap.lenV2 fun _ _ => rfl)
    have h_answer_worthy : Ap.Fact (L2.KOf KX) "answer_worthy" Ap.sWorthy ["book", "told"] := by
      dsimp only [L2.KOf]
      refine' Ap.fact_mk ?a ?l ?c ?k ?b
      (case a => k_is); (case l => k_is); (case c => k_is); (case k => k_is)
      (case b => exact fun _ _ _ _ _ _ => Ap.lenV2 fun _ _ => rfl)
    have h_answer_worth : Ap.Fact (L2.KOf KX) "answer_worth" Ap.sWorth ["book", "told"] := by
      dsimp only [L2.KOf]
      refine' Ap.fact_mk ?a ?l ?c ?k ?b
      (case a => k_is); (case l => k_is); (case c => k_is); (case k => k_is)
      (case b => exact fun _ _ _ _ _ _ => Ap.lenV2 fun _ _ => rfl)
    have h_answer_earliest : Ap.Fact (L2.KOf KX) "answer_earliest" Ap.sEarliest ["book", "told"] := by
      dsimp only [L2.KOf]
      refine' Ap.fact_mk ?a ?l ?c ?k ?b
      (case a => k_is); (case l => k_is); (case c => k_is); (case k => k_is)
      (case b => exact fun _ _ _ _ _ _ => Ap.lenV2 fun _ _ => rfl)
    have h_answer_latest : Ap.Fact (L2.KOf KX) "answer_latest" Ap.sLatest ["book", "told"] := by
      dsimp only [L2.KOf]
      refine' Ap.fact_mk ?a ?l ?c ?k ?b
      (case a => k_is); (case l => k_is); (case c => k_is); (case k => k_is)
      (case b => exact fun _ _ _ _ _ _ => Ap.lenV2 fun _ _ => rfl)
    have h_answer_could : Ap.Fact (L2.KOf KX) "answer_could" Ap.sCould ["book", "told"] := by
      dsimp only [L2.KOf]
      refine' Ap.fact_mk ?a ?l ?c ?k ?b
      (case a => k_is); (case l => k_is); (case c => k_is); (case k => k_is)
      (case b => exact fun _ _ _ _ _ _ => Ap.lenV2 fun _ _ => rfl)
    have h_answer_free : Ap.Fact (L2.KOf KX) "answer_free" Ap.sFree ["book", "told"] := by
      dsimp only [L2.KOf]
      refine' Ap.fact_mk ?a ?l ?c ?k ?b
      (case a => k_is); (case l => k_is); (case c => k_is); (case k => k_is)
      (case b => exact fun _ _ _ _ _ _ => Ap.lenV2 fun _ _ => rfl)
    have h_answer_look : Ap.Fact (L2.KOf KX) "answer_look" Ap.sLook ["book", "told"] := by
      dsimp only [L2.KOf]
      refine' Ap.fact_mk ?a ?l ?c ?k ?b
      (case a => k_is); (case l => k_is); (case c => k_is); (case k => k_is)
      (case b => exact fun _ _ _ _ _ _ => Ap.lenV2 fun _ _ => rfl)
    have h_answer_state : Ap.Fact (L2.KOf KX) "answer_state" Ap.sState ["book", "told"] := by
      dsimp only [L2.KOf]
      refine' Ap.fact_mk ?a ?l ?c ?k ?b
      (case a => k_is); (case l => k_is); (case c => k_is); (case k => k_is)
      (case b => exact fun _ _ _ _ _ _ => Ap.lenV2 fun _ _ => rfl)
    have h_answer_one : Ap.Fact (L2.KOf KX) "answer_one" Ap.sOne ["book", "kind", "told"] := by
      dsimp only [L2.KOf]
      refine' Ap.fact_mk ?a ?l ?c ?k ?b
      (case a => k_is); (case l => k_is); (case c => k_is); (case k => k_is)
      (case b => exact fun _ _ _ _ _ _ => Ap.lenV3 fun _ _ _ => rfl)
    have h_size_at : Ap.Fact (L2.KOf KX) "size_at" Ap.sSizeAt ["calls", "place"] := by
      dsimp only [L2.KOf]
      refine' Ap.fact_mk ?a ?l ?c ?k ?b
      (case a => k_is); (case l => k_is); (case c => k_is); (case k => k_is)
      (case b => exact fun _ _ _ _ _ _ => Ap.lenV2 fun _ _ => rfl)
    have h_answers : Ap.Fact (L2.KOf KX) "answers" Ap.sAnswers ["calls"] := by
      dsimp only [L2.KOf]
      refine' Ap.fact_mk ?a ?l ?c ?k ?b
      (case a => k_is); (case l => k_is); (case c => k_is); (case k => k_is)
      (case b => exact fun _ _ _ _ _ _ => Ap.lenV1 fun _ => rfl)
    have h_Person : ∃ C, Ap.FactK (L2.KOf KX) "Person" "Person.__init__" Ap.sPersonInit ["self", "first", "end", "counts"] ["first", "end", "counts"] C := by
      dsimp only [L2.KOf]
      refine' ⟨_, Ap.factK_mk ?a ?i ?i1 ?l ?c ?k ?pg ?hd ?po ?sa ?mk ?kc (Ap.no3 ?n1 ?n2 ?n3) ?b⟩
      (case a => k_is); (case i => k_is); (case i1 => k_is); (case l => k_is); (case c => k_is); (case k => k_is); (case pg => k_is); (case hd => k_is); (case po => k_is); (case sa => k_is); (case mk => k_is); (case kc => k_is)
      (case n1 => k_is); (case n2 => k_is); (case n3 => k_is)
      (case b => exact fun _ _ _ _ _ _ => Ap.lenV4 fun _ _ _ _ => rfl)
    have h_Book : ∃ C, Ap.FactK (L2.KOf KX) "Book" "Book.__init__" Ap.sBookInit ["self"] ["windows", "persons"] C := by
      dsimp only [L2.KOf]
      refine' ⟨_, Ap.factK_mk ?a ?i ?i1 ?l ?c ?k ?pg ?hd ?po ?sa ?mk ?kc (Ap.no2 ?n1 ?n2) ?b⟩
      (case a => k_is); (case i => k_is); (case i1 => k_is); (case l => k_is); (case c => k_is); (case k => k_is); (case pg => k_is); (case hd => k_is); (case po => k_is); (case sa => k_is); (case mk => k_is); (case kc => k_is)
      (case n1 => k_is); (case n2 => k_is)
      (case b => exact fun _ _ _ _ _ _ => Ap.lenV1 fun _ => rfl)
    have c2 : ∃ t, nsIn (L2.KOf KX) mainGlobals "NO_SUCH_PERSON" = some (some (.int (-2) t)) := by
      dsimp only [L2.KOf]
      refine' Ap.ex_int ?a
      (case a => k_is)
    have c11 : ∃ t, nsIn (L2.KOf KX) mainGlobals "NOT_STARTED" = some (some (.int (-11) t)) := by
      dsimp only [L2.KOf]
      refine' Ap.ex_int ?a
      (case a => k_is)
    have c22 : ∃ t, nsIn (L2.KOf KX) mainGlobals "NOT_AS_TOLD" = some (some (.int (-22) t)) := by
      dsimp only [L2.KOf]
      refine' Ap.ex_int ?a
      (case a => k_is)
    have c28 : ∃ t, nsIn (L2.KOf KX) mainGlobals "NO_ROOM" = some (some (.int (-28) t)) := by
      dsimp only [L2.KOf]
      refine' Ap.ex_int ?a
      (case a => k_is)
    have c33 : ∃ t, nsIn (L2.KOf KX) mainGlobals "NOT_SERVED" = some (some (.int (-33) t)) := by
      dsimp only [L2.KOf]
      refine' Ap.ex_int ?a
      (case a => k_is)
    have c4 : ∃ t, nsIn (L2.KOf KX) mainGlobals "MOST_WINDOWS" = some (some (.int (4) t)) := by
      dsimp only [L2.KOf]
      refine' Ap.ex_int ?a
      (case a => k_is)
    have c10 : ∃ t, nsIn (L2.KOf KX) mainGlobals "MOST_PERSONS" = some (some (.int (10) t)) := by
      dsimp only [L2.KOf]
      refine' Ap.ex_int ?a
      (case a => k_is)
    have c100 : ∃ t, nsIn (L2.KOf KX) mainGlobals "MOST_COUNTS" = some (some (.int (100) t)) := by
      dsimp only [L2.KOf]
      refine' Ap.ex_int ?a
      (case a => k_is)
    have c0 : ∃ t, nsIn (L2.KOf KX) mainGlobals "START" = some (some (.int (0) t)) := by
      dsimp only [L2.KOf]
      refine' Ap.ex_int ?a
      (case a => k_is)
    have c14 : ∃ t, nsIn (L2.KOf KX) mainGlobals "WORTH" = some (some (.int (14) t)) := by
      dsimp only [L2.KOf]
      refine' Ap.ex_int ?a
      (case a => k_is)
    have c40 : ∃ t, nsIn (L2.KOf KX) mainGlobals "SLOTS" = some (some (.int (40) t)) := by
      dsimp only [L2.KOf]
      refine' Ap.ex_int ?a
      (case a => k_is)
    have c6 : ∃ t, nsIn (L2.KOf KX) mainGlobals "NOBODY" = some (some (.int (-6) t)) := by
      dsimp only [L2.KOf]
      refine' Ap.ex_int ?a
      (case a => k_is)
    have n_sorted : nsIn (L2.KOf KX) mainGlobals "sorted" = some none := by
      dsimp only [L2.KOf]
      k_is
    have n_len : nsIn (L2.KOf KX) mainGlobals "len" = some none := by
      dsimp only [L2.KOf]
      k_is
    have n_range : nsIn (L2.KOf KX) mainGlobals "range" = some none := by
      dsimp only [L2.KOf]
      k_is
    have n_max : nsIn (L2.KOf KX) mainGlobals "max" = some none := by
      dsimp only [L2.KOf]
      k_is
    have n_min : nsIn (L2.KOf KX) mainGlobals "min" = some none := by
      dsimp only [L2.KOf]
      k_is
    have n_sum : nsIn (L2.KOf KX) mainGlobals "sum" = some none := by
      dsimp only [L2.KOf]
      k_is
    have n_dict : nsIn (L2.KOf KX) mainGlobals "dict" = some none := by
      dsimp only [L2.KOf]
      k_is
    have hz : ∃ za, nsIn (L2.KOf KX) mainGlobals "SIZES" = some (some (.ref za)) ∧ ∀ H, L2.SqT (L2.KOf KX) H za (Ap.sizesL.map L2.V.int) := by
      dsimp only [L2.KOf]
      refine' Ap.hz_mk ?a ?l ?e ?z
      (case a => k_is); (case l => k_is)
      (case e => exact rfl)
      (case z => exact Nat.le_of_ble_eq_true rfl)
    have hab : ∃ ab kvs, nsIn (L2.KOf KX) mainGlobals "ANSWERED_BY" = some (some (.ref ab)) ∧ (∀ (P : Program) (w : World), L2.KDict P w (L2.KOf KX) ab kvs) ∧ Ap.TabAt (L2.KOf KX) kvs 0 "answer_start" ∧ Ap.TabAt (L2.KOf KX) kvs 1 "answer_ask" ∧ Ap.TabAt (L2.KOf KX) kvs 2 "answer_drop" ∧ Ap.TabAt (L2.KOf KX) kvs 3 "answer_move" ∧ Ap.TabAt (L2.KOf KX) kvs 4 "answer_windows" ∧ Ap.TabAt (L2.KOf KX) kvs 5 "answer_plan" ∧ Ap.TabAt (L2.KOf KX) kvs 6 "answer_left" ∧ Ap.TabAt (L2.KOf KX) kvs 7 "answer_slot" ∧ Ap.TabAt (L2.KOf KX) kvs 8 "answer_at" ∧ Ap.TabAt (L2.KOf KX) kvs 9 "answer_can" ∧ Ap.TabAt (L2.KOf KX) kvs 10 "answer_fewest" ∧ Ap.TabAt (L2.KOf KX) kvs 11 "answer_tight" ∧ Ap.TabAt (L2.KOf KX) kvs 12 "answer_load" ∧ Ap.TabAt (L2.KOf KX) kvs 13 "answer_worthy" ∧ Ap.TabAt (L2.KOf KX) kvs 14 "answer_worth" ∧ Ap.TabAt (L2.KOf KX) kvs 15 "answer_earliest" ∧ Ap.TabAt (L2.KOf KX) kvs 16 "answer_latest" ∧ Ap.TabAt (L2.KOf KX) kvs 17 "answer_could" ∧ Ap.TabAt (L2.KOf KX) kvs 18 "answer_free" ∧ Ap.TabAt (L2.KOf KX) kvs 19 "answer_look" ∧ Ap.TabAt (L2.KOf KX) kvs 20 "answer_state" := by
      dsimp only [L2.KOf]
      refine' Ap.hab_mk (R := fun kvs => Ap.TabAt _ kvs 0 "answer_start" ∧ Ap.TabAt _ kvs 1 "answer_ask" ∧ Ap.TabAt _ kvs 2 "answer_drop" ∧ Ap.TabAt _ kvs 3 "answer_move" ∧ Ap.TabAt _ kvs 4 "answer_windows" ∧ Ap.TabAt _ kvs 5 "answer_plan" ∧ Ap.TabAt _ kvs 6 "answer_left" ∧ Ap.TabAt _ kvs 7 "answer_slot" ∧ Ap.TabAt _ kvs 8 "answer_at" ∧ Ap.TabAt _ kvs 9 "answer_can" ∧ Ap.TabAt _ kvs 10 "answer_fewest" ∧ Ap.TabAt _ kvs 11 "answer_tight" ∧ Ap.TabAt _ kvs 12 "answer_load" ∧ Ap.TabAt _ kvs 13 "answer_worthy" ∧ Ap.TabAt _ kvs 14 "answer_worth" ∧ Ap.TabAt _ kvs 15 "answer_earliest" ∧ Ap.TabAt _ kvs 16 "answer_latest" ∧ Ap.TabAt _ kvs 17 "answer_could" ∧ Ap.TabAt _ kvs 18 "answer_free" ∧ Ap.TabAt _ kvs 19 "answer_look" ∧ Ap.TabAt _ kvs 20 "answer_state") ?a ?l ?s ?i ?n ?o ⟨Ap.tab_mk ?t0 ?v0, Ap.tab_mk ?t1 ?v1, Ap.tab_mk ?t2 ?v2, Ap.tab_mk ?t3 ?v3, Ap.tab_mk ?t4 ?v4, Ap.tab_mk ?t5 ?v5, Ap.tab_mk ?t6 ?v6, Ap.tab_mk ?t7 ?v7, Ap.tab_mk ?t8 ?v8, Ap.tab_mk ?t9 ?v9, Ap.tab_mk ?t10 ?v10, Ap.tab_mk ?t11 ?v11, Ap.tab_mk ?t12 ?v12, Ap.tab_mk ?t13 ?v13, Ap.tab_mk ?t14 ?v14, Ap.tab_mk ?t15 ?v15, Ap.tab_mk ?t16 ?v16, Ap.tab_mk ?t17 ?v17, Ap.tab_mk ?t18 ?v18, Ap.tab_mk ?t19 ?v19, Ap.tab_mk ?t20 ?v20⟩
      (case a => k_is); (case l => k_is)
      (case i => exact rfl)
      (case s => exact rfl)
      (case n => decide +kernel)
      (case o => exact rfl)
      (case t0 => k_is); (case v0 => exact rfl)
      (case t1 => k_is); (case v1 => exact rfl)
      (case t2 => k_is); (case v2 => exact rfl)
      (case t3 => k_is); (case v3 => exact rfl)
      (case t4 => k_is); (case v4 => exact rfl)
      (case t5 => k_is); (case v5 => exact rfl)
      (case t6 => k_is); (case v6 => exact rfl)
      (case t7 => k_is); (case v7 => exact rfl)
      (case t8 => k_is); (case v8 => exact rfl)
      (case t9 => k_is); (case v9 => exact rfl)
      (case t10 => k_is); (case v10 => exact rfl)
      (case t11 => k_is); (case v11 => exact rfl)
      (case t12 => k_is); (case v12 => exact rfl)
      (case t13 => k_is); (case v13 => exact rfl)
      (case t14 => k_is); (case v14 => exact rfl)
      (case t15 => k_is); (case v15 => exact rfl)
      (case t16 => k_is); (case v16 => exact rfl)
      (case t17 => k_is); (case v17 => exact rfl)
      (case t18 => k_is); (case v18 => exact rfl)
      (case t19 => k_is); (case v19 => exact rfl)
      (case t20 => k_is); (case v20 => exact rfl)
    have tb_next_served := tab_of (x := PySem.Str.ofString "next_served") (c := 46) (P := 44) TT KX rfl (by kernel_rfl)
    have tb_taken_by_counts := tab_of (x := PySem.Str.ofString "taken_by_counts") (c := 79) (P := 75) TT KX rfl (by kernel_rfl)
    have tb_tightest_span := tab_of (x := PySem.Str.ofString "tightest_span") (c := 115) (P := 111) TT KX rfl (by kernel_rfl)
    obtain ⟨CP, h_P⟩ := h_Person
    obtain ⟨CB, h_B⟩ := h_Book
    obtain ⟨za, hz1, hz2⟩ := hz
    obtain ⟨ab, kvs, hab1, hab2, t0, t1, t2, t3, t4, t5, t6, t7, t8, t9, t10, t11, t12, t13, t14, t15, t16, t17, t18, t19, t20⟩ := hab
    obtain ⟨fA, fdA, aA, FA, bA⟩ := h_answers
    have e0 := hmg.symm.trans (mg_of KX G aA)
    cases e0
    have in3 : ∀ p, p ∈ [44, 75, 111] → p = 44 ∨ p = 75 ∨ p = 111 := fun p hp => by simpa using hp
    refine ⟨fdA, fun s us hu => ?_, fun p hp => ?_, fun p hp => ?_, fun base KB GB BB => ?_⟩
    · obtain ⟨_, _, kV, doc, pm, an, cdv, ct, _, rfl, _, _⟩ := FA.ex
      exact Ap.lenV1 (P := fun us => BindsTo _ _ ⟨us, []⟩ _) (fun _ => .of_eq rfl) us hu
    · rcases in3 p hp with rfl | rfl | rfl
      · exact ⟨_, tb_next_served⟩
      · exact ⟨_, tb_taken_by_counts⟩
      · exact ⟨_, tb_tightest_span⟩
    · rcases in3 p hp with rfl | rfl | rfl
      · rfl
      · rfl
      · rfl
    · have M : Ap.Cst mg := ⟨c2.imp fun _ e => mg_of KB GB e, c11.imp fun _ e => mg_of KB GB e, c22.imp fun _ e => mg_of KB GB e, c28.imp fun _ e => mg_of KB GB e, c33.imp fun _ e => mg_of KB GB e, c4.imp fun _ e => mg_of KB GB e, c10.imp fun _ e => mg_of KB GB e, c100.imp fun _ e => mg_of KB GB e, c0.imp fun _ e => mg_of KB GB e, c14.imp fun _ e => mg_of KB GB e, c40.imp fun _ e => mg_of KB GB e⟩
      have A1 := Ap.asm_one (P := PySem.Challenge.rw_appointments_s01_answers.prog) (w := w) (P1 := 44) (P2 := 75) (P3 := 111) (ts := [Ap.lamNext 44, Ap.lamTaken 75, Ap.lamTight 111]) (by simp) (by simp) (by simp) KB GB BB h_can_come h_plan_of h_all_served h_all_served_with h_fitting_slots h_counted h_spans_of h_held_by h_span_needs h_windows_needed h_windows_fit h_time_fits h_least_free_number h_book_plan h_place_told h_size_at h_answer_one h_answer_start h_answer_ask h_answer_drop h_answer_move h_answer_windows h_answer_plan h_answer_left h_answer_slot h_answer_at h_answer_can h_answer_fewest h_answer_tight h_answer_load h_answer_worthy h_answer_worth h_answer_earliest h_answer_latest h_answer_could h_answer_free h_answer_look h_answer_state
        h_next_served (Ap.code_base tb_next_served.1 KX KB h_next_served.code) h_taken_by_counts (Ap.code_base tb_taken_by_counts.1 KX KB h_taken_by_counts.code) h_tightest_span (Ap.code_base tb_tightest_span.1 KX KB h_tightest_span.code) h_P h_B M (mg_none_of KB GB n_sorted) (mg_none_of KB GB n_len) (mg_none_of KB GB n_range) (mg_none_of KB GB n_max) (mg_none_of KB GB n_min) (mg_none_of KB GB n_sum) (mg_none_of KB GB n_dict) (c6.imp fun _ e => mg_of KB GB e) (mg_of KB GB hz1) hz2 (mg_of KB GB hab1) (hab2 _ _) t0 t1 t2 t3 t4 t5 t6 t7 t8 t9 t10 t11 t12 t13 t14 t15 t16 t17 t18 t19 t20
      obtain ⟨⟨fO, fdO, CO⟩, ⟨fS, fdS, CS⟩, fI, fdI, MB⟩ := A1
      exact Ap.ok_answers (by decide) FA (mg_none_of KB GB n_len) MB CS CO
  case S =>
    intro K H xs a hO hwi hask hx
    cases hx with
    | cons h1 h2 =>
      cases h2
      cases h1 with
      | lst hs ha =>
        have e := L2.ints_dw a.1 _ ha
        subst e
        have q : ((Codec.inLen 0 15000 a.1 && a.1.all (Codec.inInt 0 4294967295)) && true) = true := hwi
        rw [Bool.and_eq_true, Bool.and_eq_true] at q
        have hT : L2.Tabs [Ap.lamNext 44, Ap.lamTaken 75, Ap.lamTight 111] H := by
          refine ⟨by simp, fun t ht => ?_⟩
          have hP : t.P ∈ [44, 75, 111] := by
            have ht : t = Ap.lamNext 44 ∨ t = Ap.lamTaken 75 ∨ t = Ap.lamTight 111 := by simpa using ht
            rcases ht with rfl | rfl | rfl <;> simp
          rcases hO t.P with ⟨_, z⟩ | ⟨_, _, _, z⟩ | ⟨z, _⟩
          · exact absurd hP z
          · exact absurd hP z
          · exact ⟨#[], z, trivial, .inl rfl⟩
        exact ⟨_, a.1, rfl, hs, (Codec.inNat_iff.mp q.1.1).2, hask, hT, fun H' p hp => .lst (L2.SqL.of hp) (L2.dw_ints _)⟩

