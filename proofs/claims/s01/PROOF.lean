import PyProof.Rows.All
import Wide.All
import OpenK.AllK
import Wide.FinOn
import PyProof.EqAt
import PyProof.EqKinds
import PyProof.TupleCall
import KE.BitLaws
import Open.SpecLaws
import KE.OsHead
import KE.OsGo
import KE.KDictSum
import PyProof.Rows.SortShellAny
import KE.KEqDeep
import PySem.Challenge.RW_takenback_s01_answers
-- Lay
-- CHANGE: your row's module here, as the last of these rows
set_option Elab.async false
set_option linter.all false
set_option maxRecDepth 100000
namespace L2
open PySem PySem.Spec PyProof.Rows

abbrev Key := Sum Int Str
def keyIs : Key → Value → Bool
  | .inl k, v => Value.isInt k v
  | .inr x, v => Value.isStrOf x v
def keyH (w : World) : Key → Int
  | .inl k => hashInt k
  | .inr x => hashStr w x
theorem keyIs_shape : ∀ {k : Key} {v : Value}, keyIs k v = true → (∃ i t, k = Sum.inl i ∧ v = Value.int i t) ∨ (∃ x t, k = Sum.inr x ∧ v = Value.str x t)
  | .inl i, v, h => by
    obtain ⟨t, e⟩ := Value.isInt_shape (k := i) (v := v) h
    exact .inl ⟨i, t, rfl, e⟩
  | .inr x, v, h => by
    obtain ⟨t, e⟩ := Value.isStrOf_shape (x := x) (v := v) h
    exact .inr ⟨x, t, rfl, e⟩
theorem keyIs_int (i : Int) (t : Tok) : keyIs (.inl i) (.int i t) = true := by simp [keyIs, Value.isInt]
theorem keyIs_str (x : Str) (t : Tok) : keyIs (.inr x) (.str x t) = true := by simp [keyIs, Value.isStrOf]
theorem key_ll (a b : Int) : decide ((Sum.inl a : Key) = Sum.inl b) = (a == b) := by
  by_cases e : a = b
  · subst e; simp
  · have h : ¬ (Sum.inl a : Key) = Sum.inl b := fun q => e (Sum.inl.inj q)
    rw [decide_eq_false h]
    exact (beq_eq_false_iff_ne.mpr e).symm
theorem key_rr (a b : Str) : decide ((Sum.inr a : Key) = Sum.inr b) = decide (a = b) := by
  by_cases e : a = b
  · subst e; simp
  · have h : ¬ (Sum.inr a : Key) = Sum.inr b := fun q => e (Sum.inr.inj q)
    rw [decide_eq_false h, decide_eq_false e]
theorem key_lr (a : Int) (b : Str) : decide ((Sum.inl a : Key) = Sum.inr b) = false := decide_eq_false (fun q => nomatch q)
theorem key_rl (a : Str) (b : Int) : decide ((Sum.inr a : Key) = Sum.inl b) = false := decide_eq_false (fun q => nomatch q)

def mixKind (prog : Program) (w : World) : PySem.KeyKind prog w Key where
  is := keyIs
  hash := keyH w
  inj := fun v a b ha hb => by
    rcases keyIs_shape ha with ⟨i, t, rfl, rfl⟩ | ⟨x, t, rfl, rfl⟩
    · rcases keyIs_shape hb with ⟨j, u, rfl, e⟩ | ⟨y, u, rfl, e⟩
      · injection e with e1 _; rw [e1]
      · exact nomatch e
    · rcases keyIs_shape hb with ⟨j, u, rfl, e⟩ | ⟨y, u, rfl, e⟩
      · exact nomatch e
      · injection e with e1 _; rw [e1]
  byValue := fun k v h => by
    rcases keyIs_shape h with ⟨i, t, rfl, rfl⟩ | ⟨x, t, rfl, rfl⟩ <;> rfl
  pyHash := fun hv h => by
    rcases keyIs_shape hv with ⟨i, t, rfl, rfl⟩ | ⟨x, t, rfl, rfl⟩
    · exact wpAny_pyHash_int h
    · exact wpAny_pyHash_str h
  eqBool := fun hu hv h => by
    rcases keyIs_shape hu with ⟨i, t, rfl, rfl⟩ | ⟨x, t, rfl, rfl⟩
    · rcases keyIs_shape hv with ⟨j, u, rfl, rfl⟩ | ⟨y, u, rfl, rfl⟩
      · rw [key_ll] at h; exact wpAny_eqBool_int h
      · rw [key_lr] at h; exact SeqAt.EqAt.int_str i t y u _ _ _ _ h
    · rcases keyIs_shape hv with ⟨j, u, rfl, rfl⟩ | ⟨y, u, rfl, rfl⟩
      · rw [key_rl] at h; exact SeqAt.EqAt.str_int x t j u _ _ _ _ h
      · rw [key_rr] at h; exact wpAny_eqBool_str h
  «strs» := fun k x t v h => by
    rcases keyIs_shape h with ⟨i, u, rfl, e⟩ | ⟨y, u, rfl, e⟩
    · exact nomatch e
    · injection e with e1 _
      subst e1
      cases v <;> rfl

theorem mixKind_int (prog : Program) (w : World) (i : Int) (t : Tok) : (mixKind prog w).is (.inl i) (.int i t) = true := keyIs_int i t
theorem mixKind_str (prog : Program) (w : World) (x : Str) (t : Tok) : (mixKind prog w).is (.inr x) (.str x t) = true := keyIs_str x t
end L2

namespace L2
open PySem PySem.Spec PyProof.Rows

inductive V where
  | non | bl (b : Bool) | int (i : Int) | str (x : Str) | byt (b : Array UInt8) | flt (b : UInt64) | ref (a : Addr) | ty (n : String)
  deriving DecidableEq

def RelV : V → Value → Prop
  | .non, u => u = Value.none
  | .bl b, u => u = Value.bool b
  | .int i, u => ∃ t, u = Value.int i t
  | .str x, u => ∃ t, u = Value.str x t
  | .byt b, u => ∃ t, u = Value.bytes b t
  | .flt b, u => ∃ t, u = Value.float b t
  | .ref a, u => u = Value.ref a
  | .ty n, u => u = Value.type n

abbrev Vals : List V → List Value → Prop := Paired RelV
theorem Vals.length {xs : List V} {us : List Value} (r : Vals xs us) : xs.length = us.length := Paired.length r
theorem Vals.get : ∀ {xs : List V} {us : List Value} {i : Nat} {x : V}, Vals xs us → xs[i]? = some x → ∃ u, us[i]? = some u ∧ RelV x u
  | _, _, _, _, .nil, e => by simp at e
  | _, _, 0, _, .cons r _, e => by simp at e; subst e; exact ⟨_, rfl, r⟩
  | _, _, i + 1, x, .cons _ t, e => by
    obtain ⟨u, h1, h2⟩ := Vals.get (i := i) (x := x) t (by simpa using e)
    exact ⟨u, by simpa using h1, h2⟩
theorem Vals.set {x : V} {u : Value} (r : RelV x u) : ∀ {xs : List V} {us : List Value} (i : Nat), Vals xs us → Vals (xs.set i x) (us.set i u)
  | _, _, _, .nil => .nil
  | _, _, 0, .cons _ t => .cons r t
  | _, _, i + 1, .cons q t => .cons q (Vals.set r i t)
theorem Vals.append : ∀ {xs ys : List V} {us ws : List Value}, Vals xs us → Vals ys ws → Vals (xs ++ ys) (us ++ ws)
  | _, _, _, _, .nil, s => s
  | _, _, _, _, .cons r t, s => .cons r (Vals.append t s)
theorem Vals.take : ∀ {xs : List V} {us : List Value} (n : Nat), Vals xs us → Vals (xs.take n) (us.take n)
  | _, _, 0, _ => .nil
  | _, _, _ + 1, .nil => .nil
  | _, _, n + 1, .cons r t => .cons r (Vals.take n t)
theorem Vals.drop : ∀ {xs : List V} {us : List Value} (n : Nat), Vals xs us → Vals (xs.drop n) (us.drop n)
  | _, _, 0, r => r
  | _, _, _ + 1, .nil => .nil
  | _, _, n + 1, .cons _ t => Vals.drop n t
theorem Vals.none_of : ∀ {xs : List V} {us : List Value} {i : Nat}, Vals xs us → xs[i]? = none → us[i]? = none := fun {xs us i} r e => by
  have h1 := r.length
  have h2 : xs.length ≤ i := List.getElem?_eq_none_iff.mp e
  exact List.getElem?_eq_none_iff.mpr (by omega)

def RelO : Option V → Option Value → Prop
  | some v, some u => RelV v u
  | none, none => True
  | _, _ => False
def KV {κ : Type} : List (κ × V) → List (κ × Value) → Prop := Paired fun (p : κ × V) (q : κ × Value) => p.1 = q.1 ∧ RelV p.2 q.2

def kV : Key → V
  | .inl i => .int i
  | .inr x => .str x

inductive HO where
  /-- a list -/
  | lst (xs : List V)
  /-- a tuple (never changes) -/
  | tup (xs : List V)
  /-- a dict whose keys are ints and texts; one whose keys are tuples of ints and texts (the empty one is both) -/
  | dK (kvs : List (Key × V)) | dT (kvs : List (List Key × V))
  /-- a set of ints: its members, its size -/
  | set (S : Int → Bool) (n : Nat)
  /-- an instance of the class at C, its dict at dx, its attributes -/
  | ins (C dx : Addr) (fs : List (Str × V))
  /-- the dict of the instance at x -/
  | own (x : Addr)
  /-- the dict of an exception -/
  | xd (fs : List (Str × V))
  /-- a bound method, f of x -/
  | met (f x : Addr)
  /-- a range object lo, lo + 1, .. below hi -/
  | rng (lo hi : Int)
  /-- a thing that is known to the object (the script; a dict while a loop walks it): read, never written while it is so -/
  | frz (o : Obj) (u : HO)
  /-- a code object's table -/
  | tbl (ps : Array Value)
  /-- any other thing, by what is true of its one object (a def of one's own: SetO a S n := HO.ext fun h => ..) -/
  | ext (φ : Heap → Prop)

abbrev Hp := Addr → Option HO
def upd (H : Hp) (a : Addr) (o : HO) : Hp := fun b => if b = a then some o else H b
theorem upd_same {H : Hp} {a : Addr} {o : HO} : upd H a o a = some o := by unfold upd; rw [if_pos rfl]
theorem upd_ne {H : Hp} {a b : Addr} {o : HO} (h : b ≠ a) : upd H a o b = H b := by unfold upd; rw [if_neg h]
theorem upd_upd {H : Hp} {a : Addr} {o u : HO} : upd (upd H a o) a u = upd H a u := by
  funext b; unfold upd; split <;> rfl
theorem ne_of {H : Hp} {a b : Addr} {o u : HO} (h : H a = some o) (h' : H b = some u) (d : o ≠ u) : a ≠ b := by
  intro e; subst e; rw [h] at h'; exact d (Option.some.inj h')
theorem ne_of_none {H : Hp} {a b : Addr} {o : HO} (h : H a = some o) (h' : H b = none) : a ≠ b := by
  intro e; subst e; rw [h] at h'; cases h'

section
variable (P : Program) (w : World)
def ObjOk (H : Hp) (h : Heap) (a : Addr) : HO → Prop
  | .lst xs => xs.length ≤ sizeLine ∧ ∃ (its : List Value) (n : Nat), Vals xs its ∧ h.get? a = some { cls := .type "list", data := .seq its.toArray n }
  | .tup xs => xs.length ≤ sizeLine ∧ ∃ its : List Value, Vals xs its ∧ IsTup h a its.toArray
  | .dK kvs => kvs.length ≤ sizeLine ∧ (a == sysModules) = false ∧ ∃ vs, KV kvs vs ∧ h.DictOf (mixKind P w) a vs
  | .dT kvs => kvs.length ≤ sizeLine ∧ (a == sysModules) = false ∧ ∃ xs : List (List Key × Addr × Value),
      Paired (fun (p : List Key × V) (q : List Key × Addr × Value) => p.1 = q.1 ∧ H q.2.1 = some (.tup (p.1.map kV)) ∧ RelV p.2 q.2.2) kvs xs ∧
      ∃ o es ep, h.get? a = some o ∧ o.ExactDict ∧ o.data = .dict es ep ∧ es.toList = xs.map (entryOfKey (tupleKind (mixKind P w))) ∧ (xs.map (·.1)).Nodup
  | .set S n => h.SetOf (intKind P w) a S n
  | .ins C dx fs => H dx = some (.own a) ∧ fs.length ≤ 1000 ∧ dx ≠ a ∧ h.get? a = some (PySem.W.instObj C dx) ∧
      ∃ mA, h.Ns1 dx mA ∧ (∀ f, RelO (fs.lookup f) (mA f)) ∧ PySem.Within mA (fs.map (·.1))
  | .own _ => ∃ o, h.get? a = some o
  | .xd fs => ∃ mA, h.Ns1 a mA ∧ ∀ f, RelO (fs.lookup f) (mA f)
  | .rng lo hi => ∃ t u v, h.get? a = some { cls := .type "range", data := .fields #[.int lo t, .int hi u, .int 1 v] }
  | .frz o u => h.get? a = some o ∧ ObjOk H h a u
  | .tbl ps => h.get? a = some { cls := .none, data := .fields ps }
  | .met f x => h.get? a = some (PySem.W.methodObj (.ref f) (.ref x))
  | .ext φ => φ h ∧ (∃ o, h.get? a = some o) ∧ ∀ h1 h2 : Heap, φ h1 → (∀ o, h1.get? a = some o → h2.get? a = some o) → φ h2
def HOk (H : Hp) (h : Heap) : Prop := ∀ a o, H a = some o → ObjOk P w H h a o
end

section
variable {P : Program} {w : World} {H H' : Hp} {h h' : Heap} {a : Addr} {o : HO}
theorem ObjOk.lt (x : ObjOk P w H h a o) : a < h.objs.size := by
  cases o with
  | lst xs => obtain ⟨_, _, _, _, e⟩ := x; exact Heap.lt_size e
  | tup xs => obtain ⟨_, _, _, p⟩ := x; exact p.lt
  | dK kvs => obtain ⟨_, _, _, _, o, _, _, e, _⟩ := x; exact Heap.lt_size e
  | dT kvs => obtain ⟨_, _, _, _, o, _, _, e, _⟩ := x; exact Heap.lt_size e
  | set S n => obtain ⟨o, _, _, _, e, _⟩ := x; exact Heap.lt_size e
  | ins C dx fs => obtain ⟨_, _, _, e, _⟩ := x; exact Heap.lt_size e
  | own y => obtain ⟨_, e⟩ := x; exact Heap.lt_size e
  | xd fs => obtain ⟨_, ⟨_, _, _, e, _⟩, _⟩ := x; exact Heap.lt_size e
  | rng lo hi => obtain ⟨_, _, _, e⟩ := x; exact Heap.lt_size e
  | frz ob u => obtain ⟨e, _⟩ := x; exact Heap.lt_size e
  | tbl ps => exact Heap.lt_size (show h.get? a = some _ from x)
  | met f y => exact Heap.lt_size (show h.get? a = some _ from x)
  | ext φ => obtain ⟨_, ⟨_, e⟩, _⟩ := x; exact Heap.lt_size e
theorem Paired.mapP {α β : Type} {F G : α → β → Prop} : ∀ {l₁ : List α} {l₂ : List β}, Paired F l₁ l₂ → (∀ a b, F a b → G a b) → Paired G l₁ l₂
  | _, _, .nil, _ => .nil
  | _, _, .cons r t, f => .cons (f _ _ r) (Paired.mapP t f)
theorem ObjOk.stay (x : ObjOk P w H h a o) (k : ∀ b u, (b = a ∨ H b = some (.own a)) → h.get? b = some u → h'.get? b = some u)
    (ho : ∀ b, H b = some (.own a) → H' b = some (.own a)) (ht : ∀ b xs, H b = some (.tup xs) → H' b = some (.tup xs)) : ObjOk P w H' h' a o := by
  induction o with
  | lst xs => obtain ⟨z, its, n, r, e⟩ := x; exact ⟨z, its, n, r, k _ _ (.inl rfl) e⟩
  | tup xs => obtain ⟨z, its, r, ob, e, c⟩ := x; exact ⟨z, its, r, ob, k _ _ (.inl rfl) e, c⟩
  | dK kvs => obtain ⟨z, y, vs, r, ob, es, ep, e, c⟩ := x; exact ⟨z, y, vs, r, ob, es, ep, k _ _ (.inl rfl) e, c⟩
  | dT kvs =>
    obtain ⟨z, y, xs, r, ob, es, ep, e, c⟩ := x
    exact ⟨z, y, xs, Paired.mapP r fun p q z => ⟨z.1, ht _ _ z.2.1, z.2.2⟩, ob, es, ep, k _ _ (.inl rfl) e, c⟩
  | set S n => obtain ⟨ob, es, ep, t, e, c⟩ := x; exact ⟨ob, es, ep, t, k _ _ (.inl rfl) e, c⟩
  | ins C dx fs =>
    obtain ⟨d, z, ne, e, mA, ⟨od, es, ep, e2, c⟩, r⟩ := x
    exact ⟨ho _ d, z, ne, k _ _ (.inl rfl) e, mA, ⟨od, es, ep, k _ _ (.inr d) e2, c⟩, r⟩
  | own y => obtain ⟨ob, e⟩ := x; exact ⟨ob, k _ _ (.inl rfl) e⟩
  | xd fs => obtain ⟨mA, ⟨od, es, ep, e, c⟩, r⟩ := x; exact ⟨mA, ⟨od, es, ep, k _ _ (.inl rfl) e, c⟩, r⟩
  | rng lo hi => obtain ⟨t, u, v, e⟩ := x; exact ⟨t, u, v, k _ _ (.inl rfl) e⟩
  | frz ob u ih => obtain ⟨e, q⟩ := x; exact ⟨k _ _ (.inl rfl) e, ih q⟩
  | tbl ps =>
    have e : h.get? a = some { cls := .none, data := .fields ps } := x
    show h'.get? a = some { cls := .none, data := .fields ps }
    exact k a _ (.inl rfl) e
  | met f y =>
    have e : h.get? a = some (PySem.W.methodObj (.ref f) (.ref y)) := x
    show h'.get? a = some (PySem.W.methodObj (.ref f) (.ref y))
    exact k a _ (.inl rfl) e
  | ext φ => obtain ⟨p, ⟨o, e⟩, st⟩ := x; exact ⟨st _ _ p fun o q => k _ _ (.inl rfl) q, ⟨o, k _ _ (.inl rfl) e⟩, st⟩
theorem HOk.lt (x : HOk P w H h) (e : H a = some o) : a < h.objs.size := (x a o e).lt
theorem HOk.fresh (x : HOk P w H h) (e : h.objs.size ≤ a) : H a = none := by
  cases q : H a with
  | none => rfl
  | some u => exact absurd (Nat.lt_of_lt_of_le (x.lt q) e) (Nat.lt_irrefl _)
theorem HOk.kept (x : HOk P w H h) (k : ∀ b u, h.get? b = some u → h'.get? b = some u) : HOk P w H h' := fun a o e =>
  (x a o e).stay (fun b u _ q => k b u q) (fun _ q => q) fun _ _ q => q
theorem HOk.laid (x : HOk P w H h) (k : ∀ b u, h.get? b = some u → h'.get? b = some u) (hp : h.objs.size ≤ a) (new : ObjOk P w (upd H a o) h' a o) : HOk P w (upd H a o) h' := fun b u e => by
  have hn := x.fresh hp
  by_cases hb : b = a
  · subst hb; rw [upd_same] at e; cases e; exact new
  · rw [upd_ne hb] at e
    exact (x b u e).stay (fun c v _ q => k c v q) (fun c q => by rw [upd_ne (ne_of_none q hn)]; exact q) fun c xs q => by rw [upd_ne (ne_of_none q hn)]; exact q
end

def Rd (H : Hp) (a : Addr) (u : HO) : Prop := H a = some u ∨ ∃ o, H a = some (.frz o u)
theorem Rd.of {H : Hp} {a : Addr} {u : HO} (h : H a = some u) : Rd H a u := .inl h
theorem Rd.ok {P : Program} {w : World} {H : Hp} {h : Heap} {a : Addr} {u : HO} (r : Rd H a u) (x : HOk P w H h) : ObjOk P w H h a u := by
  rcases r with r | ⟨o, r⟩
  · exact x a u r
  · obtain ⟨_, q⟩ := x a _ r
    exact q
def Mut : Option HO → Prop
  | some (.lst _) => True
  | some (.dK _) => True
  | some (.dT _) => True
  | some (.set _ _) => True
  | some (.ins _ _ _) => True
  | some (.ext _) => True
  | _ => False
section
variable {P : Program} {w : World} {H : Hp} {h h' : Heap} {x e : Addr} {o' : HO}
theorem HOk.write (ok : HOk P w H h) (mu : Mut (H x)) (he : e = x ∨ H e = some (.own x)) (k : ∀ b u, b ≠ e → h.get? b = some u → h'.get? b = some u) (heo : ∃ u, h'.get? e = some u)
    (new : ObjOk P w (upd H x o') h' x o') : HOk P w (upd H x o') h' := fun b u q => by
  have nown : ∀ c y, H c = some (.own y) → c ≠ x := fun c y r z => by subst z; rw [r] at mu; exact mu
  have ntup : ∀ c xs, H c = some (.tup xs) → c ≠ x := fun c xs r z => by subst z; rw [r] at mu; exact mu
  by_cases hb : b = x
  · subst hb; rw [upd_same] at q; cases q; exact new
  · rw [upd_ne hb] at q
    by_cases hbe : b = e
    · have q' : H b = some (.own x) := by
        rcases he with z | z
        · exact absurd (hbe.trans z) hb
        · rw [hbe]; exact z
      rw [q] at q'; cases q'
      obtain ⟨v, hv⟩ := heo
      exact ⟨v, by rw [hbe]; exact hv⟩
    · refine (ok b u q).stay (fun c v hc r => k c v ?_ r) (fun c r => by rw [upd_ne (nown c b r)]; exact r) fun c xs r => by rw [upd_ne (ntup c xs r)]; exact r
      rcases hc with rfl | hc
      · exact hbe
      · rintro rfl
        rcases he with z | z
        · exact nown c b hc z
        · rw [hc] at z; cases z; exact hb rfl
end

structure Un (fs ex : List Addr) (H H' : Hp) (h h' : Heap) : Prop where
  keep : ∀ b o, h.get? b = some o → H b = none → b ∉ fs → b ∉ ex → h'.get? b = some o
  slot : ∀ b o, h.get? b = some o → H b = none → b ∈ fs → b ∉ ex → ∃ sl, h'.get? b = some { o with slots := sl }
  free : ∀ b o, h.get? b = some o → H b = none → b ∉ ex → H' b = none
  there : ∀ b o, h.get? b = some o → b ∉ ex → ∃ o', h'.get? b = some o'
  tups : ∀ b xs, H b = some (.tup xs) → H' b = some (.tup xs)
  frzs : ∀ b o u, H b = some (.frz o u) → H' b = some (.frz o u)
  tbls : ∀ b ps, H b = some (.tbl ps) → ∃ more, H' b = some (.tbl (ps ++ more))
section
variable {fs fs' ex ex' : List Addr} {H H1 H2 : Hp} {h h1 h2 h' : Heap} {a x e : Addr} {o : HO}
theorem Un.any (u : Un fs ex H H1 h h1) {b : Addr} {ob : Obj} (q : h.get? b = some ob) (n : H b = none) (hx : b ∉ ex) : ∃ sl, h1.get? b = some { ob with slots := sl } := by
  by_cases hb : b ∈ fs
  · exact u.slot b ob q n hb hx
  · exact ⟨ob.slots, u.keep b ob q n hb hx⟩
theorem Un.trans (a : Un fs ex H H1 h h1) (b : Un fs ex H1 H2 h1 h2) : Un fs ex H H2 h h2 where
  keep := fun c ob q n hc hx => b.keep c ob (a.keep c ob q n hc hx) (a.free c ob q n hx) hc hx
  slot := fun c ob q n hc hx => by
    obtain ⟨sl, e1⟩ := a.slot c ob q n hc hx
    obtain ⟨sl', e2⟩ := b.slot c _ e1 (a.free c ob q n hx) hc hx
    exact ⟨sl', e2⟩
  free := fun c ob q n hx => by
    obtain ⟨o', e1⟩ := a.there c ob q hx
    exact b.free c o' e1 (a.free c ob q n hx) hx
  there := fun c ob q hx => by
    obtain ⟨o', e1⟩ := a.there c ob q hx
    exact b.there c o' e1 hx
  tups := fun c xs q => b.tups c xs (a.tups c xs q)
  frzs := fun c ob xs q => b.frzs c ob xs (a.frzs c ob xs q)
  tbls := fun c ps q => by
    obtain ⟨m1, e1⟩ := a.tbls c ps q
    obtain ⟨m2, e2⟩ := b.tbls c _ e1
    exact ⟨m1 ++ m2, by rw [e2, Array.append_assoc]⟩
theorem Un.kept (k : ∀ b u, h.get? b = some u → h'.get? b = some u) : Un fs ex H H h h' :=
  ⟨fun b ob q _ _ _ => k b ob q, fun b ob q _ _ _ => ⟨ob.slots, k b ob q⟩, fun _ _ _ n _ => n, fun b ob q _ => ⟨ob, k b ob q⟩, fun _ _ q => q, fun _ _ _ q => q, fun _ ps q => ⟨#[], by rw [q]; simp⟩⟩
theorem Un.refl : Un fs ex H H h h := Un.kept fun _ _ q => q
theorem Un.laid (k : ∀ b u, h.get? b = some u → h'.get? b = some u) (hp : h.objs.size ≤ a) (hn : H a = none) : Un fs ex H (upd H a o) h h' where
  keep := fun b u q _ _ _ => k b u q
  slot := fun b u q _ _ _ => ⟨u.slots, k b u q⟩
  free := fun b u q n _ => by rw [upd_ne (Nat.ne_of_lt (Nat.lt_of_lt_of_le (Heap.lt_size q) hp))]; exact n
  there := fun b u q _ => ⟨u, k b u q⟩
  tups := fun b xs q => by rw [upd_ne (ne_of_none q hn)]; exact q
  frzs := fun b u xs q => by rw [upd_ne (ne_of_none q hn)]; exact q
  tbls := fun b ps q => ⟨#[], by rw [upd_ne (ne_of_none q hn), q]; simp⟩
theorem Un.write (mu : Mut (H x)) (he : e = x ∨ H e = some (.own x)) (k : ∀ b u, b ≠ e → h.get? b = some u → h'.get? b = some u) (heo : ∃ u, h'.get? e = some u) : Un fs ex H (upd H x o) h h' := by
  have hx : ∀ b, H b = none → b ≠ x := fun b n z => by subst z; rw [n] at mu; exact mu
  have hb : ∀ b, H b = none → b ≠ e := fun b n z => by
    subst z
    rcases he with r | r
    · exact hx b n r
    · rw [n] at r; cases r
  have hm : ∀ b u, H b = some u → ¬ Mut (some u) → b ≠ x := fun b u q nm z => by subst z; rw [q] at mu; exact nm mu
  refine ⟨fun b u q n _ _ => k b u (hb b n) q, fun b u q n _ _ => ⟨u.slots, k b u (hb b n) q⟩, fun b u q n _ => by rw [upd_ne (hx b n)]; exact n, fun b u q _ => ?_,
    fun b xs q => by rw [upd_ne (hm b _ q fun z => z)]; exact q, fun b u xs q => by rw [upd_ne (hm b _ q fun z => z)]; exact q, fun b ps q => ⟨#[], by rw [upd_ne (hm b _ q fun z => z), q]; simp⟩⟩
  by_cases hbe : b = e
  · subst hbe; exact heo
  · exact ⟨u, k b u hbe q⟩
theorem Un.mono (u : Un fs ex H H1 h h1) (hs : ∀ b ∈ fs, b ∈ fs') (hx : ∀ b ∈ ex, b ∈ ex') : Un fs' ex' H H1 h h1 :=
  ⟨fun b ob q n hb he => u.keep b ob q n (fun z => hb (hs b z)) fun z => he (hx b z), fun _ _ q n _ he => u.any q n fun z => he (hx _ z), fun b ob q n he => u.free b ob q n fun z => he (hx b z), fun b ob q he => u.there b ob q fun z => he (hx b z), u.tups, u.frzs, u.tbls⟩
end

def trk (h : Heap) (H : Hp) : List Addr := (List.range h.objs.size).filter fun a => (H a).isSome
def hidT (h : Heap) (H : Hp) : Heap := PySem.W.hideAll h (trk h H)
theorem hidT_size (h : Heap) (H : Hp) : (hidT h H).objs.size = h.objs.size := PySem.W.hideAll_size _ _
theorem hidT_get {h : Heap} {H : Hp} {b : Addr} {o : Obj} (e : h.get? b = some o) (n : H b = none) : (hidT h H).get? b = some o :=
  PySem.W.hideAll_get _ e fun hm => by
    have q : (H b).isSome = true := (List.mem_filter.mp hm).2
    rw [n] at q; simp at q
theorem of_hidT {h : Heap} {H : Hp} {b : Addr} {o : Obj} (e : (hidT h H).get? b = some o) : h.get? b = some o ∧ H b = none := by
  have e' : h.get? b = some o := PySem.W.of_hideAll (trk h H) e
  refine ⟨e', ?_⟩
  cases q : H b with
  | none => rfl
  | some x =>
    have hm : b ∈ trk h H := List.mem_filter.mpr ⟨List.mem_range.mpr (Heap.lt_size e'), by simp [q]⟩
    have z : (hidT h H).get? b = none := PySem.W.hideAll_none (trk h H) hm
    rw [z] at e; cases e

def allNews (g h : Heap) (L : Addr) : List (Addr × Obj) := (List.range h.objs.size).filterMap fun a => if a = L ∨ (g.get? a).isSome = true then none else (h.get? a).map fun o => (a, o)
def rest (g h : Heap) (L d : Addr) : List (Addr × Obj) := (allNews g h L).filter fun p => decide (p.1 ≠ d)
end L2

namespace L2
open PySem PySem.Spec PyProof.Rows

structure Mod (K : PySem.W.Frag) (mg : Str → Option Value) (base : Heap) : Prop where
  kin : K.In base
  glob : base.Ns mainGlobals mg
  blt : ∃ mb, base.Ns builtinsNs mb ∧ ∀ x : Str, x ≠ "__name__" → mb x = bootBuiltins x
  nolimit : base.NoLimit

structure Cx where
  prog : Program
  w : World
  K : PySem.W.Frag
  mg : Str → Option Value
  base : Heap
  A : Around
  N : List Str
  s_0 : Shared
  H_0 : Hp
  env : Env
  outer : List Env
  stack : List Env
  ex : List Addr
  fn : Str → Bool
  calm : Bool
  pn : List (Addr × Obj)
  xe : Value → Shared → Prop
def frs (l : List Env) : List Addr := l.filterMap (·.frame)
abbrev Cx.fs (X : Cx) : List Addr := frs X.outer

def Vis (sc : Scope) (x : Str) : Prop := sc.names.lookup x = some .local ∨ sc.names.lookup x = some .cell ∨ sc.names.lookup x = some .free
def Loc (sc : Scope) (x : Str) : Prop := sc.names.lookup x = some .local ∨ sc.names.lookup x = some .cell
def Look (env : Env) (h : Heap) (m : Str → Option Value) (x : Str) (u : Value) : Prop :=
  (env.kindOf x = some .local ∧ m x = some u) ∨ ((env.kindOf x = some .cell ∨ env.kindOf x = some .free) ∧ ∃ c, env.cells.lookup x = some c ∧ h.IsCell c (some u))

structure Cx.Ok (X : Cx) : Prop where
  mod : Mod X.K X.mg X.base
  kind : X.env.scope.kind = .function
  glob : X.env.globals = mainGlobals
  blt : X.env.builtins = builtinsNs
  above : X.s_0.heap.objs.size ≤ X.env.locals
  inj : ∀ x y c, X.env.cells.lookup x = some c → X.env.cells.lookup y = some c → x = y
  has : ∀ x, (X.env.kindOf x = some .cell ∨ X.env.kindOf x = some .free) → ∃ c, X.env.cells.lookup x = some c
  cab : ∀ x c, X.fn x = true → X.env.cells.lookup x = some c → X.s_0.heap.objs.size ≤ c
  hd : X.calm = true → X.A.handled = none
  frames : X.A.frames = some X.stack
  stk : X.stack = X.outer ∨ (X.stack = X.env :: X.outer ∧ X.env.frame = some X.env.locals)
  exf : ∀ b ∈ X.ex, b ≠ X.env.locals ∧ ∀ x c, X.env.cells.lookup x = some c → c ≠ b
  bs : ∀ b o, X.base.get? b = some o → X.s_0.heap.get? b = some o ∧ X.H_0 b = none
  bsz : X.base.objs.size ≤ X.s_0.heap.objs.size
  noex : ∀ b o, X.base.get? b = some o → b ∉ X.ex
  exfs : ∀ b ∈ X.ex, b ∉ X.fs
  funs : X.s_0.heap.FunFrames X.base X.outer
  frf : ∀ b ∈ X.fs, X.H_0 b = none

structure Inv (X : Cx) (pins : List (Addr × Obj)) (σ : List (Option V)) (H : Hp) (s : Shared) : Prop where
  ok : X.Ok
  os : s.os = X.s_0.os
  bare : AllBare s.gens
  base : Un X.fs X.ex X.H_0 H X.s_0.heap s.heap
  loc : ∃ m, s.heap.Ns X.env.locals m ∧ ∀ (i : Nat) (x : Str) (v : V), X.N[i]? = some x → σ[i]? = some (some v) → Vis X.env.scope x → ∃ u, RelV v u ∧ Look X.env s.heap m x u
  cell : ∀ x c, X.env.cells.lookup x = some c → ∃ v, s.heap.IsCell c v
  free : H X.env.locals = none
  freeC : ∀ x c, X.env.cells.lookup x = some c → H c = none
  pin : ∀ p ∈ X.pn ++ pins, s.heap.get? p.1 = some p.2 ∧ H p.1 = none ∧ p.1 ≠ X.env.locals ∧ p.1 ∉ X.fs ∧ ∀ v, p.2.data ≠ .cell v
  hok : HOk X.prog X.w H s.heap
  len : σ.length = X.N.length

section
variable {X : Cx} {pins : List (Addr × Obj)} {σ : List (Option V)} {H H' : Hp} {s : Shared} {h' : Heap}

theorem Cx.Ok.nofr (ok : X.Ok) {b : Addr} {o : Obj} (e : X.base.get? b = some o) : b ∉ X.fs := fun hb => by
  have := (ok.funs.mem hb).1
  rw [e] at this; cases this
theorem Inv.bs (I : Inv X pins σ H s) : ∀ b o, X.base.get? b = some o → s.heap.get? b = some o ∧ H b = none := fun b o e =>
  ⟨I.base.keep b o (I.ok.bs b o e).1 (I.ok.bs b o e).2 (I.ok.nofr e) (I.ok.noex b o e), I.base.free b o (I.ok.bs b o e).1 (I.ok.bs b o e).2 (I.ok.noex b o e)⟩
theorem Inv.bk (I : Inv X pins σ H s) : ∀ b o, X.base.get? b = some o → s.heap.get? b = some o := fun b o e => (I.bs b o e).1
theorem Inv.mod (I : Inv X pins σ H s) : Mod X.K X.mg X.base := I.ok.mod
theorem Inv.kIn (I : Inv X pins σ H s) : X.K.In s.heap := I.ok.mod.kin.keeps I.bk
theorem Inv.nolimit (I : Inv X pins σ H s) : s.heap.NoLimit := I.ok.mod.nolimit.keeps I.bk
theorem Inv.fr (I : Inv X pins σ H s) : ∃ m, Fr X.base X.env.locals s.heap m :=
  let ⟨m, hn, _⟩ := I.loc
  ⟨m, hn, I.bk, Nat.le_trans I.ok.bsz I.ok.above⟩
theorem Inv.lt (I : Inv X pins σ H s) : X.env.locals < s.heap.objs.size := let ⟨_, hn, _⟩ := I.loc; hn.lt
theorem Inv.sz (I : Inv X pins σ H s) : X.s_0.heap.objs.size ≤ s.heap.objs.size := Nat.le_trans I.ok.above (Nat.le_of_lt I.lt)
theorem Inv.nofs (I : Inv X pins σ H s) {a : Addr} (h : s.heap.objs.size ≤ a) : a ∉ X.fs := fun hb => by
  obtain ⟨_, o, ho, _⟩ := I.ok.funs.mem hb
  exact absurd (Nat.lt_of_lt_of_le (Heap.lt_size ho) (Nat.le_trans I.sz h)) (Nat.lt_irrefl _)
theorem Inv.cne (I : Inv X pins σ H s) : ∀ x c, X.env.cells.lookup x = some c → c ≠ X.env.locals := fun x c e z => by
  obtain ⟨v, o, ho, hd⟩ := I.cell x c e
  obtain ⟨m, ⟨o', es, ep, ho', hd', _⟩, _⟩ := I.loc
  rw [z, ho'] at ho; cases ho; rw [hd'] at hd; cases hd
theorem Inv.funs (I : Inv X pins σ H s) : s.heap.FunFrames X.base X.outer := by
  have all : ∀ (l : List Env), (∀ b ∈ frs l, b ∈ X.fs) → X.s_0.heap.FunFrames X.base l → s.heap.FunFrames X.base l := by
    intro l
    induction l with
    | nil => intro _ _; trivial
    | cons env r ih =>
      intro hs hl
      obtain ⟨hk, ⟨L, o, hf, hn, ho, hd⟩, hr⟩ := hl
      have hL : L ∈ X.fs := hs L (by unfold frs; rw [List.filterMap_cons, hf]; exact List.mem_cons_self)
      obtain ⟨sl, e⟩ := I.base.slot L o ho (I.ok.frf L hL) hL fun z => I.ok.exfs L z hL
      exact ⟨hk, ⟨L, _, hf, hn, e, hd⟩, ih (fun b hb => hs b (by unfold frs; rw [List.filterMap_cons, hf]; exact List.mem_cons_of_mem _ hb)) hr⟩
  exact all X.outer (fun _ hb => hb) I.ok.funs

theorem Inv.stack (I : Inv X pins σ H s) : s.heap.FunFrames X.base X.stack := by
  rcases I.ok.stk with e | ⟨e, hf⟩
  · rw [e]; exact I.funs
  · rw [e]
    obtain ⟨m, hn, _⟩ := I.loc
    refine .cons (by rw [I.ok.kind]; decide) hf hn ?_ I.funs
    exact Heap.get?_none_of_le (Nat.le_trans I.ok.bsz I.ok.above)
theorem Inv.stkSub (I : Inv X pins σ H s) : ∀ b ∈ frs X.stack, b ∈ X.env.locals :: X.fs := fun b hb => by
  rcases I.ok.stk with e | ⟨e, hf⟩
  · rw [e] at hb; exact List.mem_cons_of_mem _ hb
  · rw [e] at hb
    unfold frs at hb
    rw [List.filterMap_cons, hf] at hb
    exact hb
theorem Inv.stkFree (I : Inv X pins σ H s) : ∀ b ∈ frs X.stack, H b = none := fun b hb => by
  rcases List.mem_cons.mp (I.stkSub b hb) with e | hb
  · rw [e]; exact I.free
  · obtain ⟨_, o, ho, _⟩ := I.ok.funs.mem hb
    exact I.base.free b o ho (I.ok.frf b hb) fun z => I.ok.exfs b z hb

theorem Inv.step {g' : Array GenState} {t' : Nat} {d' : Drawn} {ch : List Addr} (I : Inv X pins σ H s)
    (hch : ∀ b ∈ ch, (b ∈ X.ex ∨ X.s_0.heap.objs.size ≤ b) ∧ b ≠ X.env.locals ∧ (∀ x c, X.env.cells.lookup x = some c → c ≠ b) ∧ ∀ p ∈ X.pn ++ pins, p.1 ≠ b)
    (keep : ∀ b o, b ≠ X.env.locals → b ∉ X.fs → b ∉ ch → s.heap.get? b = some o → H b = none → h'.get? b = some o)
    (slot : ∀ b o, b ≠ X.env.locals → b ∈ X.fs → b ∉ ch → s.heap.get? b = some o → H b = none → ∃ sl, h'.get? b = some { o with slots := sl }) (free : ∀ b o, b ∉ ch → s.heap.get? b = some o → H b = none → H' b = none)
    (there : ∀ b o, b ∉ ch → s.heap.get? b = some o → ∃ o', h'.get? b = some o')
    (tups : ∀ b xs, H b = some (.tup xs) → H' b = some (.tup xs)) (frzs : ∀ b o u, H b = some (.frz o u) → H' b = some (.frz o u)) (tbls : ∀ b ps, H b = some (.tbl ps) → ∃ more, H' b = some (.tbl (ps ++ more)))
    (ns : ∀ m, s.heap.Ns X.env.locals m → h'.Ns X.env.locals m) (hok : HOk X.prog X.w H' h') (hg : AllBare g') :
    Inv X pins σ H' { s with heap := h', gens := g', drawn := d', toks := t' } := by
  have neL : ∀ b o, X.s_0.heap.get? b = some o → b ≠ X.env.locals := fun b o e => Nat.ne_of_lt (Nat.lt_of_lt_of_le (Heap.lt_size e) I.ok.above)
  have neC : ∀ b o, X.s_0.heap.get? b = some o → b ∉ X.ex → b ∉ ch := fun b o e hx hb => by
    rcases (hch b hb).1 with z | z
    · exact hx z
    · exact absurd (Nat.lt_of_lt_of_le (Heap.lt_size e) z) (Nat.lt_irrefl _)
  have cellK : ∀ x c, X.env.cells.lookup x = some c → ∀ v, s.heap.IsCell c v → h'.IsCell c v := fun x c e v ⟨o, ho, hd⟩ => by
    have nch : c ∉ ch := fun z => (hch c z).2.2.1 x c e rfl
    by_cases hc : c ∈ X.fs
    · obtain ⟨sl, q⟩ := slot c o (I.cne x c e) hc nch ho (I.freeC x c e)
      exact ⟨_, q, hd⟩
    · exact ⟨o, keep c o (I.cne x c e) hc nch ho (I.freeC x c e), hd⟩
  refine ⟨I.ok, I.os, hg, ⟨fun b o e n hb hx => ?_, fun b o e n hb hx => ?_, fun b o e n hx => ?_, fun b o e hx => ?_, fun b xs e => tups b xs (I.base.tups b xs e), fun b o xs e => frzs b o xs (I.base.frzs b o xs e), fun b ps e => ?_⟩, ?_, fun x c e => ?_, ?_, fun x c e => ?_, fun p hp => ?_, hok, I.len⟩
  · exact keep b o (neL b o e) hb (neC b o e hx) (I.base.keep b o e n hb hx) (I.base.free b o e n hx)
  · obtain ⟨sl, e1⟩ := I.base.slot b o e n hb hx
    obtain ⟨sl', e2⟩ := slot b _ (neL b o e) hb (neC b o e hx) e1 (I.base.free b o e n hx)
    exact ⟨sl', e2⟩
  · obtain ⟨o', e1⟩ := I.base.there b o e hx
    exact free b o' (neC b o e hx) e1 (I.base.free b o e n hx)
  · obtain ⟨o', e1⟩ := I.base.there b o e hx
    exact there b o' (neC b o e hx) e1
  · obtain ⟨m1, e1⟩ := I.base.tbls b ps e
    obtain ⟨m2, e2⟩ := tbls b _ e1
    exact ⟨m1 ++ m2, by rw [e2, Array.append_assoc]⟩
  · obtain ⟨m, hn, hl⟩ := I.loc
    refine ⟨m, ns m hn, fun i x v e1 e2 e3 => ?_⟩
    obtain ⟨u, r, l⟩ := hl i x v e1 e2 e3
    refine ⟨u, r, ?_⟩
    rcases l with l | ⟨k, c, e, z⟩
    · exact .inl l
    · exact .inr ⟨k, c, e, cellK x c e _ z⟩
  · obtain ⟨v, z⟩ := I.cell x c e
    exact ⟨v, cellK x c e v z⟩
  · obtain ⟨m, ⟨o, _, _, ho, _⟩, _⟩ := I.loc
    exact free _ o (fun z => (hch _ z).2.1 rfl) ho I.free
  · obtain ⟨v, o, ho, hd⟩ := I.cell x c e
    exact free c o (fun z => (hch c z).2.2.1 x c e rfl) ho (I.freeC x c e)
  · obtain ⟨e, n, ne, nf, d⟩ := I.pin p hp
    have nch : p.1 ∉ ch := fun z => (hch p.1 z).2.2.2 p hp rfl
    exact ⟨keep p.1 p.2 ne nf nch e n, free p.1 p.2 nch e n, ne, nf, d⟩
theorem Inv.un {t' : Nat} (I : Inv X pins σ H s) (u : Un X.fs [] H H' s.heap h') (hok : HOk X.prog X.w H' h') : Inv X pins σ H' { s with heap := h', toks := t' } := by
  obtain ⟨m, ⟨o, es, ep, ho, r⟩, _⟩ := id I.loc
  obtain ⟨sl, hL⟩ := u.any ho I.free (by simp)
  exact I.step (g' := s.gens) (d' := s.drawn) (ch := []) (fun _ z => nomatch z) (fun b o _ hb _ e n => u.keep b o e n hb (by simp)) (fun b o _ hb _ e n => u.slot b o e n hb (by simp)) (fun b o _ e n => u.free b o e n (by simp)) (fun b o _ e => u.there b o e (by simp)) u.tups u.frzs u.tbls (fun m' hm => by
    obtain ⟨o', es', ep', ho', r'⟩ := hm
    rw [ho] at ho'; cases ho'
    exact ⟨_, es', ep', hL, r'⟩) hok I.bare
theorem Inv.call {g' : Array GenState} {t' : Nat} {d' : Drawn} {ch : List Addr} (I : Inv X pins σ H s) (u : Un (frs X.stack) ch H H' s.heap h') (hok : HOk X.prog X.w H' h') (hg : AllBare g')
    (hch : ∀ b ∈ ch, (b ∈ X.ex ∨ X.s_0.heap.objs.size ≤ b) ∧ b ≠ X.env.locals ∧ (∀ x c, X.env.cells.lookup x = some c → c ≠ b) ∧ ∀ p ∈ X.pn ++ pins, p.1 ≠ b) :
    Inv X pins σ H' { s with heap := h', gens := g', drawn := d', toks := t' } := by
  obtain ⟨m, ⟨o, es, ep, ho, r⟩, _⟩ := id I.loc
  obtain ⟨sl, hL⟩ := u.any ho I.free fun z => (hch _ z).2.1 rfl
  exact I.step (ch := ch) hch (fun b o hL hb hc e n => u.keep b o e n (fun z => (List.mem_cons.mp (I.stkSub b z)).elim hL hb) hc) (fun b o _ _ hc e n => u.any e n hc) (fun b o hc e n => u.free b o e n hc) (fun b o hc e => u.there b o e hc) u.tups u.frzs u.tbls (fun m' hm => by
    obtain ⟨o', es', ep', ho', r'⟩ := hm
    rw [ho] at ho'; cases ho'
    exact ⟨_, es', ep', hL, r'⟩) hok hg
theorem Inv.turned {t' : Nat} {it : Addr} (I : Inv X pins σ H s) (k : ∀ b o, b ≠ it → s.heap.get? b = some o → h'.get? b = some o) (hn : H it = none) (hL : it ≠ X.env.locals)
    (h1 : it ∈ X.ex ∨ X.s_0.heap.objs.size ≤ it) (h2 : ∀ x c, X.env.cells.lookup x = some c → c ≠ it) (h3 : ∀ p ∈ X.pn ++ pins, p.1 ≠ it) : Inv X pins σ H { s with heap := h', toks := t' } := by
  have nit : ∀ b u, H b = some u → b ≠ it := fun b u e z => by rw [z, hn] at e; cases e
  refine I.step (g' := s.gens) (d' := s.drawn) (ch := [it]) (fun b hb => ?_) (fun b o _ _ hc e _ => k b o (fun z => hc (by simp [z])) e) (fun b o _ _ hc e _ => ⟨o.slots, k b o (fun z => hc (by simp [z])) e⟩) (fun _ _ _ _ n => n)
    (fun b o hc e => ⟨o, k b o (fun z => hc (by simp [z])) e⟩) (fun _ _ e => e) (fun _ _ _ e => e) (fun b ps e => ⟨#[], by rw [e]; simp⟩) (fun m hm => ?_) (fun b u e => ?_) I.bare
  · have e : b = it := by simpa using hb
    subst e
    exact ⟨h1, hL, h2, h3⟩
  · obtain ⟨o, es, ep, ho, r⟩ := hm
    exact ⟨o, es, ep, k _ o (Ne.symm hL) ho, r⟩
  · refine (I.hok b u e).stay (fun c v hc q => k c v ?_ q) (fun _ q => q) fun _ _ q => q
    rcases hc with z | z
    · rw [z]; exact nit b u e
    · exact nit c _ z
theorem Inv.tok (I : Inv X pins σ H s) (t : Nat) : Inv X pins σ H { s with toks := t } := I.un (h' := s.heap) (t' := t) Un.refl I.hok
theorem Inv.kept {t' : Nat} (I : Inv X pins σ H s) (k : ∀ b u, s.heap.get? b = some u → h'.get? b = some u) : Inv X pins σ H { s with heap := h', toks := t' } := I.un (Un.kept k) (I.hok.kept k)
theorem Inv.laid {a : Addr} {o : HO} {t' : Nat} (I : Inv X pins σ H s) (k : ∀ b u, s.heap.get? b = some u → h'.get? b = some u) (hp : s.heap.objs.size ≤ a) (new : ObjOk X.prog X.w (upd H a o) h' a o) :
    Inv X pins σ (upd H a o) { s with heap := h', toks := t' } := I.un (Un.laid k hp (I.hok.fresh hp)) (I.hok.laid k hp new)
theorem Inv.write {x e : Addr} {o : HO} {t' : Nat} (I : Inv X pins σ H s) (mu : Mut (H x)) (he : e = x ∨ H e = some (.own x)) (k : ∀ b u, b ≠ e → s.heap.get? b = some u → h'.get? b = some u) (heo : ∃ u, h'.get? e = some u)
    (new : ObjOk X.prog X.w (upd H x o) h' x o) : Inv X pins σ (upd H x o) { s with heap := h', toks := t' } := I.un (Un.write mu he k heo) (I.hok.write mu he k heo new)
theorem Inv.weak {σ' : List (Option V)} (I : Inv X pins σ H s) (hl : σ'.length = σ.length) (w : ∀ (i : Nat) v, σ'[i]? = some (some v) → σ[i]? = some (some v)) : Inv X pins σ' H s :=
  ⟨I.ok, I.os, I.bare, I.base, let ⟨m, hn, hl'⟩ := I.loc; ⟨m, hn, fun i x v e1 e2 e3 => hl' i x v e1 (w i v e2) e3⟩, I.cell, I.free, I.freeC, I.pin, I.hok, hl.trans I.len⟩
theorem Inv.pins_of {pins' : List (Addr × Obj)} (I : Inv X pins σ H s) (h : ∀ p ∈ pins', s.heap.get? p.1 = some p.2 ∧ H p.1 = none ∧ p.1 ≠ X.env.locals ∧ p.1 ∉ X.fs ∧ ∀ v, p.2.data ≠ .cell v) : Inv X pins' σ H s :=
  ⟨I.ok, I.os, I.bare, I.base, I.loc, I.cell, I.free, I.freeC, fun p hp => (List.mem_append.mp hp).elim (fun z => I.pin p (List.mem_append_left _ z)) (h p), I.hok, I.len⟩

theorem nodup_ix {N : List Str} (hN : N.Nodup) {i j : Nat} {x : Str} (a : N[i]? = some x) (b : N[j]? = some x) : i = j := by
  obtain ⟨h1, e1⟩ := List.getElem?_eq_some_iff.mp a
  obtain ⟨h2, e2⟩ := List.getElem?_eq_some_iff.mp b
  exact (List.getElem_inj hN).mp (e1.trans e2.symm)

theorem store_ok2 {M : Model} {A : Around} {E : Value → Shared → Prop} {i : Nat} {x : Str} {v : V} {u : Value} {Q : Unit → Shared → Prop} (I : Inv X pins σ H s) (hN : X.N.Nodup) (hi : X.N[i]? = some x) (hx : Loc X.env.scope x) (r : RelV v u)
    (h : ∀ s', Inv X pins (σ.set i (some v)) H s' → (∃ a, Heap.SameBut a s.heap s'.heap ∧ (a = X.env.locals ∨ X.env.cells.lookup x = some a)) → Q () s') (hf : X.fn x = true ∨ X.env.scope.names.lookup x = some .local := by first | exact .inl rfl | exact .inr rfl | assumption) : wpAny M A (storeName X.env x u) Q E s := by
  obtain ⟨m, hn, hl⟩ := id I.loc
  have hcls : (X.env.scope.kind == .class || (X.env.scope.kind == .module && X.env.locals != X.env.globals)) = false := by rw [I.ok.kind]; rfl
  have hiσ : i < σ.length := by rw [I.len]; exact (List.getElem?_eq_some_iff.mp hi).1
  have cne := I.cne
  have tracked : ∀ {a : Addr} {h' : Heap}, (∃ o, s.heap.get? a = some o ∧ H a = none) → Heap.SameBut a s.heap h' → HOk X.prog X.w H h' := fun {a h'} ha hs b ob e => by
    obtain ⟨_, _, hfree⟩ := ha
    refine (I.hok b ob e).stay (fun c w' hc q => (hs.2 c ?_).trans q) (fun _ q => q) fun _ _ q => q
    rintro rfl
    rcases hc with rfl | hc
    · rw [hfree] at e; cases e
    · rw [hfree] at hc; cases hc
  rcases hx with hk | hk
  · refine wpAny_storeName_local hk hn (fun h' hn' hs => ?_) hcls
    obtain ⟨oL, _, _, hoL, _⟩ := id hn
    refine h _ ⟨I.ok, I.os, I.bare, ⟨fun b o e n hb hx => ?_, fun b o e n hb hx => ?_, I.base.free, fun b o e hx => ?_, I.base.tups, I.base.frzs, I.base.tbls⟩, ⟨_, hn', fun j y v' e1 e2 e3 => ?_⟩, fun y c e => ?_, I.free, I.freeC, fun p hp => ?_, tracked ⟨oL, hoL, I.free⟩ hs, by simpa using I.len⟩ ⟨_, hs, .inl rfl⟩
    · exact (hs.2 b (Nat.ne_of_lt (Nat.lt_of_lt_of_le (Heap.lt_size e) I.ok.above))).trans (I.base.keep b o e n hb hx)
    · obtain ⟨sl, e1⟩ := I.base.slot b o e n hb hx
      exact ⟨sl, (hs.2 b (Nat.ne_of_lt (Nat.lt_of_lt_of_le (Heap.lt_size e) I.ok.above))).trans e1⟩
    · obtain ⟨o', e1⟩ := I.base.there b o e hx
      exact ⟨o', (hs.2 b (Nat.ne_of_lt (Nat.lt_of_lt_of_le (Heap.lt_size e) I.ok.above))).trans e1⟩
    · by_cases hj : j = i
      · subst hj
        rw [hi] at e1; cases e1
        rw [List.getElem?_set_self hiσ] at e2
        cases e2
        exact ⟨u, r, .inl ⟨hk, by simp⟩⟩
      · rw [List.getElem?_set_ne (Ne.symm hj)] at e2
        obtain ⟨u', r', q⟩ := hl j y v' e1 e2 e3
        refine ⟨u', r', ?_⟩
        rcases q with ⟨k, e⟩ | ⟨k, c, e, z⟩
        · refine .inl ⟨k, ?_⟩
          have : y ≠ x := fun e => hj (nodup_ix hN e1 (e ▸ hi))
          simp [this, e]
        · exact .inr ⟨k, c, e, z.sameBut hs (cne y c e)⟩
    · obtain ⟨w', z⟩ := I.cell y c e
      exact ⟨w', z.sameBut hs (cne y c e)⟩
    · obtain ⟨e, n, ne, nf, d⟩ := I.pin p hp
      exact ⟨(hs.2 p.1 ne).trans e, n, ne, nf, d⟩
  · have hfn : X.fn x = true := by
      rcases hf with z | z
      · exact z
      · rw [z] at hk; cases hk
    obtain ⟨c, hc⟩ := I.ok.has x (.inl hk)
    obtain ⟨w', z⟩ := I.cell x c hc
    refine wpAny_storeName_cell I.ok.kind hk hc z (fun h' hc' hs => ?_)
    obtain ⟨oc, hoc, hocd⟩ := id z
    refine h { s with heap := h' } ⟨I.ok, I.os, I.bare, ⟨fun b o e n hb hx => ?_, fun b o e n hb hx => ?_, I.base.free, fun b o e hx => ?_, I.base.tups, I.base.frzs, I.base.tbls⟩, ⟨m, hn.sameBut hs (Ne.symm (cne x c hc)), fun j y v' e1 e2 e3 => ?_⟩, fun y c' e => ?_, I.free, I.freeC, fun p hp => ?_, tracked ⟨oc, hoc, I.freeC x c hc⟩ hs, by simpa using I.len⟩ ⟨c, hs, .inr hc⟩
    · exact (hs.2 b (Nat.ne_of_lt (Nat.lt_of_lt_of_le (Heap.lt_size e) (I.ok.cab x c hfn hc)))).trans (I.base.keep b o e n hb hx)
    · obtain ⟨sl, e1⟩ := I.base.slot b o e n hb hx
      exact ⟨sl, (hs.2 b (Nat.ne_of_lt (Nat.lt_of_lt_of_le (Heap.lt_size e) (I.ok.cab x c hfn hc)))).trans e1⟩
    · obtain ⟨o', e1⟩ := I.base.there b o e hx
      exact ⟨o', (hs.2 b (Nat.ne_of_lt (Nat.lt_of_lt_of_le (Heap.lt_size e) (I.ok.cab x c hfn hc)))).trans e1⟩
    · by_cases hj : j = i
      · subst hj
        rw [hi] at e1; cases e1
        rw [List.getElem?_set_self hiσ] at e2
        cases e2
        exact ⟨u, r, .inr ⟨.inl hk, c, hc, hc'⟩⟩
      · rw [List.getElem?_set_ne (Ne.symm hj)] at e2
        obtain ⟨u', r', q⟩ := hl j y v' e1 e2 e3
        refine ⟨u', r', ?_⟩
        rcases q with q | ⟨k, c', e, z'⟩
        · exact .inl q
        · refine .inr ⟨k, c', e, z'.sameBut hs ?_⟩
          rintro rfl
          exact hj (nodup_ix hN e1 (I.ok.inj _ _ _ e hc ▸ hi))
    · by_cases hcc : c' = c
      · subst hcc; exact ⟨_, hc'⟩
      · obtain ⟨w2, z2⟩ := I.cell y c' e
        exact ⟨w2, z2.sameBut hs hcc⟩
    · obtain ⟨e, n, ne, nf, d⟩ := I.pin p hp
      refine ⟨(hs.2 p.1 ?_).trans e, n, ne, nf, d⟩
      intro q
      rw [q, hoc] at e
      have q' : oc = p.2 := Option.some.inj e
      exact d w' (by rw [← q']; exact hocd)
theorem store_ok {M : Model} {A : Around} {E : Value → Shared → Prop} {i : Nat} {x : Str} {v : V} {u : Value} {Q : Unit → Shared → Prop} (I : Inv X pins σ H s) (hN : X.N.Nodup) (hi : X.N[i]? = some x) (hx : Loc X.env.scope x) (r : RelV v u)
    (h : ∀ s', Inv X pins (σ.set i (some v)) H s' → Q () s') (hf : X.fn x = true ∨ X.env.scope.names.lookup x = some .local := by first | exact .inl rfl | exact .inr rfl | assumption) : wpAny M A (storeName X.env x u) Q E s :=
  store_ok2 I hN hi hx r (fun s' I' _ => h s' I') hf
theorem Inv.call' {s' : Shared} {ch : List Addr} (I : Inv X pins σ H s) (ho : s'.os = s.os) (u : Un (frs X.stack) ch H H' s.heap s'.heap) (hok : HOk X.prog X.w H' s'.heap) (hg : AllBare s'.gens)
    (hch : ∀ b ∈ ch, (b ∈ X.ex ∨ X.s_0.heap.objs.size ≤ b) ∧ b ≠ X.env.locals ∧ (∀ x c, X.env.cells.lookup x = some c → c ≠ b) ∧ ∀ p ∈ X.pn ++ pins, p.1 ≠ b) : Inv X pins σ H' s' := by
  obtain ⟨h', g', d', t', o'⟩ := s'
  have e : o' = s.os := ho
  subst e
  exact I.call (g' := g') (t' := t') (d' := d') u hok hg hch
end

abbrev XK := Value → Option Addr → Hp → Prop
abbrev St := List (Option V)
abbrev VK := V → Hp → Prop
abbrev TE := St → Hp → VK → Prop
abbrev TT := St → Hp → (Bool → Hp → Prop) → Prop
abbrev TA := St → Hp → (List V → Hp → Prop) → Prop
structure Ends where
  nx : St → Hp → Prop
  rt : VK
  bk : St → Hp → Prop := fun _ _ => False
  ct : St → Hp → Prop := fun _ _ => False
abbrev TS := Ends → St → Hp → Prop

def EP (X : Cx) (pins : List (Addr × Obj)) (σ : St) (Q : VK) (u : Value) (s' : Shared) : Prop := ∃ v H', Inv X pins σ H' s' ∧ RelV v u ∧ Q v H'
def TP (X : Cx) (pins : List (Addr × Obj)) (σ : St) (Q : Bool → Hp → Prop) (b : Bool) (s' : Shared) : Prop := ∃ H', Inv X pins σ H' s' ∧ Q b H'
def AP (X : Cx) (pins : List (Addr × Obj)) (σ : St) (Q : List V → Hp → Prop) (us : List Value) (s' : Shared) : Prop := ∃ vs H', Inv X pins σ H' s' ∧ Vals vs us ∧ Q vs H'
def SP (X : Cx) (pins : List (Addr × Obj)) (D : Ends) (f : Flow) (s' : Shared) : Prop :=
  match f with
  | .next => ∃ σ' H', Inv X pins σ' H' s' ∧ D.nx σ' H'
  | .brk => ∃ σ' H', Inv X pins σ' H' s' ∧ D.bk σ' H'
  | .cont => ∃ σ' H', Inv X pins σ' H' s' ∧ D.ct σ' H'
  | .ret u => ∃ v σ' H', Inv X pins σ' H' s' ∧ RelV v u ∧ D.rt v H'

def PE (X : Cx) (e : Expr) (t : TE) : Prop :=
  ∀ (pins : List (Addr × Obj)) (s : Shared) (σ : St) (H : Hp) (Q : VK), Inv X pins σ H s → t σ H Q → wpAny (model X.prog X.w) X.A (eval e X.env) (EP X pins σ Q) X.xe s
def PT (X : Cx) (e : Expr) (t : TT) : Prop :=
  ∀ (pins : List (Addr × Obj)) (s : Shared) (σ : St) (H : Hp) (Q : Bool → Hp → Prop), Inv X pins σ H s → t σ H Q → wpAny (model X.prog X.w) X.A (isTrue e X.env (eval e X.env)) (TP X pins σ Q) X.xe s
def PW (X : Cx) (e : Expr) (t : TT) : Prop :=
  ∀ (whole : Sem Value) (pins : List (Addr × Obj)) (s : Shared) (σ : St) (H : Hp) (Q : Bool → Hp → Prop), Inv X pins σ H s → t σ H Q → wpAny (model X.prog X.w) X.A (isTrue e X.env whole) (TP X pins σ Q) X.xe s
theorem PW.pt {X : Cx} {e : Expr} {t : TT} (h : PW X e t) : PT X e t := h _
def PA (X : Cx) (es : List Expr) (t : TA) : Prop :=
  ∀ (pos : Pos) (pins : List (Addr × Obj)) (s : Shared) (σ : St) (H : Hp) (Q : List V → Hp → Prop), Inv X pins σ H s → t σ H Q → wpAny (model X.prog X.w) X.A (spliced (backTo pos (starEach es X.env))) (AP X pins σ Q) X.xe s
def PS (X : Cx) (st : Stmt) (t : TS) : Prop :=
  ∀ (pins : List (Addr × Obj)) (s : Shared) (σ : St) (H : Hp) (D : Ends), Inv X pins σ H s → t D σ H → wpAny (model X.prog X.w) X.A (exec st X.env) (SP X pins D) X.xe s
def PSs (X : Cx) (st : List Stmt) (t : TS) : Prop :=
  ∀ (pins : List (Addr × Obj)) (s : Shared) (σ : St) (H : Hp) (D : Ends), Inv X pins σ H s → t D σ H → wpAny (model X.prog X.w) X.A (execs st X.env) (SP X pins D) X.xe s
theorem thn {α : Type} {t : Sem α} {Q Q' : α → Shared → Prop} {M : Model} {A : Around} {E : Value → Shared → Prop} {s : Shared} (h : wpAny M A t Q E s) (hQ : ∀ a s, Q a s → Q' a s) : wpAny M A t Q' E s := wpAny_mono h hQ fun _ _ x => x
end L2

namespace L2
open PySem PySem.Spec PyProof.Rows
section
variable {X : Cx}

def tVar (i : Nat) : TE := fun σ H Q => ∃ v, σ[i]? = some (some v) ∧ Q v H
def tC (v : V) : TE := fun _ H Q => Q v H
theorem pe_var {i : Nat} {x : Str} {pos : Pos} (hN : X.N[i]? = some x) (hv : Vis X.env.scope x) (hd : (x == ("__debug__" : Str)) = false := by decide) (hcd : (x == ("__classdict__" : Str)) = false := by decide) : PE X (.Name x pos) (tVar i) := by
  intro pins s σ H Q I h
  obtain ⟨v, e, h⟩ := h
  obtain ⟨m, hn, hl⟩ := I.loc
  obtain ⟨u, r, l⟩ := hl i x v hN e hv
  have fin : EP X pins σ Q u s := ⟨v, H, I, r, h⟩
  rcases l with ⟨hk, hm⟩ | ⟨hk, c, hc, hcell⟩
  · exact wpAny_Name (wpAny_loadName_local I.ok.kind hk hn hm fin) hd
  · rcases hk with hk | hk
    · exact wpAny_Name (wpAny_loadName_cell I.ok.kind hk hc hcell fin) hd
    · exact wpAny_Name (wpAny_loadName_free I.ok.kind hk hc hcell fin hcd) hd
theorem pe_int {i j pos} : PE X (.Constant (.int i) j pos) (tC (.int i)) := fun _ _ _ H _ I h => wpAny_Constant_int ⟨.int i, H, I.tok _, ⟨_, rfl⟩, h⟩
theorem pe_bl {b j pos} : PE X (.Constant (.bool b) j pos) (tC (.bl b)) := fun _ _ _ H _ I h => Constant_bool ⟨.bl b, H, I, rfl, h⟩
def Gl (X : Cx) (x : Str) : Prop := X.env.kindOf x = some .globalImplicit
theorem ld_glob {E : Value → Shared → Prop} {pins : List (Addr × Obj)} {s : Shared} {σ : St} {H : Hp} {x : Str} {u : Value} {pos : Pos} {Q : Value → Shared → Prop} (I : Inv X pins σ H s) (hg : Gl X x) (hm : X.mg x = some u) (h : Q u s)
    (hd : (x == ("__debug__" : Str)) = false := by decide) : wpAny (model X.prog X.w) X.A (eval (.Name x pos) X.env) Q E s :=
  Calls.Name_function_global I.ok.kind hg (Calls.loadGlobal_global (by rw [I.ok.glob]; exact I.mod.glob.keeps I.bk) hm h) hd
theorem ld_blt {E : Value → Shared → Prop} {pins : List (Addr × Obj)} {s : Shared} {σ : St} {H : Hp} {x : Str} {u : Value} {pos : Pos} {Q : Value → Shared → Prop} (I : Inv X pins σ H s) (hg : Gl X x) (hm : X.mg x = none) (hv : bootBuiltins x = some u) (h : Q u s)
    (hn : x ≠ "__name__" := by decide) (hd : (x == ("__debug__" : Str)) = false := by decide) : wpAny (model X.prog X.w) X.A (eval (.Name x pos) X.env) Q E s := by
  obtain ⟨mb, h1, h2⟩ := I.mod.blt
  exact Calls.Name_function_global I.ok.kind hg (Calls.loadGlobal_builtin (by rw [I.ok.glob]; exact I.mod.glob.keeps I.bk) hm (by rw [I.ok.blt]; exact h1.keeps I.bk) ((h2 x hn).trans hv) h) hd
theorem pe_glob {x : Str} {v : V} {u : Value} {pos : Pos} (hg : Gl X x) (hm : X.mg x = some u) (r : RelV v u) (hd : (x == ("__debug__" : Str)) = false := by decide) : PE X (.Name x pos) (tC v) :=
  fun _ _ _ H _ I h => ld_glob I hg hm ⟨v, H, I, r, h⟩ hd
variable {a b : Expr} {ta tb : TE} {pos : Pos}
def PC (X : Cx) (op : CmpOp) (a b : Expr) (t : TE) : Prop :=
  ∀ (pins : List (Addr × Obj)) (s : Shared) (σ : St) (H : Hp) (Q : VK), Inv X pins σ H s → t σ H Q →
    wpAny (model X.prog X.w) X.A (eval a X.env) (fun v s₁ => wpAny (model X.prog X.w) X.A (eval b X.env) (fun u s₂ => wpAny (model X.prog X.w) X.A (compareOp op v u) (EP X pins σ Q) X.xe s₂) X.xe s₁) X.xe s
theorem nobehind (b : Expr) {op : CmpOp} (h : op ≠ .In) (h2 : op ≠ .NotIn) : behindInMarks op b = false := by
  have e1 : (op == CmpOp.In) = false := by cases op <;> first | rfl | exact absurd rfl h
  have e2 : (op == CmpOp.NotIn) = false := by cases op <;> first | rfl | exact absurd rfl h2
  cases b <;> simp [behindInMarks, e1, e2]
def tB (t : TE) : TT := fun σ H Q => t σ H fun x H1 => ∃ c, x = .bl c ∧ Q c H1
theorem pt_cmp {op : CmpOp} {t : TE} (h : PC X op a b t) (h1 : behindInMarks op b = false := by first | exact nobehind _ (by decide) (by decide) | rfl) : PT X (.Compare a [op] [b] pos) (tB t) := by
  intro pins s σ H Q I hw
  refine wpAny_isTrue_Compare1 (thn (h pins s σ H _ I hw) fun v s1 h1 => thn h1 fun u s2 h2 => thn h2 fun c s3 ⟨x, H1, I1, r1, q1⟩ => ?_) h1
  obtain ⟨d, rfl, q⟩ := q1
  cases r1
  exact wpAny_truthy_bool ⟨H1, I1, q⟩
variable {tA tB' : TT} {rest : List Expr}
def tAnd (t u : TT) : TT := fun σ H Q => t σ H fun c H1 => if c = true then u σ H1 Q else Q false H1
def tOr (t u : TT) : TT := fun σ H Q => t σ H fun c H1 => if c = true then Q true H1 else u σ H1 Q
def tNot (t : TT) : TT := fun σ H Q => t σ H fun c H1 => Q (!c) H1
theorem pw_and1 (ha : PT X a tA) : PW X (.BoolOp .And [a] pos) tA := by
  intro wh pins s σ H Q I h
  refine isTrue_and (thn (ha pins s σ H Q I h) fun c s1 e => ?_)
  cases c with
  | true => exact isTrue_and_nil e
  | false => exact e
theorem pw_or1 (ha : PT X a tA) : PW X (.BoolOp .Or [a] pos) tA := by
  intro wh pins s σ H Q I h
  refine isTrue_or (thn (ha pins s σ H Q I h) fun c s1 e => ?_)
  cases c with
  | false => exact isTrue_or_nil e
  | true => exact e
theorem pw_and (ha : PT X a tA) (hb : PW X (.BoolOp .And (b :: rest) pos) tB') : PW X (.BoolOp .And (a :: b :: rest) pos) (tAnd tA tB') := by
  intro wh pins s σ H Q I h
  refine isTrue_and (thn (ha pins s σ H _ I h) fun c s1 ⟨H1, I1, q1⟩ => ?_)
  cases c with
  | true => exact hb wh pins s1 σ H1 Q I1 q1
  | false => exact ⟨H1, I1, q1⟩
theorem pw_or (ha : PT X a tA) (hb : PW X (.BoolOp .Or (b :: rest) pos) tB') : PW X (.BoolOp .Or (a :: b :: rest) pos) (tOr tA tB') := by
  intro wh pins s σ H Q I h
  refine isTrue_or (thn (ha pins s σ H _ I h) fun c s1 ⟨H1, I1, q1⟩ => ?_)
  cases c with
  | true => exact ⟨H1, I1, q1⟩
  | false => exact hb wh pins s1 σ H1 Q I1 q1
theorem pt_not (ha : PT X a tA) : PT X (.UnaryOp .Not a pos) (tNot tA) := by
  intro pins s σ H Q I h
  exact isTrue_not (ha pins s σ H (fun c H1 => Q (!c) H1) I h)
def tOrV (ta tb : TE) : TE := fun σ H Q => ta σ H fun x H1 => ∃ c, x = .bl c ∧ if c = true then Q (.bl true) H1 else tb σ H1 Q
theorem pe_one {op} {t : TE} (h : PE X a t) : PE X (.BoolOp op [a] pos) t := fun pins s σ H Q I hw => BoolOp_one (h pins s σ H Q I hw)
theorem pe_or (ha : PE X a ta) (hb : PE X (.BoolOp .Or (b :: rest) pos) tb) : PE X (.BoolOp .Or (a :: b :: rest) pos) (tOrV ta tb) := by
  intro pins s σ H Q I h
  refine BoolOp_or (thn (ha pins s σ H _ I h) fun v s1 ⟨x, H1, I1, r1, q1⟩ => ?_)
  obtain ⟨c, rfl, q1⟩ := q1
  cases r1
  refine wpAny_truthy_bool ?_
  cases c with
  | false => exact hb pins s1 σ H1 Q I1 q1
  | true => exact ⟨.bl true, H1, I1, rfl, q1⟩
def tIf (t : TT) (ta tb : TE) : TE := fun σ H Q => t σ H fun c H1 => if c = true then ta σ H1 Q else tb σ H1 Q
theorem pe_ifExp {c : Expr} (hc : PT X c tA) (ha : PE X a ta) (hb : PE X b tb) : PE X (.IfExp c a b pos) (tIf tA ta tb) := by
  intro pins s σ H Q I h
  refine wpAny_IfExp (thn (hc pins s σ H _ I h) fun d s1 ⟨H1, I1, q1⟩ => ?_)
  cases d with
  | true => exact ha pins s1 σ H1 Q I1 q1
  | false => exact hb pins s1 σ H1 Q I1 q1
end
end L2

namespace L2
open PySem PySem.Spec PyProof.Rows

def SqL (K : PySem.W.Frag) (H : Hp) (a : Addr) (xs : List V) : Prop :=
  Rd H a (.lst xs) ∨
    ∃ (o : Obj) (its : Array Value) (n : Nat), K.lookup a = some o ∧ o.cls = .type "list" ∧ o.dict = none ∧ o.data = .seq its n ∧ its.size ≤ sizeLine ∧ Vals xs its.toList
def SqT (K : PySem.W.Frag) (H : Hp) (a : Addr) (xs : List V) : Prop :=
  Rd H a (.tup xs) ∨
    ∃ (o : Obj) (its : Array Value) (n : Nat), K.lookup a = some o ∧ o.cls = .type "tuple" ∧ o.data = .seq its n ∧ its.size ≤ sizeLine ∧ Vals xs its.toList
def absV : Value → Option V
  | .none => some .non
  | .bool b => some (.bl b)
  | .int i _ => some (.int i)
  | .str x _ => some (.str x)
  | .bytes b _ => some (.byt b)
  | .float b _ => some (.flt b)
  | .ref a => some (.ref a)
  | .type n => some (.ty n)
  | _ => none
theorem RelV.abs {x : V} {u : Value} (r : RelV x u) : absV u = some x := by
  cases x with
  | non => cases r; rfl
  | bl _ => cases r; rfl
  | int _ => obtain ⟨t, rfl⟩ := r; rfl
  | str _ => obtain ⟨t, rfl⟩ := r; rfl
  | byt _ => obtain ⟨t, rfl⟩ := r; rfl
  | flt _ => obtain ⟨t, rfl⟩ := r; rfl
  | ref _ => cases r; rfl
  | ty _ => cases r; rfl
theorem RelV.inj {x y : V} {u : Value} (r : RelV x u) (q : RelV y u) : x = y := Option.some.inj (r.abs.symm.trans q.abs)
theorem Vals.inj : ∀ {xs ys : List V} {us : List Value}, Vals xs us → Vals ys us → xs = ys
  | _, _, _, .nil, .nil => rfl
  | _, _, _, .cons r t, .cons r' t' => by rw [r.inj r', Vals.inj t t']
section
variable {X : Cx} {pins : List (Addr × Obj)} {σ : St} {H : Hp} {s : Shared} {a : Addr} {xs ys : List V}
theorem SqL.of {K : PySem.W.Frag} (h : H a = some (.lst xs)) : SqL K H a xs := .inl (.inl h)
theorem SqT.of {K : PySem.W.Frag} (h : H a = some (.tup xs)) : SqT K H a xs := .inl (.inl h)
theorem Inv.list (I : Inv X pins σ H s) (h : SqL X.K H a xs) : ∃ its : List Value, Vals xs its ∧ PlainL s.heap a its.toArray ∧ xs.length ≤ sizeLine := by
  rcases h with h | ⟨o, its, n, hk, hc, hd, hs, hz, r⟩
  · obtain ⟨z, its, n, r, e⟩ := h.ok I.hok
    exact ⟨its, r, ⟨_, n, e, rfl, rfl, rfl⟩, z⟩
  · refine ⟨its.toList, r, ⟨o, n, I.kIn a o hk, hc, hd, by simpa using hs⟩, ?_⟩
    have e := r.length
    simp only [Array.length_toList] at e
    omega
theorem Inv.tuple (I : Inv X pins σ H s) (h : SqT X.K H a xs) : ∃ its : List Value, Vals xs its ∧ IsTup s.heap a its.toArray ∧ xs.length ≤ sizeLine := by
  rcases h with h | ⟨o, its, n, hk, hc, hs, hz, r⟩
  · obtain ⟨z, its, r, p⟩ := h.ok I.hok
    exact ⟨its, r, p, z⟩
  · refine ⟨its.toList, r, ⟨o, I.kIn a o hk, hc, n, by simpa using hs⟩, ?_⟩
    have e := r.length
    simp only [Array.length_toList] at e
    omega
theorem Inv.list_inj (I : Inv X pins σ H s) (h : SqL X.K H a xs) (h' : SqL X.K H a ys) : xs = ys := by
  obtain ⟨its, r, ⟨o, n, e, _, _, d⟩, _⟩ := I.list h
  obtain ⟨its', r', ⟨o', n', e', _, _, d'⟩, _⟩ := I.list h'
  rw [e] at e'; cases e'
  rw [d] at d'
  injection d' with d1 _
  have : its = its' := by simpa using congrArg Array.toList d1
  subst this
  exact r.inj r'
theorem Inv.tuple_inj (I : Inv X pins σ H s) (h : SqT X.K H a xs) (h' : SqT X.K H a ys) : xs = ys := by
  obtain ⟨its, r, ⟨o, e, _, n, d⟩, _⟩ := I.tuple h
  obtain ⟨its', r', ⟨o', e', _, n', d'⟩, _⟩ := I.tuple h'
  rw [e] at e'; cases e'
  rw [d] at d'
  injection d' with d1 _
  have : its = its' := by simpa using congrArg Array.toList d1
  subst this
  exact r.inj r'
end

abbrev Cx.wish (X : Cx) (E : Value → Shared → Prop) : Cx := { X with xe := E }
abbrev Cx.nox (X : Cx) : Cx := X.wish fun _ _ => False
theorem Cx.Ok.wish {X : Cx} (ok : X.Ok) (E : Value → Shared → Prop) : (X.wish E).Ok :=
  ⟨ok.mod, ok.kind, ok.glob, ok.blt, ok.above, ok.inj, ok.has, ok.cab, ok.hd, ok.frames, ok.stk, ok.exf, ok.bs, ok.bsz, ok.noex, ok.exfs, ok.funs, ok.frf⟩
theorem Cx.Ok.unwish {X : Cx} {E : Value → Shared → Prop} (ok : (X.wish E).Ok) : X.Ok :=
  ⟨ok.mod, ok.kind, ok.glob, ok.blt, ok.above, ok.inj, ok.has, ok.cab, ok.hd, ok.frames, ok.stk, ok.exf, ok.bs, ok.bsz, ok.noex, ok.exfs, ok.funs, ok.frf⟩
section
variable {X : Cx} {pins : List (Addr × Obj)} {σ : St} {H : Hp} {s : Shared} {E : Value → Shared → Prop}
theorem Inv.wish (I : Inv X pins σ H s) (E : Value → Shared → Prop) : Inv (X.wish E) pins σ H s := ⟨I.ok.wish E, I.os, I.bare, I.base, I.loc, I.cell, I.free, I.freeC, I.pin, I.hok, I.len⟩
theorem Inv.unwish (I : Inv (X.wish E) pins σ H s) : Inv X pins σ H s := ⟨I.ok.unwish, I.os, I.bare, I.base, I.loc, I.cell, I.free, I.freeC, I.pin, I.hok, I.len⟩
theorem SP.unwish {D : Ends} {f : Flow} {s' : Shared} (h : SP (X.wish E) pins D f s') : SP X pins D f s' := by
  cases f with
  | next => obtain ⟨σ', H', I, q⟩ := h; exact ⟨σ', H', I.unwish, q⟩
  | brk => obtain ⟨σ', H', I, q⟩ := h; exact ⟨σ', H', I.unwish, q⟩
  | cont => obtain ⟨σ', H', I, q⟩ := h; exact ⟨σ', H', I.unwish, q⟩
  | ret u => obtain ⟨v, σ', H', I, r, q⟩ := h; exact ⟨v, σ', H', I.unwish, r, q⟩
theorem PE.nox {e : Expr} {t : TE} (h : PE X.nox e t) : PE X e t := fun pins s σ H Q I hw =>
  wpAny_mono (h pins s σ H Q (I.wish _) hw) (fun _ _ ⟨v, H', I', r, q⟩ => ⟨v, H', I'.unwish, r, q⟩) fun _ _ z => False.elim z
theorem PT.nox {e : Expr} {t : TT} (h : PT X.nox e t) : PT X e t := fun pins s σ H Q I hw =>
  wpAny_mono (h pins s σ H Q (I.wish _) hw) (fun _ _ ⟨H', I', q⟩ => ⟨H', I'.unwish, q⟩) fun _ _ z => False.elim z
theorem PSs.nox {st : List Stmt} {t : TS} (h : PSs X.nox st t) : PSs X st t := fun pins s σ H D I hw =>
  wpAny_mono (h pins s σ H D (I.wish _) hw) (fun _ _ q => q.unwish) fun _ _ z => False.elim z
end

section
variable {X : Cx} {st : Stmt} {rest : List Stmt} {t u : TS} {e : Expr} {te : TE} {pos : Pos}
def tNext : TS := fun D σ H => D.nx σ H
def tSeq (t u : TS) : TS := fun D σ H => t { D with nx := u D } σ H
theorem pss_nil : PSs X [] tNext := fun _ _ σ H _ I h => wpAny_execs_nil ⟨σ, H, I, h⟩
theorem pss_cons (h1 : PS X st t) (h2 : PSs X rest u) : PSs X (st :: rest) (tSeq t u) := by
  intro pins s σ H D I h
  refine wpAny_execs_cons (thn (h1 pins s σ H { D with nx := u D } I h) fun f s1 q => ?_)
  cases f with
  | next =>
    obtain ⟨σ', H', I', q⟩ := q
    exact h2 pins s1 σ' H' D I' q
  | ret v => exact q
  | brk => exact q
  | cont => exact q
theorem pss_one (h1 : PS X st t) : PSs X [st] t := by
  intro pins s σ H D I h
  refine wpAny_execs_cons (thn (h1 pins s σ H D I h) fun f s1 q => ?_)
  cases f with
  | next => exact wpAny_execs_nil q
  | ret v => exact q
  | brk => exact q
  | cont => exact q
def tBreak : TS := fun D σ H => D.bk σ H
theorem ps_break : PS X (.Break pos) tBreak := fun _ _ σ H _ I h => wpAny_Break ⟨σ, H, I, h⟩
theorem Inv.quiet {pins : List (Addr × Obj)} {σ : St} {H : Hp} {s : Shared} (I : Inv X pins σ H s) : interactive X.env = false := by simp [interactive, I.ok.kind]
def tDrop (te : TE) : TS := fun D σ H => te σ H fun _ H1 => D.nx σ H1
theorem ps_expr (he : PE X e te) (hs : swapsWith e none pos.line X.env = pure false := by rfl) : PS X (.Expr e pos) (tDrop te) := by
  intro pins s σ H D I h
  exact wpAny_Expr_any (thn (he pins s σ H _ I h) fun v s1 ⟨x, H1, I1, r1, q1⟩ => ⟨σ, H1, I1, q1⟩) I.quiet hs
def tRet (te : TE) : TS := fun D σ H => te σ H D.rt
theorem ps_ret (he : PE X e te) : PS X (.Return (some e) pos) (tRet te) := by
  intro pins s σ H D I h
  exact wpAny_Return_some (thn (he pins s σ H _ I h) fun v s1 ⟨x, H1, I1, r1, q1⟩ => ⟨x, σ, H1, I1, r1, q1⟩)
def tIfS (c : TT) (t u : TS) : TS := fun D σ H => c σ H fun b H1 => if b = true then t D σ H1 else u D σ H1
theorem ps_if {c : Expr} {a b : List Stmt} {tc : TT} (hc : PT X c tc) (ha : PSs X a t) (hb : PSs X b u) : PS X (.If c a b pos) (tIfS tc t u) := by
  intro pins s σ H D I h
  refine wpAny_If (thn (hc pins s σ H _ I h) fun d s1 ⟨H1, I1, q1⟩ => ?_)
  cases d with
  | true => exact ha pins s1 σ H1 D I1 q1
  | false => exact hb pins s1 σ H1 D I1 q1
end

abbrev TG := V → St → Hp → (St → Hp → Prop) → Prop
def PG (X : Cx) (target : Expr) (t : TG) : Prop :=
  ∀ (pins : List (Addr × Obj)) (s : Shared) (σ : St) (H : Hp) (v : V) (u : Value) (Q : St → Hp → Prop), Inv X pins σ H s → RelV v u → t v σ H Q →
    wpAny (model X.prog X.w) X.A (assign target X.env u) (fun _ s' => ∃ σ' H', Inv X pins σ' H' s' ∧ Q σ' H') X.xe s
abbrev TSet := V → V → V → Hp → (Hp → Prop) → Prop
def PSet (X : Cx) (t : TSet) : Prop :=
  ∀ (pins : List (Addr × Obj)) (s : Shared) (σ : St) (H : Hp) (o i v : V) (ov iv u : Value) (Q : Hp → Prop), Inv X pins σ H s → RelV o ov → RelV i iv → RelV v u → t o i v H Q →
    wpAny (model X.prog X.w) X.A (setItem ov iv u) (fun _ s' => ∃ H', Inv X pins σ H' s' ∧ Q H') X.xe s
section
variable {X : Cx} {pos : Pos}
def gName (i : Nat) : TG := fun v σ H Q => Q (σ.set i (some v)) H
theorem pg_name {i : Nat} {x : Str} (hN : X.N.Nodup) (hi : X.N[i]? = some x) (hx : Loc X.env.scope x) (hf : X.fn x = true ∨ X.env.scope.names.lookup x = some .local := by first | exact .inl rfl | exact .inr rfl | assumption) : PG X (.Name x pos) (gName i) := by
  intro pins s σ H v u Q I r h
  exact wpAny_assign_Name (store_ok I hN hi hx r (fun s' I' => ⟨_, H, I', h⟩) hf)
def gSub (to ti : TE) (t : TSet) : TG := fun v σ H Q => to σ H fun o H1 => ti σ H1 fun i H2 => t o i v H2 fun H3 => Q σ H3
theorem pg_sub {o i : Expr} {to ti : TE} {t : TSet} (ho : PE X o to) (hi : PE X i ti) (hs : PSet X t)
    (ha : ∀ v, assign (.Subscript o i pos) X.env v = (do
      let ov ← holding [v] (eval o X.env)
      let iv ← holding [v, ov] (eval i X.env)
      standAt pos
      holding [v, ov, iv] (setItem ov iv v)
      release [v, ov, iv] []) := by intro _; rfl) : PG X (.Subscript o i pos) (gSub to ti t) := by
  intro pins s σ H v u Q I r h
  rw [ha]
  refine wpAny_bind (wpAny_holding (thn (ho pins s σ H _ I h) fun ov s1 ⟨x, H1, I1, r1, q1⟩ => ?_))
  refine wpAny_bind (wpAny_holding (thn (hi pins s1 σ H1 _ I1 q1) fun iv s2 ⟨y, H2, I2, r2, q2⟩ => ?_))
  refine wpAny_bind (wpAny_standAt (wpAny_bind (wpAny_holding (thn (hs pins s2 σ H2 x y v ov iv u _ I2 r1 r2 r q2) fun _ s3 ⟨H3, I3, q3⟩ => ?_))))
  exact wpAny_release ⟨σ, H3, I3, q3⟩
def tAsg (te : TE) (g : TG) : TS := fun D σ H => te σ H fun x H1 => g x σ H1 D.nx
theorem ps_asg {tg e : Expr} {te : TE} {g : TG} (he : PE X e te) (hg : PG X tg g) (hs : swapsWithSole [tg] e pos.line X.env = pure false := by rfl) (hw : swappedStores [tg] e X.env = pure none := by rfl)
    (h1 : (assignEach [tg] X.env).map (·.2) = [assign tg X.env] := by rfl) : PS X (.Assign [tg] e pos) (tAsg te g) := by
  intro pins s σ H D I h
  refine wpAny_Assign_stores (thn (he pins s σ H _ I h) fun v s1 ⟨x, H1, I1, r1, q1⟩ => ?_) hs hw
  rw [h1]
  exact thn (hg pins s1 σ H1 x v _ I1 r1 q1) fun _ s2 q => q
theorem ps_set {i : Nat} {x : Str} {e : Expr} {te : TE} {pos' : Pos} (hN : X.N.Nodup) (hi : X.N[i]? = some x) (hx : Loc X.env.scope x) (he : PE X e te) (hs : swapsWith e (some (.Name x pos')) pos.line X.env = pure false := by rfl) (hf : X.fn x = true ∨ X.env.scope.names.lookup x = some .local := by first | exact .inl rfl | exact .inr rfl | assumption) :
    PS X (.Assign [.Name x pos'] e pos) (tAsg te (gName i)) := by
  intro pins s σ H D I h
  refine wpAny_Assign_Name (thn (he pins s σ H _ I h) fun v s1 ⟨y, H1, I1, r1, q1⟩ => ?_) hs
  exact store_ok I1 hN hi hx r1 (fun s2 I2 => ⟨_, H1, I2, q1⟩) hf
end

section
variable {X : Cx} {pos : Pos}
def tWhile (c : TT) (tb : TS) : TS := fun D σ H => ∃ W : Nat → St → Hp → Prop, (∃ m, W m σ H) ∧ ∀ m σ H, W m σ H →
  c σ H fun b H1 => if b = true then ∃ N : St → Hp → Prop, (∀ σ' H', N σ' H' → ∃ m', m' < m ∧ W m' σ' H') ∧ tb { D with nx := N, ct := N, bk := D.nx } σ H1 else D.nx σ H1
theorem ps_while {c : Expr} {body : List Stmt} {tc : TT} {tb : TS} (hp : PassesOwn (model X.prog X.w) X.A X.env X.xe) (hc : PT X c tc) (hb : PSs X body tb) : PS X (.While c body [] pos) (tWhile tc tb) := by
  intro pins s σ H D I h
  obtain ⟨W, ⟨m0, w0⟩, turn⟩ := h
  refine wpAny_While (codeAny_whileLoop (fun n s' => ∃ σ' H', Inv X pins σ' H' s' ∧ W n σ' H') ?_ m0 ⟨σ, H, I, w0⟩)
  rintro n s1 ⟨σ1, H1, I1, w1⟩
  refine wpAny_passesOwn hp (thn (hc pins s1 σ1 H1 _ I1 (turn n σ1 H1 w1)) fun b s2 ⟨H2, I2, q2⟩ => ?_)
  cases b with
  | true =>
    obtain ⟨N, hN, q2⟩ := q2
    rw [if_pos rfl]
    refine wpAny_passesOwn hp (thn (hb pins s2 σ1 H2 _ I2 q2) fun f s3 q3 => ?_)
    cases f with
    | next =>
      obtain ⟨σ3, H3, I3, n3⟩ := q3
      obtain ⟨m', hm, w3⟩ := hN σ3 H3 n3
      exact ⟨m', hm, σ3, H3, I3, w3⟩
    | cont =>
      obtain ⟨σ3, H3, I3, n3⟩ := q3
      obtain ⟨m', hm, w3⟩ := hN σ3 H3 n3
      exact ⟨m', hm, σ3, H3, I3, w3⟩
    | brk => exact q3
    | ret v => exact q3
  | false =>
    rw [if_neg Bool.false_ne_true]
    exact wpAny_execs_nil ⟨σ1, H2, I2, q2⟩
end

structure It where
  go : Nat → Hp → Prop
  yld : Nat → Hp → V → Hp → Prop
  stop : Nat → Hp → Prop
def FpOk (X : Cx) (pins : List (Addr × Obj)) (H : Hp) (b : Addr) : Prop :=
  H b = none ∧ b ≠ X.env.locals ∧ b ∉ X.fs ∧ (b ∈ X.ex ∨ X.s_0.heap.objs.size ≤ b) ∧ (∀ x c, X.env.cells.lookup x = some c → c ≠ b) ∧ ∀ p ∈ X.pn ++ pins, p.1 ≠ b
theorem Inv.fpOk {X : Cx} {pins : List (Addr × Obj)} {σ : St} {H H' : Hp} {s : Shared} {b : Addr} (I : Inv X pins σ H s) (hb : s.heap.objs.size ≤ b) (hn : H' b = none) : FpOk X pins H' b := by
  refine ⟨hn, Nat.ne_of_gt (Nat.lt_of_lt_of_le I.lt hb), I.nofs hb, .inr (Nat.le_trans I.sz hb), fun x c e z => ?_, fun p hp z => ?_⟩
  · obtain ⟨v, q⟩ := I.cell x c e
    exact absurd (Nat.lt_of_lt_of_le q.lt (by rw [z]; exact hb)) (Nat.lt_irrefl _)
  · exact absurd (Nat.lt_of_lt_of_le (Heap.lt_size (I.pin p hp).1) (by rw [z]; exact hb)) (Nat.lt_irrefl _)
structure Turn (P : Program) (w : World) (K : PySem.W.Frag) (tg : Expr) (J : It) (fp : List Addr) (it : Addr) (tn : Nat → Heap → Prop) : Prop where
  mem : it ∈ fp
  obj : ∀ i h, tn i h → ∀ b ∈ fp, ∃ o, h.get? b = some o ∧ ∀ v, o.data ≠ .cell v
  keep : ∀ i h h', tn i h → (∀ b ∈ fp, ∀ o, h.get? b = some o → h'.get? b = some o) → tn i h'
  item : ∀ (X : Cx), X.prog = P → X.w = w → X.K = K → X.calm = true → ∀ (i : Nat) (pins : List (Addr × Obj)) (s : Shared) (σ : St) (H : Hp) (E : Value → Shared → Prop), Inv X pins σ H s → (∀ b ∈ fp, FpOk X pins H b) → tn i s.heap → J.go i H →
    wpAny (model P w) X.A (pyNext (.ref it)) (fun r s1 => ∃ u, r = some u ∧
      wpAny (model P w) X.A (letOwnedTupleGo tg (.ref it) u) (fun _ s2 => ∃ x H', Inv X pins σ H' s2 ∧ RelV x u ∧ J.yld i H x H' ∧ tn (i + 1) s2.heap ∧ ∀ b ∈ fp, H' b = none) E s1) E s
  done : ∀ (X : Cx), X.prog = P → X.w = w → X.K = K → X.calm = true → ∀ (i : Nat) (pins : List (Addr × Obj)) (s : Shared) (σ : St) (H : Hp) (E : Value → Shared → Prop), Inv X pins σ H s → (∀ b ∈ fp, FpOk X pins H b) → tn i s.heap → J.stop i H →
    wpAny (model P w) X.A (pyNext (.ref it)) (fun r s1 => r = none ∧ Inv X pins σ H s1) E s
  self : ∀ (A : Around) (i : Nat) (s : Shared) (Q : Value → Shared → Prop) (E : Value → Shared → Prop), tn i s.heap → Q (.ref it) s → wpAny (model P w) A (pyIter (.ref it)) Q E s
abbrev TI := St → Hp → (It → Hp → Prop) → Prop
def PIE (X : Cx) (pins : List (Addr × Obj)) (σ : St) (tg : Expr) (R : It → Hp → Prop) (itv : Value) (s2 : Shared) : Prop :=
  ∃ (it : Addr) (fp : List Addr) (tn : Nat → Heap → Prop) (J : It) (H' : Hp), itv = .ref it ∧ Inv X pins σ H' s2 ∧ Turn X.prog X.w X.K tg J fp it tn ∧ tn 0 s2.heap ∧ (∀ b ∈ fp, FpOk X pins H' b) ∧ R J H'
def PI (X : Cx) (tg iter : Expr) (wi : TI) : Prop :=
  ∀ (pins : List (Addr × Obj)) (s : Shared) (σ : St) (H : Hp) (R : It → Hp → Prop), Inv X pins σ H s → wi σ H R →
    wpAny (model X.prog X.w) X.A (eval iter X.env) (fun v s1 => wpAny (model X.prog X.w) X.A (pyIter v) (PIE X pins σ tg R) X.xe s1) X.xe s

theorem go_of {M : Model} {A : Around} {E : Value → Shared → Prop} {s : Shared} {tg : Expr} {it : Addr} {u : Value} {o : Obj} {n : String} {vs : Array Value} {Q : Unit → Shared → Prop} (ho : s.heap.get? it = some o) (hc : o.cls = .type n) (hd : o.data = .fields vs)
    (hn : ["enumerate", "zip", "dict_itemiterator", "dict_reverseitemiterator", "odict_iterator", "itertools.zip_longest", "itertools.pairwise"].contains n = false) (hQ : Q () s) : wpAny M A (letOwnedTupleGo tg (.ref it) u) Q E s := by
  unfold letOwnedTupleGo
  cases tg <;> first
    | exact wpAny_pure hQ
    | (cases u <;> first
        | exact wpAny_pure hQ
        | (refine wpAny_bind (wpAny_load ho ?_)
           rw [hc, hd]
           show wpAny M A (if (["enumerate", "zip", "dict_itemiterator", "dict_reverseitemiterator", "odict_iterator", "itertools.zip_longest", "itertools.pairwise"].contains n && vs[0]? == some (rawInt _)) = true then _ else _) Q E s
           rw [if_neg (by intro h; rw [hn, Bool.false_and] at h; cases h)]
           exact wpAny_pure hQ))

def Itl (K : PySem.W.Frag) (a : Addr) : It :=
  ⟨fun i H => ∃ xs x, SqL K H a xs ∧ xs[i]? = some x, fun i H x H' => H' = H ∧ ∀ xs, SqL K H a xs → xs[i]? = some x, fun i H => ∃ xs, SqL K H a xs ∧ xs.length ≤ i⟩
def Itt (K : PySem.W.Frag) (a : Addr) : It :=
  ⟨fun i H => ∃ xs x, SqT K H a xs ∧ xs[i]? = some x, fun i H x H' => H' = H ∧ ∀ xs, SqT K H a xs → xs[i]? = some x, fun i H => ∃ xs, SqT K H a xs ∧ xs.length ≤ i⟩
def Itr (lo : Int) (n : Nat) : It := ⟨fun i _ => i < n, fun i H x H' => H' = H ∧ x = .int (lo + i), fun i _ => n ≤ i⟩
theorem turn_list {P : Program} {w : World} {K : PySem.W.Frag} {tg : Expr} (a it : Addr) : Turn P w K tg (Itl K a) [it] it (fun i h => h.IsListIter it a i) where
  mem := by simp
  obj := fun i h st b hb => by
    have e : b = it := by simpa using hb
    subst e
    obtain ⟨o, e, c, d⟩ := st
    exact ⟨o, e, fun v z => by rw [d] at z; cases z⟩
  keep := fun i h h' st k => st.at fun o e => k it (by simp) o e
  item := by
    intro X hP hw hK hc i pins s σ H E I hf st hg
    subst hP hw hK
    obtain ⟨xs, x, hq, hx⟩ := hg
    obtain ⟨its, rv, p, hz⟩ := I.list hq
    obtain ⟨u, hu, ru⟩ := rv.get hx
    obtain ⟨f0, f1, f2, f3, f4, f5⟩ := hf it (by simp)
    refine wpAny_pyNext_list_item st p.isList (x := u) (by simpa using hu) fun h' st' sb => ?_
    have I1 : Inv X pins σ H { s with heap := h' } := I.turned (t' := s.toks) (fun b o hb e => (sb.2 b hb).trans e) f0 f1 f3 f4 f5
    obtain ⟨o, e, c, d⟩ := id st'
    exact ⟨u, rfl, go_of (s := { s with heap := h' }) e c d (by decide) ⟨x, H, I1, ru, ⟨rfl, fun ys hy => by rw [I.list_inj hy hq]; exact hx⟩, st', fun b hb => (hf b hb).1⟩⟩
  done := by
    intro X hP hw hK hc i pins s σ H E I hf st hg
    subst hP hw hK
    obtain ⟨xs, hq, hx⟩ := hg
    obtain ⟨its, rv, p, hz⟩ := I.list hq
    obtain ⟨f0, f1, f2, f3, f4, f5⟩ := hf it (by simp)
    have hl := rv.length
    exact wpAny_pyNext_list_end (I.ok.hd hc) st p.isList (by simp; omega) fun h' eb => ⟨rfl, I.turned (t' := s.toks) (fun b o hb e => eb b o hb e) f0 f1 f3 f4 f5⟩
  self := fun _ _ _ _ _ st h => wpAny_pyIter_listiter st h
theorem turn_tuple {P : Program} {w : World} {K : PySem.W.Frag} {tg : Expr} (a it : Addr) : Turn P w K tg (Itt K a) [it] it (fun i h => h.IsTupleIter it a i) where
  mem := by simp
  obj := fun i h st b hb => by
    have e : b = it := by simpa using hb
    subst e
    obtain ⟨o, e, c, d⟩ := st
    exact ⟨o, e, fun v z => by rw [d] at z; cases z⟩
  keep := fun i h h' st k => st.at fun o e => k it (by simp) o e
  item := by
    intro X hP hw hK hc i pins s σ H E I hf st hg
    subst hP hw hK
    obtain ⟨xs, x, hq, hx⟩ := hg
    obtain ⟨its, rv, p, hz⟩ := I.tuple hq
    obtain ⟨u, hu, ru⟩ := rv.get hx
    obtain ⟨f0, f1, f2, f3, f4, f5⟩ := hf it (by simp)
    refine wpAny_pyNext_tuple_item st (show s.heap.IsTuple a its.toArray from p) (x := u) (by simpa using hu) fun h' st' sb => ?_
    have I1 : Inv X pins σ H { s with heap := h' } := I.turned (t' := s.toks) (fun b o hb e => (sb.2 b hb).trans e) f0 f1 f3 f4 f5
    obtain ⟨o, e, c, d⟩ := id st'
    exact ⟨u, rfl, go_of (s := { s with heap := h' }) e c d (by decide) ⟨x, H, I1, ru, ⟨rfl, fun ys hy => by rw [I.tuple_inj hy hq]; exact hx⟩, st', fun b hb => (hf b hb).1⟩⟩
  done := by
    intro X hP hw hK hc i pins s σ H E I hf st hg
    subst hP hw hK
    obtain ⟨xs, hq, hx⟩ := hg
    obtain ⟨its, rv, p, hz⟩ := I.tuple hq
    obtain ⟨f0, f1, f2, f3, f4, f5⟩ := hf it (by simp)
    have hl := rv.length
    exact wpAny_pyNext_tuple_end (I.ok.hd hc) st (show s.heap.IsTuple a its.toArray from p) (by simp; omega) fun h' eb => ⟨rfl, I.turned (t' := s.toks) (fun b o hb e => eb b o hb e) f0 f1 f3 f4 f5⟩
  self := fun _ _ _ _ _ st h => wpAny_pyIter_tupleiter st h
theorem turn_range {P : Program} {w : World} {K : PySem.W.Frag} {tg : Expr} (it : Addr) (lo : Int) (n : Nat) : Turn P w K tg (Itr lo n) [it] it (fun i h => IsRangeIter h it (lo + (i : Nat) * 1) ((n : Int) - (i : Nat)) 1) where
  mem := by simp
  obj := fun i h st b hb => by
    have e : b = it := by simpa using hb
    subst e
    exact ⟨_, st, fun v z => by
      have z' : Data.fields _ = Data.cell v := z
      cases z'⟩
  keep := fun i h h' st k => k it (by simp) _ st
  item := by
    intro X hP hw hK hc i pins s σ H E I hf st hg
    subst hP hw hK
    obtain ⟨f0, f1, f2, f3, f4, f5⟩ := hf it (by simp)
    have W := Walks.range (prog := X.prog) (w := X.w) (I.ok.hd hc) it lo 1 n
    refine W.item i s _ _ hg st fun v h' tk hv st' kk => ?_
    obtain ⟨t, rfl⟩ := hv
    have I1 : Inv X pins σ H { s with heap := h', toks := tk } := I.turned (fun b o hb e => kk b o (by simpa using hb) e) f0 f1 f3 f4 f5
    refine ⟨_, rfl, go_of (s := { s with heap := h', toks := tk }) (n := "range_iterator") st' rfl rfl (by decide) ⟨.int (lo + i), H, I1, ⟨t, ?_⟩, ⟨rfl, rfl⟩, st', fun b hb => (hf b hb).1⟩⟩
    rw [Int.mul_one]
  done := by
    intro X hP hw hK hc i pins s σ H E I hf st hg
    subst hP hw hK
    obtain ⟨f0, f1, f2, f3, f4, f5⟩ := hf it (by simp)
    exact wpAny_pyNext_range_end (I.ok.hd hc) st (by have : n ≤ i := hg; omega) fun h' eb => ⟨rfl, I.turned (t' := s.toks) (fun b o hb e => eb b o hb e) f0 f1 f3 f4 f5⟩
  self := fun _ _ _ _ _ st h => wpAny_pyIter_rangeiter st h
end L2

namespace L2
open PySem PySem.Spec PyProof.Rows
section
variable {X : Cx} {tg : Expr}
def iList (K : PySem.W.Frag) (tl : TE) : TI := fun σ H R => tl σ H fun x H1 => ∃ a, x = .ref a ∧ (∃ xs, SqL K H1 a xs) ∧ R (Itl K a) H1
def iTup (K : PySem.W.Frag) (tl : TE) : TI := fun σ H R => tl σ H fun x H1 => ∃ a, x = .ref a ∧ (∃ xs, SqT K H1 a xs) ∧ R (Itt K a) H1
theorem pi_list {l : Expr} {tl : TE} (hl : PE X l tl) : PI X tg l (iList X.K tl) := by
  intro pins s σ H R I h
  refine thn (hl pins s σ H _ I h) fun v s1 ⟨x, H1, I1, r1, q1⟩ => ?_
  obtain ⟨a, e, ⟨xs, hq⟩, q⟩ := q1
  subst e
  cases r1
  obtain ⟨its, rv, p, hz⟩ := I1.list hq
  refine wpAny_pyIter_list p.isList ?_
  refine ⟨s1.heap.objs.size, [s1.heap.objs.size], _, _, H1, rfl, I1.kept (t' := s1.toks) fun b o e => Heap.get?_push_of_some _ e, turn_list a _, ⟨_, Heap.get?_push_size _ rfl, rfl, rfl⟩, fun b hb => ?_, q⟩
  have e : b = s1.heap.objs.size := by simpa using hb
  subst e
  exact I1.fpOk (Nat.le_refl _) (I1.hok.fresh (Nat.le_refl _))
theorem pi_tup {l : Expr} {tl : TE} (hl : PE X l tl) : PI X tg l (iTup X.K tl) := by
  intro pins s σ H R I h
  refine thn (hl pins s σ H _ I h) fun v s1 ⟨x, H1, I1, r1, q1⟩ => ?_
  obtain ⟨a, e, ⟨xs, hq⟩, q⟩ := q1
  subst e
  cases r1
  obtain ⟨its, rv, p, hz⟩ := I1.tuple hq
  refine wpAny_pyIter_tuple (show s1.heap.IsTuple a its.toArray from p) ?_
  refine ⟨s1.heap.objs.size, [s1.heap.objs.size], _, _, H1, rfl, I1.kept (t' := s1.toks) fun b o e => Heap.get?_push_of_some _ e, turn_tuple a _, ⟨_, Heap.get?_push_size _ rfl, rfl, rfl⟩, fun b hb => ?_, q⟩
  have e : b = s1.heap.objs.size := by simpa using hb
  subst e
  exact I1.fpOk (Nat.le_refl _) (I1.hok.fresh (Nat.le_refl _))
theorem range_it {pins : List (Addr × Obj)} {σ : St} {H : Hp} {s : Shared} {R : It → Hp → Prop} {E : Value → Shared → Prop} {lo hi : Int} {t u v : Tok} {tk : Nat} (I : Inv X pins σ H s) (h1 : -(2 ^ 62) ≤ lo) (h2 : lo < 2 ^ 62) (h3 : -(2 ^ 62) ≤ hi) (h4 : hi < 2 ^ 62)
    (q : R (Itr lo (hi - lo).toNat) H) : wpAny (model X.prog X.w) X.A (pyIter (.ref s.heap.objs.size)) (PIE X pins σ tg R) E { s with heap := s.heap.push { cls := .type "range", data := .fields #[.int lo t, .int hi u, .int 1 v] }, toks := tk } := by
  refine wpAny_pyIter_range (IsRange.new ..) (small_one h1 h2 h3 h4) ?_
  have I1 : Inv X pins σ H { s with heap := s.heap.push { cls := .type "range", data := .fields #[.int lo t, .int hi u, .int 1 v] }, toks := tk } := I.kept fun b o e => Heap.get?_push_of_some _ e
  refine ⟨(s.heap.push { cls := .type "range", data := .fields #[.int lo t, .int hi u, .int 1 v] }).objs.size, [(s.heap.push { cls := .type "range", data := .fields #[.int lo t, .int hi u, .int 1 v] }).objs.size], _, _, H, rfl,
    I1.kept (t' := tk) fun b o e => Heap.get?_push_of_some _ e, turn_range _ lo (hi - lo).toNat, ?_, fun b hb => ?_, q⟩
  · have e1 : lo + ((0 : Nat) : Int) * 1 = lo := by simp
    have e2 : (((hi - lo).toNat : Nat) : Int) - ((0 : Nat) : Int) = Builtin.Range.rangeSize lo hi 1 := by rw [rangeSize_one]; split <;> omega
    show IsRangeIter _ _ (lo + ((0 : Nat) : Int) * 1) ((((hi - lo).toNat : Nat) : Int) - ((0 : Nat) : Int)) 1
    rw [e1, e2]
    exact Heap.get?_push_size _ rfl
  · have e : b = (s.heap.push { cls := .type "range", data := .fields #[.int lo t, .int hi u, .int 1 v] }).objs.size := by simpa using hb
    subst e
    exact I1.fpOk (Nat.le_refl _) (I1.hok.fresh (Nat.le_refl _))
def iRng1 (ta : TA) : TI := fun σ H R => ta σ H fun vs H1 => ∃ j : Int, vs = [.int j] ∧ -(2 ^ 62) ≤ j ∧ j < 2 ^ 62 ∧ R (Itr 0 j.toNat) H1
def iRng2 (ta : TA) : TI := fun σ H R => ta σ H fun vs H1 => ∃ i j : Int, vs = [.int i, .int j] ∧ (-(2 ^ 62) ≤ i ∧ i < 2 ^ 62 ∧ -(2 ^ 62) ≤ j ∧ j < 2 ^ 62) ∧ R (Itr i (j - i).toNat) H1
theorem pi_range1 {a : Expr} {ta : TA} {p pos : Pos} (hg : Gl X "range") (hm : X.mg "range" = none) (ha : PA X [a] ta) (hs : starEach [a] X.env = [(false, eval a X.env)] := by rfl) : PI X tg (.Call (.Name "range" p) [a] [] pos) (iRng1 ta) := by
  intro pins s σ H R I h
  refine Call_ (ld_blt I hg hm boot_range (PyProof.Rows.callWith_type1 (thn (ha pos pins s σ H _ I h) fun us s1 ⟨vs, H1, I1, r1, q1⟩ => ?_) hs rfl))
  obtain ⟨j, e, q1, q2, q⟩ := q1
  subst e
  cases r1 with
  | cons r rr =>
    cases rr
    obtain ⟨t, rfl⟩ := r
    exact call_range_1 (range_it I1 (by omega) (by omega) q1 q2 (by simpa using q))
theorem pi_range2 {a b : Expr} {ta : TA} {p pos : Pos} (hg : Gl X "range") (hm : X.mg "range" = none) (ha : PA X [a, b] ta) (hs : starEach [a, b] X.env = [(false, eval a X.env), (false, eval b X.env)] := by rfl) (hs2 : starEach [b] X.env = [(false, eval b X.env)] := by rfl) :
    PI X tg (.Call (.Name "range" p) [a, b] [] pos) (iRng2 ta) := by
  intro pins s σ H R I h
  refine Call_ (ld_blt I hg hm boot_range (PyProof.Rows.callWith_type1 (thn (ha pos pins s σ H _ I h) fun us s1 ⟨vs, H1, I1, r1, q1⟩ => ?_) (by rw [hs, hs2]) (by rw [hs2]; rfl)))
  obtain ⟨i, j, e, ⟨q1, q2, q3, q4⟩, q⟩ := q1
  subst e
  cases r1 with
  | cons r rr =>
    cases rr with
    | cons r' rr =>
      cases rr
      obtain ⟨t, rfl⟩ := r
      obtain ⟨t', rfl⟩ := r'
      exact call_range_2 (range_it I1 q1 q2 q3 q4 q)

def tFor (wi : TI) (g : TG) (tb : TS) : TS := fun D σ H => wi σ H fun J H1 => ∃ W : Nat → Nat → St → Hp → Prop, (∃ m, W 0 m σ H1) ∧ ∀ i m σ H, W i m σ H →
  (J.stop i H ∧ D.nx σ H) ∨ (J.go i H ∧ ∃ N : St → Hp → Prop, (∀ σ' H', N σ' H' → ∃ m', m' < m ∧ W (i + 1) m' σ' H') ∧ ∀ x H', J.yld i H x H' → g x σ H' fun σ2 H2 => tb { D with nx := N, ct := N, bk := D.nx } σ2 H2)
def pinsAt (fp : List Addr) (h : Heap) : List (Addr × Obj) := fp.filterMap fun b => (h.get? b).map fun o => (b, o)
theorem mem_pinsAt {fp : List Addr} {h : Heap} {b : Addr} {o : Obj} (hb : b ∈ fp) (e : h.get? b = some o) : (b, o) ∈ pinsAt fp h := List.mem_filterMap.mpr ⟨b, hb, by rw [e]; rfl⟩
theorem of_pinsAt {fp : List Addr} {h : Heap} {p : Addr × Obj} (hp : p ∈ pinsAt fp h) : p.1 ∈ fp ∧ h.get? p.1 = some p.2 := by
  obtain ⟨b, hb, e⟩ := List.mem_filterMap.mp hp
  cases q : h.get? b with
  | none => rw [q] at e; cases e
  | some o =>
    rw [q] at e
    have e' : (b, o) = p := Option.some.inj e
    subst e'
    exact ⟨hb, q⟩
theorem Inv.pinned {pins : List (Addr × Obj)} {σ : St} {H : Hp} {s : Shared} {fp : List Addr} (I : Inv X pins σ H s) (hf : ∀ b ∈ fp, FpOk X pins H b) (ho : ∀ b ∈ fp, ∃ o, s.heap.get? b = some o ∧ ∀ v, o.data ≠ .cell v) : Inv X (pins ++ pinsAt fp s.heap) σ H s :=
  I.pins_of fun p hp => (List.mem_append.mp hp).elim (fun z => I.pin p (List.mem_append_right _ z)) fun z => by
    obtain ⟨hb, e⟩ := of_pinsAt z
    obtain ⟨f0, f1, f2, _⟩ := hf p.1 hb
    obtain ⟨o, e', d⟩ := ho p.1 hb
    rw [e] at e'; cases e'
    exact ⟨e, f0, f1, f2, d⟩
theorem Inv.unpinned {pins pl : List (Addr × Obj)} {σ : St} {H : Hp} {s : Shared} (I : Inv X (pins ++ pl) σ H s) : Inv X pins σ H s := I.pins_of fun p hp => I.pin p (List.mem_append_right _ (List.mem_append_left _ hp))
theorem ps_for {iter : Expr} {body : List Stmt} {wi : TI} {g : TG} {tb : TS} {pos : Pos} (hp : PassesOwn (model X.prog X.w) X.A X.env X.xe) (hc : X.calm = true) (hi : PI X tg iter wi) (hg : PG X tg g) (hb : PSs X body tb)
    (hs : ∀ x, foldedSetIterable iter X.env x = pure x := by intro _; rfl) : PS X (.For tg iter body [] pos) (tFor wi g tb) := by
  intro pins s σ H D I h
  refine wpAny_For (thn (hi pins s σ H _ I h) fun v s1 h1 => thn h1 fun itv s2 h2 => ?_) hs
  obtain ⟨it, fp, tn, J, H2, e, I2, T, st2, f2, W, ⟨m0, w0⟩, turn⟩ := h2
  subst e
  -- what stays true of the iterator's objects through the loop
  have stat : ∀ {H' : Hp}, (∀ b ∈ fp, H' b = none) → ∀ b ∈ fp, FpOk X pins H' b := fun hn b hb => ⟨hn b hb, (f2 b hb).2⟩
  refine codeAny_forLoop_any (fun n s' => ∃ i σ' H', Inv X pins σ' H' s' ∧ tn i s'.heap ∧ (∀ b ∈ fp, H' b = none) ∧ W i n σ' H') ?_ m0 ⟨0, σ, H2, I2, st2, fun b hb => (f2 b hb).1, w0⟩
  rintro n s3 ⟨i, σ3, H3, I3, st3, fr3, w3⟩
  rcases turn i n σ3 H3 w3 with ⟨stop, qn⟩ | ⟨go, N, hN, step⟩
  · refine wpAny_passesOwn hp (thn (T.done X rfl rfl rfl hc i pins s3 σ3 H3 X.xe I3 (stat fr3) st3 stop) fun r s4 ⟨hr, I4⟩ => ?_)
    subst hr
    exact wpAny_execs_nil ⟨σ3, H3, I4, qn⟩
  · refine wpAny_passesOwn hp (thn (T.item X rfl rfl rfl hc i pins s3 σ3 H3 X.xe I3 (stat fr3) st3 go) fun r s4 ⟨u, hr, h4⟩ => ?_)
    subst hr
    refine wpAny_passesOwn hp (thn h4 fun _ s5 ⟨x, H5, I5, r5, y5, st5, fr5⟩ => ?_)
    have I5' := I5.pinned (stat fr5) (T.obj _ _ st5)
    refine wpAny_passesOwn hp (thn (hg _ s5 σ3 H5 x u _ I5' r5 (step x H5 y5)) fun _ s6 ⟨σ6, H6, I6, q6⟩ => ?_)
    refine wpAny_passesOwn hp (thn (hb _ s6 σ6 H6 _ I6 q6) fun f s7 q7 => ?_)
    have again : ∀ {σ7 : St} {H7 : Hp}, Inv X (pins ++ pinsAt fp s5.heap) σ7 H7 s7 → N σ7 H7 → ∃ m, m < n ∧ ∃ i σ' H', Inv X pins σ' H' s7 ∧ tn i s7.heap ∧ (∀ b ∈ fp, H' b = none) ∧ W i m σ' H' := fun {σ7 H7} I7 n7 => by
      obtain ⟨m', hm, w7⟩ := hN σ7 H7 n7
      refine ⟨m', hm, i + 1, σ7, H7, I7.unpinned, T.keep _ _ _ st5 fun b hb o e => (I7.pin (b, o) (List.mem_append_right _ (List.mem_append_right _ (mem_pinsAt hb e)))).1, fun b hb => ?_, w7⟩
      obtain ⟨o, e, d⟩ := T.obj _ _ st5 b hb
      exact (I7.pin (b, o) (List.mem_append_right _ (List.mem_append_right _ (mem_pinsAt hb e)))).2.1
    cases f with
    | next => obtain ⟨σ7, H7, I7, n7⟩ := q7; exact again I7 n7
    | cont => obtain ⟨σ7, H7, I7, n7⟩ := q7; exact again I7 n7
    | brk => obtain ⟨σ7, H7, I7, q7⟩ := q7; exact ⟨σ7, H7, I7.unpinned, q7⟩
    | ret v => obtain ⟨x7, σ7, H7, I7, r7, q7⟩ := q7; exact ⟨x7, σ7, H7, I7.unpinned, r7, q7⟩
end

theorem for_list {K : PySem.W.Frag} {a : Addr} {xs : List V} {g : TG} {tb : TS} {D : Ends} {σ : St} {H : Hp} (Pv : Nat → St → Hp → Prop) (h0 : Pv 0 σ H) (hl : ∀ i σ H, i ≤ xs.length → Pv i σ H → SqL K H a xs)
    (hs : ∀ i x σ H, xs[i]? = some x → Pv i σ H → g x σ H fun σ2 H2 => tb { D with nx := Pv (i + 1), ct := Pv (i + 1), bk := D.nx } σ2 H2) (hd : ∀ σ H, Pv xs.length σ H → D.nx σ H) :
    ∃ W : Nat → Nat → St → Hp → Prop, (∃ m, W 0 m σ H) ∧ ∀ i m σ H, W i m σ H →
      ((Itl K a).stop i H ∧ D.nx σ H) ∨ ((Itl K a).go i H ∧ ∃ N : St → Hp → Prop, (∀ σ' H', N σ' H' → ∃ m', m' < m ∧ W (i + 1) m' σ' H') ∧ ∀ x H', (Itl K a).yld i H x H' → g x σ H' fun σ2 H2 => tb { D with nx := N, ct := N, bk := D.nx } σ2 H2) := by
  refine ⟨fun i m σ H => m = xs.length - i ∧ i ≤ xs.length ∧ Pv i σ H, ⟨xs.length, by simp, Nat.zero_le _, h0⟩, ?_⟩
  rintro i m σ H ⟨rfl, hi, p⟩
  have q := hl i σ H hi p
  by_cases hlt : i < xs.length
  · refine .inr ⟨⟨xs, xs[i], q, by simp [hlt]⟩, Pv (i + 1), fun σ' H' p' => ⟨xs.length - (i + 1), by omega, rfl, hlt, p'⟩, fun x H' y => ?_⟩
    obtain ⟨e, y⟩ := y
    subst e
    exact hs i x σ _ (y xs q) p
  · have e : i = xs.length := by omega
    subst e
    exact .inl ⟨⟨xs, q, Nat.le_refl _⟩, hd σ H p⟩
theorem for_range {lo : Int} {n : Nat} {g : TG} {tb : TS} {D : Ends} {σ : St} {H : Hp} (Pv : Nat → St → Hp → Prop) (h0 : Pv 0 σ H)
    (hs : ∀ i σ H, i < n → Pv i σ H → g (.int (lo + i)) σ H fun σ2 H2 => tb { D with nx := Pv (i + 1), ct := Pv (i + 1), bk := D.nx } σ2 H2) (hd : ∀ σ H, Pv n σ H → D.nx σ H) :
    ∃ W : Nat → Nat → St → Hp → Prop, (∃ m, W 0 m σ H) ∧ ∀ i m σ H, W i m σ H →
      ((Itr lo n).stop i H ∧ D.nx σ H) ∨ ((Itr lo n).go i H ∧ ∃ N : St → Hp → Prop, (∀ σ' H', N σ' H' → ∃ m', m' < m ∧ W (i + 1) m' σ' H') ∧ ∀ x H', (Itr lo n).yld i H x H' → g x σ H' fun σ2 H2 => tb { D with nx := N, ct := N, bk := D.nx } σ2 H2) := by
  refine ⟨fun i m σ H => m = n - i ∧ i ≤ n ∧ Pv i σ H, ⟨n, by simp, Nat.zero_le _, h0⟩, ?_⟩
  rintro i m σ H ⟨rfl, hi, p⟩
  by_cases hlt : i < n
  · refine .inr ⟨hlt, Pv (i + 1), fun σ' H' p' => ⟨n - (i + 1), by omega, rfl, hlt, p'⟩, fun x H' y => ?_⟩
    obtain ⟨e, y⟩ := y
    subst e y
    exact hs i σ _ hlt p
  · have e : i = n := by omega
    subst e
    exact .inl ⟨Nat.le_refl _, hd σ H p⟩
theorem while_by {c : TT} {tb : TS} {D : Ends} {σ : St} {H : Hp} (Pv : St → Hp → Prop) (μ : St → Hp → Nat) (h0 : Pv σ H)
    (hs : ∀ σ H, Pv σ H → c σ H fun b H1 => if b = true then tb { D with nx := fun σ' H' => Pv σ' H' ∧ μ σ' H' < μ σ H, ct := fun σ' H' => Pv σ' H' ∧ μ σ' H' < μ σ H, bk := D.nx } σ H1 else D.nx σ H1)
    (mono : ∀ σ H Q Q', (∀ b H1, Q b H1 → Q' b H1) → c σ H Q → c σ H Q') : tWhile c tb D σ H := by
  refine ⟨fun m σ H => m = μ σ H ∧ Pv σ H, ⟨_, rfl, h0⟩, ?_⟩
  rintro m σ H ⟨rfl, p⟩
  refine mono σ H _ _ (fun b H1 q => ?_) (hs σ H p)
  cases b with
  | true => exact ⟨_, fun σ' H' ⟨p', l⟩ => ⟨_, l, rfl, p'⟩, q⟩
  | false => exact q
end L2

namespace L2
open PySem PySem.Spec PyProof.Rows

abbrev R2 := V → V → Hp → VK → Prop
def OpR (X : Cx) (f : Value → Value → Sem Value) (r : R2) : Prop :=
  ∀ (pins : List (Addr × Obj)) (s : Shared) (σ : St) (H : Hp) (x y : V) (v u : Value) (Q : VK), Inv X pins σ H s → RelV x v → RelV y u → r x y H Q →
    wpAny (model X.prog X.w) X.A (f v u) (EP X pins σ Q) X.xe s
def UnR (X : Cx) (f : Value → Sem Value) (r : V → Hp → VK → Prop) : Prop :=
  ∀ (pins : List (Addr × Obj)) (s : Shared) (σ : St) (H : Hp) (x : V) (v : Value) (Q : VK), Inv X pins σ H s → RelV x v → r x H Q →
    wpAny (model X.prog X.w) X.A (f v) (EP X pins σ Q) X.xe s
def CallR (X : Cx) (f : Value) (r : List V → Hp → VK → Prop) : Prop :=
  ∀ (pins : List (Addr × Obj)) (s : Shared) (σ : St) (H : Hp) (xs : List V) (us : List Value) (Q : VK), Inv X pins σ H s → Vals xs us → r xs H Q →
    wpAny (model X.prog X.w) X.A (call f us) (EP X pins σ Q) X.xe s
def TruR (X : Cx) (r : V → Hp → (Bool → Hp → Prop) → Prop) : Prop :=
  ∀ (pins : List (Addr × Obj)) (s : Shared) (σ : St) (H : Hp) (x : V) (v : Value) (Q : Bool → Hp → Prop), Inv X pins σ H s → RelV x v → r x H Q →
    wpAny (model X.prog X.w) X.A (truthy v) (TP X pins σ Q) X.xe s

def tOp (r : R2) (ta tb : TE) : TE := fun σ H Q => ta σ H fun x H1 => tb σ H1 fun y H2 => r x y H2 Q
def tUn (r : V → Hp → VK → Prop) (ta : TE) : TE := fun σ H Q => ta σ H fun x H1 => r x H1 Q
def rI (C : Int → Int → Prop) (g : Int → Int → V) : R2 := fun x y H Q => ∃ i j, x = .int i ∧ y = .int j ∧ C i j ∧ Q (g i j) H
def rI0 (g : Int → Int → V) : R2 := fun x y H Q => ∃ i j, x = .int i ∧ y = .int j ∧ Q (g i j) H
def rU (g : Int → V) : V → Hp → VK → Prop := fun x H Q => ∃ i, x = .int i ∧ Q (g i) H

section
variable {X : Cx} {a b c : Expr} {ta tb tc : TE} {pos : Pos}

theorem binT (ha : PE X a ta) (hb : PE X b tb) {pins : List (Addr × Obj)} {s : Shared} {σ : St} {H : Hp} {R : V → V → Hp → Prop} (I : Inv X pins σ H s)
    (h : ta σ H fun x H1 => tb σ H1 fun y H2 => R x y H2) {Q : Value → Shared → Prop} {f : Value → Value → Sem Value}
    (hf : ∀ v u s2 x y H2, Inv X pins σ H2 s2 → RelV x v → RelV y u → R x y H2 → wpAny (model X.prog X.w) X.A (f v u) Q X.xe s2) :
    wpAny (model X.prog X.w) X.A (eval a X.env) (fun v s₁ => wpAny (model X.prog X.w) X.A (eval b X.env) (fun u s₂ => wpAny (model X.prog X.w) X.A (f v u) Q X.xe s₂) X.xe s₁) X.xe s := by
  refine thn (ha pins s σ H _ I h) fun v s1 ⟨x, H1, I1, r1, q1⟩ => ?_
  refine thn (hb pins s1 σ H1 _ I1 q1) fun u s2 ⟨y, H2, I2, r2, q2⟩ => ?_
  exact hf v u s2 x y H2 I2 r1 r2 q2

theorem pe_op {op : Operator} {r : R2} (ho : OpR X (binaryOp op) r) (ha : PE X a ta) (hb : PE X b tb) : PE X (.BinOp a op b pos) (tOp r ta tb) := by
  intro pins s σ H Q I h
  exact wpAny_BinOp (binT ha hb I h fun v u s2 x y H2 I2 rx ry q => ho pins s2 σ H2 x y v u Q I2 rx ry q)
theorem pe_un {op : UnaryOp} {r : V → Hp → VK → Prop} (ho : UnR X (unaryOp op) r) (ha : PE X a ta) : PE X (.UnaryOp op a pos) (tUn r ta) := by
  intro pins s σ H Q I h
  exact UnaryOp_ (thn (ha pins s σ H _ I h) fun v s1 ⟨x, H1, I1, r1, q1⟩ => ho pins s1 σ H1 x v Q I1 r1 q1)
theorem opI {f : Value → Value → Sem Value} {C : Int → Int → Prop} {g : Int → Int → Int}
    (rule : ∀ (i j : Int) (t u : Tok) (s : Shared) (Q : Value → Shared → Prop) (E : Value → Shared → Prop), C i j → Q (.int (g i j) s.toks) { s with toks := s.toks + 1 } → wpAny (model X.prog X.w) X.A (f (.int i t) (.int j u)) Q E s) :
    OpR X f (rI C fun i j => .int (g i j)) := by
  intro pins s σ H x y v u Q I rx ry h
  obtain ⟨i, j, rfl, rfl, hc, q⟩ := h
  obtain ⟨t, rfl⟩ := rx
  obtain ⟨t', rfl⟩ := ry
  exact rule i j t t' s _ _ hc ⟨.int (g i j), H, I.tok _, ⟨_, rfl⟩, q⟩
theorem opI0 {f : Value → Value → Sem Value} {g : Int → Int → Int}
    (rule : ∀ (i j : Int) (t u : Tok) (s : Shared) (Q : Value → Shared → Prop) (E : Value → Shared → Prop), Q (.int (g i j) s.toks) { s with toks := s.toks + 1 } → wpAny (model X.prog X.w) X.A (f (.int i t) (.int j u)) Q E s) :
    OpR X f (rI0 fun i j => .int (g i j)) := by
  intro pins s σ H x y v u Q I rx ry h
  obtain ⟨i, j, rfl, rfl, q⟩ := h
  obtain ⟨t, rfl⟩ := rx
  obtain ⟨t', rfl⟩ := ry
  exact rule i j t t' s _ _ ⟨.int (g i j), H, I.tok _, ⟨_, rfl⟩, q⟩
theorem opB0 {f : Value → Value → Sem Value} {g : Int → Int → Bool}
    (rule : ∀ (i j : Int) (t u : Tok) (s : Shared) (Q : Value → Shared → Prop) (E : Value → Shared → Prop), Q (.bool (g i j)) s → wpAny (model X.prog X.w) X.A (f (.int i t) (.int j u)) Q E s) :
    OpR X f (rI0 fun i j => .bl (g i j)) := by
  intro pins s σ H x y v u Q I rx ry h
  obtain ⟨i, j, rfl, rfl, q⟩ := h
  obtain ⟨t, rfl⟩ := rx
  obtain ⟨t', rfl⟩ := ry
  exact rule i j t t' s _ _ ⟨.bl (g i j), H, I, rfl, q⟩

def CMul (i j : Int) : Prop := (-(2 ^ 64) < i ∧ i < 2 ^ 64) ∨ (-(2 ^ 64) < j ∧ j < 2 ^ 64)
theorem CMul.ok {i j : Int} (h : CMul i j) : IntMulOk i j := by
  rcases h with ⟨h1, h2⟩ | ⟨h1, h2⟩
  · exact .of_left (intBits_le_64 h1 h2)
  · exact .of_right (intBits_le_64 h1 h2)
theorem op_add : OpR X (binaryOp .Add) (rI0 fun i j => .int (i + j)) := opI0 fun _ _ _ _ _ _ _ q => add_int q
theorem op_sub : OpR X (binaryOp .Sub) (rI0 fun i j => .int (i - j)) := opI0 fun _ _ _ _ _ _ _ q => sub_int q
theorem op_mod : OpR X (binaryOp .Mod) (rI (fun _ j => 0 < j) fun i j => .int (i % j)) := opI fun i j _ _ _ _ _ hc q => by
  have h1 : (0 : Int) < j := hc
  exact mod_int' (by omega) (by rw [Int.fmod_eq_emod_of_nonneg i (by omega)]; exact q)
theorem unI {f : Value → Sem Value} {g : Int → Int}
    (rule : ∀ (i : Int) (t : Tok) (s : Shared) (Q : Value → Shared → Prop) (E : Value → Shared → Prop), Q (.int (g i) s.toks) { s with toks := s.toks + 1 } → wpAny (model X.prog X.w) X.A (f (.int i t)) Q E s) :
    UnR X f (rU fun i => .int (g i)) := by
  intro pins s σ H x v Q I rx h
  obtain ⟨i, rfl, q⟩ := h
  obtain ⟨t, rfl⟩ := rx
  exact rule i t s _ _ ⟨.int (g i), H, I.tok _, ⟨_, rfl⟩, q⟩
theorem un_neg : UnR X (unaryOp .USub) (rU fun i => .int (-i)) := unI fun _ _ _ _ _ q => neg_int q
end

def scal : V → V → Bool
  | .non, .non => true | .non, .int _ => true | .int _, .non => true | .non, .bl _ => true | .bl _, .non => true | .non, .str _ => true | .str _, .non => true
  | .int _, .int _ => true | .bl _, .bl _ => true | .str _, .str _ => true | .byt _, .byt _ => true
  | .int _, .str _ => true | .str _, .int _ => true | .bl _, .str _ => true | .str _, .bl _ => true
  | _, _ => false
def rEq : R2 := fun x y H Q => scal x y = true ∧ Q (.bl (decide (x = y))) H
def rNe : R2 := fun x y H Q => scal x y = true ∧ Q (.bl (!decide (x = y))) H

theorem dec_int {i j : Int} : decide (V.int i = V.int j) = (i == j) := by
  rw [Bool.eq_iff_iff]
  simp
theorem dec_bl {i j : Bool} : decide (V.bl i = V.bl j) = (i == j) := by
  rw [Bool.eq_iff_iff]
  simp
theorem dec_str {i j : Str} : decide (V.str i = V.str j) = (i == j) := by
  rw [Bool.eq_iff_iff]
  simp
theorem dec_byt {i j : Array UInt8} : decide (V.byt i = V.byt j) = (i.toList == j.toList) := by
  rw [Bool.eq_iff_iff]
  cases i
  cases j
  simp

section
variable {X : Cx} {a b c : Expr} {ta tb tc : TE} {pos : Pos}
theorem fin_bl {pins : List (Addr × Obj)} {σ : St} {H : Hp} {s : Shared} {Q : VK} {k k' : Bool} (I : Inv X pins σ H s) (q : Q (.bl k) H) (e : k = k') : EP X pins σ Q (.bool k') s := by
  subst e
  exact ⟨.bl k, H, I, rfl, q⟩
theorem op_eq : OpR X (compareOp .Eq) rEq := by
  intro pins s σ H x y v u Q I rx ry h
  obtain ⟨hs, q⟩ := h
  cases x with
  | non =>
    cases rx
    cases y with
    | non => cases ry; exact PySem.EqNone.eq_none_none (fin_bl I q (by simp))
    | bl j => cases ry; exact PySem.EqNone.eq_none_bool (fin_bl I q (by simp))
    | int j => obtain ⟨t', rfl⟩ := ry; exact PySem.EqNone.eq_none_int (fin_bl I q (by simp))
    | str j => obtain ⟨t', rfl⟩ := ry; exact PySem.EqNone.eq_none_str (fin_bl I q (by simp))
    | _ => exact absurd (show false = true from hs) Bool.false_ne_true
  | bl i =>
    cases rx
    cases y with
    | non => cases ry; exact PySem.EqNone.eq_bool_none (fin_bl I q (by simp))
    | bl j => cases ry; exact eq_bool (fin_bl I q dec_bl)
    | str j => obtain ⟨t', rfl⟩ := ry; exact PySem.EqMixed.eq_bool_str (fin_bl I q (by simp))
    | _ => exact absurd (show false = true from hs) Bool.false_ne_true
  | int i =>
    obtain ⟨t, rfl⟩ := rx
    cases y with
    | non => cases ry; exact PySem.EqNone.eq_int_none (fin_bl I q (by simp))
    | int j => obtain ⟨t', rfl⟩ := ry; exact eq_int (fin_bl I q dec_int)
    | str j => obtain ⟨t', rfl⟩ := ry; exact PySem.EqMixed.eq_int_str (fin_bl I q (by simp))
    | _ => exact absurd (show false = true from hs) Bool.false_ne_true
  | str i =>
    obtain ⟨t, rfl⟩ := rx
    cases y with
    | non => cases ry; exact PySem.EqNone.eq_str_none (fin_bl I q (by simp))
    | bl j => cases ry; exact PySem.EqMixed.eq_str_bool (fin_bl I q (by simp))
    | int j => obtain ⟨t', rfl⟩ := ry; exact PySem.EqMixed.eq_str_int (fin_bl I q (by simp))
    | str j => obtain ⟨t', rfl⟩ := ry; exact eq_str (fin_bl I q dec_str)
    | _ => exact absurd (show false = true from hs) Bool.false_ne_true
  | byt i =>
    obtain ⟨t, rfl⟩ := rx
    cases y with
    | byt j => obtain ⟨t', rfl⟩ := ry; exact PySem.W.eq_bytes (fin_bl I q dec_byt)
    | _ => exact absurd (show false = true from hs) Bool.false_ne_true
  | _ => cases y <;> exact absurd (show false = true from hs) Bool.false_ne_true
theorem op_ne : OpR X (compareOp .NotEq) rNe := by
  intro pins s σ H x y v u Q I rx ry h
  obtain ⟨hs, q⟩ := h
  cases x with
  | non =>
    cases rx
    cases y with
    | non => cases ry; exact PySem.EqNone.ne_none_none (fin_bl I q (by simp))
    | bl j => cases ry; exact PySem.EqNone.ne_none_bool (fin_bl I q (by simp))
    | int j => obtain ⟨t', rfl⟩ := ry; exact PySem.EqNone.ne_none_int (fin_bl I q (by simp))
    | str j => obtain ⟨t', rfl⟩ := ry; exact PySem.EqNone.ne_none_str (fin_bl I q (by simp))
    | _ => exact absurd (show false = true from hs) Bool.false_ne_true
  | bl i =>
    cases rx
    cases y with
    | non => cases ry; exact PySem.EqNone.ne_bool_none (fin_bl I q (by simp))
    | bl j => cases ry; exact ne_bool (fin_bl I q (congrArg not dec_bl))
    | str j => obtain ⟨t', rfl⟩ := ry; exact PySem.EqMixed.ne_bool_str (fin_bl I q (by simp))
    | _ => exact absurd (show false = true from hs) Bool.false_ne_true
  | int i =>
    obtain ⟨t, rfl⟩ := rx
    cases y with
    | non => cases ry; exact PySem.EqNone.ne_int_none (fin_bl I q (by simp))
    | int j => obtain ⟨t', rfl⟩ := ry; exact ne_int (fin_bl I q (congrArg not dec_int))
    | str j => obtain ⟨t', rfl⟩ := ry; exact PySem.EqMixed.ne_int_str (fin_bl I q (by simp))
    | _ => exact absurd (show false = true from hs) Bool.false_ne_true
  | str i =>
    obtain ⟨t, rfl⟩ := rx
    cases y with
    | non => cases ry; exact PySem.EqNone.ne_str_none (fin_bl I q (by simp))
    | bl j => cases ry; exact PySem.EqMixed.ne_str_bool (fin_bl I q (by simp))
    | int j => obtain ⟨t', rfl⟩ := ry; exact PySem.EqMixed.ne_str_int (fin_bl I q (by simp))
    | str j => obtain ⟨t', rfl⟩ := ry; exact ne_str (fin_bl I q (congrArg not dec_str))
    | _ => exact absurd (show false = true from hs) Bool.false_ne_true
  | byt i =>
    obtain ⟨t, rfl⟩ := rx
    cases y with
    | byt j => obtain ⟨t', rfl⟩ := ry; exact PySem.W.ne_bytes (fin_bl I q (congrArg not dec_byt))
    | _ => exact absurd (show false = true from hs) Bool.false_ne_true
  | _ => cases y <;> exact absurd (show false = true from hs) Bool.false_ne_true

theorem op_lt : OpR X (compareOp .Lt) (rI0 fun i j => .bl (decide (i < j))) := opB0 fun _ _ _ _ _ _ _ q => lt_int q
theorem op_gt : OpR X (compareOp .Gt) (rI0 fun i j => .bl (decide (j < i))) := opB0 fun _ _ _ _ _ _ _ q => gt_int q
theorem op_ge : OpR X (compareOp .GtE) (rI0 fun i j => .bl (decide (j ≤ i))) := opB0 fun _ _ _ _ _ _ _ q => ge_int q
theorem nomark (b : Expr) {op : CmpOp} (h : op ≠ .In := by decide) (h2 : op ≠ .NotIn := by decide) : behindInMarks op b = false := by
  have e1 : (op == CmpOp.In) = false := by cases op <;> first | rfl | exact absurd rfl h
  have e2 : (op == CmpOp.NotIn) = false := by cases op <;> first | rfl | exact absurd rfl h2
  cases b <;> simp [behindInMarks, e1, e2]
theorem pe_cmpR {op : CmpOp} {r : R2} (ho : OpR X (compareOp op) r) (ha : PE X a ta) (hb : PE X b tb) (hm : behindInMarks op b = false) : PE X (.Compare a [op] [b] pos) (tOp r ta tb) := by
  intro pins s σ H Q I h
  exact wpAny_Compare1 (binT ha hb I h fun v u s2 x y H2 I2 rx ry q => ho pins s2 σ H2 x y v u Q I2 rx ry q) hm
def tTest (t : TE) : TT := fun σ H Q => t σ H fun x H' => ∃ k, x = .bl k ∧ Q k H'
theorem pt_cmpR {op : CmpOp} {r : R2} (ho : OpR X (compareOp op) r) (ha : PE X a ta) (hb : PE X b tb) (hm : behindInMarks op b = false) : PT X (.Compare a [op] [b] pos) (tTest (tOp r ta tb)) := by
  intro pins s σ H Q I h
  refine wpAny_isTrue_Compare1 (thn (ha pins s σ H _ I h) fun v s1 ⟨x, H1, I1, r1, q1⟩ => thn (hb pins s1 σ H1 _ I1 q1) fun u s2 ⟨y, H2, I2, r2, q2⟩ =>
    thn (ho pins s2 σ H2 x y v u _ I2 r1 r2 q2) fun c s3 ⟨z, H3, I3, r3, k, e, q3⟩ => ?_) hm
  subst e
  cases r3
  exact wpAny_truthy_bool ⟨H3, I3, q3⟩
def TruV (K : PySem.W.Frag) (x : V) (H : Hp) (k : Bool) : Prop :=
  match x with
  | .non => k = false
  | .bl b => k = b
  | .int i => k = (i != 0)
  | .str y => y.length ≤ sizeLine ∧ k = ((y.length : Int) != 0)
  | .byt y => y.size ≤ sizeLine ∧ k = ((y.size : Int) != 0)
  | .ref p => (∃ xs, SqL K H p xs ∧ k = !xs.isEmpty) ∨ (∃ xs, SqT K H p xs ∧ k = !xs.isEmpty) ∨ ∃ kvs, H p = some (.dK kvs) ∧ k = !kvs.isEmpty
  | _ => False
theorem isEmpty_kv {κ : Type} {kvs : List (κ × V)} {vs : List (κ × Value)} (r : KV kvs vs) : (!vs.isEmpty) = !kvs.isEmpty := by
  cases r <;> rfl
theorem isEmpty_of {xs : List V} {its : List Value} (r : Vals xs its) : (!its.toArray.isEmpty) = !xs.isEmpty := by
  cases r <;> simp
theorem line63 : (sizeLine : Nat) < 2 ^ 63 := by rw [sizeLine_eq]; decide
theorem tru_ok : TruR X (fun x H Q => ∃ k, TruV X.K x H k ∧ Q k H) := by
  intro pins s σ H x v Q I rx h
  obtain ⟨k, e, q⟩ := h
  have hl := line63
  have hs : sizeLine = 16777216 := sizeLine_eq
  cases x with
  | non =>
    cases rx
    have e' : k = false := e
    subst e'
    exact truthy_none ⟨H, I, q⟩
  | bl b =>
    cases rx
    have e' : k = b := e
    subst e'
    exact wpAny_truthy_bool ⟨H, I, q⟩
  | int i =>
    obtain ⟨t, rfl⟩ := rx
    have e' : k = (i != 0) := e
    subst e'
    exact PySem.P.truthy_int ⟨H, I, q⟩
  | str y =>
    obtain ⟨t, rfl⟩ := rx
    obtain ⟨hy, e'⟩ : y.length ≤ sizeLine ∧ k = ((y.length : Int) != 0) := e
    subst e'
    exact PySem.P.truthy_str (by omega) ⟨H, I.tok _, q⟩
  | byt y =>
    obtain ⟨t, rfl⟩ := rx
    obtain ⟨hy, e'⟩ : y.size ≤ sizeLine ∧ k = ((y.size : Int) != 0) := e
    subst e'
    exact PySem.W.truthy_bytes (by omega) ⟨H, I.tok _, q⟩
  | ref p =>
    cases rx
    have e' : (∃ xs, SqL X.K H p xs ∧ k = !xs.isEmpty) ∨ (∃ xs, SqT X.K H p xs ∧ k = !xs.isEmpty) ∨ ∃ kvs, H p = some (.dK kvs) ∧ k = !kvs.isEmpty := e
    rcases e' with ⟨xs, hx, e'⟩ | ⟨xs, hx, e'⟩ | ⟨kvs, hx, e'⟩
    · subst e'
      obtain ⟨its, r, pl, hz⟩ := I.list hx
      have hlen := r.length
      exact wpAny_truthy_list pl.isList (by simp only [List.size_toArray]; omega) ⟨H, I.tok _, by rw [isEmpty_of r]; exact q⟩
    · subst e'
      obtain ⟨its, r, pl, hz⟩ := I.tuple hx
      have hlen := r.length
      exact truthy_tuple pl (by simp only [List.size_toArray]; omega) ⟨H, I.tok _, by rw [isEmpty_of r]; exact q⟩
    · subst e'
      obtain ⟨hz, hS, vs, r, m⟩ : kvs.length ≤ sizeLine ∧ (p == sysModules) = false ∧ ∃ vs, KV kvs vs ∧ s.heap.DictOf (mixKind X.prog X.w) p vs := I.hok p _ hx
      have hlen : kvs.length = vs.length := Paired.length r
      exact wpAny_truthy_dict hS m (by omega) ⟨H, I.tok _, by rw [isEmpty_kv r]; exact q⟩
  | _ => exact (show False from e).elim
theorem pt_truth (ha : PE X a ta) (he : ∀ whole, isTrue a X.env whole = (do let v ← whole; standAt a.pos; holding [v] (truthy v))) :
    PT X a (fun σ H Q => ta σ H fun x H' => ∃ k, TruV X.K x H' k ∧ Q k H') := by
  intro pins s σ H Q I h
  exact isTrue_plain (thn (ha pins s σ H _ I h) fun v s1 ⟨x, H1, I1, r1, q1⟩ => tru_ok pins s1 σ H1 x v Q I1 r1 q1) (he _)

theorem vals1 {x : V} {us : List Value} (r : Vals [x] us) : ∃ u, us = [u] ∧ RelV x u := by
  cases r with
  | cons r1 r2 => cases r2; exact ⟨_, rfl, r1⟩
end
end L2

namespace L2
open PySem PySem.Spec PyProof.Rows

structure ObjM (h : Heap) (x dx C : Addr) (mA : Str → Option Value) : Prop where
  obj : h.get? x = some (PySem.W.instObj C dx)
  ns : h.Ns1 dx mA
  ne : dx ≠ x

theorem lookIn_ns {h : Heap} {dx : Addr} {mA : Str → Option Value} (n : h.Ns1 dx mA) : ∃ od, h.get? dx = some od ∧ ∀ name, PySem.W.lookIn name od = some (mA name) := by
  obtain ⟨o, es, ep, ho, hd, hk, _, hm⟩ := n
  refine ⟨o, ho, fun name => ?_⟩
  have e := hm name
  unfold nsFind findBy at e
  rw [← Array.find?_toList] at e
  unfold PySem.W.lookIn
  rw [hd]
  dsimp only
  split
  · rename_i y q
    rw [q] at e
    exact congrArg some e
  · rename_i q
    rw [q] at e
    have a : es.toList.any (·.refKey) = false := by
      rw [List.any_eq_false]
      intro y hy
      obtain ⟨z, t, hkey⟩ := hk y (Array.mem_toList_iff.mp hy)
      simp [DictEntry.refKey, hkey]
    have a' : ¬ es.toList.any (·.refKey) = true := by rw [a]; exact Bool.false_ne_true
    rw [if_neg a']
    exact congrArg some e

theorem ObjM.look {h : Heap} {x dx C : Addr} {mA : Str → Option Value} (I : ObjM h x dx C mA) : ∃ od, PySem.W.InstAt h x (PySem.W.instObj C dx) C (some od) ∧ ∀ name, PySem.W.lookIn name od = some (mA name) :=
  let ⟨od, ho, hl⟩ := lookIn_ns I.ns
  ⟨od, ⟨I.obj, rfl, rfl, ho⟩, hl⟩

section
variable {prog : Program} {w : World} {A : Around} {E : Value → Shared → Prop} {s : Shared} {K : PySem.W.Frag} {x dx C f : Addr} {mA : Str → Option Value} {name : Str} {v : Value}

theorem get_map {expr : Bool} {Q : Value → Shared → Prop} (X : K.In s.heap) (I : ObjM s.heap x dx C mA) (hg : PySem.W.plainGet K C name = true) (hh : PySem.W.hasDictIn K C = true)
    (ha : PySem.W.findIn K (.ref C) name = some none) (hv : mA name = some v) (hv' : PySem.W.handedIn v = true) (h : Q v { s with toks := s.toks + 1 }) :
    wpAny (model prog w) A (getAttr (.ref x) name expr) Q E s := by
  obtain ⟨od, J, hl⟩ := I.look
  exact PySem.W.get_value X J (PySem.W.plainGet_of hg).1 (PySem.W.findObj_own hh ha rfl (by rw [hl, hv])) hv' h

theorem get_meth {pl : Sem Bool} {Q : Value × List Value → Shared → Prop} (X : K.In s.heap) (I : ObjM s.heap x dx C mA) (hg : PySem.W.plainGet K C name = true)
    (hf : PySem.W.findIn K (.ref C) name = some (some (.ref f))) (ht : PySem.W.isFn K (.ref f) = true) (hv : mA name = none) (h : Q (.ref f, [.ref x]) s) :
    wpAny (model prog w) A (getMethod (.ref x) name pl) Q E s := by
  obtain ⟨od, J, hl⟩ := I.look
  exact PySem.W.method_fn X J (PySem.W.plainGet_of hg).1 (PySem.W.plainGet_of hg).2 hf (beq_iff_eq.mp ht) (by show (PySem.W.lookIn name od).map (·.isSome) = some false; rw [hl, hv]; rfl) h

theorem set_map {ns : List Str} {Q : Unit → Shared → Prop} (X : K.In s.heap) (I : ObjM s.heap x dx C mA)
    (hs : PySem.W.findIn K (.ref C) "__setattr__" = some (some (.builtin "object.__setattr__"))) (hp : PySem.W.plainOver K C = true) (ht : PySem.W.takerIn K C name = some none) (hh : PySem.W.hasDictIn K C = true)
    (hw : PySem.Within mA ns) (hsz : ns.length ≤ sizeLine)
    (h : ∀ h', ObjM h' x dx C (fun y => if y = name then some v else mA y) → Heap.SameBut dx s.heap h' → Q () { s with heap := h', toks := s.toks + 2 }) :
    wpAny (model prog w) A (setAttr (.ref x) name v) Q E s := by
  obtain ⟨od, J, hl⟩ := I.look
  refine PySem.W.set_plain X J hs (PySem.W.osa_open (s := { s with toks := s.toks + 1 }) (r := none) X J hp ht fun b => ?_)
  obtain ⟨cd, hc, hd'⟩ := PySem.W.any_some hh
  have hx : s.heap.get? x = some ⟨.ref C, some dx, .plain, #[]⟩ := I.obj
  refine wpAny_bind (wpAny_pure (wpAny_bind (wpAny_bind (wpAny_loadPart hx (wpAny_bind (PySem.W.Looks.here (s := { s with toks := s.toks + 1 }) (PySem.W.looks_clsIn X hc) ?_))))))
  rw [hd']
  refine wpAny_pure (a := some dx) (wpAny_bind (wpAny_pure (wpAny_bind ?_)))
  refine wpAny_nsSet1 (s := { s with toks := s.toks + 1 }) I.ns fun h' hn2 hs2 => ?_
  obtain ⟨oD, esD, epD, hoD, hdD, hcD⟩ := hn2.count (PySem.Within.cons name v hw)
  refine wpAny_bind (wpAny_lookBehind hoD (by rw [hdD]; exact pastItsLine_dict (Nat.le_trans hcD (by rw [List.length_cons]; omega))) ?_)
  exact wpAny_pure (h _ ⟨(hs2.2 _ (Ne.symm I.ne)).trans I.obj, hn2, I.ne⟩ hs2)

theorem make_map {R : Result → Shared → Prop} {vs : List Value} {kw : List (Str × Value)} (X : K.In s.heap) (hm : PySem.W.makesIn K C = true)
    (hi : PySem.W.findIn K (.ref C) "__init__" = some (some (.ref f))) (hf : PySem.W.typeIn K (.ref f) = some (.type "function"))
    (h : codeAny (model prog w) (A.under (.builtin "type.__call__" ⟨.ref C :: vs, kw⟩)) (.call (.ref f) ⟨.ref (s.heap.objs.size + 1) :: vs, kw⟩) (PySem.W.InitBack (s.heap.objs.size + 1) R)
      { s with heap := (s.heap.push PySem.W.emptyDict).push (PySem.W.instObj C s.heap.objs.size) }) :
    codeAny (model prog w) A (.call (.ref C) ⟨vs, kw⟩) R s := by
  obtain ⟨hh, g, d, t, os⟩ := s
  exact PySem.W.make_core (PySem.W.makes_of X hm) (PySem.W.looks_findIn X hi) (fun self => PySem.W.bind_fn X self hf) (.inl rfl) h
end

def putF (f : Str) (v : V) : List (Str × V) → List (Str × V)
  | [] => [(f, v)]
  | (g, x) :: r => if g = f then (g, v) :: r else (g, x) :: putF f v r
theorem lookup_putF (f g : Str) (v : V) : ∀ fs : List (Str × V), (putF f v fs).lookup g = if g = f then some v else fs.lookup g
  | [] => by
    show List.lookup g [(f, v)] = _
    by_cases h : g = f
    · have hb : (g == f) = true := beq_iff_eq.mpr h
      simp only [List.lookup, hb, if_pos h]
    · have hb : (g == f) = false := beq_eq_false_iff_ne.mpr h
      simp only [List.lookup, hb, if_neg h]
  | (k, x) :: r => by
    have ih := lookup_putF f g v r
    rw [show putF f v ((k, x) :: r) = (if k = f then (k, v) :: r else (k, x) :: putF f v r) from rfl]
    by_cases hk : k = f
    · rw [if_pos hk]
      by_cases h : g = k
      · have hb : (g == k) = true := beq_iff_eq.mpr h
        simp only [List.lookup, hb, if_pos (h.trans hk)]
      · have hb : (g == k) = false := beq_eq_false_iff_ne.mpr h
        simp only [List.lookup, hb, if_neg (fun e : g = f => h (e.trans hk.symm))]
    · rw [if_neg hk]
      by_cases h : g = k
      · have hb : (g == k) = true := beq_iff_eq.mpr h
        simp only [List.lookup, hb, if_neg (fun e : g = f => hk (h.symm.trans e))]
      · have hb : (g == k) = false := beq_eq_false_iff_ne.mpr h
        simp only [List.lookup, hb]
        exact ih
theorem keys_putF (f : Str) (v : V) : ∀ fs : List (Str × V), f ∈ (putF f v fs).map (·.1) ∧ ∀ g, g ∈ fs.map (·.1) → g ∈ (putF f v fs).map (·.1)
  | [] => ⟨by simp [putF], fun g h => by simp at h⟩
  | (k, x) :: r => by
    obtain ⟨i1, i2⟩ := keys_putF f v r
    rw [show putF f v ((k, x) :: r) = (if k = f then (k, v) :: r else (k, x) :: putF f v r) from rfl]
    by_cases hk : k = f
    · rw [if_pos hk]
      subst hk
      exact ⟨by simp, fun g h => by simpa using h⟩
    · rw [if_neg hk]
      refine ⟨?_, fun g h => ?_⟩
      · rw [List.map_cons]
        exact List.mem_cons_of_mem _ i1
      · rw [List.map_cons] at h ⊢
        rcases List.mem_cons.mp h with e | e
        · exact List.mem_cons.mpr (.inl e)
        · exact List.mem_cons_of_mem _ (i2 g e)
theorem length_putF (f : Str) (v : V) : ∀ fs : List (Str × V), (putF f v fs).length ≤ fs.length + 1
  | [] => by simp [putF]
  | (k, x) :: r => by
    have ih := length_putF f v r
    rw [show putF f v ((k, x) :: r) = (if k = f then (k, v) :: r else (k, x) :: putF f v r) from rfl]
    by_cases hk : k = f
    · rw [if_pos hk, List.length_cons, List.length_cons]; omega
    · rw [if_neg hk, List.length_cons, List.length_cons]; omega

theorem RelO.some_of {v : V} {o : Option Value} (r : RelO (some v) o) : ∃ u, o = some u ∧ RelV v u := by
  cases o with
  | none => exact (show False from r).elim
  | some u => exact ⟨u, rfl, r⟩
theorem RelO.none_of {o : Option Value} (r : RelO none o) : o = none := by
  cases o with
  | none => rfl
  | some u => exact (show False from r).elim
theorem handed_of {v : V} {u : Value} (r : RelV v u) : PySem.W.handedIn u = true := by
  cases v with
  | non => cases (show u = Value.none from r); rfl
  | bl b => cases (show u = Value.bool b from r); rfl
  | int i => obtain ⟨t, e⟩ := (show ∃ t, u = Value.int i t from r); cases e; rfl
  | str x => obtain ⟨t, e⟩ := (show ∃ t, u = Value.str x t from r); cases e; rfl
  | byt b => obtain ⟨t, e⟩ := (show ∃ t, u = Value.bytes b t from r); cases e; rfl
  | flt b => obtain ⟨t, e⟩ := (show ∃ t, u = Value.float b t from r); cases e; rfl
  | ref a => cases (show u = Value.ref a from r); rfl
  | ty n => cases (show u = Value.type n from r); rfl

section
variable {P : Program} {w : World} {H H' : Hp} {h h' : Heap} {a C dx : Addr} {fs fs' : List (Str × V)}
theorem ins_get (hok : HOk P w H h) (e : H a = some (.ins C dx fs)) : ∃ mA, ObjM h a dx C mA ∧ (∀ f, RelO (fs.lookup f) (mA f)) ∧ PySem.Within mA (fs.map (·.1)) ∧ fs.length ≤ 1000 ∧ H dx = some (.own a) := by
  obtain ⟨d, z, ne, ob, mA, n, r, q⟩ := (show ObjOk P w H h a (.ins C dx fs) from hok a _ e)
  exact ⟨mA, ⟨ob, n, ne⟩, r, q, z, d⟩
end

structure Cls (K : PySem.W.Frag) (C : Addr) : Prop where
  pg : PySem.W.plainGet K C Str.empty = true
  hd : PySem.W.hasDictIn K C = true
  po : PySem.W.plainOver K C = true
  sa : PySem.W.findIn K (.ref C) "__setattr__" = some (some (.builtin "object.__setattr__"))
theorem Cls.get {K : PySem.W.Frag} {C : Addr} (c : Cls K C) (f : Str) : PySem.W.plainGet K C f = true := c.pg
def NoAttr (K : PySem.W.Frag) (C : Addr) (f : Str) : Prop := PySem.W.findIn K (.ref C) f = some none
theorem NoAttr.taker {K : PySem.W.Frag} {C : Addr} {f : Str} (n : NoAttr K C f) : PySem.W.takerIn K C f = some none := by
  unfold PySem.W.takerIn
  rw [show PySem.W.findIn K (.ref C) f = some none from n]
  rfl
structure Meth (K : PySem.W.Frag) (C : Addr) (m : Str) (f : Addr) : Prop where
  at_ : PySem.W.findIn K (.ref C) m = some (some (.ref f))
  fn : PySem.W.isFn K (.ref f) = true
  kp : PySem.W.keepIn K (.ref f) = true

section
variable {X : Cx} {pins : List (Addr × Obj)} {σ : St} {H : Hp} {s : Shared} {a C dx : Addr} {fs : List (Str × V)} {f : Str} {v : V} {A : Around} {E : Value → Shared → Prop}

theorem getattr_ok {b : Bool} {Q : Value → Shared → Prop} (I : Inv X pins σ H s) (e : H a = some (.ins C dx fs)) (c : Cls X.K C) (n : NoAttr X.K C f) (l : fs.lookup f = some v)
    (h : ∀ u s', Inv X pins σ H s' → RelV v u → Q u s') : wpAny (model X.prog X.w) A (getAttr (.ref a) f b) Q E s := by
  obtain ⟨mA, O, r, _, _, _⟩ := ins_get I.hok e
  obtain ⟨u, hu, ru⟩ := RelO.some_of (v := v) (o := mA f) (by rw [← l]; exact r f)
  exact get_map I.kIn O (c.get f) c.hd n hu (handed_of ru) (h u _ (I.tok _) ru)

theorem getmeth_ok {m : Str} {g : Addr} {pl : Sem Bool} {Q : Value × List Value → Shared → Prop} (I : Inv X pins σ H s) (e : H a = some (.ins C dx fs)) (c : Cls X.K C) (k : Meth X.K C m g) (l : fs.lookup m = none)
    (h : Q (.ref g, [.ref a]) s) : wpAny (model X.prog X.w) A (getMethod (.ref a) m pl) Q E s := by
  obtain ⟨mA, O, r, _, _, _⟩ := ins_get I.hok e
  have hn : mA m = none := RelO.none_of (by rw [← l]; exact r m)
  exact get_meth I.kIn O (c.get m) k.at_ k.fn hn h

theorem setattr_ok {y : V} {u : Value} {Q : Unit → Shared → Prop} (I : Inv X pins σ H s) (e : H a = some (.ins C dx fs)) (c : Cls X.K C) (n : NoAttr X.K C f) (hl : fs.length < 1000) (ry : RelV y u)
    (h : ∀ s', Inv X pins σ (upd H a (.ins C dx (putF f y fs))) s' → Q () s') : wpAny (model X.prog X.w) A (setAttr (.ref a) f u) Q E s := by
  obtain ⟨mA, O, r, wi, _, ho⟩ := ins_get I.hok e
  have hz : (fs.map (·.1)).length ≤ sizeLine := by rw [List.length_map, sizeLine_eq]; omega
  refine set_map I.kIn O c.sa c.po n.taker c.hd wi hz fun h' O' sb => h _ ?_
  have hd : ∃ o, h'.get? dx = some o := let ⟨o, _, _, e', _⟩ := O'.ns; ⟨o, e'⟩
  refine I.write (x := a) (e := dx) (by rw [e]; exact True.intro) (.inr ho) (fun b q hb z => (sb.2 b hb).trans z) hd ?_
  refine ⟨by rw [upd_ne O.ne]; exact ho, ?_, O.ne, O'.obj, _, O'.ns, fun g => ?_, fun g hg => ?_⟩
  · have := length_putF f y fs; omega
  · show RelO ((putF f y fs).lookup g) (if g = f then some u else mA g)
    rw [lookup_putF]
    by_cases q : g = f
    · rw [if_pos q, if_pos q]; exact ry
    · rw [if_neg q, if_neg q]; exact r g
  · by_cases q : g = f
    · rw [q]; exact (keys_putF f y fs).1
    · refine (keys_putF f y fs).2 g (wi g fun z => hg ?_)
      show (if g = f then some u else mA g) = none
      rw [if_neg q]; exact z

theorem Inv.made (I : Inv X pins σ H s) : Inv X pins σ (upd (upd H s.heap.objs.size (.own (s.heap.objs.size + 1))) (s.heap.objs.size + 1) (.ins C s.heap.objs.size []))
    { s with heap := (s.heap.push PySem.W.emptyDict).push (PySem.W.instObj C s.heap.objs.size) } := by
  have e1 : (s.heap.push PySem.W.emptyDict).get? s.heap.objs.size = some PySem.W.emptyDict := Heap.get?_push_size s.heap rfl
  have e2 : ((s.heap.push PySem.W.emptyDict).push (PySem.W.instObj C s.heap.objs.size)).get? (s.heap.objs.size + 1) = some (PySem.W.instObj C s.heap.objs.size) := by
    have := Heap.get?_push_size (s.heap.push PySem.W.emptyDict) (o := PySem.W.instObj C s.heap.objs.size) rfl
    rwa [Heap.size_push] at this
  have e3 : (s.heap.push PySem.W.emptyDict).Ns s.heap.objs.size (fun _ => none) := ⟨PySem.W.emptyDict, #[], _, e1, rfl, (fun e he => absurd he (by simp)), fun _ => rfl⟩
  have I1 := I.laid (a := s.heap.objs.size) (o := .own (s.heap.objs.size + 1)) (h' := s.heap.push PySem.W.emptyDict) (t' := s.toks) (fun b u q => Heap.get?_push_of_some _ q) (Nat.le_refl _) ⟨_, e1⟩
  refine I1.laid (a := s.heap.objs.size + 1) (o := .ins C s.heap.objs.size []) (t' := s.toks) (fun b u q => Heap.get?_push_of_some _ q) (Nat.le_of_eq (Heap.size_push _ _)) ?_
  have ne : s.heap.objs.size ≠ s.heap.objs.size + 1 := Nat.ne_of_lt (Nat.lt_succ_self _)
  refine ⟨by rw [upd_ne ne, upd_same], Nat.zero_le _, ne, e2, fun _ => none, (Heap.Ns1.of_empty e3).at fun o q => Heap.get?_push_of_some _ q, fun _ => True.intro, fun y hy => absurd rfl hy⟩

theorem attr_of {prog : Program} {w : World} {env : Env} {e : Expr} {f : Str} {pos : Pos} {s : Shared} {Q : Value → Shared → Prop} (hb : attributeBase e f env (eval e env) = eval e env)
    (h : wpAny (model prog w) A (eval e env) (fun o s₁ => wpAny (model prog w) A (getAttr o f true) Q E s₁) E s) : wpAny (model prog w) A (eval (.Attribute e f pos) env) Q E s :=
  Attribute_any_ h (by rw [arm_eval_Attribute, hb])
end

def tFld (K : PySem.W.Frag) (ta : TE) (f : Str) : TE := fun σ H Q => ta σ H fun x H1 => ∃ a C dx fs v, x = .ref a ∧ H1 a = some (.ins C dx fs) ∧ Cls K C ∧ NoAttr K C f ∧ fs.lookup f = some v ∧ Q v H1
def sFld (K : PySem.W.Frag) (ta tv : TE) (f : Str) : TS := fun D σ H => tv σ H fun y H1 => ta σ H1 fun x H2 => ∃ a C dx fs, x = .ref a ∧ H2 a = some (.ins C dx fs) ∧ Cls K C ∧ NoAttr K C f ∧ fs.length < 1000 ∧
  D.nx σ (upd H2 a (.ins C dx (putF f y fs)))
section
variable {X : Cx} {o e value : Expr} {f : Str} {pos pos' tpos : Pos} {ta tv : TE}
theorem pe_fld (he : PE X e ta) (hb : attributeBase e f X.env (eval e X.env) = eval e X.env) : PE X (.Attribute e f pos) (tFld X.K ta f) := by
  intro pins s σ H Q I h
  refine attr_of hb (thn (he pins s σ H _ I h) fun u s1 ⟨x, H1, I1, rx, a, C, dx, fs, v, ex, ea, c, n, l, q⟩ => ?_)
  subst ex
  obtain rfl : u = Value.ref a := rx
  exact getattr_ok I1 ea c n l fun u' s2 I2 ru => ⟨v, H1, I2, ru, q⟩
theorem ps_fld (ha : PE X o ta) (hv : PE X value tv) (hs : swapsWith value (some (.Attribute o f pos')) pos.line X.env = pure false) : PS X (.Assign [.Attribute o f pos'] value pos) (sFld X.K ta tv f) := by
  intro pins s σ H D I h
  refine plainObj_wpAny_Assign_Attribute (thn (hv pins s σ H _ I h) fun u s1 ⟨y, H1, I1, ry, q⟩ => thn (ha pins s1 σ H1 _ I1 q) fun ov s2 ⟨x, H2, I2, rx, a, C, dx, fs, ex, ea, c, n, l, q2⟩ => ?_) hs
  subst ex
  obtain rfl : ov = Value.ref a := rx
  exact setattr_ok I2 ea c n l ry fun s3 I3 => ⟨σ, _, I3, q2⟩
end

section
variable {X : Cx} {pins : List (Addr × Obj)} {σ : St} {H : Hp} {s : Shared} {A : Around} {E : Value → Shared → Prop} {Q : Value → Shared → Prop} {c : Value} {b : Bool}
end
end L2

namespace L2
open PySem PySem.Spec PyProof.Rows

structure Room (k : Nat) (A : Around) : Prop where
  hd : A.handled = none
  dp : A.depth + 3 * k + 5 < recursionLimit
  un : A.units + 16 * k + 200 < cLine
theorem Room.mono {j k : Nat} {A : Around} (r : Room k A) (h : j ≤ k) : Room j A := ⟨r.hd, by have := r.dp; omega, by have := r.un; omega⟩
theorem Room.deeper {k : Nat} {A : Around} (r : Room (k + 1) A) (env : Env) : Room k (A.deeper env) :=
  ⟨r.hd, by have := r.dp; show A.depth + 1 + 3 * k + 5 < _; omega, by have := r.un; show A.units + 3 + 16 * k + 200 < _; omega⟩
theorem Room.in1 {k : Nat} {A : Around} (r : Room (k + 1) A) : Room k A.in1 :=
  ⟨r.hd, by have := r.dp; show A.depth + 3 * k + 5 < _; omega, by have := r.un; show A.units + 1 + 16 * k + 200 < _; omega⟩
theorem make_depth {A : Around} {C : Addr} {us : List Value} {kw : List (Str × Value)} : (A.under (.builtin "type.__call__" ⟨.ref C :: us, kw⟩)).depth = A.depth + 1 := by
  first | rfl | simp [Around.under, Code.weight, Code.isCreation, Code.isGuard, Code.isCaller, Code.frames, Code.isFrame, guardIds]
theorem make_units {A : Around} {C : Addr} {us : List Value} {kw : List (Str × Value)} : (A.under (.builtin "type.__call__" ⟨.ref C :: us, kw⟩)).units = A.units + 1 := by
  first | rfl | simp [Around.under, Code.cUnits, Code.frames, Code.isFrame]
theorem Room.make {k : Nat} {A : Around} (r : Room (k + 1) A) (C : Addr) (us : List Value) (kw : List (Str × Value)) : Room k (A.under (.builtin "type.__call__" ⟨.ref C :: us, kw⟩)) :=
  ⟨r.hd, by have := r.dp; rw [make_depth]; omega, by have := r.un; rw [make_units]; omega⟩
theorem Room.depth {k : Nat} {A : Around} (r : Room k A) : A.depth < recursionLimit := by have := r.dp; omega
theorem Room.units {k : Nat} {A : Around} (r : Room k A) : A.units + 64 < cLine := by have := r.un; omega
def tNil : TA := fun _ H Q => Q [] H
def tCons (ta : TE) (tr : TA) : TA := fun σ H Q => ta σ H fun x H1 => tr σ H1 fun xs H2 => Q (x :: xs) H2
section
variable {X : Cx} {e : Expr} {es : List Expr} {te : TE} {t : TA} {pos : Pos}
theorem pa_nil : PA X [] tNil := fun _ _ _ _ H Q I h => Calls.spliced_nil ⟨[], H, I, .nil, h⟩
theorem pa_cons (ha : PE X e te) (hr : PA X es t) (hs : starEach (e :: es) X.env = (false, eval e X.env) :: starEach es X.env := by rfl) : PA X (e :: es) (tCons te t) := by
  intro pos pins s σ H Q I h
  rw [hs]
  show wpAny _ _ (spliced ((false, eval e X.env) :: backTo pos (starEach es X.env))) _ _ s
  refine Calls.spliced_cons (thn (ha pins s σ H _ I h) fun u s1 ⟨x, H1, I1, r1, q1⟩ => ?_)
  exact thn (hr pos pins s1 σ H1 _ I1 q1) fun us s2 ⟨xs, H2, I2, r2, q2⟩ => ⟨x :: xs, H2, I2, .cons r1 r2, q2⟩

def tLst (t : TA) : TE := fun σ H Q => t σ H fun xs H1 => xs.length ≤ sizeLine ∧ ∀ p, H1 p = none → Q (.ref p) (upd H1 p (.lst xs))
theorem pe_lst (h : PA X es t) : PE X (.List es pos) (tLst t) := by
  intro pins s σ H Q I hq
  refine wpAny_List_spliced (thn (h pos pins s σ H _ I hq) fun us s1 ⟨xs, H1, I1, r, z, q⟩ => ⟨by rw [← r.length]; exact z, ?_⟩)
  have hf : H1 s1.heap.objs.size = none := I1.hok.fresh (Nat.le_refl _)
  refine ⟨.ref s1.heap.objs.size, upd H1 s1.heap.objs.size (.lst xs), I1.laid (t' := s1.toks) (fun b u e => Heap.get?_push_of_some _ e) (Nat.le_refl _) ?_, rfl, q _ hf⟩
  exact ⟨z, us, 0, r, Heap.get?_push_size _ rfl⟩
end

abbrev Sp := List V → Hp → VK → XK → Prop
abbrev CXT := List Env → Hp → Shared → XK → Value → Shared → Prop

structure Env0 (P : Program) (w : World) (K : PySem.W.Frag) (mg : Str → Option Value) (base : Heap) (A : Around) (outer : List Env) (s : Shared) (H : Hp) : Prop where
  frames : A.frames = some outer
  mod : Mod K mg base
  bs : ∀ b o, base.get? b = some o → s.heap.get? b = some o ∧ H b = none
  bsz : base.objs.size ≤ s.heap.objs.size
  funs : s.heap.FunFrames base outer
  frf : ∀ b ∈ frs outer, H b = none
  hok : HOk P w H s.heap
  bare : AllBare s.gens
def CE (outer : List Env) (P : Program) (w : World) (H : Hp) (s : Shared) (Q : VK) (u : Value) (s' : Shared) : Prop :=
  ∃ v H', s'.os = s.os ∧ AllBare s'.gens ∧ Un (frs outer) [] H H' s.heap s'.heap ∧ HOk P w H' s'.heap ∧ RelV v u ∧ Q v H'
def CR (CX : CXT) (outer : List Env) (P : Program) (w : World) (H : Hp) (s : Shared) (Q : VK) (E : XK) (r : Result) (s' : Shared) : Prop :=
  match r with
  | .ok (.ret u) => CE outer P w H s Q u s'
  | .ok _ => False
  | .error e => CX outer H s E e s'
structure FnOk (P : Program) (w : World) (K : PySem.W.Frag) (mg : Str → Option Value) (base : Heap) (CX : CXT) (k : Nat) (f : Addr) (fd : FuncData) (ps : List Str) (sp : Sp) : Prop where
  len : ∀ vs H Q E, sp vs H Q E → vs.length = ps.length
  run : ∀ (A : Around) (outer : List Env) (s : Shared) (H : Hp) (args : Args) (us : List Value) (vs : List V) (Q : VK) (E : XK), Room k A → Env0 P w K mg base A outer s H → BindsTo s fd args (ps.zip us) → Vals vs us → sp vs H Q E →
    codeAny (model P w) A (.call (.ref f) args) (CR CX outer P w H s Q E) s
theorem FnOk.mono {P : Program} {w : World} {K : PySem.W.Frag} {mg : Str → Option Value} {base : Heap} {CX : CXT} {j k : Nat} {f : Addr} {fd : FuncData} {ps : List Str} {sp : Sp} (F : FnOk P w K mg base CX j f fd ps sp) (h : j ≤ k) :
    FnOk P w K mg base CX k f fd ps sp := ⟨F.len, fun A outer s H args us vs Q E hr => F.run A outer s H args us vs Q E (hr.mono h)⟩
theorem FnOk.imp {P : Program} {w : World} {K : PySem.W.Frag} {mg : Str → Option Value} {base : Heap} {CX : CXT} {k : Nat} {f : Addr} {fd : FuncData} {ps : List Str} {sp sp' : Sp} (F : FnOk P w K mg base CX k f fd ps sp)
    (h : ∀ vs H Q E, sp' vs H Q E → sp vs H Q E) : FnOk P w K mg base CX k f fd ps sp' :=
  ⟨fun vs H Q E q => F.len vs H Q E (h _ _ _ _ q), fun A outer s H args us vs Q E hr he hb hv hs => F.run A outer s H args us vs Q E hr he hb hv (h _ _ _ _ hs)⟩

theorem Env0.make {P : Program} {w : World} {K : PySem.W.Frag} {mg : Str → Option Value} {base : Heap} {A : Around} {outer : List Env} {s : Shared} {H : Hp} (e : Env0 P w K mg base A outer s H) (C : Addr) (us : List Value) (kw : List (Str × Value)) :
    Env0 P w K mg base (A.under (.builtin "type.__call__" ⟨.ref C :: us, kw⟩)) outer s H := ⟨by first | exact e.frames | (simpa [Around.under, Code.envs, Code.isFrame, pushEnvs] using e.frames), e.mod, e.bs, e.bsz, e.funs, e.frf, e.hok, e.bare⟩
theorem Env0.in1 {P : Program} {w : World} {K : PySem.W.Frag} {mg : Str → Option Value} {base : Heap} {A : Around} {outer : List Env} {s : Shared} {H : Hp} (e : Env0 P w K mg base A outer s H) :
    Env0 P w K mg base A.in1 outer s H := ⟨e.frames, e.mod, e.bs, e.bsz, e.funs, e.frf, e.hok, e.bare⟩

section
variable {X : Cx} {pins : List (Addr × Obj)} {σ : St} {H : Hp} {s s' : Shared}
theorem Inv.env0 (I : Inv X pins σ H s) : Env0 X.prog X.w X.K X.mg X.base X.A X.stack s H :=
  ⟨I.ok.frames, I.ok.mod, I.bs, Nat.le_trans I.ok.bsz I.sz, I.stack, I.stkFree, I.hok, I.bare⟩
theorem Inv.after {Q : VK} {u : Value} (I : Inv X pins σ H s) (h : CE X.stack X.prog X.w H s Q u s') : EP X pins σ Q u s' := by
  obtain ⟨v, H', os, bare, un, hok, r, q⟩ := h
  obtain ⟨hh, g, d, t, os'⟩ := s'
  obtain rfl : os' = s.os := os
  exact ⟨v, H', I.call (h' := hh) (g' := g) (d' := d) (t' := t) (ch := []) un hok bare (fun b z => absurd z (by simp)), r, q⟩
end

def tCall (sp : Sp) (dvs : List V) (E : XK) (t : TA) : TE := fun σ H Q => t σ H fun vs H1 => sp (vs ++ dvs) H1 Q E
def tMeth (C : Addr) (m : Str) (sp : Sp) (dvs : List V) (E : XK) (ta : TE) (t : TA) : TE := fun σ H Q => ta σ H fun x H1 => ∃ a dx fs, x = .ref a ∧ H1 a = some (.ins C dx fs) ∧ fs.lookup m = none ∧
  t σ H1 fun vs H2 => sp (x :: (vs ++ dvs)) H2 Q E
def tMake (C : Addr) (sp : Sp) (dvs : List V) (E : XK) (t : TA) : TE := fun σ H Q => t σ H fun vs H1 => ∀ x dx, H1 x = none → H1 dx = none → dx ≠ x →
  sp (.ref x :: (vs ++ dvs)) (upd (upd H1 dx (.own x)) x (.ins C dx [])) (fun v H2 => v = .non ∧ Q (.ref x) H2) E

def Binds (K : PySem.W.Frag) (fd : FuncData) (ps : List Str) (ds : List Value) : Prop :=
  ∀ (s : Shared) (us : List Value), K.In s.heap → (us ++ ds).length = ps.length → BindsTo s fd ⟨us, []⟩ (ps.zip (us ++ ds))
theorem Binds.all {K : PySem.W.Frag} {fd : FuncData} {ps : List Str} (h : ∀ us : List Value, us.length = ps.length → bindArgs fd ⟨us, []⟩ = pure (ps.zip us)) : Binds K fd ps [] := fun s us _ hl => by
  rw [List.append_nil] at hl ⊢
  exact .of_eq (h us hl)

def Passes (CX : CXT) (X : Cx) (E : XK) : Prop := ∀ (pins : List (Addr × Obj)) (σ : St) (H : Hp) (s : Shared) (e : Value) (s' : Shared), Inv X pins σ H s → CX X.stack H s E e s' → X.xe e s'

section
variable {X : Cx} {CX : CXT} {k : Nat} {f C : Addr} {fd : FuncData} {ps : List Str} {sp : Sp} {dvs : List V} {ds : List Value} {E : XK} {x m : Str} {p pos apos : Pos} {e o : Expr} {es : List Expr} {ta : TE} {t : TA}

theorem run_fn {pins : List (Addr × Obj)} {σ : St} {H : Hp} {s : Shared} {Q : VK} {us : List Value} {vs : List V} (F : FnOk X.prog X.w X.K X.mg X.base CX k f fd ps sp) (hr : Room k X.A) (hb : Binds X.K fd ps ds) (hd : Vals dvs ds) (hx : Passes CX X E)
    (I : Inv X pins σ H s) (r : Vals vs us) (h : sp (vs ++ dvs) H Q E) : wpAny (model X.prog X.w) X.A (call (.ref f) us) (EP X pins σ Q) X.xe s := by
  have r2 : Vals (vs ++ dvs) (us ++ ds) := r.append hd
  have hl : (us ++ ds).length = ps.length := by rw [← r2.length]; exact F.len _ _ _ _ h
  refine wpAny_call (codeAny_mono (F.run X.A X.stack s H ⟨us, []⟩ (us ++ ds) (vs ++ dvs) Q E hr I.env0 (hb s us I.kIn hl) r2 h) fun r s' hq => ?_)
  cases r with
  | error e => exact hx pins σ H s e s' I hq
  | ok fl =>
    cases fl with
    | ret u => exact I.after hq
    | next => exact False.elim hq
    | brk => exact False.elim hq
    | cont => exact False.elim hq

theorem pe_call (F : FnOk X.prog X.w X.K X.mg X.base CX k f fd ps sp) (hr : Room k X.A) (hg : Gl X x) (hm : X.mg x = some (.ref f)) (hk : PySem.W.keepIn X.K (.ref f) = true) (hb : Binds X.K fd ps ds) (hd : Vals dvs ds) (hx : Passes CX X E)
    (ha : PA X (e :: es) t) (hdb : (x == ("__debug__" : Str)) = false := by decide) (he : starEach (e :: es) X.env = (false, eval e X.env) :: starEach es X.env := by rfl) (hpl : (backTo pos (starEach es X.env)).any (·.1) = false := by rfl) :
    PE X (.Call (.Name x p) (e :: es) [] pos) (tCall sp dvs E t) := by
  intro pins s σ H Q I h
  refine wpAny_Call_Name_kw (ld_glob I hg hm ?_ hdb)
  refine PySem.W.callWith_K (h₀ := X.base) I.ok.mod.kin hk (thn (ha pos pins s σ H _ I h) fun us s1 ⟨vs, H1, I1, r, q⟩ => ⟨I1.kIn, ?_⟩) he hpl
  exact run_fn F hr hb hd hx I1 r q
theorem pe_meth {pl : Sem Bool} (he : PE X o ta) (c : Cls X.K C) (hm : Meth X.K C m f) (F : FnOk X.prog X.w X.K X.mg X.base CX k f fd ps sp) (hr : Room k X.A) (hb : Binds X.K fd ps ds) (hd : Vals dvs ds) (hx : Passes CX X E) (ha : PA X (e :: es) t)
    (hst : starEach (e :: es) X.env = (false, eval e X.env) :: starEach es X.env := by rfl) (hpl : (backTo pos (starEach es X.env)).any (·.1) = false := by rfl)
    (ht : eval (.Call (.Attribute o m apos) (e :: es) [] pos) X.env = (do
      let ov ← eval o X.env
      standAt apos.atName
      let (f, first) ← holding [ov] (getMethod ov m pl)
      callWith pos f first (backTo pos (starEach (e :: es) X.env)) (backToKw pos (keywordEach [] X.env))) := by rfl) :
    PE X (.Call (.Attribute o m apos) (e :: es) [] pos) (tMeth C m sp dvs E ta t) := by
  intro pins s σ H Q I h
  refine PySem.W.methodCall_KW (pl := pl) (thn (he pins s σ H _ I h) fun u s1 ⟨x, H1, I1, rx, a, dx, fs, ex, ea, l, q⟩ => ?_) ht
  subst ex
  obtain rfl : u = Value.ref a := rx
  refine getmeth_ok I1 ea c hm l ?_
  refine PySem.W.callWith_K (first := [.ref a]) (h₀ := X.base) I.ok.mod.kin hm.kp (thn (ha pos pins s1 σ H1 _ I1 q) fun us s2 ⟨vs, H2, I2, r, q2⟩ => ⟨I2.kIn, ?_⟩) hst hpl
  exact run_fn (us := .ref a :: us) (vs := .ref a :: vs) F hr hb hd hx I2 (.cons rfl r) q2
theorem pe_meth0 {pl : Sem Bool} (he : PE X o ta) (c : Cls X.K C) (hm : Meth X.K C m f) (F : FnOk X.prog X.w X.K X.mg X.base CX k f fd ps sp) (hr : Room k X.A) (hb : Binds X.K fd ps ds) (hd : Vals dvs ds) (hx : Passes CX X E)
    (ht : eval (.Call (.Attribute o m apos) [] [] pos) X.env = (do
      let ov ← eval o X.env
      standAt apos.atName
      let (f, first) ← holding [ov] (getMethod ov m pl)
      callWith pos f first (backTo pos (starEach [] X.env)) (backToKw pos (keywordEach [] X.env))) := by rfl) :
    PE X (.Call (.Attribute o m apos) [] [] pos) (tMeth C m sp dvs E ta tNil) := by
  intro pins s σ H Q I h
  refine PySem.W.methodCall_KW (pl := pl) (thn (he pins s σ H _ I h) fun u s1 ⟨x, H1, I1, rx, a, dx, fs, ex, ea, l, q⟩ => ?_) ht
  subst ex
  obtain rfl : u = Value.ref a := rx
  refine getmeth_ok I1 ea c hm l ?_
  exact PySem.W.callWith_K0 (first := [.ref a]) I1.kIn hm.kp (run_fn (us := [.ref a]) (vs := [.ref a]) F hr hb hd hx I1 (.cons rfl .nil) q)

structure Mk (K : PySem.W.Frag) (C f : Addr) : Prop where
  makes : PySem.W.makesIn K C = true
  init : PySem.W.findIn K (.ref C) "__init__" = some (some (.ref f))
  fn : PySem.W.isFn K (.ref f) = true
  kp : PySem.W.keepIn K (.ref C) = true

theorem run_make {pins : List (Addr × Obj)} {σ : St} {H : Hp} {s : Shared} {Q : VK} {us : List Value} {vs : List V} (M : Mk X.K C f) (F : FnOk X.prog X.w X.K X.mg X.base CX k f fd ps sp) (hr : Room (k + 1) X.A) (hb : Binds X.K fd ps ds) (hd : Vals dvs ds)
    (hx : Passes CX X E) (I : Inv X pins σ H s) (r : Vals vs us)
    (h : ∀ x dx, H x = none → H dx = none → dx ≠ x → sp (.ref x :: (vs ++ dvs)) (upd (upd H dx (.own x)) x (.ins C dx [])) (fun v H2 => v = .non ∧ Q (.ref x) H2) E) :
    wpAny (model X.prog X.w) X.A (call (.ref C) us) (EP X pins σ Q) X.xe s := by
  have hq := h (s.heap.objs.size + 1) s.heap.objs.size (I.hok.fresh (Nat.le_succ _)) (I.hok.fresh (Nat.le_refl _)) (Nat.ne_of_lt (Nat.lt_succ_self _))
  have I2 := Inv.made (C := C) I
  have r2 : Vals (V.ref (s.heap.objs.size + 1) :: (vs ++ dvs)) (Value.ref (s.heap.objs.size + 1) :: (us ++ ds)) := .cons rfl (r.append hd)
  have hl : (Value.ref (s.heap.objs.size + 1) :: us ++ ds).length = ps.length := by
    have e := r2.length
    rw [F.len _ _ _ _ hq] at e
    exact e.symm
  refine wpAny_call (make_map (f := f) I.kIn M.makes M.init (beq_iff_eq.mp M.fn) (codeAny_mono (F.run _ X.stack _ _ ⟨Value.ref (s.heap.objs.size + 1) :: us, []⟩ (Value.ref (s.heap.objs.size + 1) :: (us ++ ds)) _ _ E (hr.make C us [])
    (I2.env0.make C us []) (hb _ (Value.ref (s.heap.objs.size + 1) :: us) I2.kIn hl) r2 hq) fun r s' hq' => ?_))
  cases r with
  | error e => exact hx pins σ _ _ e s' I2 hq'
  | ok fl =>
    cases fl with
    | ret u =>
      obtain ⟨v, H', I3, rv, ev, q3⟩ := I2.after hq'
      subst ev
      exact ⟨rv, ⟨V.ref (s.heap.objs.size + 1), H', I3, rfl, q3⟩⟩
    | next => exact False.elim hq'
    | brk => exact False.elim hq'
    | cont => exact False.elim hq'
theorem pe_make (M : Mk X.K C f) (F : FnOk X.prog X.w X.K X.mg X.base CX k f fd ps sp) (hr : Room (k + 1) X.A) (hg : Gl X x) (hm : X.mg x = some (.ref C)) (hb : Binds X.K fd ps ds) (hd : Vals dvs ds) (hx : Passes CX X E)
    (ha : PA X (e :: es) t) (hdb : (x == ("__debug__" : Str)) = false := by decide) (he : starEach (e :: es) X.env = (false, eval e X.env) :: starEach es X.env := by rfl) (hpl : (backTo pos (starEach es X.env)).any (·.1) = false := by rfl) :
    PE X (.Call (.Name x p) (e :: es) [] pos) (tMake C sp dvs E t) := by
  intro pins s σ H Q I h
  refine wpAny_Call_Name_kw (ld_glob I hg hm ?_ hdb)
  refine PySem.W.callWith_K (h₀ := X.base) I.ok.mod.kin M.kp (thn (ha pos pins s σ H _ I h) fun us s1 ⟨vs, H1, I1, r, q⟩ => ⟨I1.kIn, ?_⟩) he hpl
  exact run_make M F hr hb hd hx I1 r q
theorem pe_make0 (M : Mk X.K C f) (F : FnOk X.prog X.w X.K X.mg X.base CX k f fd ps sp) (hr : Room (k + 1) X.A) (hg : Gl X x) (hm : X.mg x = some (.ref C)) (hb : Binds X.K fd ps ds) (hd : Vals dvs ds) (hx : Passes CX X E)
    (hdb : (x == ("__debug__" : Str)) = false := by decide) : PE X (.Call (.Name x p) [] [] pos) (tMake C sp dvs E tNil) := by
  intro pins s σ H Q I h
  refine wpAny_Call_Name_kw (ld_glob I hg hm ?_ hdb)
  exact PySem.W.callWith_K0 I.kIn M.kp (run_make (us := []) M F hr hb hd hx I .nil h)
end

section
variable {X : Cx} {CX : CXT} {k : Nat} {f C : Addr} {fd : FuncData} {ps ks : List Str} {sp : Sp} {E : XK} {x m : Str} {p pos apos kpos : Pos} {e o : Expr} {es : List Expr} {kws : List Keyword} {te ta : TE} {t tk : TA} {nm : Option Str}
variable {g : List Value → List Value → List Value} {gV : List V → List V → List V}
end

structure FnScope (N P : List Str) (sc : Scope) : Prop where
  kind : sc.kind = .function
  co : sc.isCoroutine = false
  gen : sc.isGenerator = false
  nd : N.Nodup
  pre : N.take P.length = P
  par : ∀ x ∈ P, sc.names.lookup x = some .local ∨ sc.names.lookup x = some .cell
  nofree : ∀ y ∈ sc.names, y.2 ≠ .free

theorem bindL_out {kindOf : Str → Option NameKind} {x : Str} : ∀ {binds : List (Str × Value)} {m : Str → Option Value}, (∀ v, (x, v) ∉ binds) → bindL kindOf binds m x = m x
  | [], _, _ => rfl
  | (n, v) :: r, m, h => by
    unfold bindL
    rw [bindL_out fun w hw => h w (List.mem_cons_of_mem _ hw)]
    split
    · have : x ≠ n := by rintro rfl; exact h v List.mem_cons_self
      simp [this]
    · rfl
theorem bindC_out {kindOf : Str → Option NameKind} {x : Str} : ∀ {binds : List (Str × Value)} {m : Str → Option Value}, (∀ v, (x, v) ∉ binds) → bindC kindOf binds m x = m x
  | [], _, _ => rfl
  | (n, v) :: r, m, h => by
    unfold bindC
    rw [bindC_out fun w hw => h w (List.mem_cons_of_mem _ hw)]
    split
    · rfl
    · have : x ≠ n := by rintro rfl; exact h v List.mem_cons_self
      simp [this]
theorem bindL_get {kindOf : Str → Option NameKind} {x : Str} {v : Value} : ∀ {P : List Str} {vs : List Value} {i : Nat} {m : Str → Option Value}, P.Nodup → P[i]? = some x → vs[i]? = some v → kindOf x = some .local →
    bindL kindOf (P.zip vs) m x = some v
  | [], _, _, _, _, h, _, _ => by simp at h
  | _ :: _, [], _, _, _, _, h, _ => by simp at h
  | p :: P, w :: vs, 0, m, nd, h1, h2, hk => by
    simp at h1 h2; subst h1; subst h2
    show bindL kindOf ((p, w) :: P.zip vs) m p = _
    unfold bindL
    rw [bindL_out fun v hv => (List.nodup_cons.mp nd).1 (List.of_mem_zip hv).1, if_pos hk]
    simp
  | p :: P, w :: vs, i + 1, m, nd, h1, h2, hk => by
    show bindL kindOf ((p, w) :: P.zip vs) m x = _
    unfold bindL
    exact bindL_get (i := i) (List.nodup_cons.mp nd).2 (by simpa using h1) (by simpa using h2) hk
theorem bindC_get {kindOf : Str → Option NameKind} {x : Str} {v : Value} : ∀ {P : List Str} {vs : List Value} {i : Nat} {m : Str → Option Value}, P.Nodup → P[i]? = some x → vs[i]? = some v → kindOf x ≠ some .local →
    bindC kindOf (P.zip vs) m x = some v
  | [], _, _, _, _, h, _, _ => by simp at h
  | _ :: _, [], _, _, _, _, h, _ => by simp at h
  | p :: P, w :: vs, 0, m, nd, h1, h2, hk => by
    simp at h1 h2; subst h1; subst h2
    show bindC kindOf ((p, w) :: P.zip vs) m p = _
    unfold bindC
    rw [bindC_out fun v hv => (List.nodup_cons.mp nd).1 (List.of_mem_zip hv).1, if_neg hk]
    simp
  | p :: P, w :: vs, i + 1, m, nd, h1, h2, hk => by
    show bindC kindOf ((p, w) :: P.zip vs) m x = _
    unfold bindC
    exact bindC_get (i := i) (List.nodup_cons.mp nd).2 (by simpa using h1) (by simpa using h2) hk

def start (N : List Str) (vs : List V) : St := vs.map some ++ List.replicate (N.length - vs.length) none

def cxOf (CX : CXT) (P : Program) (w : World) (K : PySem.W.Frag) (mg : Str → Option Value) (base : Heap) (N : List Str) (qual : Str) (scope : Scope) (f : Addr) (cd : Value) (A : Around) (outer : List Env) (s : Shared) (H : Hp) (E : XK) : Cx where
  prog := P
  w := w
  K := K
  mg := mg
  base := base
  A := A.deeper (envOfC qual scope s.heap.objs.size f cd)
  N := N
  s_0 := s
  H_0 := H
  env := envOfC qual scope s.heap.objs.size f cd
  outer := outer
  stack := envOfC qual scope s.heap.objs.size f cd :: outer
  ex := []
  calm := true
  fn := fun _ => true
  pn := []
  xe := fun e s' => wpAny (model P w) (A.deeper (envOfC qual scope s.heap.objs.size f cd)) (leaving (envOfC qual scope s.heap.objs.size f cd) e) (fun _ s'' => CX outer H s E e s'') (fun e' s'' => CX outer H s E e' s'') s'

theorem cell_has {sc : Scope} {n : Nat} {x : Str} (h : sc.names.lookup x = some .cell) : ∃ c, (cellsFrom n sc.names []).lookup x = some c := by
  have q := PySem.W.cellsFrom_some sc.names n [] (.inl h)
  exact Option.isSome_iff_exists.mp q

theorem inv_start {CX : CXT} {P : Program} {w : World} {K : PySem.W.Frag} {mg : Str → Option Value} {base : Heap} {N ps : List Str} {qual : Str} {scope : Scope} {f : Addr} {cd : Value} {A : Around} {outer : List Env} {s s1 : Shared} {H : Hp} {E : XK} {us : List Value} {vs : List V}
    (S : FnScope N ps scope) (hd : A.handled = none) (e0 : Env0 P w K mg base A outer s H) (hl : vs.length = ps.length) (r : Vals vs us)
    (x : InCallC s s.heap.objs.size (bindL (envOfC qual scope s.heap.objs.size f cd).kindOf (ps.zip us) fun _ => none) (cellsFrom (s.heap.objs.size + 1) scope.names []) (bindC (envOfC qual scope s.heap.objs.size f cd).kindOf (ps.zip us) fun _ => none) s1) :
    Inv (cxOf CX P w K mg base N qual scope f cd A outer s H E) [] (start N vs) H s1 := by
  have hpl : ps.length ≤ N.length := by have := congrArg List.length S.pre; rw [List.length_take] at this; omega
  obtain ⟨h1, tk, rfl, hk⟩ := x.done
  have noA : ∀ b : Addr, b ∉ (cxOf CX P w K mg base N qual scope f cd A outer s H E).ex := fun b z => absurd (show b ∈ ([] : List Addr) from z) (by simp)
  refine ⟨⟨e0.mod, S.kind, rfl, rfl, Nat.le_refl _, fun y z c h1 h2 => ?_, fun y hy => ?_, fun y c _ h => ?_, fun _ => hd, Around.frames_deeper e0.frames, .inr ⟨rfl, rfl⟩, fun b z => absurd z (noA b), e0.bs, e0.bsz, fun b _ _ => noA b, fun b z => absurd z (noA b), e0.funs, e0.frf⟩,
    rfl, e0.bare, Un.kept hk, ⟨_, x.toInCall.ns, fun i y v h1 h2 h3 => ?_⟩, fun y c h => ⟨_, x.cell y c h⟩, e0.hok.fresh (Nat.le_refl _), fun y c h => ?_, fun p hp => absurd (show p ∈ ([] : List (Addr × Obj)) from hp) (by simp), e0.hok.kept hk, ?_⟩
  · exact name_of_addr x.apart (PySem.mem_of_lookup h1) (PySem.mem_of_lookup h2)
  · have hy : scope.names.lookup y = some .cell ∨ scope.names.lookup y = some .free := hy
    rcases hy with hy | hy
    · exact cell_has hy
    · exact absurd rfl (S.nofree _ (PySem.mem_of_lookup hy))
  · exact Nat.le_of_lt (x.above y c (PySem.mem_of_lookup h))
  · have hi : i < vs.length := by
      unfold start at h2
      by_cases hi : i < vs.length
      · exact hi
      · rw [List.getElem?_append_right (by simpa using hi)] at h2
        rw [List.getElem?_replicate] at h2
        split at h2 <;> cases h2
    have ha : vs[i]? = some v := by
      unfold start at h2
      rw [List.getElem?_append_left (by simpa using hi), List.getElem?_map] at h2
      cases e : vs[i]? with
      | none => rw [e] at h2; cases h2
      | some a => rw [e] at h2; cases h2; rfl
    obtain ⟨u, hu, rv⟩ := r.get ha
    have hp : ps[i]? = some y := by
      rw [← S.pre, List.getElem?_take_of_lt (by omega)]; exact h1
    have ndP : ps.Nodup := by rw [← S.pre]; exact S.nd.sublist (List.take_sublist _ _)
    refine ⟨u, rv, ?_⟩
    rcases S.par y (List.mem_of_getElem? hp) with k | k
    · exact .inl ⟨k, bindL_get ndP hp hu k⟩
    · obtain ⟨c, e⟩ := cell_has (n := s.heap.objs.size + 1) k
      refine .inr ⟨.inl k, c, e, ?_⟩
      have q := x.cell y c e
      rw [bindC_get ndP hp hu (by show scope.names.lookup y ≠ _; rw [k]; decide)] at q
      exact q
  · exact e0.hok.fresh (Nat.le_of_lt (x.above y c (PySem.mem_of_lookup h)))
  · unfold start
    show _ = N.length
    rw [List.length_append, List.length_map, List.length_replicate]
    omega

theorem fn_of {CX : CXT} {P : Program} {w : World} {K : PySem.W.Frag} {mg : Str → Option Value} {base : Heap} {k : Nat} {f : Addr} {name qual : Str} {params : Arguments} {body : List Stmt} {scope : Scope} {dV kV doc pm cdv ct oc : Value} {an od : Option Addr}
    {osl : Array (Option Value)} {N ps : List Str} {sp : Sp} (lk : K.lookup f = some ⟨oc, od, .func (PySem.W.fnOf name qual params body scope dV kV doc pm an cdv ct), osl⟩) (hcd : PySem.W.codeIn K cdv qual = true) (S : FnScope N ps scope)
    (len : ∀ vs H Q E, sp vs H Q E → vs.length = ps.length)
    (hbody : ∀ (A : Around) (outer : List Env) (s : Shared) (H : Hp) (vs : List V) (Q : VK) (E : XK), Room k (A.deeper (envOfC qual scope s.heap.objs.size f cdv)) → sp vs H Q E →
      ∃ t, PSs (cxOf CX P w K mg base N qual scope f cdv A outer s H E) body t ∧ t { nx := fun _ H' => Q .non H', rt := Q } (start N vs) H) :
    FnOk P w K mg base CX (k + 1) f (PySem.W.fnOf name qual params body scope dV kV doc pm an cdv ct) ps sp := by
  refine ⟨len, fun A outer s H args us vs Q E hr e0 hb r hsp => ?_⟩
  have hl := len _ _ _ _ hsp
  have KX : K.In s.heap := e0.mod.kin.keeps fun b o e => (e0.bs b o e).1
  have lim : s.heap.NoLimit := e0.mod.nolimit.keeps fun b o e => (e0.bs b o e).1
  have hkind : ∀ y ∈ ps.zip us, scope.names.lookup y.1 = some .local ∨ (scope.names.lookup y.1 = some .cell ∧ ((cellsFrom (s.heap.objs.size + 1) scope.names []).lookup y.1).isSome = true) := fun ⟨n, v⟩ hy => by
    rcases S.par n (List.of_mem_zip hy).1 with q | q
    · exact .inl q
    · exact .inr ⟨q, PySem.W.cellsFrom_some _ _ _ (.inl q)⟩
  refine codeAny_call_function hr.depth (KX _ _ lk) rfl S.co S.gen rfl (PySem.W.codeRec_of KX hcd) (hb _ _ _ _ ?_)
  refine wpAny_newFunctionEnv_cells S.kind hkind fun env he s1 x => ?_
  subst he
  refine ⟨lim.keeps x.toInCall.keep, codeAny_func ?_⟩
  obtain ⟨t, ht, hq⟩ := hbody A outer s H vs Q E (hr.deeper _) hsp
  have I : Inv (cxOf CX P w K mg base N qual scope f cdv A outer s H E) [] (start N vs) H s1 := inv_start S hr.hd e0 hl r x
  refine wpAny_mono (ht [] s1 (start N vs) H _ I hq) (fun fl s' hs => ?_) fun e s' hs => hs
  have fin : ∀ {σ' : St} {H' : Hp} {v : V} {u : Value}, Inv (cxOf CX P w K mg base N qual scope f cdv A outer s H E) [] σ' H' s' → RelV v u → Q v H' → CE outer P w H s Q u s' :=
    fun {σ' H' v u} J rv q => ⟨v, H', J.os, J.bare, J.base, J.hok, rv, q⟩
  cases fl with
  | ret u =>
    obtain ⟨v, σ', H', J, rv, q⟩ := hs
    exact fin J rv q
  | next =>
    obtain ⟨σ', H', J, q⟩ := hs
    exact fin (v := V.non) (u := Value.none) J rfl q
  | brk =>
    obtain ⟨_, _, _, q⟩ := hs
    exact False.elim q
  | cont =>
    obtain ⟨_, _, _, q⟩ := hs
    exact False.elim q
end L2

namespace L2
open PySem PySem.Spec PyProof.Rows
section
variable {X : Cx} {x : Str} {p pos : Pos} {e : Expr} {es : List Expr} {t : TA} {id T : String} {r : List V → Hp → VK → Prop}

def tCB (r : List V → Hp → VK → Prop) (t : TA) : TE := fun σ H Q => t σ H fun vs H1 => r vs H1 Q
theorem pe_callB (hc : CallR X (.builtin id) r) (hg : Gl X x) (hm : X.mg x = none) (hv : bootBuiltins x = some (.builtin id)) (ha : PA X (e :: es) t) (hn : x ≠ "__name__" := by decide) (hdb : (x == ("__debug__" : Str)) = false := by decide)
    (he : starEach (e :: es) X.env = (false, eval e X.env) :: starEach es X.env := by rfl) (hpl : (backTo pos (starEach es X.env)).any (·.1) = false := by rfl) : PE X (.Call (.Name x p) (e :: es) [] pos) (tCB r t) := by
  intro pins s σ H Q I h
  refine wpAny_Call_Name_kw (ld_blt I hg hm hv ?_ hn hdb)
  exact PyProof.Rows.callWith_builtin1 (thn (ha pos pins s σ H _ I h) fun us s1 ⟨vs, H1, I1, r1, q1⟩ => hc pins s1 σ H1 vs us Q I1 r1 q1) he hpl
end
end L2

namespace HT
open PySem PyProof.Rows

section
open PySem.SeqAt
open PySem.AutoSeq1 (wpAny_loadPart')
open PySem.MeetsSeq PySem.MeetsSeq2 PySem.MeetsSeq3

end

section
variable {prog : Program} {w : World} {A : Around} {E : Value → Shared → Prop} {s : Shared}

def sIx (n d : Nat) : Option Int → Nat
  | none => d
  | some v => if v < 0 then (v + (n : Int)).toNat else min v.toNat n
theorem sIx_none (n d : Nat) : sIx n d none = d := rfl
theorem sIx_nat (n d k : Nat) : sIx n d (some (k : Int)) = min k n := by
  show (if (k : Int) < 0 then ((k : Int) + (n : Int)).toNat else min (k : Int).toNat n) = min k n
  rw [if_neg (by omega), Int.toNat_natCast]
end
end HT

namespace L2
open PySem PySem.Spec PyProof.Rows

abbrev TO := St → Hp → (Option Int → Hp → Prop) → Prop
def PO (X : Cx) (e : Option Expr) (t : TO) : Prop :=
  ∀ (pins : List (Addr × Obj)) (s : Shared) (σ : St) (H : Hp) (Q : Option Int → Hp → Prop), Inv X pins σ H s → t σ H Q →
    wpAny (model X.prog X.w) X.A (evalPart e X.env) (fun u s' => ∃ o H', Inv X pins σ H' s' ∧ IsPart u o ∧ Q o H') X.xe s
def tNoPart : TO := fun _ H Q => Q none H
def tPart (t : TE) : TO := fun σ H Q => t σ H fun x H1 => ∃ i, x = .int i ∧ Q (some i) H1

section
variable {X : Cx} {e : Expr} {te : TE} {lo hi : Option Expr} {tl th : TO} {pos p2 : Pos}

theorem po_none : PO X none tNoPart := by
  intro pins s σ H Q I h
  rw [evalPart_none]
  exact wpAny_pure ⟨none, H, I, .none, h⟩
theorem po_some (h : PE X e te) : PO X (some e) (tPart te) := by
  intro pins s σ H Q I hw
  rw [evalPart_some]
  refine thn (h pins s σ H _ I hw) fun u s1 ⟨x, H1, I1, r1, q1⟩ => ?_
  obtain ⟨i, rfl, q⟩ := q1
  obtain ⟨t, rfl⟩ := r1
  exact ⟨some i, H1, I1, .int i t, q⟩

def SlR (X : Cx) (r : V → Option Int → Option Int → Hp → VK → Prop) : Prop :=
  ∀ (pins : List (Addr × Obj)) (s : Shared) (σ : St) (H : Hp) (x : V) (v vl vu : Value) (lo hi : Option Int) (sl : Addr) (Q : VK), Inv X pins σ H s → RelV x v → s.heap.IsSliceOf sl vl vu .none → IsPart vl lo → IsPart vu hi → r x lo hi H Q →
    ∃ T id, typeLookup (.type T) "__getitem__" = pure (some (.builtin id)) ∧ s.TypeIs v T ∧ wpAny (model X.prog X.w) X.A (getItem v (.ref sl)) (EP X pins σ Q) X.xe s
def tSl (r : V → Option Int → Option Int → Hp → VK → Prop) (te : TE) (tl th : TO) : TE := fun σ H Q => te σ H fun x H1 => tl σ H1 fun l H2 => th σ H2 fun u H3 => r x l u H3 Q
theorem pe_slice {r : V → Option Int → Option Int → Hp → VK → Prop} (hr : SlR X r) (he : PE X e te) (hl : PO X lo tl) (hu : PO X hi th) : PE X (.Subscript e (.Slice lo hi none p2) pos) (tSl r te tl th) := by
  intro pins s σ H Q I h
  refine Subscript_ (thn (he pins s σ H _ I h) fun v s1 ⟨x, H1, I1, r1, q1⟩ => ?_)
  refine wpAny_Slice (thn (hl pins s1 σ H1 _ I1 q1) fun vl s2 ⟨l, H2, I2, pl, q2⟩ => thn (hu pins s2 σ H2 _ I2 q2) fun vu s3 ⟨u, H3, I3, pu, q3⟩ => ?_)
  rw [evalPart_none]
  refine wpAny_pure ?_
  have I4 : Inv X pins σ H3 { s3 with heap := s3.heap.push { cls := .type "slice", data := .fields #[vl, vu, .none] } } := I3.kept (t' := s3.toks) fun b ob q => Heap.get?_push_of_some _ q
  obtain ⟨T, id, hT, ht, hg⟩ := hr pins { s3 with heap := s3.heap.push { cls := .type "slice", data := .fields #[vl, vu, .none] } } σ H3 x v vl vu l u s3.heap.objs.size Q I4 r1 (Heap.IsSliceOf.new ..) pl pu q3
  show wpAny (model X.prog X.w) X.A (subscriptTail e (.Slice lo hi none p2) v (.ref s3.heap.objs.size)) (EP X pins σ Q) X.xe { s3 with heap := s3.heap.push { cls := .type "slice", data := .fields #[vl, vu, .none] } }
  exact tail_any (ops := [.ref s3.heap.objs.size, v]) ht hT hg (by with_unfolding_all rfl)

def cutV (xs : List V) (lo hi : Option Int) : List V := (xs.drop (HT.sIx xs.length 0 lo)).take (HT.sIx xs.length xs.length hi - HT.sIx xs.length 0 lo)
theorem cutV_length (xs : List V) (lo hi : Option Int) : (cutV xs lo hi).length ≤ xs.length := by
  unfold cutV
  rw [List.length_take, List.length_drop]
  omega
end
end L2

namespace L2
open PySem PySem.Spec PyProof.Rows

def ixN (n : Nat) (i : Int) : Option Nat := if 0 ≤ i then (if i < n then some i.toNat else none) else if -(n : Int) ≤ i then some (i + n).toNat else none
def atI {α : Type} (xs : List α) (i : Int) : Option α := (ixN xs.length i).bind fun j => xs[j]?
theorem ixN_seq {n : Nat} {i : Int} {j : Nat} (h : ixN n i = some j) : seqIndex? i n = some j ∧ j < n ∧ -(n : Int) ≤ i ∧ i < n := by
  unfold ixN at h
  by_cases h0 : 0 ≤ i
  · rw [if_pos h0] at h
    by_cases h1 : i < n
    · rw [if_pos h1] at h
      have e : i.toNat = j := Option.some.inj h
      exact ⟨by rw [seqIndex_of h0 h1, e], by omega, by omega, h1⟩
    · rw [if_neg h1] at h; cases h
  · rw [if_neg h0] at h
    by_cases h1 : -(n : Int) ≤ i
    · rw [if_pos h1] at h
      have e : (i + n).toNat = j := Option.some.inj h
      exact ⟨by rw [seqIndex_neg (by omega) h1, e], by omega, h1, by omega⟩
    · rw [if_neg h1] at h; cases h
theorem atI_get {α : Type} {xs : List α} {i : Int} {v : α} (h : atI xs i = some v) : ∃ j, seqIndex? i xs.length = some j ∧ xs[j]? = some v ∧ j < xs.length ∧ -(xs.length : Int) ≤ i ∧ i < xs.length := by
  unfold atI at h
  cases e : ixN xs.length i with
  | none => rw [e] at h; cases h
  | some j =>
    rw [e] at h
    obtain ⟨h1, h2, h3, h4⟩ := ixN_seq e
    exact ⟨j, h1, h, h2, h3, h4⟩
theorem atI_nat {α : Type} {xs : List α} {j : Nat} {v : α} (h : xs[j]? = some v) : atI xs (j : Int) = some v := by
  have hj : j < xs.length := (List.getElem?_eq_some_iff.mp h).1
  have e : ixN xs.length (j : Int) = some j := by
    unfold ixN
    rw [if_pos (by omega), if_pos (by omega)]; simp
  unfold atI; rw [e]; exact h
def PlainIx (b : Expr) : Prop := ∀ o i, subscripted b false o i = operate [o, i] (getItem o i)
def IxR (X : Cx) (r : R2) : Prop :=
  ∀ (value slice : Expr) (pins : List (Addr × Obj)) (s : Shared) (σ : St) (H : Hp) (x y : V) (v u : Value) (Q : VK), Inv X pins σ H s → RelV x v → RelV y u → r x y H Q →
    subscripted slice false v u = operate [v, u] (getItem v u) → wpAny (model X.prog X.w) X.A (subscriptTail value slice v u) (EP X pins σ Q) X.xe s
def MtR (X : Cx) (id : String) (r : V → List V → Hp → VK → Prop) : Prop :=
  ∀ (pins : List (Addr × Obj)) (s : Shared) (σ : St) (H : Hp) (x : V) (xs : List V) (v : Value) (us : List Value) (Q : VK), Inv X pins σ H s → RelV x v → Vals xs us → r x xs H Q →
    wpAny (model X.prog X.w) X.A (call (.builtin id) (v :: us)) (EP X pins σ Q) X.xe s
section
variable {X : Cx} {a b : Expr} {ta tb : TE} {pos : Pos}
theorem pe_ix {r : R2} (hr : IxR X r) (ha : PE X a ta) (hb : PE X b tb) (hs : PlainIx b) : PE X (.Subscript a b pos) (tOp r ta tb) := by
  intro pins s σ H Q I h
  exact Subscript_ (binT ha hb I h fun v u s2 x y H2 I2 rx ry q => hr a b pins s2 σ H2 x y v u Q I2 rx ry q (hs _ _))

def rIxL (K : PySem.W.Frag) : R2 := fun x y H Q => ∃ p xs i v, x = .ref p ∧ y = .int i ∧ SqL K H p xs ∧ atI xs i = some v ∧ Q v H
def rIxT (K : PySem.W.Frag) : R2 := fun x y H Q => ∃ p xs i v, x = .ref p ∧ y = .int i ∧ SqT K H p xs ∧ atI xs i = some v ∧ Q v H
theorem ix_list : IxR X (rIxL X.K) := by
  intro value slice pins s σ H x y v u Q I rx ry h hs
  obtain ⟨p, xs, i, z, rfl, rfl, hq, he, q⟩ := h
  cases rx
  obtain ⟨t, rfl⟩ := ry
  obtain ⟨its, r, pl, hz⟩ := I.list hq
  obtain ⟨j, h1, h2, h3, h4, h5⟩ := atI_get he
  obtain ⟨w, ew, rw'⟩ := r.get h2
  have hl := r.length
  have hn := line63
  have fin : EP X pins σ Q w s := ⟨z, H, I, rw', q⟩
  by_cases h0 : 0 ≤ i
  · have hj : i.toNat = j := by
      rw [seqIndex_of h0 h5] at h1
      exact Option.some.inj h1
    exact item_listR pl.isList h0 (by omega) (by rw [hj]; simpa using ew) fin hs
  · have hj : (i + (its.toArray.size : Int)).toNat = j := by
      rw [seqIndex_neg (by omega) h4] at h1
      rw [List.size_toArray, ← hl]
      exact Option.some.inj h1
    exact subscriptTail_builtinR (x := w) pl.isList.typeIs slot_list_getitem.lookup
      (wpAny_getItem_list_neg (Q := fun r s' => r = w ∧ EP X pins σ Q r s') pl.isList (by omega) (by rw [List.size_toArray] <;> omega) (by omega) (by rw [hj]; simpa using ew) ⟨rfl, fin⟩) hs
theorem ix_tup : IxR X (rIxT X.K) := by
  intro value slice pins s σ H x y v u Q I rx ry h hs
  obtain ⟨p, xs, i, z, rfl, rfl, hq, he, q⟩ := h
  cases rx
  obtain ⟨t, rfl⟩ := ry
  obtain ⟨its, r, pl, hz⟩ := I.tuple hq
  obtain ⟨j, h1, h2, h3, h4, h5⟩ := atI_get he
  obtain ⟨w, ew, rw'⟩ := r.get h2
  have hl := r.length
  have hn := line63
  have fin : EP X pins σ Q w s := ⟨z, H, I, rw', q⟩
  exact subscriptTail_builtinR (x := w) pl.typeIs slot_tuple_getitem.lookup
    (getItem_tuple (j := j) (Q := fun r s' => r = w ∧ EP X pins σ Q r s') pl (by omega) (by omega) (by rw [List.size_toArray, ← hl]; exact h1) (by simpa using ew) ⟨rfl, fin⟩) hs
theorem mapSeq_set (its : List Value) (n j : Nat) (u : Value) : Obj.mapSeq (·.setIfInBounds j u) { cls := .type "list", data := .seq its.toArray n } = { cls := .type "list", data := .seq (its.set j u).toArray n } := by
  simp [Obj.mapSeq]
theorem Inv.lst {pins : List (Addr × Obj)} {σ : St} {H : Hp} {s : Shared} {p : Addr} {xs : List V} (I : Inv X pins σ H s) (h : H p = some (.lst xs)) :
    ∃ (its : List Value) (n : Nat), Vals xs its ∧ s.heap.get? p = some { cls := .type "list", data := .seq its.toArray n } ∧ xs.length ≤ sizeLine := by
  obtain ⟨z, its, n, r, e⟩ := I.hok p _ h
  exact ⟨its, n, r, e, z⟩
theorem Inv.lstUpd {pins : List (Addr × Obj)} {σ : St} {H : Hp} {s : Shared} {p : Addr} {xs ys : List V} {its its' : List Value} {n n' : Nat} {f : Obj → Obj} (I : Inv X pins σ H s) (h : H p = some (.lst xs))
    (ho : s.heap.get? p = some { cls := .type "list", data := .seq its.toArray n }) (hf : f { cls := .type "list", data := .seq its.toArray n } = { cls := .type "list", data := .seq its'.toArray n' }) (r : Vals ys its') (hz : ys.length ≤ sizeLine) (t : Nat) :
    Inv X pins σ (upd H p (.lst ys)) { s with heap := s.heap.update p f, toks := t } := by
  have e : (s.heap.update p f).get? p = some { cls := .type "list", data := .seq its'.toArray n' } := by
    rw [Heap.get?_update_self f ho (by rw [hf] <;> rfl), hf]
  refine I.write (x := p) (e := p) (by rw [h]; trivial) (.inl rfl) (fun b u hb q => (Heap.get?_update_other _ _ (Ne.symm hb)).trans q) ⟨_, e⟩ ?_
  exact ⟨hz, its', n', r, e⟩
def rSetL : V → V → V → Hp → (Hp → Prop) → Prop := fun o i v H Q => ∃ p xs k j, o = .ref p ∧ i = .int k ∧ H p = some (.lst xs) ∧ ixN xs.length k = some j ∧ Q (upd H p (.lst (xs.set j v)))
theorem set_list : PSet X rSetL := by
  intro pins s σ H o i v ov iv u Q I ro ri rv h
  obtain ⟨p, xs, k, j, rfl, rfl, hp, hj, q⟩ := h
  cases ro
  obtain ⟨t, rfl⟩ := ri
  obtain ⟨its, n, r, ho, hz⟩ := I.lst hp
  obtain ⟨h1, h2, h3, h4⟩ := ixN_seq hj
  have hl := r.length
  have hn := line63
  have I' : Inv X pins σ (upd H p (.lst (xs.set j v))) { s with heap := s.heap.update p (Obj.mapSeq (·.setIfInBounds j u)) } :=
    I.lstUpd hp ho (mapSeq_set its n j u) (r.set rv j) (by rw [List.length_set]; exact hz) s.toks
  by_cases h0 : 0 ≤ k
  · have hk : k.toNat = j := by
      rw [seqIndex_of h0 h4] at h1
      exact Option.some.inj h1
    exact PySem.W.ki_setAt ho h0 (by omega) (by rw [List.size_toArray, ← hl]; exact h4) (by rw [hk]; exact ⟨_, I', q⟩)
  · have hk : (k + (its.toArray.size : Int)).toNat = j := by
      rw [seqIndex_neg (by omega) h3] at h1
      rw [List.size_toArray, ← hl]
      exact Option.some.inj h1
    exact PySem.W.ki_setBack ho (by omega) (by rw [List.size_toArray, ← hl]; exact h3) (by omega) (by rw [hk]; exact ⟨_, I', q⟩)

theorem slice_bounds (lo hi : Option Int) (n : Nat) : (sliceBounds lo hi none n).1 = ((HT.sIx n 0 lo : Nat) : Int) ∧ (sliceBounds lo hi none n).2.1 = ((HT.sIx n n hi : Nat) : Int) ∧ (sliceBounds lo hi none n).2.2 = 1 := by
  refine ⟨?_, ?_, rfl⟩
  · cases lo with
    | none => simp [sliceBounds, HT.sIx]
    | some i =>
      simp only [sliceBounds, HT.sIx, Option.getD_none, show (1 : Int) > 0 by decide, if_true]
      by_cases h : i < 0
      · simp only [h, if_true] <;> omega
      · simp only [h, if_false] <;> omega
  · cases hi with
    | none => simp [sliceBounds, HT.sIx]
    | some i =>
      simp only [sliceBounds, HT.sIx, Option.getD_none, show (1 : Int) > 0 by decide, if_true]
      by_cases h : i < 0
      · simp only [h, if_true] <;> omega
      · simp only [h, if_false] <;> omega
theorem slicePick_cut (its : List Value) (lo hi : Option Int) : slicePick its.toArray lo hi none = ((its.drop (HT.sIx its.length 0 lo)).take (HT.sIx its.length its.length hi - HT.sIx its.length 0 lo)).toArray := by
  obtain ⟨h1, h2, h3⟩ := slice_bounds lo hi its.toArray.size
  unfold slicePick
  rw [h1, h2, h3]
  simp only [sliceRange_one, pick_run, List.size_toArray] <;> rfl
def rSlL (K : PySem.W.Frag) : V → Option Int → Option Int → Hp → VK → Prop := fun x lo hi H Q => ∃ a xs, x = .ref a ∧ SqL K H a xs ∧ ∀ p, H p = none → Q (.ref p) (upd H p (.lst (cutV xs lo hi)))
theorem sl_list : SlR X (rSlL X.K) := by
  intro pins s σ H x v vl vu lo hi sl Q I rx hs pl pu h
  obtain ⟨a, xs, rfl, hx, q⟩ := h
  cases rx
  obtain ⟨its, r, ht, hz⟩ := I.list hx
  have hlen := r.length
  refine ⟨"list", _, slot_list_getitem.lookup, ht.isList.typeIs, ?_⟩
  refine wpAny_getItem_list_slice ht.isList hs pl pu .none (by simp) ?_ (by rw [List.size_toArray] <;> omega)
  rw [slicePick_cut, ← hlen]
  refine ⟨.ref s.heap.objs.size, _, I.laid (t' := s.toks) (o := .lst (cutV xs lo hi)) (fun b ob q => Heap.get?_push_of_some _ q) (Nat.le_refl _) ?_, rfl, q _ (I.hok.fresh (Nat.le_refl _))⟩
  exact ⟨Nat.le_trans (cutV_length xs lo hi) hz, _, 0, (r.drop (HT.sIx xs.length 0 lo)).take (HT.sIx xs.length xs.length hi - HT.sIx xs.length 0 lo), Heap.get?_push_size _ rfl⟩

def flatV : V → Bool
  | .non => true
  | .bl _ => true
  | .int _ => true
  | .str _ => true
  | _ => false
def eqV : V → V → Bool
  | .non, .non => true
  | .bl a, .bl b => a == b
  | .bl a, .int b => (if a then 1 else 0) == b
  | .int a, .bl b => a == (if b then 1 else 0)
  | .int a, .int b => a == b
  | .str a, .str b => a == b
  | _, _ => false
theorem eqAt_V {A : Around} {s : Shared} {y x : V} {u v : Value} (ry : RelV y u) (rx : RelV x v) (fy : flatV y = true) (fx : flatV x = true) : SeqAt.EqAt A s u v (eqV y x) := by
  cases y with
  | non =>
    cases ry
    cases x with
    | non => cases rx; exact SeqAt.EqAt.same _
    | bl b => cases rx; exact SeqAt.EqAt.none_bool b
    | int b => obtain ⟨t, rfl⟩ := rx; exact SeqAt.EqAt.none_int b t
    | str b => obtain ⟨t, rfl⟩ := rx; exact SeqAt.EqAt.none_str b t
    | _ => exact absurd (show false = true from fx) Bool.false_ne_true
  | bl a =>
    cases ry
    cases x with
    | non => cases rx; exact SeqAt.EqAt.bool_none a
    | bl b => cases rx; exact SeqAt.EqAt.bool_bool a b
    | int b => obtain ⟨t, rfl⟩ := rx; exact SeqAt.EqAt.bool_int a b t
    | str b => obtain ⟨t, rfl⟩ := rx; exact SeqAt.EqAt.bool_str a b t
    | _ => exact absurd (show false = true from fx) Bool.false_ne_true
  | int a =>
    obtain ⟨t', rfl⟩ := ry
    cases x with
    | non => cases rx; exact SeqAt.EqAt.int_none a t'
    | bl b => cases rx; exact SeqAt.EqAt.int_bool a t' b
    | int b => obtain ⟨t, rfl⟩ := rx; exact SeqAt.EqAt.int_int a t' b t
    | str b => obtain ⟨t, rfl⟩ := rx; exact SeqAt.EqAt.int_str a t' b t
    | _ => exact absurd (show false = true from fx) Bool.false_ne_true
  | str a =>
    obtain ⟨t', rfl⟩ := ry
    cases x with
    | non => cases rx; exact SeqAt.EqAt.str_none a t'
    | bl b => cases rx; exact SeqAt.EqAt.str_bool a t' b
    | int b => obtain ⟨t, rfl⟩ := rx; exact SeqAt.EqAt.str_int a t' b t
    | str b => obtain ⟨t, rfl⟩ := rx; exact SeqAt.EqAt.str_str a t' b t
    | _ => exact absurd (show false = true from fx) Bool.false_ne_true
  | _ => exact absurd (show false = true from fy) Bool.false_ne_true
def eqU (x : V) (u : Value) : Bool := match u with
  | .none => eqV .non x
  | .bool b => eqV (.bl b) x
  | .int i _ => eqV (.int i) x
  | .str z _ => eqV (.str z) x
  | _ => false
theorem eqU_of {x y : V} {u : Value} (r : RelV y u) (f : flatV y = true) : eqU x u = eqV y x := by
  cases y with
  | non => cases r; rfl
  | bl b => cases r; rfl
  | int i => obtain ⟨t, rfl⟩ := r; rfl
  | str z => obtain ⟨t, rfl⟩ := r; rfl
  | _ => exact absurd (show false = true from f) Bool.false_ne_true
theorem any_eqU {x : V} : ∀ {xs : List V} {us : List Value}, Vals xs us → xs.all flatV = true → us.any (eqU x) = xs.any fun y => eqV y x
  | _, _, .nil, _ => rfl
  | y :: xs, u :: us, .cons r t, f => by
    rw [List.all_cons, Bool.and_eq_true] at f
    rw [List.any_cons, List.any_cons, eqU_of r f.1, any_eqU t f.2]
theorem mem_eqAt {A : Around} {s : Shared} {x : V} {v : Value} (rx : RelV x v) (fx : flatV x = true) : ∀ {xs : List V} {us : List Value}, Vals xs us → xs.all flatV = true → ∀ u ∈ us, SeqAt.EqAt A s u v (eqU x u)
  | _, _, .nil, _ => fun u hu => by cases hu
  | y :: xs, u :: us, .cons r t, f => fun u' hu => by
    rw [List.all_cons, Bool.and_eq_true] at f
    rcases List.mem_cons.mp hu with rfl | hu
    · rw [eqU_of r f.1]; exact eqAt_V r rx f.1 fx
    · exact mem_eqAt rx fx t f.2 u' hu
def inV (x : V) (xs : List V) : Bool := xs.any fun y => eqV y x
def rIn (K : PySem.W.Frag) (neg : Bool) : R2 := fun x y H Q => ∃ p xs, y = .ref p ∧ (SqL K H p xs ∨ SqT K H p xs) ∧ flatV x = true ∧ xs.all flatV = true ∧ Q (.bl (if neg then !inV x xs else inV x xs)) H
theorem op_in_seq : OpR X (compareOp .In) (rIn X.K false) := by
  intro pins s σ H x y v u Q I rx ry h
  obtain ⟨p, xs, rfl, hq, fx, fs, q⟩ := h
  cases ry
  rcases hq with hq | hq
  · obtain ⟨its, r, pl, hz⟩ := I.list hq
    refine SeqAt.in_listAt (eqU x) pl.isList (fun w hw => mem_eqAt rx fx r fs w (by simpa using hw)) ⟨.bl _, H, I, rfl, ?_⟩
    rw [show its.toArray.any (eqU x) = its.any (eqU x) by simp, any_eqU r fs]
    exact q
  · obtain ⟨its, r, pl, hz⟩ := I.tuple hq
    refine SeqAt.in_tupleAt (eqU x) pl (fun w hw => mem_eqAt rx fx r fs w (by simpa using hw)) ⟨.bl _, H, I, rfl, ?_⟩
    rw [show its.toArray.any (eqU x) = its.any (eqU x) by simp, any_eqU r fs]
    exact q
theorem op_notIn_seq : OpR X (compareOp .NotIn) (rIn X.K true) := by
  intro pins s σ H x y v u Q I rx ry h
  obtain ⟨p, xs, rfl, hq, fx, fs, q⟩ := h
  cases ry
  rcases hq with hq | hq
  · obtain ⟨its, r, pl, hz⟩ := I.list hq
    refine SeqAt.notIn_listAt (eqU x) pl.isList (fun w hw => mem_eqAt rx fx r fs w (by simpa using hw)) ⟨.bl _, H, I, rfl, ?_⟩
    rw [show its.toArray.any (eqU x) = its.any (eqU x) by simp, any_eqU r fs]
    exact q
  · obtain ⟨its, r, pl, hz⟩ := I.tuple hq
    refine SeqAt.notIn_tupleAt (eqU x) pl (fun w hw => mem_eqAt rx fx r fs w (by simpa using hw)) ⟨.bl _, H, I, rfl, ?_⟩
    rw [show its.toArray.any (eqU x) = its.any (eqU x) by simp, any_eqU r fs]
    exact q
theorem call_len_seq : CallR X (.builtin "len") (fun xs H Q => ∃ p ys, xs = [.ref p] ∧ (SqL X.K H p ys ∨ SqT X.K H p ys) ∧ Q (.int ys.length) H) := by
  intro pins s σ H xs us Q I r h
  obtain ⟨p, ys, rfl, hq, q⟩ := h
  obtain ⟨u, rfl, rx⟩ := vals1 r
  cases rx
  have hn := line63
  rcases hq with hq | hq
  · obtain ⟨its, r', pl, hz⟩ := I.list hq
    have hlen := r'.length
    exact Calls.call_len_list pl.isList (by simp only [List.size_toArray] <;> omega) ⟨.int ys.length, H, I.tok _, ⟨s.toks + 1, by rw [List.size_toArray, hlen]⟩, q⟩
  · obtain ⟨its, r', pl, hz⟩ := I.tuple hq
    have hlen := r'.length
    exact len_tuple pl (by simp only [List.size_toArray] <;> omega) ⟨.int ys.length, H, I.tok _, ⟨s.toks + 1, by rw [List.size_toArray, hlen]⟩, q⟩
def tyV (K : PySem.W.Frag) (T : String) (x : V) (H : Hp) : Prop := match x with
  | .str _ => T = "str"
  | .int _ => T = "int"
  | .ref p => (T = "list" ∧ ∃ xs, SqL K H p xs) ∨ (T = "tuple" ∧ ∃ o, K.lookup p = some o ∧ o.cls = .type "tuple" ∧ o.dict = none) ∨
      (T = "dict" ∧ ((∃ kvs, H p = some (.dK kvs)) ∨ ∃ kvs, H p = some (.dT kvs))) ∨ (T = "set" ∧ ∃ S n, H p = some (.set S n))
  | _ => False
theorem tyV_is {pins : List (Addr × Obj)} {σ : St} {H : Hp} {s : Shared} {T : String} {x : V} {v : Value} (I : Inv X pins σ H s) (r : RelV x v) (ty : tyV X.K T x H) :
    s.TypeIs v T ∧ ∀ a, v = .ref a → ∃ ob, s.heap.get? a = some ob ∧ ob.dict = none := by
  cases x with
  | str z =>
    obtain ⟨t, rfl⟩ := r
    cases (show T = "str" from ty)
    exact ⟨typeIs_str s z t, fun _ e => nomatch e⟩
  | int i =>
    obtain ⟨t, rfl⟩ := r
    cases (show T = "int" from ty)
    exact ⟨typeIs_int s i t, fun _ e => nomatch e⟩
  | ref p =>
    cases r
    rcases ty with ⟨rfl, xs, hq⟩ | ⟨rfl, o, hk, hc, hd⟩ | ⟨rfl, hk⟩ | ⟨rfl, S, n, hk⟩
    · obtain ⟨its, _, pl, _⟩ := I.list hq
      refine ⟨pl.isList.typeIs, fun a e => ?_⟩
      cases e
      obtain ⟨o, n, e, c, hd, _⟩ := pl
      exact ⟨o, e, hd⟩
    · refine ⟨⟨o, I.kIn p o hk, hc⟩, fun a e => ?_⟩
      cases e
      exact ⟨o, I.kIn _ o hk, hd⟩
    · have z : ∃ o, s.heap.get? p = some o ∧ o.ExactDict := by
        rcases hk with ⟨kvs, hk⟩ | ⟨kvs, hk⟩
        · obtain ⟨_, _, _, _, o, _, _, e, ex, _⟩ := I.hok p _ hk
          exact ⟨o, e, ex⟩
        · obtain ⟨_, _, _, _, o, _, _, e, ex, _⟩ := I.hok p _ hk
          exact ⟨o, e, ex⟩
      obtain ⟨o, e, ex⟩ := z
      refine ⟨⟨o, e, ex.1⟩, fun a e2 => ?_⟩
      cases e2
      exact ⟨o, e, ex.2.1⟩
    · obtain ⟨o, _, _, _, e, ex, _⟩ := I.hok p _ hk
      refine ⟨⟨o, e, ex.1⟩, fun a e2 => ?_⟩
      cases e2
      exact ⟨o, e, ex.2.1⟩
  | _ => exact False.elim ty
def tBM (K : PySem.W.Frag) (T : String) (r : V → List V → Hp → VK → Prop) (to : TE) (t : TA) : TE := fun σ H Q => to σ H fun x H1 => tyV K T x H1 ∧ t σ H1 fun xs H2 => r x xs H2 Q
variable {o e : Expr} {es : List Expr} {to : TE} {t : TA} {name : Str} {apos cpos : Pos} {T id : String} {r : V → List V → Hp → VK → Prop}
theorem pe_bm (pa : PlainAttrs T) (slot : Slot T name id) (hty : typeOf (.builtin id) = pure (.type "method_descriptor")) (hm : MtR X id r) (ho : PE X o to) (ha : PA X (e :: es) t)
    (hbase : attributeBase o name X.env (eval o X.env) = eval o X.env := by rfl)
    (hfew : ((backTo cpos (starEach (e :: es) X.env)).all (fun x => !x.1) && (backToKw cpos (keywordEach [] X.env)).all (fun x => x.1.isSome)
      && decide ((e :: es).length + ([] : List Keyword).length + (if ([] : List Keyword).isEmpty then 0 else 1) < 30)) = true := by rfl)
    (hline : (apos.endLine == cpos.line) = true := by rfl) (hs : starEach (e :: es) X.env = (false, eval e X.env) :: starEach es X.env := by rfl) (hplain : (backTo cpos (starEach es X.env)).any (·.1) = false := by rfl) :
    PE X (.Call (.Attribute o name apos) (e :: es) [] cpos) (tBM X.K T r to t) := by
  intro pins s σ H Q I h
  refine wpAny_Call_method_late hbase hfew hline rfl (thn (ho pins s σ H _ I h) fun v s1 ⟨x, H1, I1, r1, ty, q1⟩ => ?_)
  obtain ⟨h1, h2⟩ := tyV_is I1 r1 ty
  refine ⟨T, id, pa, slot, hty, h1, h2, ?_⟩
  have hA := ha cpos pins s1 σ H1 _ I1 q1
  rw [hs] at hA ⊢
  refine Calls.callWith_builtin (by show (false || (backTo cpos (starEach es X.env)).any (·.1)) = false; rw [hplain] <;> rfl) (Calls.evalArgs_plain ?_)
  exact thn hA fun us s2 ⟨vs, H2, I2, r2, q2⟩ => hm pins s2 σ H2 x vs v us Q I2 r1 r2 q2
end
end L2

namespace L2
open PySem PySem.Spec PyProof.Rows

def MtM (X : Cx) (id : String) (r : V → List V → Hp → VK → Prop) : Prop :=
  ∀ (pins : List (Addr × Obj)) (s : Shared) (σ : St) (H : Hp) (x : V) (xs : List V) (v : Value) (us : List Value) (Q : VK), Inv X pins σ H s → RelV x v → Vals xs us → r x xs H Q →
    wpAny (model X.prog X.w) X.A (call (.builtin id) (v :: us)) (EP X pins σ Q) X.xe s

theorem Vals.one : ∀ {x : V} {us : List Value}, Vals [x] us → ∃ u, us = [u] ∧ RelV x u
  | _, _, .cons r .nil => ⟨_, rfl, r⟩
theorem Vals.two : ∀ {x y : V} {us : List Value}, Vals [x, y] us → ∃ u v, us = [u, v] ∧ RelV x u ∧ RelV y v
  | _, _, _, .cons r (.cons q .nil) => ⟨_, _, rfl, r, q⟩
theorem Vals.zero : ∀ {us : List Value}, Vals [] us → us = []
  | _, .nil => rfl
theorem Vals.reverse {xs : List V} {us : List Value} (h : Vals xs us) : Vals xs.reverse us.reverse := by
  induction h with
  | nil => exact .nil
  | cons r t ih => rw [List.reverse_cons, List.reverse_cons]; exact Vals.append ih (.cons r .nil)
section
variable {X : Cx} {pins : List (Addr × Obj)} {σ : St} {H : Hp} {s : Shared} {l b : Addr} {xs ys zs : List V}

theorem Inv.lset {its its' : List Value} {n : Nat} {f : Array Value → Array Value} {t' : Nat} (I : Inv X pins σ H s) (hH : H l = some (.lst xs))
    (e : s.heap.get? l = some { cls := .type "list", data := .seq its.toArray n }) (hf : f its.toArray = its'.toArray) (hv : Vals ys its') (hz : ys.length ≤ sizeLine) :
    Inv X pins σ (upd H l (.lst ys)) { s with heap := s.heap.update l (Obj.mapSeq f), toks := t' } := by
  have q := PySem.IsL.update e f
  rw [hf] at q
  refine I.write (x := l) (e := l) (by rw [hH]; exact trivial) (.inl rfl) (fun b' u hb hu => (Heap.get?_update_other s.heap (Obj.mapSeq f) (Ne.symm hb)).trans hu) ⟨_, q⟩ ?_
  exact ⟨hz, its', _, hv, q⟩
theorem Inv.lnew {its : List Value} {t' : Nat} (I : Inv X pins σ H s) (hv : Vals ys its) (hz : ys.length ≤ sizeLine) :
    Inv X pins σ (upd H s.heap.objs.size (.lst ys)) { s with heap := s.heap.push { cls := .type "list", data := .seq its.toArray }, toks := t' } :=
  I.laid (fun _ _ q => Heap.get?_push_of_some _ q) (Nat.le_refl _) ⟨hz, its, 0, hv, Heap.get?_push_size _ rfl⟩
theorem Inv.fresh (I : Inv X pins σ H s) : H s.heap.objs.size = none := I.hok.fresh (Nat.le_refl _)
theorem Inv.lstM (I : Inv X pins σ H s) (hH : H l = some (.lst xs)) : xs.length ≤ sizeLine ∧ ∃ (its : List Value) (n : Nat), Vals xs its ∧ xs.length = its.length ∧ s.heap.get? l = some { cls := .type "list", data := .seq its.toArray n } := by
  obtain ⟨z, its, n, r, e⟩ := I.hok l _ hH
  exact ⟨z, its, n, r, r.length, e⟩

theorem notLongL {n : Nat} (h : n ≤ sizeLine) : Builtin.List.listTooLong n = false := by
  unfold Builtin.List.listTooLong
  exact decide_eq_false (by omega)
end

section
variable {X : Cx}

def rAppend : V → List V → Hp → VK → Prop := fun x vs H Q => ∃ l xs y, x = .ref l ∧ vs = [y] ∧ H l = some (.lst xs) ∧ xs.length < sizeLine ∧ Q .non (upd H l (.lst (xs ++ [y])))
theorem mt_append : MtM X "list.append" rAppend := by
  intro pins s σ H x vs v us Q I rx rv h
  obtain ⟨l, xs, y, rfl, rfl, hH, hz, q⟩ := h
  cases rx
  obtain ⟨u, rfl, ru⟩ := rv.one
  obtain ⟨z, its, n, r, hl, e⟩ := I.lstM hH
  refine call_meets F.slot_list_append ⟨_, e, rfl⟩ F.entry_list_append (F.args_list_append_2 _ _) (PySem.list_append l its.toArray n u (by rw [List.size_toArray]; omega)) ⟨e, ?_⟩
  refine ⟨.non, _, I.lset (its' := its ++ [u]) hH e (by simp) (r.append (.cons ru .nil)) ?_, rfl, q⟩
  rw [List.length_append, List.length_singleton]
  omega

def rExtend : V → List V → Hp → VK → Prop := fun x vs H Q => ∃ l b xs zs, x = .ref l ∧ vs = [.ref b] ∧ H l = some (.lst xs) ∧ H b = some (.lst zs) ∧ xs.length + zs.length ≤ sizeLine ∧ Q .non (upd H l (.lst (xs ++ zs)))
theorem mt_extend : MtM X "list.extend" rExtend := by
  intro pins s σ H x vs v us Q I rx rv h
  obtain ⟨l, b, xs, zs, rfl, rfl, hH, hB, hz, q⟩ := h
  cases rx
  obtain ⟨u, rfl, ru⟩ := rv.one
  cases ru
  obtain ⟨z, its, n, r, hl, e⟩ := I.lstM hH
  obtain ⟨z2, its2, n2, r2, hl2, e2⟩ := I.lstM hB
  have hsz : its.toArray.size + its2.toArray.size ≤ sizeLine := by rw [List.size_toArray, List.size_toArray]; omega
  have hlong : ¬ (!its.toArray.isEmpty && Builtin.List.listTooLong (its.toArray.size + its2.toArray.size)) = true := by
    rw [notLongL hsz, Bool.and_false]
    exact Bool.false_ne_true
  refine call_meets F.slot_list_extend ⟨_, e, rfl⟩ F.entry_list_extend (F.args_list_extend_2 _ _)
    (AutoSeq1.list_extend_list_list_0 l its.toArray n b its2.toArray n2 hlong (by rw [List.size_toArray]; omega) (by omega)) ⟨e, e2, ?_⟩
  refine ⟨.non, _, I.lset (its' := its ++ its2) hH e (by simp) (r.append r2) ?_, rfl, q⟩
  rw [List.length_append]
  omega

def rCat : R2 := fun x y H Q => ∃ l b xs zs, x = .ref l ∧ y = .ref b ∧ H l = some (.lst xs) ∧ H b = some (.lst zs) ∧ xs.length + zs.length ≤ sizeLine ∧ ∀ p, H p = none → Q (.ref p) (upd H p (.lst (xs ++ zs)))
theorem op_cat : OpR X (binaryOp .Add) rCat := by
  intro pins s σ H x y v u Q I rx ry h
  obtain ⟨l, b, xs, zs, rfl, rfl, hH, hB, hz, q⟩ := h
  cases rx
  cases ry
  obtain ⟨z, its, n, r, hl, e⟩ := I.lstM hH
  obtain ⟨z2, its2, n2, r2, hl2, e2⟩ := I.lstM hB
  refine PySem.P.add_list e e2 ?_ (by rw [List.size_toArray, List.size_toArray]; omega)
  have ea : its.toArray ++ its2.toArray = (its ++ its2).toArray := by simp
  rw [ea]
  exact ⟨.ref _, _, I.lnew (t' := s.toks) (r.append r2) (by rw [List.length_append]; omega), rfl, q _ I.fresh⟩
end

section
variable {prog : Program} {w : World} {A : Around} {E : Value → Shared → Prop} {s : Shared}
set_option maxRecDepth 100000 in
end

section
variable {X : Cx}
end
end L2

namespace L2
open PySem PySem.Spec PyProof.Rows

theorem Vals.ints : ∀ {ns : List Int} {us : List Value}, Vals (ns.map V.int) us → IntsAre us ns
  | [], us, h => by
    rw [List.map_nil] at h
    cases h
    exact IntsAre.nil
  | n :: ns, us, h => by
    rw [List.map_cons] at h
    cases h with
    | cons r t =>
      obtain ⟨k, rfl⟩ := r
      exact IntsAre.cons n k (Vals.ints t)
theorem vals_of_ints : ∀ {us : List Value} {ns : List Int}, IntsAre us ns → Vals (ns.map V.int) us
  | _, _, .nil => by rw [List.map_nil]; exact Paired.nil
  | _, _, .cons n t h => by rw [List.map_cons]; exact Paired.cons (show RelV (V.int n) (Value.int n t) from ⟨t, rfl⟩) (vals_of_ints h)
theorem Vals.strs : ∀ {xs : List Str} {us : List Value}, Vals (xs.map V.str) us → StrsAre us xs
  | [], us, h => by
    rw [List.map_nil] at h
    cases h
    exact StrsAre.nil
  | x :: xs, us, h => by
    rw [List.map_cons] at h
    cases h with
    | cons r t =>
      obtain ⟨k, rfl⟩ := r
      exact StrsAre.cons x k (Vals.strs t)
theorem Vals.bls : ∀ {bs : List Bool} {us : List Value}, Vals (bs.map V.bl) us → us = bs.map Value.bool
  | [], us, h => by
    rw [List.map_nil] at h
    cases h
    rfl
  | b :: bs, us, h => by
    rw [List.map_cons] at h
    cases h with
    | cons r t =>
      cases r
      rw [Vals.bls t, List.map_cons]
theorem Vals.ref1 {a : Addr} {us : List Value} (r : Vals [V.ref a] us) : us = [Value.ref a] := by
  cases r with
  | cons r t =>
    cases t
    cases r
    rfl
section
variable {prog : Program} {w : World} {A : Around} {E : Value → Shared → Prop} {s : Shared} {l : Addr} {its : List Value} {ns : List Int} {Q : Value → Shared → Prop}
end

section
variable {X : Cx}
end

section
variable {X : Cx}
end

section
variable {X : Cx}
end

theorem iter_any {prog : Program} {w : World} {A : Around} {E : Value → Shared → Prop} {s : Shared} {l : Addr} {items : Array Value} {Q : Value → Shared → Prop} (hl : s.heap.IsList l items)
    (h : ∀ s₂ : Shared, s₂ = { s with heap := s.heap.push { cls := .type "list_iterator", data := .fields #[.ref l, .int 0 0] } } →
      (s₂.heap.IsListIter s.heap.objs.size l 0 ∧ s₂.heap.IsList l items) → l ≠ s.heap.objs.size → Q (.ref s.heap.objs.size) s₂) : wpAny (model prog w) A (pyIter (.ref l)) Q E s := by
  have hlt : l < s.heap.objs.size := by obtain ⟨_, e, _⟩ := hl; exact Heap.lt_size e
  exact wpAny_pyIter_list hl (h _ rfl ⟨⟨_, Heap.get?_push_size _ rfl, rfl, rfl⟩, hl.push _⟩ (Nat.ne_of_lt hlt))
theorem truth_bools {prog : Program} {w : World} {A : Around} {bs : List Bool} {its : List Value} (e : its = bs.map Value.bool) :
    TruthOf prog w A (fun i v => its.toArray[i]? = some v) (fun i => bs.getD i false) := fun i v s Q E hv hq => by
  have hv' : its[i]? = some v := by simpa using hv
  rw [e, List.getElem?_map] at hv'
  obtain ⟨b, hb, rfl⟩ := Option.map_eq_some_iff.mp hv'
  have hg : bs.getD i false = b := by rw [List.getD_eq_getElem?_getD, hb] <;> rfl
  have hq' : Q (bs.getD i false) s := hq
  rw [hg] at hq'
  exact wpAny_truthy_bool hq'
theorem any_range : ∀ bs : List Bool, (List.range bs.length).any (fun i => bs.getD i false) = bs.any id
  | [] => rfl
  | b :: bs => by
    rw [List.length_cons, List.range_succ_eq_map, List.any_cons, List.any_map, List.any_cons, ← any_range bs]
    all_goals rfl
section
variable {X : Cx}
def rAny (K : PySem.W.Frag) : List V → Hp → VK → Prop := fun vs H Q => ∃ (a : Addr) (bs : List Bool), vs = [V.ref a] ∧ SqL K H a (bs.map V.bl) ∧ Q (.bl (bs.any id)) H
theorem cr_any (hc : X.calm = true) : CallR X (.builtin "any") (rAny X.K) := by
  intro pins s σ H vs us Q I r h
  obtain ⟨a, bs, rfl, hs, q⟩ := h
  obtain ⟨its, rv, hl, _⟩ := I.list hs
  rw [Vals.ref1 r]
  have hb := rv.bls
  refine call_any_walk (iter_any hl.isList fun s₂ e2 st hne => ?_)
  subst e2
  refine ⟨_, _, _, _, _, _, _, rfl, Walks.list (A := X.A.in1) (I.ok.hd hc) _ a hne its.toArray, st, truth_bools hb, fun h' tk hk => ?_⟩
  refine ⟨.bl _, H, I.kept fun b o eo => hk b o (fun hmem => ?_) (Heap.get?_push_of_some _ eo), ?_, q⟩
  · rcases List.mem_cons.mp hmem with e1 | hmem
    · exact absurd (e1 ▸ Heap.lt_size eo) (Nat.lt_irrefl _)
    · cases hmem
  · show Value.bool _ = Value.bool _
    rw [← any_range, hb, List.size_toArray, List.length_map]
end

mutual
inductive Dp (K : PySem.W.Frag) (H : Hp) : V → PyData → Prop
  | non : Dp K H .non .none
  | bl (b : Bool) : Dp K H (.bl b) (.bool b)
  | int (i : Int) : Dp K H (.int i) (.int i)
  | str (x : Str) : Dp K H (.str x) (.str x)
  | lst {a : Addr} {xs : List V} {ds : List PyData} : SqL K H a xs → DpAll K H xs ds → Dp K H (.ref a) (.list ds)
  | tup {a : Addr} {xs : List V} {ds : List PyData} : SqT K H a xs → DpAll K H xs ds → Dp K H (.ref a) (.tuple ds)
inductive DpAll (K : PySem.W.Frag) (H : Hp) : List V → List PyData → Prop
  | nil : DpAll K H [] []
  | cons {v : V} {vs : List V} {d : PyData} {ds : List PyData} : Dp K H v d → DpAll K H vs ds → DpAll K H (v :: vs) (d :: ds)
end
section
variable {X : Cx} {pins : List (Addr × Obj)} {σ : St} {H : Hp} {s : Shared}
mutual
theorem Dp.reads (I : Inv X pins σ H s) : ∀ (d : PyData) (v : V) (u : Value), Dp X.K H v d → RelV v u → ∃ as, Reads s.heap u d as
  | .none, _, _, h, r => by
    cases h
    cases r
    exact ⟨_, Reads.none⟩
  | .bool b, _, _, h, r => by
    cases h
    cases r
    exact ⟨_, Reads.bool b⟩
  | .int i, _, _, h, r => by
    cases h
    obtain ⟨t, rfl⟩ := r
    exact ⟨_, Reads.int i t⟩
  | .str x, _, _, h, r => by
    cases h
    obtain ⟨t, rfl⟩ := r
    exact ⟨_, Reads.str x t⟩
  | .list ds, _, _, h, r => by
    cases h with
    | lst hs ha =>
      cases r
      obtain ⟨its, rv, ⟨o, n, ho, hc, _, hd⟩, _⟩ := I.list hs
      obtain ⟨as, hr⟩ := Dp.readsAll I ds _ its ha rv
      exact ⟨_, Reads.list ho hc hd hr⟩
  | .tuple ds, _, _, h, r => by
    cases h with
    | tup hs ha =>
      cases r
      obtain ⟨its, rv, ⟨o, ho, hc, n, hd⟩, _⟩ := I.tuple hs
      obtain ⟨as, hr⟩ := Dp.readsAll I ds _ its ha rv
      exact ⟨_, Reads.tuple ho hc hd hr⟩
  | .dict _, _, _, h, _ => by cases h
theorem Dp.readsAll (I : Inv X pins σ H s) : ∀ (ds : List PyData) (vs : List V) (us : List Value), DpAll X.K H vs ds → Vals vs us → ∃ as, ReadsAll s.heap us ds as
  | [], _, _, h, r => by
    cases h
    cases r
    exact ⟨_, ReadsAll.nil⟩
  | d :: ds, _, _, h, r => by
    cases h with
    | cons h1 h2 =>
      cases r with
      | cons r1 r2 =>
        obtain ⟨as, q1⟩ := Dp.reads I d _ _ h1 r1
        obtain ⟨bs, q2⟩ := Dp.readsAll I ds _ _ h2 r2
        exact ⟨_, ReadsAll.cons q1 q2⟩
end
end
section
variable {X : Cx}
def rNeD (K : PySem.W.Frag) : R2 := fun x y H Q => ∃ d e, Dp K H x d ∧ Dp K H y e ∧ SeqAt.shaped d = true ∧ SeqAt.shaped e = true ∧ Q (.bl (!PyData.eqv d e)) H
theorem op_neD (hu : X.A.units + 64 < cLine) : OpR X (compareOp .NotEq) (rNeD X.K) := by
  intro pins s σ H x y v u Q I rx ry h
  obtain ⟨d, e, hd, he, sd, se, q⟩ := h
  obtain ⟨as, r1⟩ := Dp.reads I d x v hd rx
  obtain ⟨bs, r2⟩ := Dp.reads I e y u he ry
  exact SeqAt.compareNe_shaped r1 r2 sd se hu ⟨.bl _, H, I, rfl, q⟩
end
end L2

namespace L2
open PySem PySem.Spec PyProof.Rows
abbrev CellAt (h : Heap) (c : Addr) (v : Option Value) : Prop := h.IsCell c v
def relS (scope sc : Scope) : Scope :=
  { scope with names := scope.names.map fun (n, k) => if (k == .free && sc.kind == .function && sc.names.lookup n == some .cell) then (n, .cell) else (n, k) }

def cloFrom (cells : List (Str × Addr)) : List (Str × NameKind) → List (Str × Addr) → List (Str × Addr)
  | [], acc => acc
  | (n, k) :: r, acc => if k == .free then cloFrom cells r ((n, (cells.lookup n).getD 0) :: acc) else cloFrom cells r acc

theorem closure_loop (env : Env) (f : Str × NameKind → List (Str × Addr) → Sem (ForInStep (List (Str × Addr))))
    (hf : ∀ n k c, f (n, k) c = if k == .free then (do let a ← cellOf env n; pure (.yield ((n, a) :: c))) else pure (.yield c)) :
    ∀ (names : List (Str × NameKind)) (acc : List (Str × Addr)), (∀ y ∈ names, y.2 = .free → ∃ c, env.cells.lookup y.1 = some c) → forIn names acc f = pure (cloFrom env.cells names acc)
  | [], acc, _ => by rw [List.forIn_nil]; rfl
  | (n, k) :: r, acc, h => by
    rw [List.forIn_cons, hf]
    have ih := fun acc => closure_loop env f hf r acc fun y hy => h y (List.mem_cons_of_mem _ hy)
    unfold cloFrom
    by_cases hk : (k == NameKind.free) = true
    · rw [if_pos hk, if_pos hk]
      obtain ⟨c, hc⟩ := h (n, k) List.mem_cons_self (by simpa using hk)
      have e : cellOf env n = pure c := by unfold cellOf; rw [hc]
      rw [e]
      have e2 : (env.cells.lookup n).getD 0 = c := by rw [hc]; rfl
      rw [e2]
      exact ih _
    · rw [if_neg hk, if_neg hk]
      exact ih _
theorem closure_ok {scope : Scope} {env : Env} (h : ∀ y ∈ scope.names, y.2 = .free → ∃ c, env.cells.lookup y.1 = some c) : closureFor scope env = pure (cloFrom env.cells scope.names []) := by
  simp only [closureFor]
  rw [closure_loop env _ (fun n k c => rfl) scope.names [] h]
  rfl

theorem mem_lookup {α : Type} : ∀ {l : List (Str × α)} {n : Str} {c : α}, (n, c) ∈ l → ∃ c', l.lookup n = some c'
  | (k, v) :: r, n, c, h => by
    rw [List.lookup_cons]
    cases hb : n == k with
    | true => exact ⟨_, rfl⟩
    | false =>
      rcases List.mem_cons.mp h with e | h
      · cases e; simp at hb
      · exact mem_lookup h

theorem cloFrom_mem {cells : List (Str × Addr)} : ∀ {names : List (Str × NameKind)} {acc : List (Str × Addr)} {n : Str} {c : Addr}, (n, c) ∈ cloFrom cells names acc → (n, c) ∈ acc ∨ ((n, .free) ∈ names ∧ c = (cells.lookup n).getD 0)
  | [], _, _, _, h => .inl h
  | (m, k) :: r, acc, n, c, h => by
    unfold cloFrom at h
    split at h
    · rename_i hk
      have hk : k = .free := by simpa using hk
      rcases cloFrom_mem h with h | ⟨h1, h2⟩
      · rcases List.mem_cons.mp h with e | h
        · cases e; exact .inr ⟨hk ▸ List.mem_cons_self, rfl⟩
        · exact .inl h
      · exact .inr ⟨List.mem_cons_of_mem _ h1, h2⟩
    · rcases cloFrom_mem h with h | ⟨h1, h2⟩
      · exact .inl h
      · exact .inr ⟨List.mem_cons_of_mem _ h1, h2⟩
theorem cloFrom_acc {cells : List (Str × Addr)} : ∀ {names : List (Str × NameKind)} {acc : List (Str × Addr)} {p : Str × Addr}, p ∈ acc → p ∈ cloFrom cells names acc
  | [], _, _, h => h
  | (m, k) :: r, acc, p, h => by
    unfold cloFrom
    split
    · exact cloFrom_acc (List.mem_cons_of_mem _ h)
    · exact cloFrom_acc h
theorem cloFrom_has {cells : List (Str × Addr)} : ∀ {names : List (Str × NameKind)} {acc : List (Str × Addr)} {n : Str}, (n, .free) ∈ names → (n, (cells.lookup n).getD 0) ∈ cloFrom cells names acc
  | (m, k) :: r, acc, n, h => by
    unfold cloFrom
    rcases List.mem_cons.mp h with e | h
    · cases e
      exact cloFrom_acc List.mem_cons_self
    · split
      · exact cloFrom_has h
      · exact cloFrom_has h

theorem cells_mem : ∀ {names : List (Str × NameKind)} {h : Heap} {acc : List (Str × Addr)} {x : Str} {c : Addr}, (x, c) ∈ cellsFrom h.objs.size names acc →
    (x, c) ∈ acc ∨ ((x, .cell) ∈ names ∧ h.objs.size ≤ c ∧ CellAt (pushCells h names) c none)
  | [], _, _, _, _, h => .inl h
  | (n, k) :: r, h, acc, x, c, hm => by
    unfold cellsFrom at hm
    unfold pushCells
    split at hm
    · rename_i hk
      rw [if_pos hk]
      have hk : k = .cell := by simpa using hk
      rw [← Heap.size_push h { cls := .type "cell", data := .cell none }] at hm
      rcases cells_mem hm with hm | ⟨h1, h2, h3⟩
      · rcases List.mem_cons.mp hm with e | hm
        · cases e
          exact .inr ⟨hk ▸ List.mem_cons_self, Nat.le_refl _, _, pushCells_keeps r _ _ _ (Heap.get?_push_size _ rfl), rfl⟩
        · exact .inl hm
      · rw [Heap.size_push] at h2
        exact .inr ⟨List.mem_cons_of_mem _ h1, Nat.le_of_succ_le h2, h3⟩
    · rename_i hk
      rw [if_neg hk]
      rcases cells_mem hm with hm | ⟨h1, h2, h3⟩
      · exact .inl hm
      · exact .inr ⟨List.mem_cons_of_mem _ h1, h2, h3⟩
theorem cells_acc : ∀ {names : List (Str × NameKind)} {n : Nat} {acc : List (Str × Addr)} {p : Str × Addr}, p ∈ acc → p ∈ cellsFrom n names acc
  | [], _, _, _, h => h
  | (m, k) :: r, n, acc, p, h => by
    unfold cellsFrom
    split
    · exact cells_acc (List.mem_cons_of_mem _ h)
    · exact cells_acc h
theorem cells_has : ∀ {names : List (Str × NameKind)} {n : Nat} {acc : List (Str × Addr)} {x : Str}, (x, .cell) ∈ names → ∃ c, (x, c) ∈ cellsFrom n names acc
  | (m, k) :: r, n, acc, x, h => by
    unfold cellsFrom
    rcases List.mem_cons.mp h with e | h
    · cases e
      exact ⟨n, cells_acc List.mem_cons_self⟩
    · split
      · exact cells_has h
      · exact cells_has h
theorem cells_inj : ∀ {names : List (Str × NameKind)} {h : Heap} {acc : List (Str × Addr)} {x y : Str} {c : Addr}, (∀ p ∈ acc, p.2 < h.objs.size) → (∀ x y c, (x, c) ∈ acc → (y, c) ∈ acc → x = y) →
    (x, c) ∈ cellsFrom h.objs.size names acc → (y, c) ∈ cellsFrom h.objs.size names acc → x = y
  | [], _, _, _, _, _, _, hi, h1, h2 => hi _ _ _ h1 h2
  | (n, k) :: r, h, acc, x, y, c, hl, hi, h1, h2 => by
    unfold cellsFrom at h1 h2
    split at h1
    · rename_i hk
      rw [if_pos hk] at h2
      rw [← Heap.size_push h { cls := .type "cell", data := .cell none }] at h1 h2
      refine cells_inj (h := h.push _) (fun p hp => ?_) (fun x y c a b => ?_) h1 h2
      · rw [Heap.size_push]
        rcases List.mem_cons.mp hp with rfl | hp
        · exact Nat.lt_succ_self _
        · exact Nat.lt_succ_of_lt (hl p hp)
      · rcases List.mem_cons.mp a with e | a <;> rcases List.mem_cons.mp b with e' | b
        · cases e; cases e'; rfl
        · cases e; exact absurd (hl _ b) (Nat.lt_irrefl _)
        · cases e'; exact absurd (hl _ a) (Nat.lt_irrefl _)
        · exact hi _ _ _ a b
    · rename_i hk
      rw [if_neg hk] at h2
      exact cells_inj hl hi h1 h2

theorem newEnv_comp {M : Model} {A : Around} {E : Value → Shared → Prop} {s : Shared} {scope : Scope} {globals : Addr} {closure : List (Str × Addr)} {qual : Str} {func : Option Addr} {code : Value} {around : Env} {builtins : Addr} {Q : Env → Shared → Prop}
    (h : Q (newEnv scope s.heap.objs.size globals (cellsFrom (s.heap.objs.size + 1) scope.names closure) qual func code (some around) builtins)
      { s with heap := pushCells (s.heap.push { cls := .type "dict", data := .dict #[] }) scope.names }) :
    wpAny M A (newFunctionEnv scope globals closure [] qual func code (some around) builtins) Q E s := by
  simp only [newFunctionEnv, Option.isSome_some, if_true]
  refine wpAny_bind (wpAny_alloc ?_)
  refine wpAny_bind (wpAny_layCells _ (fun n k c => rfl) scope.names closure _ _ ?_)
  rw [show ({ s with heap := s.heap.push { cls := .type "dict", data := .dict #[] } } : Shared).heap.objs.size = s.heap.objs.size + 1 from Heap.size_push ..]
  rw [List.forIn_nil]
  exact wpAny_bind (wpAny_pure (wpAny_pure h))

theorem lookup_relS {sc : Scope} : ∀ {names : List (Str × NameKind)} {x : Str} {k : NameKind},
    (names.map fun (n, k) => if (k == NameKind.free && sc.kind == .function && sc.names.lookup n == some .cell) then (n, NameKind.cell) else (n, k)).lookup x = some k →
    ∃ k', names.lookup x = some k' ∧ (k = k' ∨ (k' = .free ∧ k = .cell))
  | [], _, _, h => by simp at h
  | (n, k₀) :: r, x, k, h => by
    have ih := @lookup_relS sc r x k
    have h' : List.lookup x ((if (k₀ == NameKind.free && sc.kind == .function && sc.names.lookup n == some .cell) = true then (n, NameKind.cell) else (n, k₀)) :: (r.map _)) = some k := h
    cases hx : x == n with
    | true =>
      simp only [List.lookup_cons, hx]
      by_cases hc : (k₀ == NameKind.free && sc.kind == .function && sc.names.lookup n == some .cell) = true
      · rw [if_pos hc] at h'
        simp only [List.lookup_cons, hx] at h'
        cases h'
        simp only [Bool.and_eq_true, beq_iff_eq] at hc
        exact ⟨k₀, rfl, .inr ⟨hc.1.1, rfl⟩⟩
      · rw [if_neg hc] at h'
        simp only [List.lookup_cons, hx] at h'
        cases h'
        exact ⟨_, rfl, .inl rfl⟩
    | false =>
      simp only [List.lookup_cons, hx]
      by_cases hc : (k₀ == NameKind.free && sc.kind == .function && sc.names.lookup n == some .cell) = true
      · rw [if_pos hc] at h'
        simp only [List.lookup_cons, hx] at h'
        exact ih h'
      · rw [if_neg hc] at h'
        simp only [List.lookup_cons, hx] at h'
        exact ih h'
structure BlkOk (N : List Str) (sc scope : Scope) (own : List (Str × Nat)) : Prop where
  kind : scope.kind = .function
  uniq : ∀ y ∈ scope.names, scope.names.lookup y.1 = some y.2
  ix : ∀ p ∈ own, N[p.2]? = some p.1
  free : ∀ y ∈ scope.names, y.2 = .free → sc.names.lookup y.1 = some .cell ∨ sc.names.lookup y.1 = some .free
  own : ∀ y ∈ scope.names, y.2 = .local ∨ y.2 = .cell → y.1 ∈ own.map (·.1) ∨ y.1 ∉ N
def wipe (σ : St) : List Nat → St
  | [] => σ
  | v :: vs => (wipe σ vs).set v none
theorem wipe_length (σ : St) : ∀ vs : List Nat, (wipe σ vs).length = σ.length
  | [] => rfl
  | v :: vs => by unfold wipe; rw [List.length_set, wipe_length σ vs]
theorem wipe_some {σ : St} {i : Nat} {x : V} : ∀ {vs : List Nat}, (wipe σ vs)[i]? = some (some x) → σ[i]? = some (some x) ∧ i ∉ vs
  | [], h => ⟨h, by simp⟩
  | v :: vs, h => by
    unfold wipe at h
    by_cases hi : v = i
    · subst hi
      by_cases hv : v < (wipe σ vs).length
      · rw [List.getElem?_set_self hv] at h; cases h
      · rw [List.getElem?_eq_none (by simpa using hv)] at h; cases h
    · rw [List.getElem?_set_ne hi] at h
      obtain ⟨h1, h2⟩ := wipe_some h
      exact ⟨h1, by simp only [List.mem_cons, not_or]; exact ⟨fun e => hi e.symm, h2⟩⟩

abbrev Cx.blk (X : Cx) (s : Shared) (H : Hp) (scope : Scope) (cenv : Env) (fp : List Addr) : Cx := { X with s_0 := s, H_0 := H, env := cenv, outer := X.stack, ex := fp, fn := fun x => scope.names.lookup x == some .cell, pn := [], xe := fun _ _ => False }
section
variable {X : Cx} {pins : List (Addr × Obj)} {σ : St} {H : Hp} {s : Shared}
theorem block_start {scope : Scope} {own : List (Str × Nat)} {fp : List Addr} (I : Inv X pins σ H s) (ok : BlkOk X.N X.env.scope scope own) (hN : X.N.Nodup) (hfp : ∀ b ∈ fp, FpOk X pins H b ∧ b < s.heap.objs.size) :
    Inv (X.blk s H scope (compEnvC scope (cellsFrom (s.heap.objs.size + 1) scope.names (cloFrom X.env.cells scope.names [])) s.heap.objs.size X.env) fp) [] (wipe σ (own.map (·.2))) H { s with heap := pushCells (s.heap.push { cls := .type "dict", data := .dict #[] }) scope.names } := by
  have hfree : ∀ y ∈ scope.names, y.2 = .free → ∃ c, X.env.cells.lookup y.1 = some c := fun y hy e => by
    rcases ok.free y hy e with k | k
    · exact I.ok.has _ (.inl k)
    · exact I.ok.has _ (.inr k)
  generalize hcenv : compEnvC scope (cellsFrom (s.heap.objs.size + 1) scope.names (cloFrom X.env.cells scope.names [])) s.heap.objs.size X.env = cenv
  have kp : ∀ b o, s.heap.get? b = some o → (pushCells (s.heap.push { cls := .type "dict", data := .dict #[] }) scope.names).get? b = some o := fun b o e => pushCells_keeps _ _ _ _ (Heap.get?_push_of_some _ e)
  have hL : cenv.locals = s.heap.objs.size := by rw [← hcenv]; rfl
  have hcl : cenv.cells = cellsFrom (s.heap.objs.size + 1) scope.names (cloFrom X.env.cells scope.names []) := by rw [← hcenv]; rfl
  have hsc : cenv.scope = relS scope X.env.scope := by rw [← hcenv]; rfl
  rw [← Heap.size_push s.heap { cls := .type "dict", data := .dict #[] }] at hcl
  have cm : ∀ {y c}, (y, c) ∈ cloFrom X.env.cells scope.names [] → X.env.cells.lookup y = some c ∧ c < s.heap.objs.size := fun {y c} hm => by
    rcases cloFrom_mem hm with hm | ⟨h1, rfl⟩
    · cases hm
    · obtain ⟨c, hc⟩ := hfree _ h1 rfl
      rw [hc]
      obtain ⟨w, z⟩ := I.cell _ _ hc
      exact ⟨rfl, z.lt⟩
  have mem : ∀ {y c}, cenv.cells.lookup y = some c → (X.env.cells.lookup y = some c ∧ c < s.heap.objs.size) ∨ (s.heap.objs.size + 1 ≤ c ∧ CellAt (pushCells (s.heap.push { cls := .type "dict", data := .dict #[] }) scope.names) c none) := fun {y c} e => by
    rw [hcl] at e
    rcases cells_mem (PySem.mem_of_lookup e) with hm | ⟨_, h2, h3⟩
    · exact .inl (cm hm)
    · rw [Heap.size_push] at h2; exact .inr ⟨h2, h3⟩
  have look : ∀ {y}, scope.names.lookup y = some .free → ∃ c, cenv.cells.lookup y = some c ∧ X.env.cells.lookup y = some c := fun {y} hl => by
    have hy : (y, NameKind.free) ∈ scope.names := PySem.mem_of_lookup hl
    obtain ⟨c', e'⟩ := mem_lookup (cells_acc (names := scope.names) (n := (s.heap.push { cls := .type "dict", data := .dict #[] }).objs.size) (cloFrom_has (cells := X.env.cells) (acc := []) hy))
    rw [← hcl] at e'
    refine ⟨c', e', ?_⟩
    rw [hcl] at e'
    rcases cells_mem (PySem.mem_of_lookup e') with hm | ⟨h1, _, _⟩
    · exact (cm hm).1
    · have := ok.uniq _ h1
      rw [hl] at this; cases this
  have okB : (X.blk s H scope cenv fp).Ok := by
    refine ⟨I.ok.mod, by show cenv.scope.kind = _; rw [hsc]; exact ok.kind, by show cenv.globals = _; rw [← hcenv]; exact I.ok.glob, by show cenv.builtins = _; rw [← hcenv]; exact I.ok.blt, by show s.heap.objs.size ≤ cenv.locals; rw [hL]; exact Nat.le_refl _,
      fun y z c e1 e2 => ?_, fun y hy => ?_, fun y c z e => ?_, I.ok.hd, I.ok.frames, .inl rfl, fun b hb => ⟨?_, fun y c e z => ?_⟩, I.bs, Nat.le_trans I.ok.bsz I.sz, fun b o e hb => ?_, fun b hb z => ?_, I.stack, I.stkFree⟩
    · have e1 : cenv.cells.lookup y = some c := e1
      have e2 : cenv.cells.lookup z = some c := e2
      rw [hcl] at e1 e2
      refine cells_inj (fun p hp => ?_) (fun y z c a b => I.ok.inj y z c (cm a).1 (cm b).1) (PySem.mem_of_lookup e1) (PySem.mem_of_lookup e2)
      rw [Heap.size_push]
      exact Nat.lt_succ_of_lt (cm (y := p.1) (c := p.2) hp).2
    · show ∃ c, cenv.cells.lookup y = some c
      have key : ∀ k, cenv.kindOf y = some k → (k = .cell ∨ k = .free) → ∃ c, cenv.cells.lookup y = some c := fun k hk hk' => by
        unfold Env.kindOf at hk
        rw [hsc] at hk
        obtain ⟨k', e, r⟩ := lookup_relS hk
        have : k' = .cell ∨ k' = .free := by
          rcases r with rfl | ⟨rfl, _⟩
          · exact hk'
          · exact .inr rfl
        rcases this with rfl | rfl
        · obtain ⟨c, hm⟩ := cells_has (n := (s.heap.push { cls := .type "dict", data := .dict #[] }).objs.size) (acc := cloFrom X.env.cells scope.names []) (PySem.mem_of_lookup e)
          obtain ⟨c', e'⟩ := mem_lookup hm
          exact ⟨c', by rw [hcl]; exact e'⟩
        · obtain ⟨c, h1, _⟩ := look e
          exact ⟨c, h1⟩
      rcases hy with hy | hy
      · exact key _ hy (.inl rfl)
      · exact key _ hy (.inr rfl)
    · have z : (scope.names.lookup y == some NameKind.cell) = true := z
      have z : scope.names.lookup y = some .cell := by simpa using z
      have e : cenv.cells.lookup y = some c := e
      rw [hcl] at e
      rcases cells_mem (PySem.mem_of_lookup e) with hm | ⟨_, h2, _⟩
      · rcases cloFrom_mem hm with hm | ⟨h1, _⟩
        · cases hm
        · have q := ok.uniq _ h1
          rw [z] at q; cases q
      · rw [Heap.size_push] at h2
        exact Nat.le_of_succ_le h2
    · show b ≠ cenv.locals
      rw [hL]; exact Nat.ne_of_lt (hfp b hb).2
    · have e : cenv.cells.lookup y = some c := e
      rcases mem e with ⟨h1, _⟩ | ⟨h1, _⟩
      · exact (hfp b hb).1.2.2.2.2.1 y c h1 z
      · have h2 : s.heap.objs.size + 1 ≤ b := by rw [← z]; exact h1
        exact absurd (Nat.lt_of_lt_of_le (hfp b hb).2 (Nat.le_of_succ_le h2)) (Nat.lt_irrefl _)
    · rcases (hfp b hb).1.2.2.2.1 with z | z
      · exact I.ok.noex b o e z
      · exact absurd (Nat.lt_of_lt_of_le (Heap.lt_size e) (Nat.le_trans I.ok.bsz z)) (Nat.lt_irrefl _)
    · rcases List.mem_cons.mp (I.stkSub b z) with z | z
      · exact (hfp b hb).1.2.1 z
      · exact (hfp b hb).1.2.2.1 z
  refine ⟨okB, rfl, I.bare, Un.kept kp, ⟨fun _ => none, ?_, fun i y av e1 e2 e3 => ?_⟩, fun y c e => ?_, ?_, fun y c e => ?_, fun p hp => ?_, I.hok.kept kp, by rw [wipe_length]; exact I.len⟩
  · show Heap.Ns _ cenv.locals _
    rw [hL]
    exact Heap.Ns.keeps (Heap.Ns.new ..) fun b o e => pushCells_keeps _ _ _ _ e
  · obtain ⟨e2, hne⟩ := wipe_some e2
    have hfr : scope.names.lookup y = some .free ∧ (cenv.kindOf y = some .cell ∨ cenv.kindOf y = some .free) := by
      have key : ∀ k, cenv.scope.names.lookup y = some k → k = .local ∨ k = .cell ∨ k = .free → scope.names.lookup y = some .free ∧ (cenv.kindOf y = some .cell ∨ cenv.kindOf y = some .free) := fun k hk hk' => by
        have hk0 := hk
        rw [hsc] at hk
        obtain ⟨k', e, r⟩ := lookup_relS hk
        have no : ¬ (k' = .local ∨ k' = .cell) := fun hh => by
          rcases ok.own _ (PySem.mem_of_lookup e) hh with e' | e'
          · obtain ⟨p, hp, hpy⟩ := List.mem_map.mp e'
            have e3 := ok.ix p hp
            have : p.1 = y := hpy
            rw [this] at e3
            exact hne (List.mem_map.mpr ⟨p, hp, nodup_ix hN e3 e1⟩)
          · exact e' (List.mem_of_getElem? e1)
        rcases r with rfl | ⟨rfl, rfl⟩
        · rcases hk' with rfl | rfl | rfl
          · exact absurd (.inl rfl) no
          · exact absurd (.inr rfl) no
          · exact ⟨e, .inr hk0⟩
        · exact ⟨e, .inl hk0⟩
      have e3 : Vis cenv.scope y := e3
      rcases e3 with e3 | e3 | e3
      · exact key _ e3 (.inl rfl)
      · exact key _ e3 (.inr (.inl rfl))
      · exact key _ e3 (.inr (.inr rfl))
    obtain ⟨m, hn, hl⟩ := I.loc
    have hvis : Vis X.env.scope y := (ok.free _ (PySem.mem_of_lookup hfr.1) rfl).elim (fun k => .inr (.inl k)) (fun k => .inr (.inr k))
    obtain ⟨w, r, q⟩ := hl i y av e1 e2 hvis
    refine ⟨w, r, .inr ⟨hfr.2, ?_⟩⟩
    obtain ⟨c, h1, h2⟩ := look hfr.1
    rcases q with ⟨k, _⟩ | ⟨_, c', e', z⟩
    · have k : X.env.scope.names.lookup y = some .local := k
      rcases ok.free _ (PySem.mem_of_lookup hfr.1) rfl with k' | k' <;> rw [show X.env.scope.names.lookup y = _ from k'] at k <;> cases k
    · rw [h2] at e'; cases e'
      exact ⟨c, h1, z.keeps kp⟩
  · have e : cenv.cells.lookup y = some c := e
    rcases mem e with ⟨h1, _⟩ | ⟨_, z⟩
    · obtain ⟨w, z⟩ := I.cell y c h1
      exact ⟨w, z.keeps kp⟩
    · exact ⟨_, z⟩
  · show H cenv.locals = none
    rw [hL]; exact I.hok.fresh (Nat.le_refl _)
  · have e : cenv.cells.lookup y = some c := e
    rcases mem e with ⟨h1, _⟩ | ⟨h1, _⟩
    · exact I.freeC y c h1
    · exact I.hok.fresh (Nat.le_of_succ_le h1)
  · exact absurd (show p ∈ ([] : List (Addr × Obj)) ++ [] from hp) (by simp)

theorem app_ok {E : Value → Shared → Prop} {D : Addr} {xs : List V} {y : V} {v : Value} {Q : Value → Shared → Prop} (I : Inv X pins σ H s) (hD : H D = some (.lst xs)) (hz : xs.length < sizeLine) (r : RelV y v)
    (h : ∀ s', Inv X pins σ (upd H D (.lst (xs ++ [y]))) s' → Q .none s') : wpAny (model X.prog X.w) X.A (call (.builtin "list.append") [.ref D, v]) Q E s := by
  obtain ⟨hz', its, n, ri, e⟩ := I.hok D _ hD
  have hl := ri.length
  refine append_at (hsz := by rw [List.size_toArray]; omega) e fun h' sb ho' => ?_
  refine h { s with heap := h' } (I.write (t' := s.toks) (by rw [hD]; trivial) (.inl rfl) (fun b u hb q => (sb.2 b hb).trans q) ⟨_, ho'⟩ ⟨by rw [List.length_append]; exact hz, its ++ [v], n + 1, ri.append (.cons r .nil), ?_⟩)
  rw [ho']
  simp

def PTs (X : Cx) (ifs : List Expr) (t : TT) : Prop :=
  ∀ (pins : List (Addr × Obj)) (s : Shared) (σ : St) (H : Hp) (Q : Bool → Hp → Prop), Inv X pins σ H s → t σ H Q →
    wpAny (model X.prog X.w) X.A (forIn ifs true fun c r => if r = true then do let ok ← isTrue c X.env (eval c X.env); pure (ForInStep.yield ok) else pure (ForInStep.yield r)) (TP X pins σ Q) X.xe s
def tYes : TT := fun _ H Q => Q true H
theorem pts_nil : PTs X [] tYes := fun _ _ _ H _ I h => wpAny_tests_nil ⟨H, I, h⟩
theorem pts_one {c : Expr} {t : TT} (h : PT X c t) : PTs X [c] t := fun pins s σ H Q I hw => wpAny_tests_one (h pins s σ H Q I hw)
end

theorem thnF {α : Type} {t : Sem α} {Q Q' : α → Shared → Prop} {M : Model} {A : Around} {E : Value → Shared → Prop} {s : Shared} (h : wpAny M A t Q (fun _ _ => False) s) (hQ : ∀ a s, Q a s → Q' a s) : wpAny M A t Q' E s := wpAny_mono h hQ fun _ _ z => False.elim z

theorem compLoop_any {prog : Program} {w : World} {A : Around} {R : Result → Shared → Prop} {s : Shared} {elt target iter : Expr} {ifs : List Expr} {scope : Scope} {pos : Pos} {it acc : Value} {env : Env} (I : Nat → Shared → Prop)
    (turn : ∀ n s, I n s → wpAny (model prog w) A (pyNext it) (fun r s₁ => match r with
      | none => R (.ok .next) s₁
      | some v => wpAny (model prog w) A (letOwnedTupleGo target it v) (fun _ s₁' => wpAny (model prog w) A (assign target env v) (fun _ s₂ =>
          wpAny (model prog w) A (forIn ifs true fun c r => if r = true then do let ok ← isTrue c env (eval c env); pure (ForInStep.yield ok) else pure (ForInStep.yield r)) (fun ok s₃ =>
            if ok = true then wpAny (model prog w) A (eval elt env) (fun x s₄ =>
              wpAny (model prog w) A (call (.builtin "list.append") [acc, x]) (fun _ s₅ => ∃ m, m < n ∧ I m s₅) (notedBy (model prog w) A env fun e s' => R (.error e) s') s₄) (notedBy (model prog w) A env fun e s' => R (.error e) s') s₃
            else ∃ m, m < n ∧ I m s₃) (notedBy (model prog w) A env fun e s' => R (.error e) s') s₂) (notedBy (model prog w) A env fun e s' => R (.error e) s') s₁') (notedBy (model prog w) A env fun e s' => R (.error e) s') s₁) (notedBy (model prog w) A env fun e s' => R (.error e) s') s)
    (n : Nat) (h : I n s) :
    codeAny (model prog w) A (.compLoop (.ListComp elt [⟨target, iter, ifs, 0⟩] scope pos) 0 it acc env) R s := by
  refine codeAny_loop rfl I (fun n s hI => ?_) n h
  show wpAny _ A ((compTurn (.ListComp elt [⟨target, iter, ifs, 0⟩] scope pos) 0 it acc env).onRaise (fun x => do noteFrame x env; theTreesLotGoes x)) _ _ s
  refine wpAny_noted ?_
  rw [compTurn_list]
  refine wpAny_bind (wpAny_standAt (wpAny_bind (wpAny_mono (turn n s hI) (fun r s₁ h₁ => ?_) fun _ _ h' => h')))
  cases r with
  | none => exact wpAny_pure h₁
  | some v =>
    refine wpAny_bind (wpAny_mono h₁ (fun _ s₁' h₁' => ?_) fun _ _ h' => h')
    refine wpAny_bind (wpAny_mono h₁' (fun _ s₂ h₂ => wpAny_bind (wpAny_mono h₂ (fun ok s₃ h₃ => ?_) fun _ _ h' => h')) fun _ _ h' => h')
    cases ok with
    | false => exact wpAny_pure ⟨rfl, h₃⟩
    | true =>
      exact wpAny_bind (wpAny_bind (wpAny_mono h₃ (fun x s₄ h₄ => wpAny_bind (wpAny_mono h₄ (fun _ s₅ h₅ => wpAny_pure (wpAny_pure ⟨rfl, h₅⟩)) fun _ _ h' => h')) fun _ _ h' => h'))

section
variable {X : Cx}
def tLc (wi : TI) (g : TG) (tt : TT) (te : TE) (vs : List Nat) : TE := fun σ H Q => wi σ H fun J H1 => ∀ D, H1 D = none → ∃ W : Nat → Nat → Hp → Prop, (∃ m, W 0 m (upd H1 D (.lst []))) ∧ ∀ i m H, W i m H →
  (J.stop i H ∧ Q (.ref D) H) ∨ (J.go i H ∧ ∃ Nx : Hp → Prop, (∀ H', Nx H' → ∃ m', m' < m ∧ W (i + 1) m' H') ∧ ∀ x H', J.yld i H x H' → g x (wipe σ vs) H' fun σ2 H2 => wipe σ2 vs = wipe σ vs ∧ tt σ2 H2 fun b H3 =>
    if b = true then te σ2 H3 fun y H4 => ∃ acc, H4 D = some (.lst acc) ∧ acc.length < sizeLine ∧ Nx (upd H4 D (.lst (acc ++ [y]))) else Nx H3)
theorem lc_core {pins : List (Addr × Obj)} {s : Shared} {σ : St} {H : Hp} {Q : VK} {elt tg iter : Expr} {ifs : List Expr} {scope : Scope} {own : List (Str × Nat)} {pos pos' : Pos} {wi : TI} {g : TG} {tt : TT} {te : TE} {use : Option (Value → Sem Unit)} {Qf : Value → Shared → Prop}
    (hc : X.calm = true) (hN : X.N.Nodup) (I : Inv X pins σ H s) (hi : PI X tg iter wi) (ok : BlkOk X.N X.env.scope scope own)
    (hg : ∀ (s : Shared) (H : Hp) (C : Addr) (cl : List (Str × Addr)) (fp : List Addr), PG (X.blk s H scope (compEnvC scope cl C X.env) fp) tg g) (ht : ∀ (s : Shared) (H : Hp) (C : Addr) (cl : List (Str × Addr)) (fp : List Addr), PTs (X.blk s H scope (compEnvC scope cl C X.env) fp) ifs tt)
    (he : ∀ (s : Shared) (H : Hp) (C : Addr) (cl : List (Str × Addr)) (fp : List Addr), PE (X.blk s H scope (compEnvC scope cl C X.env) fp) elt te) (hs : ∀ x, foldedSetIterable iter X.env x = pure x)
    (h : tLc wi g tt te (own.map (·.2)) σ H Q)
    (hRR : ∀ D C s' m H', Inv X pins σ H' s' → Q (.ref D) H' → s'.heap.Ns C m → FpOk X pins H' C → compPost (model X.prog X.w) X.A X.xe use Qf (.ref D) C (.ok .next) s') :
    wpAny (model X.prog X.w) X.A (comprehension (.ListComp elt [⟨tg, iter, ifs, 0⟩] scope pos) scope X.env pos' (newList []) false (eval iter X.env) use) Qf X.xe s := by
  have hfree : ∀ y ∈ scope.names, y.2 = .free → ∃ c, X.env.cells.lookup y.1 = some c := fun y hy e => by
    rcases ok.free y hy e with k | k
    · exact I.ok.has _ (.inl k)
    · exact I.ok.has _ (.inr k)
  refine wpAny_comprehension_free (use := use) rfl hs (closure_ok hfree) ok.kind (fun y hy e => by rw [ok.uniq y hy, e])
    (thn (hi pins s σ H _ I h) fun xv s1 hx => thn hx fun itv s2 h2 => ?_)
  obtain ⟨it, fp, tn, J, H2, e, I2, T, st2, f2, q⟩ := h2
  subst e
  refine wpAny_newObj_type (newEnv_comp ?_) (by show 0 ≤ sizeLine; decide)
  generalize hD : s2.heap.objs.size = D
  have hDn : H2 D = none := I2.hok.fresh (Nat.le_of_eq hD)
  obtain ⟨W, ⟨m0, w0⟩, turn⟩ := q D hDn
  -- the new list
  generalize hs3 : ({ s2 with heap := s2.heap.push { cls := .type "list", data := .seq ([] : List Value).toArray } } : Shared) = s3
  have I3 : Inv X pins σ (upd H2 D (.lst [])) s3 := by
    rw [← hs3]
    refine I2.laid (t' := s2.toks) (fun b o e => Heap.get?_push_of_some _ e) (Nat.le_of_eq hD) ⟨Nat.zero_le _, [], 0, .nil, ?_⟩
    rw [← hD]
    exact Heap.get?_push_size _ rfl
  have h3 : s3.heap = s2.heap.push { cls := .type "list", data := .seq ([] : List Value).toArray } := by rw [← hs3]
  have sz : ∀ b ∈ fp, b < s2.heap.objs.size := fun b hb => by
    obtain ⟨o, e, _⟩ := T.obj _ _ st2 b hb
    exact Heap.lt_size e
  have f3 : ∀ b ∈ fp, FpOk X pins (upd H2 D (.lst [])) b ∧ b < s3.heap.objs.size := fun b hb => by
    have hlt := sz b hb
    refine ⟨⟨?_, (f2 b hb).2⟩, by rw [h3, Heap.size_push]; exact Nat.lt_succ_of_lt hlt⟩
    rw [upd_ne (by rw [← hD]; exact Nat.ne_of_lt hlt)]
    exact (f2 b hb).1
  have st3 : tn 0 s3.heap := T.keep _ _ _ st2 fun b _ o e => by rw [h3]; exact Heap.get?_push_of_some _ e
  have I4 := block_start I3 ok hN f3
  have pg := hg s3 (upd H2 D (.lst [])) s3.heap.objs.size (cellsFrom (s3.heap.objs.size + 1) scope.names (cloFrom X.env.cells scope.names [])) fp
  have pt := ht s3 (upd H2 D (.lst [])) s3.heap.objs.size (cellsFrom (s3.heap.objs.size + 1) scope.names (cloFrom X.env.cells scope.names [])) fp
  have pe := he s3 (upd H2 D (.lst [])) s3.heap.objs.size (cellsFrom (s3.heap.objs.size + 1) scope.names (cloFrom X.env.cells scope.names [])) fp
  show codeAny _ _ (.compStart (.ListComp elt [⟨tg, iter, ifs, 0⟩] scope pos) 0 (.ref it) (.ref D) (compEnvC scope (cellsFrom (s3.heap.objs.size + 1) scope.names (cloFrom X.env.cells scope.names [])) s3.heap.objs.size X.env)) (compPost (model X.prog X.w) X.A X.xe use Qf (.ref D) s3.heap.objs.size) { s3 with heap := pushCells (s3.heap.push { cls := .type "dict", data := .dict #[] }) scope.names }
  have nfp : ∀ b ∈ fp, (upd H2 D (.lst [])) b = none := fun b hb => (f3 b hb).1.1
  generalize hce : compEnvC scope (cellsFrom (s3.heap.objs.size + 1) scope.names (cloFrom X.env.cells scope.names [])) s3.heap.objs.size X.env = ce at I4 pg pt pe ⊢
  have cL : ce.locals = s3.heap.objs.size := by subst hce; rfl
  generalize hH3 : upd H2 D (.lst []) = H3 at I3 I4 pg pt pe w0 nfp f3
  generalize hs4 : ({ s3 with heap := pushCells (s3.heap.push { cls := .type "dict", data := .dict #[] }) scope.names } : Shared) = s4 at I4 ⊢
  have st4 : tn 0 s4.heap := T.keep _ _ _ st3 fun b _ o e => by rw [← hs4]; exact pushCells_keeps _ _ _ _ (Heap.get?_push_of_some _ e)
  have stat : ∀ {σ' : St} {H' : Hp} {s' : Shared}, Inv (X.blk s3 H3 scope ce fp) [] σ' H' s' → (∀ b ∈ fp, H' b = none) → ∀ b ∈ fp, FpOk (X.blk s3 H3 scope ce fp) [] H' b := fun {σ' H' s'} I' hn b hb =>
    ⟨hn b hb, (I'.ok.exf b hb).1, I'.ok.exfs b hb, .inl hb, fun x c e => (I'.ok.exf b hb).2 x c e, fun p hp => absurd (show p ∈ ([] : List (Addr × Obj)) ++ [] from hp) (by simp)⟩
  have loop : codeAny (model X.prog X.w) X.A (.compLoop (.ListComp elt [⟨tg, iter, ifs, 0⟩] scope pos) 0 (.ref it) (.ref D) ce) (compPost (model X.prog X.w) X.A X.xe use Qf (.ref D) s3.heap.objs.size) s4 := by
    refine compLoop_any (fun n s' => ∃ i H', Inv (X.blk s3 H3 scope ce fp) [] (wipe σ (own.map (·.2))) H' s' ∧ tn i s'.heap ∧ (∀ b ∈ fp, H' b = none) ∧ W i n H') ?_ m0 ⟨0, H3, I4, st4, nfp, w0⟩
    rintro n s5 ⟨i, H5, I5, st5, n5, w5⟩
    rcases turn i n H5 w5 with ⟨stop, qq⟩ | ⟨go, Nx, hNx, step⟩
    · have td := T.done (X.blk s3 H3 scope ce fp) rfl rfl rfl hc i [] s5 _ H5 (fun _ _ => False) I5 (stat I5 n5) st5 stop
      refine thnF td fun r s6 ⟨hr, I6⟩ => ?_
      subst hr
      -- back in the def's context
      have I7 : Inv X pins σ H5 s6 := I3.call' (ch := fp) I6.os I6.base I6.hok I6.bare fun b hb => ⟨(f3 b hb).1.2.2.2.1, (f3 b hb).1.2.1, (f3 b hb).1.2.2.2.2.1, (f3 b hb).1.2.2.2.2.2⟩
      have nC : H5 s3.heap.objs.size = none := by
        have z : H5 ce.locals = none := I6.free
        rw [cL] at z
        exact z
      obtain ⟨m, hn, _⟩ := I6.loc
      have hn : s6.heap.Ns ce.locals m := hn
      rw [cL] at hn
      exact hRR D s3.heap.objs.size s6 m H5 I7 qq hn (I3.fpOk (Nat.le_refl _) nC)
    · have ti := T.item (X.blk s3 H3 scope ce fp) rfl rfl rfl hc i [] s5 _ H5 (fun _ _ => False) I5 (stat I5 n5) st5 go
      refine thnF ti fun r s6 ⟨u, hr, h6⟩ => ?_
      subst hr
      refine thnF h6 fun _ s7 ⟨x, H7, I7, r7, y7, st7, n7⟩ => ?_
      have I7' := I7.pinned (stat I7 n7) (T.obj _ _ st7)
      refine thnF (pg _ s7 _ H7 x u _ I7' r7 (step x H7 y7)) fun _ s8 ⟨σ8, H8, I8, hw8, q8⟩ => ?_
      refine thnF (pt _ s8 σ8 H8 _ I8 q8) fun b s9 ⟨H9, I9, q9⟩ => ?_
      -- the turn's end
      have fin : ∀ {s' : Shared} {H' : Hp}, Inv (X.blk s3 H3 scope ce fp) ([] ++ pinsAt fp s7.heap) σ8 H' s' → Nx H' → ∃ m, m < n ∧ ∃ i H', Inv (X.blk s3 H3 scope ce fp) [] (wipe σ (own.map (·.2))) H' s' ∧ tn i s'.heap ∧ (∀ b ∈ fp, H' b = none) ∧ W i m H' := fun {s' H'} I' nx => by
        obtain ⟨m', hm, w'⟩ := hNx H' nx
        have pin' : ∀ b ∈ fp, ∀ o, s7.heap.get? b = some o → s'.heap.get? b = some o ∧ H' b = none := fun b hb o e =>
          let z := I'.pin (b, o) (List.mem_append_right _ (List.mem_append_right _ (mem_pinsAt hb e)))
          ⟨z.1, z.2.1⟩
        have hl : (wipe σ (own.map (·.2))).length = σ8.length := by rw [← hw8, wipe_length]
        refine ⟨m', hm, i + 1, H', (I'.unpinned (pins := [])).weak hl (fun j v e => ?_), T.keep _ _ _ st7 fun b hb o e => (pin' b hb o e).1, fun b hb => ?_, w'⟩
        · rw [← hw8] at e
          exact (wipe_some e).1
        · obtain ⟨o, e, _⟩ := T.obj _ _ st7 b hb
          exact (pin' b hb o e).2
      cases b with
      | false =>
        simp only [Bool.false_eq_true, if_false] at q9 ⊢
        exact fin I9 q9
      | true =>
        simp only [if_true] at q9 ⊢
        refine thnF (pe _ s9 σ8 H9 _ I9 q9) fun z s10 ⟨yv, H10, I10, r10, acc, hD10, hz10, nx⟩ => ?_
        exact app_ok (X := X.blk s3 H3 scope ce fp) I10 hD10 hz10 r10 fun s11 I11 => fin I11 nx
  exact codeAny_compStart_list loop (T.self X.A 0 _ _ _ st4 loop)
theorem pe_lc {elt tg iter : Expr} {ifs : List Expr} {scope : Scope} {own : List (Str × Nat)} {pos : Pos} {wi : TI} {g : TG} {tt : TT} {te : TE} (hc : X.calm = true) (hN : X.N.Nodup) (hi : PI X tg iter wi) (ok : BlkOk X.N X.env.scope scope own)
    (hg : ∀ (s : Shared) (H : Hp) (C : Addr) (cl : List (Str × Addr)) (fp : List Addr), PG (X.blk s H scope (compEnvC scope cl C X.env) fp) tg g) (ht : ∀ (s : Shared) (H : Hp) (C : Addr) (cl : List (Str × Addr)) (fp : List Addr), PTs (X.blk s H scope (compEnvC scope cl C X.env) fp) ifs tt)
    (he : ∀ (s : Shared) (H : Hp) (C : Addr) (cl : List (Str × Addr)) (fp : List Addr), PE (X.blk s H scope (compEnvC scope cl C X.env) fp) elt te) (hs : ∀ x, foldedSetIterable iter X.env x = pure x := by intro _; rfl) :
    PE X (.ListComp elt [⟨tg, iter, ifs, 0⟩] scope pos) (tLc wi g tt te (own.map (·.2))) := by
  intro pins s σ H Q I h
  rw [eval_ListComp]
  refine lc_core hc hN I hi ok hg ht he hs h fun D C s' m H' I' q hn f => ⟨m, hn, fun h'' sb => ?_⟩
  obtain ⟨f0, f1, f2, f3, f4, f5⟩ := f
  exact ⟨.ref D, H', I'.turned (t' := s'.toks) (fun b o hb e => (sb.2 b hb).trans e) f0 f1 f3 f4 f5, rfl, q⟩
theorem ps_setLc {i : Nat} {y : Str} {py : Pos} {elt tg iter : Expr} {ifs : List Expr} {scope : Scope} {own : List (Str × Nat)} {pos spos : Pos} {wi : TI} {g : TG} {tt : TT} {te : TE} (hc : X.calm = true) (hN : X.N.Nodup) (hy : X.N[i]? = some y) (hyl : X.env.scope.names.lookup y = some .local)
    (hsw : swapsWith (.ListComp elt [⟨tg, iter, ifs, 0⟩] scope pos) (some (.Name y py)) spos.line X.env = pure true) (hi : PI X tg iter wi) (ok : BlkOk X.N X.env.scope scope own)
    (hg : ∀ (s : Shared) (H : Hp) (C : Addr) (cl : List (Str × Addr)) (fp : List Addr), PG (X.blk s H scope (compEnvC scope cl C X.env) fp) tg g) (ht : ∀ (s : Shared) (H : Hp) (C : Addr) (cl : List (Str × Addr)) (fp : List Addr), PTs (X.blk s H scope (compEnvC scope cl C X.env) fp) ifs tt)
    (he : ∀ (s : Shared) (H : Hp) (C : Addr) (cl : List (Str × Addr)) (fp : List Addr), PE (X.blk s H scope (compEnvC scope cl C X.env) fp) elt te) (hs : ∀ x, foldedSetIterable iter X.env x = pure x := by intro _; rfl) :
    PS X (.Assign [.Name y py] (.ListComp elt [⟨tg, iter, ifs, 0⟩] scope pos) spos) (tAsg (tLc wi g tt te (own.map (·.2))) (gName i)) := by
  intro pins s σ H D I h
  rw [exec_Assign_Name_used _ _ _ _ hsw]
  refine wpAny_bind (wpAny_standAt (wpAny_bind ?_))
  show wpAny _ X.A (do let _ ← comprehension (.ListComp elt [⟨tg, iter, ifs, 0⟩] scope pos) scope X.env (firstIterPos [⟨tg, iter, ifs, 0⟩] pos) (newList []) false (eval iter X.env) (some (assign (.Name y py) X.env))) _ _ s
  have h : tLc wi g tt te (own.map (·.2)) σ H (fun x H1 => gName i x σ H1 D.nx) := h
  refine wpAny_bind (thn (lc_core (Qf := fun _ s' => SP X pins D .next s') hc hN I hi ok hg ht he hs h fun L C s' m H' I' q hn f => ?_) fun _ s' hq => wpAny_pure (wpAny_pure hq))
  show wpAny _ _ (assign (.Name y py) X.env (.ref L)) _ _ _
  refine wpAny_assign_Name (store_ok2 (v := V.ref L) I' hN hy (.inl hyl) rfl (fun s2 I2 ⟨a, sb, ha⟩ => ?_) (.inr hyl))
  obtain ⟨f0, f1, f2, f3, f4, f5⟩ := f
  have haC : C ≠ a := by
    rcases ha with z | z
    · rw [z]; exact f1
    · exact fun e => f4 y a z e.symm
  refine ⟨m, hn.sameBut sb haC, fun h3 sb3 => ?_⟩
  exact ⟨_, H', I2.turned (t' := s2.toks) (fun b o hb e => (sb3.2 b hb).trans e) f0 f1 f3 f4 f5, q⟩
theorem sw_true {elt : Expr} {gs : List Comprehension} {scope : Scope} {pos py : Pos} {y : Str} {l : Nat} {env : Env} (hk : env.scope.kind = .function) (hy : env.scope.names.lookup y = some .local) (hl : (py.line == pos.line) = true)
    (ha : (scope.names.any fun (n, k) => n == y && (k == .local || k == .cell)) = false) : swapsWith (.ListComp elt gs scope pos) (some (.Name y py)) l env = pure true := by
  have ky : env.kindOf y = some .local := hy
  have hb : env.blockKind = .function := by unfold Env.blockKind; rw [hk]; rfl
  unfold swapsWith
  simp only [hb, ky, ha, Expr.pos, hl]
  rfl
end

theorem lc_range {lo : Int} {n : Nat} {g : TG} {tt : TT} {te : TE} {vs : List Nat} {σ : St} {H1 : Hp} {D : Addr} {Qd : Hp → Prop} (Pv : Nat → Hp → Prop) (h0 : Pv 0 (upd H1 D (.lst [])))
    (hs : ∀ i H, i < n → Pv i H → g (.int (lo + i)) (wipe σ vs) H fun σ2 H2 => wipe σ2 vs = wipe σ vs ∧ tt σ2 H2 fun b H3 =>
      if b = true then te σ2 H3 fun y H4 => ∃ acc, H4 D = some (.lst acc) ∧ acc.length < sizeLine ∧ Pv (i + 1) (upd H4 D (.lst (acc ++ [y]))) else Pv (i + 1) H3) (hd : ∀ H, Pv n H → Qd H) :
    ∃ W : Nat → Nat → Hp → Prop, (∃ m, W 0 m (upd H1 D (.lst []))) ∧ ∀ i m H, W i m H →
      ((Itr lo n).stop i H ∧ Qd H) ∨ ((Itr lo n).go i H ∧ ∃ Nx : Hp → Prop, (∀ H', Nx H' → ∃ m', m' < m ∧ W (i + 1) m' H') ∧ ∀ x H', (Itr lo n).yld i H x H' → g x (wipe σ vs) H' fun σ2 H2 => wipe σ2 vs = wipe σ vs ∧ tt σ2 H2 fun b H3 =>
        if b = true then te σ2 H3 fun y H4 => ∃ acc, H4 D = some (.lst acc) ∧ acc.length < sizeLine ∧ Nx (upd H4 D (.lst (acc ++ [y]))) else Nx H3) := by
  refine ⟨fun i m H => m = n - i ∧ i ≤ n ∧ Pv i H, ⟨n, by simp, Nat.zero_le _, h0⟩, ?_⟩
  rintro i m H ⟨rfl, hi, p⟩
  by_cases hlt : i < n
  · refine .inr ⟨hlt, Pv (i + 1), fun H' p' => ⟨n - (i + 1), by omega, rfl, hlt, p'⟩, fun x H' y => ?_⟩
    obtain ⟨e, y⟩ := y
    subst e y
    exact hs i _ hlt p
  · have e : i = n := by omega
    subst e
    exact .inl ⟨Nat.le_refl _, hd H p⟩
theorem lc_list {K : PySem.W.Frag} {a : Addr} {xs : List V} {g : TG} {tt : TT} {te : TE} {vs : List Nat} {σ : St} {H1 : Hp} {D : Addr} {Qd : Hp → Prop} (Pv : Nat → Hp → Prop) (h0 : Pv 0 (upd H1 D (.lst []))) (hl : ∀ i H, i ≤ xs.length → Pv i H → SqL K H a xs)
    (hs : ∀ i x H, xs[i]? = some x → Pv i H → g x (wipe σ vs) H fun σ2 H2 => wipe σ2 vs = wipe σ vs ∧ tt σ2 H2 fun b H3 =>
      if b = true then te σ2 H3 fun y H4 => ∃ acc, H4 D = some (.lst acc) ∧ acc.length < sizeLine ∧ Pv (i + 1) (upd H4 D (.lst (acc ++ [y]))) else Pv (i + 1) H3) (hd : ∀ H, Pv xs.length H → Qd H) :
    ∃ W : Nat → Nat → Hp → Prop, (∃ m, W 0 m (upd H1 D (.lst []))) ∧ ∀ i m H, W i m H →
      ((Itl K a).stop i H ∧ Qd H) ∨ ((Itl K a).go i H ∧ ∃ Nx : Hp → Prop, (∀ H', Nx H' → ∃ m', m' < m ∧ W (i + 1) m' H') ∧ ∀ x H', (Itl K a).yld i H x H' → g x (wipe σ vs) H' fun σ2 H2 => wipe σ2 vs = wipe σ vs ∧ tt σ2 H2 fun b H3 =>
        if b = true then te σ2 H3 fun y H4 => ∃ acc, H4 D = some (.lst acc) ∧ acc.length < sizeLine ∧ Nx (upd H4 D (.lst (acc ++ [y]))) else Nx H3) := by
  refine ⟨fun i m H => m = xs.length - i ∧ i ≤ xs.length ∧ Pv i H, ⟨xs.length, by simp, Nat.zero_le _, h0⟩, ?_⟩
  rintro i m H ⟨rfl, hi, p⟩
  have q := hl i H hi p
  by_cases hlt : i < xs.length
  · refine .inr ⟨⟨xs, xs[i], q, by simp [hlt]⟩, Pv (i + 1), fun H' p' => ⟨xs.length - (i + 1), by omega, rfl, hlt, p'⟩, fun x H' y => ?_⟩
    obtain ⟨e, y⟩ := y
    subst e
    exact hs i x _ (y xs q) p
  · have e : i = xs.length := by omega
    subst e
    exact .inl ⟨⟨xs, q, Nat.le_refl _⟩, hd H p⟩
theorem lc_tup {K : PySem.W.Frag} {a : Addr} {xs : List V} {g : TG} {tt : TT} {te : TE} {vs : List Nat} {σ : St} {H1 : Hp} {D : Addr} {Qd : Hp → Prop} (Pv : Nat → Hp → Prop) (h0 : Pv 0 (upd H1 D (.lst []))) (hl : ∀ i H, i ≤ xs.length → Pv i H → SqT K H a xs)
    (hs : ∀ i x H, xs[i]? = some x → Pv i H → g x (wipe σ vs) H fun σ2 H2 => wipe σ2 vs = wipe σ vs ∧ tt σ2 H2 fun b H3 =>
      if b = true then te σ2 H3 fun y H4 => ∃ acc, H4 D = some (.lst acc) ∧ acc.length < sizeLine ∧ Pv (i + 1) (upd H4 D (.lst (acc ++ [y]))) else Pv (i + 1) H3) (hd : ∀ H, Pv xs.length H → Qd H) :
    ∃ W : Nat → Nat → Hp → Prop, (∃ m, W 0 m (upd H1 D (.lst []))) ∧ ∀ i m H, W i m H →
      ((Itt K a).stop i H ∧ Qd H) ∨ ((Itt K a).go i H ∧ ∃ Nx : Hp → Prop, (∀ H', Nx H' → ∃ m', m' < m ∧ W (i + 1) m' H') ∧ ∀ x H', (Itt K a).yld i H x H' → g x (wipe σ vs) H' fun σ2 H2 => wipe σ2 vs = wipe σ vs ∧ tt σ2 H2 fun b H3 =>
        if b = true then te σ2 H3 fun y H4 => ∃ acc, H4 D = some (.lst acc) ∧ acc.length < sizeLine ∧ Nx (upd H4 D (.lst (acc ++ [y]))) else Nx H3) := by
  refine ⟨fun i m H => m = xs.length - i ∧ i ≤ xs.length ∧ Pv i H, ⟨xs.length, by simp, Nat.zero_le _, h0⟩, ?_⟩
  rintro i m H ⟨rfl, hi, p⟩
  have q := hl i H hi p
  by_cases hlt : i < xs.length
  · refine .inr ⟨⟨xs, xs[i], q, by simp [hlt]⟩, Pv (i + 1), fun H' p' => ⟨xs.length - (i + 1), by omega, rfl, hlt, p'⟩, fun x H' y => ?_⟩
    obtain ⟨e, y⟩ := y
    subst e
    exact hs i x _ (y xs q) p
  · have e : i = xs.length := by omega
    subst e
    exact .inl ⟨⟨xs, q, Nat.le_refl _⟩, hd H p⟩
def blkC (N : List Str) (sc scope : Scope) (own : List (Str × Nat)) : Bool :=
  (match scope.kind with | .function => true | _ => false) && (scope.names.all fun y => decide (scope.names.lookup y.1 = some y.2)) && (own.all fun p => decide (N[p.2]? = some p.1)) &&
    (scope.names.all fun y => match y.2 with
      | .free => (match sc.names.lookup y.1 with | some .cell => true | some .free => true | _ => false)
      | .local => decide (y.1 ∈ own.map (·.1)) || decide (y.1 ∉ N)
      | .cell => decide (y.1 ∈ own.map (·.1)) || decide (y.1 ∉ N)
      | _ => true)
theorem blkOk_by {N : List Str} {sc scope : Scope} {own : List (Str × Nat)} (h : blkC N sc scope own = true) : BlkOk N sc scope own := by
  unfold blkC at h
  simp only [Bool.and_eq_true, List.all_eq_true, decide_eq_true_eq] at h
  obtain ⟨⟨⟨h1, h2⟩, h3⟩, h4⟩ := h
  refine ⟨?_, h2, h3, fun y hy e => ?_, fun y hy e => ?_⟩
  · split at h1
    · assumption
    · cases h1
  · have q := h4 y hy
    simp only [e] at q
    split at q <;> first | exact .inl (by assumption) | exact .inr (by assumption) | cases q
  · have q := h4 y hy
    rcases e with e | e <;> (simp only [e, Bool.or_eq_true, decide_eq_true_eq] at q; exact q)
end L2

namespace L2
open PySem PySem.Spec PyProof.Rows

section
variable {prog : Program} {w : World} {A : Around} {R : Result → Shared → Prop} {s : Shared} {elt t0 i0 t1 i1 : Expr} {ifs0 ifs1 : List Expr} {scope : Scope} {pos : Pos} {it acc : Value} {env : Env}
end

section
variable {X : Cx}
end
end L2

namespace L2
open PySem PySem.Spec PyProof.Rows

section
variable {κ : Type} [DecidableEq κ]
def valV (kvs : List (κ × V)) (k : κ) : Option V := (kvs.find? fun kv => decide (kv.1 = k)).map (·.2)
def putK (kvs : List (κ × V)) (k : κ) (v : V) : List (κ × V) :=
  if (kvs.any fun kv => decide (kv.1 = k)) = true then kvs.map (fun kv => if kv.1 = k then (kv.1, v) else kv) else kvs ++ [(k, v)]
def dropK (kvs : List (κ × V)) (k : κ) : List (κ × V) := kvs.filter fun kv => decide (kv.1 ≠ k)

theorem valV_pos {p : κ × V} {r : List (κ × V)} {k : κ} (e : p.1 = k) : valV (p :: r) k = some p.2 := by simp [valV, List.find?_cons, e]
theorem valV_neg {p : κ × V} {r : List (κ × V)} {k : κ} (e : ¬ p.1 = k) : valV (p :: r) k = valV r k := by simp [valV, List.find?_cons, e]
theorem valV_any (k : κ) : ∀ kvs : List (κ × V), (kvs.any fun kv => decide (kv.1 = k)) = (valV kvs k).isSome
  | [] => rfl
  | p :: r => by
    rw [List.any_cons]
    by_cases e : p.1 = k
    · simp only [valV_pos e, decide_eq_true e, Bool.true_or, Option.isSome_some]
    · rw [valV_neg e, decide_eq_false e, Bool.false_or]; exact valV_any k r
theorem length_putK (kvs : List (κ × V)) (k : κ) (v : V) : (putK kvs k v).length ≤ kvs.length + 1 := by
  unfold putK
  split
  · rw [List.length_map]; omega
  · rw [List.length_append, List.length_cons, List.length_nil]; omega
theorem putK_new {kvs : List (κ × V)} {k : κ} (v : V) (h : valV kvs k = none) : putK kvs k v = kvs ++ [(k, v)] := by
  unfold putK
  rw [valV_any, h]
  exact if_neg (by decide)

theorem RelO.isSome_eq {o : Option V} {u : Option Value} (r : RelO o u) : o.isSome = u.isSome := by
  cases o with
  | none => cases u with
    | none => rfl
    | some _ => exact (show False from r).elim
  | some _ => cases u with
    | none => exact (show False from r).elim
    | some _ => rfl
theorem RelO.getD {o : Option V} {u : Option Value} {d : V} {d' : Value} (r : RelO o u) (rd : RelV d d') : RelV (o.getD d) (u.getD d') := by
  cases o with
  | none => cases u with
    | none => exact rd
    | some _ => exact (show False from r).elim
  | some _ => cases u with
    | none => exact (show False from r).elim
    | some _ => exact r

theorem KV.val {kvs : List (κ × V)} {vs : List (κ × Value)} (r : KV kvs vs) (k : κ) : RelO (valV kvs k) (valueAt vs k) := by
  unfold KV at r
  induction r with
  | nil => exact True.intro
  | @cons p q ps qs h t ih =>
    obtain ⟨h1, h2⟩ := h
    by_cases e : p.1 = k
    · have e' : q.1 = k := h1.symm.trans e
      have b : valueAt (q :: qs) k = some q.2 := by simp [valueAt, List.find?_cons, e']
      rw [valV_pos e, b]; exact h2
    · have e' : ¬ q.1 = k := fun z => e (h1.trans z)
      have b : valueAt (q :: qs) k = valueAt qs k := by simp [valueAt, List.find?_cons, e']
      rw [valV_neg e, b]; exact ih
theorem KV.any {kvs : List (κ × V)} {vs : List (κ × Value)} (r : KV kvs vs) (k : κ) : (kvs.any fun kv => decide (kv.1 = k)) = vs.any fun kv => decide (kv.1 = k) := by
  unfold KV at r
  induction r with
  | nil => rfl
  | cons h t ih => rw [List.any_cons, List.any_cons, ih, h.1]
theorem KV.repl {kvs : List (κ × V)} {vs : List (κ × Value)} (r : KV kvs vs) (k : κ) {y : V} {u : Value} (ry : RelV y u) :
    KV (kvs.map fun kv => if kv.1 = k then (kv.1, y) else kv) (vs.map fun kv => if kv.1 = k then (kv.1, u) else kv) := by
  unfold KV at r ⊢
  induction r with
  | nil => exact .nil
  | @cons p q ps qs h t ih =>
    rw [List.map_cons, List.map_cons]
    refine .cons ?_ ih
    obtain ⟨h1, h2⟩ := h
    by_cases e : p.1 = k
    · rw [if_pos e, if_pos (h1.symm.trans e)]; exact ⟨h1, ry⟩
    · rw [if_neg e, if_neg (fun z => e (h1.trans z))]; exact ⟨h1, h2⟩
theorem KV.put {kvs : List (κ × V)} {vs : List (κ × Value)} (r : KV kvs vs) (k : κ) {y : V} {u : Value} (ry : RelV y u) : KV (putK kvs k y) (stored vs k u) := by
  unfold putK stored
  rw [r.any k]
  by_cases e : (vs.any fun kv => decide (kv.1 = k)) = true
  · rw [if_pos e, if_pos e]; exact r.repl k ry
  · rw [if_neg e, if_neg e]; exact Paired.snoc r ⟨rfl, ry⟩
theorem KV.drop {kvs : List (κ × V)} {vs : List (κ × Value)} (r : KV kvs vs) (k : κ) : KV (dropK kvs k) (without vs k) := by
  unfold KV at r ⊢
  unfold dropK without
  induction r with
  | nil => exact .nil
  | @cons p q ps qs h t ih =>
    obtain ⟨h1, h2⟩ := h
    rw [List.filter_cons, List.filter_cons]
    by_cases e : p.1 = k
    · have a : ¬ decide (p.1 ≠ k) = true := by simp [e]
      have b : ¬ decide (q.1 ≠ k) = true := by simp [h1.symm.trans e]
      rw [if_neg a, if_neg b]; exact ih
    · have e' : ¬ q.1 = k := fun z => e (h1.trans z)
      have a : decide (p.1 ≠ k) = true := by simp [e]
      have b : decide (q.1 ≠ k) = true := by simp [e']
      rw [if_pos a, if_pos b]; exact .cons ⟨h1, h2⟩ ih
theorem KV.keys {kvs : List (κ × V)} {vs : List (κ × Value)} (r : KV kvs vs) : kvs.map (·.1) = vs.map (·.1) := by
  unfold KV at r
  induction r with
  | nil => rfl
  | cons h t ih => rw [List.map_cons, List.map_cons, ih, h.1]
theorem KV.length {kvs : List (κ × V)} {vs : List (κ × Value)} (r : KV kvs vs) : kvs.length = vs.length := Paired.length r
end

theorem kV_is {P : Program} {w : World} {k : Key} {u : Value} (r : RelV (kV k) u) : (mixKind P w).is k u = true := by
  cases k with
  | inl i => obtain ⟨t, e⟩ := (show ∃ t, u = Value.int i t from r); subst e; exact mixKind_int P w i t
  | inr x => obtain ⟨t, e⟩ := (show ∃ t, u = Value.str x t from r); subst e; exact mixKind_str P w x t
theorem items_are {P : Program} {w : World} : ∀ {ks : List Key} {us : List Value}, Vals (ks.map kV) us → ItemsAre (mixKind P w) ks us
  | [], _, r => by rw [List.map_nil] at r; cases r; exact .nil
  | k :: ks, _, r => by
    rw [List.map_cons] at r
    cases r with
    | cons h t => exact .cons (kV_is h) (items_are t)

abbrev KT (H : Hp) : List (List Key × V) → List (List Key × Addr × Value) → Prop := Paired fun p q => p.1 = q.1 ∧ H q.2.1 = some (.tup (p.1.map kV)) ∧ RelV p.2 q.2.2
theorem KT.val {H : Hp} {kvs : List (List Key × V)} {xs : List (List Key × Addr × Value)} (r : KT H kvs xs) (k : List Key) : RelO (valV kvs k) ((atKey xs k).map (·.2)) := by
  induction r with
  | nil => exact True.intro
  | @cons p q ps qs h t ih =>
    obtain ⟨h1, _, h2⟩ := h
    by_cases e : p.1 = k
    · have e' : q.1 = k := h1.symm.trans e
      have b : atKey (q :: qs) k = some q.2 := by simp [atKey, List.find?_cons, e']
      rw [valV_pos e, b]; exact h2
    · have e' : ¬ q.1 = k := fun z => e (h1.trans z)
      have b : atKey (q :: qs) k = atKey qs k := by simp [atKey, List.find?_cons, e']
      rw [valV_neg e, b]; exact ih
theorem KT.repl {H : Hp} {kvs : List (List Key × V)} {xs : List (List Key × Addr × Value)} (r : KT H kvs xs) (k : List Key) {y : V} {u : Value} (ry : RelV y u) :
    KT H (kvs.map fun kv => if kv.1 = k then (kv.1, y) else kv) (xs.map (putAt k u)) := by
  induction r with
  | nil => exact .nil
  | @cons p q ps qs h t ih =>
    rw [List.map_cons, List.map_cons]
    refine .cons ?_ ih
    obtain ⟨h1, h2, h3⟩ := h
    unfold putAt
    by_cases e : p.1 = k
    · rw [if_pos e, if_pos (h1.symm.trans e)]; exact ⟨h1, h2, ry⟩
    · rw [if_neg e, if_neg (fun z => e (h1.trans z))]; exact ⟨h1, h2, h3⟩
theorem KT.put {H : Hp} {kvs : List (List Key × V)} {xs : List (List Key × Addr × Value)} (r : KT H kvs xs) (k : List Key) {b : Addr} {y : V} {u : Value} (hb : H b = some (.tup (k.map kV))) (ry : RelV y u) :
    KT H (putK kvs k y) (storedH xs k b u) := by
  have e : (kvs.any fun kv => decide (kv.1 = k)) = (atKey xs k).isSome := by
    rw [valV_any, (r.val k).isSome_eq, Option.isSome_map]
  unfold putK storedH
  rw [e]
  by_cases q : (atKey xs k).isSome = true
  · rw [if_pos q, if_pos q]; exact r.repl k ry
  · rw [if_neg q, if_neg q]; exact Paired.snoc r ⟨rfl, hb, ry⟩
theorem KT.keeps {H H' : Hp} {kvs : List (List Key × V)} {xs : List (List Key × Addr × Value)} (r : KT H kvs xs) (ht : ∀ b ys, H b = some (.tup ys) → H' b = some (.tup ys)) : KT H' kvs xs :=
  Paired.mapP r fun _ _ z => ⟨z.1, ht _ _ z.2.1, z.2.2⟩

section
variable {P : Program} {w : World} {H : Hp} {h : Heap} {a : Addr}
theorem rd_of {u : HO} (ok : HOk P w H h) (e : Rd H a u) : ObjOk P w H h a u := e.ok ok
theorem dk_rd {kvs : List (Key × V)} (ok : HOk P w H h) (e : Rd H a (.dK kvs)) : kvs.length ≤ sizeLine ∧ (a == sysModules) = false ∧ ∃ vs, KV kvs vs ∧ h.DictOf (mixKind P w) a vs :=
  show ObjOk P w H h a (.dK kvs) from rd_of ok e
theorem dk_of {kvs : List (Key × V)} (ok : HOk P w H h) (e : H a = some (.dK kvs)) : kvs.length ≤ sizeLine ∧ (a == sysModules) = false ∧ ∃ vs, KV kvs vs ∧ h.DictOf (mixKind P w) a vs := dk_rd ok (.inl e)
theorem key_of {ks : List Key} (ok : HOk P w H h) (e : H a = some (.tup (ks.map kV))) : (tupleKind (mixKind P w)).is h ks a := by
  obtain ⟨_, its, r, o, h1, h2, n, h3⟩ := (show ObjOk P w H h a (.tup (ks.map kV)) from ok a _ e)
  exact ⟨o, its.toArray, n, h1, h2, h3, by simpa using items_are r⟩
theorem dt_rd {kvs : List (List Key × V)} (ok : HOk P w H h) (e : Rd H a (.dT kvs)) : kvs.length ≤ sizeLine ∧ (a == sysModules) = false ∧
    ∃ xs, KT H kvs xs ∧ h.DictOfH (tupleKind (mixKind P w)) a xs := by
  obtain ⟨z, y, xs, r, o, es, ep, h1, h2, h3, h4, h5⟩ := (show ObjOk P w H h a (.dT kvs) from rd_of ok e)
  refine ⟨z, y, xs, r, o, es, ep, h1, h2, h3, h4, fun x hx => ?_, h5⟩
  have all : ∀ {l : List (List Key × V)} {m : List (List Key × Addr × Value)}, KT H l m → ∀ x ∈ m, (tupleKind (mixKind P w)).is h x.1 x.2.1 := by
    intro l m q
    induction q with
    | nil => intro x hx; exact nomatch hx
    | @cons p q ps qs hq t ih =>
      intro x hx
      rcases List.mem_cons.mp hx with e | hx
      · subst e
        exact key_of ok (by rw [← hq.1]; exact hq.2.1)
      · exact ih x hx
  exact all r x hx
theorem dt_of {kvs : List (List Key × V)} (ok : HOk P w H h) (e : H a = some (.dT kvs)) : kvs.length ≤ sizeLine ∧ (a == sysModules) = false ∧
    ∃ xs, KT H kvs xs ∧ h.DictOfH (tupleKind (mixKind P w)) a xs := dt_rd ok (.inl e)
end

def DGet (H : Hp) (a : Addr) (y : V) (r : Option V) : Prop :=
  (∃ kvs k, Rd H a (.dK kvs) ∧ y = kV k ∧ r = valV kvs k) ∨ ∃ kvs k b, Rd H a (.dT kvs) ∧ y = .ref b ∧ H b = some (.tup (k.map kV)) ∧ r = valV kvs k
def DPut (H : Hp) (a : Addr) (y v : V) (H' : Hp) : Prop :=
  (∃ kvs k, H a = some (.dK kvs) ∧ y = kV k ∧ kvs.length < sizeLine ∧ H' = upd H a (.dK (putK kvs k v))) ∨
  ∃ kvs k b, H a = some (.dT kvs) ∧ y = .ref b ∧ H b = some (.tup (k.map kV)) ∧ kvs.length < sizeLine ∧ H' = upd H a (.dT (putK kvs k v))
theorem DGet.k {H : Hp} {a : Addr} {kvs : List (Key × V)} {k : Key} (e : H a = some (.dK kvs)) : DGet H a (kV k) (valV kvs k) := .inl ⟨kvs, k, .inl e, rfl, rfl⟩
theorem DGet.t {H : Hp} {a b : Addr} {kvs : List (List Key × V)} {k : List Key} (e : H a = some (.dT kvs)) (eb : H b = some (.tup (k.map kV))) : DGet H a (.ref b) (valV kvs k) := .inr ⟨kvs, k, b, .inl e, rfl, eb, rfl⟩
theorem DPut.k {H : Hp} {a : Addr} {kvs : List (Key × V)} {k : Key} {v : V} (e : H a = some (.dK kvs)) (hl : kvs.length < sizeLine) : DPut H a (kV k) v (upd H a (.dK (putK kvs k v))) := .inl ⟨kvs, k, e, rfl, hl, rfl⟩
theorem DPut.t {H : Hp} {a b : Addr} {kvs : List (List Key × V)} {k : List Key} {v : V} (e : H a = some (.dT kvs)) (eb : H b = some (.tup (k.map kV))) (hl : kvs.length < sizeLine) :
    DPut H a (.ref b) v (upd H a (.dT (putK kvs k v))) := .inr ⟨kvs, k, b, e, rfl, eb, hl, rfl⟩

section
variable {X : Cx} {pins : List (Addr × Obj)} {σ : St} {H : Hp} {s : Shared} {a : Addr} {y v : V} {u r : Value} {o : Option V} {A : Around} {E : Value → Shared → Prop}

theorem Inv.big (I : Inv X pins σ H s) : sysModules < s.heap.objs.size := by
  have h : mainGlobals < s.heap.objs.size := (I.mod.glob.keeps I.bk).lt
  exact Nat.lt_trans (by decide) h

theorem d_in {Q : Value → Shared → Prop} (hu : A.units + 1 < cLine) (I : Inv X pins σ H s) (g : DGet H a y o) (ry : RelV y u) (h : ∀ s', Inv X pins σ H s' → Q (.bool o.isSome) s') :
    wpAny (model X.prog X.w) A (compareOp .In u (.ref a)) Q E s := by
  rcases g with ⟨kvs, k, e, ey, l⟩ | ⟨kvs, k, b, e, ey, eb, l⟩
  · subst ey
    obtain ⟨z, hd, vs, rel, dd⟩ := dk_rd I.hok e
    refine wpAny_in_of (kV_is ry) hd dd.mapOf ?_
    rw [← (rel.val k).isSome_eq, ← l]
    exact h _ (I.tok _)
  · subst ey
    cases (show u = Value.ref b from ry)
    obtain ⟨z, hd, xs, rel, dd⟩ := dt_rd I.hok e
    refine wpAny_in_heap (tupleKind_room_in1 hu) (key_of I.hok eb) hd dd ?_
    have q := (rel.val k).isSome_eq
    rw [Option.isSome_map] at q
    rw [← q, ← l]
    exact h _ (I.tok _)
theorem d_write {h' : Heap} {t' : Nat} {ob : HO} (I : Inv X pins σ H s) (mu : Mut (H a)) (hs : Heap.SameBut a s.heap h') (he : ∃ q, h'.get? a = some q) (new : ObjOk X.prog X.w (upd H a ob) h' a ob) :
    Inv X pins σ (upd H a ob) { s with heap := h', toks := t' } :=
  I.write (x := a) (e := a) mu (.inl rfl) (fun b q hb z => (hs.2 b hb).trans z) he new
theorem dk_new {P : Program} {w : World} {H' : Hp} {h' : Heap} {kvs : List (Key × V)} {vs : List (Key × Value)} (z : kvs.length ≤ sizeLine) (hd : (a == sysModules) = false) (rel : KV kvs vs) (dd : h'.DictOf (mixKind P w) a vs) :
    ObjOk P w H' h' a (.dK kvs) := ⟨z, hd, vs, rel, dd⟩
theorem d_setItem {H' : Hp} {Q : Unit → Shared → Prop} (hu : A.units + 1 < cLine) (I : Inv X pins σ H s) (g : DPut H a y v H') (ry : RelV y u) (rv : RelV v r) (h : ∀ s', Inv X pins σ H' s' → Q () s') :
    wpAny (model X.prog X.w) A (setItem (.ref a) u r) Q E s := by
  rcases g with ⟨kvs, k, e, ey, l, eH⟩ | ⟨kvs, k, b, e, ey, eb, l, eH⟩
  · subst ey eH
    obtain ⟨z, hd, vs, rel, dd⟩ := dk_of I.hok e
    have hz : vs.length ≤ sizeLine := by rw [← rel.length]; exact z
    have hl : (putK kvs k v).length ≤ sizeLine := by have := length_putK kvs k v; omega
    refine wpAny_setItem_pairs (hsz := hz) (kV_is ry) dd fun h' dd' hs => h _ ?_
    have he : ∃ q, h'.get? a = some q := let ⟨q, _, _, hq, _⟩ := dd'; ⟨q, hq⟩
    exact d_write I (by rw [e]; exact True.intro) hs he (dk_new hl hd (rel.put k rv) dd')
  · subst ey eH
    cases (show u = Value.ref b from ry)
    obtain ⟨z, hd, xs, rel, dd⟩ := dt_of I.hok e
    have hz : xs.length ≤ sizeLine := by rw [← Paired.length rel]; exact z
    have hl : (putK kvs k v).length ≤ sizeLine := by have := length_putK kvs k v; omega
    refine wpAny_setItem_heap (hsz := hz) (tupleKind_room_in1 hu) (key_of I.hok eb) dd fun h' dd' hs => h _ ?_
    obtain ⟨q, es, ep, hq, h2, h3, h4, _, h5⟩ := dd'
    refine d_write I (by rw [e]; exact True.intro) hs ⟨q, hq⟩ ⟨hl, hd, _, (rel.put k eb rv).keeps fun c ys ec => ?_, q, es, ep, hq, h2, h3, h4, h5⟩
    rw [upd_ne (ne_of ec e (fun z => nomatch z))]
    exact ec
end

section
variable {X : Cx} {pins : List (Addr × Obj)} {σ : St} {H : Hp} {s : Shared} {a : Addr} {kvs : List (Key × V)} {k : Key} {u : Value} {A : Around} {E : Value → Shared → Prop}
end

def tDIn (ty td : TE) : TE := fun σ H Q => ty σ H fun y H1 => td σ H1 fun x H2 => ∃ a o, x = .ref a ∧ DGet H2 a y o ∧ Q (.bl o.isSome) H2
def sDPut (td ty tv : TE) : TS := fun D σ H => tv σ H fun v H1 => td σ H1 fun x H2 => ty σ H2 fun y H3 => ∃ a H4, x = .ref a ∧ DPut H3 a y v H4 ∧ D.nx σ H4
section
variable {X : Cx} {o i e value : Expr} {pos pos' tpos : Pos} {td ty tv : TE}
theorem pc_din (hu : X.A.units + 1 < cLine) (hi : PE X i ty) (ho : PE X o td) : PC X .In i o (tDIn ty td) := by
  intro pins s σ H Q I h
  refine thn (hi pins s σ H _ I h) fun iv s1 ⟨y, H1, I1, ry, q1⟩ => thn (ho pins s1 σ H1 _ I1 q1) fun u s2 ⟨x, H2, I2, rx, a, ov, ex, g, q2⟩ => ?_
  subst ex
  obtain rfl : u = Value.ref a := rx
  exact d_in hu I2 g ry fun s3 I3 => ⟨.bl ov.isSome, H2, I3, rfl, q2⟩
theorem ps_dput (hu : X.A.units + 1 < cLine) (ho : PE X o td) (hi : PE X i ty) (hv : PE X value tv) (hs : swapsWith value (some (.Subscript o i pos')) pos.line X.env = pure false) :
    PS X (.Assign [.Subscript o i pos'] value pos) (sDPut td ty tv) := by
  intro pins s σ H D I h
  refine wpAny_Assign_Subscript (thn (hv pins s σ H _ I h) fun r s1 ⟨v, H1, I1, rv, q1⟩ => thn (ho pins s1 σ H1 _ I1 q1) fun u s2 ⟨x, H2, I2, rx, q2⟩ => thn (hi pins s2 σ H2 _ I2 q2) fun iv s3 ⟨y, H3, I3, ry, a, H4, ex, g, q3⟩ => ?_) hs
  subst ex
  obtain rfl : u = Value.ref a := rx
  exact d_setItem hu I3 g ry rv fun s4 I4 => ⟨σ, H4, I4, q3⟩
end

theorem dk_empty {P : Program} {w : World} {H : Hp} (h : Heap) (hb : sysModules < h.objs.size) : ObjOk P w H (h.push { cls := .type "dict", data := .dict #[] }) h.objs.size (.dK []) :=
  ⟨Nat.zero_le _, beq_eq_false_iff_ne.mpr (Ne.symm (Nat.ne_of_lt hb)), [], .nil, Heap.DictOf.new h⟩
def tDNewK : TE := fun _ H Q => ∀ p, H p = none → Q (.ref p) (upd H p (.dK []))
section
variable {X : Cx} {pos : Pos}
theorem pe_dnewK : PE X (.Dict [] [] pos) tDNewK := fun pins s σ H Q I h =>
  wpAny_Dict_empty ⟨.ref s.heap.objs.size, _, I.laid (a := s.heap.objs.size) (o := .dK []) (t' := s.toks) (fun _ _ q => Heap.get?_push_of_some _ q) (Nat.le_refl _) (dk_empty s.heap I.big), rfl, h _ (I.hok.fresh (Nat.le_refl _))⟩
end

def tPairs : List (TE × TE) → St → Hp → (List (V × V) → Hp → Prop) → Prop
  | [], _, H, Q => Q [] H
  | (tk, tv) :: r, σ, H, Q => tk σ H fun x H1 => tv σ H1 fun y H2 => tPairs r σ H2 fun ps H3 => Q ((x, y) :: ps) H3
abbrev VV : List (V × V) → List (Value × Value) → Prop := Paired fun p q => RelV p.1 q.1 ∧ RelV p.2 q.2
def PPs (X : Cx) (pos : Pos) (keys : List (Option Expr)) (values : List Expr) (trs : List (TE × TE)) : Prop :=
  ∀ (pins : List (Addr × Obj)) (s : Shared) (σ : St) (H : Hp) (Q : List (V × V) → Hp → Prop), Inv X pins σ H s → tPairs trs σ H Q →
    wpAny (model X.prog X.w) X.A (evalPairs (pairTrees keys values X.env pos)) (fun vs s' => ∃ ps H', Inv X pins σ H' s' ∧ VV ps vs ∧ Q ps H') X.xe s
theorem pps_nil {X : Cx} {pos : Pos} : PPs X pos [] [] [] := fun pins s σ H Q I h => pairTrees_nil_walk ⟨[], H, I, .nil, h⟩
theorem pps_cons {X : Cx} {pos : Pos} {k v : Expr} {ks : List (Option Expr)} {vs : List Expr} {tk tv : TE} {trs : List (TE × TE)} (hk : PE X k tk) (hv : PE X v tv) (hr : PPs X pos ks vs trs) :
    PPs X pos (some k :: ks) (v :: vs) ((tk, tv) :: trs) := fun pins s σ H Q I h =>
  pairTrees_cons_walk (thn (hk pins s σ H _ I h) fun u s1 ⟨x, H1, I1, rx, q1⟩ => thn (hv pins s1 σ H1 _ I1 q1) fun w2 s2 ⟨y, H2, I2, ry, q2⟩ =>
    thn (hr pins s2 σ H2 _ I2 q2) fun ws s3 ⟨ps, H3, I3, rel, q3⟩ => ⟨(x, y) :: ps, H3, I3, .cons ⟨rx, ry⟩ rel, q3⟩)

def mergeK (kvs more : List (Key × V)) : List (Key × V) := more.foldl (fun acc kv => putK acc kv.1 kv.2) kvs
theorem KV.merge : ∀ {more : List (Key × V)} {rs : List (Key × Value)} {kvs : List (Key × V)} {vs : List (Key × Value)}, KV more rs → KV kvs vs → KV (mergeK kvs more) (merged vs rs) := by
  intro more rs kvs vs r
  unfold KV at r
  induction r generalizing kvs vs with
  | nil => intro q; exact q
  | @cons p q ps qs h t ih =>
    intro r0
    have e : KV (putK kvs p.1 p.2) (stored vs q.1 q.2) := by
      have := r0.put p.1 h.2
      rw [← h.1]; exact this
    exact ih e
theorem length_mergeK : ∀ (more kvs : List (Key × V)), (mergeK kvs more).length ≤ kvs.length + more.length
  | [], kvs => by show kvs.length ≤ kvs.length + 0; omega
  | p :: r, kvs => by
    have h1 := length_mergeK r (putK kvs p.1 p.2)
    have h2 := length_putK kvs p.1 p.2
    show (mergeK (putK kvs p.1 p.2) r).length ≤ _
    rw [List.length_cons]; omega
theorem carries_of {P : Program} {w : World} : ∀ {kvs : List (Key × V)} {ws : List (Value × Value)}, VV (kvs.map fun kv => (kV kv.1, kv.2)) ws → ∃ rs, Carries (mixKind P w) ws rs ∧ KV kvs rs
  | [], _, r => by rw [List.map_nil] at r; cases r; exact ⟨[], True.intro, .nil⟩
  | p :: kvs, _, r => by
    rw [List.map_cons] at r
    cases r with
    | @cons a b as bs h t =>
      obtain ⟨rs, c, q⟩ := carries_of (P := P) (w := w) t
      obtain ⟨b1, b2⟩ := b
      exact ⟨(p.1, b2) :: rs, ⟨kV_is h.1, rfl, c⟩, .cons ⟨rfl, h.2⟩ q⟩
def tDisp (trs : List (TE × TE)) : TE := fun σ H Q => ∀ p, H p = none → tPairs trs σ (upd H p (.dK [])) fun ps H2 => H2 p = some (.dK []) ∧ ∃ kvs : List (Key × V), ps = kvs.map (fun kv => (kV kv.1, kv.2)) ∧ kvs.length ≤ 15 ∧ Q (.ref p) (upd H2 p (.dK (mergeK [] kvs)))
theorem pe_disp {X : Cx} {pos : Pos} {keys : List (Option Expr)} {values : List Expr} {trs : List (TE × TE)} (h : PPs X pos keys values trs) (hall : keys.all (·.isSome) = true) (hl : keys.length = values.length) (h0 : keys ≠ [])
    (h15 : keys.length ≤ 15) : PE X (.Dict keys values pos) (tDisp trs) := by
  intro pins s σ H Q I q
  have hn := I.hok.fresh (Nat.le_refl s.heap.objs.size)
  have I1 := I.laid (a := s.heap.objs.size) (o := .dK []) (h' := s.heap.push { cls := .type "dict", data := .dict #[] }) (t' := s.toks) (fun _ _ q => Heap.get?_push_of_some _ q) (Nat.le_refl _) (dk_empty s.heap I.big)
  refine wpAny_Dict_walk (knd := mixKind X.prog X.w) hall hl h0 h15 (thn (h pins _ σ _ _ I1 (q _ hn)) fun ws s2 ⟨ps, H2, I2, rel, e, kvs, ep, lk, q2⟩ => ?_)
  subst ep
  obtain ⟨rs, c, rk⟩ := carries_of (P := X.prog) (w := X.w) rel
  obtain ⟨z, hd, vs0, r0, dd⟩ := dk_of I2.hok e
  cases r0
  refine ⟨rs, c, dd, fun h' dd' hs => ⟨.ref s.heap.objs.size, _, ?_, rfl, q2⟩⟩
  have hz : (mergeK [] kvs).length ≤ sizeLine := by
    have h1 := length_mergeK kvs []
    rw [List.length_nil] at h1
    rw [sizeLine_eq]; omega
  have he : ∃ q, h'.get? s.heap.objs.size = some q := let ⟨q, _, _, hq, _⟩ := dd'; ⟨q, hq⟩
  exact d_write I2 (by rw [e]; exact True.intro) hs he (dk_new hz hd (rk.merge .nil) dd')

section
variable {X : Cx} {pins : List (Addr × Obj)} {σ : St} {H : Hp} {s : Shared} {a : Addr} {y d : V} {u r : Value} {o : Option V} {A : Around} {E : Value → Shared → Prop}
end

section
variable {X : Cx} {o e f : Expr} {apos cpos : Pos} {td ty tx : TE}
end

section
variable {X : Cx} {pins : List (Addr × Obj)} {σ : St} {H : Hp} {s : Shared} {a : Addr} {kvs : List (Key × V)} {A : Around} {E : Value → Shared → Prop}
end

section
variable {X : Cx} {pins : List (Addr × Obj)} {σ : St} {H : Hp} {s : Shared} {a : Addr} {y : V} {u : Value} {A : Around} {E : Value → Shared → Prop}
end
end L2

namespace L2
open PySem PySem.Spec PyProof.Rows

section
variable {prog : Program} {w : World} {A : Around} {E : Value → Shared → Prop}
end

section
variable {X : Cx}
end
end L2

namespace L2
open PySem PySem.Spec PyProof.Rows

section
variable {X : Cx} {pins : List (Addr × Obj)} {σ : St} {H : Hp} {s : Shared} {h' : Heap}
theorem Inv.lock {d : Addr} {u : HO} (I : Inv X pins σ H s) (h : H d = some u) (mu : Mut (some u)) : ∃ od, Inv X pins σ (upd H d (.frz od u)) s := by
  have x := I.hok d u h
  have ex : ∃ od, s.heap.get? d = some od := by
    cases u with
    | lst xs => obtain ⟨_, _, _, _, e⟩ := x; exact ⟨_, e⟩
    | dK kvs => obtain ⟨_, _, _, _, o, _, _, e, _⟩ := x; exact ⟨o, e⟩
    | dT kvs => obtain ⟨_, _, _, _, o, _, _, e, _⟩ := x; exact ⟨o, e⟩
    | set S n => obtain ⟨o, _, _, _, e, _⟩ := x; exact ⟨o, e⟩
    | ins C dx fs => obtain ⟨_, _, _, e, _⟩ := x; exact ⟨_, e⟩
    | ext φ => obtain ⟨_, ⟨_, e⟩, _⟩ := x; exact ⟨_, e⟩
    | _ => exact False.elim mu
  obtain ⟨od, e⟩ := ex
  have new : ObjOk X.prog X.w (upd H d (.frz od u)) s.heap d (.frz od u) := by
    refine ⟨e, x.stay (fun b v _ q => q) (fun b q => ?_) fun b xs q => ?_⟩
    · rw [upd_ne (fun z => by rw [z, h] at q; cases q; exact mu)]; exact q
    · rw [upd_ne (fun z => by rw [z, h] at q; cases q; exact mu)]; exact q
  exact ⟨od, I.write (x := d) (e := d) (t' := s.toks) (h' := s.heap) (by rw [h]; exact mu) (.inl rfl) (fun b v _ q => q) ⟨od, e⟩ new⟩
theorem Inv.nofrz {d : Addr} {u : HO} (I : Inv X pins σ H s) (h : H d = some u) (mu : Mut (some u)) : ∀ o' u', X.H_0 d ≠ some (.frz o' u') := fun o' u' e => by
  have q := I.base.frzs d o' u' e
  rw [h] at q
  cases q
  exact mu
theorem Inv.unlock {d : Addr} {od : Obj} {u : HO} (I : Inv X pins σ H s) (h : H d = some (.frz od u)) (hn : ∀ o' u', X.H_0 d ≠ some (.frz o' u')) : Inv X pins σ (upd H d u) s := by
  have neH : ∀ b o, H b = some o → (∀ o' u', o ≠ .frz o' u') → b ≠ d := fun b o e hne z => by
    rw [z, h] at e
    cases e
    exact hne _ _ rfl
  have neN : ∀ b, H b = none → b ≠ d := fun b e z => by rw [z, h] at e; cases e
  refine ⟨I.ok, I.os, I.bare, ⟨I.base.keep, I.base.slot, fun b o e n hx => ?_, I.base.there, fun b xs e => ?_, fun b o x e => ?_, fun b ps e => ?_⟩, I.loc, I.cell, ?_, fun x c e => ?_, fun p hp => ?_, fun b o e => ?_, I.len⟩
  · rw [upd_ne (neN b (I.base.free b o e n hx))]; exact I.base.free b o e n hx
  · have q := I.base.tups b xs e
    rw [upd_ne (neH b _ q (fun _ _ z => nomatch z))]; exact q
  · have q := I.base.frzs b o x e
    rw [upd_ne (fun z => by rw [z] at e; exact hn _ _ e)]; exact q
  · obtain ⟨m, q⟩ := I.base.tbls b ps e
    exact ⟨m, by rw [upd_ne (neH b _ q (fun _ _ z => nomatch z))]; exact q⟩
  · rw [upd_ne (neN _ I.free)]; exact I.free
  · rw [upd_ne (neN c (I.freeC x c e))]; exact I.freeC x c e
  · obtain ⟨e, n, r⟩ := I.pin p hp
    exact ⟨e, by rw [upd_ne (neN _ n)]; exact n, r⟩
  · by_cases hb : b = d
    · rw [hb, upd_same] at e
      cases e
      rw [hb]
      obtain ⟨_, x⟩ := I.hok d _ h
      exact x.stay (fun c v _ q => q) (fun c q => by rw [upd_ne (neH c _ q (fun _ _ z => nomatch z))]; exact q) fun c xs q => by rw [upd_ne (neH c _ q (fun _ _ z => nomatch z))]; exact q
    · rw [upd_ne hb] at e
      exact (I.hok b o e).stay (fun c v _ q => q) (fun c q => by rw [upd_ne (neH c _ q (fun _ _ z => nomatch z))]; exact q) fun c xs q => by rw [upd_ne (neH c _ q (fun _ _ z => nomatch z))]; exact q
end
def tLock (t : TS) : TS := fun D σ H => ∃ d u, H d = some u ∧ Mut (some u) ∧ ∀ od, t ⟨fun σ' H' => H' d = some (.frz od u) ∧ D.nx σ' (upd H' d u), fun v H' => H' d = some (.frz od u) ∧ D.rt v (upd H' d u), fun σ' H' => H' d = some (.frz od u) ∧ D.bk σ' (upd H' d u), fun σ' H' => H' d = some (.frz od u) ∧ D.ct σ' (upd H' d u)⟩ σ (upd H d (.frz od u))
def tLockE (t : TE) : TE := fun σ H Q => ∃ d u, H d = some u ∧ Mut (some u) ∧ ∀ od, t σ (upd H d (.frz od u)) fun v H' => H' d = some (.frz od u) ∧ Q v (upd H' d u)
section
variable {X : Cx}
theorem ps_lock {st : Stmt} {t : TS} (h : PS X st t) : PS X st (tLock t) := by
  intro pins s σ H D I hw
  obtain ⟨d, u, hd, mu, hw⟩ := hw
  obtain ⟨od, I1⟩ := I.lock hd mu
  refine thn (h pins s σ _ _ I1 (hw od)) fun f s1 q => ?_
  cases f with
  | next => obtain ⟨σ', H', I2, e, q⟩ := q; exact ⟨σ', _, I2.unlock e (I.nofrz hd mu), q⟩
  | brk => obtain ⟨σ', H', I2, e, q⟩ := q; exact ⟨σ', _, I2.unlock e (I.nofrz hd mu), q⟩
  | cont => obtain ⟨σ', H', I2, e, q⟩ := q; exact ⟨σ', _, I2.unlock e (I.nofrz hd mu), q⟩
  | ret v => obtain ⟨x, σ', H', I2, r, e, q⟩ := q; exact ⟨x, σ', _, I2.unlock e (I.nofrz hd mu), r, q⟩
theorem pe_lock {e : Expr} {t : TE} (h : PE X e t) : PE X e (tLockE t) := by
  intro pins s σ H Q I hw
  obtain ⟨d, u, hd, mu, hw⟩ := hw
  obtain ⟨od, I1⟩ := I.lock hd mu
  refine thn (h pins s σ _ _ I1 (hw od)) fun v s1 ⟨x, H1, I2, r, e2, q⟩ => ?_
  exact ⟨x, _, I2.unlock e2 (I.nofrz hd mu), r, q⟩

theorem pi_one {tg : Expr} {pins : List (Addr × Obj)} {σ : St} {H : Hp} {s : Shared} {R : It → Hp → Prop} {J : It} {tn : Nat → Heap → Prop} {tk : Nat} (I : Inv X pins σ H s) (o : Obj)
    (T : Turn X.prog X.w X.K tg J [s.heap.objs.size] s.heap.objs.size tn) (st : tn 0 (s.heap.push o)) (q : R J H) : PIE X pins σ tg R (.ref s.heap.objs.size) { s with heap := s.heap.push o, toks := tk } := by
  refine ⟨s.heap.objs.size, [s.heap.objs.size], tn, J, H, rfl, I.kept fun b ob e => Heap.get?_push_of_some _ e, T, st, fun b hb => ?_, q⟩
  have e : b = s.heap.objs.size := by simpa using hb
  subst e
  exact I.fpOk (Nat.le_refl _) (I.hok.fresh (Nat.le_refl _))
end

def Itc (lo c : Int) (n : Nat) : It := ⟨fun i _ => i < n, fun i H x H' => H' = H ∧ x = .int (lo + (i : Nat) * c), fun i _ => n ≤ i⟩
theorem turn_rangeC {P : Program} {w : World} {K : PySem.W.Frag} {tg : Expr} (it : Addr) (lo c : Int) (n : Nat) : Turn P w K tg (Itc lo c n) [it] it (fun i h => IsRangeIter h it (lo + (i : Nat) * c) ((n : Int) - (i : Nat)) c) where
  mem := by simp
  obj := fun i h st b hb => by
    have e : b = it := by simpa using hb
    subst e
    exact ⟨_, st, fun v z => nomatch z⟩
  keep := fun i h h' st k => k it (by simp) _ st
  item := by
    intro X hP hw hK hc i pins s σ H E I hf st hg
    subst hP hw hK
    obtain ⟨f0, f1, f2, f3, f4, f5⟩ := hf it (by simp)
    have W := Walks.range (prog := X.prog) (w := X.w) (I.ok.hd hc) it lo c n
    refine W.item i s _ _ hg st fun v h' tk hv st' kk => ?_
    obtain ⟨t, rfl⟩ := hv
    have I1 : Inv X pins σ H { s with heap := h', toks := tk } := I.turned (fun b o hb e => kk b o (by simpa using hb) e) f0 f1 f3 f4 f5
    exact ⟨_, rfl, go_of (s := { s with heap := h', toks := tk }) (n := "range_iterator") st' rfl rfl (by decide) ⟨.int (lo + (i : Nat) * c), H, I1, ⟨t, rfl⟩, ⟨rfl, rfl⟩, st', fun b hb => (hf b hb).1⟩⟩
  done := by
    intro X hP hw hK hc i pins s σ H E I hf st hg
    subst hP hw hK
    obtain ⟨f0, f1, f2, f3, f4, f5⟩ := hf it (by simp)
    exact wpAny_pyNext_range_end (I.ok.hd hc) st (by have : n ≤ i := hg; omega) fun h' eb => ⟨rfl, I.turned (t' := s.toks) (fun b o hb e => eb b o hb e) f0 f1 f3 f4 f5⟩
  self := fun A i s Q E st h => wpAny_pyIter_rangeiter st h
def RgC (i j c : Int) (n : Nat) : Prop := c ≠ 0 ∧ c.natAbs < 1073741824 ∧ Builtin.Range.small i j c = true ∧ Builtin.Range.rangeSize i j c = n
theorem RgC.neg {i j : Int} (ha : -(2 ^ 62) ≤ i) (ha' : i < 2 ^ 62) (hb : -(2 ^ 62) ≤ j) (hb' : j < 2 ^ 62) : RgC i j (-1) (i - j).toNat :=
  ⟨by decide, by decide, PySem.W.small_down ha ha' hb hb', PySem.W.rangeSize_downNat i j⟩
def iRng3 (ta : TA) : TI := fun σ H R => ta σ H fun vs H1 => ∃ (i j c : Int) (n : Nat), vs = [.int i, .int j, .int c] ∧ RgC i j c n ∧ R (Itc i c n) H1
section
variable {X : Cx} {tg : Expr}
theorem pi_range3 {a b c : Expr} {ta : TA} {p pos : Pos} (hg : Gl X "range") (hm : X.mg "range" = none) (ha : PA X [a, b, c] ta)
    (hs : starEach [a, b, c] X.env = (false, eval a X.env) :: starEach [b, c] X.env := by rfl) (hpl : (backTo pos (starEach [b, c] X.env)).any (·.1) = false := by rfl) :
    PI X tg (.Call (.Name "range" p) [a, b, c] [] pos) (iRng3 ta) := by
  intro pins s σ H R I h
  refine Call_ (ld_blt I hg hm boot_range (PyProof.Rows.callWith_type1 (thn (ha pos pins s σ H _ I h) fun us s1 ⟨vs, H1, I1, r1, q1⟩ => ?_) hs hpl))
  obtain ⟨i, j, k, n, e, ⟨c0, c1, c2, c3⟩, q⟩ := q1
  subst e
  cases r1 with
  | cons r rr =>
    cases rr with
    | cons r' rr =>
      cases rr with
      | cons r'' rr =>
        cases rr
        obtain ⟨t, rfl⟩ := r
        obtain ⟨t', rfl⟩ := r'
        obtain ⟨t'', rfl⟩ := r''
        refine call_range_3 c0 ?_ (.inl (PyProof.noPylong_small c1))
        refine wpAny_pyIter_range (IsRange.new ..) c2 ?_
        have I2 : Inv X pins σ H1 { s1 with heap := s1.heap.push { cls := .type "range", data := .fields #[.int i t, .int j t', .int k t''] } } := I1.kept (t' := s1.toks) fun b o e => Heap.get?_push_of_some _ e
        refine pi_one (tk := s1.toks) I2 _ (turn_rangeC _ i k n) ?_ q
        have e1 : i + ((0 : Nat) : Int) * k = i := by simp
        have e2 : (n : Int) - ((0 : Nat) : Int) = Builtin.Range.rangeSize i j k := by rw [c3]; simp
        show IsRangeIter _ _ (i + ((0 : Nat) : Int) * k) ((n : Int) - ((0 : Nat) : Int)) k
        rw [e1, e2]
        exact Heap.get?_push_size _ rfl
end
theorem for_rangeC {lo c : Int} {n : Nat} {g : TG} {tb : TS} {D : Ends} {σ : St} {H : Hp} (Pv : Nat → St → Hp → Prop) (h0 : Pv 0 σ H)
    (hs : ∀ i σ H, i < n → Pv i σ H → g (.int (lo + (i : Nat) * c)) σ H fun σ2 H2 => tb { D with nx := Pv (i + 1), ct := Pv (i + 1), bk := D.nx } σ2 H2) (hd : ∀ σ H, Pv n σ H → D.nx σ H) :
    ∃ W : Nat → Nat → St → Hp → Prop, (∃ m, W 0 m σ H) ∧ ∀ i m σ H, W i m σ H →
      ((Itc lo c n).stop i H ∧ D.nx σ H) ∨ ((Itc lo c n).go i H ∧ ∃ N : St → Hp → Prop, (∀ σ' H', N σ' H' → ∃ m', m' < m ∧ W (i + 1) m' σ' H') ∧ ∀ x H', (Itc lo c n).yld i H x H' → g x σ H' fun σ2 H2 => tb { D with nx := N, ct := N, bk := D.nx } σ2 H2) := by
  refine ⟨fun i m σ H => m = n - i ∧ i ≤ n ∧ Pv i σ H, ⟨n, by simp, Nat.zero_le _, h0⟩, ?_⟩
  rintro i m σ H ⟨rfl, hi, p⟩
  by_cases hlt : i < n
  · refine .inr ⟨hlt, Pv (i + 1), fun σ' H' p' => ⟨n - (i + 1), by omega, rfl, hlt, p'⟩, fun x H' y => ?_⟩
    obtain ⟨e, y⟩ := y
    subst e y
    exact hs i σ _ hlt p
  · have e : i = n := by omega
    subst e
    exact .inl ⟨Nat.le_refl _, hd σ H p⟩

section
variable {X : Cx} {tg : Expr}
end

section
variable {prog : Program} {w : World} {A : Around} {E : Value → Shared → Prop} {s : Shared}
end

section
variable {X : Cx} {pins : List (Addr × Obj)} {σ : St} {H : Hp} {s : Shared} {d : Addr} {o : Obj}
end

section
variable {P : Program} {w : World} {K : PySem.W.Frag} {tg : Expr} {d : Addr} {o : Obj} {es : Array DictEntry} {ep : Nat}
end

section
variable {X : Cx} {tg e : Expr} {td : TE} {apos cpos : Pos}
end

end L2

section 
namespace Bits
open PySem PyProof.Rows

end Bits
end 

section 
namespace TL
open PySem PySem.Builtin PySem.Builtin.Str PySem.StrLaws

abbrev tl (x : Str) : List Nat := x.cps.toList
def pre (S l : List Nat) : Bool := l.take S.length == S
def par (S : List Nat) : List Nat → List Nat → Option (List Nat × List Nat)
  | _, [] => none
  | acc, c :: r => if pre S (c :: r) = true then some (acc, (c :: r).drop S.length) else par S (acc ++ [c]) r

end TL
end 

namespace L2
open PySem PySem.Spec PyProof.Rows

section
variable {X : Cx} {pins : List (Addr × Obj)} {σ : St} {H : Hp} {s : Shared} {Q : VK}
end

section
variable {X : Cx}

end

section
variable {X : Cx} {o e : Expr} {to te : TE}
end
end L2

namespace L2
open PySem PySem.Spec PyProof.Rows

section
variable {X : Cx}
end

end L2

namespace Att
open PySem PySem.W PySem.Calls PyProof.Rows

section
variable {prog : Program} {w : World} {A : Around} {E : Value → Shared → Prop} {s : Shared} {K : Frag}

end
end Att

namespace L2
open PySem PySem.Spec PyProof.Rows

end L2

namespace L2
open PySem PySem.Spec PyProof.Rows

end L2

namespace L2
open PySem PySem.Spec PyProof.Rows

def inClass (s : Stmt) (j : Nat) : Stmt := match s with
  | .ClassDef _ _ _ body _ _ _ _ _ _ _ => body.getD j (.Pass ⟨0, 0, 0, 0⟩)
  | _ => .Pass ⟨0, 0, 0, 0⟩
def defArgs (s : Stmt) : Arguments := match s with
  | .FunctionDef _ a _ _ _ _ _ _ _ _ => a
  | _ => { posonlyargs := [], args := [], vararg := none, kwonlyargs := [], kw_defaults := [], kwarg := none, defaults := [] }
def defBody (s : Stmt) : List Stmt := match s with
  | .FunctionDef _ _ b _ _ _ _ _ _ _ => b
  | _ => []
def defScope (s : Stmt) : Scope := match s with
  | .FunctionDef _ _ _ _ _ _ sc _ _ _ => sc
  | _ => { kind := .function, names := [], isGenerator := false, isCoroutine := false }

abbrev CX0 : CXT := fun _ _ _ _ _ _ => False
abbrev E0 : XK := fun _ _ _ => False
theorem pass0 {X : Cx} : Passes CX0 X E0 := fun _ _ _ _ _ _ _ h => h.elim

structure Fun (K : PySem.W.Frag) (x qual : Str) (st : Stmt) (f : Addr) (fd : FuncData) : Prop where
  ex : ∃ (oc : Value) (od : Option Addr) (kV doc pm : Value) (an : Option Addr) (cdv ct : Value) (osl : Array (Option Value)),
    fd = PySem.W.fnOf x qual (defArgs st) (defBody st) (defScope st) .none kV doc pm an cdv ct ∧ K.lookup f = some ⟨oc, od, .func fd, osl⟩ ∧ PySem.W.codeIn K cdv qual = true
  kp : PySem.W.keepIn K (.ref f) = true
section
variable {P : Program} {w : World} {K : PySem.W.Frag} {mg : Str → Option Value} {base : Heap}
theorem Fun.ok {x qual : Str} {st : Stmt} {f : Addr} {fd : FuncData} {N ps : List Str} {k : Nat} {sp : Sp} (F : Fun K x qual st f fd) (S : FnScope N ps (defScope st)) (len : ∀ vs H Q E, sp vs H Q E → vs.length = ps.length)
    (hbody : ∀ (cdv : Value) (A : Around) (outer : List Env) (s : Shared) (H : Hp) (vs : List V) (Q : VK) (E : XK), Room k (A.deeper (envOfC qual (defScope st) s.heap.objs.size f cdv)) → sp vs H Q E →
      ∃ t, PSs (cxOf CX0 P w K mg base N qual (defScope st) f cdv A outer s H E).nox (defBody st) t ∧ t { nx := fun _ H' => Q .non H', rt := Q } (start N vs) H) : FnOk P w K mg base CX0 (k + 1) f fd ps sp := by
  obtain ⟨oc, od, kV, doc, pm, an, cdv, ct, osl, rfl, lk, hcd⟩ := F.ex
  refine fn_of lk hcd S len fun A outer s H vs Q E hr hsp => ?_
  obtain ⟨t, h, q⟩ := hbody cdv A outer s H vs Q E hr hsp
  exact ⟨t, h.nox, q⟩
theorem Fun.binds {x qual : Str} {st : Stmt} {f : Addr} {fd : FuncData} {ps : List Str} (F : Fun K x qual st f fd)
    (h : ∀ (kV doc pm : Value) (an : Option Addr) (cdv ct : Value) (us : List Value), us.length = ps.length → bindArgs (PySem.W.fnOf x qual (defArgs st) (defBody st) (defScope st) .none kV doc pm an cdv ct) ⟨us, []⟩ = pure (ps.zip us)) : Binds K fd ps [] := by
  obtain ⟨oc, od, kV, doc, pm, an, cdv, ct, osl, rfl, lk, hcd⟩ := F.ex
  exact .all (h kV doc pm an cdv ct)
theorem fun_mk {x qual : Str} {st : Stmt} {f : Addr} {oc : Value} {od an : Option Addr} {osl : Array (Option Value)} {kV doc pm cdv ct : Value} (l : K.lookup f = some ⟨oc, od, .func (PySem.W.fnOf x qual (defArgs st) (defBody st) (defScope st) .none kV doc pm an cdv ct), osl⟩)
    (c : PySem.W.codeIn K cdv qual = true) (k : PySem.W.keepIn K (.ref f) = true) : Fun K x qual st f (PySem.W.fnOf x qual (defArgs st) (defBody st) (defScope st) .none kV doc pm an cdv ct) := ⟨⟨oc, od, kV, doc, pm, an, cdv, ct, osl, rfl, l, c⟩, k⟩
end
theorem hu_of {A : Around} {k : Nat} (hr : Room k A) : A.units + 1 < cLine := Nat.lt_of_le_of_lt (Nat.add_le_add_left (by decide : 1 ≤ 64) _) hr.units
section
variable {X : Cx}
theorem pv (i : Nat) {x : Str} {pos : Pos} (hN : X.N[i]? = some x := by rfl) (hv : Vis X.env.scope x := by first | exact Or.inl rfl | exact Or.inr (Or.inl rfl) | exact Or.inr (Or.inr rfl)) (hd : (x == ("__debug__" : Str)) = false := by decide)
    (hcd : (x == ("__classdict__" : Str)) = false := by decide) : PE X (.Name x pos) (tVar i) := pe_var hN hv hd hcd
end

theorem iteF {A B : Prop} (h : B) : if false = true then A else B := by
  rw [if_neg Bool.false_ne_true]
  exact h
theorem iteT {A B : Prop} (h : A) : if true = true then A else B := by
  rw [if_pos rfl]
  exact h
theorem ite2 {c A B : Prop} [Decidable c] (h1 : c → A) (h2 : ¬ c → B) : if c then A else B := by
  by_cases h : c
  · rw [if_pos h]
    exact h1 h
  · rw [if_neg h]
    exact h2 h
def Same (H H' : Hp) : Prop := ∀ b o, H b = some o → H' b = some o
theorem Same.refl (H : Hp) : Same H H := fun _ _ h => h
theorem Same.trans {H H1 H2 : Hp} (a : Same H H1) (b : Same H1 H2) : Same H H2 := fun c o h => b c o (a c o h)
theorem Same.free {H H' : Hp} (e : Same H H') {l : Addr} (h : H' l = Option.none) : H l = Option.none := by
  cases q : H l with
  | none => rfl
  | some o =>
    rw [e l o q] at h
    cases h
theorem Same.seq {K : PySem.W.Frag} {H H' : Hp} {a : Addr} {xs : List V} (e : Same H H') (h : SqL K H a xs) : SqL K H' a xs := by
  rcases h with (h | ⟨o, h⟩) | h
  · exact .inl (.inl (e _ _ h))
  · exact .inl (.inr ⟨o, e _ _ h⟩)
  · exact .inr h

section
variable {κ : Type} [DecidableEq κ]
theorem valV_not {kvs : List (κ × V)} {k : κ} (h : valV kvs k = none) : ¬ k ∈ kvs.map (·.1) := by
  intro m
  obtain ⟨p, hp, e⟩ := List.mem_map.mp m
  have q : (kvs.any fun kv => decide (kv.1 = k)) = true := List.any_eq_true.mpr ⟨p, hp, decide_eq_true e⟩
  rw [valV_any, h] at q
  exact absurd q (by simp)
theorem valV_in {kvs : List (κ × V)} {k : κ} {v : V} (h : valV kvs k = some v) : k ∈ kvs.map (·.1) := by
  have q : (kvs.any fun kv => decide (kv.1 = k)) = true := by
    rw [valV_any, h]
    all_goals rfl
  obtain ⟨p, hp, e⟩ := List.any_eq_true.mp q
  exact List.mem_map.mpr ⟨p, hp, of_decide_eq_true e⟩
end
theorem at_of {xs : List V} {z : Int} {j : Nat} {v : V} (e : z = (j : Int)) (h : xs[j]? = some v) : atI xs z = some v := by
  rw [e]
  exact atI_nat h
theorem nd_ix {α : Type} {l : List α} (hN : l.Nodup) {i j : Nat} {x : α} (a : l[i]? = some x) (b : l[j]? = some x) : i = j := by
  obtain ⟨h1, e1⟩ := List.getElem?_eq_some_iff.mp a
  obtain ⟨h2, e2⟩ := List.getElem?_eq_some_iff.mp b
  exact (List.getElem_inj hN).mp (e1.trans e2.symm)
theorem Same.made {H H1 : Hp} {x dx C : Addr} (nx : H x = Option.none) (nd : H dx = Option.none) (k : ∀ b o, (upd (upd H dx (.own x)) x (.ins C dx [])) b = some o → b ≠ x → H1 b = some o) : Same H H1 := fun b o e =>
  k b o (by rw [upd_ne (ne_of_none e nx), upd_ne (ne_of_none e nd)]; exact e) (ne_of_none e nx)
end L2

section
set_option Elab.async false
set_option linter.all false
set_option maxRecDepth 100000
set_option maxHeartbeats 2000000
namespace L2
open PySem PySem.Spec PyProof.Rows
open PySem.W (WData Codec OpenSpec Well WellAll ReadsW ReadsAllW)
mutual
/-- x stands for the datum d, lists and tuples all the way -/
inductive Dw (K : PySem.W.Frag) (H : Hp) : V → WData → Prop
  | non : Dw K H .non .none
  | bl (b : Bool) : Dw K H (.bl b) (.bool b)
  | int (i : Int) : Dw K H (.int i) (.int i)
  | str (x : Str) : Dw K H (.str x) (.str x)
  | byt (b : Array UInt8) : Dw K H (.byt b) (.bytes b.toList)
  | lst {a : Addr} {xs : List V} {ds : List WData} : SqL K H a xs → DwAll K H xs ds → Dw K H (.ref a) (.list ds)
  | tup {a : Addr} {xs : List V} {ds : List WData} : SqT K H a xs → DwAll K H xs ds → Dw K H (.ref a) (.tuple ds)
inductive DwAll (K : PySem.W.Frag) (H : Hp) : List V → List WData → Prop
  | nil : DwAll K H [] []
  | cons {v : V} {vs : List V} {d : WData} {ds : List WData} : Dw K H v d → DwAll K H vs ds → DwAll K H (v :: vs) (d :: ds)
end
theorem dw_ints {K : PySem.W.Frag} {H : Hp} : ∀ ns : List Int, DwAll K H (ns.map V.int) (ns.map WData.int)
  | [] => .nil
  | n :: r => .cons (.int n) (dw_ints r)
theorem ints_dw {K : PySem.W.Frag} {H : Hp} : ∀ (ns : List Int) (xs : List V), DwAll K H xs (ns.map WData.int) → xs = ns.map V.int
  | [], xs, h => by
    cases h
    rfl
  | n :: r, xs, h => by
    cases h with
    | cons h1 h2 =>
      cases h1
      rw [ints_dw r _ h2] <;> rfl
section
variable {P : Program} {w : World} {K : PySem.W.Frag} {H : Hp} {h : Heap} {R : PySem.W.WRecords} {cl : Str → Option Addr}
theorem sqL_at {a : Addr} {xs : List V} (hok : HOk P w H h) (KX : K.In h) (q : SqL K H a xs) : ∃ (its : List Value) (o : Obj) (n : Nat), Vals xs its ∧ h.get? a = some o ∧ o.cls = .type "list" ∧ o.data = .seq its.toArray n := by
  rcases q with q | ⟨o, its, n, e, hc, _, hd, _, hv⟩
  · obtain ⟨_, its, n, hv, e⟩ := (show ObjOk P w H h a (.lst xs) from q.ok hok)
    exact ⟨its, _, n, hv, e, rfl, rfl⟩
  · exact ⟨its.toList, o, n, hv, KX _ _ e, hc, by simp [hd]⟩
theorem sqT_at {a : Addr} {xs : List V} (hok : HOk P w H h) (KX : K.In h) (q : SqT K H a xs) : ∃ (its : List Value) (o : Obj) (n : Nat), Vals xs its ∧ h.get? a = some o ∧ o.cls = .type "tuple" ∧ o.data = .seq its.toArray n := by
  rcases q with q | ⟨o, its, n, e, hc, hd, _, hv⟩
  · obtain ⟨_, its, hv, o, e, hc, n, hd⟩ := (show ObjOk P w H h a (.tup xs) from q.ok hok)
    exact ⟨its, o, n, hv, e, hc, hd⟩
  · exact ⟨its.toList, o, n, hv, KX _ _ e, hc, by simp [hd]⟩
mutual
theorem Dw.reads (hok : HOk P w H h) (KX : K.In h) : ∀ (d : WData) (v : V) (u : Value), Dw K H v d → RelV v u → ∃ as, ReadsW R cl h u d as
  | .none, _, _, x, r => by
    cases x
    cases r
    exact ⟨_, ReadsW.none⟩
  | .bool b, _, _, x, r => by
    cases x
    cases r
    exact ⟨_, ReadsW.bool b⟩
  | .int i, _, _, x, r => by
    cases x
    obtain ⟨t, rfl⟩ := r
    exact ⟨_, ReadsW.int i t⟩
  | .str s, _, _, x, r => by
    cases x
    obtain ⟨t, rfl⟩ := r
    exact ⟨_, ReadsW.str s t⟩
  | .bytes b, _, _, x, r => by
    cases x
    obtain ⟨t, rfl⟩ := r
    exact ⟨_, ReadsW.bytes _ t⟩
  | .list ds, _, _, x, r => by
    cases x with
    | lst hs ha =>
      cases r
      obtain ⟨its, o, n, rv, ho, hc, hd⟩ := sqL_at hok KX hs
      obtain ⟨as, hr⟩ := Dw.readsAll hok KX ds _ its ha rv
      exact ⟨_, ReadsW.list ho hc hd hr⟩
  | .tuple ds, _, _, x, r => by
    cases x with
    | tup hs ha =>
      cases r
      obtain ⟨its, o, n, rv, ho, hc, hd⟩ := sqT_at hok KX hs
      obtain ⟨as, hr⟩ := Dw.readsAll hok KX ds _ its ha rv
      exact ⟨_, ReadsW.tuple ho hc hd hr⟩
  | .float _, _, _, x, _ => by cases x
  | .dict _, _, _, x, _ => by cases x
  | .bytearray _, _, _, x, _ => by cases x
  | .set _, _, _, x, _ => by cases x
  | .frozenset _, _, _, x, _ => by cases x
  | .obj _ _, _, _, x, _ => by cases x
theorem Dw.readsAll (hok : HOk P w H h) (KX : K.In h) : ∀ (ds : List WData) (vs : List V) (us : List Value), DwAll K H vs ds → Vals vs us → ∃ as, ReadsAllW R cl h us ds as
  | [], _, _, x, r => by
    cases x
    cases r
    exact ⟨_, ReadsAllW.nil⟩
  | d :: ds, _, _, x, r => by
    cases x with
    | cons h1 h2 =>
      cases r with
      | cons r1 r2 =>
        obtain ⟨as, q1⟩ := Dw.reads hok KX d _ _ h1 r1
        obtain ⟨bs, q2⟩ := Dw.readsAll hok KX ds _ _ h2 r2
        exact ⟨_, ReadsAllW.cons q1 q2⟩
end
end
mutual
/-- data that a codec tells -/
def plW : WData → Bool
  | .none => true
  | .bool _ => true
  | .int _ => true
  | .str _ => true
  | .bytes _ => true
  | .list xs => plWs xs
  | .tuple xs => plWs xs
  | _ => false
def plWs : List WData → Bool
  | [] => true
  | x :: r => plW x && plWs r
end
theorem plWs_map {α : Type} {f : α → WData} (h : ∀ a, plW (f a) = true) : ∀ l : List α, plWs (l.map f) = true
  | [] => rfl
  | x :: r => by
    show (plW (f x) && plWs (r.map f)) = true
    rw [h x, plWs_map h r] <;> rfl
theorem pl_enc : ∀ (c : Codec) (a : c.denote), plW (c.enc a) = true
  | .unit, _ => rfl
  | .bool, _ => rfl
  | .int _ _, _ => rfl
  | .nat _ _, _ => rfl
  | .u8, _ => rfl
  | .bytes _ _, _ => rfl
  | .text _ _ _ _, _ => rfl
  | .list _ _ c, a => plWs_map (fun x => pl_enc c x) a
  | .pair c d, a => by
    show (plW (c.enc a.1) && (plW (d.enc a.2) && true)) = true
    rw [pl_enc c a.1, pl_enc d a.2] <;> rfl
  | .triple c d e, a => by
    show (plW (c.enc a.1) && (plW (d.enc a.2.1) && (plW (e.enc a.2.2) && true))) = true
    rw [pl_enc c a.1, pl_enc d a.2.1, pl_enc e a.2.2] <;> rfl
  | .option c, none => rfl
  | .option c, some x => pl_enc c x
theorem pl_encAll : ∀ (cs : List Codec) (a : Codec.denoteAll cs), plWs (Codec.encAll cs a) = true
  | [], _ => rfl
  | c :: cs, a => by
    show (plW (c.enc a.1) && plWs (Codec.encAll cs a.2)) = true
    rw [pl_enc c a.1, pl_encAll cs a.2] <;> rfl
theorem weight_mem : ∀ {xs : List WData} {d : WData}, d ∈ xs → d.weight ≤ WData.weightAll xs
  | [], d, h => absurd h (by simp)
  | x :: r, d, h => by
    show d.weight ≤ x.weight + 1 + WData.weightAll r
    rcases List.mem_cons.mp h with e | m
    · rw [e]
      omega
    · have z := weight_mem m
      omega
def toV : Value → V
  | .none => .non
  | .bool b => .bl b
  | .int i _ => .int i
  | .str x _ => .str x
  | .bytes b _ => .byt b
  | .ref a => .ref a
  | _ => .non
def OkU (A : List Addr) : Value → Prop
  | .none => True
  | .bool _ => True
  | .int _ _ => True
  | .str _ _ => True
  | .bytes _ _ => True
  | .ref a => a ∈ A
  | _ => False
theorem OkU.mono {A B : List Addr} (h : ∀ a ∈ A, a ∈ B) : ∀ {u : Value}, OkU A u → OkU B u := fun {u} x => by
  cases u with
  | ref a => exact h a x
  | none => trivial
  | bool b => trivial
  | int i t => trivial
  | str s t => trivial
  | bytes b t => trivial
  | _ => exact False.elim x
theorem relV_toV {A : List Addr} {u : Value} (x : OkU A u) : RelV (toV u) u := by
  cases u with
  | ref a => rfl
  | none => rfl
  | bool b => rfl
  | int i t => exact ⟨t, rfl⟩
  | str s t => exact ⟨t, rfl⟩
  | bytes b t => exact ⟨t, rfl⟩
  | _ => exact False.elim x
theorem vals_toV {A : List Addr} : ∀ {vs : List Value}, (∀ u ∈ vs, OkU A u) → Vals (vs.map toV) vs
  | [], _ => .nil
  | u :: r, h => .cons (relV_toV (h u (List.mem_cons_self ..))) (vals_toV fun x hx => h x (List.mem_cons_of_mem _ hx))
def ArgOb (h : Heap) (A : List Addr) (a : Addr) : Prop := ∃ vs : List Value, vs.length ≤ sizeLine ∧ (∀ u ∈ vs, OkU A u) ∧
  (h.get? a = some { cls := .type "list", data := .seq vs.toArray } ∨ h.get? a = some { cls := .type "tuple", data := .seq vs.toArray })
theorem ArgOb.mono {h : Heap} {A B : List Addr} {a : Addr} (k : ∀ a ∈ A, a ∈ B) (x : ArgOb h A a) : ArgOb h B a := by
  obtain ⟨vs, h1, h2, h3⟩ := x
  exact ⟨vs, h1, fun u hu => (h2 u hu).mono k, h3⟩
theorem wellAll_len {P : Params} {h : Heap} : ∀ {vs : List Value} {ds : List WData}, WellAll P h vs ds → vs.length = ds.length
  | _, _, .nil => rfl
  | _, _, .cons _ b => by
    show _ + 1 = _ + 1
    rw [wellAll_len b]
theorem well_list {P : Params} {h : Heap} {v : Value} {ds : List WData} (x : Well P h v (.list ds)) : ∃ (a : Addr) (vs : List Value), v = .ref a ∧ h.get? a = some { cls := .type "list", data := .seq vs.toArray } ∧ WellAll P h vs ds := by
  cases x with
  | list ho hall => exact ⟨_, _, rfl, ho, hall⟩
theorem well_tuple {P : Params} {h : Heap} {v : Value} {ds : List WData} (x : Well P h v (.tuple ds)) : ∃ (a : Addr) (vs : List Value), v = .ref a ∧ h.get? a = some { cls := .type "tuple", data := .seq vs.toArray } ∧ WellAll P h vs ds := by
  cases x with
  | tuple ho hall => exact ⟨_, _, rfl, ho, hall⟩
theorem well_cons {P : Params} {h : Heap} {us : List Value} {d : WData} {ds : List WData} (x : WellAll P h us (d :: ds)) : ∃ (v : Value) (vs : List Value), us = v :: vs ∧ Well P h v d ∧ WellAll P h vs ds := by
  cases x with
  | cons a b => exact ⟨_, _, rfl, a, b⟩
theorem line_of {n : Nat} (h : n ≤ 1048576) : n ≤ sizeLine := Nat.le_trans h (by decide)
section
variable {P : Params} {h : Heap}
mutual
theorem area_one : ∀ (d : WData) (v : Value), Well P h v d → plW d = true → d.weight ≤ 1048576 → ∃ A : List Addr, OkU A v ∧ ∀ a ∈ A, ArgOb h A a
  | .none, _, x, _, _ => by
    cases x
    exact ⟨[], trivial, fun a m => absurd m (by simp)⟩
  | .bool b, _, x, _, _ => by
    cases x
    exact ⟨[], trivial, fun a m => absurd m (by simp)⟩
  | .int i, _, x, _, _ => by
    cases x
    exact ⟨[], trivial, fun a m => absurd m (by simp)⟩
  | .str s, _, x, _, _ => by
    cases x
    exact ⟨[], trivial, fun a m => absurd m (by simp)⟩
  | .bytes b, _, x, _, _ => by
    cases x
    exact ⟨[], trivial, fun a m => absurd m (by simp)⟩
  | .list ds, _, x, p, z => by
    obtain ⟨a, vs, rfl, ho, hall⟩ := well_list x
    have z2 : WData.weightAll ds ≤ 1048576 := z
    obtain ⟨A, h1, h2⟩ := area_all ds _ hall p fun d hd => Nat.le_trans (weight_mem hd) z2
    have k : ∀ b ∈ A, b ∈ a :: A := fun b hb => List.mem_cons_of_mem _ hb
    refine ⟨a :: A, List.mem_cons_self .., fun b hb => ?_⟩
    rcases List.mem_cons.mp hb with e | m
    · rw [e]
      exact ⟨vs, line_of (by rw [wellAll_len hall]; exact Nat.le_trans (PySem.W.length_le_weightAllW ds) z2), fun u hu => (h1 u hu).mono k, .inl ho⟩
    · exact (h2 b m).mono k
  | .tuple ds, _, x, p, z => by
    obtain ⟨a, vs, rfl, ho, hall⟩ := well_tuple x
    have z2 : WData.weightAll ds ≤ 1048576 := z
    obtain ⟨A, h1, h2⟩ := area_all ds _ hall p fun d hd => Nat.le_trans (weight_mem hd) z2
    have k : ∀ b ∈ A, b ∈ a :: A := fun b hb => List.mem_cons_of_mem _ hb
    refine ⟨a :: A, List.mem_cons_self .., fun b hb => ?_⟩
    rcases List.mem_cons.mp hb with e | m
    · rw [e]
      exact ⟨vs, line_of (by rw [wellAll_len hall]; exact Nat.le_trans (PySem.W.length_le_weightAllW ds) z2), fun u hu => (h1 u hu).mono k, .inr ho⟩
    · exact (h2 b m).mono k
  | .float _, _, _, p, _ => Bool.noConfusion (show false = true from p)
  | .dict _, _, _, p, _ => Bool.noConfusion (show false = true from p)
  | .bytearray _, _, _, p, _ => Bool.noConfusion (show false = true from p)
  | .set _, _, _, p, _ => Bool.noConfusion (show false = true from p)
  | .frozenset _, _, _, p, _ => Bool.noConfusion (show false = true from p)
  | .obj _ _, _, _, p, _ => Bool.noConfusion (show false = true from p)
theorem area_all : ∀ (ds : List WData) (vs : List Value), WellAll P h vs ds → plWs ds = true → (∀ d ∈ ds, d.weight ≤ 1048576) → ∃ A : List Addr, (∀ u ∈ vs, OkU A u) ∧ ∀ a ∈ A, ArgOb h A a
  | [], _, x, _, _ => by
    cases x
    exact ⟨[], fun u m => absurd m (by simp), fun a m => absurd m (by simp)⟩
  | d :: ds, _, x, p, z => by
    obtain ⟨v, vs, rfl, x1, x2⟩ := well_cons x
    have q : plW d = true ∧ plWs ds = true := Bool.and_eq_true_iff.mp p
    obtain ⟨A, a1, a2⟩ := area_one d v x1 q.1 (z d (List.mem_cons_self ..))
    obtain ⟨B, b1, b2⟩ := area_all ds vs x2 q.2 fun e he => z e (List.mem_cons_of_mem _ he)
    have kA : ∀ b ∈ A, b ∈ A ++ B := fun b hb => List.mem_append.mpr (.inl hb)
    have kB : ∀ b ∈ B, b ∈ A ++ B := fun b hb => List.mem_append.mpr (.inr hb)
    refine ⟨A ++ B, fun u hu => ?_, fun b hb => ?_⟩
    · rcases List.mem_cons.mp hu with e | m
      · rw [e]
        exact a1.mono kA
      · exact (b1 u m).mono kB
    · rcases List.mem_append.mp hb with m | m
      · exact (a2 b m).mono kA
      · exact (b2 b m).mono kB
end
end
def hoOf (o : Obj) : Option HO := match o.data with
  | .seq vs _ => if (o.cls == Value.type "list") = true then some (.frz o (.lst (vs.toList.map toV))) else some (.frz o (.tup (vs.toList.map toV)))
  | _ => none
def argH (K : PySem.W.Frag) (h : Heap) (A : List Addr) : Hp := fun b => if b ∈ A then (if (K.lookup b).isNone = true then (h.get? b).bind hoOf else none) else none
def OnlyF (H : Hp) : Prop := ∀ b, H b = none ∨ ∃ o u, H b = some (.frz o u)
theorem hoOf_lst (vs : List Value) : hoOf { cls := .type "list", data := .seq vs.toArray } = some (.frz { cls := .type "list", data := .seq vs.toArray } (.lst (vs.map toV))) := by
  show (if (Value.type "list" == Value.type "list") = true then some (HO.frz { cls := .type "list", data := .seq vs.toArray } (.lst (vs.toArray.toList.map toV))) else some (HO.frz { cls := .type "list", data := .seq vs.toArray } (.tup (vs.toArray.toList.map toV)))) = _
  rw [if_pos (beq_self_eq_true _)]
theorem hoOf_tup (vs : List Value) : hoOf { cls := .type "tuple", data := .seq vs.toArray } = some (.frz { cls := .type "tuple", data := .seq vs.toArray } (.tup (vs.map toV))) := by
  show (if (Value.type "tuple" == Value.type "list") = true then some (HO.frz { cls := .type "tuple", data := .seq vs.toArray } (.lst (vs.toArray.toList.map toV))) else some (HO.frz { cls := .type "tuple", data := .seq vs.toArray } (.tup (vs.toArray.toList.map toV)))) = _
  rw [if_neg (by decide)]
section
variable {P : Program} {w : World} {K : PySem.W.Frag} {h : Heap} {A : List Addr}
theorem argH_at {b : Addr} {o : Obj} (hb : b ∈ A) (hk : K.lookup b = none) (e : h.get? b = some o) : argH K h A b = hoOf o := by
  unfold argH
  rw [if_pos hb, hk, if_pos (show (none : Option Obj).isNone = true from rfl), e] <;> rfl
theorem of_argH {b : Addr} {u : HO} (q : argH K h A b = some u) : b ∈ A ∧ K.lookup b = none := by
  unfold argH at q
  by_cases hb : b ∈ A
  · rw [if_pos hb] at q
    cases hk : K.lookup b with
    | none => exact ⟨hb, rfl⟩
    | some o =>
      rw [hk, if_neg (by simp)] at q
      cases q
  · rw [if_neg hb] at q
    cases q
theorem argH_is (ar : ∀ a ∈ A, ArgOb h A a) {b : Addr} {u : HO} (q : argH K h A b = some u) : K.lookup b = none ∧ ∃ vs : List Value, vs.length ≤ sizeLine ∧ (∀ u ∈ vs, OkU A u) ∧
    ((h.get? b = some { cls := .type "list", data := .seq vs.toArray } ∧ u = .frz { cls := .type "list", data := .seq vs.toArray } (.lst (vs.map toV))) ∨
     (h.get? b = some { cls := .type "tuple", data := .seq vs.toArray } ∧ u = .frz { cls := .type "tuple", data := .seq vs.toArray } (.tup (vs.map toV)))) := by
  obtain ⟨hb, hk⟩ := of_argH q
  obtain ⟨vs, h1, h2, h3⟩ := ar b hb
  refine ⟨hk, vs, h1, h2, ?_⟩
  rcases h3 with e | e
  · rw [argH_at hb hk e, hoOf_lst] at q
    exact .inl ⟨e, (Option.some.inj q).symm⟩
  · rw [argH_at hb hk e, hoOf_tup] at q
    exact .inr ⟨e, (Option.some.inj q).symm⟩
theorem argH_only (ar : ∀ a ∈ A, ArgOb h A a) : OnlyF (argH K h A) := fun b => by
  cases q : argH K h A b with
  | none => exact .inl rfl
  | some u =>
    obtain ⟨_, vs, _, _, ⟨_, e⟩ | ⟨_, e⟩⟩ := argH_is ar q
    · exact .inr ⟨_, _, by rw [e]⟩
    · exact .inr ⟨_, _, by rw [e]⟩
theorem argH_ok (ar : ∀ a ∈ A, ArgOb h A a) : HOk P w (argH K h A) h := fun b u q => by
  obtain ⟨_, vs, h1, h2, ⟨e, rfl⟩ | ⟨e, rfl⟩⟩ := argH_is ar q
  · exact ⟨e, by rw [List.length_map]; exact h1, vs, _, vals_toV h2, e⟩
  · exact ⟨e, by rw [List.length_map]; exact h1, vs, vals_toV h2, _, e, rfl, _, rfl⟩
theorem seq_inj {c c' : Value} {vs us : List Value} (e : (some { cls := c, data := .seq vs.toArray } : Option Obj) = some { cls := c', data := .seq us.toArray }) : c = c' ∧ vs = us := by
  have e1 := Option.some.inj e
  have e2 : c = c' := congrArg Obj.cls e1
  have e3 : Data.seq vs.toArray = Data.seq us.toArray := congrArg Obj.data e1
  injection e3 with e4
  refine ⟨e2, ?_⟩
  have e5 := congrArg Array.toList e4
  simpa using e5
theorem argL (KX : K.In h) (ar : ∀ a ∈ A, ArgOb h A a) {a : Addr} {vs : List Value} (ha : a ∈ A) (e : h.get? a = some { cls := .type "list", data := .seq vs.toArray }) : (∀ u ∈ vs, OkU A u) ∧ SqL K (argH K h A) a (vs.map toV) := by
  obtain ⟨us, h1, h2, h3⟩ := ar a ha
  have hu : us = vs := by
    rcases h3 with q | q
    · rw [e] at q
      exact (seq_inj q).2.symm
    · rw [e] at q
      exact absurd (Value.type.inj (seq_inj q).1) (by decide)
  subst hu
  refine ⟨h2, ?_⟩
  cases hk : K.lookup a with
  | none => exact .inl (.inr ⟨_, by rw [argH_at ha hk e, hoOf_lst]⟩)
  | some o =>
    have e2 := KX a o hk
    rw [e] at e2
    obtain rfl := Option.some.inj e2
    exact .inr ⟨_, us.toArray, _, hk, rfl, rfl, rfl, by rw [List.size_toArray]; exact h1, by simpa using vals_toV h2⟩
theorem argT (KX : K.In h) (ar : ∀ a ∈ A, ArgOb h A a) {a : Addr} {vs : List Value} (ha : a ∈ A) (e : h.get? a = some { cls := .type "tuple", data := .seq vs.toArray }) : (∀ u ∈ vs, OkU A u) ∧ SqT K (argH K h A) a (vs.map toV) := by
  obtain ⟨us, h1, h2, h3⟩ := ar a ha
  have hu : us = vs := by
    rcases h3 with q | q
    · rw [e] at q
      exact absurd (Value.type.inj (seq_inj q).1) (by decide)
    · rw [e] at q
      exact (seq_inj q).2.symm
  subst hu
  refine ⟨h2, ?_⟩
  cases hk : K.lookup a with
  | none => exact .inl (.inr ⟨_, by rw [argH_at ha hk e, hoOf_tup]⟩)
  | some o =>
    have e2 := KX a o hk
    rw [e] at e2
    obtain rfl := Option.some.inj e2
    exact .inr ⟨_, us.toArray, _, hk, rfl, rfl, by rw [List.size_toArray]; exact h1, by simpa using vals_toV h2⟩
mutual
theorem dw_one {Pm : Params} (KX : K.In h) (ar : ∀ a ∈ A, ArgOb h A a) : ∀ (d : WData) (v : Value), Well Pm h v d → plW d = true → OkU A v → Dw K (argH K h A) (toV v) d
  | .none, _, x, _, _ => by
    cases x
    exact .non
  | .bool b, _, x, _, _ => by
    cases x
    exact .bl b
  | .int i, _, x, _, _ => by
    cases x
    exact .int i
  | .str s, _, x, _, _ => by
    cases x
    exact .str s
  | .bytes b, _, x, _, _ => by
    cases x
    have z := Dw.byt (K := K) (H := argH K h A) b.toArray
    exact z
  | .list ds, _, x, p, hu => by
    obtain ⟨a, vs, rfl, ho, hall⟩ := well_list x
    obtain ⟨h2, hs⟩ := argL KX ar hu ho
    exact .lst hs (dw_all KX ar ds _ hall p h2)
  | .tuple ds, _, x, p, hu => by
    obtain ⟨a, vs, rfl, ho, hall⟩ := well_tuple x
    obtain ⟨h2, hs⟩ := argT KX ar hu ho
    exact .tup hs (dw_all KX ar ds _ hall p h2)
  | .float _, _, _, p, _ => Bool.noConfusion (show false = true from p)
  | .dict _, _, _, p, _ => Bool.noConfusion (show false = true from p)
  | .bytearray _, _, _, p, _ => Bool.noConfusion (show false = true from p)
  | .set _, _, _, p, _ => Bool.noConfusion (show false = true from p)
  | .frozenset _, _, _, p, _ => Bool.noConfusion (show false = true from p)
  | .obj _ _, _, _, p, _ => Bool.noConfusion (show false = true from p)
theorem dw_all {Pm : Params} (KX : K.In h) (ar : ∀ a ∈ A, ArgOb h A a) : ∀ (ds : List WData) (vs : List Value), WellAll Pm h vs ds → plWs ds = true → (∀ u ∈ vs, OkU A u) → DwAll K (argH K h A) (vs.map toV) ds
  | [], _, x, _, _ => by
    cases x
    exact .nil
  | d :: ds, _, x, p, hu => by
    obtain ⟨v, vs, rfl, x1, x2⟩ := well_cons x
    have q : plW d = true ∧ plWs ds = true := Bool.and_eq_true_iff.mp p
    exact .cons (dw_one KX ar d v x1 q.1 (hu _ (List.mem_cons_self ..))) (dw_all KX ar ds vs x2 q.2 fun u m => hu u (List.mem_cons_of_mem _ m))
end
end
theorem spec_call {P : Program} {w : World} {K : PySem.W.Frag} {mg mb : Str → Option Value} {CX : CXT} {k : Nat} {fa : Addr} {fd : FuncData} {ps : List Str} {sp : Sp} {s₁ : Shared} {vals : List Value} {ds : List WData} {R : PySem.W.WRecords} {cl : Str → Option Addr} {d0 : WData}
    (KX : K.In s₁.heap) (hns : s₁.heap.Ns mainGlobals mg) (hb : s₁.heap.Ns builtinsNs mb) (hbb : ∀ x : Str, x ≠ "__name__" → mb x = bootBuiltins x) (hlim : s₁.heap.NoLimit) (hg : s₁.gens = #[])
    (hwl : WellAll w.params s₁.heap vals ds) (hpl : plWs ds = true) (hwt : ∀ d ∈ ds, d.weight ≤ 1048576) (hr : Room k callerA)
    (F : ∀ base : Heap, K.In base → base.Ns mainGlobals mg → FnOk P w K mg base CX k fa fd ps sp) (hbind : ∀ (s : Shared) (us : List Value), us.length = ps.length → BindsTo s fd ⟨us, []⟩ (ps.zip us)) (hlen : ds.length = ps.length)
    (hsp : ∀ (H : Hp) (xs : List V), OnlyF H → DwAll K H xs ds → sp xs H (fun v H' => Dw K H' v d0) fun _ _ _ => False)
    (hCX : ∀ H e s', CX [] H s₁ (fun _ _ _ => False) e s' → False) :
    codeAny (model P w) callerA (.call (.ref fa) ⟨vals, []⟩) (fun r s' => ∃ u as, r = .ok (.ret u) ∧ ReadsW R cl s'.heap u d0 as ∧ OldK s₁.heap s'.heap ∧ s'.os = s₁.os ∧ AllBare s'.gens) s₁ := by
  obtain ⟨A, ho, ar⟩ := area_all ds vals hwl hpl hwt
  have hO : OnlyF (argH K s₁.heap A) := argH_only ar
  have hok : HOk P w (argH K s₁.heap A) s₁.heap := argH_ok ar
  have hS := dw_all KX ar ds vals hwl hpl ho
  have hV := vals_toV ho
  have hK : ∀ b u, argH K s₁.heap A b = some u → K.lookup b = none := fun b u q => (argH_is ar q).1
  have noA : ∀ {b : Addr} {o : Obj} {es : Array DictEntry} {ep : Nat}, s₁.heap.get? b = some o → o.data = .dict es ep → argH K s₁.heap A b = none := fun {b o es ep} e d => by
    cases q : argH K s₁.heap A b with
    | none => rfl
    | some u =>
      obtain ⟨_, vs, _, _, ⟨e2, _⟩ | ⟨e2, _⟩⟩ := argH_is ar q
      · rw [e2] at e
        cases e
        have d' : Data.seq vs.toArray _ = Data.dict es ep := d
        cases d'
      · rw [e2] at e
        cases e
        have d' : Data.seq vs.toArray _ = Data.dict es ep := d
        cases d'
  generalize argH K s₁.heap A = H at hO hok hS hK noA
  have base_of : ∀ {b : Addr} {o : Obj}, s₁.heap.get? b = some o → H b = none → (hidT s₁.heap H).get? b = some o := fun e n => hidT_get e n
  have nsK : ∀ {b : Addr} {m : Str → Option Value}, s₁.heap.Ns b m → (hidT s₁.heap H).Ns b m := fun {b m} ⟨o, es, ep, e, d, r⟩ => ⟨o, es, ep, base_of e (noA e d), d, r⟩
  have nK : ∀ b o, K.lookup b = some o → H b = none := fun b o e => by
    cases q : H b with
    | none => rfl
    | some u =>
      rw [hK b u q] at e
      cases e
  have hKb : K.In (hidT s₁.heap H) := fun b o e => base_of (KX b o e) (nK b o e)
  have hM : Mod K mg (hidT s₁.heap H) := ⟨hKb, nsK hns, ⟨mb, nsK hb, hbb⟩, let ⟨mc, h1, h2⟩ := hlim; ⟨mc, nsK h1, h2⟩⟩
  have e0 : Env0 P w K mg (hidT s₁.heap H) callerA [] s₁ H := ⟨rfl, hM, fun b o e => of_hidT e, Nat.le_of_eq (hidT_size _ _), trivial, fun b hb => absurd (show b ∈ ([] : List Addr) from hb) (by simp), hok, .of_eq hg⟩
  have hl : vals.length = ps.length := by rw [wellAll_len hwl]; exact hlen
  refine codeAny_mono ((F _ hKb (nsK hns)).run callerA [] s₁ H ⟨vals, []⟩ vals (vals.map toV) _ _ hr e0 (hbind s₁ vals hl) hV (hsp H _ hO hS)) fun r s' x => ?_
  cases r with
  | error e => exact (hCX H e s' x).elim
  | ok fl =>
    cases fl with
    | next => exact False.elim x
    | brk => exact False.elim x
    | cont => exact False.elim x
    | ret u =>
      obtain ⟨v, H', os, bare, un, hok', r', q⟩ := x
      have kept : ∀ b o, s₁.heap.get? b = some o → s'.heap.get? b = some o := fun b o e => by
        cases q2 : H b with
        | none => exact un.keep b o e q2 (by intro z; exact absurd (show b ∈ ([] : List Addr) from z) (by simp)) (by simp)
        | some u2 =>
          rcases hO b with z | ⟨ob, u3, z⟩
          · rw [q2] at z
            cases z
          · have z2 := un.frzs b ob _ z
            obtain ⟨e1, _⟩ := hok b _ z
            obtain ⟨e2, _⟩ := hok' b _ z2
            rw [e] at e1
            cases e1
            exact e2
      have KX' : K.In s'.heap := fun b o e => kept b o (KX b o e)
      obtain ⟨as, hrd⟩ := Dw.reads (R := R) (cl := cl) hok' KX' d0 v u q r'
      exact ⟨u, as, rfl, hrd, OldK.of_keep kept, os, bare⟩
theorem layable_weight {ds : List WData} (h : WData.layableAll ds = true) : ∀ d ∈ ds, d.weight ≤ 1048576 := fun d hd =>
  (PySem.W.layableW_iff.mp (List.all_eq_true.mp h d hd)).2.2
theorem encAll_len : ∀ (cs : List Codec) (a : Codec.denoteAll cs), (Codec.encAll cs a).length = cs.length
  | [], _ => rfl
  | c :: cs, a => by
    show (Codec.encAll cs a.2).length + 1 = cs.length + 1
    rw [encAll_len cs a.2]
theorem walk_spec {r : OpenSpec} {k : Nat} {q : Program} {loose : List Str} {XP : (Str → Option Value) → Heap → Prop} {YP : World → Heap → Prop} {d : DefRec} {K : Params → PySem.W.Frag} {CX : World → CXT} {ps : List Str} {sp : World → Sp}
    (hwell : r.wellSaid = true) (hdf : d.params.defaults = []) (hlen : r.args.length = ps.length) (hr : Room k callerA)
    (hY : ∀ (w : World) (h : Heap), YP w h → (K w.params).In h)
    (F : ∀ (w : World) (mg : Str → Option Value) (fa : Addr) (h : Heap), YP w h → (K w.params).In h → h.Ns mainGlobals mg → mg d.name = some (.ref fa) →
      ∃ fd : FuncData, (∀ (s : Shared) (us : List Value), us.length = ps.length → BindsTo s fd ⟨us, []⟩ (ps.zip us)) ∧
        ∀ base : Heap, (K w.params).In base → base.Ns mainGlobals mg → FnOk r.prog w (K w.params) mg base (CX w) k fa fd ps (sp w))
    (hsp : ∀ (w : World) (H : Hp) (xs : List V) (a : Codec.denoteAll r.args), OnlyF H → Codec.withinAll r.args a = true → Codec.app r.args r.asked a = true → DwAll (K w.params) H xs (Codec.encAll r.args a) →
      sp w xs H (fun v H' => Dw (K w.params) H' v (r.ret.enc (Codec.app r.args r.f a))) fun _ _ _ => False)
    (hCX : ∀ (w : World) (H : Hp) (s : Shared) (e : Value) (s' : Shared), CX w [] H s (fun _ _ _ => False) e s' → False) :
    PySem.W.WalkOS q loose XP YP r d [] (fun f vs => PySem.call f vs) := by
  intro w s_0 s₁ mg mb G Y fa o pm cd doc dV kV ho hd hcd hD hmg hg args vals as hpre hlay hrd hwl hlo
  obtain ⟨a, e1, e2⟩ := PySem.W.os_pre_some hpre
  obtain ⟨e3, hwi⟩ := Codec.encAll_of_decAll r.args args a e1
  subst e3
  have KX := hY w _ Y
  obtain ⟨fd, hb, hF⟩ := F w mg fa _ Y KX G.T.g hmg
  refine PySem.W.enter_call (codeAny_mono (spec_call (R := []) (cl := classAt s_0.heap) (d0 := r.ret.enc (Codec.app r.args r.f a)) KX G.T.g G.T.b G.T.builtins G.T.nolimit hg hwl (pl_encAll _ _) (layable_weight hlay) hr hF hb (by rw [encAll_len]; exact hlen)
    (fun H xs hO hS => hsp w H xs a hO hwi e2 hS) fun H e s' => hCX w H s₁ e s') fun r' s' hq => ?_)
  obtain ⟨u, as', rfl, h1, h2, h3, h4⟩ := hq
  exact ⟨.inl ⟨u, _, as', rfl, fun _ => rfl, h1, (OpenSpec.post_iff hwell hwi _ _).mpr rfl, fun z => Bool.noConfusion (show false = true from z)⟩, h2, h3, h4⟩
theorem walk_specK {r : OpenSpec} {k : Nat} {q : Program} {loose : List Str} {XP : (Str → Option Value) → Heap → Prop} {YP : World → Heap → Prop} {d : DefRec} {K : Params → PySem.W.Frag} {CX : CXT} {ps : List Str} {sp : PySem.W.Frag → Sp}
    (hwell : r.wellSaid = true) (hdf : d.params.defaults = []) (hlen : r.args.length = ps.length) (hr : Room k callerA)
    (hY : ∀ (w : World) (h : Heap), YP w h → (K w.params).In h)
    (F : ∀ (w : World) (mg : Str → Option Value) (fa : Addr) (h : Heap), YP w h → (K w.params).In h → h.Ns mainGlobals mg → mg d.name = some (.ref fa) →
      ∃ fd : FuncData, (∀ (s : Shared) (us : List Value), us.length = ps.length → BindsTo s fd ⟨us, []⟩ (ps.zip us)) ∧
        ∀ base : Heap, (K w.params).In base → base.Ns mainGlobals mg → FnOk r.prog w (K w.params) mg base CX k fa fd ps (sp (K w.params)))
    (hsp : ∀ (K : PySem.W.Frag) (H : Hp) (xs : List V) (a : Codec.denoteAll r.args), OnlyF H → Codec.withinAll r.args a = true → Codec.app r.args r.asked a = true → DwAll K H xs (Codec.encAll r.args a) →
      sp K xs H (fun v H' => Dw K H' v (r.ret.enc (Codec.app r.args r.f a))) fun _ _ _ => False)
    (hCX : ∀ (H : Hp) (s : Shared) (e : Value) (s' : Shared), CX [] H s (fun _ _ _ => False) e s' → False) :
    PySem.W.WalkOS q loose XP YP r d [] (fun f vs => PySem.call f vs) :=
  walk_spec (K := K) (CX := fun _ => CX) (sp := fun w => sp (K w.params)) hwell hdf hlen hr hY F (fun w H xs a h1 h2 h3 h4 => hsp (K w.params) H xs a h1 h2 h3 h4) fun _ H s e s' => hCX H s e s'
end L2
-- rests on (row put in by the clerk, for the bench that shows a file only what it spells): KE.SpHead KE.OsShapes
end


-- Math
set_option linter.all false
namespace TbM
open Kp188

/-! ### sorted lists -/
theorem sorted_ext : ∀ {l m : List Nat}, l.Pairwise (· < ·) → m.Pairwise (· < ·) → (∀ x, x ∈ l ↔ x ∈ m) → l = m
  | [], [], _, _, _ => rfl
  | [], b :: m, _, _, h => by have := (h b).mpr (List.mem_cons_self ..); simp at this
  | a :: l, [], _, _, h => by have := (h a).mp (List.mem_cons_self ..); simp at this
  | a :: l, b :: m, hl, hm, h => by
    have hl' := List.pairwise_cons.mp hl
    have hm' := List.pairwise_cons.mp hm
    have e : a = b := by
      have h1 := (h a).mp (List.mem_cons_self ..)
      have h2 := (h b).mpr (List.mem_cons_self ..)
      rcases List.mem_cons.mp h1 with e | h1
      · exact e
      · rcases List.mem_cons.mp h2 with e | h2
        · exact e.symm
        · have := hm'.1 a h1
          have := hl'.1 b h2
          omega
    subst e
    rw [sorted_ext hl'.2 hm'.2 fun x => ?_]
    constructor
    · intro hx
      rcases List.mem_cons.mp ((h x).mp (List.mem_cons_of_mem _ hx)) with e | h3
      · have := hl'.1 x hx
        omega
      · exact h3
    · intro hx
      rcases List.mem_cons.mp ((h x).mpr (List.mem_cons_of_mem _ hx)) with e | h3
      · have := hm'.1 x hx
        omega
      · exact h3
theorem sorted_filter_range (n : Nat) (p : Nat → Bool) : ((List.range n).filter p).Pairwise (· < ·) := List.Pairwise.filter p List.pairwise_lt_range
theorem rising_sorted (n : Nat) (l : List Nat) : (rising n l).Pairwise (· < ·) := sorted_filter_range n _
theorem mem_rising {n : Nat} {l : List Nat} {x : Nat} : x ∈ rising n l ↔ x < n ∧ x ∈ l := by
  unfold rising
  rw [List.mem_filter, List.mem_range, List.contains_iff_mem]

/-! ### what feeds a cell -/
def setsC (l : List Done) (c m : Nat) : Bool := match l[m]? with
  | some d => d.there && d.step.sets.contains c
  | none => false
def addsC (l : List Done) (c m : Nat) : Bool := match l[m]? with
  | some d => d.there && d.step.adds.contains c
  | none => false
def F (l : List Done) (c n : Nat) : List Nat := feeds c (before l n) []
theorem feeds_snoc (c : Nat) : ∀ (xs : List (Nat × Step)) (x : Nat × Step) (acc : List Nat), feeds c (xs ++ [x]) acc = if x.2.sets.contains c then [x.1] else if x.2.adds.contains c then feeds c xs acc ++ [x.1] else feeds c xs acc
  | [], x, acc => by
    show feeds c [x] acc = _
    unfold feeds
    split
    · rfl
    · split <;> rfl
  | y :: xs, x, acc => by
    show feeds c (y :: (xs ++ [x])) acc = _
    conv => lhs; unfold feeds
    conv => rhs; unfold feeds
    split
    · exact feeds_snoc c xs x _
    · split
      · exact feeds_snoc c xs x _
      · exact feeds_snoc c xs x _
theorem numbered_snoc : ∀ (l : List Done) (k : Nat) (d : Done), numbered k (l ++ [d]) = numbered k l ++ (if d.there then [(k + l.length, d.step)] else [])
  | [], k, d => by
    show numbered k [d] = _
    unfold numbered numbered
    split <;> simp
  | e :: l, k, d => by
    show numbered k (e :: (l ++ [d])) = _
    have ih := numbered_snoc l (k + 1) d
    have e1 : k + 1 + l.length = k + (e :: l).length := by simp; omega
    rw [e1] at ih
    conv => lhs; unfold numbered
    conv => rhs; unfold numbered
    split
    · rw [ih]; rfl
    · exact ih
theorem take_snoc {α : Type} : ∀ {l : List α} {i : Nat} {x : α}, l[i]? = some x → l.take (i + 1) = l.take i ++ [x]
  | [], i, x, h => by simp at h
  | a :: l, 0, x, h => by
    have e : a = x := Option.some.inj h
    subst e
    rfl
  | a :: l, i + 1, x, h => by
    have ih := take_snoc (l := l) (i := i) (x := x) h
    show a :: l.take (i + 1) = a :: l.take i ++ [x]
    rw [ih]
    rfl
theorem before_succ {l : List Done} {n : Nat} {d : Done} (h : l[n]? = some d) : before l (n + 1) = before l n ++ (if d.there then [(n, d.step)] else []) := by
  unfold before
  have hn : n < l.length := (List.getElem?_eq_some_iff.mp h).1
  rw [take_snoc h, numbered_snoc, List.length_take, Nat.zero_add, Nat.min_eq_left (Nat.le_of_lt hn)]
theorem F_zero (l : List Done) (c : Nat) : F l c 0 = [] := by
  unfold F before
  rfl
theorem setsC_of {l : List Done} {c n : Nat} {d : Done} (h : l[n]? = some d) : setsC l c n = (d.there && d.step.sets.contains c) := by
  unfold setsC
  rw [h]
theorem addsC_of {l : List Done} {c n : Nat} {d : Done} (h : l[n]? = some d) : addsC l c n = (d.there && d.step.adds.contains c) := by
  unfold addsC
  rw [h]
theorem F_succ {l : List Done} {n : Nat} (c : Nat) (h : n < l.length) : F l c (n + 1) = if setsC l c n then [n] else if addsC l c n then F l c n ++ [n] else F l c n := by
  obtain ⟨d, hd⟩ : ∃ d, l[n]? = some d := ⟨_, List.getElem?_eq_getElem h⟩
  rw [setsC_of hd, addsC_of hd]
  unfold F
  rw [before_succ hd]
  by_cases ht : d.there = true
  · rw [if_pos ht, feeds_snoc, ht, Bool.true_and, Bool.true_and]
  · rw [if_neg ht, Bool.eq_false_iff.mpr ht, Bool.false_and, Bool.false_and, List.append_nil]
    rfl
theorem F_all (l : List Done) (c : Nat) : feeds c (numbered 0 l) [] = F l c l.length := by
  unfold F before
  rw [List.take_length]
theorem mem_F {l : List Done} {c k : Nat} : ∀ {n : Nat}, n ≤ l.length → (k ∈ F l c n ↔ k < n ∧ (setsC l c k = true ∨ addsC l c k = true) ∧ ∀ m, k < m → m < n → setsC l c m = false)
  | 0, _ => by
    rw [F_zero]
    simp
  | n + 1, h => by
    rw [F_succ c h]
    have ih := mem_F (l := l) (c := c) (k := k) (n := n) (by omega)
    by_cases hs : setsC l c n = true
    · rw [if_pos hs]
      constructor
      · intro hk
        have : k = n := by simpa using hk
        subst this
        exact ⟨by omega, .inl hs, fun m h1 h2 => by omega⟩
      · rintro ⟨h1, h2, h3⟩
        have : ¬ k < n := fun q => by
          have := h3 n q (by omega)
          rw [hs] at this
          cases this
        have : k = n := by omega
        simp [this]
    · rw [if_neg hs]
      have hs' : setsC l c n = false := by simpa using hs
      by_cases ha : addsC l c n = true
      · rw [if_pos ha, List.mem_append, ih]
        constructor
        · rintro (⟨h1, h2, h3⟩ | hk)
          · refine ⟨by omega, h2, fun m h4 h5 => ?_⟩
            by_cases e : m = n
            · rw [e]; exact hs'
            · exact h3 m h4 (by omega)
          · have : k = n := by simpa using hk
            subst this
            exact ⟨by omega, .inr ha, fun m h1 h2 => by omega⟩
        · rintro ⟨h1, h2, h3⟩
          by_cases e : k = n
          · exact .inr (by simp [e])
          · exact .inl ⟨by omega, h2, fun m h4 h5 => h3 m h4 (by omega)⟩
      · rw [if_neg ha, ih]
        have ha' : addsC l c n = false := by simpa using ha
        constructor
        · rintro ⟨h1, h2, h3⟩
          refine ⟨by omega, h2, fun m h4 h5 => ?_⟩
          by_cases e : m = n
          · rw [e]; exact hs'
          · exact h3 m h4 (by omega)
        · rintro ⟨h1, h2, h3⟩
          by_cases e : k = n
          · subst e
            rw [hs', ha'] at h2
            rcases h2 with q | q <;> cases q
          · exact ⟨by omega, h2, fun m h4 h5 => h3 m h4 (by omega)⟩
theorem F_sorted {l : List Done} (c : Nat) : ∀ {n : Nat}, n ≤ l.length → (F l c n).Pairwise (· < ·)
  | 0, _ => by rw [F_zero]; exact .nil
  | n + 1, h => by
    rw [F_succ c h]
    split
    · simp
    · split
      · rw [List.pairwise_append]
        refine ⟨F_sorted c (by omega), by simp, fun a ha b hb => ?_⟩
        have : b = n := by simpa using hb
        have := (mem_F (l := l) (c := c) (n := n) (by omega)).mp ha
        omega
      · exact F_sorted c (by omega)

/-! ### what hangs on what -/
theorem hangs_of {l : List Done} {n : Nat} {d : Done} (h : l[n]? = some d) : hangs l n = rising STEPS (d.step.reads.flatMap fun c => F l c n) := by
  unfold hangs
  rw [h]
  rfl
theorem hangs_sorted (l : List Done) (n : Nat) : (hangs l n).Pairwise (· < ·) := by
  unfold hangs
  split
  · exact rising_sorted _ _
  · exact .nil
theorem mem_hangs {l : List Done} {n k : Nat} {d : Done} (h : l[n]? = some d) (hl : l.length ≤ STEPS) : k ∈ hangs l n ↔ ∃ c, c ∈ d.step.reads ∧ k ∈ F l c n := by
  have hn : n < l.length := (List.getElem?_eq_some_iff.mp h).1
  rw [hangs_of h, mem_rising, List.mem_flatMap]
  constructor
  · rintro ⟨_, c, h1, h2⟩
    exact ⟨c, h1, h2⟩
  · rintro ⟨c, h1, h2⟩
    have := (mem_F (Nat.le_of_lt hn)).mp h2
    exact ⟨by omega, c, h1, h2⟩
theorem hangs_lt {l : List Done} {n k : Nat} (hl : l.length ≤ STEPS) (hk : k ∈ hangs l n) : k < n ∧ n < l.length := by
  cases h : l[n]? with
  | none =>
    unfold hangs at hk
    rw [h] at hk
    cases hk
  | some d =>
    have hn : n < l.length := (List.getElem?_eq_some_iff.mp h).1
    obtain ⟨c, _, h2⟩ := (mem_hangs h hl).mp hk
    exact ⟨((mem_F (Nat.le_of_lt hn)).mp h2).1, hn⟩

/-! ### marks -/
theorem mark_get (l : List Done) (ns : List Nat) (b : Bool) (k : Nat) : (mark l ns b)[k]? = (l[k]?).map fun d => if ns.contains k then { d with there := b } else d := by
  unfold mark
  rw [List.getElem?_map]
  by_cases h : k < l.length
  · rw [List.getElem?_range h]
    obtain ⟨d, hd⟩ : ∃ d, l[k]? = some d := ⟨_, List.getElem?_eq_getElem h⟩
    rw [hd, Option.map_some, Option.map_some, hd]
  · rw [List.getElem?_eq_none (by simpa using h), List.getElem?_eq_none (by simpa using h)]
    rfl
theorem mark_length (l : List Done) (ns : List Nat) (b : Bool) : (mark l ns b).length = l.length := by
  unfold mark
  simp
theorem mark_one {l : List Done} {n : Nat} {d : Done} (h : l[n]? = some d) (b : Bool) : mark l [n] b = l.set n { d with there := b } := by
  apply List.ext_getElem?
  intro k
  have hn : n < l.length := (List.getElem?_eq_some_iff.mp h).1
  rw [mark_get, List.getElem?_set]
  by_cases e : n = k
  · subst e
    rw [h, if_pos rfl, if_pos hn]
    simp
  · rw [if_neg e]
    have : ([n].contains k) = false := by simp; omega
    simp only [this]
    cases l[k]? <;> rfl
theorem mark_id {l : List Done} {n : Nat} {d : Done} (h : l[n]? = some d) {b : Bool} (hb : d.there = b) : mark l [n] b = l := by
  rw [mark_one h]
  apply List.ext_getElem?
  intro k
  rw [List.getElem?_set]
  split
  · rename_i e
    subst e
    split
    · rw [h, ← hb]
    · rename_i q
      exact absurd (List.getElem?_eq_some_iff.mp h).1 q
  · rfl
theorem same_iff : ∀ {a b : List Nat}, same a b = true ↔ a = b
  | [], [] => by simp [same]
  | [], y :: b => by simp [same]
  | x :: a, [] => by simp [same]
  | x :: a, y :: b => by
    have ih := same_iff (a := a) (b := b)
    unfold same at ih ⊢
    simp only [List.length_cons, List.zip_cons_cons, List.all_cons, Bool.and_eq_true, beq_iff_eq, List.cons.injEq] at ih ⊢
    constructor
    · rintro ⟨h1, h2, h3⟩
      exact ⟨h2, ih.mp ⟨by omega, h3⟩⟩
    · rintro ⟨h1, h2⟩
      have := ih.mpr h2
      exact ⟨by omega, h1, this.2⟩

/-! ### those that hang on a step, by one walk upwards -/
/-- no step there between n and t sets c -/
def noSet (l : List Done) (c n t : Nat) : Bool := (List.range t).all fun m => decide (m ≤ n) || !setsC l c m
theorem noSet_iff {l : List Done} {c n t : Nat} : noSet l c n t = true ↔ ∀ m, n < m → m < t → setsC l c m = false := by
  unfold noSet
  rw [List.all_eq_true]
  constructor
  · intro h m h1 h2
    have := h m (List.mem_range.mpr h2)
    simp only [Bool.or_eq_true, decide_eq_true_eq, Bool.not_eq_true'] at this
    rcases this with q | q
    · omega
    · exact q
  · intro h m hm
    have hm' := List.mem_range.mp hm
    simp only [Bool.or_eq_true, decide_eq_true_eq, Bool.not_eq_true']
    by_cases q : m ≤ n
    · exact .inl q
    · exact .inr (h m (by omega) hm')
/-- t is there, behind n, and reads a cell of fed that nothing there between n and t sets -/
def hit (l : List Done) (fed : List Nat) (n t : Nat) : Bool := match l[t]? with
  | some d => decide (n < t) && (d.there && d.step.reads.any fun c => fed.contains c && noSet l c n t)
  | none => false
def hits (l : List Done) (fed : List Nat) (n : Nat) : List Nat := (List.range l.length).filter (hit l fed n)
/-- what a step sets and adds to -/
def fedOf (s : Step) : List Nat := s.sets ++ s.adds
theorem setsC_set {l : List Done} {n : Nat} {d : Done} {b : Bool} {c m : Nat} (h : m ≠ n) : setsC (l.set n { d with there := b }) c m = setsC l c m := by
  unfold setsC
  rw [List.getElem?_set_ne (fun q => h q.symm)]
theorem addsC_set {l : List Done} {n : Nat} {d : Done} {b : Bool} {c m : Nat} (h : m ≠ n) : addsC (l.set n { d with there := b }) c m = addsC l c m := by
  unfold addsC
  rw [List.getElem?_set_ne (fun q => h q.symm)]
theorem before_set {l : List Done} {n t : Nat} {e : Done} (h : t ≤ n) : before (l.set n e) t = before l t := by
  unfold before
  rw [List.take_set_of_le h]
theorem hangs_set {l : List Done} {n : Nat} {d : Done} {b : Bool} (h : l[n]? = some d) : hangs (l.set n { d with there := b }) n = hangs l n := by
  have hn : n < l.length := (List.getElem?_eq_some_iff.mp h).1
  unfold hangs
  rw [List.getElem?_set_self hn, h]
  dsimp only
  rw [before_set (Nat.le_refl n)]
theorem hanging_hits {l : List Done} {n : Nat} {d : Done} (h : l[n]? = some d) (hl : l.length ≤ STEPS) : hanging (mark l [n] true) n = hits l (fedOf d.step) n := by
  have hn : n < l.length := (List.getElem?_eq_some_iff.mp h).1
  rw [mark_one h]
  unfold hanging hits
  rw [List.length_set]
  apply List.filter_congr
  intro t ht
  have ht' : t < l.length := List.mem_range.mp ht
  generalize hm : l.set n { d with there := true } = m
  have hml : m.length ≤ STEPS := by rw [← hm, List.length_set]; exact hl
  obtain ⟨e, he⟩ : ∃ e, l[t]? = some e := ⟨_, List.getElem?_eq_getElem ht'⟩
  by_cases hnt : n < t
  · have he2 : m[t]? = some e := by rw [← hm, List.getElem?_set_ne (by omega)]; exact he
    have ht2 : t < m.length := (List.getElem?_eq_some_iff.mp he2).1
    have e1 : isThere m t = e.there := by unfold isThere; rw [he2]
    unfold hit
    rw [he, e1]
    dsimp only
    rw [decide_eq_true hnt, Bool.true_and]
    congr 1
    rw [Bool.eq_iff_iff, List.contains_iff_mem, mem_hangs he2 hml, List.any_eq_true]
    have key : ∀ c, n ∈ F m c t ↔ ((fedOf d.step).contains c && noSet l c n t) = true := by
      intro c
      rw [mem_F (Nat.le_of_lt ht2), Bool.and_eq_true, noSet_iff, List.contains_iff_mem]
      have s1 : setsC m c n = d.step.sets.contains c := by
        rw [← hm]; unfold setsC; rw [List.getElem?_set_self hn]; rfl
      have s2 : addsC m c n = d.step.adds.contains c := by
        rw [← hm]; unfold addsC; rw [List.getElem?_set_self hn]; rfl
      rw [s1, s2, List.contains_iff_mem, List.contains_iff_mem]
      unfold fedOf
      rw [List.mem_append]
      constructor
      · rintro ⟨_, h2, h3⟩
        refine ⟨h2, fun k h4 h5 => ?_⟩
        have := h3 k h4 h5
        rw [← hm, setsC_set (by omega)] at this
        exact this
      · rintro ⟨h2, h3⟩
        refine ⟨hnt, h2, fun k h4 h5 => ?_⟩
        rw [← hm, setsC_set (by omega)]
        exact h3 k h4 h5
    constructor
    · rintro ⟨c, h1, h2⟩
      exact ⟨c, h1, (key c).mp h2⟩
    · rintro ⟨c, h1, h2⟩
      exact ⟨c, h1, (key c).mpr h2⟩
  · unfold hit
    rw [he, decide_eq_false hnt]
    simp only [Bool.false_and]
    rw [Bool.and_eq_false_iff]
    right
    rw [Bool.eq_false_iff]
    intro q
    have := (hangs_lt hml (List.contains_iff_mem.mp q)).1
    omega
theorem hanging_there {l : List Done} {n : Nat} {d : Done} (h : l[n]? = some d) (ht : d.there = true) (hl : l.length ≤ STEPS) : hanging l n = hits l (fedOf d.step) n := by
  rw [← hanging_hits h hl, mark_id h ht]
theorem mem_hanging {l : List Done} {n t : Nat} : t ∈ hanging l n ↔ t < l.length ∧ isThere l t = true ∧ n ∈ hangs l t := by
  unfold hanging
  rw [List.mem_filter, List.mem_range, Bool.and_eq_true, List.contains_iff_mem]

/-! ### with all that hang on it -/
theorem above_is (l : List Done) (hl : l.length ≤ STEPS) : ∀ (cnt k : Nat) (s : List Nat), s.Pairwise (· < ·) → (∀ x ∈ s, x < k) →
    (above l cnt k s).Pairwise (· < ·) ∧ (∀ x, x < k → (x ∈ above l cnt k s ↔ x ∈ s)) ∧ (∀ x, x ∈ above l cnt k s → x < k + cnt) ∧
    ∀ x, k ≤ x → x < k + cnt → (x ∈ above l cnt k s ↔ isThere l x = true ∧ ∃ j, j ∈ hangs l x ∧ j ∈ above l cnt k s)
  | 0, k, s, hs, hk => by
    unfold above
    exact ⟨hs, fun x _ => Iff.rfl, fun x hx => by have := hk x hx; omega, fun x h1 h2 => by omega⟩
  | cnt + 1, k, s, hs, hk => by
    have hcase : ∃ s', above l (cnt + 1) k s = above l cnt (k + 1) s' ∧ s'.Pairwise (· < ·) ∧ (∀ x ∈ s', x < k + 1) ∧ (∀ x, x < k → (x ∈ s' ↔ x ∈ s)) ∧ (k ∈ s' ↔ isThere l k = true ∧ ∃ j, j ∈ hangs l k ∧ j ∈ s) := by
      by_cases c : (isThere l k && (hangs l k).any s.contains) = true
      · refine ⟨s ++ [k], by conv => lhs; unfold above; rw [if_pos c], ?_, ?_, ?_, ?_⟩
        · rw [List.pairwise_append]
          exact ⟨hs, by simp, fun a ha b hb => by have : b = k := by simpa using hb
                                                  have := hk a ha
                                                  omega⟩
        · intro x hx
          rcases List.mem_append.mp hx with q | q
          · have := hk x q; omega
          · have : x = k := by simpa using q
            omega
        · intro x hx
          rw [List.mem_append]
          constructor
          · rintro (q | q)
            · exact q
            · have : x = k := by simpa using q
              omega
          · exact .inl
        · rw [Bool.and_eq_true, List.any_eq_true] at c
          obtain ⟨c1, j, c2, c3⟩ := c
          exact ⟨fun _ => ⟨c1, j, c2, List.contains_iff_mem.mp c3⟩, fun _ => by simp⟩
      · refine ⟨s, by conv => lhs; unfold above; rw [if_neg c], hs, fun x hx => by have := hk x hx; omega, fun x _ => Iff.rfl, ?_⟩
        constructor
        · intro q
          have := hk k q
          omega
        · rintro ⟨c1, j, c2, c3⟩
          refine absurd ?_ c
          rw [Bool.and_eq_true, List.any_eq_true]
          exact ⟨c1, j, c2, List.contains_iff_mem.mpr c3⟩
    obtain ⟨s', e, h1, h2, h3, h4⟩ := hcase
    obtain ⟨i1, i2, i3, i4⟩ := above_is l hl cnt (k + 1) s' h1 h2
    rw [e]
    refine ⟨i1, fun x hx => (i2 x (by omega)).trans (h3 x hx), fun x hx => by have := i3 x hx; omega, fun x hx1 hx2 => ?_⟩
    by_cases q : x = k
    · subst q
      rw [i2 x (by omega), h4]
      constructor
      · rintro ⟨a, j, b, c⟩
        have := hk j c
        exact ⟨a, j, b, (i2 j (by omega)).mpr ((h3 j this).mpr c)⟩
      · rintro ⟨a, j, b, c⟩
        have := (hangs_lt hl b).1
        exact ⟨a, j, b, (h3 j this).mp ((i2 j (by omega)).mp c)⟩
    · exact i4 x (by omega) (by omega)
/-- a step and all that hang on it, by however many -/
def aboveAll (l : List Done) (n : Nat) : List Nat := above l (l.length - n - 1) (n + 1) [n]
theorem aboveAll_sorted {l : List Done} (n : Nat) (hl : l.length ≤ STEPS) : (aboveAll l n).Pairwise (· < ·) :=
  (above_is l hl _ _ [n] (by simp) (by simp)).1
theorem mem_aboveAll {l : List Done} {n x : Nat} (hn : n < l.length) (hl : l.length ≤ STEPS) : x ∈ aboveAll l n ↔ x = n ∨ (n < x ∧ x < l.length ∧ isThere l x = true ∧ ∃ j, j ∈ hangs l x ∧ j ∈ aboveAll l n) := by
  obtain ⟨i1, i2, i3, i4⟩ := above_is l hl (l.length - n - 1) (n + 1) [n] (by simp) (by simp)
  constructor
  · intro hx
    have b := i3 x hx
    by_cases q : x < n + 1
    · exact .inl (by simpa using (i2 x q).mp hx)
    · have := (i4 x (by omega) b).mp hx
      exact .inr ⟨by omega, by omega, this⟩
  · rintro (q | ⟨h1, h2, h3⟩)
    · subst q
      exact (i2 x (by omega)).mpr (by simp)
    · exact (i4 x (by omega) (by omega)).mpr h3
theorem aboveAll_lt {l : List Done} {n x : Nat} (hn : n < l.length) (hl : l.length ≤ STEPS) (hx : x ∈ aboveAll l n) : n ≤ x ∧ x < l.length := by
  rcases (mem_aboveAll hn hl).mp hx with q | q
  · omega
  · omega
theorem aboveAll_there {l : List Done} {n x : Nat} {d : Done} (h : l[n]? = some d) (ht : d.there = true) (hl : l.length ≤ STEPS) (hx : x ∈ aboveAll l n) : isThere l x = true := by
  have hn : n < l.length := (List.getElem?_eq_some_iff.mp h).1
  rcases (mem_aboveAll hn hl).mp hx with q | q
  · subst q
    unfold isThere
    rw [h]
    exact ht
  · exact q.2.2.1

/-! ### from which a cell's value comes -/
theorem sources_is (l : List Done) (hl : l.length ≤ STEPS) : ∀ (n : Nat) (s : List Nat), ∀ x, x ∈ sources l n s ↔ x ∈ s ∨ ∃ j, j < n ∧ j ∈ sources l n s ∧ x ∈ hangs l j
  | 0, s, x => by
    unfold sources
    constructor
    · exact .inl
    · rintro (h | ⟨j, h, _⟩)
      · exact h
      · omega
  | n + 1, s, x => by
    by_cases c : s.contains n = true
    · have e : sources l (n + 1) s = sources l n (s ++ hangs l n) := by conv => lhs; unfold sources; rw [if_pos c]
      rw [e, sources_is l hl n (s ++ hangs l n) x, List.mem_append]
      have nm : n ∈ sources l n (s ++ hangs l n) := (sources_is l hl n (s ++ hangs l n) n).mpr (.inl (List.mem_append.mpr (.inl (List.contains_iff_mem.mp c))))
      constructor
      · rintro ((h | h) | ⟨j, h1, h2, h3⟩)
        · exact .inl h
        · exact .inr ⟨n, by omega, nm, h⟩
        · exact .inr ⟨j, by omega, h2, h3⟩
      · rintro (h | ⟨j, h1, h2, h3⟩)
        · exact .inl (.inl h)
        · by_cases q : j = n
          · subst q
            exact .inl (.inr h3)
          · exact .inr ⟨j, by omega, h2, h3⟩
    · have e : sources l (n + 1) s = sources l n s := by conv => lhs; unfold sources; rw [if_neg c]
      rw [e, sources_is l hl n s x]
      constructor
      · rintro (h | ⟨j, h1, h2, h3⟩)
        · exact .inl h
        · exact .inr ⟨j, by omega, h2, h3⟩
      · rintro (h | ⟨j, h1, h2, h3⟩)
        · exact .inl h
        · by_cases q : j = n
          · subst q
            rcases (sources_is l hl j s j).mp h2 with q | ⟨i, q1, _, q3⟩
            · exact absurd (List.contains_iff_mem.mpr q) c
            · have := (hangs_lt hl q3).1
              omega
          · exact .inr ⟨j, by omega, h2, h3⟩

/-! ### what is in the cells -/
theorem cellsOf_nil : cellsOf [] = empty := rfl
theorem cellsOf_succ {l : List Done} {n : Nat} {d : Done} (h : l[n]? = some d) : cellsOf (l.take (n + 1)) = if d.there then d.step.does (cellsOf (l.take n)) else cellsOf (l.take n) := by
  unfold cellsOf play
  rw [take_snoc h, numbered_snoc]
  cases d.there with
  | false => simp
  | true => simp [List.foldl_append]
end TbM

-- Dec
set_option linter.all false
namespace TbM
open PyKp188 PyFlat

theorem whole_id (c : List (List Int)) : whole c = c := by
  unfold whole
  split <;> rfl
theorem map_whole (cs : List (List (List Int))) : cs.map whole = cs := by
  have : whole = id := funext whole_id
  rw [this, List.map_id]
theorem calls_of {l : List Int} {cs : List (List (List Int))} (h : PyKp188.calls l = some cs) : PyFlat.calls shape l.length l = some cs := by
  unfold PyKp188.calls at h
  split at h
  · cases h
  · rename_i cs' e
    rw [map_whole] at h
    rw [e]
    exact h
/-- how many numbers a call has behind its own -/
def given (p : Int) : Nat := if p = 0 then 0 else if p = 1 then 6 else if p ≤ 4 then 2 else 1
theorem shape_given {p : Int} {n k : Nat} (h : shape p = some (n, k)) : n = given p ∧ k = 0 ∧ 0 ≤ p ∧ p ≤ 8 := by
  unfold shape at h
  unfold given
  split at h
  · have := Option.some.inj h; simp at this; subst_vars; simp [this.1.symm, this.2.symm]
  split at h
  · have := Option.some.inj h; simp at this; subst_vars; simp [this.1.symm, this.2.symm]
  split at h
  · have := Option.some.inj h; simp at this; subst_vars; simp [this.1.symm, this.2.symm]
  split at h
  · have := Option.some.inj h; simp at this; subst_vars; simp [this.1.symm, this.2.symm]
  split at h
  · have := Option.some.inj h; simp at this; subst_vars; simp [this.1.symm, this.2.symm]
  split at h
  · have := Option.some.inj h; simp at this; subst_vars; simp [this.1.symm, this.2.symm]
  split at h
  · have := Option.some.inj h; simp at this; subst_vars; simp [this.1.symm, this.2.symm]
  split at h
  · have := Option.some.inj h; simp at this; subst_vars; simp [this.1.symm, this.2.symm]
  split at h
  · have := Option.some.inj h; simp at this; subst_vars; simp [this.1.symm, this.2.symm]
  · cases h
theorem calls_cons {f : Nat} {p : Int} {r : List Int} {cs : List (List (List Int))} (h : PyFlat.calls shape f (p :: r) = some cs) :
    ∃ f' cs', f = f' + 1 ∧ 0 ≤ p ∧ p ≤ 8 ∧ given p ≤ r.length ∧ PyFlat.calls shape f' (r.drop (given p)) = some cs' ∧ cs = [p :: r.take (given p)] :: cs' := by
  cases f with
  | zero =>
    unfold PyFlat.calls at h
    cases h
  | succ f =>
    unfold PyFlat.calls at h
    cases hc : call shape (p :: r) with
    | none => rw [hc] at h; cases h
    | some ct =>
      obtain ⟨c, t⟩ := ct
      rw [hc] at h
      dsimp only at h
      cases hd : PyFlat.calls shape f t with
      | none => rw [hd] at h; cases h
      | some cs' =>
        rw [hd] at h
        dsimp only at h
        unfold call at hc
        dsimp only at hc
        cases hs : shape p with
        | none => rw [hs] at hc; cases hc
        | some nk =>
          obtain ⟨n, k⟩ := nk
          rw [hs] at hc
          dsimp only at hc
          obtain ⟨e1, e2, e3, e4⟩ := shape_given hs
          subst e1
          subst e2
          split at hc
          · cases hc
          · rename_i hlt
            unfold rows at hc
            dsimp only at hc
            cases hc
            exact ⟨f, cs', rfl, e3, e4, by omega, hd, (Option.some.inj h).symm⟩
theorem calls_nil {f : Nat} : PyFlat.calls shape f [] = some [] := by
  cases f <;> rfl
theorem asked_calls {l : List Int} (h : answers_asked l = true) : ∃ cs, PyFlat.calls shape l.length l = some cs ∧ cs.length ≤ 400 ∧ Kp188Neutral.begins cs = true ∧ cs.all Kp188Neutral.asked1 = true ∧
    answers l = told (played Kp188Neutral.step Kp188Neutral.start cs) := by
  unfold answers_asked at h
  unfold answers
  cases hc : PyKp188.calls l with
  | none => rw [hc] at h; cases h
  | some cs =>
    rw [hc] at h
    dsimp only at h ⊢
    unfold Kp188Neutral.asked at h
    simp only [Bool.and_eq_true, decide_eq_true_eq] at h
    exact ⟨cs, calls_of hc, h.2.2.1, h.2.1, h.2.2.2, rfl⟩
theorem told_cons (a : List Int) (l : List (List Int)) : told (a :: l) = ((a.length : Int) :: a) ++ told l := by
  unfold told
  rw [List.flatMap_cons]
theorem played_cons {S : Type} (step : S → List (List Int) → S × List Int) (s : S) (c : List (List Int)) (r : List (List (List Int))) : played step s (c :: r) = (step s c).2 :: played step (step s c).1 r := rfl
end TbM

-- Ask
set_option linter.all false
namespace TbM
open Kp188Neutral
theorem nat_of {z : Int} (h : natural z 32 = true) : ∃ n : Nat, z = (n : Int) := by
  unfold natural at h
  rw [Bool.and_eq_true] at h
  have := of_decide_eq_true h.1
  exact ⟨z.toNat, by omega⟩
/-- the nine calls -/
inductive Asked : Int → List Int → Kp188.Call → Prop
  | begin_ : Asked 0 [] .begin_
  | do_ (x : Kp188.Step) : Asked 1 [(x.who : Int), (x.kind : Int), (x.a : Int), (x.b : Int), (x.c : Int), (x.v : Int)] (.do_ x)
  | take (w n : Nat) : Asked 2 [(w : Int), (n : Int)] (.take w n)
  | all (w n : Nat) : Asked 3 [(w : Int), (n : Int)] (.all w n)
  | give (w n : Nat) : Asked 4 [(w : Int), (n : Int)] (.give w n)
  | cell (c : Nat) : Asked 5 [(c : Int)] (.cell c)
  | hang (n : Nat) : Asked 6 [(n : Int)] (.hang n)
  | from_ (c : Nat) : Asked 7 [(c : Int)] (.from_ c)
  | there (n : Nat) : Asked 8 [(n : Int)] (.there n)
theorem asked_is {c : Int} {args : List Int} (h : asked1 [c :: args] = true) : ∃ x, Asked c args x ∧ callOf [c :: args] = some x := by
  unfold asked1 at h
  split at h
  · rename_i e; injection e with e; injection e with e1 e2; subst e1 e2; exact ⟨_, .begin_, rfl⟩
  · rename_i w k a b cc v e
    injection e with e; injection e with e1 e2; subst e1 e2
    simp only [Bool.and_eq_true] at h
    obtain ⟨h1, h2, h3, h4, h5, h6⟩ := h
    obtain ⟨w, rfl⟩ := nat_of h1
    obtain ⟨k, rfl⟩ := nat_of h2
    obtain ⟨a, rfl⟩ := nat_of h3
    obtain ⟨b, rfl⟩ := nat_of h4
    obtain ⟨cc, rfl⟩ := nat_of h5
    obtain ⟨v, rfl⟩ := nat_of h6
    exact ⟨_, .do_ ⟨w, k, a, b, cc, v⟩, rfl⟩
  · rename_i w n e
    injection e with e; injection e with e1 e2; subst e1 e2
    rw [Bool.and_eq_true] at h
    obtain ⟨w, rfl⟩ := nat_of h.1
    obtain ⟨n, rfl⟩ := nat_of h.2
    exact ⟨_, .take w n, rfl⟩
  · rename_i w n e
    injection e with e; injection e with e1 e2; subst e1 e2
    rw [Bool.and_eq_true] at h
    obtain ⟨w, rfl⟩ := nat_of h.1
    obtain ⟨n, rfl⟩ := nat_of h.2
    exact ⟨_, .all w n, rfl⟩
  · rename_i w n e
    injection e with e; injection e with e1 e2; subst e1 e2
    rw [Bool.and_eq_true] at h
    obtain ⟨w, rfl⟩ := nat_of h.1
    obtain ⟨n, rfl⟩ := nat_of h.2
    exact ⟨_, .give w n, rfl⟩
  · rename_i n e
    injection e with e; injection e with e1 e2; subst e1 e2
    obtain ⟨n, rfl⟩ := nat_of h
    exact ⟨_, .cell n, rfl⟩
  · rename_i n e
    injection e with e; injection e with e1 e2; subst e1 e2
    obtain ⟨n, rfl⟩ := nat_of h
    exact ⟨_, .hang n, rfl⟩
  · rename_i n e
    injection e with e; injection e with e1 e2; subst e1 e2
    obtain ⟨n, rfl⟩ := nat_of h
    exact ⟨_, .from_ n, rfl⟩
  · rename_i n e
    injection e with e; injection e with e1 e2; subst e1 e2
    obtain ⟨n, rfl⟩ := nat_of h
    exact ⟨_, .there n, rfl⟩
  · cases h
theorem neutral_of {s : Kp188.State} {c : Kp188Neutral.Call} {x : Kp188.Call} {s' : Kp188.State} {v : Int} {ns : List Nat} (h : callOf c = some x) (e : Kp188.step s x = (s', ⟨v, ns⟩)) : Kp188Neutral.step s c = (s', v :: outs ns) := by
  unfold Kp188Neutral.step
  rw [h]
  dsimp only
  rw [e]
theorem neutral_say {s : Kp188.State} {c : Kp188Neutral.Call} {x : Kp188.Call} {s' : Kp188.State} {v : Int} (h : callOf c = some x) (e : Kp188.step s x = (s', Kp188.say v)) : Kp188Neutral.step s c = (s', [v]) := neutral_of h e
end TbM

-- Base
set_option Elab.async false
set_option linter.all false
set_option maxRecDepth 100000
set_option maxHeartbeats 2000000
namespace Tb
open PySem PySem.Spec PyProof.Rows L2
open Kp188 (Done)

/-! ### sorted(d) of a dict whose keys are ints -/
section
variable {prog : Program} {w : World} {A : Around} {E : Value → Shared → Prop} {s : Shared} {T : String} {dz d : Addr} {n : Nat} {G : Nat → Value → Prop} {OK : Heap → Prop}
theorem gather {R : List Value → Shared → Prop} (src : PySem.W.KdlSrc prog w T dz d n G OK) (calm : A.handled = none) (fine : OK s.heap) (small : n ≤ sizeLine)
    (goal : ∀ (g : Heap) (tk : Nat) (out : Array Value), (∀ b o, s.heap.get? b = some o → g.get? b = some o) → s.heap.objs.size < g.objs.size → ItemsOf G out n → R out.toList { s with heap := g, toks := tk }) :
    wpAny (model prog w) A (collect (.ref dz)) R E s := by
  obtain ⟨lt1, lt2⟩ := src.there _ fine
  unfold collect
  apply wpAny_bind
  apply wpAny_runValue
  apply codeAny_builtin entry_proto_collect'; rw [Around.under_plainId PySem.F.plain_proto_collect _]
  show wpAny _ A.in1 (newList [] >>= fun z => again (.builtin "list.__iadd__" ⟨[z, .ref dz], []⟩)) _ _ s
  apply wpAny_bind
  refine wpAny_newObj_type ?_
  refine wpAny_pure ⟨plainId_quiet PySem.F.plain_list_iadd _, ?_⟩
  apply codeAny_builtin entry_list_iadd'; rw [Around.under_plainId PySem.F.plain_list_iadd _]
  have at0 : (s.heap.push { cls := .type "list", data := .seq ([] : List Value).toArray }).get? s.heap.objs.size = some { cls := .type "list", data := .seq #[] } := Heap.get?_push_size _ rfl
  show wpAny _ A.in1 (Builtin.List.listExtendWith (.ref s.heap.objs.size) (.ref dz) (.ref s.heap.objs.size)) _ _ _
  have walk := PySem.W.kdl_extend (A := A) (s := { s with heap := s.heap.push { cls := .type "list", data := .seq ([] : List Value).toArray } })
    (R := fun (q : Result) (s2 : Shared) => ∃ (g : Heap) (tk : Nat) (out : Array Value) (c2 : Nat), q = .ok (.ret (.ref s.heap.objs.size)) ∧ s2 = { s with heap := g, toks := tk } ∧
      (∀ b o, s.heap.get? b = some o → g.get? b = some o) ∧ g.get? s.heap.objs.size = some { cls := .type "list", dict := none, data := .seq out c2, slots := #[] } ∧ ItemsOf G out n)
    src calm (src.keep _ _ fine fun b _ o e => Heap.get?_push_of_some _ e) s.heap.objs.size (Nat.ne_of_gt lt1) (Nat.ne_of_gt lt2) (.ref s.heap.objs.size) 0 at0
    (fun g tk out c2 kp here it => ⟨g, tk, out, c2, rfl, rfl, fun b o e => kp b o (Nat.ne_of_lt (Heap.lt_size e)) (Heap.get?_push_of_some _ e), here, it⟩) small
  refine wpAny_mono walk (fun fin s2 x => ?_) fun e s2 x => ?_
  · cases fin with
    | done f =>
      obtain ⟨g, tk, out, c2, e, rfl, kp, here, it⟩ := x
      cases e
      exact wpAny_bind (wpAny_load here (wpAny_pure (goal g tk out kp (Heap.lt_size here) it)))
    | again c1 =>
      refine ⟨x.1, codeAny_mono x.2 fun q s3 y => ?_⟩
      obtain ⟨g, tk, out, c2, rfl, rfl, kp, here, it⟩ := y
      exact wpAny_bind (wpAny_load here (wpAny_pure (goal g tk out kp (Heap.lt_size here) it)))
  · obtain ⟨_, _, _, _, bad, _⟩ := x
    cases bad
end
def rSortedD : List V → Hp → VK → Prop := fun vs H Q => ∃ (a : Addr) (kvs : List (Key × V)) (ns : List Int), vs = [V.ref a] ∧ H a = some (.dK kvs) ∧ kvs.map (·.1) = ns.map Sum.inl ∧
  ∀ (ms : List Int) (p : Addr), ms.Perm ns → ms.Pairwise (· ≤ ·) → H p = none → Q (.ref p) (upd H p (.lst (ms.map V.int)))
theorem ints_of_keys {P : Program} {w : World} : ∀ (ns : List Int) (us : List Value), us.length = ns.length → (∀ (j : Nat) (u : Value), us[j]? = some u → ∃ k, ns[j]? = some k ∧ (mixKind P w).is (.inl k) u = true) → IntsAre us ns
  | [], [], _, _ => .nil
  | n :: ns, [], hl, _ => by simp at hl
  | [], u :: us, hl, _ => by simp at hl
  | n :: ns, u :: us, hl, h => by
    obtain ⟨k, e, i⟩ := h 0 u rfl
    have e2 : n = k := Option.some.inj e
    subst e2
    obtain ⟨t, rfl⟩ := Value.isInt_shape (k := n) (v := u) i
    exact .cons n t (ints_of_keys ns us (by simpa using hl) fun j v hv => h (j + 1) v hv)
theorem cr_sortedD {X : Cx} (hc : X.calm = true) : CallR X (.builtin "sorted") rSortedD := by
  intro pins s σ H vs us Q I r h
  obtain ⟨a, kvs, ns, rfl, ha, hk, q⟩ := h
  rw [Vals.ref1 r]
  obtain ⟨hz, hS, ws, kv, hD⟩ := dk_of I.hok ha
  obtain ⟨ep, hat⟩ := hD.dictAt
  have hlen : kvs.length = ws.length := KV.length kv
  have hkeys : ws.map (·.1) = ns.map Sum.inl := by rw [← KV.keys kv]; exact hk
  have hnl : ns.length = ws.length := by
    have := congrArg List.length hkeys
    simpa using this.symm
  refine Calls.call_function_entry kind_sorted plain_sorted entry_sorted (args_sorted1 _) ?_; unfold Builtin.«sorted»
  apply wpAny_bind (m := checkCount "sorted" 1 1 _)
  apply wpAny_pure
  refine wpAny_bind (gather (A := X.A.in1) (PySem.W.kdl_dict (knd := mixKind X.prog X.w) (kvs := ws) (ep := ep) hS) (I.ok.hd hc) hat (by omega) fun g tk out kp big it => ?_)
  have hl : out.toList.length = ws.length := by rw [Array.length_toList]; exact it.1
  have hi : IntsAre out.toList ns := ints_of_keys (P := X.prog) (w := X.w) ns out.toList (by omega) fun j u hu => by
    obtain ⟨k, x, e1, e2⟩ := it.2 j u (by rw [← Array.getElem?_toList]; exact hu)
    have e3 : (ws.map (·.1))[j]? = some k := by rw [List.getElem?_map, e1]; rfl
    rw [hkeys, List.getElem?_map] at e3
    cases e4 : ns[j]? with
    | none => rw [e4] at e3; cases e3
    | some z =>
      rw [e4] at e3
      cases e3
      exact ⟨z, rfl, e2⟩
  refine wpAny_bind (wpAny_newList ?_ (by rw [hl, ← hlen]; exact hz))
  have hob : (g.push { cls := .type "list", data := .seq out.toList.toArray }).get? g.objs.size = some (seqObj "list" out.toList.toArray 0) := Heap.get?_push_size _ rfl
  refine wpAny_bind (wpAny_holding (wpAny_call_entry slot_list_sort ⟨_, hob, rfl⟩ entry_list_sort (list_sort_treeAny hob hi (by rw [hl, ← hlen]; exact hz) fun res ms h1 h2 h3 => ⟨_, rfl, ?_⟩) (args_list_sort _)))
  obtain ⟨ep2, he⟩ := sortedHeap_at (vs := out.toList) (out := res) hob
  have hml : (ms.map V.int).length ≤ sizeLine := by rw [List.length_map, h2.length_eq, hnl, ← hlen]; exact hz
  refine wpAny_pure ⟨_, rfl, .ref _, upd H g.objs.size (.lst (ms.map V.int)), I.laid (t' := tk) (fun b u hu => ?_) (Nat.le_of_lt big) ⟨hml, res.toList, ep2, vals_of_ints h1, he⟩, rfl, q ms _ h2 h3 (I.hok.fresh (Nat.le_of_lt big))⟩
  have hu2 := Heap.get?_push_of_some { cls := .type "list", data := .seq out.toList.toArray } (kp b u hu)
  rw [sortedHeap_old (Nat.ne_of_lt (Heap.lt_size (kp b u hu))) (Heap.lt_size hu2)]
  exact hu2
end Tb

-- Data
set_option Elab.async false
set_option linter.all false
set_option maxRecDepth 100000
set_option maxHeartbeats 2000000
namespace Tb
open PySem PySem.Spec PyProof.Rows L2
open Kp188 (Done)

/-! ### lists of numbers -/
def nI (l : List Nat) : List V := l.map fun (n : Nat) => V.int (n : Int)
theorem nI_length (l : List Nat) : (nI l).length = l.length := List.length_map ..
theorem nI_append (a b : List Nat) : nI (a ++ b) = nI a ++ nI b := List.map_append ..
theorem nI_snoc (a : List Nat) (n : Nat) : nI a ++ [V.int (n : Int)] = nI (a ++ [n]) := (nI_append a [n]).symm
theorem nI_get {l : List Nat} {i : Nat} {x : V} (h : (nI l)[i]? = some x) : ∃ n, l[i]? = some n ∧ x = V.int (n : Int) := by
  unfold nI at h
  rw [List.getElem?_map] at h
  cases e : l[i]? with
  | none => rw [e] at h; cases h
  | some n =>
    rw [e] at h
    exact ⟨n, rfl, (Option.some.inj h).symm⟩
theorem nI_at {l : List Nat} {i n : Nat} (h : l[i]? = some n) : (nI l)[i]? = some (V.int (n : Int)) := by
  unfold nI
  rw [List.getElem?_map, h]
  rfl
theorem nI_flat (l : List Nat) : (nI l).all flatV = true := by
  rw [List.all_eq_true]
  intro x hx
  obtain ⟨n, _, rfl⟩ := List.mem_map.mp hx
  rfl
theorem inV_nI (x : Nat) : ∀ l : List Nat, inV (.int (x : Int)) (nI l) = l.contains x
  | [] => rfl
  | a :: l => by
    have ih := inV_nI x l
    unfold inV at ih ⊢
    show (eqV (V.int (a : Int)) (V.int (x : Int)) || (nI l).any fun y => eqV y (.int (x : Int))) = _
    rw [ih, List.contains_cons]
    congr 1
    show ((a : Int) == (x : Int)) = (x == a)
    rw [Bool.eq_iff_iff, beq_iff_eq, beq_iff_eq]
    omega
theorem nI_ints (l : List Nat) : nI l = (l.map fun (n : Nat) => (n : Int)).map V.int := by
  unfold nI
  rw [List.map_map]
  rfl
theorem nodup_le : ∀ (n : Nat) (l : List Nat), l.Nodup → (∀ x ∈ l, x < n) → l.length ≤ n
  | 0, l, _, h => by
    cases l with
    | nil => exact Nat.le_refl _
    | cons a l => have := h a (List.mem_cons_self ..); omega
  | n + 1, l, hd, h => by
    by_cases hn : n ∈ l
    · have h1 := List.length_erase_of_mem hn
      have h2 := nodup_le n (l.erase n) (hd.erase n) fun x hx => by
        have := (hd.mem_erase_iff).mp hx
        have := h x this.2
        omega
      omega
    · have := nodup_le n l hd fun x hx => by
        have := h x hx
        have : x ≠ n := fun e => hn (e ▸ hx)
        omega
      omega

/-! ### a step's object -/
def sf (d : Done) (pc pr ps pa ph : Addr) : List (Str × V) :=
  [("who", .int (d.step.who : Int)), ("kind", .int (d.step.kind : Int)), ("cells", .ref pc), ("v", .int (d.step.v : Int)), ("reads", .ref pr), ("sets", .ref ps), ("adds", .ref pa), ("is_there", .bl d.there), ("hung_on", .ref ph)]
section
variable (d : Done) (pc pr ps pa ph : Addr)
theorem sf_who : (sf d pc pr ps pa ph).lookup ("who" : Str) = some (.int (d.step.who : Int)) := by with_unfolding_all rfl
theorem sf_kind : (sf d pc pr ps pa ph).lookup ("kind" : Str) = some (.int (d.step.kind : Int)) := by with_unfolding_all rfl
theorem sf_cells : (sf d pc pr ps pa ph).lookup ("cells" : Str) = some (.ref pc) := by with_unfolding_all rfl
theorem sf_v : (sf d pc pr ps pa ph).lookup ("v" : Str) = some (.int (d.step.v : Int)) := by with_unfolding_all rfl
theorem sf_reads : (sf d pc pr ps pa ph).lookup ("reads" : Str) = some (.ref pr) := by with_unfolding_all rfl
theorem sf_sets : (sf d pc pr ps pa ph).lookup ("sets" : Str) = some (.ref ps) := by with_unfolding_all rfl
theorem sf_adds : (sf d pc pr ps pa ph).lookup ("adds" : Str) = some (.ref pa) := by with_unfolding_all rfl
theorem sf_there : (sf d pc pr ps pa ph).lookup ("is_there" : Str) = some (.bl d.there) := by with_unfolding_all rfl
theorem sf_hung : (sf d pc pr ps pa ph).lookup ("hung_on" : Str) = some (.ref ph) := by with_unfolding_all rfl
theorem sf_putThere (b : Bool) : putF "is_there" (.bl b) (sf d pc pr ps pa ph) = sf { d with there := b } pc pr ps pa ph := by with_unfolding_all rfl
theorem sf_putHung (q : Addr) (h : List Nat) : putF "hung_on" (.ref q) (sf d pc pr ps pa ph) = sf { d with hung := h } pc pr ps pa q := by with_unfolding_all rfl
end
/-- a step d that was done stands at p; l: where the list of steps stands -/
structure StepIn (C : Addr) (H : Hp) (l p : Addr) (d : Done) (dx pc pr ps pa ph : Addr) : Prop where
  obj : H p = some (.ins C dx (sf d pc pr ps pa ph))
  oc : H pc = some (.lst (nI [d.step.a, d.step.b, d.step.c]))
  orr : H pr = some (.lst (nI d.step.reads))
  os : H ps = some (.lst (nI d.step.sets))
  oa : H pa = some (.lst (nI d.step.adds))
  oh : H ph = some (.lst (nI d.hung))
  nc : pc ≠ l
  nr : pr ≠ l
  ns : ps ≠ l
  na : pa ≠ l
  nh : ph ≠ l
def StepAt (C : Addr) (H : Hp) (l p : Addr) (d : Done) : Prop := ∃ dx pc pr ps pa ph, StepIn C H l p d dx pc pr ps pa ph
/-- the list at l holds the steps' objects at as (no two alike): what was done is ds -/
structure StepsAt (C : Addr) (H : Hp) (l : Addr) (as : List Addr) (ds : List Done) : Prop where
  lst : H l = some (.lst (as.map V.ref))
  nd : as.Nodup
  len : as.length = ds.length
  at_ : ∀ (j : Nat) (a : Addr) (d : Done), as[j]? = some a → ds[j]? = some d → StepAt C H l a d
theorem StepIn.same {C : Addr} {H H' : Hp} {l p : Addr} {d : Done} {dx pc pr ps pa ph : Addr} (B : StepIn C H l p d dx pc pr ps pa ph) (s : Same H H') : StepIn C H' l p d dx pc pr ps pa ph :=
  ⟨s _ _ B.obj, s _ _ B.oc, s _ _ B.orr, s _ _ B.os, s _ _ B.oa, s _ _ B.oh, B.nc, B.nr, B.ns, B.na, B.nh⟩
theorem StepsAt.same {C : Addr} {H H' : Hp} {l : Addr} {as : List Addr} {ds : List Done} (B : StepsAt C H l as ds) (s : Same H H') : StepsAt C H' l as ds :=
  ⟨s _ _ B.lst, B.nd, B.len, fun j a d h1 h2 => by
    obtain ⟨dx, pc, pr, ps, pa, ph, z⟩ := B.at_ j a d h1 h2
    exact ⟨dx, pc, pr, ps, pa, ph, z.same s⟩⟩
theorem StepsAt.get {C : Addr} {H : Hp} {l : Addr} {as : List Addr} {ds : List Done} (B : StepsAt C H l as ds) {n : Nat} {d : Done} (h : ds[n]? = some d) :
    ∃ a, as[n]? = some a ∧ (as.map V.ref)[n]? = some (V.ref a) ∧ StepAt C H l a d := by
  have hn : n < as.length := by rw [B.len]; exact (List.getElem?_eq_some_iff.mp h).1
  have e : as[n]? = some as[n] := List.getElem?_eq_getElem hn
  exact ⟨as[n], e, by rw [List.getElem?_map, e]; rfl, B.at_ n _ d e h⟩

/-! ### heaps -/
theorem Same.new {H H1 : Hp} {p : Addr} {o : HO} (s : Same H H1) (h : H1 p = none) : Same H (upd H1 p o) := fun b u e => by
  rw [upd_ne (ne_of_none (s _ _ e) h)]
  exact s _ _ e
/-- an object that was not there at first is changed -/
theorem Same.own {H H1 : Hp} {p : Addr} {o : HO} (s : Same H H1) (h : H p = none) : Same H (upd H1 p o) := fun b u e => by
  rw [upd_ne (ne_of_none e h)]
  exact s _ _ e
theorem upd_keep {H : Hp} {p q : Addr} {o u : HO} (h : H q = some u) (n : H p = none) : upd H p o q = some u := by
  rw [upd_ne (ne_of_none h n)]
  exact h
/-- a and b, both read where they stand -/
theorem and_in {ta tb : TT} {σ : L2.St} {H : Hp} {Q : Bool → Hp → Prop} {a b : Bool} (h1 : ∀ R : Bool → Hp → Prop, R a H → ta σ H R) (h2 : a = true → ∀ R : Bool → Hp → Prop, R b H → tb σ H R) (h : Q (a && b) H) : tAnd ta tb σ H Q := by
  refine h1 _ ?_
  cases a with
  | true => exact h2 rfl _ h
  | false => exact h
end Tb

-- Places
set_option Elab.async false
namespace Tb
open PySem PySem.Spec PyProof.Rows L2
def top (i : Nat) : Stmt := PySem.Challenge.pw_takenback_s01_answers.main.body.getD i (.Pass ⟨0, 0, 0, 0⟩)
abbrev sNamed : Stmt := top 14
abbrev sContents : Stmt := top 17
abbrev sPerform : Stmt := top 18
abbrev sStepInit : Stmt := inClass (top 20) 0
abbrev sDone : Stmt := top 21
abbrev sFeeders : Stmt := top 22
abbrev sHangsOn : Stmt := top 23
abbrev sHangers : Stmt := top 24
abbrev sWithAll : Stmt := top 25
abbrev s_comes_from : Stmt := top 26
abbrev sShInit : Stmt := inClass (top 48) 0
abbrev sBegin : Stmt := inClass (top 48) 1
abbrev sDo : Stmt := inClass (top 48) 2
abbrev sRefusal : Stmt := inClass (top 48) 3
abbrev sTake : Stmt := inClass (top 48) 4
abbrev sAll : Stmt := inClass (top 48) 5
abbrev sGive : Stmt := inClass (top 48) 6
abbrev s_Sheet_cell : Stmt := inClass (top 48) 7
abbrev s_Sheet_hang : Stmt := inClass (top 48) 8
abbrev s_Sheet_from_cell : Stmt := inClass (top 48) 9
abbrev s_Sheet_there : Stmt := inClass (top 48) 10
abbrev s_counted : Stmt := top 49
abbrev sAnswer : Stmt := top 50
abbrev sAnswers : Stmt := top 51
end Tb

-- Text
set_option Elab.async false
set_option linter.all false
set_option maxRecDepth 100000
set_option maxHeartbeats 2000000
namespace Tb
open PySem PySem.Spec PyProof.Rows L2
open Kp188 (Done)

/-- what the text says of the class of steps, and which names are Python's own -/
structure Txt (K : PySem.W.Frag) (mg : Str → Option Value) (C : Addr) : Prop where
  cl : Cls K C
  nWho : NoAttr K C "who"
  nKind : NoAttr K C "kind"
  nCells : NoAttr K C "cells"
  nV : NoAttr K C "v"
  nReads : NoAttr K C "reads"
  nSets : NoAttr K C "sets"
  nAdds : NoAttr K C "adds"
  nThere : NoAttr K C "is_there"
  nHung : NoAttr K C "hung_on"
  range : mg "range" = none
  len : mg "len" = none
  any : mg "any" = none
  sorted : mg "sorted" = none
theorem boot_sorted0 : bootBuiltins "sorted" = some (.builtin "sorted") := by decide +kernel
theorem boot_any0 : bootBuiltins "any" = some (.builtin "any") := by decide +kernel
theorem size256 {n : Nat} (h : n ≤ 100000) : n < sizeLine := Nat.lt_of_le_of_lt h (by decide)
section
variable {X : Cx} {x : Str} {pos : Pos}
theorem pgR {a : Addr} (hg : Gl X x) (hm : X.mg x = some (.ref a)) (hd : (x == ("__debug__" : Str)) = false := by decide) : PE X (.Name x pos) (tC (.ref a)) := pe_glob (v := .ref a) hg hm rfl hd
theorem pgI {i : Int} {t : Tok} (hg : Gl X x) (hm : X.mg x = some (.int i t)) (hd : (x == ("__debug__" : Str)) = false := by decide) : PE X (.Name x pos) (tC (.int i)) := pe_glob (v := .int i) hg hm ⟨t, rfl⟩ hd
end
end Tb

-- Feed
set_option Elab.async false
set_option linter.all false
set_option maxRecDepth 100000
set_option maxHeartbeats 2000000
namespace Tb
open PySem PySem.Spec PyProof.Rows L2
open Kp188 (Done)
def spFeeders (C : Addr) : Sp := fun vs H Q _ => ∃ (l : Addr) (as : List Addr) (ds : List Done) (c n : Nat), vs = [.ref l, .int (c : Int), .int (n : Int)] ∧ StepsAt C H l as ds ∧ n ≤ ds.length ∧ ds.length ≤ 256 ∧
  ∀ (H' : Hp) (q : Addr), Same H H' → H q = none → H' q = some (.lst (nI (TbM.F ds c n).reverse)) → Q (.ref q) H'
section
variable {P : Program} {w : World} {K : PySem.W.Frag} {mg : Str → Option Value} {base : Heap}
theorem adds_sets {s : Kp188.Step} {c : Nat} (h : s.adds.contains c = true) : s.sets.contains c = false := by
  unfold Kp188.Step.adds at h
  split at h
  · rename_i e
    unfold Kp188.Step.sets
    rw [e]
    rfl
  · simp at h
theorem scFeeders : FnScope ["steps", "cell", "place", "found", "n", "step"] ["steps", "cell", "place"] (defScope sFeeders) := ⟨rfl, rfl, rfl, by decide +kernel, rfl, by decide +kernel, by decide +kernel⟩
theorem ok_feeders {f C : Addr} {fd : FuncData} (F : Fun K "feeders" "feeders" sFeeders f fd) (T : Txt K mg C) : FnOk P w K mg base CX0 1 f fd ["steps", "cell", "place"] (spFeeders C) := by
  refine F.ok scFeeders (fun vs H Q E h => ?_) (fun cdv A outer s H vs Q E hr h => ?_)
  · obtain ⟨l, as, ds, c, n, rfl, _⟩ := h
    rfl
  · obtain ⟨l, as, ds, c, n, rfl, B, hn, hd, k⟩ := h
    refine ⟨_, pss_cons (ps_set (i := 3) scFeeders.nd rfl (Or.inl rfl) (pe_lst pa_nil))
      (pss_cons (ps_for PassesOwn.never rfl (pi_range3 rfl T.range (pa_cons (pe_op op_sub (pv 2) pe_int) (pa_cons (pe_un un_neg pe_int) (pa_cons (pe_un un_neg pe_int) pa_nil)))) (pg_name (i := 4) scFeeders.nd rfl (Or.inl rfl))
        (pss_cons (ps_set (i := 5) scFeeders.nd rfl (Or.inl rfl) (pe_ix ix_list (pv 0) (pv 4) (fun _ _ => rfl)))
        (pss_cons (ps_if (pw_and (pt_truth (pe_fld (pv 5) rfl) (fun _ => rfl)) (pw_and1 (pt_cmpR op_in_seq (pv 1) (pe_fld (pv 5) rfl) (by with_unfolding_all rfl)))).pt
            (pss_one (ps_expr (pe_bm PySem.F.plainAttrs_list PySem.F.slot_list_append PySem.F.type_list_append mt_append (pv 3) (pa_cons (pv 4) pa_nil)))) pss_nil)
        (pss_one (ps_if (pw_and (pt_truth (pe_fld (pv 5) rfl) (fun _ => rfl)) (pw_and1 (pt_cmpR op_in_seq (pv 1) (pe_fld (pv 5) rfl) (by with_unfolding_all rfl)))).pt
            (pss_cons (ps_expr (pe_bm PySem.F.plainAttrs_list PySem.F.slot_list_append PySem.F.type_list_append mt_append (pv 3) (pa_cons (pv 4) pa_nil))) (pss_one ps_break)) pss_nil)))))
      (pss_one (ps_ret (pv 3)))), ?_⟩
    refine ⟨Nat.zero_le _, fun q hq => ?_⟩
    have s0 : Same H (upd H q (.lst [])) := Same.new (Same.refl H) hq
    have er : RgC ((n : Int) - 1) (-1) (-1) n := by
      have e : ((n : Int) - 1 - (-1)).toNat = n := by omega
      have z := RgC.neg (i := (n : Int) - 1) (j := -1) (by omega) (by omega) (by omega) (by omega)
      rw [e] at z
      exact z
    refine ⟨_, rfl, _, _, rfl, rfl, _, rfl, _, rfl, _, _, _, n, rfl, er, ?_⟩
    refine for_rangeC (lo := (n : Int) - 1) (c := -1) (n := n) (fun i σ H' => ∃ (v4 v5 : Option V) (acc : List Nat), σ = [some (.ref l), some (.int (c : Int)), some (.int (n : Int)), some (.ref q), v4, v5] ∧ Same H H' ∧ H' q = some (.lst (nI acc)) ∧
      (TbM.F ds c n).reverse = acc ++ (TbM.F ds c (n - i)).reverse ∧ acc.length ≤ i) ⟨none, none, [], rfl, s0, upd_same, by simp, Nat.le_refl _⟩ ?_ ?_
    · rintro i σ H' hi ⟨v4, v5, acc, rfl, s1, hq1, e, hacc⟩
      obtain ⟨m, hm⟩ : ∃ m, n = m + i + 1 := ⟨n - 1 - i, by omega⟩
      have hml : m < ds.length := by omega
      obtain ⟨d, hdm⟩ : ∃ d, ds[m]? = some d := ⟨_, List.getElem?_eq_getElem hml⟩
      have ez : (n : Int) - 1 + (i : Nat) * (-1) = (m : Int) := by omega
      rw [ez]
      have B1 := B.same s1
      obtain ⟨a, ha, ha2, dx, pc, pr, ps, pa, ph, Z⟩ := B1.get hdm
      have eF : TbM.F ds c (n - i) = if TbM.setsC ds c m then [m] else if TbM.addsC ds c m then TbM.F ds c m ++ [m] else TbM.F ds c m := by
        rw [show n - i = m + 1 by omega]
        exact TbM.F_succ c hml
      have eS := TbM.setsC_of (c := c) hdm
      have eA := TbM.addsC_of (c := c) hdm
      have en : n - (i + 1) = m := by omega
      refine ⟨_, rfl, _, rfl, l, _, _, _, rfl, rfl, SqL.of B1.lst, at_of (j := m) (v := V.ref a) rfl ha2, ?_⟩
      dsimp only [gName, tSeq, tIfS]
      refine and_in (a := d.there) (b := d.step.adds.contains c) (fun R h => ⟨_, rfl, a, C, dx, _, _, rfl, Z.obj, T.cl, T.nThere, sf_there .., _, rfl, h⟩)
        (fun _ R h => ⟨_, rfl, _, rfl, a, C, dx, _, _, rfl, Z.obj, T.cl, T.nAdds, sf_adds .., pa, _, rfl, .inl (SqL.of Z.oa), rfl, nI_flat _, _, rfl, by rw [inV_nI]; exact h⟩) ?_
      refine ite2 (fun h1 => ?_) (fun h1 => ?_)
      · -- it adds
        have hA : TbM.addsC ds c m = true := by rw [eA]; exact h1
        have hS : TbM.setsC ds c m = false := by rw [eS, adds_sets ((Bool.and_eq_true_iff.mp h1).2), Bool.and_false]
        rw [if_neg (by rw [hS]; simp), if_pos hA] at eF
        refine ⟨_, rfl, .inl ⟨rfl, _, SqL.of hq1⟩, _, rfl, q, _, _, rfl, rfl, hq1, size256 (by rw [nI_length]; omega), ?_⟩
        have s2 : Same H (upd H' q (.lst (nI acc ++ [V.int (m : Int)]))) := Same.own s1 hq
        have Z2 := Z
        have B2 := B.same s2
        obtain ⟨a', ha', _, dx', pc', pr', ps', pa', ph', Z'⟩ := B2.get hdm
        have ea : a' = a := Option.some.inj (ha'.symm.trans ha)
        subst ea
        (try dsimp only [gName, tSeq, tIfS, tDrop, tNext])
        refine and_in (a := d.there) (b := d.step.sets.contains c) (fun R h => ⟨_, rfl, a', C, dx', _, _, rfl, Z'.obj, T.cl, T.nThere, sf_there .., _, rfl, h⟩)
          (fun _ R h => ⟨_, rfl, _, rfl, a', C, dx', _, _, rfl, Z'.obj, T.cl, T.nSets, sf_sets .., ps', _, rfl, .inl (SqL.of Z'.os), rfl, nI_flat _, _, rfl, by rw [inV_nI]; exact h⟩) ?_
        refine ite2 (fun h2 => absurd h2 (by rw [← eS, hS]; simp)) (fun h2 => ?_)
        refine ⟨_, _, acc ++ [m], rfl, s2, by rw [upd_same, nI_snoc], ?_, by simp; omega⟩
        rw [e, eF, en]
        simp
      · have hA : TbM.addsC ds c m = false := by rw [eA]; exact Bool.eq_false_iff.mpr h1
        (try dsimp only [gName, tSeq, tIfS, tDrop, tNext])
        refine and_in (a := d.there) (b := d.step.sets.contains c) (fun R h => ⟨_, rfl, a, C, dx, _, _, rfl, Z.obj, T.cl, T.nThere, sf_there .., _, rfl, h⟩)
          (fun _ R h => ⟨_, rfl, _, rfl, a, C, dx, _, _, rfl, Z.obj, T.cl, T.nSets, sf_sets .., ps, _, rfl, .inl (SqL.of Z.os), rfl, nI_flat _, _, rfl, by rw [inV_nI]; exact h⟩) ?_
        refine ite2 (fun h2 => ?_) (fun h2 => ?_)
        · -- it sets: break
          have hS : TbM.setsC ds c m = true := by rw [eS]; exact h2
          rw [if_pos hS] at eF
          refine ⟨_, rfl, .inl ⟨rfl, _, SqL.of hq1⟩, _, rfl, q, _, _, rfl, rfl, hq1, size256 (by rw [nI_length]; omega), ?_⟩
          refine ⟨_, rfl, k _ q (Same.own s1 hq) hq ?_⟩
          rw [upd_same, nI_snoc, e, eF]
          rfl
        · have hS : TbM.setsC ds c m = false := by rw [eS]; exact Bool.eq_false_iff.mpr h2
          rw [if_neg (by rw [hS]; simp), if_neg (by rw [hA]; simp)] at eF
          refine ⟨_, _, acc, rfl, s1, hq1, ?_, by omega⟩
          rw [e, eF, en]
    · rintro σ H' ⟨v4, v5, acc, rfl, s1, hq1, e, hacc⟩
      refine ⟨_, rfl, k _ q s1 hq ?_⟩
      rw [hq1, e, Nat.sub_self, TbM.F_zero]
      simp
end
end Tb

-- Sort
set_option Elab.async false
set_option linter.all false
set_option maxRecDepth 100000
set_option maxHeartbeats 2000000
namespace Tb
open PySem PySem.Spec PyProof.Rows L2
open Kp188 (Done)
theorem sorted_extI : ∀ {l m : List Int}, l.Pairwise (· < ·) → m.Pairwise (· < ·) → (∀ x, x ∈ l ↔ x ∈ m) → l = m
  | [], [], _, _, _ => rfl
  | [], b :: m, _, _, h => by have := (h b).mpr (List.mem_cons_self ..); simp at this
  | a :: l, [], _, _, h => by have := (h a).mp (List.mem_cons_self ..); simp at this
  | a :: l, b :: m, hl, hm, h => by
    have hl' := List.pairwise_cons.mp hl
    have hm' := List.pairwise_cons.mp hm
    have e : a = b := by
      have h1 := (h a).mp (List.mem_cons_self ..)
      have h2 := (h b).mpr (List.mem_cons_self ..)
      rcases List.mem_cons.mp h1 with e | h1
      · exact e
      · rcases List.mem_cons.mp h2 with e | h2
        · exact e.symm
        · have := hm'.1 a h1
          have := hl'.1 b h2
          omega
    subst e
    rw [sorted_extI hl'.2 hm'.2 fun x => ?_]
    constructor
    · intro hx
      rcases List.mem_cons.mp ((h x).mp (List.mem_cons_of_mem _ hx)) with e | h3
      · have := hl'.1 x hx
        omega
      · exact h3
    · intro hx
      rcases List.mem_cons.mp ((h x).mpr (List.mem_cons_of_mem _ hx)) with e | h3
      · have := hm'.1 x hx
        omega
      · exact h3
theorem strict_of : ∀ {l : List Int}, l.Pairwise (· ≤ ·) → l.Nodup → l.Pairwise (· < ·)
  | [], _, _ => .nil
  | a :: l, h, n => by
    have h' := List.pairwise_cons.mp h
    have n' := List.nodup_cons.mp n
    refine List.pairwise_cons.mpr ⟨fun b hb => ?_, strict_of h'.2 n'.2⟩
    have := h'.1 b hb
    have : a ≠ b := fun e => n'.1 (e ▸ hb)
    omega
def up (l : List Nat) : List Int := l.map fun (n : Nat) => (n : Int)
theorem mem_up {l : List Nat} {x : Int} : x ∈ up l ↔ ∃ n, n ∈ l ∧ x = (n : Int) := by
  unfold up
  rw [List.mem_map]
  constructor
  · rintro ⟨n, h1, h2⟩; exact ⟨n, h1, h2.symm⟩
  · rintro ⟨n, h1, h2⟩; exact ⟨n, h1, h2.symm⟩
theorem up_nodup {l : List Nat} (h : l.Nodup) : (up l).Nodup := by
  unfold up
  exact List.Pairwise.map _ (fun a b (hab : a ≠ b) => (by omega : (a : Int) ≠ (b : Int))) h
theorem up_strict {l : List Nat} (h : l.Pairwise (· < ·)) : (up l).Pairwise (· < ·) := by
  unfold up
  exact List.Pairwise.map _ (fun a b (hab : a < b) => (by omega : (a : Int) < (b : Int))) h
/-- the keys sorted are the one rising list with these members -/
theorem sorted_is {ms : List Int} {ks S : List Nat} (hp : ms.Perm (up ks)) (hs : ms.Pairwise (· ≤ ·)) (hn : ks.Nodup) (hS : S.Pairwise (· < ·)) (h : ∀ x, x ∈ ks ↔ x ∈ S) : ms.map V.int = nI S := by
  have e : ms = up S := by
    refine sorted_extI (strict_of hs (hp.nodup_iff.mpr (up_nodup hn))) (up_strict hS) fun x => ?_
    rw [hp.mem_iff, mem_up, mem_up]
    constructor
    · rintro ⟨n, h1, h2⟩; exact ⟨n, (h n).mp h1, h2⟩
    · rintro ⟨n, h1, h2⟩; exact ⟨n, (h n).mpr h1, h2⟩
  rw [e, nI_ints]
  rfl
/-- the dict's keys are these numbers, no two alike -/
structure Keys (kvs : List (Key × V)) (ks : List Nat) : Prop where
  eq : kvs.map (·.1) = (up ks).map Sum.inl
  nd : ks.Nodup
theorem Keys.length {kvs : List (Key × V)} {ks : List Nat} (h : Keys kvs ks) : kvs.length = ks.length := by
  have := congrArg List.length h.eq
  unfold up at this
  simpa using this
theorem Keys.nil : Keys [] [] := ⟨rfl, List.nodup_nil⟩
theorem Keys.mem {kvs : List (Key × V)} {ks : List Nat} (h : Keys kvs ks) (k : Nat) : (Sum.inl (k : Int) : Key) ∈ kvs.map (·.1) ↔ k ∈ ks := by
  rw [h.eq, List.mem_map]
  constructor
  · rintro ⟨x, h1, h2⟩
    obtain ⟨n, h3, h4⟩ := mem_up.mp h1
    have h5 : x = (k : Int) := Sum.inl.inj h2
    have : n = k := by omega
    exact this ▸ h3
  · intro h1
    exact ⟨(k : Int), mem_up.mpr ⟨k, h1, rfl⟩, rfl⟩
theorem Keys.val {kvs : List (Key × V)} {ks : List Nat} (h : Keys kvs ks) (k : Nat) : (valV kvs (Sum.inl (k : Int))).isSome = decide (k ∈ ks) := by
  cases e : valV kvs (Sum.inl (k : Int) : Key) with
  | none =>
    have := valV_not e
    rw [h.mem] at this
    simp [this]
  | some v =>
    have := valV_in e
    rw [h.mem] at this
    simp [this]
theorem map_fst_same {kvs : List (Key × V)} {k : Key} {v : V} : (kvs.map fun kv => if kv.1 = k then (kv.1, v) else kv).map (·.1) = kvs.map (·.1) := by
  rw [List.map_map]
  apply List.map_congr_left
  intro kv _
  show (if kv.1 = k then (kv.1, v) else kv).1 = kv.1
  split <;> rfl
theorem Keys.put {kvs : List (Key × V)} {ks : List Nat} (h : Keys kvs ks) (k : Nat) (v : V) : ∃ ks', Keys (putK kvs (Sum.inl (k : Int)) v) ks' ∧ ∀ x, x ∈ ks' ↔ x ∈ ks ∨ x = k := by
  cases e : valV kvs (Sum.inl (k : Int) : Key) with
  | none =>
    have hk : k ∉ ks := by rw [← h.mem]; exact valV_not e
    refine ⟨ks ++ [k], ⟨?_, ?_⟩, fun x => by simp⟩
    · rw [putK_new v e, List.map_append, h.eq]
      unfold up
      rw [List.map_append, List.map_append]
      rfl
    · rw [List.nodup_append]
      refine ⟨h.nd, by simp, fun a ha b hb => ?_⟩
      have : b = k := by simpa using hb
      subst this
      exact fun e => hk (e ▸ ha)
  | some u =>
    have hk : k ∈ ks := by rw [← h.mem]; exact valV_in e
    refine ⟨ks, ⟨?_, h.nd⟩, fun x => ⟨.inl, fun q => q.elim id fun q => q ▸ hk⟩⟩
    have ha : (kvs.any fun kv => decide (kv.1 = (Sum.inl (k : Int) : Key))) = true := by rw [valV_any, e]; rfl
    unfold putK
    rw [if_pos ha, map_fst_same]
    exact h.eq
end Tb

-- Hang
set_option Elab.async false
set_option linter.all false
set_option maxRecDepth 100000
set_option maxHeartbeats 2000000
namespace Tb
open PySem PySem.Spec PyProof.Rows L2
open Kp188 (Done)
def spHangsOn (C : Addr) : Sp := fun vs H Q _ => ∃ (l : Addr) (as : List Addr) (ds : List Done) (n : Nat), vs = [.ref l, .int (n : Int)] ∧ StepsAt C H l as ds ∧ n < ds.length ∧ ds.length ≤ 256 ∧
  ∀ (H' : Hp) (q : Addr), Same H H' → H q = none → H' q = some (.lst (nI (Kp188.hangs ds n))) → Q (.ref q) H'
section
variable {P : Program} {w : World} {K : PySem.W.Frag} {mg : Str → Option Value} {base : Heap}
theorem scHangsOn : FnScope ["steps", "n", "found", "cell", "feeder"] ["steps", "n"] (defScope sHangsOn) := ⟨rfl, rfl, rfl, by decide +kernel, rfl, by decide +kernel, by decide +kernel⟩
theorem ok_hangsOn {f fF C : Addr} {fd fdF : FuncData} (F : Fun K "hangs_on" "hangs_on" sHangsOn f fd) (T : Txt K mg C) (FF : Fun K "feeders" "feeders" sFeeders fF fdF) (bF : Binds K fdF ["steps", "cell", "place"] []) (mF : mg "feeders" = some (.ref fF)) :
    FnOk P w K mg base CX0 2 f fd ["steps", "n"] (spHangsOn C) := by
  have GF : FnOk P w K mg base CX0 1 fF fdF ["steps", "cell", "place"] (spFeeders C) := ok_feeders FF T
  refine F.ok scHangsOn (fun vs H Q E h => ?_) (fun cdv A outer s H vs Q E hr h => ?_)
  · obtain ⟨l, as, ds, n, rfl, _⟩ := h
    rfl
  · obtain ⟨l, as, ds, n, rfl, B, hn, hd, k⟩ := h
    have hu := hu_of hr
    refine ⟨_, pss_cons (ps_set (i := 2) scHangsOn.nd rfl (Or.inl rfl) pe_dnewK)
      (pss_cons (ps_for PassesOwn.never rfl (pi_list (pe_fld (pe_ix ix_list (pv 0) (pv 1) (fun _ _ => rfl)) rfl)) (pg_name (i := 3) scHangsOn.nd rfl (Or.inl rfl))
        (pss_one (ps_for PassesOwn.never rfl (pi_list (pe_call GF hr rfl mF FF.kp bF .nil pass0 (pa_cons (pv 0) (pa_cons (pv 3) (pa_cons (pv 1) pa_nil))))) (pg_name (i := 4) scHangsOn.nd rfl (Or.inl rfl))
          (pss_one (ps_dput hu (pv 2) (pv 4) pe_bl rfl)))))
      (pss_one (ps_ret (pe_callB (cr_sortedD rfl) (by rfl) T.sorted boot_sorted0 (pa_cons (pv 2) pa_nil))))), ?_⟩
    intro q hq
    have s0 : Same H (upd H q (.dK [])) := Same.new (Same.refl H) hq
    obtain ⟨d, hdn⟩ : ∃ d, ds[n]? = some d := ⟨_, List.getElem?_eq_getElem hn⟩
    obtain ⟨a, ha, ha2, dx, pc, pr, ps, pa, ph, Z0⟩ := B.get hdn
    have B0 := B.same s0
    have Z := Z0.same s0
    refine ⟨_, rfl, _, rfl, l, _, _, _, rfl, rfl, SqL.of B0.lst, at_of (j := n) (v := V.ref a) rfl ha2, a, C, dx, _, _, rfl, Z.obj, T.cl, T.nReads, sf_reads .., pr, rfl, ⟨_, SqL.of Z.orr⟩, ?_⟩
    refine for_list (K := K) (a := pr) (xs := nI d.step.reads) (fun i σ H' => ∃ (v3 v4 : Option V) (kvs : List (Key × V)) (ks : List Nat), σ = [some (.ref l), some (.int (n : Int)), some (.ref q), v3, v4] ∧ Same H H' ∧ H' q = some (.dK kvs) ∧ Keys kvs ks ∧
      ∀ x, x ∈ ks ↔ ∃ c, c ∈ d.step.reads.take i ∧ x ∈ TbM.F ds c n) ⟨none, none, [], [], rfl, s0, upd_same, .nil, fun x => by simp⟩ (fun i σ H' _ ⟨_, _, _, _, _, s1, _⟩ => SqL.of (s1 _ _ Z0.orr)) ?_ ?_
    · rintro i y σ H' hi ⟨v3, v4, kvs, ks, rfl, s1, hq1, hk, hx⟩
      obtain ⟨c, hc, rfl⟩ := nI_get hi
      have B1 := B.same s1
      refine ⟨_, rfl, _, rfl, _, rfl, l, as, ds, c, n, rfl, B1, Nat.le_of_lt hn, hd, fun H2 e s2 he he2 => ?_⟩
      have s12 := Same.trans s1 s2
      refine ⟨e, rfl, ⟨_, SqL.of he2⟩, ?_⟩
      have neq : e ≠ q := fun z => by rw [z, hq1] at he; cases he
      refine for_list (K := K) (a := e) (xs := nI (TbM.F ds c n).reverse) (fun j σ H3 => ∃ (v4 : Option V) (kvs : List (Key × V)) (ks : List Nat), σ = [some (.ref l), some (.int (n : Int)), some (.ref q), some (.int (c : Int)), v4] ∧ Same H H3 ∧ H3 q = some (.dK kvs) ∧ Keys kvs ks ∧
        H3 e = some (.lst (nI (TbM.F ds c n).reverse)) ∧ ∀ x, x ∈ ks ↔ (∃ c', c' ∈ d.step.reads.take i ∧ x ∈ TbM.F ds c' n) ∨ x ∈ (TbM.F ds c n).reverse.take j)
        ⟨v4, kvs, ks, rfl, s12, s2 _ _ hq1, hk, he2, fun x => by simp [hx]⟩ (fun j σ H3 _ ⟨_, _, _, _, _, _, _, z, _⟩ => SqL.of z) ?_ ?_
      · rintro j y σ H3 hj ⟨w4, kvs3, ks3, rfl, s3, hq3, hk3, he3, hx3⟩
        obtain ⟨m, hm, rfl⟩ := nI_get hj
        have hlt : ∀ x ∈ ks3, x < 256 := fun x hx => by
          have hF : ∃ c', x ∈ TbM.F ds c' n := by
            rcases (hx3 x).mp hx with ⟨c', _, z⟩ | z
            · exact ⟨c', z⟩
            · exact ⟨c, List.mem_reverse.mp (List.mem_of_mem_take z)⟩
          obtain ⟨c', z⟩ := hF
          have := ((TbM.mem_F (Nat.le_of_lt hn)).mp z).1
          omega
        have hsz : kvs3.length < sizeLine := size256 (by rw [hk3.length]; have := nodup_le 256 ks3 hk3.nd hlt; omega)
        refine ⟨_, rfl, _, rfl, q, _, rfl, DPut.k (k := Sum.inl (m : Int)) hq3 hsz, ?_⟩
        obtain ⟨ks4, hk4, hx4⟩ := hk3.put m (.bl true)
        refine ⟨_, _, ks4, rfl, Same.own s3 hq, upd_same, hk4, by rw [upd_ne neq]; exact he3, fun x => ?_⟩
        rw [hx4, hx3, TbM.take_snoc hm, List.mem_append, List.mem_singleton, or_assoc]
      · rintro σ H3 ⟨w4, kvs3, ks3, rfl, s3, hq3, hk3, he3, hx3⟩
        refine ⟨_, _, kvs3, ks3, rfl, s3, hq3, hk3, fun x => ?_⟩
        rw [nI_length, List.take_length] at hx3
        rw [hx3, TbM.take_snoc hc, List.mem_reverse]
        constructor
        · rintro (⟨c', h1, h2⟩ | h)
          · exact ⟨c', List.mem_append.mpr (.inl h1), h2⟩
          · exact ⟨c, by simp, h⟩
        · rintro ⟨c', h1, h2⟩
          rcases List.mem_append.mp h1 with h | h
          · exact .inl ⟨c', h, h2⟩
          · have : c' = c := by simpa using h
            subst this
            exact .inr h2
    · rintro σ H' ⟨v3, v4, kvs, ks, rfl, s1, hq1, hk, hx⟩
      rw [nI_length, List.take_length] at hx
      refine ⟨_, rfl, q, kvs, up ks, rfl, hq1, hk.eq, fun ms p hp hs hf => ?_⟩
      refine k _ p (Same.new s1 hf) (Same.free s1 hf) ?_
      rw [upd_same, sorted_is hp hs hk.nd (TbM.hangs_sorted ds n) fun x => ?_]
      rw [hx, TbM.mem_hangs hdn hd]
end
end Tb

-- From
set_option Elab.async false
set_option linter.all false
set_option maxRecDepth 100000
set_option maxHeartbeats 2000000
namespace TbM
open Kp188
/-- the steps from which a cell's value comes, at the end -/
def fromOf (l : List Done) (c : Nat) : List Nat := rising l.length (sources l l.length (F l c l.length))
theorem from_sorted (l : List Done) (c : Nat) : (fromOf l c).Pairwise (· < ·) := rising_sorted _ _
theorem from_lt {l : List Done} {c x : Nat} (h : x ∈ fromOf l c) : x < l.length := (mem_rising.mp h).1
theorem mem_from {l : List Done} (hl : l.length ≤ STEPS) {c x : Nat} : x ∈ fromOf l c ↔ x ∈ F l c l.length ∨ ∃ j, j ∈ fromOf l c ∧ x ∈ hangs l j := by
  unfold fromOf
  rw [mem_rising]
  constructor
  · rintro ⟨h1, h2⟩
    rcases (sources_is l hl _ _ x).mp h2 with h | ⟨j, h3, h4, h5⟩
    · exact .inl h
    · exact .inr ⟨j, mem_rising.mpr ⟨h3, h4⟩, h5⟩
  · rintro (h | ⟨j, h1, h2⟩)
    · exact ⟨((mem_F (Nat.le_refl _)).mp h).1, (sources_is l hl _ _ x).mpr (.inl h)⟩
    · obtain ⟨h3, h4⟩ := mem_rising.mp h1
      have := (hangs_lt hl h2).1
      exact ⟨by omega, (sources_is l hl _ _ x).mpr (.inr ⟨j, h3, h4, h2⟩)⟩
end TbM
namespace Tb
open PySem PySem.Spec PyProof.Rows L2
open Kp188 (Done)
def spFrom (C : Addr) : Sp := fun vs H Q _ => ∃ (l : Addr) (as : List Addr) (ds : List Done) (c : Nat), vs = [.ref l, .int (c : Int)] ∧ StepsAt C H l as ds ∧ ds.length ≤ 256 ∧
  ∀ (H' : Hp) (q : Addr), Same H H' → H q = none → H' q = some (.lst (nI (TbM.fromOf ds c))) → Q (.ref q) H'
section
variable {P : Program} {w : World} {K : PySem.W.Frag} {mg : Str → Option Value} {base : Heap}
theorem scFrom : FnScope ["steps", "cell", "found", "feeder", "n", "earlier"] ["steps", "cell"] (defScope s_comes_from) := ⟨rfl, rfl, rfl, by decide +kernel, rfl, by decide +kernel, by decide +kernel⟩
theorem ok_from {f fF fO C : Addr} {fd fdF fdO : FuncData} (F : Fun K "comes_from" "comes_from" s_comes_from f fd) (T : Txt K mg C) (FF : Fun K "feeders" "feeders" sFeeders fF fdF) (bF : Binds K fdF ["steps", "cell", "place"] []) (mF : mg "feeders" = some (.ref fF))
    (GO : FnOk P w K mg base CX0 2 fO fdO ["steps", "n"] (spHangsOn C)) (kO : PySem.W.keepIn K (.ref fO) = true) (bO : Binds K fdO ["steps", "n"] []) (mO : mg "hangs_on" = some (.ref fO)) :
    FnOk P w K mg base CX0 3 f fd ["steps", "cell"] (spFrom C) := by
  have GF : FnOk P w K mg base CX0 1 fF fdF ["steps", "cell", "place"] (spFeeders C) := ok_feeders FF T
  refine F.ok scFrom (fun vs H Q E h => ?_) (fun cdv A outer s H vs Q E hr h => ?_)
  · obtain ⟨l, as, ds, c, rfl, _⟩ := h
    rfl
  · obtain ⟨l, as, ds, c, rfl, B, hd, k⟩ := h
    have hu := hu_of hr
    have hr1 : Room 1 _ := hr.mono (by decide)
    refine ⟨_, pss_cons (ps_set (i := 2) scFrom.nd rfl (Or.inl rfl) pe_dnewK)
      (pss_cons (ps_for PassesOwn.never rfl (pi_list (pe_call GF hr1 rfl mF FF.kp bF .nil pass0 (pa_cons (pv 0) (pa_cons (pv 1) (pa_cons (pe_callB call_len_seq (by rfl) T.len PySem.boot_len (pa_cons (pv 0) pa_nil)) pa_nil))))) (pg_name (i := 3) scFrom.nd rfl (Or.inl rfl))
        (pss_one (ps_dput hu (pv 2) (pv 3) pe_bl rfl)))
      (pss_cons (ps_for PassesOwn.never rfl (pi_range3 rfl T.range (pa_cons (pe_op op_sub (pe_callB call_len_seq (by rfl) T.len PySem.boot_len (pa_cons (pv 0) pa_nil)) pe_int) (pa_cons (pe_un un_neg pe_int) (pa_cons (pe_un un_neg pe_int) pa_nil)))) (pg_name (i := 4) scFrom.nd rfl (Or.inl rfl))
        (pss_one (ps_if (pt_cmp (pc_din hu (pv 4) (pv 2)))
          (pss_one (ps_for PassesOwn.never rfl (pi_list (pe_call GO hr rfl mO kO bO .nil pass0 (pa_cons (pv 0) (pa_cons (pv 4) pa_nil)))) (pg_name (i := 5) scFrom.nd rfl (Or.inl rfl))
            (pss_one (ps_dput hu (pv 2) (pv 5) pe_bl rfl)))) pss_nil)))
      (pss_one (ps_ret (pe_callB (cr_sortedD rfl) (by rfl) T.sorted boot_sorted0 (pa_cons (pv 2) pa_nil)))))), ?_⟩
    intro q hq
    have s0 : Same H (upd H q (.dK [])) := Same.new (Same.refl H) hq
    have B0 := B.same s0
    have hal : (as.map V.ref).length = ds.length := by rw [List.length_map]; exact B.len
    refine ⟨_, rfl, _, rfl, _, rfl, l, _, rfl, .inl (SqL.of B0.lst), l, as, ds, c, (as.map V.ref).length, rfl, B0, Nat.le_of_eq hal, hd, fun H2 e s2 he he2 => ?_⟩
    rw [hal] at he2
    have s02 := Same.trans s0 s2
    have neq : e ≠ q := fun z => by rw [z, upd_same] at he; cases he
    refine ⟨e, rfl, ⟨_, SqL.of he2⟩, ?_⟩
    have ltS : ∀ x, x ∈ TbM.fromOf ds c → x < 256 := fun x hx => by have := TbM.from_lt hx; omega
    have memS : ∀ x, x ∈ TbM.fromOf ds c ↔ x ∈ TbM.F ds c ds.length ∨ ∃ j, j ∈ TbM.fromOf ds c ∧ x ∈ Kp188.hangs ds j := fun x => TbM.mem_from hd
    refine for_list (K := K) (a := e) (xs := nI (TbM.F ds c ds.length).reverse) (fun j σ H3 => ∃ (v3 : Option V) (kvs : List (Key × V)) (ks : List Nat), σ = [some (.ref l), some (.int (c : Int)), some (.ref q), v3, none, none] ∧ Same H H3 ∧ H3 q = some (.dK kvs) ∧ Keys kvs ks ∧
      H3 e = some (.lst (nI (TbM.F ds c ds.length).reverse)) ∧ ∀ x, x ∈ ks ↔ x ∈ (TbM.F ds c ds.length).reverse.take j)
      ⟨none, [], [], rfl, s02, s2 _ _ upd_same, .nil, he2, fun x => by simp⟩ (fun j σ H3 _ ⟨_, _, _, _, _, _, _, z, _⟩ => SqL.of z) ?_ ?_
    · rintro j y σ H3 hj ⟨w3, kvs3, ks3, rfl, s3, hq3, hk3, he3, hx3⟩
      obtain ⟨m, hm, rfl⟩ := nI_get hj
      have hlt : ∀ x ∈ ks3, x < 256 := fun x hx => ltS x ((memS x).mpr (.inl (List.mem_reverse.mp (List.mem_of_mem_take ((hx3 x).mp hx)))))
      have hsz : kvs3.length < sizeLine := size256 (by rw [hk3.length]; have := nodup_le 256 ks3 hk3.nd hlt; omega)
      refine ⟨_, rfl, _, rfl, q, _, rfl, DPut.k (k := Sum.inl (m : Int)) hq3 hsz, ?_⟩
      obtain ⟨ks4, hk4, hx4⟩ := hk3.put m (.bl true)
      refine ⟨_, _, ks4, rfl, Same.own s3 hq, upd_same, hk4, by rw [upd_ne neq]; exact he3, fun x => ?_⟩
      rw [hx4, hx3, TbM.take_snoc hm, List.mem_append, List.mem_singleton]
    · rintro σ H3 ⟨w3, kvs3, ks3, rfl, s3, hq3, hk3, he3, hx3⟩
      rw [nI_length, List.take_length] at hx3
      have B3 := B.same s3
      have er : RgC ((((as.map V.ref).length : Nat) : Int) - 1) (-1) (-1) ds.length := by
        rw [hal]
        have e : ((ds.length : Int) - 1 - (-1)).toNat = ds.length := by omega
        have z := RgC.neg (i := (ds.length : Int) - 1) (j := -1) (by omega) (by omega) (by omega) (by omega)
        rw [e] at z
        exact z
      refine ⟨_, rfl, l, _, rfl, .inl (SqL.of B3.lst), _, _, rfl, rfl, _, rfl, _, rfl, _, _, _, ds.length, rfl, er, ?_⟩
      refine for_rangeC (lo := (((as.map V.ref).length : Nat) : Int) - 1) (c := -1) (n := ds.length) (fun i σ H' => ∃ (v3 v4 v5 : Option V) (kvs : List (Key × V)) (ks : List Nat), σ = [some (.ref l), some (.int (c : Int)), some (.ref q), v3, v4, v5] ∧ Same H H' ∧ H' q = some (.dK kvs) ∧ Keys kvs ks ∧
        (∀ x, x ∈ ks → x ∈ TbM.fromOf ds c) ∧ ∀ x, (x ∈ TbM.F ds c ds.length ∨ ∃ j, j ∈ TbM.fromOf ds c ∧ x ∈ Kp188.hangs ds j ∧ ds.length ≤ j + i) → x ∈ ks) ?_ ?_ ?_
      · refine ⟨w3, none, none, kvs3, ks3, rfl, s3, hq3, hk3, fun x hx => (memS x).mpr (.inl (List.mem_reverse.mp ((hx3 x).mp hx))), fun x hx => ?_⟩
        rcases hx with h | ⟨j, h1, _, h3⟩
        · exact (hx3 x).mpr (List.mem_reverse.mpr h)
        · have := TbM.from_lt h1
          omega
      · rintro i σ H' hi ⟨v3, v4, v5, kvs, ks, rfl, s1, hq1, hk, hin, hout⟩
        obtain ⟨t, ht⟩ : ∃ t, ds.length = t + i + 1 := ⟨ds.length - 1 - i, by omega⟩
        have htl : t < ds.length := by omega
        have ez : ((((as.map V.ref).length : Nat) : Int)) - 1 + (i : Nat) * (-1) = (t : Int) := by rw [hal]; omega
        rw [ez]
        have hiff : t ∈ ks ↔ t ∈ TbM.fromOf ds c := by
          refine ⟨hin t, fun h => hout t ?_⟩
          rcases (memS t).mp h with h1 | ⟨j, h1, h2⟩
          · exact .inl h1
          · have := (TbM.hangs_lt hd h2).1
            exact .inr ⟨j, h1, h2, by omega⟩
        refine ⟨_, rfl, _, rfl, q, _, rfl, DGet.k (k := Sum.inl (t : Int)) hq1, _, rfl, ?_⟩
        rw [hk.val]
        refine ite2 (fun h1 => ?_) (fun h1 => ?_)
        · have htk : t ∈ ks := of_decide_eq_true h1
          have htA := hiff.mp htk
          have B1 := B.same s1
          refine ⟨_, rfl, _, rfl, l, as, ds, t, rfl, B1, htl, hd, fun H2 e s2 he he2 => ?_⟩
          have s12 := Same.trans s1 s2
          refine ⟨e, rfl, ⟨_, SqL.of he2⟩, ?_⟩
          have neq : e ≠ q := fun z => by rw [z, hq1] at he; cases he
          have hgA : ∀ x, x ∈ Kp188.hangs ds t → x ∈ TbM.fromOf ds c := fun x hx => (memS x).mpr (.inr ⟨t, htA, hx⟩)
          refine for_list (K := K) (a := e) (xs := nI (Kp188.hangs ds t)) (fun j σ H3 => ∃ (v5 : Option V) (kvs : List (Key × V)) (ks3 : List Nat), σ = [some (.ref l), some (.int (c : Int)), some (.ref q), v3, some (.int (t : Int)), v5] ∧ Same H H3 ∧ H3 q = some (.dK kvs) ∧ Keys kvs ks3 ∧
            H3 e = some (.lst (nI (Kp188.hangs ds t))) ∧ ∀ x, x ∈ ks3 ↔ x ∈ ks ∨ x ∈ (Kp188.hangs ds t).take j)
            ⟨v5, kvs, ks, rfl, s12, s2 _ _ hq1, hk, he2, fun x => by simp⟩ (fun j σ H3 _ ⟨_, _, _, _, _, _, _, z, _⟩ => SqL.of z) ?_ ?_
          · rintro j y σ H3 hj ⟨w5, kvs3, ks3, rfl, s3, hq3, hk3, he3, hx3⟩
            obtain ⟨m, hm, rfl⟩ := nI_get hj
            have hlt : ∀ x ∈ ks3, x < 256 := fun x hx => by
              rcases (hx3 x).mp hx with z | z
              · exact ltS x (hin x z)
              · exact ltS x (hgA x (List.mem_of_mem_take z))
            have hsz : kvs3.length < sizeLine := size256 (by rw [hk3.length]; have := nodup_le 256 ks3 hk3.nd hlt; omega)
            refine ⟨_, rfl, _, rfl, q, _, rfl, DPut.k (k := Sum.inl (m : Int)) hq3 hsz, ?_⟩
            obtain ⟨ks4, hk4, hx4⟩ := hk3.put m (.bl true)
            refine ⟨_, _, ks4, rfl, Same.own s3 hq, upd_same, hk4, by rw [upd_ne neq]; exact he3, fun x => ?_⟩
            rw [hx4, hx3, TbM.take_snoc hm, List.mem_append, List.mem_singleton, or_assoc]
          · rintro σ H3 ⟨w5, kvs3, ks3, rfl, s3, hq3, hk3, he3, hx3⟩
            rw [nI_length, List.take_length] at hx3
            refine ⟨_, _, _, kvs3, ks3, rfl, s3, hq3, hk3, fun x hx => ?_, fun x hx => (hx3 x).mpr ?_⟩
            · rcases (hx3 x).mp hx with z | z
              · exact hin x z
              · exact hgA x z
            · rcases hx with z | ⟨j, h2, h3, h4⟩
              · exact .inl (hout x (.inl z))
              · by_cases ej : j = t
                · subst ej
                  exact .inr h3
                · exact .inl (hout x (.inr ⟨j, h2, h3, by omega⟩))
        · have htk : t ∉ ks := fun z => h1 (decide_eq_true z)
          refine ⟨_, _, _, kvs, ks, rfl, s1, hq1, hk, hin, fun x hx => hout x ?_⟩
          rcases hx with z | ⟨j, h2, h3, h4⟩
          · exact .inl z
          · refine .inr ⟨j, h2, h3, ?_⟩
            have : j ≠ t := fun z => htk (hiff.mpr (z ▸ h2))
            omega
      · rintro σ H' ⟨v3, v4, v5, kvs, ks, rfl, s1, hq1, hk, hin, hout⟩
        refine ⟨_, rfl, q, kvs, up ks, rfl, hq1, hk.eq, fun ms p hp hs hf => ?_⟩
        refine k _ p (Same.new s1 hf) (Same.free s1 hf) ?_
        rw [upd_same, sorted_is hp hs hk.nd (TbM.from_sorted ds c) fun x => ⟨hin x, fun hx => hout x ?_⟩]
        rcases (memS x).mp hx with z | ⟨j, h2, h3⟩
        · exact .inl z
        · exact .inr ⟨j, h2, h3, by omega⟩
end
end Tb

-- Hangers
set_option Elab.async false
set_option linter.all false
set_option maxRecDepth 100000
set_option maxHeartbeats 2000000
namespace Tb
open PySem PySem.Spec PyProof.Rows L2
open Kp188 (Done)
def spHangers (C : Addr) : Sp := fun vs H Q _ => ∃ (l : Addr) (as : List Addr) (ds : List Done) (n : Nat) (d : Done), vs = [.ref l, .int (n : Int)] ∧ StepsAt C H l as ds ∧ ds[n]? = some d ∧ ds.length ≤ 256 ∧
  ∀ (H' : Hp) (q : Addr), Same H H' → H q = none → H' q = some (.lst (nI (TbM.hits ds (TbM.fedOf d.step) n))) → Q (.ref q) H'
theorem fed_len (s : Kp188.Step) : (TbM.fedOf s).length ≤ 4 := by
  unfold TbM.fedOf Kp188.Step.sets Kp188.Step.adds
  rw [List.length_append]
  split <;> split <;> simp
theorem reads_len (s : Kp188.Step) : s.reads.length ≤ 4 := by
  unfold Kp188.Step.reads
  split <;> simp
theorem range_filter_succ (p : Nat → Bool) (t : Nat) : (List.range (t + 1)).filter p = (List.range t).filter p ++ (if p t then [t] else []) := by
  rw [List.range_succ, List.filter_append]
  congr 1
  cases h : p t <;> simp [h]
theorem range_filter_none (p : Nat → Bool) (a : Nat) : ∀ b, a ≤ b → (∀ t, a ≤ t → t < b → p t = false) → (List.range b).filter p = (List.range a).filter p
  | 0, h, _ => by rw [show a = 0 by omega]
  | b + 1, h, hp => by
    by_cases e : a = b + 1
    · rw [e]
    · rw [range_filter_succ, range_filter_none p a b (by omega) fun t h1 h2 => hp t h1 (by omega), hp b (by omega) (by omega)]
      simp
theorem noSet_succ {ds : List Done} {c n t : Nat} (h : n < t) : TbM.noSet ds c n (t + 1) = (TbM.noSet ds c n t && !TbM.setsC ds c t) := by
  unfold TbM.noSet
  rw [List.range_succ, List.all_append]
  congr 1
  simp
  omega
theorem noSet_first {ds : List Done} {c n : Nat} : TbM.noSet ds c n (n + 1) = true := TbM.noSet_iff.mpr fun m h1 h2 => by omega
section
variable {P : Program} {w : World} {K : PySem.W.Frag} {mg : Str → Option Value} {base : Heap}
/-- any([cell in fed for cell in step.reads]) -/
theorem rd_any {C : Addr} (T : Txt K mg C) {σ : L2.St} {H : Hp} {e a dx pr : Addr} {fs : List (Str × V)} {fedl rs : List Nat} {Q : Bool → Hp → Prop} (h3 : σ[3]? = some (some (.ref e))) (h5 : σ[5]? = some (some (.ref a))) (h6 : σ[6]? = some none) (hl : σ.length = 7)
    (ho : H a = some (.ins C dx fs)) (hf : fs.lookup ("reads" : Str) = some (.ref pr)) (hr : H pr = some (.lst (nI rs))) (he : H e = some (.lst (nI fedl))) (hrs : rs.length ≤ 4)
    (k : ∀ H' : Hp, Same H H' → Q (rs.any fedl.contains) H') :
    (fun σ H (Q : Bool → Hp → Prop) => tCB (rAny K) (tCons (tLc (iList K (tFld K (tVar 5) "reads")) (gName 6) tYes (tOp (rIn K false) (tVar 6) (tVar 3)) [6]) tNil) σ H fun x H' => ∃ b, TruV K x H' b ∧ Q b H') σ H Q := by
  refine ⟨_, h5, a, C, dx, fs, _, rfl, ho, T.cl, T.nReads, hf, pr, rfl, ⟨_, SqL.of hr⟩, fun D hD => ?_⟩
  refine lc_list (K := K) (a := pr) (xs := nI rs) (fun j H' => Same H H' ∧ H' D = some (.lst ((rs.take j).map fun c => V.bl (fedl.contains c)))) ⟨Same.new (Same.refl H) hD, upd_same⟩ (fun j H' _ z => SqL.of (z.1 _ _ hr)) ?_ ?_
  · rintro j x H' hj ⟨s1, hD1⟩
    obtain ⟨c, hc, rfl⟩ := nI_get hj
    have e3 : ((wipe σ [6]).set 6 (some (.int (c : Int))))[3]? = some (some (.ref e)) := by
      show (((σ.set 6 none)).set 6 _)[3]? = _
      rw [List.getElem?_set_ne (by decide), List.getElem?_set_ne (by decide)]
      exact h3
    have e6 : ((wipe σ [6]).set 6 (some (.int (c : Int))))[6]? = some (some (.int (c : Int))) := by
      show (((σ.set 6 none)).set 6 _)[6]? = _
      rw [List.getElem?_set_self (by rw [List.length_set]; omega)]
    refine ⟨?_, ?_⟩
    · show (((σ.set 6 none).set 6 _).set 6 none) = σ.set 6 none
      rw [List.set_set, List.set_set]
    · refine ⟨_, e6, _, e3, e, _, rfl, .inl (SqL.of (s1 _ _ he)), rfl, nI_flat _, _, hD1, size256 (by rw [List.length_map, List.length_take]; omega), ?_, ?_⟩
      · exact Same.own s1 hD
      · rw [upd_same, TbM.take_snoc hc, List.map_append]
        show some (HO.lst (_ ++ [V.bl (inV _ _)])) = _
        rw [inV_nI]
        rfl
  · rintro H' ⟨s1, hD1⟩
    rw [nI_length, List.take_length] at hD1
    refine ⟨D, rs.map fedl.contains, rfl, SqL.of (by rw [hD1, List.map_map]; rfl), _, rfl, ?_⟩
    rw [List.any_map]
    exact k H' s1
/-- fed = [cell for cell in fed if cell not in step.sets] -/
theorem rd_fed {C : Addr} (T : Txt K mg C) {σ : L2.St} {H : Hp} {e a dx ps : Addr} {fs : List (Str × V)} {fedl ss : List Nat} {D : Ends} (h3 : σ[3]? = some (some (.ref e))) (h5 : σ[5]? = some (some (.ref a))) (hl : σ.length = 7)
    (ho : H a = some (.ins C dx fs)) (hf : fs.lookup ("sets" : Str) = some (.ref ps)) (hs : H ps = some (.lst (nI ss))) (he : H e = some (.lst (nI fedl))) (hfl : fedl.length ≤ 4)
    (k : ∀ (H' : Hp) (q : Addr), Same H H' → H q = none → H' q = some (.lst (nI (fedl.filter fun c => !ss.contains c))) → D.nx (σ.set 3 (some (.ref q))) H') :
    tAsg (tLc (iList K (tVar 3)) (gName 6) (tTest (tOp (rIn K true) (tVar 6) (tFld K (tVar 5) "sets"))) (tVar 6) [6]) (gName 3) D σ H := by
  refine ⟨_, h3, e, rfl, ⟨_, SqL.of he⟩, fun B hB => ?_⟩
  refine lc_list (K := K) (a := e) (xs := nI fedl) (fun j H' => Same H H' ∧ H' B = some (.lst (nI ((fedl.take j).filter fun c => !ss.contains c)))) ⟨Same.new (Same.refl H) hB, upd_same⟩ (fun j H' _ z => SqL.of (z.1 _ _ he)) ?_ ?_
  · rintro j x H' hj ⟨s1, hB1⟩
    obtain ⟨c, hc, rfl⟩ := nI_get hj
    have e5 : ((wipe σ [6]).set 6 (some (.int (c : Int))))[5]? = some (some (.ref a)) := by
      show (((σ.set 6 none)).set 6 _)[5]? = _
      rw [List.getElem?_set_ne (by decide), List.getElem?_set_ne (by decide)]
      exact h5
    have e6 : ((wipe σ [6]).set 6 (some (.int (c : Int))))[6]? = some (some (.int (c : Int))) := by
      show (((σ.set 6 none)).set 6 _)[6]? = _
      rw [List.getElem?_set_self (by rw [List.length_set]; omega)]
    have hlen : (nI ((fedl.take j).filter fun c => !ss.contains c)).length < sizeLine := size256 (by
      rw [nI_length]
      have := List.length_filter_le (fun c => !ss.contains c) (fedl.take j)
      rw [List.length_take] at this
      omega)
    refine ⟨?_, _, e6, _, e5, a, C, dx, fs, _, rfl, s1 _ _ ho, T.cl, T.nSets, hf, ps, _, rfl, .inl (SqL.of (s1 _ _ hs)), rfl, nI_flat _, _, rfl, ?_⟩
    · show (((σ.set 6 none).set 6 _).set 6 none) = σ.set 6 none
      rw [List.set_set, List.set_set]
    · show if (!inV (.int (c : Int)) (nI ss)) = true then _ else _
      rw [inV_nI]
      refine ite2 (fun h => ?_) (fun h => ?_)
      · refine ⟨_, e6, _, hB1, hlen, Same.own s1 hB, ?_⟩
        rw [upd_same, nI_snoc, TbM.take_snoc hc, List.filter_append, List.filter_cons, if_pos h]
        rfl
      · refine ⟨s1, ?_⟩
        rw [hB1, TbM.take_snoc hc, List.filter_append, List.filter_cons, if_neg h]
        simp
  · rintro H' ⟨s1, hB1⟩
    rw [nI_length, List.take_length] at hB1
    exact k H' B s1 hB hB1
theorem scHangers : FnScope ["steps", "n", "found", "fed", "later", "step", "cell"] ["steps", "n"] (defScope sHangers) := ⟨rfl, rfl, rfl, by decide +kernel, rfl, by decide +kernel, by decide +kernel⟩
theorem ok_hangers {f C : Addr} {fd : FuncData} (F : Fun K "hangers" "hangers" sHangers f fd) (T : Txt K mg C) : FnOk P w K mg base CX0 1 f fd ["steps", "n"] (spHangers C) := by
  refine F.ok scHangers (fun vs H Q E h => ?_) (fun cdv A outer s H vs Q E hr h => ?_)
  · obtain ⟨l, as, ds, n, d, rfl, _⟩ := h
    rfl
  · obtain ⟨l, as, ds, n, dn, rfl, B, hdn, hd, k⟩ := h
    have hn : n < ds.length := (List.getElem?_eq_some_iff.mp hdn).1
    refine ⟨_, pss_cons (ps_set (i := 2) scHangers.nd rfl (Or.inl rfl) (pe_lst pa_nil))
      (pss_cons (ps_set (i := 3) scHangers.nd rfl (Or.inr rfl) (pe_op op_cat (pe_fld (pe_ix ix_list (pv 0) (pv 1) (fun _ _ => rfl)) rfl) (pe_fld (pe_ix ix_list (pv 0) (pv 1) (fun _ _ => rfl)) rfl)))
      (pss_cons (ps_for PassesOwn.never rfl (pi_range2 rfl T.range (pa_cons (pe_op op_add (pv 1) pe_int) (pa_cons (pe_callB call_len_seq (by rfl) T.len PySem.boot_len (pa_cons (pv 0) pa_nil)) pa_nil))) (pg_name (i := 4) scHangers.nd rfl (Or.inl rfl))
        (pss_cons (ps_if (pt_cmpR op_eq (pe_callB call_len_seq (by rfl) T.len PySem.boot_len (pa_cons (pv 3) pa_nil)) pe_int (nomark _)) (pss_one ps_break) pss_nil)
        (pss_cons (ps_set (i := 5) scHangers.nd rfl (Or.inr rfl) (pe_ix ix_list (pv 0) (pv 4) (fun _ _ => rfl)))
        (pss_one (ps_if (pt_truth (pe_fld (pv 5) rfl) (fun _ => rfl))
          (pss_cons (ps_if (pt_truth (pe_callB (cr_any rfl) (by rfl) T.any boot_any0 (pa_cons
              (pe_lc (te := tOp (rIn K false) (tVar 6) (tVar 3)) rfl scHangers.nd (pi_list (pe_fld (pv 5) rfl)) (blkOk_by (own := [("cell", 6)]) (by show blkC ["steps", "n", "found", "fed", "later", "step", "cell"] (defScope sHangers) _ _ = true; decide +kernel)) (fun _ _ _ _ _ => pg_name (i := 6) scHangers.nd rfl (Or.inl rfl)) (fun _ _ _ _ _ => pts_nil)
                (fun _ _ _ _ _ => pe_cmpR op_in_seq (pv 6) (pv 3) (by with_unfolding_all rfl))) pa_nil)) (fun _ => rfl))
            (pss_one (ps_expr (pe_bm PySem.F.plainAttrs_list PySem.F.slot_list_append PySem.F.type_list_append mt_append (pv 2) (pa_cons (pv 4) pa_nil)))) pss_nil)
          (pss_one (ps_set (i := 3) scHangers.nd rfl (Or.inr rfl)
              (pe_lc (tt := tTest (tOp (rIn K true) (tVar 6) (tFld K (tVar 5) "sets"))) rfl scHangers.nd (pi_list (pv 3)) (blkOk_by (own := [("cell", 6)]) (by show blkC ["steps", "n", "found", "fed", "later", "step", "cell"] (defScope sHangers) _ _ = true; decide +kernel)) (fun _ _ _ _ _ => pg_name (i := 6) scHangers.nd rfl (Or.inl rfl)) (fun _ _ _ _ _ => pts_one (pt_cmpR op_notIn_seq (pv 6) (pe_fld (pv 5) (by rfl)) (by with_unfolding_all rfl)))
                (fun _ _ _ _ _ => pv 6)))))
          pss_nil)))))
      (pss_one (ps_ret (pv 2))))), ?_⟩
    refine ⟨Nat.zero_le _, fun q hq => ?_⟩
    have s0 : Same H (upd H q (.lst [])) := Same.new (Same.refl H) hq
    obtain ⟨a, ha, ha2, dx, pc, pr, ps, pa, ph, Z0⟩ := B.get hdn
    have B0 := B.same s0
    have Z := Z0.same s0
    have hfl := fed_len dn.step
    refine ⟨_, rfl, _, rfl, l, _, _, _, rfl, rfl, SqL.of B0.lst, at_of (j := n) (v := V.ref a) rfl ha2, a, C, dx, _, _, rfl, Z.obj, T.cl, T.nSets, sf_sets ..,
      _, rfl, _, rfl, l, _, _, _, rfl, rfl, SqL.of B0.lst, at_of (j := n) (v := V.ref a) rfl ha2, a, C, dx, _, _, rfl, Z.obj, T.cl, T.nAdds, sf_adds ..,
      ps, pa, _, _, rfl, rfl, Z.os, Z.oa, Nat.le_of_lt (size256 (by rw [nI_length, nI_length]; unfold TbM.fedOf at hfl; rw [List.length_append] at hfl; omega)), fun e he => ?_⟩
    have s00 : Same H (upd (upd H q (.lst [])) e (.lst (nI dn.step.sets ++ nI dn.step.adds))) := Same.new s0 he
    have heH : H e = none := s0.free he
    have neq : e ≠ q := fun z => by rw [z, upd_same] at he; cases he
    have B00 := B.same s00
    have hal : (as.map V.ref).length = ds.length := by rw [List.length_map]; exact B.len
    refine ⟨_, rfl, _, _, rfl, rfl, _, rfl, l, _, rfl, .inl (SqL.of B00.lst), _, _, rfl, ⟨by omega, by omega, by omega, by rw [hal]; omega⟩, ?_⟩
    have ecnt : ((((as.map V.ref).length : Nat) : Int) - ((n : Int) + 1)).toNat = ds.length - (n + 1) := by rw [hal]; omega
    rw [ecnt]
    refine for_range (lo := (n : Int) + 1) (n := ds.length - (n + 1)) (fun i σ H' => ∃ (v4 v5 : Option V) (e : Addr) (fedl : List Nat), σ = [some (.ref l), some (.int (n : Int)), some (.ref q), some (.ref e), v4, v5, none] ∧ Same H H' ∧
      H' q = some (.lst (nI ((List.range (n + 1 + i)).filter (TbM.hit ds (TbM.fedOf dn.step) n)))) ∧ H' e = some (.lst (nI fedl)) ∧ H e = none ∧ e ≠ q ∧ fedl.length ≤ 4 ∧
      ∀ c, c ∈ fedl ↔ c ∈ TbM.fedOf dn.step ∧ TbM.noSet ds c n (n + 1 + i) = true) ?_ ?_ ?_
    · refine ⟨none, none, e, TbM.fedOf dn.step, rfl, s00, ?_, by rw [upd_same, ← nI_append]; rfl, heH, neq, hfl, fun c => by rw [Nat.add_zero, noSet_first]; simp⟩
      rw [upd_ne (fun z => neq z.symm), upd_same, Nat.add_zero]
      have : (List.range (n + 1)).filter (TbM.hit ds (TbM.fedOf dn.step) n) = [] := by
        rw [List.filter_eq_nil_iff]
        intro t ht
        have := List.mem_range.mp ht
        unfold TbM.hit
        split
        · rw [decide_eq_false (by omega)]; simp
        · simp
      rw [this]
      rfl
    · rintro i σ H' hi ⟨v4, v5, e, fedl, rfl, s1, hq1, he1, heH, neq, hfl, hfed⟩
      obtain ⟨t, ht⟩ : ∃ t, t = n + 1 + i := ⟨_, rfl⟩
      have htl : t < ds.length := by omega
      obtain ⟨d, hdt⟩ : ∃ d, ds[t]? = some d := ⟨_, List.getElem?_eq_getElem htl⟩
      have B1 := B.same s1
      obtain ⟨a, ha, ha2, dx, pc, pr, ps, pa, ph, Z⟩ := B1.get hdt
      have ez : (n : Int) + 1 + (i : Nat) = (t : Int) := by omega
      rw [ez]
      rw [← ht] at hq1 hfed
      have ehit : TbM.hit ds (TbM.fedOf dn.step) n t = (d.there && d.step.reads.any fedl.contains) := by
        unfold TbM.hit
        rw [hdt]
        dsimp only
        rw [decide_eq_true (by omega), Bool.true_and]
        congr 1
        apply congrArg (fun p => d.step.reads.any p)
        funext c
        rw [Bool.eq_iff_iff, Bool.and_eq_true, List.contains_iff_mem, List.contains_iff_mem]
        exact (hfed c).symm
      have hlen : (nI ((List.range t).filter (TbM.hit ds (TbM.fedOf dn.step) n))).length < sizeLine := size256 (by
        rw [nI_length]
        have := List.length_filter_le (TbM.hit ds (TbM.fedOf dn.step) n) (List.range t)
        rw [List.length_range] at this
        omega)
      refine ⟨_, rfl, e, _, rfl, .inl (SqL.of he1), rfl, _, rfl, ?_⟩
      refine ite2 (fun h0 => ?_) (fun h0 => ?_)
      · -- nothing is fed: the walk ends
        have hz : fedl = [] := by
          have h1 : V.int (((nI fedl).length : Nat) : Int) = V.int 0 := of_decide_eq_true h0
          injection h1 with h2
          rw [nI_length] at h2
          exact List.eq_nil_of_length_eq_zero (by omega)
        refine ⟨_, rfl, k _ q s1 hq ?_⟩
        rw [hq1]
        unfold TbM.hits
        rw [range_filter_none _ t ds.length (by omega) fun u h1 h2 => ?_]
        unfold TbM.hit
        split
        · rename_i du hdu
          rw [Bool.and_eq_false_iff]
          right
          rw [Bool.and_eq_false_iff]
          right
          rw [List.any_eq_false]
          intro c _ hc
          rw [Bool.and_eq_true, List.contains_iff_mem] at hc
          have : c ∈ fedl := (hfed c).mpr ⟨hc.1, TbM.noSet_iff.mpr fun m h3 h4 => TbM.noSet_iff.mp hc.2 m h3 (by omega)⟩
          rw [hz] at this
          cases this
        · rfl
      · refine ⟨_, rfl, _, rfl, l, _, _, _, rfl, rfl, SqL.of B1.lst, at_of (j := t) (v := V.ref a) rfl ha2, ?_⟩
        refine ⟨_, rfl, a, C, dx, _, _, rfl, Z.obj, T.cl, T.nThere, sf_there .., _, rfl, ?_⟩
        refine ite2 (fun h1 => ?_) (fun h1 => ?_)
        · -- it is there
          have eS : ∀ c, TbM.setsC ds c t = d.step.sets.contains c := fun c => by rw [TbM.setsC_of hdt, h1, Bool.true_and]
          have fedNext : ∀ c, c ∈ (fedl.filter fun c => !d.step.sets.contains c) ↔ c ∈ TbM.fedOf dn.step ∧ TbM.noSet ds c n (t + 1) = true := fun c => by
            rw [List.mem_filter, hfed, noSet_succ (by omega), eS, Bool.and_eq_true, and_assoc]
          have lenNext : (fedl.filter fun c => !d.step.sets.contains c).length ≤ 4 := Nat.le_trans (List.length_filter_le _ _) hfl
          refine rd_any T (σ := [some (.ref l), some (.int (n : Int)), some (.ref q), some (.ref e), some (.int (t : Int)), some (.ref a), none]) rfl rfl rfl rfl Z.obj (sf_reads ..) Z.orr he1 (reads_len _) fun H2 s2 => ?_
          have s12 := Same.trans s1 s2
          have Z2 := Z.same s2
          refine ite2 (fun h2 => ?_) (fun h2 => ?_)
          · refine ⟨_, rfl, .inl ⟨rfl, _, SqL.of (s2 _ _ hq1)⟩, _, rfl, q, _, _, rfl, rfl, s2 _ _ hq1, hlen, ?_⟩
            have s3 : Same H (upd H2 q (.lst (nI ((List.range t).filter (TbM.hit ds (TbM.fedOf dn.step) n)) ++ [V.int (t : Int)]))) := Same.own s12 hq
            have B3 := B.same s3
            obtain ⟨a3, ha3, _, dx3, pc3, pr3, ps3, pa3, ph3, Z3⟩ := B3.get hdt
            have ea : a3 = a := Option.some.inj (ha3.symm.trans ha)
            subst ea
            refine rd_fed T (σ := [some (.ref l), some (.int (n : Int)), some (.ref q), some (.ref e), some (.int (t : Int)), some (.ref a3), none]) rfl rfl rfl Z3.obj (sf_sets ..) Z3.os (by rw [upd_ne neq]; exact s2 _ _ he1) hfl fun H4 e4 s4 hf4 he4 => ?_
            have nq4 : e4 ≠ q := fun z => by rw [z, upd_same] at hf4; cases hf4
            refine ⟨_, _, e4, _, rfl, Same.trans s3 s4, ?_, he4, s3.free hf4, nq4, lenNext, ?_⟩
            · rw [s4 _ _ upd_same, show n + 1 + (i + 1) = t + 1 by omega, range_filter_succ, ehit, h1, Bool.true_and, h2, nI_snoc]
              rfl
            · rw [show n + 1 + (i + 1) = t + 1 by omega]
              exact fedNext
          · refine rd_fed T (σ := [some (.ref l), some (.int (n : Int)), some (.ref q), some (.ref e), some (.int (t : Int)), some (.ref a), none]) rfl rfl rfl Z2.obj (sf_sets ..) Z2.os (s2 _ _ he1) hfl fun H4 e4 s4 hf4 he4 => ?_
            have nq4 : e4 ≠ q := fun z => by rw [z, s2 _ _ hq1] at hf4; cases hf4
            refine ⟨_, _, e4, _, rfl, Same.trans s12 s4, ?_, he4, s12.free hf4, nq4, lenNext, ?_⟩
            · rw [s4 _ _ (s2 _ _ hq1), show n + 1 + (i + 1) = t + 1 by omega, range_filter_succ, ehit, Bool.eq_false_iff.mpr h2, Bool.and_false]
              simp
            · rw [show n + 1 + (i + 1) = t + 1 by omega]
              exact fedNext
        · have h1' : d.there = false := Bool.eq_false_iff.mpr h1
          have eS : ∀ c, TbM.setsC ds c t = false := fun c => by rw [TbM.setsC_of hdt, h1', Bool.false_and]
          refine ⟨_, _, e, fedl, rfl, s1, ?_, he1, heH, neq, hfl, ?_⟩
          · rw [hq1, show n + 1 + (i + 1) = t + 1 by omega, range_filter_succ, ehit, h1', Bool.false_and]
            simp
          · intro c
            rw [show n + 1 + (i + 1) = t + 1 by omega, noSet_succ (by omega), eS, hfed]
            simp
    · rintro σ H' ⟨v4, v5, e, fedl, rfl, s1, hq1, he1, heH, neq, hfl, hfed⟩
      refine ⟨_, rfl, k _ q s1 hq ?_⟩
      rw [hq1, show n + 1 + (ds.length - (n + 1)) = ds.length by omega]
      rfl
end
end Tb

-- With
set_option Elab.async false
set_option linter.all false
set_option maxRecDepth 100000
set_option maxHeartbeats 2000000
namespace Tb
open PySem PySem.Spec PyProof.Rows L2
open Kp188 (Done)
def spWithAll (C : Addr) : Sp := fun vs H Q _ => ∃ (l : Addr) (as : List Addr) (ds : List Done) (n : Nat) (d : Done), vs = [.ref l, .int (n : Int)] ∧ StepsAt C H l as ds ∧ ds[n]? = some d ∧ d.there = true ∧ ds.length ≤ 256 ∧
  ∀ (H' : Hp) (q : Addr), Same H H' → H q = none → H' q = some (.lst (nI (TbM.aboveAll ds n))) → Q (.ref q) H'
section
variable {P : Program} {w : World} {K : PySem.W.Frag} {mg : Str → Option Value} {base : Heap}
theorem scWithAll : FnScope ["steps", "n", "found", "later", "hanger"] ["steps", "n"] (defScope sWithAll) := ⟨rfl, rfl, rfl, by decide +kernel, rfl, by decide +kernel, by decide +kernel⟩
theorem ok_withAll {f fH C : Addr} {fd fdH : FuncData} (F : Fun K "with_all_hangers" "with_all_hangers" sWithAll f fd) (T : Txt K mg C) (FH : Fun K "hangers" "hangers" sHangers fH fdH) (bH : Binds K fdH ["steps", "n"] []) (mH : mg "hangers" = some (.ref fH)) :
    FnOk P w K mg base CX0 2 f fd ["steps", "n"] (spWithAll C) := by
  have GH : FnOk P w K mg base CX0 1 fH fdH ["steps", "n"] (spHangers C) := ok_hangers FH T
  refine F.ok scWithAll (fun vs H Q E h => ?_) (fun cdv A outer s H vs Q E hr h => ?_)
  · obtain ⟨l, as, ds, n, d, rfl, _⟩ := h
    rfl
  · obtain ⟨l, as, ds, n, dn, rfl, B, hdn, hth, hd, k⟩ := h
    have hn : n < ds.length := (List.getElem?_eq_some_iff.mp hdn).1
    have hu := hu_of hr
    refine ⟨_, pss_cons (ps_set (i := 2) scWithAll.nd rfl (Or.inl rfl) (pe_disp (pps_cons (pv 1) pe_bl pps_nil) rfl rfl (fun z => by cases z) (by decide)))
      (pss_cons (ps_for PassesOwn.never rfl (pi_range2 rfl T.range (pa_cons (pv 1) (pa_cons (pe_callB call_len_seq (by rfl) T.len PySem.boot_len (pa_cons (pv 0) pa_nil)) pa_nil))) (pg_name (i := 3) scWithAll.nd rfl (Or.inl rfl))
        (pss_one (ps_if (pt_cmp (pc_din hu (pv 3) (pv 2)))
          (pss_one (ps_for PassesOwn.never rfl (pi_list (pe_call GH hr rfl mH FH.kp bH .nil pass0 (pa_cons (pv 0) (pa_cons (pv 3) pa_nil)))) (pg_name (i := 4) scWithAll.nd rfl (Or.inl rfl))
            (pss_one (ps_dput hu (pv 2) (pv 4) pe_bl rfl)))) pss_nil)))
      (pss_one (ps_ret (pe_callB (cr_sortedD rfl) (by rfl) T.sorted boot_sorted0 (pa_cons (pv 2) pa_nil))))), ?_⟩
    intro q hq
    refine ⟨_, rfl, upd_same, [(Sum.inl (n : Int), .bl true)], rfl, (by show 1 ≤ 15; decide), ?_⟩
    obtain ⟨H0, eH0⟩ : ∃ H0, H0 = upd (upd H q (.dK [])) q (.dK (mergeK [] [(Sum.inl (n : Int), V.bl true)])) := ⟨_, rfl⟩
    rw [← eH0]
    have s0 : Same H H0 := by rw [eH0]; exact Same.own (Same.new (Same.refl H) hq) hq
    have hq0 : H0 q = some (.dK [(Sum.inl (n : Int), V.bl true)]) := by rw [eH0, upd_same]; rfl
    have hK0 : Keys [((Sum.inl (n : Int) : Key), V.bl true)] [n] := ⟨rfl, by simp⟩
    have B0 := B.same s0
    have hal : (as.map V.ref).length = ds.length := by rw [List.length_map]; exact B.len
    refine ⟨_, rfl, _, rfl, l, _, rfl, .inl (SqL.of B0.lst), _, _, rfl, ⟨by omega, by omega, by omega, by rw [hal]; omega⟩, ?_⟩
    have ecnt : ((((as.map V.ref).length : Nat) : Int) - (n : Int)).toNat = ds.length - n := by rw [hal]; omega
    rw [ecnt]
    have memA : ∀ x, x ∈ TbM.aboveAll ds n ↔ x = n ∨ (n < x ∧ x < ds.length ∧ Kp188.isThere ds x = true ∧ ∃ j, j ∈ Kp188.hangs ds x ∧ j ∈ TbM.aboveAll ds n) := fun x => TbM.mem_aboveAll hn hd
    have ltA : ∀ x, x ∈ TbM.aboveAll ds n → n ≤ x ∧ x < ds.length := fun x hx => TbM.aboveAll_lt hn hd hx
    refine for_range (lo := (n : Int)) (n := ds.length - n) (fun i σ H' => ∃ (v3 v4 : Option V) (kvs : List (Key × V)) (ks : List Nat), σ = [some (.ref l), some (.int (n : Int)), some (.ref q), v3, v4] ∧ Same H H' ∧ H' q = some (.dK kvs) ∧ Keys kvs ks ∧
      (∀ x, x ∈ ks → x ∈ TbM.aboveAll ds n) ∧ ∀ x, x ∈ TbM.aboveAll ds n → (x = n ∨ ∃ j, j ∈ Kp188.hangs ds x ∧ j ∈ TbM.aboveAll ds n ∧ j < n + i) → x ∈ ks) ?_ ?_ ?_
    · refine ⟨none, none, _, [n], rfl, s0, hq0, hK0, fun x hx => (memA x).mpr (.inl (by simpa using hx)), fun x _ hx => ?_⟩
      rcases hx with e | ⟨j, _, h2, h3⟩
      · simp [e]
      · have := (ltA j h2).1
        omega
    · rintro i σ H' hi ⟨v3, v4, kvs, ks, rfl, s1, hq1, hk, hin, hout⟩
      obtain ⟨t, ht⟩ : ∃ t, t = n + i := ⟨_, rfl⟩
      have htl : t < ds.length := by omega
      have ez : (n : Int) + (i : Nat) = (t : Int) := by omega
      rw [ez]
      rw [← ht] at hout
      have hiff : t ∈ ks ↔ t ∈ TbM.aboveAll ds n := by
        refine ⟨hin t, fun h => hout t h ?_⟩
        rcases (memA t).mp h with e | ⟨_, _, _, j, h1, h2⟩
        · exact .inl e
        · exact .inr ⟨j, h1, h2, (TbM.hangs_lt hd h1).1⟩
      refine ⟨_, rfl, _, rfl, q, _, rfl, DGet.k (k := Sum.inl (t : Int)) hq1, _, rfl, ?_⟩
      rw [hk.val]
      refine ite2 (fun h1 => ?_) (fun h1 => ?_)
      · have htk : t ∈ ks := of_decide_eq_true h1
        have htA := hiff.mp htk
        have hth2 := TbM.aboveAll_there hdn hth hd htA
        obtain ⟨d, hdt⟩ : ∃ d, ds[t]? = some d := ⟨_, List.getElem?_eq_getElem htl⟩
        have hdth : d.there = true := by unfold Kp188.isThere at hth2; rw [hdt] at hth2; exact hth2
        have B1 := B.same s1
        refine ⟨_, rfl, _, rfl, l, as, ds, t, d, rfl, B1, hdt, hd, fun H2 e s2 he he2 => ?_⟩
        rw [← TbM.hanging_there hdt hdth hd] at he2
        have s12 := Same.trans s1 s2
        refine ⟨e, rfl, ⟨_, SqL.of he2⟩, ?_⟩
        have neq : e ≠ q := fun z => by rw [z, hq1] at he; cases he
        have hgA : ∀ x, x ∈ Kp188.hanging ds t → x ∈ TbM.aboveAll ds n := fun x hx => by
          obtain ⟨h2, h3, h4⟩ := TbM.mem_hanging.mp hx
          have := (TbM.hangs_lt hd h4).1
          have := (ltA t htA).1
          exact (memA x).mpr (.inr ⟨by omega, h2, h3, t, h4, htA⟩)
        refine for_list (K := K) (a := e) (xs := nI (Kp188.hanging ds t)) (fun j σ H3 => ∃ (v4 : Option V) (kvs : List (Key × V)) (ks3 : List Nat), σ = [some (.ref l), some (.int (n : Int)), some (.ref q), some (.int (t : Int)), v4] ∧ Same H H3 ∧ H3 q = some (.dK kvs) ∧ Keys kvs ks3 ∧
          H3 e = some (.lst (nI (Kp188.hanging ds t))) ∧ ∀ x, x ∈ ks3 ↔ x ∈ ks ∨ x ∈ (Kp188.hanging ds t).take j)
          ⟨v4, kvs, ks, rfl, s12, s2 _ _ hq1, hk, he2, fun x => by simp⟩ (fun j σ H3 _ ⟨_, _, _, _, _, _, _, z, _⟩ => SqL.of z) ?_ ?_
        · rintro j y σ H3 hj ⟨w4, kvs3, ks3, rfl, s3, hq3, hk3, he3, hx3⟩
          obtain ⟨m, hm, rfl⟩ := nI_get hj
          have hlt : ∀ x ∈ ks3, x < 256 := fun x hx => by
            have hA : x ∈ TbM.aboveAll ds n := by
              rcases (hx3 x).mp hx with z | z
              · exact hin x z
              · exact hgA x (List.mem_of_mem_take z)
            have := (ltA x hA).2
            omega
          have hsz : kvs3.length < sizeLine := size256 (by rw [hk3.length]; have := nodup_le 256 ks3 hk3.nd hlt; omega)
          refine ⟨_, rfl, _, rfl, q, _, rfl, DPut.k (k := Sum.inl (m : Int)) hq3 hsz, ?_⟩
          obtain ⟨ks4, hk4, hx4⟩ := hk3.put m (.bl true)
          refine ⟨_, _, ks4, rfl, Same.own s3 hq, upd_same, hk4, by rw [upd_ne neq]; exact he3, fun x => ?_⟩
          rw [hx4, hx3, TbM.take_snoc hm, List.mem_append, List.mem_singleton, or_assoc]
        · rintro σ H3 ⟨w4, kvs3, ks3, rfl, s3, hq3, hk3, he3, hx3⟩
          rw [nI_length, List.take_length] at hx3
          refine ⟨_, _, kvs3, ks3, rfl, s3, hq3, hk3, fun x hx => ?_, fun x hx hj => (hx3 x).mpr ?_⟩
          · rcases (hx3 x).mp hx with z | z
            · exact hin x z
            · exact hgA x z
          · rcases hj with z | ⟨j, h2, h3, h4⟩
            · exact .inl (hout x hx (.inl z))
            · by_cases ej : j = t
              · subst ej
                exact .inr (TbM.mem_hanging.mpr ⟨(ltA x hx).2, TbM.aboveAll_there hdn hth hd hx, h2⟩)
              · exact .inl (hout x hx (.inr ⟨j, h2, h3, by omega⟩))
      · have htk : t ∉ ks := fun z => h1 (decide_eq_true z)
        refine ⟨_, _, kvs, ks, rfl, s1, hq1, hk, hin, fun x hx hj => hout x hx ?_⟩
        rcases hj with z | ⟨j, h2, h3, h4⟩
        · exact .inl z
        · refine .inr ⟨j, h2, h3, ?_⟩
          have : j ≠ t := fun z => htk (hiff.mpr (z ▸ h3))
          omega
    · rintro σ H' ⟨v3, v4, kvs, ks, rfl, s1, hq1, hk, hin, hout⟩
      refine ⟨_, rfl, q, kvs, up ks, rfl, hq1, hk.eq, fun ms p hp hs hf => ?_⟩
      refine k _ p (Same.new s1 hf) (Same.free s1 hf) ?_
      rw [upd_same, sorted_is hp hs hk.nd (TbM.aboveAll_sorted n hd) fun x => ⟨hin x, fun hx => hout x hx ?_⟩]
      rcases (memA x).mp hx with z | ⟨_, h2, _, j, h3, h4⟩
      · exact .inl z
      · have := (TbM.hangs_lt hd h3).1
        exact .inr ⟨j, h3, h4, by omega⟩
end
end Tb

-- Init
set_option Elab.async false
set_option linter.all false
set_option maxRecDepth 100000
set_option maxHeartbeats 2000000
namespace Tb
open PySem PySem.Spec PyProof.Rows L2
open Kp188 (Done)
/-! ### the tables of kinds -/
/-- a tuple of tuples of numbers at the text's top -/
structure Tab (K : PySem.W.Frag) (a : Addr) (rows : List (List Nat)) (rs : List Addr) : Prop where
  top : ∀ H, SqT K H a (rs.map V.ref)
  row : ∀ (j : Nat) (row : List Nat), rows[j]? = some row → ∃ r, rs[j]? = some r ∧ ∀ H, SqT K H r (nI row)
def readsIx : List (List Nat) := [[], [], [0], [0, 1], [0, 1], [0, 1]]
def setsIx : List (List Nat) := [[0], [], [1], [2], [0, 1], [1]]
def addsIx : List (List Nat) := [[], [0], [], [], [], []]
def pick (s : Kp188.Step) (k : Nat) : Nat := [s.a, s.b, s.c].getD k 0
theorem kind_rows (s : Kp188.Step) (h : s.kind ≤ 5) : ∃ r1 r2 r3, readsIx[s.kind]? = some r1 ∧ setsIx[s.kind]? = some r2 ∧ addsIx[s.kind]? = some r3 ∧ s.reads = r1.map (pick s) ∧ s.sets = r2.map (pick s) ∧ s.adds = r3.map (pick s) ∧
    (∀ k ∈ r1, k < 3) ∧ (∀ k ∈ r2, k < 3) ∧ (∀ k ∈ r3, k < 3) ∧ r1.length ≤ 3 ∧ r2.length ≤ 3 ∧ r3.length ≤ 3 := by
  obtain ⟨who, kind, a, b, c, v⟩ := s
  have h' : kind ≤ 5 := h
  match kind, h' with
  | 0, _ => exact ⟨_, _, _, rfl, rfl, rfl, rfl, rfl, rfl, by decide, by decide, by decide, by decide, by decide, by decide⟩
  | 1, _ => exact ⟨_, _, _, rfl, rfl, rfl, rfl, rfl, rfl, by decide, by decide, by decide, by decide, by decide, by decide⟩
  | 2, _ => exact ⟨_, _, _, rfl, rfl, rfl, rfl, rfl, rfl, by decide, by decide, by decide, by decide, by decide, by decide⟩
  | 3, _ => exact ⟨_, _, _, rfl, rfl, rfl, rfl, rfl, rfl, by decide, by decide, by decide, by decide, by decide, by decide⟩
  | 4, _ => exact ⟨_, _, _, rfl, rfl, rfl, rfl, rfl, rfl, by decide, by decide, by decide, by decide, by decide, by decide⟩
  | 5, _ => exact ⟨_, _, _, rfl, rfl, rfl, rfl, rfl, rfl, by decide, by decide, by decide, by decide, by decide, by decide⟩
/-- all but what stands at p is kept -/
def But (p : Addr) (H H' : Hp) : Prop := ∀ b o, H b = some o → b ≠ p → H' b = some o
theorem But.refl (p : Addr) (H : Hp) : But p H H := fun _ _ e _ => e
theorem But.same {p : Addr} {H H1 H2 : Hp} (a : But p H H1) (b : Same H1 H2) : But p H H2 := fun c o e n => b _ _ (a c o e n)
theorem But.upd {p : Addr} {H H1 : Hp} {o : HO} (a : But p H H1) : But p H (upd H1 p o) := fun c u e n => by
  rw [upd_ne n]
  exact a c u e n
theorem But.free {p q : Addr} {H H1 : Hp} (a : But p H H1) {op : HO} (hp : H1 p = some op) (h : H1 q = none) : H q = none := by
  cases e : H q with
  | none => rfl
  | some o =>
    by_cases n : q = p
    · rw [n, hp] at h
      cases h
    · rw [a q o e n] at h
      cases h
theorem len_put {f : Str} {v : V} {fs : List (Str × V)} {n : Nat} (h : fs.length ≤ n) : (putF f v fs).length ≤ n + 1 := Nat.le_trans (length_putF f v fs) (Nat.succ_le_succ h)
def spStepInit (C : Addr) : Sp := fun vs H Q _ => ∃ (p dx pc : Addr) (s : Kp188.Step), vs = [.ref p, .int (s.who : Int), .int (s.kind : Int), .ref pc, .int (s.v : Int)] ∧ H p = some (.ins C dx []) ∧ H pc = some (.lst (nI [s.a, s.b, s.c])) ∧ s.kind ≤ 5 ∧
  ∀ (H' : Hp) (pr ps pa ph : Addr), But p H H' → H' p = some (.ins C dx (sf ⟨s, true, []⟩ pc pr ps pa ph)) → H' pr = some (.lst (nI s.reads)) → H' ps = some (.lst (nI s.sets)) → H' pa = some (.lst (nI s.adds)) → H' ph = some (.lst []) →
    H pr = none → H ps = none → H pa = none → H ph = none → Q .non H'
section
variable {P : Program} {w : World} {K : PySem.W.Frag} {mg : Str → Option Value} {base : Heap}
/-- [cells[k] for k in TABLE[kind]] -/
theorem rd_pick {σ : L2.St} {H : Hp} {Q : VK} {aT pc : Addr} {rows : List (List Nat)} {rs : List Addr} {row : List Nat} {s : Kp188.Step} (tb : Tab K aT rows rs) (h2 : σ[2]? = some (some (.int (s.kind : Int)))) (h3 : σ[3]? = some (some (.ref pc))) (hl : σ.length = 6)
    (hrow : rows[s.kind]? = some row) (hpc : H pc = some (.lst (nI [s.a, s.b, s.c]))) (hk : ∀ k ∈ row, k < 3) (hlen : row.length ≤ 3)
    (k : ∀ (H' : Hp) (q : Addr), Same H H' → H q = none → H' q = some (.lst (nI (row.map (pick s)))) → Q (.ref q) H') :
    tLc (iTup K (tOp (rIxT K) (tC (.ref aT)) (tVar 2))) (gName 5) tYes (tOp (rIxL K) (tVar 3) (tVar 5)) [5] σ H Q := by
  obtain ⟨r, hr, hr2⟩ := tb.row _ _ hrow
  have hr3 : (rs.map V.ref)[s.kind]? = some (V.ref r) := by rw [List.getElem?_map, hr]; rfl
  refine ⟨_, h2, aT, _, _, _, rfl, rfl, tb.top H, at_of (j := s.kind) (v := V.ref r) rfl hr3, r, rfl, ⟨_, hr2 H⟩, fun D hD => ?_⟩
  refine lc_tup (K := K) (a := r) (xs := nI row) (fun j H' => Same H H' ∧ H' D = some (.lst (nI ((row.take j).map (pick s))))) ⟨Same.new (Same.refl H) hD, upd_same⟩ (fun j H' _ z => hr2 H') ?_ ?_
  · rintro j x H' hj ⟨s1, hD1⟩
    obtain ⟨c, hc, rfl⟩ := nI_get hj
    have hc3 : c < 3 := hk c (List.mem_of_getElem? hc)
    have hpk : ([s.a, s.b, s.c] : List Nat)[c]? = some (pick s c) := by
      match c, hc3 with
      | 0, _ => rfl
      | 1, _ => rfl
      | 2, _ => rfl
    have e3 : ((wipe σ [5]).set 5 (some (.int (c : Int))))[3]? = some (some (.ref pc)) := by
      show (((σ.set 5 none)).set 5 _)[3]? = _
      rw [List.getElem?_set_ne (by decide), List.getElem?_set_ne (by decide)]
      exact h3
    have e5 : ((wipe σ [5]).set 5 (some (.int (c : Int))))[5]? = some (some (.int (c : Int))) := by
      show (((σ.set 5 none)).set 5 _)[5]? = _
      rw [List.getElem?_set_self (by rw [List.length_set]; omega)]
    refine ⟨?_, ?_⟩
    · show (((σ.set 5 none).set 5 _).set 5 none) = σ.set 5 none
      rw [List.set_set, List.set_set]
    · refine ⟨_, e3, _, e5, pc, _, _, _, rfl, rfl, SqL.of (s1 _ _ hpc), at_of (j := c) (v := V.int (pick s c : Int)) rfl (nI_at hpk), _, hD1, size256 (by rw [nI_length, List.length_map, List.length_take]; omega), Same.own s1 hD, ?_⟩
      rw [upd_same, TbM.take_snoc hc, List.map_append, nI_append]
      rfl
  · rintro H' ⟨s1, hD1⟩
    rw [nI_length, List.take_length] at hD1
    exact k H' D s1 hD hD1
theorem scStepInit : FnScope ["self", "who", "kind", "cells", "v", "k"] ["self", "who", "kind", "cells", "v"] (defScope sStepInit) := ⟨rfl, rfl, rfl, by decide +kernel, rfl, by decide +kernel, by decide +kernel⟩
theorem ok_stepInit {f C aR aS aA : Addr} {rR rS rA : List Addr} {fd : FuncData} (F : Fun K "__init__" "Step.__init__" sStepInit f fd) (T : Txt K mg C) (mR : mg "READS" = some (.ref aR)) (mS : mg "SETS" = some (.ref aS)) (mA : mg "ADDS" = some (.ref aA))
    (tR : Tab K aR readsIx rR) (tS : Tab K aS setsIx rS) (tA : Tab K aA addsIx rA) : FnOk P w K mg base CX0 1 f fd ["self", "who", "kind", "cells", "v"] (spStepInit C) := by
  refine F.ok scStepInit (fun vs H Q E h => ?_) (fun cdv A outer s H vs Q E hr h => ?_)
  · obtain ⟨p, dx, pc, s, rfl, _⟩ := h
    rfl
  · obtain ⟨p, dx, pc, s, rfl, hp, hpc, hkd, k⟩ := h
    refine ⟨_, pss_cons (ps_fld (pv 0) (pv 1) rfl) (pss_cons (ps_fld (pv 0) (pv 2) rfl) (pss_cons (ps_fld (pv 0) (pv 3) rfl) (pss_cons (ps_fld (pv 0) (pv 4) rfl)
      (pss_cons (ps_fld (pv 0) (pe_lc (te := tOp (rIxL K) (tVar 3) (tVar 5)) rfl scStepInit.nd (pi_tup (pe_ix ix_tup (pgR rfl mR) (pv 2) (fun _ _ => rfl))) (blkOk_by (own := [("k", 5)]) (by show blkC ["self", "who", "kind", "cells", "v", "k"] (defScope sStepInit) _ _ = true; decide +kernel)) (fun _ _ _ _ _ => pg_name (i := 5) scStepInit.nd rfl (Or.inl rfl)) (fun _ _ _ _ _ => pts_nil) (fun _ _ _ _ _ => pe_ix ix_list (pv 3) (pv 5) (fun _ _ => rfl))) rfl)
      (pss_cons (ps_fld (pv 0) (pe_lc (te := tOp (rIxL K) (tVar 3) (tVar 5)) rfl scStepInit.nd (pi_tup (pe_ix ix_tup (pgR rfl mS) (pv 2) (fun _ _ => rfl))) (blkOk_by (own := [("k", 5)]) (by show blkC ["self", "who", "kind", "cells", "v", "k"] (defScope sStepInit) _ _ = true; decide +kernel)) (fun _ _ _ _ _ => pg_name (i := 5) scStepInit.nd rfl (Or.inl rfl)) (fun _ _ _ _ _ => pts_nil) (fun _ _ _ _ _ => pe_ix ix_list (pv 3) (pv 5) (fun _ _ => rfl))) rfl)
      (pss_cons (ps_fld (pv 0) (pe_lc (te := tOp (rIxL K) (tVar 3) (tVar 5)) rfl scStepInit.nd (pi_tup (pe_ix ix_tup (pgR rfl mA) (pv 2) (fun _ _ => rfl))) (blkOk_by (own := [("k", 5)]) (by show blkC ["self", "who", "kind", "cells", "v", "k"] (defScope sStepInit) _ _ = true; decide +kernel)) (fun _ _ _ _ _ => pg_name (i := 5) scStepInit.nd rfl (Or.inl rfl)) (fun _ _ _ _ _ => pts_nil) (fun _ _ _ _ _ => pe_ix ix_list (pv 3) (pv 5) (fun _ _ => rfl))) rfl)
      (pss_cons (ps_fld (pv 0) pe_bl rfl) (pss_one (ps_fld (pv 0) (pe_lst pa_nil) rfl))))))))), ?_⟩
    have ncp : pc ≠ p := ne_of hpc hp (by intro z; cases z)
    obtain ⟨r1, r2, r3, w1, w2, w3, e1, e2, e3, b1, b2, b3, l1, l2, l3⟩ := kind_rows s hkd
    refine ⟨_, rfl, _, rfl, p, C, dx, [], rfl, hp, T.cl, T.nWho, Nat.lt_of_le_of_lt (Nat.le_refl 0) (by decide), ?_⟩
    refine ⟨_, rfl, _, rfl, p, C, dx, _, rfl, upd_same, T.cl, T.nKind, Nat.lt_of_le_of_lt (len_put (Nat.le_refl 0)) (by decide), ?_⟩
    refine ⟨_, rfl, _, rfl, p, C, dx, _, rfl, upd_same, T.cl, T.nCells, Nat.lt_of_le_of_lt (len_put (len_put (Nat.le_refl 0))) (by decide), ?_⟩
    refine ⟨_, rfl, _, rfl, p, C, dx, _, rfl, upd_same, T.cl, T.nV, Nat.lt_of_le_of_lt (len_put (len_put (len_put (Nat.le_refl 0)))) (by decide), ?_⟩
    rw [upd_upd, upd_upd, upd_upd]
    obtain ⟨H4, eH4⟩ : ∃ H4, H4 = upd H p (.ins C dx (putF "v" (.int (s.v : Int)) (putF "cells" (.ref pc) (putF "kind" (.int (s.kind : Int)) (putF "who" (.int (s.who : Int)) []))))) := ⟨_, rfl⟩
    have k4 : But p H H4 := by rw [eH4]; exact (But.refl p H).upd
    have p4 := congrFun eH4 p
    rw [upd_same] at p4
    rw [← eH4]
    dsimp only [tSeq, sFld]
    refine rd_pick tR rfl rfl rfl w1 (k4 _ _ hpc ncp) b1 l1 fun H5 qr s5 f5 o5 => ?_
    refine ⟨_, rfl, p, C, dx, _, rfl, s5 _ _ p4, T.cl, T.nReads, Nat.lt_of_le_of_lt (len_put (len_put (len_put (len_put (Nat.le_refl 0))))) (by decide), ?_⟩
    have k5 := k4.same s5
    have fr : H qr = none := k4.free p4 f5
    have nrp : qr ≠ p := fun z => by rw [z, p4] at f5; cases f5
    (try dsimp only [tSeq, sFld])
    refine rd_pick tS rfl rfl rfl w2 (k5.upd _ _ hpc ncp) b2 l2 fun H6 qs s6 f6 o6 => ?_
    refine ⟨_, rfl, p, C, dx, _, rfl, s6 _ _ upd_same, T.cl, T.nSets, Nat.lt_of_le_of_lt (len_put (len_put (len_put (len_put (len_put (Nat.le_refl 0)))))) (by decide), ?_⟩
    have k6 := k5.upd.same s6
    have fs : H qs = none := k5.upd.free upd_same f6
    have nsp : qs ≠ p := fun z => by rw [z, upd_same] at f6; cases f6
    (try dsimp only [tSeq, sFld])
    refine rd_pick tA rfl rfl rfl w3 (k6.upd _ _ hpc ncp) b3 l3 fun H7 qa s7 f7 o7 => ?_
    refine ⟨_, rfl, p, C, dx, _, rfl, s7 _ _ upd_same, T.cl, T.nAdds, Nat.lt_of_le_of_lt (len_put (len_put (len_put (len_put (len_put (len_put (Nat.le_refl 0))))))) (by decide), ?_⟩
    have k7 := k6.upd.same s7
    have fa : H qa = none := k6.upd.free upd_same f7
    have nap : qa ≠ p := fun z => by rw [z, upd_same] at f7; cases f7
    refine ⟨_, rfl, p, C, dx, _, rfl, upd_same, T.cl, T.nThere, Nat.lt_of_le_of_lt (len_put (len_put (len_put (len_put (len_put (len_put (len_put (Nat.le_refl 0)))))))) (by decide), ?_⟩
    rw [upd_upd]
    refine ⟨Nat.zero_le _, fun qh f8 => ?_⟩
    have nhp : qh ≠ p := fun z => by rw [z, upd_same] at f8; cases f8
    refine ⟨_, rfl, p, C, dx, _, rfl, (by rw [upd_ne (fun z => nhp z.symm)]; exact upd_same), T.cl, T.nHung, Nat.lt_of_le_of_lt (len_put (len_put (len_put (len_put (len_put (len_put (len_put (len_put (Nat.le_refl 0))))))))) (by decide), ?_⟩
    have k8 := k7.upd (o := .ins C dx (putF "is_there" (.bl true) (putF "adds" (.ref qa) (putF "sets" (.ref qs) (putF "reads" (.ref qr) (putF "v" (.int (s.v : Int)) (putF "cells" (.ref pc) (putF "kind" (.int (s.kind : Int)) (putF "who" (.int (s.who : Int)) [])))))))))
    have fh : H qh = none := k8.free upd_same f8
    have s8 := Same.new (o := .lst []) (Same.refl _) f8
    refine k _ qr qs qa qh (k8.same s8).upd ?_ ?_ ?_ ?_ ?_ fr fs fa fh
    · rw [upd_same]
      with_unfolding_all rfl
    · rw [upd_ne nrp, s8 _ _ (by rw [upd_ne nrp]; exact s7 _ _ (by rw [upd_ne nrp]; exact s6 _ _ (by rw [upd_ne nrp]; exact o5))), e1]
    · rw [upd_ne nsp, s8 _ _ (by rw [upd_ne nsp]; exact s7 _ _ (by rw [upd_ne nsp]; exact o6)), e2]
    · rw [upd_ne nap, s8 _ _ (by rw [upd_ne nap]; exact o7), e3]
    · rw [upd_ne nhp]
      exact upd_same
end
end Tb

-- Named
set_option Elab.async false
set_option linter.all false
set_option maxRecDepth 100000
set_option maxHeartbeats 2000000
namespace Tb
open PySem PySem.Spec PyProof.Rows L2
open Kp188 (Done)
theorem cut_take (xs : List V) (m : Nat) : cutV xs none (some (m : Int)) = xs.take m := by
  unfold cutV
  rw [HT.sIx_none, HT.sIx_nat, List.drop_zero, Nat.sub_zero]
  by_cases h : m ≤ xs.length
  · rw [Nat.min_eq_left h]
  · rw [Nat.min_eq_right (by omega), List.take_of_length_le (by omega), List.take_of_length_le (by omega)]
theorem cut_drop (xs : List V) (m : Nat) : cutV xs (some (m : Int)) none = xs.drop m := by
  unfold cutV
  rw [HT.sIx_none, HT.sIx_nat]
  by_cases h : m ≤ xs.length
  · rw [Nat.min_eq_left h, List.take_of_length_le (by rw [List.length_drop]; omega)]
  · rw [Nat.min_eq_right (by omega), List.drop_of_length_le (by omega), List.drop_of_length_le (by omega), List.take_nil]
theorem nI_take (l : List Nat) (m : Nat) : (nI l).take m = nI (l.take m) := by
  unfold nI
  rw [List.map_take]
theorem nI_drop (l : List Nat) (m : Nat) : (nI l).drop m = nI (l.drop m) := by
  unfold nI
  rw [List.map_drop]
def cellsNamed : List Nat := [1, 1, 2, 3, 2, 2]
def numberNamed : List Bool := [true, true, false, false, false, true]
/-- is what a step names named rightly -/
def nm (s : Kp188.Step) : Bool :=
  decide (s.kind ≤ 5) && (!(([s.a, s.b, s.c].take (cellsNamed.getD s.kind 0)).any fun c => decide (32 ≤ c)) && (!(([s.a, s.b, s.c].drop (cellsNamed.getD s.kind 0)).any fun c => !decide (c = 0)) && (numberNamed.getD s.kind false || decide (s.v = 0))))
theorem lt_le (a : Nat) : decide (a < 32) = !decide (32 ≤ a) := by
  by_cases h : a < 32
  · rw [decide_eq_true h, decide_eq_false (by omega)]; rfl
  · rw [decide_eq_false h, decide_eq_true (by omega)]; rfl
theorem beq_dec (a : Nat) : (a == 0) = decide (a = 0) := by
  by_cases h : a = 0
  · subst h; rfl
  · rw [decide_eq_false h]; simpa using h
theorem good_eq (s : Kp188.Step) : s.good = (decide (s.who < 16) && nm s) := by
  obtain ⟨who, kind, a, b, c, v⟩ := s
  unfold Kp188.Step.good nm
  dsimp only
  show (decide (who < 16) && _) = _
  congr 1
  match kind with
  | 0 => show (decide (a < 32) && (b == 0 && c == 0)) = (true && (!(decide (32 ≤ a) || false) && (!(!decide (b = 0) || (!decide (c = 0) || false)) && (true || decide (v = 0)))))
         rw [lt_le, beq_dec, beq_dec]; simp
  | 1 => show (decide (a < 32) && (b == 0 && c == 0)) = (true && (!(decide (32 ≤ a) || false) && (!(!decide (b = 0) || (!decide (c = 0) || false)) && (true || decide (v = 0)))))
         rw [lt_le, beq_dec, beq_dec]; simp
  | 2 => show (decide (a < 32) && (decide (b < 32) && (c == 0 && v == 0))) = (true && (!(decide (32 ≤ a) || (decide (32 ≤ b) || false)) && (!(!decide (c = 0) || false) && (false || decide (v = 0)))))
         rw [lt_le, lt_le, beq_dec, beq_dec]; simp [Bool.and_assoc]
  | 3 => show (decide (a < 32) && (decide (b < 32) && (decide (c < 32) && v == 0))) = (true && (!(decide (32 ≤ a) || (decide (32 ≤ b) || (decide (32 ≤ c) || false))) && (!false && (false || decide (v = 0)))))
         rw [lt_le, lt_le, lt_le, beq_dec]; simp [Bool.and_assoc]
  | 4 => show (decide (a < 32) && (decide (b < 32) && (c == 0 && v == 0))) = (true && (!(decide (32 ≤ a) || (decide (32 ≤ b) || false)) && (!(!decide (c = 0) || false) && (false || decide (v = 0)))))
         rw [lt_le, lt_le, beq_dec, beq_dec]; simp [Bool.and_assoc]
  | 5 => show (decide (a < 32) && (decide (b < 32) && c == 0)) = (true && (!(decide (32 ≤ a) || (decide (32 ≤ b) || false)) && (!(!decide (c = 0) || false) && (true || decide (v = 0)))))
         rw [lt_le, lt_le, beq_dec]; simp [Bool.and_assoc]
  | k + 6 => rw [decide_eq_false (show ¬ k + 6 ≤ 5 by omega)]; rfl
def spNamed : Sp := fun vs H Q _ => ∃ (pc : Addr) (s : Kp188.Step), vs = [.int (s.kind : Int), .ref pc, .int (s.v : Int)] ∧ H pc = some (.lst (nI [s.a, s.b, s.c])) ∧ ∀ H' : Hp, Same H H' → Q (.bl (nm s)) H'
section
variable {P : Program} {w : World} {K : PySem.W.Frag} {mg : Str → Option Value} {base : Heap}
/-- any([.. cell .. for cell in a list of numbers]) -/
theorem rd_anyP {wi : TI} {te : TE} {σ : L2.St} {H : Hp} {xs : List Nat} {p : Nat → Bool} {Q : Bool → Hp → Prop} (hl : σ.length = 5) (hxs : xs.length ≤ 1000)
    (hwi : ∀ R : It → Hp → Prop, (∀ (H' : Hp) (e : Addr), Same H H' → H' e = some (.lst (nI xs)) → R (Itl K e) H') → wi σ H R)
    (hte : ∀ (σ : L2.St) (H : Hp) (c : Nat) (R : VK), σ[4]? = some (some (.int (c : Int))) → R (.bl (p c)) H → te σ H R)
    (k : ∀ H' : Hp, Same H H' → Q (xs.any p) H') :
    (fun σ H (Q : Bool → Hp → Prop) => tCB (rAny K) (tCons (tLc wi (gName 4) tYes te [4]) tNil) σ H fun x H' => ∃ b, TruV K x H' b ∧ Q b H') σ H Q := by
  refine hwi _ fun H1 e s0 he => ?_
  intro D hD
  refine lc_list (K := K) (a := e) (xs := nI xs) (fun j H' => Same H1 H' ∧ H' D = some (.lst ((xs.take j).map fun c => V.bl (p c)))) ⟨Same.new (Same.refl H1) hD, upd_same⟩ (fun j H' _ z => SqL.of (z.1 _ _ he)) ?_ ?_
  · rintro j x H' hj ⟨s1, hD1⟩
    obtain ⟨c, hc, rfl⟩ := nI_get hj
    have e4 : ((wipe σ [4]).set 4 (some (.int (c : Int))))[4]? = some (some (.int (c : Int))) := by
      show (((σ.set 4 none)).set 4 _)[4]? = _
      rw [List.getElem?_set_self (by rw [List.length_set]; omega)]
    refine ⟨?_, ?_⟩
    · show (((σ.set 4 none).set 4 _).set 4 none) = σ.set 4 none
      rw [List.set_set, List.set_set]
    · refine hte _ _ c _ e4 ⟨_, hD1, size256 (by rw [List.length_map, List.length_take]; omega), Same.own s1 hD, ?_⟩
      rw [upd_same, TbM.take_snoc hc, List.map_append]
      rfl
  · rintro H' ⟨s1, hD1⟩
    rw [nI_length, List.take_length] at hD1
    refine ⟨D, xs.map p, rfl, SqL.of (by rw [hD1, List.map_map]; rfl), _, rfl, ?_⟩
    rw [List.any_map]
    exact k H' (Same.trans s0 s1)
theorem scNamed : FnScope ["kind", "cells", "v", "named", "cell"] ["kind", "cells", "v"] (defScope sNamed) := ⟨rfl, rfl, rfl, by decide +kernel, rfl, by decide +kernel, by decide +kernel⟩
theorem ok_named {f aN aV : Addr} {fd : FuncData} {tK tC' : Tok} (F : Fun K "named_rightly" "named_rightly" sNamed f fd) (hany : mg "any" = none) (mK : mg "KINDS" = some (.int 6 tK)) (mC : mg "CELLS" = some (.int 32 tC'))
    (mN : mg "CELLS_NAMED" = some (.ref aN)) (oN : ∀ H, SqT K H aN (nI cellsNamed)) (mV : mg "NUMBER_NAMED" = some (.ref aV)) (oV : ∀ H, SqT K H aV (numberNamed.map V.bl)) :
    FnOk P w K mg base CX0 1 f fd ["kind", "cells", "v"] spNamed := by
  refine F.ok scNamed (fun vs H Q E h => ?_) (fun cdv A outer s H vs Q E hr h => ?_)
  · obtain ⟨pc, s, rfl, _⟩ := h
    rfl
  · obtain ⟨pc, s, rfl, hpc, k⟩ := h
    refine ⟨_, pss_cons (ps_if (pt_cmpR op_ge (pv 0) (pgI rfl mK) (nomark _)) (pss_one (ps_ret pe_bl)) pss_nil)
      (pss_cons (ps_set (i := 3) scNamed.nd rfl (Or.inl rfl) (pe_ix ix_tup (pgR rfl mN) (pv 0) (fun _ _ => rfl)))
      (pss_cons (ps_if (pt_truth (pe_callB (cr_any rfl) (by rfl) hany boot_any0 (pa_cons
          (pe_lc rfl scNamed.nd (pi_list (pe_slice sl_list (pv 1) po_none (po_some (pv 3)))) (blkOk_by (own := [("cell", 4)]) (by show blkC ["kind", "cells", "v", "named", "cell"] (defScope sNamed) _ _ = true; decide +kernel)) (fun _ _ _ _ _ => pg_name (i := 4) scNamed.nd rfl (Or.inl rfl)) (fun _ _ _ _ _ => pts_nil)
            (fun _ _ _ _ _ => pe_cmpR op_ge (pv 4) (pgI rfl mC) (nomark _))) pa_nil)) (fun _ => rfl)) (pss_one (ps_ret pe_bl)) pss_nil)
      (pss_cons (ps_if (pt_truth (pe_callB (cr_any rfl) (by rfl) hany boot_any0 (pa_cons
          (pe_lc rfl scNamed.nd (pi_list (pe_slice sl_list (pv 1) (po_some (pv 3)) po_none)) (blkOk_by (own := [("cell", 4)]) (by show blkC ["kind", "cells", "v", "named", "cell"] (defScope sNamed) _ _ = true; decide +kernel)) (fun _ _ _ _ _ => pg_name (i := 4) scNamed.nd rfl (Or.inl rfl)) (fun _ _ _ _ _ => pts_nil)
            (fun _ _ _ _ _ => pe_cmpR op_ne (pv 4) pe_int (nomark _))) pa_nil)) (fun _ => rfl)) (pss_one (ps_ret pe_bl)) pss_nil)
      (pss_one (ps_ret (pe_or (pe_ix ix_tup (pgR rfl mV) (pv 0) (fun _ _ => rfl)) (pe_one (pe_cmpR op_eq (pv 2) pe_int (nomark _))))))))), ?_⟩
    refine ⟨_, rfl, _, _, rfl, rfl, _, rfl, ?_⟩
    refine ite2 (fun h1 => ?_) (fun h1 => ?_)
    · have e : nm s = false := by
        have h2 := of_decide_eq_true h1
        unfold nm
        rw [decide_eq_false (by omega), Bool.false_and]
      have := k H (Same.refl H)
      rw [e] at this
      exact this
    · have hk5 : s.kind ≤ 5 := by
        by_cases z : s.kind ≤ 5
        · exact z
        · exact absurd (decide_eq_true (by omega)) h1
      obtain ⟨m, hm, hm3⟩ : ∃ m, cellsNamed[s.kind]? = some m ∧ m ≤ 3 := by
        match s.kind, hk5 with
        | 0, _ => exact ⟨_, rfl, by decide⟩
        | 1, _ => exact ⟨_, rfl, by decide⟩
        | 2, _ => exact ⟨_, rfl, by decide⟩
        | 3, _ => exact ⟨_, rfl, by decide⟩
        | 4, _ => exact ⟨_, rfl, by decide⟩
        | 5, _ => exact ⟨_, rfl, by decide⟩
      have em : cellsNamed.getD s.kind 0 = m := by rw [List.getD_eq_getElem?_getD, hm]; rfl
      obtain ⟨b, hb⟩ : ∃ b, numberNamed[s.kind]? = some b := ⟨_, List.getElem?_eq_getElem (show s.kind < 6 by omega)⟩
      have eb : numberNamed.getD s.kind false = b := by rw [List.getD_eq_getElem?_getD, hb]; rfl
      have enm : nm s = (!(([s.a, s.b, s.c].take m).any fun c => decide (32 ≤ c)) && (!(([s.a, s.b, s.c].drop m).any fun c => !decide (c = 0)) && (b || decide (s.v = 0)))) := by
        unfold nm
        rw [decide_eq_true hk5, Bool.true_and, em, eb]
      refine ⟨_, rfl, aN, _, _, _, rfl, rfl, oN H, at_of (j := s.kind) (v := V.int (m : Int)) rfl (nI_at hm), ?_⟩
      (try dsimp only [gName, tSeq, tIfS, tNext, tAsg])
      refine rd_anyP (K := K) (p := fun c => decide (32 ≤ c)) (xs := [s.a, s.b, s.c].take m) rfl (by rw [List.length_take]; show min m 3 ≤ 1000; omega)
        (fun R hR => ⟨_, rfl, _, rfl, _, rfl, pc, _, rfl, SqL.of hpc, fun e he => ⟨e, rfl, ⟨_, SqL.of upd_same⟩, hR _ e (Same.new (Same.refl H) he) (by rw [upd_same, cut_take, nI_take])⟩⟩)
        (fun σ H c R h4 hR => ⟨_, h4, _, _, rfl, rfl, by
          have : decide ((32 : Int) ≤ (c : Int)) = decide (32 ≤ c) := decide_eq_decide.mpr (by omega)
          dsimp only
          rw [this]; exact hR⟩) fun H1 s1 => ?_
      refine ite2 (fun h2 => ?_) (fun h2 => ?_)
      · have := k H1 s1
        rw [enm, h2] at this
        exact this
      · have hpc1 := s1 _ _ hpc
        (try dsimp only [gName, tSeq, tIfS, tNext, tAsg])
        refine rd_anyP (K := K) (p := fun c => !decide (c = 0)) (xs := [s.a, s.b, s.c].drop m) rfl (by rw [List.length_drop]; show 3 - m ≤ 1000; omega)
          (fun R hR => ⟨_, rfl, _, rfl, _, rfl, pc, _, rfl, SqL.of hpc1, fun e he => ⟨e, rfl, ⟨_, SqL.of upd_same⟩, hR _ e (Same.new (Same.refl H1) he) (by rw [upd_same, cut_drop, nI_drop])⟩⟩)
          (fun σ H c R h4 hR => ⟨_, h4, rfl, by
            have : decide (V.int (c : Int) = V.int 0) = decide (c = 0) := decide_eq_decide.mpr ⟨fun z => by injection z with z; omega, fun z => by rw [z]; rfl⟩
            rw [this]; exact hR⟩) fun H2 s2 => ?_
        have s12 := Same.trans s1 s2
        refine ite2 (fun h3 => ?_) (fun h3 => ?_)
        · have := k H2 s12
          rw [enm, h3, Bool.eq_false_iff.mpr h2] at this
          exact this
        · have hb2 : (numberNamed.map V.bl)[s.kind]? = some (V.bl b) := by rw [List.getElem?_map, hb]; rfl
          have kf := k H2 s12
          rw [enm, Bool.eq_false_iff.mpr h2, Bool.eq_false_iff.mpr h3] at kf
          refine ⟨_, rfl, aV, _, _, _, rfl, rfl, oV H2, at_of (j := s.kind) (v := V.bl b) rfl hb2, b, rfl, ?_⟩
          cases b with
          | true => exact iteT kf
          | false =>
            refine iteF ⟨_, rfl, rfl, ?_⟩
            have : decide (V.int (s.v : Int) = V.int 0) = decide (s.v = 0) := decide_eq_decide.mpr ⟨fun z => by injection z with z; omega, fun z => by rw [z]; rfl⟩
            rw [this]
            exact kf
end
end Tb

-- Done
set_option Elab.async false
set_option linter.all false
set_option maxRecDepth 100000
set_option maxHeartbeats 2000000
namespace Tb
open PySem PySem.Spec PyProof.Rows L2
open Kp188 (Done)
def spDone (C : Addr) : Sp := fun vs H Q _ => ∃ (l p : Addr) (as : List Addr) (ds : List Done) (d : Done), vs = [.ref l, .ref p] ∧ StepsAt C H l as ds ∧ ds.length < 256 ∧ StepAt C H l p d ∧ p ∉ as ∧
  ∀ H' : Hp, StepsAt C H' l (as ++ [p]) (ds ++ [{ d with hung := Kp188.hangsOn (Kp188.numbered 0 ds) d.step }]) → (∀ b o, H b = some o → b ≠ l → b ≠ p → H' b = some o) → Q (.int (ds.length : Int)) H'
section
variable {P : Program} {w : World} {K : PySem.W.Frag} {mg : Str → Option Value} {base : Heap}
theorem scDone : FnScope ["steps", "step", "n"] ["steps", "step"] (defScope sDone) := ⟨rfl, rfl, rfl, by decide +kernel, rfl, by decide +kernel, by decide +kernel⟩
theorem StepsAt.snoc {C : Addr} {H : Hp} {l p : Addr} {as : List Addr} {ds : List Done} {d : Done} (B : StepsAt C H l as ds) (Z : StepAt C H l p d) (hp : p ∉ as) : StepsAt C (upd H l (.lst (as.map V.ref ++ [V.ref p]))) l (as ++ [p]) (ds ++ [d]) := by
  have lift : ∀ (a : Addr) (e : Done), StepAt C H l a e → StepAt C (upd H l (.lst (as.map V.ref ++ [V.ref p]))) l a e := fun a e ⟨dx, pc, pr, ps, pa, ph, z⟩ =>
    ⟨dx, pc, pr, ps, pa, ph, by rw [upd_ne (ne_of z.obj B.lst (by intro q; cases q))]; exact z.obj, by rw [upd_ne z.nc]; exact z.oc, by rw [upd_ne z.nr]; exact z.orr, by rw [upd_ne z.ns]; exact z.os, by rw [upd_ne z.na]; exact z.oa, by rw [upd_ne z.nh]; exact z.oh, z.nc, z.nr, z.ns, z.na, z.nh⟩
  refine ⟨by rw [upd_same, List.map_append]; rfl, ?_, by simp [B.len], fun j a e h1 h2 => ?_⟩
  · rw [List.nodup_append]
    refine ⟨B.nd, by simp, fun x hx y hy => ?_⟩
    have : y = p := by simpa using hy
    subst this
    exact fun z => hp (z ▸ hx)
  · by_cases hj : j < as.length
    · rw [List.getElem?_append_left hj] at h1
      rw [List.getElem?_append_left (by rw [← B.len]; exact hj)] at h2
      exact lift a e (B.at_ j a e h1 h2)
    · rw [List.getElem?_append_right (by omega)] at h1
      rw [List.getElem?_append_right (by rw [← B.len]; omega)] at h2
      rw [B.len] at h1
      cases hz : j - ds.length with
      | zero =>
        rw [hz] at h1 h2
        have e1 : p = a := Option.some.inj h1
        have e2 : d = e := Option.some.inj h2
        subst e1
        subst e2
        exact lift _ _ Z
      | succ m =>
        rw [hz] at h1
        simp at h1
/-- the step at place n gets another record, its object changed alone -/
theorem StepsAt.put {C : Addr} {H H' : Hp} {l p : Addr} {as : List Addr} {ds : List Done} {n : Nat} {d : Done} (B : StepsAt C H l as ds) (hn : as[n]? = some p) (Z : StepAt C H' l p d) (kp : ∀ b o, H b = some o → b ≠ p → H' b = some o) : StepsAt C H' l as (ds.set n d) := by
  have hnl : n < as.length := (List.getElem?_eq_some_iff.mp hn).1
  obtain ⟨d0, hd0⟩ : ∃ d0, ds[n]? = some d0 := ⟨_, List.getElem?_eq_getElem (by rw [← B.len]; exact hnl)⟩
  obtain ⟨dx0, pc0, pr0, ps0, pa0, ph0, z0⟩ := B.at_ n p d0 hn hd0
  have other : ∀ b xs, H b = some (.lst xs) → H' b = some (.lst xs) := fun b xs e => kp b _ e (ne_of e z0.obj (by intro q; cases q))
  refine ⟨other _ _ B.lst, B.nd, by rw [List.length_set]; exact B.len, fun j a e h1 h2 => ?_⟩
  by_cases hj : n = j
  · subst hj
    rw [List.getElem?_set_self (by rw [← B.len]; exact hnl)] at h2
    have e1 : p = a := Option.some.inj (hn.symm.trans h1)
    have e2 : d = e := Option.some.inj h2
    subst e1
    subst e2
    exact Z
  · rw [List.getElem?_set_ne hj] at h2
    obtain ⟨dx, pc, pr, ps, pa, ph, z⟩ := B.at_ j a e h1 h2
    have na : a ≠ p := fun q => hj (nd_ix B.nd hn (by rw [← q]; exact h1))
    exact ⟨dx, pc, pr, ps, pa, ph, kp _ _ z.obj na, other _ _ z.oc, other _ _ z.orr, other _ _ z.os, other _ _ z.oa, other _ _ z.oh, z.nc, z.nr, z.ns, z.na, z.nh⟩
theorem ok_done {f fH fF C : Addr} {fd fdH fdF : FuncData} (F : Fun K "done_behind" "done_behind" sDone f fd) (T : Txt K mg C) (FH : Fun K "hangs_on" "hangs_on" sHangsOn fH fdH) (bH : Binds K fdH ["steps", "n"] []) (mH : mg "hangs_on" = some (.ref fH))
    (FF : Fun K "feeders" "feeders" sFeeders fF fdF) (bF : Binds K fdF ["steps", "cell", "place"] []) (mF : mg "feeders" = some (.ref fF)) : FnOk P w K mg base CX0 3 f fd ["steps", "step"] (spDone C) := by
  have GH : FnOk P w K mg base CX0 2 fH fdH ["steps", "n"] (spHangsOn C) := ok_hangsOn FH T FF bF mF
  refine F.ok scDone (fun vs H Q E h => ?_) (fun cdv A outer s H vs Q E hr h => ?_)
  · obtain ⟨l, p, as, ds, d, rfl, _⟩ := h
    rfl
  · obtain ⟨l, p, as, ds, d, rfl, B, hd, Z, hp, k⟩ := h
    refine ⟨_, pss_cons (ps_expr (pe_bm PySem.F.plainAttrs_list PySem.F.slot_list_append PySem.F.type_list_append mt_append (pv 0) (pa_cons (pv 1) pa_nil)))
      (pss_cons (ps_set (i := 2) scDone.nd rfl (Or.inl rfl) (pe_op op_sub (pe_callB call_len_seq (by rfl) T.len PySem.boot_len (pa_cons (pv 0) pa_nil)) pe_int))
      (pss_cons (ps_fld (pv 1) (pe_call GH hr rfl mH FH.kp bH .nil pass0 (pa_cons (pv 0) (pa_cons (pv 2) pa_nil))) rfl)
      (pss_one (ps_ret (pv 2))))), ?_⟩
    have hal : (as.map V.ref).length = ds.length := by rw [List.length_map]; exact B.len
    refine ⟨_, rfl, .inl ⟨rfl, _, SqL.of B.lst⟩, _, rfl, l, _, _, rfl, rfl, B.lst, size256 (by rw [hal]; omega), ?_⟩
    have B1 := B.snoc Z hp
    refine ⟨_, rfl, l, _, rfl, .inl (SqL.of upd_same), _, _, rfl, rfl, ?_⟩
    have en : ((((as.map V.ref ++ [V.ref p]).length : Nat) : Int) - 1) = (ds.length : Int) := by rw [List.length_append, hal]; simp
    dsimp only
    rw [en]
    have hdl : (ds ++ [d])[ds.length]? = some d := by rw [List.getElem?_append_right (Nat.le_refl _), Nat.sub_self]; rfl
    refine ⟨_, rfl, _, rfl, l, as ++ [p], ds ++ [d], ds.length, rfl, B1, by simp, by rw [List.length_append]; show ds.length + 1 ≤ 256; omega, fun H2 q s2 hq hq2 => ?_⟩
    have B2 := B1.same s2
    have hpl : (as ++ [p])[ds.length]? = some p := by rw [← B.len, List.getElem?_append_right (Nat.le_refl _), Nat.sub_self]; rfl
    obtain ⟨dx, pc, pr, ps, pa, ph, z⟩ := B2.at_ ds.length p d hpl hdl
    refine ⟨_, rfl, p, C, dx, _, rfl, z.obj, T.cl, T.nHung, (by show 9 < 1000; decide), ?_⟩
    have eh : Kp188.hangs (ds ++ [d]) ds.length = Kp188.hangsOn (Kp188.numbered 0 ds) d.step := by
      unfold Kp188.hangs Kp188.before
      rw [hdl, List.take_left]
    rw [eh] at hq2
    have nqp : q ≠ p := ne_of hq2 z.obj (by intro x; cases x)
    have nql : q ≠ l := fun x => by rw [x, upd_same] at hq; cases hq
    have ol : ∀ b xs, H2 b = some (.lst xs) → upd H2 p (.ins C dx (putF "hung_on" (.ref q) (sf d pc pr ps pa ph))) b = some (.lst xs) := fun b xs e => by
      rw [upd_ne (ne_of e z.obj (by intro x; cases x))]
      exact e
    have Z3 : StepAt C (upd H2 p (.ins C dx (putF "hung_on" (.ref q) (sf d pc pr ps pa ph)))) l p { d with hung := Kp188.hangsOn (Kp188.numbered 0 ds) d.step } :=
      ⟨dx, pc, pr, ps, pa, q, by rw [upd_same, sf_putHung d pc pr ps pa ph q (Kp188.hangsOn (Kp188.numbered 0 ds) d.step)], ol _ _ z.oc, ol _ _ z.orr, ol _ _ z.os, ol _ _ z.oa, ol _ _ hq2, z.nc, z.nr, z.ns, z.na, nql⟩
    have B3 := B2.put hpl Z3 fun b o e n => by rw [upd_ne n]; exact e
    have es : (ds ++ [d]).set ds.length { d with hung := Kp188.hangsOn (Kp188.numbered 0 ds) d.step } = ds ++ [{ d with hung := Kp188.hangsOn (Kp188.numbered 0 ds) d.step }] := by
      rw [List.set_append_right _ _ (Nat.le_refl _), Nat.sub_self]
      rfl
    rw [es] at B3
    refine ⟨_, rfl, k _ B3 fun b o e n1 n2 => ?_⟩
    rw [upd_ne n2]
    exact s2 _ _ (by rw [upd_ne n1]; exact e)
end
end Tb

-- Sheet
set_option Elab.async false
set_option linter.all false
set_option maxRecDepth 100000
set_option maxHeartbeats 2000000
namespace Tb
open PySem PySem.Spec PyProof.Rows L2
open Kp188 (Done)
structure TxtS (K : PySem.W.Frag) (S : Addr) : Prop where
  cl : Cls K S
  nSteps : NoAttr K S "steps"
def shf (l : Addr) : List (Str × V) := [("steps", .ref l)]
theorem shf_steps (l : Addr) : (shf l).lookup ("steps" : Str) = some (.ref l) := by with_unfolding_all rfl
theorem shf_no (l : Addr) {m : Str} (h : (m == ("steps" : Str)) = false) : (shf l).lookup m = none := by
  unfold shf
  rw [List.lookup_cons, h]
  rfl
/-- a sheet stands at p, its steps' list at l -/
structure SheetAt (S C : Addr) (H : Hp) (p l : Addr) (as : List Addr) (ds : List Done) : Prop where
  obj : ∃ dx, H p = some (.ins S dx (shf l))
  steps : StepsAt C H l as ds
  small : ds.length ≤ 256
  good : ∀ d, d ∈ ds → d.step.good = true
theorem SheetAt.same {S C : Addr} {H H' : Hp} {p l : Addr} {as : List Addr} {ds : List Done} (B : SheetAt S C H p l as ds) (s : Same H H') : SheetAt S C H' p l as ds :=
  ⟨let ⟨dx, e⟩ := B.obj; ⟨dx, s _ _ e⟩, B.steps.same s, B.small, B.good⟩
/-- lists, and what is handed in, are as they were, but the steps' list -/
def Quiet (l l' : Addr) (H H' : Hp) : Prop := ∀ b o, H b = some o → ((∃ xs, o = .lst xs) ∨ ∃ ob u, o = .frz ob u) → b ≠ l → H' b = some o ∧ b ≠ l'
theorem Quiet.of {l : Addr} {H H' : Hp} (s : Same H H') : Quiet l l H H' := fun b o e _ n => ⟨s _ _ e, n⟩
theorem Quiet.trans {l m k : Addr} {H H1 H2 : Hp} (a : Quiet l m H H1) (b : Quiet m k H1 H2) : Quiet l k H H2 := fun c o e i n => by
  obtain ⟨h1, h2⟩ := a c o e i n
  exact b c o h1 i h2
theorem shf_sf {S C dx dy l pc pr ps pa ph : Addr} {d : Done} : HO.ins S dx (shf l) ≠ HO.ins C dy (sf d pc pr ps pa ph) := fun z => by
  injection z with _ _ z3
  have := congrArg List.length z3
  exact absurd this (by show ¬ (1 : Nat) = 9; decide)
/-- a step is marked -/
theorem SheetAt.mark {S C : Addr} {H : Hp} {p l a : Addr} {as : List Addr} {ds : List Done} {n : Nat} {d : Done} {dx pc pr ps pa ph : Addr} (B : SheetAt S C H p l as ds) (ha : as[n]? = some a) (hd : ds[n]? = some d) (Z : StepIn C H l a d dx pc pr ps pa ph) (b : Bool) :
    SheetAt S C (upd H a (.ins C dx (putF "is_there" (.bl b) (sf d pc pr ps pa ph)))) p l as (ds.set n { d with there := b }) ∧ Quiet l l H (upd H a (.ins C dx (putF "is_there" (.bl b) (sf d pc pr ps pa ph)))) := by
  obtain ⟨dp, ep⟩ := B.obj
  have npa : p ≠ a := ne_of ep Z.obj shf_sf
  have ol : ∀ c xs, H c = some (.lst xs) → upd H a (.ins C dx (putF "is_there" (.bl b) (sf d pc pr ps pa ph))) c = some (.lst xs) := fun c xs e => by
    rw [upd_ne (ne_of e Z.obj (by intro x; cases x))]
    exact e
  have Z2 : StepAt C (upd H a (.ins C dx (putF "is_there" (.bl b) (sf d pc pr ps pa ph)))) l a { d with there := b } :=
    ⟨dx, pc, pr, ps, pa, ph, by rw [upd_same, sf_putThere], ol _ _ Z.oc, ol _ _ Z.orr, ol _ _ Z.os, ol _ _ Z.oa, ol _ _ Z.oh, Z.nc, Z.nr, Z.ns, Z.na, Z.nh⟩
  refine ⟨⟨⟨dp, by rw [upd_ne npa]; exact ep⟩, B.steps.put ha Z2 fun c o e nc => by rw [upd_ne nc]; exact e, by rw [List.length_set]; exact B.small, fun e he => ?_⟩, fun c o e i nc => ⟨?_, nc⟩⟩
  · rcases List.mem_or_eq_of_mem_set he with h | h
    · exact B.good e h
    · rw [h]
      exact B.good d (List.mem_of_getElem? hd)
  · rcases i with ⟨xs, rfl⟩ | ⟨ob, u, rfl⟩
    · exact ol _ _ e
    · rw [upd_ne (ne_of e Z.obj (by intro x; cases x))]
      exact e
def refuse (ds : List Done) (w n : Nat) (due : Bool) : Int := match ds[n]? with
  | none => -2
  | some d => if d.step.who = w then (if d.there = due then 0 else -17) else -1
def spRefusal (S C : Addr) : Sp := fun vs H Q _ => ∃ (p l : Addr) (as : List Addr) (ds : List Done) (w n : Nat) (due : Bool), vs = [.ref p, .int (w : Int), .int (n : Int), .bl due] ∧ SheetAt S C H p l as ds ∧ Q (.int (refuse ds w n due)) H
section
variable {P : Program} {w : World} {K : PySem.W.Frag} {mg : Str → Option Value} {base : Heap}
theorem scRefusal : FnScope ["self", "who", "n", "due_there"] ["self", "who", "n", "due_there"] (defScope sRefusal) := ⟨rfl, rfl, rfl, by decide +kernel, rfl, by decide +kernel, by decide +kernel⟩
theorem ok_refusal {f S C : Addr} {fd : FuncData} {t1 t2 t3 : Tok} (F : Fun K "refusal" "Sheet.refusal" sRefusal f fd) (T : Txt K mg C) (TS : TxtS K S) (m1 : mg "NO_SUCH_STEP" = some (.int (-2) t1)) (m2 : mg "NOT_YOURS" = some (.int (-1) t2)) (m3 : mg "SO_ALREADY" = some (.int (-17) t3)) :
    FnOk P w K mg base CX0 1 f fd ["self", "who", "n", "due_there"] (spRefusal S C) := by
  refine F.ok scRefusal (fun vs H Q E h => ?_) (fun cdv A outer s H vs Q E hr h => ?_)
  · obtain ⟨p, l, as, ds, w, n, due, rfl, _⟩ := h
    rfl
  · obtain ⟨p, l, as, ds, w, n, due, rfl, B, k⟩ := h
    refine ⟨_, pss_cons (ps_if (pt_cmpR op_ge (pv 2) (pe_callB call_len_seq (by rfl) T.len PySem.boot_len (pa_cons (pe_fld (pv 0) rfl) pa_nil)) (nomark _)) (pss_one (ps_ret (pgI rfl m1))) pss_nil)
      (pss_cons (ps_if (pt_cmpR op_ne (pe_fld (pe_ix ix_list (pe_fld (pv 0) rfl) (pv 2) (fun _ _ => rfl)) rfl) (pv 1) (nomark _)) (pss_one (ps_ret (pgI rfl m2))) pss_nil)
      (pss_cons (ps_if (pt_cmpR op_ne (pe_fld (pe_ix ix_list (pe_fld (pv 0) rfl) (pv 2) (fun _ _ => rfl)) rfl) (pv 3) (nomark _)) (pss_one (ps_ret (pgI rfl m3))) pss_nil)
      (pss_one (ps_ret pe_int)))), ?_⟩
    obtain ⟨dx, ep⟩ := B.obj
    have hal : (as.map V.ref).length = ds.length := by rw [List.length_map]; exact B.steps.len
    refine ⟨_, rfl, _, rfl, p, S, dx, _, _, rfl, ep, TS.cl, TS.nSteps, shf_steps l, l, _, rfl, .inl (SqL.of B.steps.lst), _, _, rfl, rfl, _, rfl, ?_⟩
    unfold refuse at k
    refine ite2 (fun h1 => ?_) (fun h1 => ?_)
    · have h2 := of_decide_eq_true h1
      rw [hal] at h2
      have e : ds[n]? = none := List.getElem?_eq_none (by omega)
      rw [e] at k
      exact k
    · have hn : n < ds.length := by
        by_cases z : n < ds.length
        · exact z
        · exact absurd (decide_eq_true (by rw [hal]; omega)) h1
      obtain ⟨d, hdn⟩ : ∃ d, ds[n]? = some d := ⟨_, List.getElem?_eq_getElem hn⟩
      rw [hdn] at k
      dsimp only at k
      obtain ⟨a, ha, ha2, dx2, pc, pr, ps, pa, ph, Z⟩ := B.steps.get hdn
      refine ⟨_, rfl, p, S, dx, _, _, rfl, ep, TS.cl, TS.nSteps, shf_steps l, _, rfl, l, _, _, _, rfl, rfl, SqL.of B.steps.lst, at_of (j := n) (v := V.ref a) rfl ha2, a, C, dx2, _, _, rfl, Z.obj, T.cl, T.nWho, sf_who .., _, rfl, rfl, _, rfl, ?_⟩
      refine ite2 (fun h2 => ?_) (fun h2 => ?_)
      · have e : ¬ d.step.who = w := fun z => by rw [z] at h2; simp at h2
        rw [if_neg e] at k
        exact k
      · have e : d.step.who = w := by
          by_cases z : d.step.who = w
          · exact z
          · refine absurd ?_ h2
            rw [decide_eq_false (fun y => z (by injection y with y; omega))]
            rfl
        rw [if_pos e] at k
        refine ⟨_, rfl, p, S, dx, _, _, rfl, ep, TS.cl, TS.nSteps, shf_steps l, _, rfl, l, _, _, _, rfl, rfl, SqL.of B.steps.lst, at_of (j := n) (v := V.ref a) rfl ha2, a, C, dx2, _, _, rfl, Z.obj, T.cl, T.nThere, sf_there .., _, rfl, rfl, _, rfl, ?_⟩
        refine ite2 (fun h3 => ?_) (fun h3 => ?_)
        · have e3 : ¬ d.there = due := fun z => by rw [z] at h3; simp at h3
          rw [if_neg e3] at k
          exact k
        · have e3 : d.there = due := by
            by_cases z : d.there = due
            · exact z
            · refine absurd ?_ h3
              rw [decide_eq_false (fun y => z (by injection y))]
              rfl
          rw [if_pos e3] at k
          exact k
/-! ### take -/
def spTake (S C : Addr) : Sp := fun vs H Q _ => ∃ (p l : Addr) (as : List Addr) (ds : List Done) (w n : Nat), vs = [.ref p, .int (w : Int), .int (n : Int)] ∧ SheetAt S C H p l as ds ∧
  ∀ (H' : Hp) (ds' : List Done) (r : Int), Kp188.step (some ds) (.take w n) = (some ds', Kp188.say r) → SheetAt S C H' p l as ds' → Quiet l l H H' → Q (.int r) H'
theorem scTake : FnScope ["self", "who", "n", "refused", "step"] ["self", "who", "n"] (defScope sTake) := ⟨rfl, rfl, rfl, by decide +kernel, rfl, by decide +kernel, by decide +kernel⟩
theorem len_pos (l : List Nat) : decide ((0 : Int) < (((nI l).length : Nat) : Int)) = !l.isEmpty := by
  rw [nI_length]
  cases l with
  | nil => rfl
  | cons a l => rw [decide_eq_true (by simp)]; rfl
theorem ok_take {f S C fR fH : Addr} {fd fdR fdH : FuncData} {t1 t2 t3 t4 : Tok} (F : Fun K "take" "Sheet.take" sTake f fd) (T : Txt K mg C) (TS : TxtS K S) (m1 : mg "NO_SUCH_STEP" = some (.int (-2) t1)) (m2 : mg "NOT_YOURS" = some (.int (-1) t2)) (m3 : mg "SO_ALREADY" = some (.int (-17) t3)) (m4 : mg "HUNG_ON" = some (.int (-16) t4))
    (FR : Fun K "refusal" "Sheet.refusal" sRefusal fR fdR) (bR : Binds K fdR ["self", "who", "n", "due_there"] []) (mR : Meth K S "refusal" fR)
    (FH : Fun K "hangers" "hangers" sHangers fH fdH) (bH : Binds K fdH ["steps", "n"] []) (mH : mg "hangers" = some (.ref fH)) : FnOk P w K mg base CX0 2 f fd ["self", "who", "n"] (spTake S C) := by
  have GR : FnOk P w K mg base CX0 1 fR fdR ["self", "who", "n", "due_there"] (spRefusal S C) := ok_refusal FR T TS m1 m2 m3
  have GH : FnOk P w K mg base CX0 1 fH fdH ["steps", "n"] (spHangers C) := ok_hangers FH T
  refine F.ok scTake (fun vs H Q E h => ?_) (fun cdv A outer s H vs Q E hr h => ?_)
  · obtain ⟨p, l, as, ds, w, n, rfl, _⟩ := h
    rfl
  · obtain ⟨p, l, as, ds, w, n, rfl, B, k⟩ := h
    refine ⟨_, pss_cons (ps_set (i := 3) scTake.nd rfl (Or.inl rfl) (pe_meth (pv 0) TS.cl mR GR hr bR .nil pass0 (pa_cons (pv 1) (pa_cons (pv 2) (pa_cons pe_bl pa_nil)))))
      (pss_cons (ps_if (pt_cmpR op_lt (pv 3) pe_int (nomark _)) (pss_one (ps_ret (pv 3))) pss_nil)
      (pss_cons (ps_if (pt_cmpR op_gt (pe_callB call_len_seq (by rfl) T.len PySem.boot_len (pa_cons (pe_call GH hr rfl mH FH.kp bH .nil pass0 (pa_cons (pe_fld (pv 0) rfl) (pa_cons (pv 2) pa_nil))) pa_nil)) pe_int (nomark _)) (pss_one (ps_ret (pgI rfl m4))) pss_nil)
      (pss_cons (ps_set (i := 4) scTake.nd rfl (Or.inl rfl) (pe_ix ix_list (pe_fld (pv 0) rfl) (pv 2) (fun _ _ => rfl)))
      (pss_cons (ps_fld (pv 4) pe_bl rfl)
      (pss_one (ps_ret pe_int)))))), ?_⟩
    obtain ⟨dx, ep⟩ := B.obj
    refine ⟨_, rfl, p, dx, _, rfl, ep, shf_no l (by decide +kernel), _, rfl, _, rfl, p, l, as, ds, w, n, true, rfl, B, ?_⟩
    refine ⟨_, rfl, _, _, rfl, rfl, _, rfl, ?_⟩
    have st : Kp188.step (some ds) (.take w n) = (match ds[n]? with
        | none => (some ds, Kp188.say (-2))
        | some d => if d.step.who ≠ w then (some ds, Kp188.say (-1)) else if d.there = false then (some ds, Kp188.say (-17)) else if (Kp188.hanging ds n).isEmpty = false then (some ds, Kp188.say (-16)) else (some (Kp188.mark ds [n] false), Kp188.say 0)) := rfl
    cases hdn : ds[n]? with
    | none =>
      rw [hdn] at st
      have er : refuse ds w n true = -2 := by unfold refuse; rw [hdn]
      rw [er]
      refine ite2 (fun _ => ?_) (fun h => absurd (by decide) h)
      exact ⟨_, rfl, k H ds (-2) st B (Quiet.of (Same.refl H))⟩
    | some d =>
      rw [hdn] at st
      dsimp only at st
      by_cases hw : d.step.who = w
      · rw [if_neg (fun z => z hw)] at st
        by_cases ht : d.there = true
        · rw [if_neg (by rw [ht]; simp)] at st
          have er : refuse ds w n true = 0 := by unfold refuse; rw [hdn]; dsimp only; rw [if_pos hw, if_pos ht]
          rw [er]
          refine ite2 (fun h => absurd h (by decide)) (fun _ => ?_)
          refine ⟨_, rfl, p, S, dx, _, _, rfl, ep, TS.cl, TS.nSteps, shf_steps l, _, rfl, l, as, ds, n, d, rfl, B.steps, hdn, B.small, fun H1 q s1 hq hq1 => ?_⟩
          refine ⟨q, _, rfl, .inl (SqL.of hq1), _, _, rfl, rfl, _, rfl, ?_⟩
          dsimp only
          rw [len_pos, ← TbM.hanging_there hdn ht B.small]
          have B1 := B.same s1
          obtain ⟨dx1, ep1⟩ := B1.obj
          refine ite2 (fun h => ?_) (fun h => ?_)
          · have h' : (Kp188.hanging ds n).isEmpty = false := by simpa using h
            rw [if_pos h'] at st
            exact k H1 ds (-16) st B1 (Quiet.of s1)
          · have h' : ¬ (Kp188.hanging ds n).isEmpty = false := by simpa using h
            rw [if_neg h', TbM.mark_one hdn] at st
            obtain ⟨a, ha, ha2, dx2, pc, pr, ps, pa, ph, Z⟩ := B1.steps.get hdn
            refine ⟨_, rfl, p, S, dx1, _, _, rfl, ep1, TS.cl, TS.nSteps, shf_steps l, _, rfl, l, _, _, _, rfl, rfl, SqL.of B1.steps.lst, at_of (j := n) (v := V.ref a) rfl ha2, ?_⟩
            refine ⟨_, rfl, a, C, dx2, _, rfl, Z.obj, T.cl, T.nThere, (by show 9 < 1000; decide), ?_⟩
            obtain ⟨B2, q2⟩ := B1.mark ha hdn Z false
            exact k _ _ 0 st B2 (Quiet.trans (Quiet.of s1) q2)
        · rw [if_pos (Bool.eq_false_iff.mpr ht)] at st
          have er : refuse ds w n true = -17 := by unfold refuse; rw [hdn]; dsimp only; rw [if_pos hw, if_neg ht]
          rw [er]
          refine ite2 (fun _ => ?_) (fun h => absurd (by decide) h)
          exact ⟨_, rfl, k H ds (-17) st B (Quiet.of (Same.refl H))⟩
      · rw [if_pos hw] at st
        have er : refuse ds w n true = -1 := by unfold refuse; rw [hdn]; dsimp only; rw [if_neg hw]
        rw [er]
        refine ite2 (fun _ => ?_) (fun h => absurd (by decide) h)
        exact ⟨_, rfl, k H ds (-1) st B (Quiet.of (Same.refl H))⟩
end
end Tb

-- Calls
set_option Elab.async false
set_option linter.all false
set_option maxRecDepth 100000
set_option maxHeartbeats 2000000
namespace Tb
open PySem PySem.Spec PyProof.Rows L2
open Kp188 (Done)
theorem shf_put (l m : Addr) : putF "steps" (.ref m) (shf l) = shf m := by with_unfolding_all rfl
section
variable {P : Program} {w : World} {K : PySem.W.Frag} {mg : Str → Option Value} {base : Heap}
/-! ### __init__ of the sheet, begin -/
def spShInit (S : Addr) : Sp := fun vs H Q _ => ∃ (p dx : Addr), vs = [.ref p] ∧ H p = some (.ins S dx []) ∧ ∀ (H' : Hp) (l : Addr), But p H H' → H' p = some (.ins S dx (shf l)) → H' l = some (.lst []) → H l = none → Q .non H'
theorem scShInit : FnScope ["self"] ["self"] (defScope sShInit) := ⟨rfl, rfl, rfl, by decide +kernel, rfl, by decide +kernel, by decide +kernel⟩
theorem ok_shInit {f S : Addr} {fd : FuncData} (F : Fun K "__init__" "Sheet.__init__" sShInit f fd) (TS : TxtS K S) : FnOk P w K mg base CX0 1 f fd ["self"] (spShInit S) := by
  refine F.ok scShInit (fun vs H Q E h => ?_) (fun cdv A outer s H vs Q E hr h => ?_)
  · obtain ⟨p, dx, rfl, _⟩ := h
    rfl
  · obtain ⟨p, dx, rfl, hp, k⟩ := h
    refine ⟨_, pss_one (ps_fld (pv 0) (pe_lst pa_nil) rfl), ?_⟩
    refine ⟨Nat.zero_le _, fun l hl => ⟨_, rfl, p, S, dx, [], rfl, upd_keep hp hl, TS.cl, TS.nSteps, (by show 0 < 1000; decide), ?_⟩⟩
    have nlp : l ≠ p := fun z => by rw [z, hp] at hl; cases hl
    refine k _ l ((But.refl p H).same (Same.new (Same.refl H) hl)).upd ?_ (by rw [upd_ne nlp]; exact upd_same) hl
    rw [upd_same]
    rfl
def spBegin (S C : Addr) : Sp := fun vs H Q _ => ∃ (p l : Addr) (as : List Addr) (ds : List Done), vs = [.ref p] ∧ SheetAt S C H p l as ds ∧ ∀ (H' : Hp) (l' : Addr), SheetAt S C H' p l' [] [] → Quiet l l' H H' → Q (.int 0) H'
theorem scBegin : FnScope ["self"] ["self"] (defScope sBegin) := ⟨rfl, rfl, rfl, by decide +kernel, rfl, by decide +kernel, by decide +kernel⟩
theorem sheet_nil {S C dx p l : Addr} {H : Hp} (h1 : H p = some (.ins S dx (shf l))) (h2 : H l = some (.lst [])) : SheetAt S C H p l [] [] :=
  ⟨⟨dx, h1⟩, ⟨h2, List.nodup_nil, rfl, fun j a d h => by simp at h⟩, Nat.zero_le _, fun d h => by simp at h⟩
theorem ok_begin {f S C : Addr} {fd : FuncData} (F : Fun K "begin" "Sheet.begin" sBegin f fd) (TS : TxtS K S) : FnOk P w K mg base CX0 1 f fd ["self"] (spBegin S C) := by
  refine F.ok scBegin (fun vs H Q E h => ?_) (fun cdv A outer s H vs Q E hr h => ?_)
  · obtain ⟨p, l, as, ds, rfl, _⟩ := h
    rfl
  · obtain ⟨p, l, as, ds, rfl, B, k⟩ := h
    obtain ⟨dx, ep⟩ := B.obj
    refine ⟨_, pss_cons (ps_fld (pv 0) (pe_lst pa_nil) rfl) (pss_one (ps_ret pe_int)), ?_⟩
    refine ⟨Nat.zero_le _, fun l' hl => ⟨_, rfl, p, S, dx, _, rfl, upd_keep ep hl, TS.cl, TS.nSteps, (by show 1 < 1000; decide), ?_⟩⟩
    have nlp : l' ≠ p := fun z => by rw [z, ep] at hl; cases hl
    refine k _ l' (sheet_nil (dx := dx) (by rw [upd_same, shf_put]) (by rw [upd_ne nlp]; exact upd_same)) fun b o e i nb => ⟨?_, fun z => by rw [z, hl] at e; cases e⟩
    have nbp : b ≠ p := by
      rcases i with ⟨xs, rfl⟩ | ⟨ob, u, rfl⟩
      · exact ne_of e ep (by intro x; cases x)
      · exact ne_of e ep (by intro x; cases x)
    rw [upd_ne nbp]
    exact upd_keep e hl
/-! ### do -/
def spDo (S C : Addr) : Sp := fun vs H Q _ => ∃ (p l pc : Addr) (as : List Addr) (ds : List Done) (x : Kp188.Step), vs = [.ref p, .int (x.who : Int), .int (x.kind : Int), .ref pc, .int (x.v : Int)] ∧ SheetAt S C H p l as ds ∧ H pc = some (.lst (nI [x.a, x.b, x.c])) ∧ pc ≠ l ∧
  ∀ (H' : Hp) (as' : List Addr) (ds' : List Done) (r : Int), Kp188.step (some ds) (.do_ x) = (some ds', Kp188.say r) → SheetAt S C H' p l as' ds' → Quiet l l H H' → Q (.int r) H'
theorem scDo : FnScope ["self", "who", "kind", "cells", "v"] ["self", "who", "kind", "cells", "v"] (defScope sDo) := ⟨rfl, rfl, rfl, by decide +kernel, rfl, by decide +kernel, by decide +kernel⟩
theorem ok_do {f S C fN fD fI : Addr} {fd fdN fdD fdI : FuncData} {t1 t2 t3 t4 : Tok} (F : Fun K "do" "Sheet.do" sDo f fd) (T : Txt K mg C) (TS : TxtS K S) (m1 : mg "PEOPLE" = some (.int 16 t1)) (m2 : mg "WRONG" = some (.int (-22) t2)) (m3 : mg "MOST_STEPS" = some (.int 256 t3)) (m4 : mg "FULL" = some (.int (-28) t4))
    (GN : FnOk P w K mg base CX0 1 fN fdN ["kind", "cells", "v"] spNamed) (kN : PySem.W.keepIn K (.ref fN) = true) (bN : Binds K fdN ["kind", "cells", "v"] []) (mN : mg "named_rightly" = some (.ref fN))
    (GD : FnOk P w K mg base CX0 3 fD fdD ["steps", "step"] (spDone C)) (kD : PySem.W.keepIn K (.ref fD) = true) (bD : Binds K fdD ["steps", "step"] []) (mD : mg "done_behind" = some (.ref fD))
    (M : Mk K C fI) (GI : FnOk P w K mg base CX0 1 fI fdI ["self", "who", "kind", "cells", "v"] (spStepInit C)) (bI : Binds K fdI ["self", "who", "kind", "cells", "v"] []) (mC : mg "Step" = some (.ref C)) :
    FnOk P w K mg base CX0 4 f fd ["self", "who", "kind", "cells", "v"] (spDo S C) := by
  refine F.ok scDo (fun vs H Q E h => ?_) (fun cdv A outer s H vs Q E hr h => ?_)
  · obtain ⟨p, l, pc, as, ds, x, rfl, _⟩ := h
    rfl
  · obtain ⟨p, l, pc, as, ds, x, rfl, B, hpc, nc, k⟩ := h
    have hr1 : Room 1 _ := hr.mono (by decide)
    have hr2 : Room 2 _ := hr.mono (by decide)
    refine ⟨_, pss_cons (ps_if (PW.pt (pw_or (pt_cmpR op_ge (pv 1) (pgI rfl m1) (nomark _)) (pw_or1 (pt_not (pt_truth (pe_call GN hr1 rfl mN kN bN .nil pass0 (pa_cons (pv 2) (pa_cons (pv 3) (pa_cons (pv 4) pa_nil)))) (fun _ => rfl)))))) (pss_one (ps_ret (pgI rfl m2))) pss_nil)
      (pss_cons (ps_if (pt_cmpR op_ge (pe_callB call_len_seq (by rfl) T.len PySem.boot_len (pa_cons (pe_fld (pv 0) rfl) pa_nil)) (pgI rfl m3) (nomark _)) (pss_one (ps_ret (pgI rfl m4))) pss_nil)
      (pss_one (ps_ret (pe_call GD hr rfl mD kD bD .nil pass0 (pa_cons (pe_fld (pv 0) rfl) (pa_cons (pe_make M GI hr2 rfl mC bI .nil pass0 (pa_cons (pv 1) (pa_cons (pv 2) (pa_cons (pv 3) (pa_cons (pv 4) pa_nil))))) pa_nil)))))), ?_⟩
    have st : Kp188.step (some ds) (.do_ x) = (if x.good = false then (some ds, Kp188.say (-22)) else if 256 ≤ ds.length then (some ds, Kp188.say (-28)) else (some (ds ++ [⟨x, true, Kp188.hangsOn (Kp188.numbered 0 ds) x⟩]), Kp188.say (ds.length : Int))) := rfl
    have hg := good_eq x
    obtain ⟨dx, ep⟩ := B.obj
    refine ⟨_, rfl, _, _, rfl, rfl, _, rfl, ?_⟩
    refine ite2 (fun h1 => ?_) (fun h1 => ?_)
    · have h2 := of_decide_eq_true h1
      rw [decide_eq_false (show ¬ x.who < 16 by omega), Bool.false_and] at hg
      rw [if_pos hg] at st
      exact k H as ds (-22) st B (Quiet.of (Same.refl H))
    · have hw : x.who < 16 := by
        by_cases z : x.who < 16
        · exact z
        · exact absurd (decide_eq_true (by omega)) h1
      rw [decide_eq_true hw, Bool.true_and] at hg
      refine ⟨_, rfl, _, rfl, _, rfl, pc, x, rfl, hpc, fun H1 s1 => ⟨_, rfl, ?_⟩⟩
      have B1 := B.same s1
      rw [← hg]
      refine ite2 (fun h2 => ?_) (fun h2 => ?_)
      · have h3 : x.good = false := by simpa using h2
        rw [if_pos h3] at st
        exact k H1 as ds (-22) st B1 (Quiet.of s1)
      · have h3 : x.good = true := by simpa using h2
        rw [if_neg (by rw [h3]; simp)] at st
        have hk5 : x.kind ≤ 5 := by
          rw [h3] at hg
          have := (Bool.and_eq_true_iff.mp (show (_ && _) = true from hg.symm)).1
          exact of_decide_eq_true this
        obtain ⟨dx1, ep1⟩ := B1.obj
        have hal : (as.map V.ref).length = ds.length := by rw [List.length_map]; exact B.steps.len
        refine ⟨_, rfl, p, S, dx1, _, _, rfl, ep1, TS.cl, TS.nSteps, shf_steps l, l, _, rfl, .inl (SqL.of B1.steps.lst), _, _, rfl, rfl, _, rfl, ?_⟩
        refine ite2 (fun h4 => ?_) (fun h4 => ?_)
        · have h5 := of_decide_eq_true h4
          rw [hal] at h5
          rw [if_pos (show 256 ≤ ds.length by omega)] at st
          exact k H1 as ds (-28) st B1 (Quiet.of s1)
        · have hlt : ds.length < 256 := by
            by_cases z : ds.length < 256
            · exact z
            · exact absurd (decide_eq_true (by rw [hal]; omega)) h4
          rw [if_neg (by omega)] at st
          refine ⟨_, rfl, p, S, dx1, _, _, rfl, ep1, TS.cl, TS.nSteps, shf_steps l, _, rfl, _, rfl, _, rfl, _, rfl, fun a da na nda ne => ?_⟩
          have hpc1 := s1 _ _ hpc
          refine ⟨a, da, pc, x, rfl, upd_same, by rw [upd_ne (ne_of_none hpc1 na), upd_ne (ne_of_none hpc1 nda)]; exact hpc1, hk5, fun H2 pr ps pa ph kp o1 o2 o3 o4 o5 f1 f2 f3 f4 => ⟨rfl, ?_⟩⟩
          have s2 : Same H1 H2 := Same.made na nda kp
          have B2 := B1.same s2
          have hl1 : (upd (upd H1 da (.own a)) a (.ins C da [])) l = some (.lst (as.map V.ref)) := by
            rw [upd_ne (ne_of_none B1.steps.lst na), upd_ne (ne_of_none B1.steps.lst nda)]
            exact B1.steps.lst
          have Z : StepAt C H2 l a ⟨x, true, []⟩ := ⟨da, pc, pr, ps, pa, ph, o1, s2 _ _ hpc1, o2, o3, o4, o5, nc, fun z => (by rw [z, hl1] at f1; cases f1), fun z => (by rw [z, hl1] at f2; cases f2), fun z => (by rw [z, hl1] at f3; cases f3), fun z => (by rw [z, hl1] at f4; cases f4)⟩
          have hna : a ∉ as := fun hm => by
            obtain ⟨j, hj⟩ := List.getElem?_of_mem hm
            have hjl : j < ds.length := by rw [← B.steps.len]; exact (List.getElem?_eq_some_iff.mp hj).1
            obtain ⟨_, _, _, _, _, _, z⟩ := B1.steps.at_ j a _ hj (List.getElem?_eq_getElem hjl)
            rw [z.obj] at na
            cases na
          refine ⟨l, a, as, ds, _, rfl, B2.steps, hlt, Z, hna, fun H3 B3 kp3 => ?_⟩
          obtain ⟨dx2, ep2⟩ := B2.obj
          have npl : p ≠ l := ne_of ep2 B2.steps.lst (by intro z; cases z)
          have npa : p ≠ a := ne_of_none ep1 na
          refine k H3 _ _ _ st ⟨⟨dx2, kp3 _ _ ep2 npl npa⟩, B3, by rw [List.length_append]; show ds.length + 1 ≤ 256; omega, fun d hd => ?_⟩ fun b o e i nb => ⟨?_, nb⟩
          · rcases List.mem_append.mp hd with z | z
            · exact B.good d z
            · have : d = _ := List.mem_singleton.mp z
              rw [this]
              exact h3
          · exact kp3 _ _ (s2 _ _ (s1 _ _ e)) nb (ne_of_none (s1 _ _ e) na)
/-! ### give -/
def spGive (S C : Addr) : Sp := fun vs H Q _ => ∃ (p l : Addr) (as : List Addr) (ds : List Done) (w n : Nat), vs = [.ref p, .int (w : Int), .int (n : Int)] ∧ SheetAt S C H p l as ds ∧
  ∀ (H' : Hp) (ds' : List Done) (r : Int), Kp188.step (some ds) (.give w n) = (some ds', Kp188.say r) → SheetAt S C H' p l as ds' → Quiet l l H H' → Q (.int r) H'
theorem scGive : FnScope ["self", "who", "n", "refused", "step"] ["self", "who", "n"] (defScope sGive) := ⟨rfl, rfl, rfl, by decide +kernel, rfl, by decide +kernel, by decide +kernel⟩
theorem dp_ints {H : Hp} : ∀ l : List Nat, DpAll K H (nI l) ((up l).map PyData.int)
  | [] => .nil
  | n :: r => .cons (.int (n : Int)) (dp_ints r)
theorem up_inj : ∀ {a b : List Nat}, up a = up b → a = b
  | [], [], _ => rfl
  | [], y :: b, h => by simp [up] at h
  | x :: a, [], h => by simp [up] at h
  | x :: a, y :: b, h => by
    have h1 := List.cons.inj (show ((x : Int) :: up a) = (y : Int) :: up b from h)
    rw [up_inj h1.2, show x = y by omega]
theorem eqv_same (a b : List Nat) : PyData.eqv (.list ((up a).map PyData.int)) (.list ((up b).map PyData.int)) = Kp188.same a b := by
  show PyData.eqvAll _ _ = _
  rw [PySem.W.ked_eqvAll, Bool.eq_iff_iff, decide_eq_true_eq, TbM.same_iff]
  exact ⟨up_inj, fun z => by rw [z]⟩
theorem ok_give {f S C fR fH fO : Addr} {fd fdR fdH fdO : FuncData} {t4 t5 : Tok} (F : Fun K "give" "Sheet.give" sGive f fd) (T : Txt K mg C) (TS : TxtS K S) (m4 : mg "HUNG_ON" = some (.int (-16) t4)) (m5 : mg "HANGS_OTHERWISE" = some (.int (-11) t5))
    (GR : FnOk P w K mg base CX0 1 fR fdR ["self", "who", "n", "due_there"] (spRefusal S C)) (bR : Binds K fdR ["self", "who", "n", "due_there"] []) (mR : Meth K S "refusal" fR)
    (GH : FnOk P w K mg base CX0 1 fH fdH ["steps", "n"] (spHangers C)) (kH : PySem.W.keepIn K (.ref fH) = true) (bH : Binds K fdH ["steps", "n"] []) (mH : mg "hangers" = some (.ref fH))
    (GO : FnOk P w K mg base CX0 2 fO fdO ["steps", "n"] (spHangsOn C)) (kO : PySem.W.keepIn K (.ref fO) = true) (bO : Binds K fdO ["steps", "n"] []) (mO : mg "hangs_on" = some (.ref fO)) : FnOk P w K mg base CX0 3 f fd ["self", "who", "n"] (spGive S C) := by
  refine F.ok scGive (fun vs H Q E h => ?_) (fun cdv A outer s H vs Q E hr h => ?_)
  · obtain ⟨p, l, as, ds, w, n, rfl, _⟩ := h
    rfl
  · obtain ⟨p, l, as, ds, w, n, rfl, B, k⟩ := h
    have hr1 : Room 1 _ := hr.mono (by decide)
    refine ⟨_, pss_cons (ps_set (i := 3) scGive.nd rfl (Or.inl rfl) (pe_meth (pv 0) TS.cl mR GR hr1 bR .nil pass0 (pa_cons (pv 1) (pa_cons (pv 2) (pa_cons pe_bl pa_nil)))))
      (pss_cons (ps_if (pt_cmpR op_lt (pv 3) pe_int (nomark _)) (pss_one (ps_ret (pv 3))) pss_nil)
      (pss_cons (ps_set (i := 4) scGive.nd rfl (Or.inl rfl) (pe_ix ix_list (pe_fld (pv 0) rfl) (pv 2) (fun _ _ => rfl)))
      (pss_cons (ps_if (pt_cmpR (op_neD hr.units) (pe_call GO hr rfl mO kO bO .nil pass0 (pa_cons (pe_fld (pv 0) rfl) (pa_cons (pv 2) pa_nil))) (pe_fld (pv 4) rfl) (nomark _)) (pss_one (ps_ret (pgI rfl m5))) pss_nil)
      (pss_cons (ps_if (pt_cmpR op_gt (pe_callB call_len_seq (by rfl) T.len PySem.boot_len (pa_cons (pe_call GH hr1 rfl mH kH bH .nil pass0 (pa_cons (pe_fld (pv 0) rfl) (pa_cons (pv 2) pa_nil))) pa_nil)) pe_int (nomark _)) (pss_one (ps_ret (pgI rfl m4))) pss_nil)
      (pss_cons (ps_fld (pv 4) pe_bl rfl)
      (pss_one (ps_ret pe_int))))))), ?_⟩
    obtain ⟨dx, ep⟩ := B.obj
    refine ⟨_, rfl, p, dx, _, rfl, ep, shf_no l (by decide +kernel), _, rfl, _, rfl, p, l, as, ds, w, n, false, rfl, B, ?_⟩
    refine ⟨_, rfl, _, _, rfl, rfl, _, rfl, ?_⟩
    have st : Kp188.step (some ds) (.give w n) = (match ds[n]? with
        | none => (some ds, Kp188.say (-2))
        | some d => if d.step.who ≠ w then (some ds, Kp188.say (-1)) else if d.there then (some ds, Kp188.say (-17)) else
            if Kp188.same (Kp188.hangs (Kp188.mark ds [n] true) n) d.hung = false then (some ds, Kp188.say (-11)) else if (Kp188.hanging (Kp188.mark ds [n] true) n).isEmpty = false then (some ds, Kp188.say (-16)) else (some (Kp188.mark ds [n] true), Kp188.say 0)) := rfl
    cases hdn : ds[n]? with
    | none =>
      rw [hdn] at st
      have er : refuse ds w n false = -2 := by unfold refuse; rw [hdn]
      rw [er]
      refine ite2 (fun _ => ?_) (fun h => absurd (by decide) h)
      exact ⟨_, rfl, k H ds (-2) st B (Quiet.of (Same.refl H))⟩
    | some d =>
      rw [hdn] at st
      dsimp only at st
      by_cases hw : d.step.who = w
      · rw [if_neg (fun z => z hw)] at st
        by_cases ht : d.there = true
        · rw [if_pos ht] at st
          have er : refuse ds w n false = -17 := by unfold refuse; rw [hdn]; dsimp only; rw [if_pos hw, if_neg (by rw [ht]; simp)]
          rw [er]
          refine ite2 (fun _ => ?_) (fun h => absurd (by decide) h)
          exact ⟨_, rfl, k H ds (-17) st B (Quiet.of (Same.refl H))⟩
        · rw [if_neg ht] at st
          have er : refuse ds w n false = 0 := by unfold refuse; rw [hdn]; dsimp only; rw [if_pos hw, if_pos (Bool.eq_false_iff.mpr ht)]
          rw [er]
          refine ite2 (fun h => absurd h (by decide)) (fun _ => ?_)
          obtain ⟨a, ha, ha2, dx2, pc, pr, ps, pa, ph, Z⟩ := B.steps.get hdn
          have hn : n < ds.length := (List.getElem?_eq_some_iff.mp hdn).1
          refine ⟨_, rfl, p, S, dx, _, _, rfl, ep, TS.cl, TS.nSteps, shf_steps l, _, rfl, l, _, _, _, rfl, rfl, SqL.of B.steps.lst, at_of (j := n) (v := V.ref a) rfl ha2, ?_⟩
          refine ⟨_, rfl, p, S, dx, _, _, rfl, ep, TS.cl, TS.nSteps, shf_steps l, _, rfl, l, as, ds, n, rfl, B.steps, hn, B.small, fun H1 q s1 hq hq1 => ?_⟩
          have B1 := B.same s1
          have Z1 := Z.same s1
          refine ⟨_, rfl, a, C, dx2, _, _, rfl, Z1.obj, T.cl, T.nHung, sf_hung .., _, _, .lst (SqL.of hq1) (dp_ints _), .lst (SqL.of Z1.oh) (dp_ints _), PySem.W.ke_shaped_ints _, PySem.W.ke_shaped_ints _, _, rfl, ?_⟩
          rw [eqv_same]
          have eh : Kp188.hangs (Kp188.mark ds [n] true) n = Kp188.hangs ds n := by rw [TbM.mark_one hdn]; exact TbM.hangs_set hdn
          rw [eh, TbM.hanging_hits hdn B.small] at st
          refine ite2 (fun h => ?_) (fun h => ?_)
          · have h' : Kp188.same (Kp188.hangs ds n) d.hung = false := by simpa using h
            rw [if_pos h'] at st
            exact k H1 ds (-11) st B1 (Quiet.of s1)
          · have h' : ¬ Kp188.same (Kp188.hangs ds n) d.hung = false := by simpa using h
            rw [if_neg h'] at st
            obtain ⟨dx1, ep1⟩ := B1.obj
            refine ⟨_, rfl, p, S, dx1, _, _, rfl, ep1, TS.cl, TS.nSteps, shf_steps l, _, rfl, l, as, ds, n, d, rfl, B1.steps, hdn, B.small, fun H2 q2 s2 hq2 hq3 => ?_⟩
            refine ⟨q2, _, rfl, .inl (SqL.of hq3), _, _, rfl, rfl, _, rfl, ?_⟩
            dsimp only
            rw [len_pos]
            have B2 := B1.same s2
            have s12 := Same.trans s1 s2
            refine ite2 (fun h4 => ?_) (fun h4 => ?_)
            · have h5 : (TbM.hits ds (TbM.fedOf d.step) n).isEmpty = false := by simpa using h4
              rw [if_pos h5] at st
              exact k H2 ds (-16) st B2 (Quiet.of s12)
            · have h5 : ¬ (TbM.hits ds (TbM.fedOf d.step) n).isEmpty = false := by simpa using h4
              rw [if_neg h5, TbM.mark_one hdn] at st
              have Z2 := Z1.same s2
              refine ⟨_, rfl, a, C, dx2, _, rfl, Z2.obj, T.cl, T.nThere, (by show 9 < 1000; decide), ?_⟩
              obtain ⟨B3, q3⟩ := B2.mark ha hdn Z2 true
              exact k _ _ 0 st B3 (Quiet.trans (Quiet.of s12) q3)
      · rw [if_pos hw] at st
        have er : refuse ds w n false = -1 := by unfold refuse; rw [hdn]; dsimp only; rw [if_neg hw]
        rw [er]
        refine ite2 (fun _ => ?_) (fun h => absurd (by decide) h)
        exact ⟨_, rfl, k H ds (-1) st B (Quiet.of (Same.refl H))⟩
end
end Tb

-- All
set_option Elab.async false
set_option linter.all false
set_option maxRecDepth 100000
set_option maxHeartbeats 2000000
namespace Tb
open PySem PySem.Spec PyProof.Rows L2
open Kp188 (Done)
theorem mark_nil (ds : List Done) (b : Bool) : Kp188.mark ds [] b = ds := by
  apply List.ext_getElem?
  intro k
  rw [TbM.mark_get]
  cases ds[k]? <;> rfl
theorem mark_snoc {ds : List Done} {ns : List Nat} {n : Nat} {d : Done} {b : Bool} (h : (Kp188.mark ds ns b)[n]? = some d) : Kp188.mark ds (ns ++ [n]) b = (Kp188.mark ds ns b).set n { d with there := b } := by
  have hn : n < (Kp188.mark ds ns b).length := (List.getElem?_eq_some_iff.mp h).1
  apply List.ext_getElem?
  intro k
  rw [TbM.mark_get, List.getElem?_set]
  by_cases e : n = k
  · subst e
    rw [if_pos rfl, if_pos hn]
    rw [TbM.mark_get] at h
    cases hd : ds[n]? with
    | none => rw [hd] at h; cases h
    | some d0 =>
      rw [hd] at h
      have h2 := Option.some.inj h
      have hc : (ns ++ [n]).contains n = true := by simp
      rw [Option.map_some, hc, if_pos rfl, ← h2]
      split <;> rfl
  · rw [if_neg e, TbM.mark_get]
    have hc : (ns ++ [n]).contains k = ns.contains k := by
      rw [Bool.eq_iff_iff, List.contains_iff_mem, List.contains_iff_mem, List.mem_append, List.mem_singleton]
      constructor
      · rintro (z | z)
        · exact z
        · exact absurd z.symm e
      · exact .inl
    rw [hc]
/-- is step k somebody else's than w's -/
def other (ds : List Done) (w k : Nat) : Bool := match ds[k]? with
  | some e => e.step.who != w
  | none => false
def spAll (S C : Addr) : Sp := fun vs H Q _ => ∃ (p l : Addr) (as : List Addr) (ds : List Done) (w n : Nat), vs = [.ref p, .int (w : Int), .int (n : Int)] ∧ SheetAt S C H p l as ds ∧
  ∀ (H' : Hp) (ds' : List Done) (r : Int), Kp188.step (some ds) (.all w n) = (some ds', Kp188.say r) → SheetAt S C H' p l as ds' → Quiet l l H H' → Q (.int r) H'
section
variable {P : Program} {w : World} {K : PySem.W.Frag} {mg : Str → Option Value} {base : Heap}
theorem scAll : FnScope ["self", "who", "n", "refused", "going", "step", "each"] ["self", "who", "n"] (defScope sAll) := ⟨rfl, rfl, rfl, by decide +kernel, rfl, by decide +kernel, by decide +kernel⟩
/-- going = [self.steps[each] for each in with_all_hangers(self.steps, n)] -/
theorem rd_going {S C : Addr} (TS : TxtS K S) {σ : L2.St} {H : Hp} {p l : Addr} {as gs : List Addr} {ds : List Done} {n : Nat} {d : Done} {Q : VK} (B : SheetAt S C H p l as ds) (hdn : ds[n]? = some d) (hth : d.there = true)
    (h0 : σ[0]? = some (some (.ref p))) (h2 : σ[2]? = some (some (.int (n : Int)))) (hl : σ.length = 7) (hgl : gs.length = (TbM.aboveAll ds n).length) (hg : ∀ (j k : Nat), (TbM.aboveAll ds n)[j]? = some k → gs[j]? = as[k]?)
    (k : ∀ (H' : Hp) (q : Addr), Same H H' → H q = none → H' q = some (.lst (gs.map V.ref)) → Q (.ref q) H') :
    tLc (iList K (tCall (spWithAll C) [] E0 (tCons (tFld K (tVar 0) "steps") (tCons (tVar 2) tNil)))) (gName 6) tYes (tOp (rIxL K) (tFld K (tVar 0) "steps") (tVar 6)) [6] σ H Q := by
  obtain ⟨dx, ep⟩ := B.obj
  have hn : n < ds.length := (List.getElem?_eq_some_iff.mp hdn).1
  refine ⟨_, h0, p, S, dx, _, _, rfl, ep, TS.cl, TS.nSteps, shf_steps l, _, h2, l, as, ds, n, d, rfl, B.steps, hdn, hth, B.small, fun H1 e s1 he he1 => ?_⟩
  refine ⟨e, rfl, ⟨_, SqL.of he1⟩, fun D hD => ?_⟩
  refine lc_list (K := K) (a := e) (xs := nI (TbM.aboveAll ds n)) (fun j H' => Same H1 H' ∧ H' D = some (.lst ((gs.take j).map V.ref))) ⟨Same.new (Same.refl H1) hD, upd_same⟩ (fun j H' _ z => SqL.of (z.1 _ _ he1)) ?_ ?_
  · rintro j x H' hj ⟨s2, hD1⟩
    obtain ⟨c, hc, rfl⟩ := nI_get hj
    have hcl : c < ds.length := (TbM.aboveAll_lt hn B.small (List.mem_of_getElem? hc)).2
    have B2 := (B.same s1).same s2
    obtain ⟨dx2, ep2⟩ := B2.obj
    obtain ⟨dc, hdc⟩ : ∃ dc, ds[c]? = some dc := ⟨_, List.getElem?_eq_getElem hcl⟩
    obtain ⟨a, ha, ha2, _⟩ := B2.steps.get hdc
    have hgj : gs[j]? = some a := (hg j c hc).trans ha
    have e0 : ((wipe σ [6]).set 6 (some (.int (c : Int))))[0]? = some (some (.ref p)) := by
      show (((σ.set 6 none)).set 6 _)[0]? = _
      rw [List.getElem?_set_ne (by decide), List.getElem?_set_ne (by decide)]
      exact h0
    have e6 : ((wipe σ [6]).set 6 (some (.int (c : Int))))[6]? = some (some (.int (c : Int))) := by
      show (((σ.set 6 none)).set 6 _)[6]? = _
      rw [List.getElem?_set_self (by rw [List.length_set]; omega)]
    have hgl2 : gs.length ≤ 256 := by
      rw [hgl]
      refine nodup_le 256 _ ?_ fun x hx => ?_
      · exact List.Pairwise.imp (fun h => Nat.ne_of_lt h) (TbM.aboveAll_sorted n B.small)
      · have := (TbM.aboveAll_lt hn B.small hx).2
        have := B.small
        omega
    refine ⟨?_, _, e0, p, S, dx2, _, _, rfl, ep2, TS.cl, TS.nSteps, shf_steps l, _, e6, l, _, _, _, rfl, rfl, SqL.of B2.steps.lst, at_of (j := c) (v := V.ref a) rfl ha2, _, hD1, size256 (by rw [List.length_map, List.length_take]; omega), Same.own s2 hD, ?_⟩
    · show (((σ.set 6 none).set 6 _).set 6 none) = σ.set 6 none
      rw [List.set_set, List.set_set]
    · rw [upd_same, TbM.take_snoc hgj, List.map_append]
      rfl
  · rintro H' ⟨s2, hD1⟩
    rw [nI_length, ← hgl, List.take_length] at hD1
    exact k H' D (Same.trans s1 s2) (s1.free hD) hD1
/-- any([step.who != who for step in going]) -/
theorem rd_others {S C : Addr} (T : Txt K mg C) {σ : L2.St} {H : Hp} {p l g : Addr} {as gs : List Addr} {ds : List Done} {A : List Nat} {w : Nat} {Q : Bool → Hp → Prop} (B : SheetAt S C H p l as ds) (hA : ∀ k ∈ A, k < ds.length) (hA2 : A.length ≤ 256)
    (h1 : σ[1]? = some (some (.int (w : Int)))) (h4 : σ[4]? = some (some (.ref g))) (hl : σ.length = 7) (hgl : gs.length = A.length) (hg : ∀ (j k : Nat), A[j]? = some k → gs[j]? = as[k]?) (ho : H g = some (.lst (gs.map V.ref)))
    (k : ∀ H' : Hp, Same H H' → Q (A.any (other ds w)) H') :
    (fun σ H (Q : Bool → Hp → Prop) => tCB (rAny K) (tCons (tLc (iList K (tVar 4)) (gName 5) tYes (tOp rNe (tFld K (tVar 5) "who") (tVar 1)) [5]) tNil) σ H fun x H' => ∃ b, TruV K x H' b ∧ Q b H') σ H Q := by
  refine ⟨_, h4, g, rfl, ⟨_, SqL.of ho⟩, fun D hD => ?_⟩
  refine lc_list (K := K) (a := g) (xs := gs.map V.ref) (fun j H' => Same H H' ∧ H' D = some (.lst ((A.take j).map fun k => V.bl (other ds w k)))) ⟨Same.new (Same.refl H) hD, upd_same⟩ (fun j H' _ z => SqL.of (z.1 _ _ ho)) ?_ ?_
  · rintro j x H' hj ⟨s1, hD1⟩
    have hjl : j < A.length := by
      have := (List.getElem?_eq_some_iff.mp hj).1
      rw [List.length_map] at this
      omega
    obtain ⟨c, hc⟩ : ∃ c, A[j]? = some c := ⟨_, List.getElem?_eq_getElem hjl⟩
    have hcl := hA c (List.mem_of_getElem? hc)
    obtain ⟨d, hd⟩ : ∃ d, ds[c]? = some d := ⟨_, List.getElem?_eq_getElem hcl⟩
    have B1 := B.same s1
    obtain ⟨a, ha, ha2, dx, pc, pr, ps, pa, ph, Z⟩ := B1.steps.get hd
    have hgj : gs[j]? = some a := (hg j c hc).trans ha
    rw [List.getElem?_map, hgj] at hj
    cases hj
    have e1 : ((wipe σ [5]).set 5 (some (.ref a)))[1]? = some (some (.int (w : Int))) := by
      show (((σ.set 5 none)).set 5 _)[1]? = _
      rw [List.getElem?_set_ne (by decide), List.getElem?_set_ne (by decide)]
      exact h1
    have e5 : ((wipe σ [5]).set 5 (some (.ref a)))[5]? = some (some (.ref a)) := by
      show (((σ.set 5 none)).set 5 _)[5]? = _
      rw [List.getElem?_set_self (by rw [List.length_set]; omega)]
    refine ⟨?_, _, e5, a, C, dx, _, _, rfl, Z.obj, T.cl, T.nWho, sf_who .., _, e1, rfl, _, hD1, size256 (by rw [List.length_map, List.length_take]; omega), Same.own s1 hD, ?_⟩
    · show (((σ.set 5 none).set 5 _).set 5 none) = σ.set 5 none
      rw [List.set_set, List.set_set]
    · rw [upd_same, TbM.take_snoc hc, List.map_append]
      have eo : other ds w c = !decide (V.int (d.step.who : Int) = V.int (w : Int)) := by
        unfold other
        rw [hd]
        dsimp only
        by_cases z : d.step.who = w
        · rw [z, decide_eq_true rfl]; simp
        · rw [decide_eq_false (fun y => z (by injection y with y; omega))]; simpa using z
      rw [← eo]
      rfl
  · rintro H' ⟨s1, hD1⟩
    rw [List.length_map, hgl, List.take_length] at hD1
    refine ⟨D, A.map (other ds w), rfl, SqL.of (by rw [hD1, List.map_map]; rfl), _, rfl, ?_⟩
    rw [List.any_map]
    exact k H' s1
theorem ok_all {f S C fR fW : Addr} {fd fdR fdW : FuncData} {t4 : Tok} (F : Fun K "all_of" "Sheet.all_of" sAll f fd) (T : Txt K mg C) (TS : TxtS K S) (m4 : mg "OTHERS_HANG_ON_IT" = some (.int (-13) t4))
    (GR : FnOk P w K mg base CX0 1 fR fdR ["self", "who", "n", "due_there"] (spRefusal S C)) (bR : Binds K fdR ["self", "who", "n", "due_there"] []) (mR : Meth K S "refusal" fR)
    (GW : FnOk P w K mg base CX0 2 fW fdW ["steps", "n"] (spWithAll C)) (kW : PySem.W.keepIn K (.ref fW) = true) (bW : Binds K fdW ["steps", "n"] []) (mW : mg "with_all_hangers" = some (.ref fW)) : FnOk P w K mg base CX0 3 f fd ["self", "who", "n"] (spAll S C) := by
  refine F.ok scAll (fun vs H Q E h => ?_) (fun cdv A outer s H vs Q E hr h => ?_)
  · obtain ⟨p, l, as, ds, w, n, rfl, _⟩ := h
    rfl
  · obtain ⟨p, l, as, ds, w, n, rfl, B, k⟩ := h
    have hr1 : Room 1 _ := hr.mono (by decide)
    refine ⟨_, pss_cons (ps_set (i := 3) scAll.nd rfl (Or.inl rfl) (pe_meth (pv 0) TS.cl mR GR hr1 bR .nil pass0 (pa_cons (pv 1) (pa_cons (pv 2) (pa_cons pe_bl pa_nil)))))
      (pss_cons (ps_if (pt_cmpR op_lt (pv 3) pe_int (nomark _)) (pss_one (ps_ret (pv 3))) pss_nil)
      (pss_cons (ps_setLc (i := 4) (te := tOp (rIxL K) (tFld K (tVar 0) "steps") (tVar 6)) rfl scAll.nd rfl rfl (sw_true rfl rfl rfl (by decide +kernel)) (pi_list (pe_call GW hr rfl mW kW bW .nil pass0 (pa_cons (pe_fld (pv 0) rfl) (pa_cons (pv 2) pa_nil))))
          (blkOk_by (own := [("each", 6)]) (by show blkC ["self", "who", "n", "refused", "going", "step", "each"] (defScope sAll) _ _ = true; decide +kernel)) (fun _ _ _ _ _ => pg_name (i := 6) scAll.nd rfl (Or.inl rfl)) (fun _ _ _ _ _ => pts_nil) (fun _ _ _ _ _ => pe_ix ix_list (pe_fld (pv 0) (by rfl)) (pv 6) (fun _ _ => rfl)))
      (pss_cons (ps_if (pt_truth (pe_callB (cr_any rfl) (by rfl) T.any boot_any0 (pa_cons
          (pe_lc (te := tOp rNe (tFld K (tVar 5) "who") (tVar 1)) rfl scAll.nd (pi_list (pv 4)) (blkOk_by (own := [("step", 5)]) (by show blkC ["self", "who", "n", "refused", "going", "step", "each"] (defScope sAll) _ _ = true; decide +kernel)) (fun _ _ _ _ _ => pg_name (i := 5) scAll.nd rfl (Or.inl rfl)) (fun _ _ _ _ _ => pts_nil)
            (fun _ _ _ _ _ => pe_cmpR op_ne (pe_fld (pv 5) (by rfl)) (pv 1) (nomark _))) pa_nil)) (fun _ => rfl)) (pss_one (ps_ret (pgI rfl m4))) pss_nil)
      (pss_cons (ps_for PassesOwn.never rfl (pi_list (pv 4)) (pg_name (i := 5) scAll.nd rfl (Or.inl rfl)) (pss_one (ps_fld (pv 5) pe_bl rfl)))
      (pss_one (ps_ret (pe_callB call_len_seq (by rfl) T.len PySem.boot_len (pa_cons (pv 4) pa_nil)))))))), ?_⟩
    obtain ⟨dx, ep⟩ := B.obj
    refine ⟨_, rfl, p, dx, _, rfl, ep, shf_no l (by decide +kernel), _, rfl, _, rfl, p, l, as, ds, w, n, true, rfl, B, ?_⟩
    refine ⟨_, rfl, _, _, rfl, rfl, _, rfl, ?_⟩
    have st : Kp188.step (some ds) (.all w n) = (match ds[n]? with
        | none => (some ds, Kp188.say (-2))
        | some d => if d.step.who ≠ w then (some ds, Kp188.say (-1)) else if d.there = false then (some ds, Kp188.say (-17)) else
            if (TbM.aboveAll ds n).any (other ds w) then (some ds, Kp188.say (-13)) else (some (Kp188.mark ds (TbM.aboveAll ds n) false), Kp188.say ((TbM.aboveAll ds n).length : Int))) := rfl
    cases hdn : ds[n]? with
    | none =>
      rw [hdn] at st
      have er : refuse ds w n true = -2 := by unfold refuse; rw [hdn]
      rw [er]
      refine ite2 (fun _ => ?_) (fun h => absurd (by decide) h)
      exact ⟨_, rfl, k H ds (-2) st B (Quiet.of (Same.refl H))⟩
    | some d =>
      rw [hdn] at st
      dsimp only at st
      by_cases hw : d.step.who = w
      · rw [if_neg (fun z => z hw)] at st
        by_cases ht : d.there = true
        · rw [if_neg (by rw [ht]; simp)] at st
          have er : refuse ds w n true = 0 := by unfold refuse; rw [hdn]; dsimp only; rw [if_pos hw, if_pos ht]
          rw [er]
          refine ite2 (fun h => absurd h (by decide)) (fun _ => ?_)
          have hn : n < ds.length := (List.getElem?_eq_some_iff.mp hdn).1
          have hsm := B.small
          have hAlt : ∀ k ∈ TbM.aboveAll ds n, k < ds.length := fun k hk => (TbM.aboveAll_lt hn B.small hk).2
          have hA2 : (TbM.aboveAll ds n).length ≤ 256 := nodup_le 256 _ (List.Pairwise.imp (fun h => Nat.ne_of_lt h) (TbM.aboveAll_sorted n B.small)) fun x hx => by have := hAlt x hx; omega
          obtain ⟨gs, hgl, hg⟩ : ∃ gs : List Addr, gs.length = (TbM.aboveAll ds n).length ∧ ∀ (j k : Nat), (TbM.aboveAll ds n)[j]? = some k → gs[j]? = as[k]? := by
            refine ⟨(TbM.aboveAll ds n).map fun k => (as[k]?).getD p, List.length_map .., fun j k h => ?_⟩
            have hk : k < as.length := by rw [B.steps.len]; exact hAlt k (List.mem_of_getElem? h)
            obtain ⟨z, hz⟩ : ∃ z, as[k]? = some z := ⟨_, List.getElem?_eq_getElem hk⟩
            rw [List.getElem?_map, h, hz]
            show some ((as[k]?).getD p) = some z
            rw [hz]
            rfl
          (try dsimp only [gName, tSeq, tIfS, tNext, tAsg])
          refine rd_going TS B hdn ht rfl rfl rfl hgl hg fun H1 g s1 hgf hgo => ?_
          have B1 := B.same s1
          (try dsimp only [gName, tSeq, tIfS, tNext, tAsg])
          refine rd_others T B1 hAlt hA2 rfl rfl rfl hgl hg hgo fun H2 s2 => ?_
          have B2 := B1.same s2
          have s12 := Same.trans s1 s2
          refine ite2 (fun h => ?_) (fun h => ?_)
          · rw [if_pos h] at st
            exact k H2 ds (-13) st B2 (Quiet.of s12)
          · rw [if_neg h] at st
            have hgo2 := s2 _ _ hgo
            have ngl : g ≠ l := fun z => by rw [z, B.steps.lst] at hgf; cases hgf
            refine ⟨_, rfl, g, rfl, ⟨_, SqL.of hgo2⟩, for_list (K := K) (a := g) (xs := gs.map V.ref) (fun i σ H' => ∃ v5 : Option V, σ = [some (.ref p), some (.int (w : Int)), some (.int (n : Int)), some (.int 0), some (.ref g), v5, none] ∧ SheetAt S C H' p l as (Kp188.mark ds ((TbM.aboveAll ds n).take i) false) ∧ Quiet l l H H' ∧ H' g = some (.lst (gs.map V.ref)))
              ⟨none, rfl, by rw [List.take_zero, mark_nil]; exact B2, Quiet.of s12, hgo2⟩ (fun i σ H' _ ⟨_, _, _, _, z⟩ => SqL.of z) ?_ ?_⟩
            · rintro i x σ H' hi ⟨v5, rfl, B3, q3, hg3⟩
              have hil : i < (TbM.aboveAll ds n).length := by
                have := (List.getElem?_eq_some_iff.mp hi).1
                rw [List.length_map] at this
                omega
              obtain ⟨c, hc⟩ : ∃ c, (TbM.aboveAll ds n)[i]? = some c := ⟨_, List.getElem?_eq_getElem hil⟩
              have hcl := hAlt c (List.mem_of_getElem? hc)
              obtain ⟨d3, hd3⟩ : ∃ d3, (Kp188.mark ds ((TbM.aboveAll ds n).take i) false)[c]? = some d3 := ⟨_, List.getElem?_eq_getElem (by rw [TbM.mark_length]; exact hcl)⟩
              obtain ⟨a, ha, ha2, dx3, pc, pr, ps, pa, ph, Z⟩ := B3.steps.get hd3
              have hgi : gs[i]? = some a := (hg i c hc).trans ha
              rw [List.getElem?_map, hgi] at hi
              cases hi
              refine ⟨_, rfl, a, C, dx3, _, rfl, Z.obj, T.cl, T.nThere, (by show 9 < 1000; decide), ?_⟩
              obtain ⟨B4, q4⟩ := B3.mark ha hd3 Z false
              refine ⟨_, rfl, ?_, Quiet.trans q3 q4, (q4 _ _ hg3 (.inl ⟨_, rfl⟩) ngl).1⟩
              rw [TbM.take_snoc hc, mark_snoc hd3]
              exact B4
            · rintro σ H' ⟨v5, rfl, B3, q3, hg3⟩
              rw [List.length_map, hgl, List.take_length] at B3
              refine ⟨_, rfl, g, _, rfl, .inl (SqL.of hg3), ?_⟩
              have := k H' _ _ st B3 q3
              rw [List.length_map, hgl]
              exact this
        · rw [if_pos (Bool.eq_false_iff.mpr ht)] at st
          have er : refuse ds w n true = -17 := by unfold refuse; rw [hdn]; dsimp only; rw [if_pos hw, if_neg ht]
          rw [er]
          refine ite2 (fun _ => ?_) (fun h => absurd (by decide) h)
          exact ⟨_, rfl, k H ds (-17) st B (Quiet.of (Same.refl H))⟩
      · rw [if_pos hw] at st
        have er : refuse ds w n true = -1 := by unfold refuse; rw [hdn]; dsimp only; rw [if_neg hw]
        rw [er]
        refine ite2 (fun _ => ?_) (fun h => absurd (by decide) h)
        exact ⟨_, rfl, k H ds (-1) st B (Quiet.of (Same.refl H))⟩
end
end Tb

-- Main
set_option Elab.async false
set_option linter.all false
set_option maxRecDepth 100000
set_option maxHeartbeats 2000000
namespace Tb
open PySem PySem.Spec PyProof.Rows L2
open Kp188 (Done)
theorem size256b {n : Nat} (h : n ≤ 200000) : n < sizeLine := Nat.lt_of_le_of_lt h (by decide)
/-- the sheet says nothing of what stands at t -/
theorem SheetAt.off {S C : Addr} {H H' : Hp} {p l t : Addr} {as : List Addr} {ds : List Done} {o : HO} (B : SheetAt S C H p l as ds) (ht : H t = some o) (h1 : ∀ xs, o ≠ .lst xs) (h2 : ∀ c dx fs, o ≠ .ins c dx fs) (kp : ∀ b u, H b = some u → b ≠ t → H' b = some u) : SheetAt S C H' p l as ds := by
  have kl : ∀ b xs, H b = some (.lst xs) → H' b = some (.lst xs) := fun b xs e => kp b _ e (ne_of e ht (fun z => h1 xs z.symm))
  have ki : ∀ b c dx fs, H b = some (.ins c dx fs) → H' b = some (.ins c dx fs) := fun b c dx fs e => kp b _ e (ne_of e ht (fun z => h2 c dx fs z.symm))
  refine ⟨let ⟨dx, e⟩ := B.obj; ⟨dx, ki _ _ _ _ e⟩, ⟨kl _ _ B.steps.lst, B.steps.nd, B.steps.len, fun j a d e1 e2 => ?_⟩, B.small, B.good⟩
  obtain ⟨dx, pc, pr, ps, pa, ph, z⟩ := B.steps.at_ j a d e1 e2
  exact ⟨dx, pc, pr, ps, pa, ph, ki _ _ _ _ z.obj, kl _ _ z.oc, kl _ _ z.orr, kl _ _ z.os, kl _ _ z.oa, kl _ _ z.oh, z.nc, z.nr, z.ns, z.na, z.nh⟩
/-- the sheet stands whatever stands at t -/
abbrev Masked (S C : Addr) (H : Hp) (t p l : Addr) (as : List Addr) (ds : List Done) : Prop := SheetAt S C (upd H t (.met 0 0)) p l as ds
theorem Masked.any {S C : Addr} {H : Hp} {t p l : Addr} {as : List Addr} {ds : List Done} (B : Masked S C H t p l as ds) (o : HO) : SheetAt S C (upd H t o) p l as ds :=
  SheetAt.off B upd_same (fun _ z => by cases z) (fun _ _ _ z => by cases z) fun b u e n => by
    rw [upd_ne n] at e ⊢
    exact e
theorem Masked.of {S C : Addr} {H : Hp} {t p l : Addr} {as : List Addr} {ds : List Done} {o : HO} (B : SheetAt S C H p l as ds) (ht : H t = some o) (h1 : ∀ xs, o ≠ .lst xs) (h2 : ∀ c dx fs, o ≠ .ins c dx fs) : Masked S C H t p l as ds :=
  SheetAt.off B ht h1 h2 fun b u e n => by
    rw [upd_ne n]
    exact e
theorem Masked.put {S C : Addr} {H : Hp} {t p l : Addr} {as : List Addr} {ds : List Done} {o : HO} (B : Masked S C H t p l as ds) : Masked S C (upd H t o) t p l as ds := by
  unfold Masked
  rw [upd_upd]
  exact B
/-- answer: what one call is worth -/
def spAnswer (S C : Addr) : Sp := fun vs H Q _ => ∃ (p l g : Addr) (as : List Addr) (ds : List Done) (c : Int) (args : List Int), vs = [.ref p, .int c, .ref g] ∧ SheetAt S C H p l as ds ∧ H g = some (.lst (args.map V.int)) ∧ g ≠ l ∧ Kp188Neutral.asked1 [c :: args] = true ∧
  ∀ (H' : Hp) (l' : Addr) (as' : List Addr) (ds' : List Done) (q : Addr) (ans : List Int), Kp188Neutral.step (some ds) [c :: args] = (some ds', ans) → ans.length ≤ 300 → SheetAt S C H' p l' as' ds' → Quiet l l' H H' → H q = none → H' q = some (.lst (ans.map V.int)) → q ≠ l' → Q (.ref q) H'
/-- what is handed in: known, and never changed -/
def ArgL (K : PySem.W.Frag) (H : Hp) (a : Addr) (xs : List V) : Prop := (∃ o, H a = some (.frz o (.lst xs))) ∨ ∀ H', SqL K H' a xs
theorem ArgL.seq {K : PySem.W.Frag} {H : Hp} {a : Addr} {xs : List V} (h : ArgL K H a xs) : SqL K H a xs := by
  rcases h with ⟨o, h⟩ | h
  · exact .inl (.inr ⟨o, h⟩)
  · exact h H
theorem ArgL.of {K : PySem.W.Frag} {H : Hp} {a : Addr} {xs : List V} (hO : OnlyF H) (h : SqL K H a xs) : ArgL K H a xs := by
  rcases h with (h | h) | h
  · rcases hO a with z | ⟨o, u, z⟩
    · rw [h] at z; cases z
    · rw [h] at z; cases z
  · exact .inl h
  · exact .inr fun _ => .inr h
theorem ArgL.quiet {K : PySem.W.Frag} {H H' : Hp} {a l l' : Addr} {xs : List V} (h : ArgL K H a xs) (q : Quiet l l' H H') (hl : ∃ ys, H l = some (.lst ys)) : ArgL K H' a xs := by
  rcases h with ⟨o, h⟩ | h
  · obtain ⟨ys, hl⟩ := hl
    exact .inl ⟨o, (q a _ h (.inr ⟨_, _, rfl⟩) (ne_of h hl (by intro z; cases z))).1⟩
  · exact .inr h
theorem ArgL.same {K : PySem.W.Frag} {H H' : Hp} {a : Addr} {xs : List V} (h : ArgL K H a xs) (s : Same H H') : ArgL K H' a xs := by
  rcases h with ⟨o, h⟩ | h
  · exact .inl ⟨o, s _ _ h⟩
  · exact .inr h
theorem ArgL.upd {K : PySem.W.Frag} {H : Hp} {a t : Addr} {xs ys : List V} {o : HO} (h : ArgL K H a xs) (ht : H t = some (.lst ys)) : ArgL K (upd H t o) a xs := by
  rcases h with ⟨ob, h⟩ | h
  · exact .inl ⟨ob, by rw [upd_ne (ne_of h ht (by intro z; cases z))]; exact h⟩
  · exact .inr h
theorem ArgL.back {K : PySem.W.Frag} {H H' : Hp} {a t : Addr} {xs ys : List V} {o : HO} (h : ArgL K H' a xs) (h0 : ArgL K H a xs) (ht : H t = some (.lst ys)) : ArgL K (L2.upd H' t o) a xs := by
  rcases h0 with ⟨o0, h0⟩ | h0
  · have n : a ≠ t := ne_of h0 ht (fun z => by cases z)
    rcases h with ⟨od, h⟩ | h
    · exact .inl ⟨od, by rw [upd_ne n]; exact h⟩
    · exact .inr h
  · exact .inr h0
/-- how many numbers stand behind each call's own -/
def givenL : List Nat := [0, 6, 2, 2, 2, 1, 1, 1, 1]
theorem given_at {c : Nat} (h : c ≤ 8) : givenL[c]? = some (TbM.given (c : Int)) := by
  match c, h with
  | 0, _ => rfl
  | 1, _ => rfl
  | 2, _ => rfl
  | 3, _ => rfl
  | 4, _ => rfl
  | 5, _ => rfl
  | 6, _ => rfl
  | 7, _ => rfl
  | 8, _ => rfl
theorem cut_mid (xs : List V) {i j : Nat} (hij : i ≤ j) (hj : j ≤ xs.length) : cutV xs (some (i : Int)) (some (j : Int)) = (xs.drop i).take (j - i) := by
  unfold cutV
  rw [HT.sIx_nat, HT.sIx_nat, Nat.min_eq_left hj, Nat.min_eq_left (Nat.le_trans hij hj)]
theorem neutral_some {ds : List Done} {c : Kp188Neutral.Call} : ∃ ds', (Kp188Neutral.step (some ds) c).1 = some ds' := by
  unfold Kp188Neutral.step
  split
  · exact ⟨ds, rfl⟩
  · rename_i x _
    dsimp only
    cases x with
    | begin_ => exact ⟨_, rfl⟩
    | do_ s =>
      show ∃ ds', (if s.good = false then (some ds, Kp188.say (-22)) else if 256 ≤ ds.length then (some ds, Kp188.say (-28)) else (some (ds ++ [⟨s, true, Kp188.hangsOn (Kp188.numbered 0 ds) s⟩]), Kp188.say (ds.length : Int))).1 = some ds'
      split
      · exact ⟨_, rfl⟩
      · split <;> exact ⟨_, rfl⟩
    | take w n =>
      unfold Kp188.step
      dsimp only
      split
      · exact ⟨_, rfl⟩
      · repeat (first | exact ⟨_, rfl⟩ | split)
    | all w n =>
      unfold Kp188.step
      dsimp only
      split
      · exact ⟨_, rfl⟩
      · repeat (first | exact ⟨_, rfl⟩ | split)
    | give w n =>
      unfold Kp188.step
      dsimp only
      split
      · exact ⟨_, rfl⟩
      · repeat (first | exact ⟨_, rfl⟩ | split)
    | cell c => exact ⟨_, rfl⟩
    | hang n => exact ⟨_, rfl⟩
    | from_ c => exact ⟨_, rfl⟩
    | there n => exact ⟨_, rfl⟩
theorem begins_none {cs : List Kp188Neutral.Call} (h : Kp188Neutral.begins cs = true) : PyFlat.played Kp188Neutral.step Kp188Neutral.start cs = PyFlat.played Kp188Neutral.step (some []) cs := by
  unfold Kp188Neutral.begins at h
  split at h
  · rw [TbM.played_cons, TbM.played_cons]
    rfl
  · cases h
def spAnswers (K : PySem.W.Frag) : Sp := fun vs H Q _ => ∃ (a : Addr) (ns : List Int), vs = [.ref a] ∧ ArgL K H a (ns.map V.int) ∧ ns.length ≤ 30000 ∧ PyKp188.answers_asked ns = true ∧ ∀ (H' : Hp) (p : Addr), H' p = some (.lst ((PyKp188.answers ns).map V.int)) → Q (.ref p) H'
section
variable {P : Program} {w : World} {K : PySem.W.Frag} {mg : Str → Option Value} {base : Heap}
theorem scAnswers : FnScope ["calls", "sheet", "told", "at", "call", "behind", "numbers"] ["calls"] (defScope sAnswers) := ⟨rfl, rfl, rfl, by decide +kernel, rfl, by decide +kernel, by decide +kernel⟩
theorem ok_answers {f S C fI fA aG : Addr} {fd fdI fdA : FuncData} {k : Nat} (hk : 1 ≤ k) (F : Fun K "answers" "answers" sAnswers f fd) (T : Txt K mg C) (mG : mg "GIVEN" = some (.ref aG)) (oG : ∀ H, SqT K H aG (nI givenL))
    (M : Mk K S fI) (GI : FnOk P w K mg base CX0 1 fI fdI ["self"] (spShInit S)) (bI : Binds K fdI ["self"] []) (mS : mg "Sheet" = some (.ref S))
    (GA : FnOk P w K mg base CX0 (k + 1) fA fdA ["sheet", "call", "given"] (spAnswer S C)) (kA : PySem.W.keepIn K (.ref fA) = true) (bA : Binds K fdA ["sheet", "call", "given"] []) (mA : mg "answer" = some (.ref fA)) :
    FnOk P w K mg base CX0 (k + 2) f fd ["calls"] (spAnswers K) := by
  refine F.ok scAnswers (fun vs H Q E h => ?_) (fun cdv A outer s H vs Q E hr h => ?_)
  · obtain ⟨a, ns, rfl, _⟩ := h
    rfl
  · obtain ⟨a, ns, rfl, hS, hlen, hask, kk⟩ := h
    have hr2 : Room 2 _ := hr.mono (by omega)
    refine ⟨_, pss_cons (ps_set (i := 1) scAnswers.nd rfl (Or.inl rfl) (pe_make0 M GI hr2 rfl mS bI .nil pass0))
      (pss_cons (ps_set (i := 2) scAnswers.nd rfl (Or.inl rfl) (pe_lst pa_nil))
      (pss_cons (ps_set (i := 3) scAnswers.nd rfl (Or.inl rfl) pe_int)
      (pss_cons (ps_while PassesOwn.never (pt_cmpR op_lt (pv 3) (pe_callB call_len_seq (by rfl) T.len PySem.boot_len (pa_cons (pv 0) pa_nil)) (nomark _))
        (pss_cons (ps_set (i := 4) scAnswers.nd rfl (Or.inl rfl) (pe_ix ix_list (pv 0) (pv 3) (fun _ _ => rfl)))
        (pss_cons (ps_set (i := 5) scAnswers.nd rfl (Or.inl rfl) (pe_op op_add (pe_op op_add (pv 3) pe_int) (pe_ix ix_tup (pgR rfl mG) (pv 4) (fun _ _ => rfl))))
        (pss_cons (ps_lock (ps_set (i := 6) scAnswers.nd rfl (Or.inl rfl) (pe_call GA hr rfl mA kA bA .nil pass0 (pa_cons (pv 1) (pa_cons (pv 4) (pa_cons (pe_slice sl_list (pv 0) (po_some (pe_op op_add (pv 3) pe_int)) (po_some (pv 5))) pa_nil))))))
        (pss_cons (ps_expr (pe_bm PySem.F.plainAttrs_list PySem.F.slot_list_append PySem.F.type_list_append mt_append (pv 2) (pa_cons (pe_callB call_len_seq (by rfl) T.len PySem.boot_len (pa_cons (pv 6) pa_nil)) pa_nil)))
        (pss_cons (ps_expr (pe_bm PySem.F.plainAttrs_list PySem.F.slot_list_extend PySem.F.type_list_extend mt_extend (pv 2) (pa_cons (pv 6) pa_nil)))
        (pss_one (ps_set (i := 3) scAnswers.nd rfl (Or.inl rfl) (pv 5)))))))))
      (pss_one (ps_ret (pv 2)))))), ?_⟩
    obtain ⟨cs, hcs, hc400, hbeg, hall, hans⟩ := TbM.asked_calls hask
    rw [begins_none hbeg] at hans
    intro p dx np ndx ne
    refine ⟨p, dx, rfl, upd_same, fun H1 l kp hp1 hl1 fl => ⟨rfl, ?_⟩⟩
    have s1 : Same H H1 := Same.made np ndx kp
    refine ⟨Nat.zero_le _, fun t ht => ?_⟩
    have B1 : SheetAt S C H1 p l [] [] := sheet_nil hp1 hl1
    have sT : Same H1 (upd H1 t (.lst [])) := Same.new (Same.refl H1) ht
    refine while_by (fun σ H' => ∃ (at_ : Nat) (out : List Int) (l : Addr) (as : List Addr) (ds : List Done) (f : Nat) (cs : List (List (List Int))) (v4 v5 v6 : Option V), σ = [some (.ref a), some (.ref p), some (.ref t), some (.int (at_ : Int)), v4, v5, v6] ∧ ArgL K H' a (ns.map V.int) ∧
        Masked S C H' t p l as ds ∧ H' t = some (.lst (out.map V.int)) ∧ at_ ≤ ns.length ∧ PyFlat.calls PyKp188.shape f (ns.drop at_) = some cs ∧ cs.all Kp188Neutral.asked1 = true ∧ cs.length * 301 + out.length ≤ 130000 ∧
        PyKp188.answers ns = out ++ PyFlat.told (PyFlat.played Kp188Neutral.step (some ds) cs))
      (fun (σ : L2.St) (_ : Hp) => match σ[3]? with | some (some (V.int i)) => ns.length - i.toNat | _ => 0)
      ⟨0, [], l, [], [], ns.length, cs, none, none, none, rfl, (hS.same s1).same sT, ?_, upd_same, Nat.zero_le _, by rw [List.drop_zero]; exact hcs, hall, by show _ * 301 + 0 ≤ 130000; omega, by rw [hans]; rfl⟩ ?_ ?_
    · unfold Masked
      rw [upd_upd]
      exact B1.same (Same.new (Same.refl H1) ht)
    · rintro σ H' ⟨i, out, l, as, ds, f, cs, v4, v5, v6, rfl, hA, B, hto, hi, hcalls, hall, hsz, hfin⟩
      refine ⟨_, rfl, _, rfl, a, _, rfl, .inl hA.seq, _, _, rfl, rfl, _, rfl, ?_⟩
      refine ite2 (fun h1 => ?_) (fun h1 => ?_)
      · have hil : i < ns.length := by
          have := of_decide_eq_true h1
          rw [List.length_map] at this
          omega
        obtain ⟨c, hc⟩ : ∃ c, ns[i]? = some c := ⟨_, List.getElem?_eq_getElem hil⟩
        have edrop : ns.drop i = c :: ns.drop (i + 1) := by
          rw [List.drop_eq_getElem_cons hil]
          congr 1
          exact Option.some.inj ((List.getElem?_eq_getElem hil).symm.trans hc)
        rw [edrop] at hcalls
        obtain ⟨f', cs', rfl, hc0, hc8, hgl, hcalls', rfl⟩ := TbM.calls_cons hcalls
        obtain ⟨cn, rfl⟩ : ∃ cn : Nat, c = (cn : Int) := ⟨c.toNat, by omega⟩
        rw [List.length_drop] at hgl
        have hgl2 : i + 1 + TbM.given (cn : Int) ≤ ns.length := by omega
        have hcm : (ns.map V.int)[i]? = some (V.int (cn : Int)) := by rw [List.getElem?_map, hc]; rfl
        rw [List.all_cons, Bool.and_eq_true] at hall
        refine ⟨_, rfl, _, rfl, a, _, _, _, rfl, rfl, hA.seq, at_of (j := i) (v := V.int (cn : Int)) rfl hcm, ?_⟩
        refine ⟨_, rfl, _, _, rfl, rfl, _, rfl, aG, _, _, _, rfl, rfl, oG H', at_of (j := cn) (v := V.int ((TbM.given (cn : Int) : Nat) : Int)) rfl (nI_at (given_at (by omega))), _, _, rfl, rfl, ?_⟩
        refine ⟨t, _, hto, trivial, fun od => ?_⟩
        have BL : SheetAt S C (upd H' t (.frz od (.lst (out.map V.int)))) p l as ds := B.any _
        have hAL : ArgL K (upd H' t (.frz od (.lst (out.map V.int)))) a (ns.map V.int) := hA.upd hto
        obtain ⟨HL, eHL⟩ : ∃ HL, HL = upd H' t (.frz od (.lst (out.map V.int))) := ⟨_, rfl⟩
        have htL : HL t = some (.frz od (.lst (out.map V.int))) := by rw [eHL]; exact upd_same
        rw [← eHL] at BL hAL
        rw [← eHL]
        refine ⟨_, rfl, _, rfl, _, rfl, _, rfl, _, _, rfl, rfl, _, rfl, _, rfl, _, rfl, a, _, rfl, hAL.seq, fun g hg => ?_⟩
        have ecut : cutV (ns.map V.int) (some ((i : Int) + 1)) (some ((i : Int) + 1 + ((TbM.given (cn : Int) : Nat) : Int))) = ((ns.drop (i + 1)).take (TbM.given (cn : Int))).map V.int := by
          have := cut_mid (ns.map V.int) (i := i + 1) (j := i + 1 + TbM.given (cn : Int)) (by omega) (by rw [List.length_map]; omega)
          rw [show (((i + 1 : Nat)) : Int) = (i : Int) + 1 by omega, show (((i + 1 + TbM.given (cn : Int) : Nat)) : Int) = (i : Int) + 1 + ((TbM.given (cn : Int) : Nat) : Int) by omega] at this
          rw [this, List.map_take, List.map_drop, show i + 1 + TbM.given (cn : Int) - (i + 1) = TbM.given (cn : Int) by omega]
        have sG : Same HL (upd HL g (.lst (cutV (ns.map V.int) (some ((i : Int) + 1)) (some ((i : Int) + 1 + ((TbM.given (cn : Int) : Nat) : Int)))))) := Same.new (Same.refl HL) hg
        have BG := BL.same sG
        refine ⟨p, l, g, as, ds, (cn : Int), (ns.drop (i + 1)).take (TbM.given (cn : Int)), rfl, BG, by rw [← ecut]; exact upd_same, fun z => (by rw [z, BL.steps.lst] at hg; cases hg), hall.1, fun H2 l2 as2 ds2 q ans hst hal B2 q2 hqf hqo nql => ?_⟩
        have ntl : t ≠ l := ne_of htL BL.steps.lst (fun z => by cases z)
        have ht2 := (q2 t _ (sG _ _ htL) (.inr ⟨_, _, rfl⟩) ntl).1
        have hA2 := (hAL.same sG).quiet q2 ⟨_, BG.steps.lst⟩
        have nqt : q ≠ t := ne_of hqo ht2 (fun z => by cases z)
        have hol : (out.map V.int).length < sizeLine := size256b (by rw [List.length_map]; omega)
        refine ⟨ht2, ?_⟩
        have hqo1 : upd H2 t (.lst (out.map V.int)) q = some (.lst (ans.map V.int)) := by rw [upd_ne nqt]; exact hqo
        refine ⟨_, rfl, .inl ⟨rfl, _, SqL.of upd_same⟩, _, rfl, q, _, rfl, .inl (SqL.of hqo1), t, _, _, rfl, rfl, upd_same, hol, ?_⟩
        rw [upd_upd]
        have hqo2 : upd H2 t (.lst (out.map V.int ++ [V.int (((ans.map V.int).length : Nat) : Int)])) q = some (.lst (ans.map V.int)) := by rw [upd_ne nqt]; exact hqo
        refine ⟨_, rfl, .inl ⟨rfl, _, SqL.of upd_same⟩, _, rfl, t, q, _, _, rfl, rfl, upd_same, hqo2, Nat.le_of_lt (size256b (by rw [List.length_append, List.length_map, List.length_map]; show out.length + 1 + ans.length ≤ 200000; omega)), ?_⟩
        rw [upd_upd]
        refine ⟨_, rfl, ?_⟩
        have B3 : Masked S C (upd H2 t (.lst (out.map V.int ++ [V.int (((ans.map V.int).length : Nat) : Int)] ++ ans.map V.int))) t p l2 as2 ds2 := (Masked.of B2 ht2 (fun _ z => by cases z) (fun _ _ _ z => by cases z)).put
        refine ⟨⟨i + 1 + TbM.given (cn : Int), out ++ ((ans.length : Int) :: ans), l2, as2, ds2, f', cs', some (.int (cn : Int)), some (.int ((i : Int) + 1 + ((TbM.given (cn : Int) : Nat) : Int))), some (.ref q), ?_, hA2.back hA hto, B3, ?_, hgl2, ?_, hall.2, ?_, ?_⟩, ?_⟩
        · rw [show (((i + 1 + TbM.given (cn : Int) : Nat)) : Int) = (i : Int) + 1 + ((TbM.given (cn : Int) : Nat) : Int) by omega]
          rfl
        · rw [upd_same, List.map_append, List.map_cons, List.length_map, List.append_assoc]
          rfl
        · rw [List.drop_drop] at hcalls'
          exact hcalls'
        · rw [List.length_append, List.length_cons]
          rw [List.length_cons] at hsz
          omega
        · rw [hfin, TbM.played_cons, TbM.told_cons, hst]
          simp
        · show ns.length - ((i : Int) + 1 + ((TbM.given (cn : Int) : Nat) : Int)).toNat < ns.length - ((i : Int)).toNat
          omega
      · have hil : i = ns.length := by
          by_cases z : i < ns.length
          · exact absurd (decide_eq_true (by rw [List.length_map]; omega)) h1
          · omega
        rw [hil, List.drop_length, TbM.calls_nil] at hcalls
        cases hcalls
        refine ⟨_, rfl, kk H' t ?_⟩
        rw [hto, hfin]
        show _ = some (HO.lst ((out ++ []).map V.int))
        rw [List.append_nil]
    · rintro σ H' Q1 Q2 hQ ⟨v, h1, v2, h2, a', ys, e1, e2, i, j, e3, e4, b, e5, e6⟩
      exact ⟨v, h1, v2, h2, a', ys, e1, e2, i, j, e3, e4, b, e5, hQ _ _ e6⟩
end
end Tb

-- Cells
set_option Elab.async false
set_option linter.all false
set_option maxRecDepth 100000
set_option maxHeartbeats 2000000
namespace Tb
open PySem PySem.Spec PyProof.Rows L2
open Kp188 (Done)
theorem nI_set (l : List Nat) (j v : Nat) : (nI l).set j (V.int (v : Int)) = nI (l.set j v) := by
  unfold nI
  rw [List.map_set]
theorem ixN_nat {n j : Nat} (h : j < n) : ixN n (j : Int) = some j := by
  unfold ixN
  rw [if_pos (by omega), if_pos (by omega)]
  simp
theorem at_get {m : List Nat} {c : Nat} (h : c < m.length) : m[c]? = some (Kp188.at_ m c) := by
  unfold Kp188.at_
  rw [List.getD_eq_getElem?_getD, List.getElem?_eq_getElem h]
  rfl
theorem good_cells {s : Kp188.Step} (h : s.good = true) : s.who < 16 ∧ s.kind ≤ 5 ∧ s.a < 32 ∧ s.b < 32 ∧ s.c < 32 := by
  obtain ⟨who, kind, a, b, c, v⟩ := s
  unfold Kp188.Step.good at h
  rw [Bool.and_eq_true] at h
  obtain ⟨h1, h2⟩ := h
  have hw : who < 16 := of_decide_eq_true h1
  match kind, h2 with
  | 0, h2 => have h3 : (decide (a < 32) && (b == 0 && c == 0)) = true := h2
             simp at h3; exact ⟨hw, by show 0 ≤ 5; omega, by show a < 32; omega, by show b < 32; omega, by show c < 32; omega⟩
  | 1, h2 => have h3 : (decide (a < 32) && (b == 0 && c == 0)) = true := h2
             simp at h3; exact ⟨hw, by show 1 ≤ 5; omega, by show a < 32; omega, by show b < 32; omega, by show c < 32; omega⟩
  | 2, h2 => have h3 : (decide (a < 32) && (decide (b < 32) && (c == 0 && v == 0))) = true := h2
             simp at h3; exact ⟨hw, by show 2 ≤ 5; omega, by show a < 32; omega, by show b < 32; omega, by show c < 32; omega⟩
  | 3, h2 => have h3 : (decide (a < 32) && (decide (b < 32) && (decide (c < 32) && v == 0))) = true := h2
             simp at h3; exact ⟨hw, by show 3 ≤ 5; omega, by show a < 32; omega, by show b < 32; omega, by show c < 32; omega⟩
  | 4, h2 => have h3 : (decide (a < 32) && (decide (b < 32) && (c == 0 && v == 0))) = true := h2
             simp at h3; exact ⟨hw, by show 4 ≤ 5; omega, by show a < 32; omega, by show b < 32; omega, by show c < 32; omega⟩
  | 5, h2 => have h3 : (decide (a < 32) && (decide (b < 32) && c == 0)) = true := h2
             simp at h3; exact ⟨hw, by show 5 ≤ 5; omega, by show a < 32; omega, by show b < 32; omega, by show c < 32; omega⟩
  | n + 6, h2 => exact absurd (show false = true from h2) (by decide)
theorem int_eq (a b : Nat) : decide (V.int (a : Int) = V.int (b : Int)) = decide (a = b) := decide_eq_decide.mpr ⟨fun z => by injection z with z; omega, fun z => by rw [z]⟩
section
variable {s : Kp188.Step} {m : List Nat}
theorem does0 (h : s.kind = 0) : s.does m = m.set s.a s.v := by unfold Kp188.Step.does; rw [h]; rfl
theorem does1 (h : s.kind = 1) : s.does m = m.set s.a ((Kp188.at_ m s.a + s.v) % 4294967296) := by unfold Kp188.Step.does; rw [h]; rfl
theorem does2 (h : s.kind = 2) : s.does m = m.set s.b (Kp188.at_ m s.a) := by unfold Kp188.Step.does; rw [h]; rfl
theorem does3 (h : s.kind = 3) : s.does m = m.set s.c ((Kp188.at_ m s.a + Kp188.at_ m s.b) % 4294967296) := by unfold Kp188.Step.does; rw [h]; rfl
theorem does4 (h : s.kind = 4) : s.does m = (m.set s.a (Kp188.at_ m s.b)).set s.b (Kp188.at_ m s.a) := by unfold Kp188.Step.does; rw [h]; rfl
theorem does5 (h : s.kind = 5) : s.does m = if Kp188.at_ m s.a = 0 then m.set s.b s.v else m := by unfold Kp188.Step.does; rw [h]; rfl
end
theorem does_len (s : Kp188.Step) (m : List Nat) : (s.does m).length = m.length := by
  unfold Kp188.Step.does
  split <;> (try split) <;> simp
theorem cells_len : ∀ (n : Nat) (ds : List Done), (Kp188.cellsOf (ds.take n)).length = 32
  | 0, ds => by rw [List.take_zero]; rfl
  | n + 1, ds => by
    cases h : ds[n]? with
    | none =>
      have hn : ds.length ≤ n := List.getElem?_eq_none_iff.mp h
      rw [List.take_of_length_le (by omega), ← List.take_of_length_le hn]
      exact cells_len n ds
    | some d =>
      rw [TbM.cellsOf_succ h]
      split
      · rw [does_len]; exact cells_len n ds
      · exact cells_len n ds
/-- the tokens of the kinds' names -/
structure Kinds (mg : Str → Option Value) : Prop where
  put : ∃ t, mg "PUT" = some (.int 0 t)
  add : ∃ t, mg "ADD" = some (.int 1 t)
  copy : ∃ t, mg "COPY" = some (.int 2 t)
  sum : ∃ t, mg "SUM" = some (.int 3 t)
  exch : ∃ t, mg "EXCHANGE" = some (.int 4 t)
  nought : ∃ t, mg "IF_NOUGHT" = some (.int 5 t)
  num : ∃ t, mg "NUMBERS" = some (.int 4294967296 t)
def spPerform (C : Addr) : Sp := fun vs H Q _ => ∃ (l p q : Addr) (d : Done) (m : List Nat), vs = [.ref p, .ref q] ∧ StepAt C H l p d ∧ d.step.good = true ∧ H q = some (.lst (nI m)) ∧ m.length = 32 ∧
  ∀ H' : Hp, But q H H' → H' q = some (.lst (nI (d.step.does m))) → Q .non H'
section
variable {P : Program} {w : World} {K : PySem.W.Frag} {mg : Str → Option Value} {base : Heap}
theorem scPerform : FnScope ["step", "held", "a", "b", "before"] ["step", "held"] (defScope sPerform) := ⟨rfl, rfl, rfl, by decide +kernel, rfl, by decide +kernel, by decide +kernel⟩
theorem ok_perform {f C : Addr} {fd : FuncData} (F : Fun K "perform" "perform" sPerform f fd) (T : Txt K mg C) (N : Kinds mg) : FnOk P w K mg base CX0 1 f fd ["step", "held"] (spPerform C) := by
  obtain ⟨t0, m0⟩ := N.put
  obtain ⟨t1, m1⟩ := N.add
  obtain ⟨t2, m2⟩ := N.copy
  obtain ⟨t3, m3⟩ := N.sum
  obtain ⟨t4, m4⟩ := N.exch
  obtain ⟨t5, m5⟩ := N.nought
  obtain ⟨t6, m6⟩ := N.num
  refine F.ok scPerform (fun vs H Q E h => ?_) (fun cdv A outer s H vs Q E hr h => ?_)
  · obtain ⟨l, p, q, d, m, rfl, _⟩ := h
    rfl
  · obtain ⟨l, p, q, d, m, rfl, ⟨dx, pc, pr, ps, pa, ph, Z⟩, hg, hq, hm, k⟩ := h
    refine ⟨_, pss_cons (ps_set (i := 2) scPerform.nd rfl (Or.inl rfl) (pe_ix ix_list (pe_fld (pv 0) rfl) pe_int (fun _ _ => rfl)))
      (pss_cons (ps_set (i := 3) scPerform.nd rfl (Or.inl rfl) (pe_ix ix_list (pe_fld (pv 0) rfl) pe_int (fun _ _ => rfl)))
      (pss_one (ps_if (pt_cmpR op_eq (pe_fld (pv 0) rfl) (pgI rfl m0) (nomark _)) (pss_one (ps_asg (pe_fld (pv 0) rfl) (pg_sub (pv 1) (pv 2) set_list)))
      (pss_one (ps_if (pt_cmpR op_eq (pe_fld (pv 0) rfl) (pgI rfl m1) (nomark _)) (pss_one (ps_asg (pe_op op_mod (pe_op op_add (pe_ix ix_list (pv 1) (pv 2) (fun _ _ => rfl)) (pe_fld (pv 0) rfl)) (pgI rfl m6)) (pg_sub (pv 1) (pv 2) set_list)))
      (pss_one (ps_if (pt_cmpR op_eq (pe_fld (pv 0) rfl) (pgI rfl m2) (nomark _)) (pss_one (ps_asg (pe_ix ix_list (pv 1) (pv 2) (fun _ _ => rfl)) (pg_sub (pv 1) (pv 3) set_list)))
      (pss_one (ps_if (pt_cmpR op_eq (pe_fld (pv 0) rfl) (pgI rfl m3) (nomark _)) (pss_one (ps_asg (pe_op op_mod (pe_op op_add (pe_ix ix_list (pv 1) (pv 2) (fun _ _ => rfl)) (pe_ix ix_list (pv 1) (pv 3) (fun _ _ => rfl))) (pgI rfl m6)) (pg_sub (pv 1) (pe_ix ix_list (pe_fld (pv 0) rfl) pe_int (fun _ _ => rfl)) set_list)))
      (pss_one (ps_if (pt_cmpR op_eq (pe_fld (pv 0) rfl) (pgI rfl m4) (nomark _)) (pss_cons (ps_set (i := 4) scPerform.nd rfl (Or.inl rfl) (pe_ix ix_list (pv 1) (pv 2) (fun _ _ => rfl)))
          (pss_cons (ps_asg (pe_ix ix_list (pv 1) (pv 3) (fun _ _ => rfl)) (pg_sub (pv 1) (pv 2) set_list)) (pss_one (ps_asg (pv 4) (pg_sub (pv 1) (pv 3) set_list)))))
      (pss_one (ps_if (PW.pt (pw_and (pt_cmpR op_eq (pe_fld (pv 0) rfl) (pgI rfl m5) (nomark _)) (pw_and1 (pt_cmpR op_eq (pe_ix ix_list (pv 1) (pv 2) (fun _ _ => rfl)) pe_int (nomark _))))) (pss_one (ps_asg (pe_fld (pv 0) rfl) (pg_sub (pv 1) (pv 3) set_list))) pss_nil))))))))))))), ?_⟩
    obtain ⟨_, hk5, ha, hb, hc⟩ := good_cells hg
    have hla : (nI m).length = 32 := by rw [nI_length]; exact hm
    have ga : (nI m)[d.step.a]? = some (V.int (Kp188.at_ m d.step.a : Int)) := nI_at (at_get (by omega))
    have gb : (nI m)[d.step.b]? = some (V.int (Kp188.at_ m d.step.b : Int)) := nI_at (at_get (by omega))
    refine ⟨_, rfl, p, C, dx, _, _, rfl, Z.obj, T.cl, T.nCells, sf_cells .., pc, _, _, _, rfl, rfl, SqL.of Z.oc, at_of (j := 0) (v := V.int (d.step.a : Int)) rfl rfl, ?_⟩
    refine ⟨_, rfl, p, C, dx, _, _, rfl, Z.obj, T.cl, T.nCells, sf_cells .., pc, _, _, _, rfl, rfl, SqL.of Z.oc, at_of (j := 1) (v := V.int (d.step.b : Int)) rfl rfl, ?_⟩
    refine ⟨_, rfl, p, C, dx, _, _, rfl, Z.obj, T.cl, T.nKind, sf_kind .., rfl, _, rfl, ?_⟩
    refine ite2 (fun h => ?_) (fun h0 => ?_)
    · have hk : d.step.kind = 0 := of_decide_eq_true ((int_eq _ 0).symm.trans h)
      refine ⟨_, rfl, p, C, dx, _, _, rfl, Z.obj, T.cl, T.nV, sf_v .., _, rfl, _, rfl, q, _, _, _, rfl, rfl, hq, ixN_nat (by rw [hla]; exact ha), ?_⟩
      exact k _ (But.refl q H).upd (by rw [upd_same, nI_set, does0 hk])
    have n0 : d.step.kind ≠ 0 := fun z => h0 ((int_eq _ 0).trans (decide_eq_true z))
    refine ⟨_, rfl, p, C, dx, _, _, rfl, Z.obj, T.cl, T.nKind, sf_kind .., rfl, _, rfl, ?_⟩
    refine ite2 (fun h => ?_) (fun h1 => ?_)
    · have hk : d.step.kind = 1 := of_decide_eq_true ((int_eq _ 1).symm.trans h)
      refine ⟨_, rfl, _, rfl, q, _, _, _, rfl, rfl, SqL.of hq, at_of (j := d.step.a) rfl ga, _, rfl, p, C, dx, _, _, rfl, Z.obj, T.cl, T.nV, sf_v .., _, _, rfl, rfl, _, _, rfl, rfl, (by show (0 : Int) < 4294967296; decide), _, rfl, _, rfl, q, _, _, _, rfl, rfl, hq, ixN_nat (by rw [hla]; exact ha), ?_⟩
      refine k _ (But.refl q H).upd ?_
      rw [upd_same, does1 hk, ← nI_set]
      show some (HO.lst ((nI m).set _ (V.int (((Kp188.at_ m d.step.a : Int) + (d.step.v : Int)) % 4294967296)))) = _
      rw [show (((Kp188.at_ m d.step.a : Nat) : Int) + (d.step.v : Int)) % 4294967296 = (((Kp188.at_ m d.step.a + d.step.v) % 4294967296 : Nat) : Int) by omega]
    have n1 : d.step.kind ≠ 1 := fun z => h1 ((int_eq _ 1).trans (decide_eq_true z))
    refine ⟨_, rfl, p, C, dx, _, _, rfl, Z.obj, T.cl, T.nKind, sf_kind .., rfl, _, rfl, ?_⟩
    refine ite2 (fun h => ?_) (fun h2 => ?_)
    · have hk : d.step.kind = 2 := of_decide_eq_true ((int_eq _ 2).symm.trans h)
      refine ⟨_, rfl, _, rfl, q, _, _, _, rfl, rfl, SqL.of hq, at_of (j := d.step.a) rfl ga, _, rfl, _, rfl, q, _, _, _, rfl, rfl, hq, ixN_nat (by rw [hla]; exact hb), ?_⟩
      exact k _ (But.refl q H).upd (by rw [upd_same, nI_set, does2 hk])
    have n2 : d.step.kind ≠ 2 := fun z => h2 ((int_eq _ 2).trans (decide_eq_true z))
    refine ⟨_, rfl, p, C, dx, _, _, rfl, Z.obj, T.cl, T.nKind, sf_kind .., rfl, _, rfl, ?_⟩
    refine ite2 (fun h => ?_) (fun h3 => ?_)
    · have hk : d.step.kind = 3 := of_decide_eq_true ((int_eq _ 3).symm.trans h)
      refine ⟨_, rfl, _, rfl, q, _, _, _, rfl, rfl, SqL.of hq, at_of (j := d.step.a) rfl ga, _, rfl, _, rfl, q, _, _, _, rfl, rfl, SqL.of hq, at_of (j := d.step.b) rfl gb, _, _, rfl, rfl, _, _, rfl, rfl, (by show (0 : Int) < 4294967296; decide),
        _, rfl, _, rfl, p, C, dx, _, _, rfl, Z.obj, T.cl, T.nCells, sf_cells .., pc, _, _, _, rfl, rfl, SqL.of Z.oc, at_of (j := 2) (v := V.int (d.step.c : Int)) rfl rfl, q, _, _, _, rfl, rfl, hq, ixN_nat (by rw [hla]; exact hc), ?_⟩
      refine k _ (But.refl q H).upd ?_
      rw [upd_same, does3 hk, ← nI_set]
      show some (HO.lst ((nI m).set _ (V.int (((Kp188.at_ m d.step.a : Int) + (Kp188.at_ m d.step.b : Int)) % 4294967296)))) = _
      rw [show (((Kp188.at_ m d.step.a : Nat) : Int) + ((Kp188.at_ m d.step.b : Nat) : Int)) % 4294967296 = (((Kp188.at_ m d.step.a + Kp188.at_ m d.step.b) % 4294967296 : Nat) : Int) by omega]
    have n3 : d.step.kind ≠ 3 := fun z => h3 ((int_eq _ 3).trans (decide_eq_true z))
    refine ⟨_, rfl, p, C, dx, _, _, rfl, Z.obj, T.cl, T.nKind, sf_kind .., rfl, _, rfl, ?_⟩
    refine ite2 (fun h => ?_) (fun h4 => ?_)
    · have hk : d.step.kind = 4 := of_decide_eq_true ((int_eq _ 4).symm.trans h)
      refine ⟨_, rfl, _, rfl, q, _, _, _, rfl, rfl, SqL.of hq, at_of (j := d.step.a) rfl ga, ?_⟩
      refine ⟨_, rfl, _, rfl, q, _, _, _, rfl, rfl, SqL.of hq, at_of (j := d.step.b) rfl gb, _, rfl, _, rfl, q, _, _, _, rfl, rfl, hq, ixN_nat (by rw [hla]; exact ha), ?_⟩
      refine ⟨_, rfl, _, rfl, _, rfl, q, _, _, _, rfl, rfl, upd_same, ixN_nat (by rw [List.length_set, hla]; exact hb), ?_⟩
      rw [upd_upd]
      exact k _ (But.refl q H).upd (by rw [upd_same, nI_set, nI_set, does4 hk])
    have n4 : d.step.kind ≠ 4 := fun z => h4 ((int_eq _ 4).trans (decide_eq_true z))
    have hk : d.step.kind = 5 := by omega
    (try dsimp only [tIfS])
    refine and_in (a := true) (b := decide (Kp188.at_ m d.step.a = 0)) (fun R h => ⟨_, rfl, p, C, dx, _, _, rfl, Z.obj, T.cl, T.nKind, sf_kind .., rfl, _, rfl, by rw [hk]; exact h⟩)
      (fun _ R h => ⟨_, rfl, _, rfl, q, _, _, _, rfl, rfl, SqL.of hq, at_of (j := d.step.a) rfl ga, rfl, _, rfl, (int_eq (Kp188.at_ m d.step.a) 0) ▸ h⟩) ?_
    rw [Bool.true_and]
    refine ite2 (fun h => ?_) (fun h => ?_)
    · have hz := of_decide_eq_true h
      refine ⟨_, rfl, p, C, dx, _, _, rfl, Z.obj, T.cl, T.nV, sf_v .., _, rfl, _, rfl, q, _, _, _, rfl, rfl, hq, ixN_nat (by rw [hla]; exact hb), ?_⟩
      exact k _ (But.refl q H).upd (by rw [upd_same, nI_set, does5 hk, if_pos hz])
    · have hz : ¬ Kp188.at_ m d.step.a = 0 := fun z => h (decide_eq_true z)
      exact k H (But.refl q H) (by rw [hq, does5 hk, if_neg hz])
def spContents (C : Addr) : Sp := fun vs H Q _ => ∃ (l : Addr) (as : List Addr) (ds : List Done), vs = [.ref l] ∧ StepsAt C H l as ds ∧ (∀ d, d ∈ ds → d.step.good = true) ∧
  ∀ (H' : Hp) (q : Addr), Same H H' → H q = none → H' q = some (.lst (nI (Kp188.cellsOf ds))) → Q (.ref q) H'
theorem scContents : FnScope ["steps", "held", "step", "cell"] ["steps"] (defScope sContents) := ⟨rfl, rfl, rfl, by decide +kernel, rfl, by decide +kernel, by decide +kernel⟩
theorem ok_contents {f fP C : Addr} {fd fdP : FuncData} {tC' : Tok} (F : Fun K "contents" "contents" sContents f fd) (T : Txt K mg C) (mC : mg "CELLS" = some (.int 32 tC'))
    (GP : FnOk P w K mg base CX0 1 fP fdP ["step", "held"] (spPerform C)) (kP : PySem.W.keepIn K (.ref fP) = true) (bP : Binds K fdP ["step", "held"] []) (mP : mg "perform" = some (.ref fP)) : FnOk P w K mg base CX0 2 f fd ["steps"] (spContents C) := by
  refine F.ok scContents (fun vs H Q E h => ?_) (fun cdv A outer s H vs Q E hr h => ?_)
  · obtain ⟨l, as, ds, rfl, _⟩ := h
    rfl
  · obtain ⟨l, as, ds, rfl, B, hg, k⟩ := h
    refine ⟨_, pss_cons (ps_setLc (i := 1) rfl scContents.nd rfl rfl (sw_true rfl rfl rfl (by decide +kernel)) (pi_range1 rfl T.range (pa_cons (pgI rfl mC) pa_nil))
          (blkOk_by (own := [("cell", 3)]) (by show blkC ["steps", "held", "step", "cell"] (defScope sContents) _ _ = true; decide +kernel)) (fun _ _ _ _ _ => pg_name (i := 3) scContents.nd rfl (Or.inl rfl)) (fun _ _ _ _ _ => pts_nil) (fun _ _ _ _ _ => pe_int))
      (pss_cons (ps_for PassesOwn.never rfl (pi_list (pv 0)) (pg_name (i := 2) scContents.nd rfl (Or.inl rfl))
        (pss_one (ps_if (pt_truth (pe_fld (pv 2) rfl) (fun _ => rfl)) (pss_one (ps_expr (pe_call GP hr rfl mP kP bP .nil pass0 (pa_cons (pv 2) (pa_cons (pv 1) pa_nil))))) pss_nil)))
      (pss_one (ps_ret (pv 1)))), ?_⟩
    refine ⟨_, rfl, by decide, by decide, fun q hq => ?_⟩
    refine lc_range (lo := 0) (n := 32) (fun j H' => Same H H' ∧ H' q = some (.lst (nI (List.replicate j 0)))) ⟨Same.new (Same.refl H) hq, upd_same⟩ ?_ ?_
    · rintro j H' hj ⟨s1, hq1⟩
      refine ⟨rfl, _, hq1, size256 (by rw [nI_length, List.length_replicate]; omega), Same.own s1 hq, ?_⟩
      rw [upd_same, List.replicate_succ', nI_append]
      rfl
    · rintro H0 ⟨s0, hq0⟩
      refine ⟨_, rfl, l, rfl, ⟨_, SqL.of (s0 _ _ B.lst)⟩, for_list (K := K) (a := l) (xs := as.map V.ref) (fun i σ H' => ∃ v2 : Option V, σ = [some (.ref l), some (.ref q), v2, none] ∧ Same H H' ∧ H' q = some (.lst (nI (Kp188.cellsOf (ds.take i)))))
        ⟨none, rfl, s0, by rw [hq0]; rfl⟩ (fun i σ H' _ ⟨_, _, z, _⟩ => SqL.of (z _ _ B.lst)) ?_ ?_⟩
      · rintro i x σ H' hi ⟨v2, rfl, s1, hq1⟩
        have hil : i < ds.length := by
          have := (List.getElem?_eq_some_iff.mp hi).1
          rw [List.length_map, B.len] at this
          exact this
        obtain ⟨d, hd⟩ : ∃ d, ds[i]? = some d := ⟨_, List.getElem?_eq_getElem hil⟩
        have B1 := B.same s1
        obtain ⟨a, ha, ha2, dx, pc, pr, ps, pa, ph, Z⟩ := B1.get hd
        rw [ha2] at hi
        cases hi
        refine ⟨_, rfl, a, C, dx, _, _, rfl, Z.obj, T.cl, T.nThere, sf_there .., _, rfl, ?_⟩
        refine ite2 (fun h => ?_) (fun h => ?_)
        · refine ⟨_, rfl, _, rfl, l, a, q, d, _, rfl, ⟨dx, pc, pr, ps, pa, ph, Z⟩, hg d (List.mem_of_getElem? hd), hq1, cells_len i ds, fun H2 kp h2 => ?_⟩
          refine ⟨_, rfl, fun b o e => kp _ _ (s1 _ _ e) (ne_of_none e hq), ?_⟩
          rw [h2, TbM.cellsOf_succ hd, if_pos h]
        · refine ⟨_, rfl, s1, ?_⟩
          rw [hq1, TbM.cellsOf_succ hd, if_neg h]
      · rintro σ H' ⟨v2, rfl, s1, hq1⟩
        refine ⟨_, rfl, k H' q s1 hq ?_⟩
        rw [hq1, List.length_map, B.len, List.take_length]
end
end Tb

-- Cell
set_option Elab.async false
set_option linter.all false
set_option maxRecDepth 100000
set_option maxHeartbeats 2000000
namespace Tb
open PySem PySem.Spec PyProof.Rows L2
open Kp188 (Done)
/-- a call that changes nothing and tells a list -/
def spAsk1 (S C : Addr) (call : Nat → Kp188.Call) : Sp := fun vs H Q _ => ∃ (p l : Addr) (as : List Addr) (ds : List Done) (c : Nat), vs = [.ref p, .int (c : Int)] ∧ SheetAt S C H p l as ds ∧
  ∀ (H' : Hp) (q : Addr) (r : Int) (ns : List Nat), Kp188.step (some ds) (call c) = (some ds, ⟨r, ns⟩) → ns.length ≤ 256 → Same H H' → H q = none → H' q = some (.lst (V.int r :: nI ns)) → Q (.ref q) H'
section
variable {P : Program} {w : World} {K : PySem.W.Frag} {mg : Str → Option Value} {base : Heap}
theorem scCell : FnScope ["self", "c"] ["self", "c"] (defScope s_Sheet_cell) := ⟨rfl, rfl, rfl, by decide +kernel, rfl, by decide +kernel, by decide +kernel⟩
theorem ok_cell {f S C fO : Addr} {fd fdO : FuncData} {t1 t2 : Tok} (F : Fun K "cell" "Sheet.cell" s_Sheet_cell f fd) (T : Txt K mg C) (TS : TxtS K S) (m1 : mg "CELLS" = some (.int 32 t1)) (m2 : mg "WRONG" = some (.int (-22) t2))
    (GO : FnOk P w K mg base CX0 2 fO fdO ["steps"] (spContents C)) (kO : PySem.W.keepIn K (.ref fO) = true) (bO : Binds K fdO ["steps"] []) (mO : mg "contents" = some (.ref fO)) : FnOk P w K mg base CX0 3 f fd ["self", "c"] (spAsk1 S C .cell) := by
  refine F.ok scCell (fun vs H Q E h => ?_) (fun cdv A outer s H vs Q E hr h => ?_)
  · obtain ⟨p, l, as, ds, c, rfl, _⟩ := h
    rfl
  · obtain ⟨p, l, as, ds, c, rfl, B, k⟩ := h
    refine ⟨_, pss_cons (ps_if (pt_cmpR op_ge (pv 1) (pgI rfl m1) (nomark _)) (pss_one (ps_ret (pe_lst (pa_cons (pgI rfl m2) pa_nil)))) pss_nil)
      (pss_one (ps_ret (pe_lst (pa_cons pe_int (pa_cons (pe_ix ix_list (pe_call GO hr rfl mO kO bO .nil pass0 (pa_cons (pe_fld (pv 0) rfl) pa_nil)) (pv 1) (fun _ _ => rfl)) pa_nil))))), ?_⟩
    obtain ⟨dx, ep⟩ := B.obj
    have st : Kp188.step (some ds) (.cell c) = (some ds, if 32 ≤ c then Kp188.say (-22) else ⟨0, [Kp188.at_ (Kp188.cellsOf ds) c]⟩) := rfl
    refine ⟨_, rfl, _, _, rfl, rfl, _, rfl, ?_⟩
    refine ite2 (fun h => ?_) (fun h => ?_)
    · have h2 := of_decide_eq_true h
      rw [if_pos (show 32 ≤ c by omega)] at st
      refine ⟨(by show 1 ≤ sizeLine; decide), fun q hq => k _ q (-22) [] st (by decide) (Same.new (Same.refl H) hq) hq upd_same⟩
    · have hc : c < 32 := by
        by_cases z : c < 32
        · exact z
        · exact absurd (decide_eq_true (by omega)) h
      rw [if_neg (by omega)] at st
      refine ⟨_, rfl, p, S, dx, _, _, rfl, ep, TS.cl, TS.nSteps, shf_steps l, l, as, ds, rfl, B.steps, B.good, fun H1 q1 s1 hf hq1 => ?_⟩
      have hcl : (Kp188.cellsOf ds).length = 32 := by have := cells_len ds.length ds; rw [List.take_length] at this; exact this
      refine ⟨_, rfl, q1, _, _, _, rfl, rfl, SqL.of hq1, at_of (j := c) rfl (nI_at (at_get (by rw [hcl]; exact hc))), (by show 2 ≤ sizeLine; decide), fun q hq => ?_⟩
      exact k _ q 0 [Kp188.at_ (Kp188.cellsOf ds) c] st (by show 1 ≤ 256; decide) (Same.new s1 hq) (s1.free hq) upd_same
end
end Tb

-- Told
set_option Elab.async false
set_option linter.all false
set_option maxRecDepth 100000
set_option maxHeartbeats 2000000
namespace Tb
open PySem PySem.Spec PyProof.Rows L2
open Kp188 (Done)
/-! ### how many, then they -/
def spCounted : Sp := fun vs H Q _ => ∃ (b : Addr) (ns : List Nat), vs = [.ref b] ∧ H b = some (.lst (nI ns)) ∧ ns.length ≤ 256 ∧
  ∀ (H' : Hp) (q : Addr), Same H H' → H q = none → H' q = some (.lst (V.int (ns.length : Int) :: nI ns)) → Q (.ref q) H'
section
variable {P : Program} {w : World} {K : PySem.W.Frag} {mg : Str → Option Value} {base : Heap}
theorem scCounted : FnScope ["numbers"] ["numbers"] (defScope s_counted) := ⟨rfl, rfl, rfl, by decide +kernel, rfl, by decide +kernel, by decide +kernel⟩
theorem ok_counted {f : Addr} {fd : FuncData} (F : Fun K "counted" "counted" s_counted f fd) (hlen : mg "len" = none) : FnOk P w K mg base CX0 1 f fd ["numbers"] spCounted := by
  refine F.ok scCounted (fun vs H Q E h => ?_) (fun cdv A outer s H vs Q E hr h => ?_)
  · obtain ⟨b, ns, rfl, _⟩ := h
    rfl
  · obtain ⟨b, ns, rfl, hb, hn, k⟩ := h
    refine ⟨_, pss_one (ps_ret (pe_op op_cat (pe_lst (pa_cons (pe_callB call_len_seq (by rfl) hlen PySem.boot_len (pa_cons (pv 0) pa_nil)) pa_nil)) (pv 0))), ?_⟩
    refine ⟨_, rfl, b, _, rfl, .inl (SqL.of hb), (by show 1 ≤ sizeLine; decide), fun e he => ?_⟩
    have s1 : Same H (upd H e (.lst [V.int (((nI ns).length : Nat) : Int)])) := Same.new (Same.refl H) he
    refine ⟨_, rfl, e, b, _, _, rfl, rfl, upd_same, s1 _ _ hb, Nat.le_of_lt (size256 (by rw [nI_length]; show 1 + ns.length ≤ 100000; omega)), fun q hq => ?_⟩
    refine k _ q (Same.new s1 hq) (Same.free s1 hq) ?_
    rw [upd_same, nI_length]
    rfl
/-! ### hang -/
theorem hits_len (ds : List Done) (fed : List Nat) (n : Nat) : (TbM.hits ds fed n).length ≤ ds.length := by
  unfold TbM.hits
  have := List.length_filter_le (TbM.hit ds fed n) (List.range ds.length)
  rw [List.length_range] at this
  exact this
theorem from_len (ds : List Done) (c : Nat) : (TbM.fromOf ds c).length ≤ ds.length := by
  unfold TbM.fromOf Kp188.rising
  have := List.length_filter_le (List.contains (Kp188.sources ds ds.length (TbM.F ds c ds.length))) (List.range ds.length)
  rw [List.length_range] at this
  exact this
theorem scHang : FnScope ["self", "n"] ["self", "n"] (defScope s_Sheet_hang) := ⟨rfl, rfl, rfl, by decide +kernel, rfl, by decide +kernel, by decide +kernel⟩
theorem ok_hang {f S C fH fN : Addr} {fd fdH fdN : FuncData} {t1 : Tok} (F : Fun K "hang" "Sheet.hang" s_Sheet_hang f fd) (T : Txt K mg C) (TS : TxtS K S) (m1 : mg "NO_SUCH_STEP" = some (.int (-2) t1))
    (GH : FnOk P w K mg base CX0 1 fH fdH ["steps", "n"] (spHangers C)) (kH : PySem.W.keepIn K (.ref fH) = true) (bH : Binds K fdH ["steps", "n"] []) (mH : mg "hangers" = some (.ref fH))
    (GN : FnOk P w K mg base CX0 1 fN fdN ["numbers"] spCounted) (kN : PySem.W.keepIn K (.ref fN) = true) (bN : Binds K fdN ["numbers"] []) (mN : mg "counted" = some (.ref fN)) : FnOk P w K mg base CX0 2 f fd ["self", "n"] (spAsk1 S C .hang) := by
  refine F.ok scHang (fun vs H Q E h => ?_) (fun cdv A outer s H vs Q E hr h => ?_)
  · obtain ⟨p, l, as, ds, c, rfl, _⟩ := h
    rfl
  · obtain ⟨p, l, as, ds, n, rfl, B, k⟩ := h
    refine ⟨_, pss_cons (ps_if (pt_cmpR op_ge (pv 1) (pe_callB call_len_seq (by rfl) T.len PySem.boot_len (pa_cons (pe_fld (pv 0) rfl) pa_nil)) (nomark _)) (pss_one (ps_ret (pe_lst (pa_cons (pgI rfl m1) pa_nil)))) pss_nil)
      (pss_cons (ps_if (pt_not (pt_truth (pe_fld (pe_ix ix_list (pe_fld (pv 0) rfl) (pv 1) (fun _ _ => rfl)) rfl) (fun _ => rfl))) (pss_one (ps_ret (pe_lst (pa_cons pe_int pa_nil)))) pss_nil)
      (pss_one (ps_ret (pe_call GN hr rfl mN kN bN .nil pass0 (pa_cons (pe_call GH hr rfl mH kH bH .nil pass0 (pa_cons (pe_fld (pv 0) rfl) (pa_cons (pv 1) pa_nil))) pa_nil))))), ?_⟩
    obtain ⟨dx, ep⟩ := B.obj
    have hal : (as.map V.ref).length = ds.length := by rw [List.length_map]; exact B.steps.len
    have st : Kp188.step (some ds) (.hang n) = (some ds, if ds.length ≤ n then Kp188.say (-2) else Kp188.list (if Kp188.isThere ds n then Kp188.hanging ds n else [])) := rfl
    refine ⟨_, rfl, _, rfl, p, S, dx, _, _, rfl, ep, TS.cl, TS.nSteps, shf_steps l, l, _, rfl, .inl (SqL.of B.steps.lst), _, _, rfl, rfl, _, rfl, ?_⟩
    refine ite2 (fun h1 => ?_) (fun h1 => ?_)
    · have h2 := of_decide_eq_true h1
      rw [hal] at h2
      rw [if_pos (show ds.length ≤ n by omega)] at st
      exact ⟨(by show 1 ≤ sizeLine; decide), fun q hq => k _ q (-2) [] st (by decide) (Same.new (Same.refl H) hq) hq upd_same⟩
    · have hn : n < ds.length := by
        by_cases z : n < ds.length
        · exact z
        · exact absurd (decide_eq_true (by rw [hal]; omega)) h1
      rw [if_neg (by omega)] at st
      obtain ⟨d, hdn⟩ : ∃ d, ds[n]? = some d := ⟨_, List.getElem?_eq_getElem hn⟩
      obtain ⟨a, ha, ha2, dx2, pc, pr, ps, pa, ph, Z⟩ := B.steps.get hdn
      have eT : Kp188.isThere ds n = d.there := by unfold Kp188.isThere; rw [hdn]
      rw [eT] at st
      refine ⟨_, rfl, p, S, dx, _, _, rfl, ep, TS.cl, TS.nSteps, shf_steps l, _, rfl, l, _, _, _, rfl, rfl, SqL.of B.steps.lst, at_of (j := n) (v := V.ref a) rfl ha2, a, C, dx2, _, _, rfl, Z.obj, T.cl, T.nThere, sf_there .., _, rfl, ?_⟩
      refine ite2 (fun h2 => ?_) (fun h2 => ?_)
      · have h3 : ¬ d.there = true := by simpa using h2
        rw [if_neg h3] at st
        exact ⟨(by show 1 ≤ sizeLine; decide), fun q hq => k _ q 0 [] st (by decide) (Same.new (Same.refl H) hq) hq upd_same⟩
      · have h3 : d.there = true := by simpa using h2
        rw [if_pos h3, TbM.hanging_there hdn h3 B.small] at st
        refine ⟨_, rfl, p, S, dx, _, _, rfl, ep, TS.cl, TS.nSteps, shf_steps l, _, rfl, l, as, ds, n, d, rfl, B.steps, hdn, B.small, fun H1 q1 s1 hf hq1 => ?_⟩
        have hl1 : (TbM.hits ds (TbM.fedOf d.step) n).length ≤ 256 := Nat.le_trans (hits_len ..) B.small
        refine ⟨q1, _, rfl, hq1, hl1, fun H2 q s2 hf2 hq2 => ?_⟩
        exact k _ q _ _ st hl1 (Same.trans s1 s2) (Same.free s1 hf2) hq2
/-! ### from -/
theorem scFromCell : FnScope ["self", "c"] ["self", "c"] (defScope s_Sheet_from_cell) := ⟨rfl, rfl, rfl, by decide +kernel, rfl, by decide +kernel, by decide +kernel⟩
theorem ok_fromCell {f S C fH fN : Addr} {fd fdH fdN : FuncData} {t1 t2 : Tok} (F : Fun K "from_cell" "Sheet.from_cell" s_Sheet_from_cell f fd) (TS : TxtS K S) (m1 : mg "CELLS" = some (.int 32 t1)) (m2 : mg "WRONG" = some (.int (-22) t2))
    (GH : FnOk P w K mg base CX0 3 fH fdH ["steps", "cell"] (spFrom C)) (kH : PySem.W.keepIn K (.ref fH) = true) (bH : Binds K fdH ["steps", "cell"] []) (mH : mg "comes_from" = some (.ref fH))
    (GN : FnOk P w K mg base CX0 1 fN fdN ["numbers"] spCounted) (kN : PySem.W.keepIn K (.ref fN) = true) (bN : Binds K fdN ["numbers"] []) (mN : mg "counted" = some (.ref fN)) : FnOk P w K mg base CX0 4 f fd ["self", "c"] (spAsk1 S C .from_) := by
  refine F.ok scFromCell (fun vs H Q E h => ?_) (fun cdv A outer s H vs Q E hr h => ?_)
  · obtain ⟨p, l, as, ds, c, rfl, _⟩ := h
    rfl
  · obtain ⟨p, l, as, ds, c, rfl, B, k⟩ := h
    have hr1 : Room 1 _ := hr.mono (by decide)
    refine ⟨_, pss_cons (ps_if (pt_cmpR op_ge (pv 1) (pgI rfl m1) (nomark _)) (pss_one (ps_ret (pe_lst (pa_cons (pgI rfl m2) pa_nil)))) pss_nil)
      (pss_one (ps_ret (pe_call GN hr1 rfl mN kN bN .nil pass0 (pa_cons (pe_call GH hr rfl mH kH bH .nil pass0 (pa_cons (pe_fld (pv 0) rfl) (pa_cons (pv 1) pa_nil))) pa_nil)))), ?_⟩
    obtain ⟨dx, ep⟩ := B.obj
    have st : Kp188.step (some ds) (.from_ c) = (some ds, if 32 ≤ c then Kp188.say (-22) else Kp188.list (Kp188.rising ds.length (Kp188.sources ds ds.length (Kp188.feeds c (Kp188.numbered 0 ds) [])))) := rfl
    refine ⟨_, rfl, _, _, rfl, rfl, _, rfl, ?_⟩
    refine ite2 (fun h => ?_) (fun h => ?_)
    · have h2 := of_decide_eq_true h
      rw [if_pos (show 32 ≤ c by omega)] at st
      exact ⟨(by show 1 ≤ sizeLine; decide), fun q hq => k _ q (-22) [] st (by decide) (Same.new (Same.refl H) hq) hq upd_same⟩
    · have hc : c < 32 := by
        by_cases z : c < 32
        · exact z
        · exact absurd (decide_eq_true (by omega)) h
      rw [if_neg (by omega), TbM.F_all] at st
      refine ⟨_, rfl, p, S, dx, _, _, rfl, ep, TS.cl, TS.nSteps, shf_steps l, _, rfl, l, as, ds, c, rfl, B.steps, B.small, fun H1 q1 s1 hf hq1 => ?_⟩
      have hl1 : (TbM.fromOf ds c).length ≤ 256 := Nat.le_trans (from_len ..) B.small
      refine ⟨q1, _, rfl, hq1, hl1, fun H2 q s2 hf2 hq2 => ?_⟩
      exact k _ q _ _ st hl1 (Same.trans s1 s2) (Same.free s1 hf2) hq2
/-! ### there -/
def spThere (S C : Addr) : Sp := fun vs H Q _ => ∃ (p l : Addr) (as : List Addr) (ds : List Done) (n : Nat), vs = [.ref p, .int (n : Int)] ∧ SheetAt S C H p l as ds ∧
  ∀ r : Int, Kp188.step (some ds) (.there n) = (some ds, Kp188.say r) → Q (.int r) H
theorem scThere : FnScope ["self", "n"] ["self", "n"] (defScope s_Sheet_there) := ⟨rfl, rfl, rfl, by decide +kernel, rfl, by decide +kernel, by decide +kernel⟩
theorem ok_there {f S C : Addr} {fd : FuncData} {t1 : Tok} (F : Fun K "there" "Sheet.there" s_Sheet_there f fd) (T : Txt K mg C) (TS : TxtS K S) (m1 : mg "NO_SUCH_STEP" = some (.int (-2) t1)) : FnOk P w K mg base CX0 1 f fd ["self", "n"] (spThere S C) := by
  refine F.ok scThere (fun vs H Q E h => ?_) (fun cdv A outer s H vs Q E hr h => ?_)
  · obtain ⟨p, l, as, ds, n, rfl, _⟩ := h
    rfl
  · obtain ⟨p, l, as, ds, n, rfl, B, k⟩ := h
    refine ⟨_, pss_cons (ps_if (pt_cmpR op_ge (pv 1) (pe_callB call_len_seq (by rfl) T.len PySem.boot_len (pa_cons (pe_fld (pv 0) rfl) pa_nil)) (nomark _)) (pss_one (ps_ret (pgI rfl m1))) pss_nil)
      (pss_one (ps_ret (pe_ifExp (pt_truth (pe_fld (pe_ix ix_list (pe_fld (pv 0) rfl) (pv 1) (fun _ _ => rfl)) rfl) (fun _ => rfl)) pe_int pe_int))), ?_⟩
    obtain ⟨dx, ep⟩ := B.obj
    have hal : (as.map V.ref).length = ds.length := by rw [List.length_map]; exact B.steps.len
    have st : Kp188.step (some ds) (.there n) = (some ds, match ds[n]? with | none => Kp188.say (-2) | some d => Kp188.say (if d.there then 1 else 0)) := rfl
    refine ⟨_, rfl, _, rfl, p, S, dx, _, _, rfl, ep, TS.cl, TS.nSteps, shf_steps l, l, _, rfl, .inl (SqL.of B.steps.lst), _, _, rfl, rfl, _, rfl, ?_⟩
    refine ite2 (fun h1 => ?_) (fun h1 => ?_)
    · have h2 := of_decide_eq_true h1
      rw [hal] at h2
      have e : ds[n]? = none := List.getElem?_eq_none (by omega)
      rw [e] at st
      exact k _ st
    · have hn : n < ds.length := by
        by_cases z : n < ds.length
        · exact z
        · exact absurd (decide_eq_true (by rw [hal]; omega)) h1
      obtain ⟨d, hdn⟩ : ∃ d, ds[n]? = some d := ⟨_, List.getElem?_eq_getElem hn⟩
      rw [hdn] at st
      dsimp only at st
      obtain ⟨a, ha, ha2, dx2, pc, pr, ps, pa, ph, Z⟩ := B.steps.get hdn
      refine ⟨_, rfl, p, S, dx, _, _, rfl, ep, TS.cl, TS.nSteps, shf_steps l, _, rfl, l, _, _, _, rfl, rfl, SqL.of B.steps.lst, at_of (j := n) (v := V.ref a) rfl ha2, a, C, dx2, _, _, rfl, Z.obj, T.cl, T.nThere, sf_there .., _, rfl, ?_⟩
      refine ite2 (fun h2 => ?_) (fun h2 => ?_)
      · rw [if_pos h2] at st
        exact k _ st
      · rw [if_neg h2] at st
        exact k _ st
end
end Tb

-- Answer
set_option Elab.async false
set_option linter.all false
set_option maxRecDepth 100000
set_option maxHeartbeats 4000000
namespace Tb
open PySem PySem.Spec PyProof.Rows L2
open Kp188 (Done)
section
variable {P : Program} {w : World} {K : PySem.W.Frag} {mg : Str → Option Value} {base : Heap}
theorem scAnswer : FnScope ["sheet", "call", "given", "told"] ["sheet", "call", "given"] (defScope sAnswer) := ⟨rfl, rfl, rfl, by decide +kernel, rfl, by decide +kernel, by decide +kernel⟩
/-- the end of a call that tells one number -/
theorem end_one {S C : Addr} {H HL H2 : Hp} {t p l l2 : Addr} {as2 : List Addr} {ds ds2 : List Done} {od : Obj} {r : Int} {c : Int} {args : List Int} {Q : VK}
    (hk : ∀ (H' : Hp) (l' : Addr) (as' : List Addr) (ds' : List Done) (q : Addr) (ans : List Int), Kp188Neutral.step (some ds) [c :: args] = (some ds', ans) → ans.length ≤ 300 → SheetAt S C H' p l' as' ds' → Quiet l l' H H' → H q = none → H' q = some (.lst (ans.map V.int)) → q ≠ l' → Q (.ref q) H')
    (hst : Kp188Neutral.step (some ds) [c :: args] = (some ds2, [r])) (htf : H t = none) (hl : ∃ ys, H l = some (.lst ys)) (hL : ∀ b o, H b = some o → HL b = some o) (q2 : Quiet l l2 HL H2) (B2 : SheetAt S C H2 p l2 as2 ds2) (ht2 : H2 t = some (.frz od (.lst []))) :
    Q (.ref t) (upd H2 t (.lst ([] ++ [V.int r]))) := by
  have nt : t ≠ l2 := ne_of ht2 B2.steps.lst (fun z => by cases z)
  refine hk _ l2 as2 ds2 t [r] hst (by show 1 ≤ 300; decide) ((Masked.of B2 ht2 (fun _ z => by cases z) (fun _ _ _ z => by cases z)).any _) (fun b o e i n => ?_) htf upd_same nt
  obtain ⟨h1, h2⟩ := q2 b o (hL b o e) i n
  exact ⟨by rw [upd_ne (ne_of_none e htf)]; exact h1, h2⟩
/-- the end of a call that tells a list -/
theorem end_more {S C : Addr} {H H2 : Hp} {t p l q : Addr} {as : List Addr} {ds : List Done} {r : Int} {ns : List Nat} {c : Int} {args : List Int} {Q : VK}
    (hk : ∀ (H' : Hp) (l' : Addr) (as' : List Addr) (ds' : List Done) (q : Addr) (ans : List Int), Kp188Neutral.step (some ds) [c :: args] = (some ds', ans) → ans.length ≤ 300 → SheetAt S C H' p l' as' ds' → Quiet l l' H H' → H q = none → H' q = some (.lst (ans.map V.int)) → q ≠ l' → Q (.ref q) H')
    (hst : Kp188Neutral.step (some ds) [c :: args] = (some ds, r :: Kp188Neutral.outs ns)) (ht : H t = none) (B : SheetAt S C H p l as ds) (s2 : Same (upd H t (.lst [])) H2) (hq : H2 q = some (.lst (V.int r :: nI ns))) (hns : ns.length ≤ 256) :
    Q (.ref t) (upd H2 t (.lst ([] ++ (V.int r :: nI ns)))) := by
  have sT : Same H (upd H t (.lst [])) := Same.new (Same.refl H) ht
  have e : V.int r :: nI ns = (r :: Kp188Neutral.outs ns).map V.int := by rw [List.map_cons, nI_ints]; rfl
  refine hk _ l as ds t (r :: Kp188Neutral.outs ns) hst (by unfold Kp188Neutral.outs; rw [List.length_cons, List.length_map]; omega) ?_ (fun b o e i n => ⟨?_, n⟩) ht (by rw [upd_same, List.nil_append, e]) (fun z => by rw [z, B.steps.lst] at ht; cases ht)
  · exact B.same (Same.own (Same.trans sT s2) ht)
  · rw [upd_ne (ne_of_none e ht)]
    exact s2 _ _ (sT _ _ e)
theorem ok_answer {f S C fB fD fT fA fG fC fHa fFr fTh : Addr} {fd fdB fdD fdT fdA fdG fdC fdHa fdFr fdTh : FuncData} {t0 t1 t2 t3 t4 t5 t6 t7 t8 : Tok} (F : Fun K "answer" "answer" sAnswer f fd) (TS : TxtS K S)
    (m0 : mg "BEGIN" = some (.int 0 t0)) (m1 : mg "DO" = some (.int 1 t1)) (m2 : mg "TAKE" = some (.int 2 t2)) (m3 : mg "ALL_OF" = some (.int 3 t3)) (m4 : mg "GIVE" = some (.int 4 t4)) (m5 : mg "CELL" = some (.int 5 t5)) (m6 : mg "HANG" = some (.int 6 t6)) (m7 : mg "FROM_CELL" = some (.int 7 t7)) (m8 : mg "THERE" = some (.int 8 t8))
    (GB : FnOk P w K mg base CX0 1 fB fdB ["self"] (spBegin S C)) (bB : Binds K fdB ["self"] []) (mB : Meth K S "begin" fB)
    (GD : FnOk P w K mg base CX0 4 fD fdD ["self", "who", "kind", "cells", "v"] (spDo S C)) (bD : Binds K fdD ["self", "who", "kind", "cells", "v"] []) (mD : Meth K S "do" fD)
    (GT : FnOk P w K mg base CX0 2 fT fdT ["self", "who", "n"] (spTake S C)) (bT : Binds K fdT ["self", "who", "n"] []) (mT : Meth K S "take" fT)
    (GA : FnOk P w K mg base CX0 3 fA fdA ["self", "who", "n"] (spAll S C)) (bA : Binds K fdA ["self", "who", "n"] []) (mA : Meth K S "all_of" fA)
    (GG : FnOk P w K mg base CX0 3 fG fdG ["self", "who", "n"] (spGive S C)) (bG : Binds K fdG ["self", "who", "n"] []) (mG : Meth K S "give" fG)
    (GC : FnOk P w K mg base CX0 3 fC fdC ["self", "c"] (spAsk1 S C .cell)) (bC : Binds K fdC ["self", "c"] []) (mC : Meth K S "cell" fC)
    (GHa : FnOk P w K mg base CX0 2 fHa fdHa ["self", "n"] (spAsk1 S C .hang)) (bHa : Binds K fdHa ["self", "n"] []) (mHa : Meth K S "hang" fHa)
    (GFr : FnOk P w K mg base CX0 4 fFr fdFr ["self", "c"] (spAsk1 S C .from_)) (bFr : Binds K fdFr ["self", "c"] []) (mFr : Meth K S "from_cell" fFr)
    (GTh : FnOk P w K mg base CX0 1 fTh fdTh ["self", "n"] (spThere S C)) (bTh : Binds K fdTh ["self", "n"] []) (mTh : Meth K S "there" fTh) :
    FnOk P w K mg base CX0 5 f fd ["sheet", "call", "given"] (spAnswer S C) := by
  refine F.ok scAnswer (fun vs H Q E h => ?_) (fun cdv A outer s H vs Q E hr h => ?_)
  · obtain ⟨p, l, g, as, ds, c, args, rfl, _⟩ := h
    rfl
  · obtain ⟨p, l, g, as, ds, c, args, rfl, B, hg, ngl, hask, hk⟩ := h
    have hr1 : Room 1 _ := hr.mono (by decide)
    have hr2 : Room 2 _ := hr.mono (by decide)
    have hr3 : Room 3 _ := hr.mono (by decide)
    refine ⟨_, pss_cons (ps_set (i := 3) scAnswer.nd rfl (Or.inl rfl) (pe_lst pa_nil))
      (pss_cons (ps_if (pt_cmpR op_eq (pv 1) (pgI rfl m0) (nomark _)) (pss_one (ps_expr (pe_bm PySem.F.plainAttrs_list PySem.F.slot_list_append PySem.F.type_list_append mt_append (pv 3) (pa_cons (pe_lock (pe_meth0 (pv 0) TS.cl mB GB hr1 bB .nil pass0)) pa_nil))))
      (pss_one (ps_if (pt_cmpR op_eq (pv 1) (pgI rfl m1) (nomark _)) (pss_one (ps_expr (pe_bm PySem.F.plainAttrs_list PySem.F.slot_list_append PySem.F.type_list_append mt_append (pv 3) (pa_cons (pe_lock (pe_meth (pv 0) TS.cl mD GD hr bD .nil pass0
          (pa_cons (pe_ix ix_list (pv 2) pe_int (fun _ _ => rfl)) (pa_cons (pe_ix ix_list (pv 2) pe_int (fun _ _ => rfl)) (pa_cons (pe_slice sl_list (pv 2) (po_some pe_int) (po_some pe_int)) (pa_cons (pe_ix ix_list (pv 2) pe_int (fun _ _ => rfl)) pa_nil)))))) pa_nil))))
      (pss_one (ps_if (pt_cmpR op_eq (pv 1) (pgI rfl m2) (nomark _)) (pss_one (ps_expr (pe_bm PySem.F.plainAttrs_list PySem.F.slot_list_append PySem.F.type_list_append mt_append (pv 3) (pa_cons (pe_lock (pe_meth (pv 0) TS.cl mT GT hr2 bT .nil pass0
          (pa_cons (pe_ix ix_list (pv 2) pe_int (fun _ _ => rfl)) (pa_cons (pe_ix ix_list (pv 2) pe_int (fun _ _ => rfl)) pa_nil)))) pa_nil))))
      (pss_one (ps_if (pt_cmpR op_eq (pv 1) (pgI rfl m3) (nomark _)) (pss_one (ps_expr (pe_bm PySem.F.plainAttrs_list PySem.F.slot_list_append PySem.F.type_list_append mt_append (pv 3) (pa_cons (pe_lock (pe_meth (pv 0) TS.cl mA GA hr3 bA .nil pass0
          (pa_cons (pe_ix ix_list (pv 2) pe_int (fun _ _ => rfl)) (pa_cons (pe_ix ix_list (pv 2) pe_int (fun _ _ => rfl)) pa_nil)))) pa_nil))))
      (pss_one (ps_if (pt_cmpR op_eq (pv 1) (pgI rfl m4) (nomark _)) (pss_one (ps_expr (pe_bm PySem.F.plainAttrs_list PySem.F.slot_list_append PySem.F.type_list_append mt_append (pv 3) (pa_cons (pe_lock (pe_meth (pv 0) TS.cl mG GG hr3 bG .nil pass0
          (pa_cons (pe_ix ix_list (pv 2) pe_int (fun _ _ => rfl)) (pa_cons (pe_ix ix_list (pv 2) pe_int (fun _ _ => rfl)) pa_nil)))) pa_nil))))
      (pss_one (ps_if (pt_cmpR op_eq (pv 1) (pgI rfl m5) (nomark _)) (pss_one (ps_expr (pe_bm PySem.F.plainAttrs_list PySem.F.slot_list_extend PySem.F.type_list_extend mt_extend (pv 3) (pa_cons (pe_meth (pv 0) TS.cl mC GC hr3 bC .nil pass0
          (pa_cons (pe_ix ix_list (pv 2) pe_int (fun _ _ => rfl)) pa_nil)) pa_nil))))
      (pss_one (ps_if (pt_cmpR op_eq (pv 1) (pgI rfl m6) (nomark _)) (pss_one (ps_expr (pe_bm PySem.F.plainAttrs_list PySem.F.slot_list_extend PySem.F.type_list_extend mt_extend (pv 3) (pa_cons (pe_meth (pv 0) TS.cl mHa GHa hr2 bHa .nil pass0
          (pa_cons (pe_ix ix_list (pv 2) pe_int (fun _ _ => rfl)) pa_nil)) pa_nil))))
      (pss_one (ps_if (pt_cmpR op_eq (pv 1) (pgI rfl m7) (nomark _)) (pss_one (ps_expr (pe_bm PySem.F.plainAttrs_list PySem.F.slot_list_extend PySem.F.type_list_extend mt_extend (pv 3) (pa_cons (pe_meth (pv 0) TS.cl mFr GFr hr bFr .nil pass0
          (pa_cons (pe_ix ix_list (pv 2) pe_int (fun _ _ => rfl)) pa_nil)) pa_nil))))
      (pss_one (ps_if (pt_cmpR op_eq (pv 1) (pgI rfl m8) (nomark _)) (pss_one (ps_expr (pe_bm PySem.F.plainAttrs_list PySem.F.slot_list_append PySem.F.type_list_append mt_append (pv 3) (pa_cons (pe_meth (pv 0) TS.cl mTh GTh hr1 bTh .nil pass0
          (pa_cons (pe_ix ix_list (pv 2) pe_int (fun _ _ => rfl)) pa_nil)) pa_nil)))) pss_nil)))))))))))))))))
      (pss_one (ps_ret (pv 3)))), ?_⟩
    obtain ⟨x, hx, hcall⟩ := TbM.asked_is hask
    refine ⟨Nat.zero_le _, fun t ht => ?_⟩
    have sT : Same H (upd H t (.lst [])) := Same.new (Same.refl H) ht
    have BT : Masked S C (upd H t (.lst [])) t p l as ds := by
      unfold Masked
      rw [upd_upd]
      exact B.same (Same.new (Same.refl H) ht)
    have BL : ∀ od, SheetAt S C (upd (upd H t (.lst [])) t (.frz od (.lst []))) p l as ds := fun od => BT.any _
    have hLL : ∀ od, ∀ b o, H b = some o → (upd (upd H t (.lst [])) t (.frz od (.lst []))) b = some o := fun od b o e => by
      rw [upd_ne (ne_of_none e ht), upd_ne (ne_of_none e ht)]
      exact e
    cases hx with
    | begin_ =>
      refine ⟨_, rfl, rfl, _, rfl, ?_⟩
      refine ite2 (fun _ => ?_) (fun h => absurd (by decide) h)
      refine ⟨_, rfl, .inl ⟨rfl, _, SqL.of upd_same⟩, t, _, upd_same, trivial, fun od => ?_⟩
      obtain ⟨dx, ep⟩ := (BL od).obj
      refine ⟨_, rfl, p, dx, _, rfl, ep, shf_no l (by decide +kernel), p, l, as, ds, rfl, BL od, fun H2 l2 B2 q2 => ?_⟩
      have ht2 := (q2 t _ upd_same (.inr ⟨_, _, rfl⟩) (ne_of upd_same (BL od).steps.lst (fun z => by cases z))).1
      refine ⟨ht2, t, _, _, rfl, rfl, upd_same, size256 (by decide), ?_⟩
      rw [upd_upd]
      exact ⟨_, rfl, end_one hk (TbM.neutral_say hcall rfl) ht ⟨_, B.steps.lst⟩ (hLL od) q2 B2 ht2⟩
    | do_ x =>
      refine ⟨_, rfl, rfl, _, rfl, ?_⟩
      refine ite2 (fun h => absurd h (by decide)) (fun _ => ?_)
      refine ⟨_, rfl, rfl, _, rfl, ?_⟩
      refine ite2 (fun _ => ?_) (fun h => absurd (by decide) h)
      refine ⟨_, rfl, .inl ⟨rfl, _, SqL.of upd_same⟩, t, _, upd_same, trivial, fun od => ?_⟩
      obtain ⟨dx, ep⟩ := (BL od).obj
      have hgL := hLL od _ _ hg
      refine ⟨_, rfl, p, dx, _, rfl, ep, shf_no l (by decide +kernel), _, rfl, g, _, _, _, rfl, rfl, SqL.of hgL, at_of (j := 0) rfl rfl, _, rfl, g, _, _, _, rfl, rfl, SqL.of hgL, at_of (j := 1) rfl rfl, _, rfl, _, rfl, _, rfl, g, _, rfl, SqL.of hgL, fun pc hpc => ?_⟩
      have sP : Same (upd (upd H t (.lst [])) t (.frz od (.lst []))) _ := Same.new (o := .lst (cutV (([(x.who : Int), (x.kind : Int), (x.a : Int), (x.b : Int), (x.c : Int), (x.v : Int)] : List Int).map V.int) (some 2) (some 5))) (Same.refl _) hpc
      have BP := (BL od).same sP
      refine ⟨_, rfl, g, _, _, _, rfl, rfl, SqL.of (sP _ _ hgL), at_of (j := 5) rfl rfl, p, l, pc, as, ds, x, rfl, BP, ?_, fun z => (by rw [z, (BL od).steps.lst] at hpc; cases hpc), fun H2 as2 ds2 r hst B2 q2 => ?_⟩
      · rw [upd_same]
        rfl
      have ht2 := (q2 t _ (sP _ _ upd_same) (.inr ⟨_, _, rfl⟩) (ne_of upd_same (BL od).steps.lst (fun z => by cases z))).1
      refine ⟨ht2, t, _, _, rfl, rfl, upd_same, size256 (by decide), ?_⟩
      rw [upd_upd]
      exact ⟨_, rfl, end_one hk (TbM.neutral_say hcall hst) ht ⟨_, B.steps.lst⟩ (fun b o e => sP _ _ (hLL od b o e)) q2 B2 ht2⟩
    | take w n =>
      refine ⟨_, rfl, rfl, _, rfl, ?_⟩
      refine ite2 (fun h => absurd h (by decide)) (fun _ => ?_)
      refine ⟨_, rfl, rfl, _, rfl, ?_⟩
      refine ite2 (fun h => absurd h (by decide)) (fun _ => ?_)
      refine ⟨_, rfl, rfl, _, rfl, ?_⟩
      refine ite2 (fun _ => ?_) (fun h => absurd (by decide) h)
      refine ⟨_, rfl, .inl ⟨rfl, _, SqL.of upd_same⟩, t, _, upd_same, trivial, fun od => ?_⟩
      obtain ⟨dx, ep⟩ := (BL od).obj
      have hgL := hLL od _ _ hg
      refine ⟨_, rfl, p, dx, _, rfl, ep, shf_no l (by decide +kernel), _, rfl, g, _, _, _, rfl, rfl, SqL.of hgL, at_of (j := 0) rfl rfl, _, rfl, g, _, _, _, rfl, rfl, SqL.of hgL, at_of (j := 1) rfl rfl, p, l, as, ds, w, n, rfl, BL od, fun H2 ds2 r hst B2 q2 => ?_⟩
      have ht2 := (q2 t _ upd_same (.inr ⟨_, _, rfl⟩) (ne_of upd_same (BL od).steps.lst (fun z => by cases z))).1
      refine ⟨ht2, t, _, _, rfl, rfl, upd_same, size256 (by decide), ?_⟩
      rw [upd_upd]
      exact ⟨_, rfl, end_one hk (TbM.neutral_say hcall hst) ht ⟨_, B.steps.lst⟩ (hLL od) q2 B2 ht2⟩
    | all w n =>
      refine ⟨_, rfl, rfl, _, rfl, ?_⟩
      refine ite2 (fun h => absurd h (by decide)) (fun _ => ?_)
      refine ⟨_, rfl, rfl, _, rfl, ?_⟩
      refine ite2 (fun h => absurd h (by decide)) (fun _ => ?_)
      refine ⟨_, rfl, rfl, _, rfl, ?_⟩
      refine ite2 (fun h => absurd h (by decide)) (fun _ => ?_)
      refine ⟨_, rfl, rfl, _, rfl, ?_⟩
      refine ite2 (fun _ => ?_) (fun h => absurd (by decide) h)
      refine ⟨_, rfl, .inl ⟨rfl, _, SqL.of upd_same⟩, t, _, upd_same, trivial, fun od => ?_⟩
      obtain ⟨dx, ep⟩ := (BL od).obj
      have hgL := hLL od _ _ hg
      refine ⟨_, rfl, p, dx, _, rfl, ep, shf_no l (by decide +kernel), _, rfl, g, _, _, _, rfl, rfl, SqL.of hgL, at_of (j := 0) rfl rfl, _, rfl, g, _, _, _, rfl, rfl, SqL.of hgL, at_of (j := 1) rfl rfl, p, l, as, ds, w, n, rfl, BL od, fun H2 ds2 r hst B2 q2 => ?_⟩
      have ht2 := (q2 t _ upd_same (.inr ⟨_, _, rfl⟩) (ne_of upd_same (BL od).steps.lst (fun z => by cases z))).1
      refine ⟨ht2, t, _, _, rfl, rfl, upd_same, size256 (by decide), ?_⟩
      rw [upd_upd]
      exact ⟨_, rfl, end_one hk (TbM.neutral_say hcall hst) ht ⟨_, B.steps.lst⟩ (hLL od) q2 B2 ht2⟩
    | give w n =>
      refine ⟨_, rfl, rfl, _, rfl, ?_⟩
      refine ite2 (fun h => absurd h (by decide)) (fun _ => ?_)
      refine ⟨_, rfl, rfl, _, rfl, ?_⟩
      refine ite2 (fun h => absurd h (by decide)) (fun _ => ?_)
      refine ⟨_, rfl, rfl, _, rfl, ?_⟩
      refine ite2 (fun h => absurd h (by decide)) (fun _ => ?_)
      refine ⟨_, rfl, rfl, _, rfl, ?_⟩
      refine ite2 (fun h => absurd h (by decide)) (fun _ => ?_)
      refine ⟨_, rfl, rfl, _, rfl, ?_⟩
      refine ite2 (fun _ => ?_) (fun h => absurd (by decide) h)
      refine ⟨_, rfl, .inl ⟨rfl, _, SqL.of upd_same⟩, t, _, upd_same, trivial, fun od => ?_⟩
      obtain ⟨dx, ep⟩ := (BL od).obj
      have hgL := hLL od _ _ hg
      refine ⟨_, rfl, p, dx, _, rfl, ep, shf_no l (by decide +kernel), _, rfl, g, _, _, _, rfl, rfl, SqL.of hgL, at_of (j := 0) rfl rfl, _, rfl, g, _, _, _, rfl, rfl, SqL.of hgL, at_of (j := 1) rfl rfl, p, l, as, ds, w, n, rfl, BL od, fun H2 ds2 r hst B2 q2 => ?_⟩
      have ht2 := (q2 t _ upd_same (.inr ⟨_, _, rfl⟩) (ne_of upd_same (BL od).steps.lst (fun z => by cases z))).1
      refine ⟨ht2, t, _, _, rfl, rfl, upd_same, size256 (by decide), ?_⟩
      rw [upd_upd]
      exact ⟨_, rfl, end_one hk (TbM.neutral_say hcall hst) ht ⟨_, B.steps.lst⟩ (hLL od) q2 B2 ht2⟩
    | cell c =>
      refine ⟨_, rfl, rfl, _, rfl, ?_⟩
      refine ite2 (fun h => absurd h (by decide)) (fun _ => ?_)
      refine ⟨_, rfl, rfl, _, rfl, ?_⟩
      refine ite2 (fun h => absurd h (by decide)) (fun _ => ?_)
      refine ⟨_, rfl, rfl, _, rfl, ?_⟩
      refine ite2 (fun h => absurd h (by decide)) (fun _ => ?_)
      refine ⟨_, rfl, rfl, _, rfl, ?_⟩
      refine ite2 (fun h => absurd h (by decide)) (fun _ => ?_)
      refine ⟨_, rfl, rfl, _, rfl, ?_⟩
      refine ite2 (fun h => absurd h (by decide)) (fun _ => ?_)
      refine ⟨_, rfl, rfl, _, rfl, ?_⟩
      refine ite2 (fun _ => ?_) (fun h => absurd (by decide) h)
      have B1 := B.same sT
      obtain ⟨dx, ep⟩ := B1.obj
      refine ⟨_, rfl, .inl ⟨rfl, _, SqL.of upd_same⟩, _, rfl, p, dx, _, rfl, ep, shf_no l (by decide +kernel), _, rfl, g, _, _, _, rfl, rfl, SqL.of (sT _ _ hg), at_of (j := 0) rfl rfl, p, l, as, ds, c, rfl, B1, fun H2 q r ns hst hns s2 hqf hq => ?_⟩
      have ht2 := s2 _ _ (upd_same (H := H) (a := t) (o := .lst []))
      refine ⟨t, q, _, _, rfl, rfl, ht2, hq, Nat.le_of_lt (size256 (by rw [List.length_nil, List.length_cons, nI_length]; omega)), ?_⟩
      exact ⟨_, rfl, end_more hk (TbM.neutral_of hcall hst) ht B s2 hq hns⟩
    | hang n =>
      refine ⟨_, rfl, rfl, _, rfl, ?_⟩
      refine ite2 (fun h => absurd h (by decide)) (fun _ => ?_)
      refine ⟨_, rfl, rfl, _, rfl, ?_⟩
      refine ite2 (fun h => absurd h (by decide)) (fun _ => ?_)
      refine ⟨_, rfl, rfl, _, rfl, ?_⟩
      refine ite2 (fun h => absurd h (by decide)) (fun _ => ?_)
      refine ⟨_, rfl, rfl, _, rfl, ?_⟩
      refine ite2 (fun h => absurd h (by decide)) (fun _ => ?_)
      refine ⟨_, rfl, rfl, _, rfl, ?_⟩
      refine ite2 (fun h => absurd h (by decide)) (fun _ => ?_)
      refine ⟨_, rfl, rfl, _, rfl, ?_⟩
      refine ite2 (fun h => absurd h (by decide)) (fun _ => ?_)
      refine ⟨_, rfl, rfl, _, rfl, ?_⟩
      refine ite2 (fun _ => ?_) (fun h => absurd (by decide) h)
      have B1 := B.same sT
      obtain ⟨dx, ep⟩ := B1.obj
      refine ⟨_, rfl, .inl ⟨rfl, _, SqL.of upd_same⟩, _, rfl, p, dx, _, rfl, ep, shf_no l (by decide +kernel), _, rfl, g, _, _, _, rfl, rfl, SqL.of (sT _ _ hg), at_of (j := 0) rfl rfl, p, l, as, ds, n, rfl, B1, fun H2 q r ns hst hns s2 hqf hq => ?_⟩
      have ht2 := s2 _ _ (upd_same (H := H) (a := t) (o := .lst []))
      refine ⟨t, q, _, _, rfl, rfl, ht2, hq, Nat.le_of_lt (size256 (by rw [List.length_nil, List.length_cons, nI_length]; omega)), ?_⟩
      exact ⟨_, rfl, end_more hk (TbM.neutral_of hcall hst) ht B s2 hq hns⟩
    | from_ c =>
      refine ⟨_, rfl, rfl, _, rfl, ?_⟩
      refine ite2 (fun h => absurd h (by decide)) (fun _ => ?_)
      refine ⟨_, rfl, rfl, _, rfl, ?_⟩
      refine ite2 (fun h => absurd h (by decide)) (fun _ => ?_)
      refine ⟨_, rfl, rfl, _, rfl, ?_⟩
      refine ite2 (fun h => absurd h (by decide)) (fun _ => ?_)
      refine ⟨_, rfl, rfl, _, rfl, ?_⟩
      refine ite2 (fun h => absurd h (by decide)) (fun _ => ?_)
      refine ⟨_, rfl, rfl, _, rfl, ?_⟩
      refine ite2 (fun h => absurd h (by decide)) (fun _ => ?_)
      refine ⟨_, rfl, rfl, _, rfl, ?_⟩
      refine ite2 (fun h => absurd h (by decide)) (fun _ => ?_)
      refine ⟨_, rfl, rfl, _, rfl, ?_⟩
      refine ite2 (fun h => absurd h (by decide)) (fun _ => ?_)
      refine ⟨_, rfl, rfl, _, rfl, ?_⟩
      refine ite2 (fun _ => ?_) (fun h => absurd (by decide) h)
      have B1 := B.same sT
      obtain ⟨dx, ep⟩ := B1.obj
      refine ⟨_, rfl, .inl ⟨rfl, _, SqL.of upd_same⟩, _, rfl, p, dx, _, rfl, ep, shf_no l (by decide +kernel), _, rfl, g, _, _, _, rfl, rfl, SqL.of (sT _ _ hg), at_of (j := 0) rfl rfl, p, l, as, ds, c, rfl, B1, fun H2 q r ns hst hns s2 hqf hq => ?_⟩
      have ht2 := s2 _ _ (upd_same (H := H) (a := t) (o := .lst []))
      refine ⟨t, q, _, _, rfl, rfl, ht2, hq, Nat.le_of_lt (size256 (by rw [List.length_nil, List.length_cons, nI_length]; omega)), ?_⟩
      exact ⟨_, rfl, end_more hk (TbM.neutral_of hcall hst) ht B s2 hq hns⟩
    | there n =>
      refine ⟨_, rfl, rfl, _, rfl, ?_⟩
      refine ite2 (fun h => absurd h (by decide)) (fun _ => ?_)
      refine ⟨_, rfl, rfl, _, rfl, ?_⟩
      refine ite2 (fun h => absurd h (by decide)) (fun _ => ?_)
      refine ⟨_, rfl, rfl, _, rfl, ?_⟩
      refine ite2 (fun h => absurd h (by decide)) (fun _ => ?_)
      refine ⟨_, rfl, rfl, _, rfl, ?_⟩
      refine ite2 (fun h => absurd h (by decide)) (fun _ => ?_)
      refine ⟨_, rfl, rfl, _, rfl, ?_⟩
      refine ite2 (fun h => absurd h (by decide)) (fun _ => ?_)
      refine ⟨_, rfl, rfl, _, rfl, ?_⟩
      refine ite2 (fun h => absurd h (by decide)) (fun _ => ?_)
      refine ⟨_, rfl, rfl, _, rfl, ?_⟩
      refine ite2 (fun h => absurd h (by decide)) (fun _ => ?_)
      refine ⟨_, rfl, rfl, _, rfl, ?_⟩
      refine ite2 (fun h => absurd h (by decide)) (fun _ => ?_)
      refine ⟨_, rfl, rfl, _, rfl, ?_⟩
      refine ite2 (fun _ => ?_) (fun h => absurd (by decide) h)
      have B1 := B.same sT
      obtain ⟨dx, ep⟩ := B1.obj
      refine ⟨_, rfl, .inl ⟨rfl, _, SqL.of upd_same⟩, _, rfl, p, dx, _, rfl, ep, shf_no l (by decide +kernel), _, rfl, g, _, _, _, rfl, rfl, SqL.of (sT _ _ hg), at_of (j := 0) rfl rfl, p, l, as, ds, n, rfl, B1, fun r hst => ?_⟩
      refine ⟨t, _, _, rfl, rfl, upd_same, size256 (by decide), ?_⟩
      rw [upd_upd]
      have sR : Same H (upd H t (.lst ([] ++ [V.int r]))) := Same.new (Same.refl H) ht
      exact ⟨_, rfl, hk _ l as ds t [r] (TbM.neutral_say hcall hst) (by show 1 ≤ 300; decide) (B.same sR) (Quiet.of sR) ht upd_same (fun z => by rw [z, B.steps.lst] at ht; cases ht)⟩
end
end Tb

-- Head
set_option Elab.async false
set_option linter.all false
set_option maxRecDepth 100000
set_option maxHeartbeats 4000000
namespace Tb
open PySem PySem.Spec PyProof.Rows L2
open Kp188 (Done)
theorem sqT_of {K : PySem.W.Frag} {a : Addr} {od : Option Addr} {its : Array Value} {n : Nat} {sl : Array (Option Value)} {xs : List V} (h : K.lookup a = some ⟨.type "tuple", od, .seq its n, sl⟩) (hz : its.size ≤ sizeLine) (hv : Vals xs its.toList) : ∀ H, SqT K H a xs :=
  fun _ => .inr ⟨_, its, n, h, rfl, rfl, hz, hv⟩
theorem all_mk {P : Program} {w : World} {K : PySem.W.Frag} {h : Heap} {mg : Str → Option Value} {fa C S fNa fDo fFe fHo fHa fWi fCo fPe fCf fCn fAn fAs fSi fTi fBe fDm fRe fTa fAl fGi fCe fHg fFr fTh uCELLS_NAMED uNUMBER_NAMED uGIVEN uREADS r_READS0 r_READS1 r_READS2 r_READS3 r_READS4 r_READS5 uSETS r_SETS0 r_SETS1 r_SETS2 r_SETS3 r_SETS4 r_SETS5 uADDS r_ADDS0 r_ADDS1 r_ADDS2 r_ADDS3 r_ADDS4 r_ADDS5 : Addr} (X : K.In h) (G : h.Ns mainGlobals mg) (hfa : mg "answers" = some (.ref fa))
    {odNa anNa : Option Addr} {slNa : Array (Option Value)} {ocNa kVNa dcNa pmNa cdNa ctNa : Value}
    {odDo anDo : Option Addr} {slDo : Array (Option Value)} {ocDo kVDo dcDo pmDo cdDo ctDo : Value}
    {odFe anFe : Option Addr} {slFe : Array (Option Value)} {ocFe kVFe dcFe pmFe cdFe ctFe : Value}
    {odHo anHo : Option Addr} {slHo : Array (Option Value)} {ocHo kVHo dcHo pmHo cdHo ctHo : Value}
    {odHa anHa : Option Addr} {slHa : Array (Option Value)} {ocHa kVHa dcHa pmHa cdHa ctHa : Value}
    {odWi anWi : Option Addr} {slWi : Array (Option Value)} {ocWi kVWi dcWi pmWi cdWi ctWi : Value}
    {odCo anCo : Option Addr} {slCo : Array (Option Value)} {ocCo kVCo dcCo pmCo cdCo ctCo : Value}
    {odPe anPe : Option Addr} {slPe : Array (Option Value)} {ocPe kVPe dcPe pmPe cdPe ctPe : Value}
    {odCf anCf : Option Addr} {slCf : Array (Option Value)} {ocCf kVCf dcCf pmCf cdCf ctCf : Value}
    {odCn anCn : Option Addr} {slCn : Array (Option Value)} {ocCn kVCn dcCn pmCn cdCn ctCn : Value}
    {odAn anAn : Option Addr} {slAn : Array (Option Value)} {ocAn kVAn dcAn pmAn cdAn ctAn : Value}
    {odAs anAs : Option Addr} {slAs : Array (Option Value)} {ocAs kVAs dcAs pmAs cdAs ctAs : Value}
    {odSi anSi : Option Addr} {slSi : Array (Option Value)} {ocSi kVSi dcSi pmSi cdSi ctSi : Value}
    {odTi anTi : Option Addr} {slTi : Array (Option Value)} {ocTi kVTi dcTi pmTi cdTi ctTi : Value}
    {odBe anBe : Option Addr} {slBe : Array (Option Value)} {ocBe kVBe dcBe pmBe cdBe ctBe : Value}
    {odDm anDm : Option Addr} {slDm : Array (Option Value)} {ocDm kVDm dcDm pmDm cdDm ctDm : Value}
    {odRe anRe : Option Addr} {slRe : Array (Option Value)} {ocRe kVRe dcRe pmRe cdRe ctRe : Value}
    {odTa anTa : Option Addr} {slTa : Array (Option Value)} {ocTa kVTa dcTa pmTa cdTa ctTa : Value}
    {odAl anAl : Option Addr} {slAl : Array (Option Value)} {ocAl kVAl dcAl pmAl cdAl ctAl : Value}
    {odGi anGi : Option Addr} {slGi : Array (Option Value)} {ocGi kVGi dcGi pmGi cdGi ctGi : Value}
    {odCe anCe : Option Addr} {slCe : Array (Option Value)} {ocCe kVCe dcCe pmCe cdCe ctCe : Value}
    {odHg anHg : Option Addr} {slHg : Array (Option Value)} {ocHg kVHg dcHg pmHg cdHg ctHg : Value}
    {odFr anFr : Option Addr} {slFr : Array (Option Value)} {ocFr kVFr dcFr pmFr cdFr ctFr : Value}
    {odTh anTh : Option Addr} {slTh : Array (Option Value)} {ocTh kVTh dcTh pmTh cdTh ctTh : Value}
    {t_CELLS : Tok}
    {t_KINDS : Tok}
    {t_PEOPLE : Tok}
    {t_MOST_STEPS : Tok}
    {t_NOT_YOURS : Tok}
    {t_NO_SUCH_STEP : Tok}
    {t_HANGS_OTHERWISE : Tok}
    {t_OTHERS_HANG_ON_IT : Tok}
    {t_HUNG_ON : Tok}
    {t_SO_ALREADY : Tok}
    {t_WRONG : Tok}
    {t_FULL : Tok}
    {t_BEGIN : Tok}
    {t_DO : Tok}
    {t_TAKE : Tok}
    {t_ALL_OF : Tok}
    {t_GIVE : Tok}
    {t_CELL : Tok}
    {t_HANG : Tok}
    {t_FROM_CELL : Tok}
    {t_THERE : Tok}
    {t_PUT : Tok}
    {t_ADD : Tok}
    {t_COPY : Tok}
    {t_SUM : Tok}
    {t_EXCHANGE : Tok}
    {t_IF_NOUGHT : Tok}
    {t_NUMBERS : Tok}
    {od_CELLS_NAMED : Option Addr} {nn_CELLS_NAMED : Nat} {sl_CELLS_NAMED : Array (Option Value)}
    {t_CELLS_NAMED0 t_CELLS_NAMED1 t_CELLS_NAMED2 t_CELLS_NAMED3 t_CELLS_NAMED4 t_CELLS_NAMED5 : Tok}
    {od_NUMBER_NAMED : Option Addr} {nn_NUMBER_NAMED : Nat} {sl_NUMBER_NAMED : Array (Option Value)}
    {od_GIVEN : Option Addr} {nn_GIVEN : Nat} {sl_GIVEN : Array (Option Value)}
    {t_GIVEN0 t_GIVEN1 t_GIVEN2 t_GIVEN3 t_GIVEN4 t_GIVEN5 t_GIVEN6 t_GIVEN7 t_GIVEN8 : Tok}
    {od_READS : Option Addr} {nn_READS : Nat} {sl_READS : Array (Option Value)}
    {od_READS0 : Option Addr} {nn_READS0 : Nat} {sl_READS0 : Array (Option Value)}
    {od_READS1 : Option Addr} {nn_READS1 : Nat} {sl_READS1 : Array (Option Value)}
    {od_READS2 : Option Addr} {nn_READS2 : Nat} {sl_READS2 : Array (Option Value)}
    {t_READS2_0 : Tok}
    {od_READS3 : Option Addr} {nn_READS3 : Nat} {sl_READS3 : Array (Option Value)}
    {t_READS3_0 t_READS3_1 : Tok}
    {od_READS4 : Option Addr} {nn_READS4 : Nat} {sl_READS4 : Array (Option Value)}
    {t_READS4_0 t_READS4_1 : Tok}
    {od_READS5 : Option Addr} {nn_READS5 : Nat} {sl_READS5 : Array (Option Value)}
    {t_READS5_0 t_READS5_1 : Tok}
    {od_SETS : Option Addr} {nn_SETS : Nat} {sl_SETS : Array (Option Value)}
    {od_SETS0 : Option Addr} {nn_SETS0 : Nat} {sl_SETS0 : Array (Option Value)}
    {t_SETS0_0 : Tok}
    {od_SETS1 : Option Addr} {nn_SETS1 : Nat} {sl_SETS1 : Array (Option Value)}
    {od_SETS2 : Option Addr} {nn_SETS2 : Nat} {sl_SETS2 : Array (Option Value)}
    {t_SETS2_0 : Tok}
    {od_SETS3 : Option Addr} {nn_SETS3 : Nat} {sl_SETS3 : Array (Option Value)}
    {t_SETS3_0 : Tok}
    {od_SETS4 : Option Addr} {nn_SETS4 : Nat} {sl_SETS4 : Array (Option Value)}
    {t_SETS4_0 t_SETS4_1 : Tok}
    {od_SETS5 : Option Addr} {nn_SETS5 : Nat} {sl_SETS5 : Array (Option Value)}
    {t_SETS5_0 : Tok}
    {od_ADDS : Option Addr} {nn_ADDS : Nat} {sl_ADDS : Array (Option Value)}
    {od_ADDS0 : Option Addr} {nn_ADDS0 : Nat} {sl_ADDS0 : Array (Option Value)}
    {od_ADDS1 : Option Addr} {nn_ADDS1 : Nat} {sl_ADDS1 : Array (Option Value)}
    {t_ADDS1_0 : Tok}
    {od_ADDS2 : Option Addr} {nn_ADDS2 : Nat} {sl_ADDS2 : Array (Option Value)}
    {od_ADDS3 : Option Addr} {nn_ADDS3 : Nat} {sl_ADDS3 : Array (Option Value)}
    {od_ADDS4 : Option Addr} {nn_ADDS4 : Nat} {sl_ADDS4 : Array (Option Value)}
    {od_ADDS5 : Option Addr} {nn_ADDS5 : Nat} {sl_ADDS5 : Array (Option Value)}
    (aC : PySem.W.nsIn K mainGlobals "Step" = some (some (.ref C)))
    (pgC : PySem.W.plainGet K C Str.empty = true)
    (hdC : PySem.W.hasDictIn K C = true)
    (poC : PySem.W.plainOver K C = true)
    (saC : PySem.W.findIn K (.ref C) "__setattr__" = some (some (.builtin "object.__setattr__")))
    (mkC : PySem.W.makesIn K C = true)
    (kcC : PySem.W.keepIn K (.ref C) = true)
    (nC_who : PySem.W.findIn K (.ref C) "who" = some none)
    (nC_kind : PySem.W.findIn K (.ref C) "kind" = some none)
    (nC_cells : PySem.W.findIn K (.ref C) "cells" = some none)
    (nC_v : PySem.W.findIn K (.ref C) "v" = some none)
    (nC_reads : PySem.W.findIn K (.ref C) "reads" = some none)
    (nC_sets : PySem.W.findIn K (.ref C) "sets" = some none)
    (nC_adds : PySem.W.findIn K (.ref C) "adds" = some none)
    (nC_is_there : PySem.W.findIn K (.ref C) "is_there" = some none)
    (nC_hung_on : PySem.W.findIn K (.ref C) "hung_on" = some none)
    (aS : PySem.W.nsIn K mainGlobals "Sheet" = some (some (.ref S)))
    (pgS : PySem.W.plainGet K S Str.empty = true)
    (hdS : PySem.W.hasDictIn K S = true)
    (poS : PySem.W.plainOver K S = true)
    (saS : PySem.W.findIn K (.ref S) "__setattr__" = some (some (.builtin "object.__setattr__")))
    (mkS : PySem.W.makesIn K S = true)
    (kcS : PySem.W.keepIn K (.ref S) = true)
    (nS_steps : PySem.W.findIn K (.ref S) "steps" = some none)
    (aNa : PySem.W.nsIn K mainGlobals "named_rightly" = some (some (.ref fNa)))
    (lNa : K.lookup fNa = some ⟨ocNa, odNa, .func (PySem.W.fnOf "named_rightly" "named_rightly" (defArgs sNamed) (defBody sNamed) (defScope sNamed) .none kVNa dcNa pmNa anNa cdNa ctNa), slNa⟩)
    (cNa : PySem.W.codeIn K cdNa "named_rightly" = true)
    (kNa : PySem.W.keepIn K (.ref fNa) = true)
    (aDo : PySem.W.nsIn K mainGlobals "done_behind" = some (some (.ref fDo)))
    (lDo : K.lookup fDo = some ⟨ocDo, odDo, .func (PySem.W.fnOf "done_behind" "done_behind" (defArgs sDone) (defBody sDone) (defScope sDone) .none kVDo dcDo pmDo anDo cdDo ctDo), slDo⟩)
    (cDo : PySem.W.codeIn K cdDo "done_behind" = true)
    (kDo : PySem.W.keepIn K (.ref fDo) = true)
    (aFe : PySem.W.nsIn K mainGlobals "feeders" = some (some (.ref fFe)))
    (lFe : K.lookup fFe = some ⟨ocFe, odFe, .func (PySem.W.fnOf "feeders" "feeders" (defArgs sFeeders) (defBody sFeeders) (defScope sFeeders) .none kVFe dcFe pmFe anFe cdFe ctFe), slFe⟩)
    (cFe : PySem.W.codeIn K cdFe "feeders" = true)
    (kFe : PySem.W.keepIn K (.ref fFe) = true)
    (aHo : PySem.W.nsIn K mainGlobals "hangs_on" = some (some (.ref fHo)))
    (lHo : K.lookup fHo = some ⟨ocHo, odHo, .func (PySem.W.fnOf "hangs_on" "hangs_on" (defArgs sHangsOn) (defBody sHangsOn) (defScope sHangsOn) .none kVHo dcHo pmHo anHo cdHo ctHo), slHo⟩)
    (cHo : PySem.W.codeIn K cdHo "hangs_on" = true)
    (kHo : PySem.W.keepIn K (.ref fHo) = true)
    (aHa : PySem.W.nsIn K mainGlobals "hangers" = some (some (.ref fHa)))
    (lHa : K.lookup fHa = some ⟨ocHa, odHa, .func (PySem.W.fnOf "hangers" "hangers" (defArgs sHangers) (defBody sHangers) (defScope sHangers) .none kVHa dcHa pmHa anHa cdHa ctHa), slHa⟩)
    (cHa : PySem.W.codeIn K cdHa "hangers" = true)
    (kHa : PySem.W.keepIn K (.ref fHa) = true)
    (aWi : PySem.W.nsIn K mainGlobals "with_all_hangers" = some (some (.ref fWi)))
    (lWi : K.lookup fWi = some ⟨ocWi, odWi, .func (PySem.W.fnOf "with_all_hangers" "with_all_hangers" (defArgs sWithAll) (defBody sWithAll) (defScope sWithAll) .none kVWi dcWi pmWi anWi cdWi ctWi), slWi⟩)
    (cWi : PySem.W.codeIn K cdWi "with_all_hangers" = true)
    (kWi : PySem.W.keepIn K (.ref fWi) = true)
    (aCo : PySem.W.nsIn K mainGlobals "contents" = some (some (.ref fCo)))
    (lCo : K.lookup fCo = some ⟨ocCo, odCo, .func (PySem.W.fnOf "contents" "contents" (defArgs sContents) (defBody sContents) (defScope sContents) .none kVCo dcCo pmCo anCo cdCo ctCo), slCo⟩)
    (cCo : PySem.W.codeIn K cdCo "contents" = true)
    (kCo : PySem.W.keepIn K (.ref fCo) = true)
    (aPe : PySem.W.nsIn K mainGlobals "perform" = some (some (.ref fPe)))
    (lPe : K.lookup fPe = some ⟨ocPe, odPe, .func (PySem.W.fnOf "perform" "perform" (defArgs sPerform) (defBody sPerform) (defScope sPerform) .none kVPe dcPe pmPe anPe cdPe ctPe), slPe⟩)
    (cPe : PySem.W.codeIn K cdPe "perform" = true)
    (kPe : PySem.W.keepIn K (.ref fPe) = true)
    (aCf : PySem.W.nsIn K mainGlobals "comes_from" = some (some (.ref fCf)))
    (lCf : K.lookup fCf = some ⟨ocCf, odCf, .func (PySem.W.fnOf "comes_from" "comes_from" (defArgs s_comes_from) (defBody s_comes_from) (defScope s_comes_from) .none kVCf dcCf pmCf anCf cdCf ctCf), slCf⟩)
    (cCf : PySem.W.codeIn K cdCf "comes_from" = true)
    (kCf : PySem.W.keepIn K (.ref fCf) = true)
    (aCn : PySem.W.nsIn K mainGlobals "counted" = some (some (.ref fCn)))
    (lCn : K.lookup fCn = some ⟨ocCn, odCn, .func (PySem.W.fnOf "counted" "counted" (defArgs s_counted) (defBody s_counted) (defScope s_counted) .none kVCn dcCn pmCn anCn cdCn ctCn), slCn⟩)
    (cCn : PySem.W.codeIn K cdCn "counted" = true)
    (kCn : PySem.W.keepIn K (.ref fCn) = true)
    (aAn : PySem.W.nsIn K mainGlobals "answer" = some (some (.ref fAn)))
    (lAn : K.lookup fAn = some ⟨ocAn, odAn, .func (PySem.W.fnOf "answer" "answer" (defArgs sAnswer) (defBody sAnswer) (defScope sAnswer) .none kVAn dcAn pmAn anAn cdAn ctAn), slAn⟩)
    (cAn : PySem.W.codeIn K cdAn "answer" = true)
    (kAn : PySem.W.keepIn K (.ref fAn) = true)
    (aAs : PySem.W.nsIn K mainGlobals "answers" = some (some (.ref fAs)))
    (lAs : K.lookup fAs = some ⟨ocAs, odAs, .func (PySem.W.fnOf "answers" "answers" (defArgs sAnswers) (defBody sAnswers) (defScope sAnswers) .none kVAs dcAs pmAs anAs cdAs ctAs), slAs⟩)
    (cAs : PySem.W.codeIn K cdAs "answers" = true)
    (kAs : PySem.W.keepIn K (.ref fAs) = true)
    (aSi : PySem.W.findIn K (.ref C) "__init__" = some (some (.ref fSi)))
    (iSi : PySem.W.isFn K (.ref fSi) = true)
    (lSi : K.lookup fSi = some ⟨ocSi, odSi, .func (PySem.W.fnOf "__init__" "Step.__init__" (defArgs sStepInit) (defBody sStepInit) (defScope sStepInit) .none kVSi dcSi pmSi anSi cdSi ctSi), slSi⟩)
    (cSi : PySem.W.codeIn K cdSi "Step.__init__" = true)
    (kSi : PySem.W.keepIn K (.ref fSi) = true)
    (aTi : PySem.W.findIn K (.ref S) "__init__" = some (some (.ref fTi)))
    (iTi : PySem.W.isFn K (.ref fTi) = true)
    (lTi : K.lookup fTi = some ⟨ocTi, odTi, .func (PySem.W.fnOf "__init__" "Sheet.__init__" (defArgs sShInit) (defBody sShInit) (defScope sShInit) .none kVTi dcTi pmTi anTi cdTi ctTi), slTi⟩)
    (cTi : PySem.W.codeIn K cdTi "Sheet.__init__" = true)
    (kTi : PySem.W.keepIn K (.ref fTi) = true)
    (aBe : PySem.W.findIn K (.ref S) "begin" = some (some (.ref fBe)))
    (iBe : PySem.W.isFn K (.ref fBe) = true)
    (lBe : K.lookup fBe = some ⟨ocBe, odBe, .func (PySem.W.fnOf "begin" "Sheet.begin" (defArgs sBegin) (defBody sBegin) (defScope sBegin) .none kVBe dcBe pmBe anBe cdBe ctBe), slBe⟩)
    (cBe : PySem.W.codeIn K cdBe "Sheet.begin" = true)
    (kBe : PySem.W.keepIn K (.ref fBe) = true)
    (aDm : PySem.W.findIn K (.ref S) "do" = some (some (.ref fDm)))
    (iDm : PySem.W.isFn K (.ref fDm) = true)
    (lDm : K.lookup fDm = some ⟨ocDm, odDm, .func (PySem.W.fnOf "do" "Sheet.do" (defArgs sDo) (defBody sDo) (defScope sDo) .none kVDm dcDm pmDm anDm cdDm ctDm), slDm⟩)
    (cDm : PySem.W.codeIn K cdDm "Sheet.do" = true)
    (kDm : PySem.W.keepIn K (.ref fDm) = true)
    (aRe : PySem.W.findIn K (.ref S) "refusal" = some (some (.ref fRe)))
    (iRe : PySem.W.isFn K (.ref fRe) = true)
    (lRe : K.lookup fRe = some ⟨ocRe, odRe, .func (PySem.W.fnOf "refusal" "Sheet.refusal" (defArgs sRefusal) (defBody sRefusal) (defScope sRefusal) .none kVRe dcRe pmRe anRe cdRe ctRe), slRe⟩)
    (cRe : PySem.W.codeIn K cdRe "Sheet.refusal" = true)
    (kRe : PySem.W.keepIn K (.ref fRe) = true)
    (aTa : PySem.W.findIn K (.ref S) "take" = some (some (.ref fTa)))
    (iTa : PySem.W.isFn K (.ref fTa) = true)
    (lTa : K.lookup fTa = some ⟨ocTa, odTa, .func (PySem.W.fnOf "take" "Sheet.take" (defArgs sTake) (defBody sTake) (defScope sTake) .none kVTa dcTa pmTa anTa cdTa ctTa), slTa⟩)
    (cTa : PySem.W.codeIn K cdTa "Sheet.take" = true)
    (kTa : PySem.W.keepIn K (.ref fTa) = true)
    (aAl : PySem.W.findIn K (.ref S) "all_of" = some (some (.ref fAl)))
    (iAl : PySem.W.isFn K (.ref fAl) = true)
    (lAl : K.lookup fAl = some ⟨ocAl, odAl, .func (PySem.W.fnOf "all_of" "Sheet.all_of" (defArgs sAll) (defBody sAll) (defScope sAll) .none kVAl dcAl pmAl anAl cdAl ctAl), slAl⟩)
    (cAl : PySem.W.codeIn K cdAl "Sheet.all_of" = true)
    (kAl : PySem.W.keepIn K (.ref fAl) = true)
    (aGi : PySem.W.findIn K (.ref S) "give" = some (some (.ref fGi)))
    (iGi : PySem.W.isFn K (.ref fGi) = true)
    (lGi : K.lookup fGi = some ⟨ocGi, odGi, .func (PySem.W.fnOf "give" "Sheet.give" (defArgs sGive) (defBody sGive) (defScope sGive) .none kVGi dcGi pmGi anGi cdGi ctGi), slGi⟩)
    (cGi : PySem.W.codeIn K cdGi "Sheet.give" = true)
    (kGi : PySem.W.keepIn K (.ref fGi) = true)
    (aCe : PySem.W.findIn K (.ref S) "cell" = some (some (.ref fCe)))
    (iCe : PySem.W.isFn K (.ref fCe) = true)
    (lCe : K.lookup fCe = some ⟨ocCe, odCe, .func (PySem.W.fnOf "cell" "Sheet.cell" (defArgs s_Sheet_cell) (defBody s_Sheet_cell) (defScope s_Sheet_cell) .none kVCe dcCe pmCe anCe cdCe ctCe), slCe⟩)
    (cCe : PySem.W.codeIn K cdCe "Sheet.cell" = true)
    (kCe : PySem.W.keepIn K (.ref fCe) = true)
    (aHg : PySem.W.findIn K (.ref S) "hang" = some (some (.ref fHg)))
    (iHg : PySem.W.isFn K (.ref fHg) = true)
    (lHg : K.lookup fHg = some ⟨ocHg, odHg, .func (PySem.W.fnOf "hang" "Sheet.hang" (defArgs s_Sheet_hang) (defBody s_Sheet_hang) (defScope s_Sheet_hang) .none kVHg dcHg pmHg anHg cdHg ctHg), slHg⟩)
    (cHg : PySem.W.codeIn K cdHg "Sheet.hang" = true)
    (kHg : PySem.W.keepIn K (.ref fHg) = true)
    (aFr : PySem.W.findIn K (.ref S) "from_cell" = some (some (.ref fFr)))
    (iFr : PySem.W.isFn K (.ref fFr) = true)
    (lFr : K.lookup fFr = some ⟨ocFr, odFr, .func (PySem.W.fnOf "from_cell" "Sheet.from_cell" (defArgs s_Sheet_from_cell) (defBody s_Sheet_from_cell) (defScope s_Sheet_from_cell) .none kVFr dcFr pmFr anFr cdFr ctFr), slFr⟩)
    (cFr : PySem.W.codeIn K cdFr "Sheet.from_cell" = true)
    (kFr : PySem.W.keepIn K (.ref fFr) = true)
    (aTh : PySem.W.findIn K (.ref S) "there" = some (some (.ref fTh)))
    (iTh : PySem.W.isFn K (.ref fTh) = true)
    (lTh : K.lookup fTh = some ⟨ocTh, odTh, .func (PySem.W.fnOf "there" "Sheet.there" (defArgs s_Sheet_there) (defBody s_Sheet_there) (defScope s_Sheet_there) .none kVTh dcTh pmTh anTh cdTh ctTh), slTh⟩)
    (cTh : PySem.W.codeIn K cdTh "Sheet.there" = true)
    (kTh : PySem.W.keepIn K (.ref fTh) = true)
    (z_range : PySem.W.nsIn K mainGlobals "range" = some none)
    (z_len : PySem.W.nsIn K mainGlobals "len" = some none)
    (z_any : PySem.W.nsIn K mainGlobals "any" = some none)
    (z_sorted : PySem.W.nsIn K mainGlobals "sorted" = some none)
    (n_CELLS : PySem.W.nsIn K mainGlobals "CELLS" = some (some (.int 32 t_CELLS)))
    (n_KINDS : PySem.W.nsIn K mainGlobals "KINDS" = some (some (.int 6 t_KINDS)))
    (n_PEOPLE : PySem.W.nsIn K mainGlobals "PEOPLE" = some (some (.int 16 t_PEOPLE)))
    (n_MOST_STEPS : PySem.W.nsIn K mainGlobals "MOST_STEPS" = some (some (.int 256 t_MOST_STEPS)))
    (n_NOT_YOURS : PySem.W.nsIn K mainGlobals "NOT_YOURS" = some (some (.int (-1) t_NOT_YOURS)))
    (n_NO_SUCH_STEP : PySem.W.nsIn K mainGlobals "NO_SUCH_STEP" = some (some (.int (-2) t_NO_SUCH_STEP)))
    (n_HANGS_OTHERWISE : PySem.W.nsIn K mainGlobals "HANGS_OTHERWISE" = some (some (.int (-11) t_HANGS_OTHERWISE)))
    (n_OTHERS_HANG_ON_IT : PySem.W.nsIn K mainGlobals "OTHERS_HANG_ON_IT" = some (some (.int (-13) t_OTHERS_HANG_ON_IT)))
    (n_HUNG_ON : PySem.W.nsIn K mainGlobals "HUNG_ON" = some (some (.int (-16) t_HUNG_ON)))
    (n_SO_ALREADY : PySem.W.nsIn K mainGlobals "SO_ALREADY" = some (some (.int (-17) t_SO_ALREADY)))
    (n_WRONG : PySem.W.nsIn K mainGlobals "WRONG" = some (some (.int (-22) t_WRONG)))
    (n_FULL : PySem.W.nsIn K mainGlobals "FULL" = some (some (.int (-28) t_FULL)))
    (n_BEGIN : PySem.W.nsIn K mainGlobals "BEGIN" = some (some (.int 0 t_BEGIN)))
    (n_DO : PySem.W.nsIn K mainGlobals "DO" = some (some (.int 1 t_DO)))
    (n_TAKE : PySem.W.nsIn K mainGlobals "TAKE" = some (some (.int 2 t_TAKE)))
    (n_ALL_OF : PySem.W.nsIn K mainGlobals "ALL_OF" = some (some (.int 3 t_ALL_OF)))
    (n_GIVE : PySem.W.nsIn K mainGlobals "GIVE" = some (some (.int 4 t_GIVE)))
    (n_CELL : PySem.W.nsIn K mainGlobals "CELL" = some (some (.int 5 t_CELL)))
    (n_HANG : PySem.W.nsIn K mainGlobals "HANG" = some (some (.int 6 t_HANG)))
    (n_FROM_CELL : PySem.W.nsIn K mainGlobals "FROM_CELL" = some (some (.int 7 t_FROM_CELL)))
    (n_THERE : PySem.W.nsIn K mainGlobals "THERE" = some (some (.int 8 t_THERE)))
    (n_PUT : PySem.W.nsIn K mainGlobals "PUT" = some (some (.int 0 t_PUT)))
    (n_ADD : PySem.W.nsIn K mainGlobals "ADD" = some (some (.int 1 t_ADD)))
    (n_COPY : PySem.W.nsIn K mainGlobals "COPY" = some (some (.int 2 t_COPY)))
    (n_SUM : PySem.W.nsIn K mainGlobals "SUM" = some (some (.int 3 t_SUM)))
    (n_EXCHANGE : PySem.W.nsIn K mainGlobals "EXCHANGE" = some (some (.int 4 t_EXCHANGE)))
    (n_IF_NOUGHT : PySem.W.nsIn K mainGlobals "IF_NOUGHT" = some (some (.int 5 t_IF_NOUGHT)))
    (n_NUMBERS : PySem.W.nsIn K mainGlobals "NUMBERS" = some (some (.int 4294967296 t_NUMBERS)))
    (u_CELLS_NAMED : PySem.W.nsIn K mainGlobals "CELLS_NAMED" = some (some (.ref uCELLS_NAMED)))
    (v_CELLS_NAMED : K.lookup uCELLS_NAMED = some ⟨.type "tuple", od_CELLS_NAMED, .seq #[.int 1 t_CELLS_NAMED0, .int 1 t_CELLS_NAMED1, .int 2 t_CELLS_NAMED2, .int 3 t_CELLS_NAMED3, .int 2 t_CELLS_NAMED4, .int 2 t_CELLS_NAMED5] nn_CELLS_NAMED, sl_CELLS_NAMED⟩)
    (u_NUMBER_NAMED : PySem.W.nsIn K mainGlobals "NUMBER_NAMED" = some (some (.ref uNUMBER_NAMED)))
    (v_NUMBER_NAMED : K.lookup uNUMBER_NAMED = some ⟨.type "tuple", od_NUMBER_NAMED, .seq #[.bool true, .bool true, .bool false, .bool false, .bool false, .bool true] nn_NUMBER_NAMED, sl_NUMBER_NAMED⟩)
    (u_GIVEN : PySem.W.nsIn K mainGlobals "GIVEN" = some (some (.ref uGIVEN)))
    (v_GIVEN : K.lookup uGIVEN = some ⟨.type "tuple", od_GIVEN, .seq #[.int 0 t_GIVEN0, .int 6 t_GIVEN1, .int 2 t_GIVEN2, .int 2 t_GIVEN3, .int 2 t_GIVEN4, .int 1 t_GIVEN5, .int 1 t_GIVEN6, .int 1 t_GIVEN7, .int 1 t_GIVEN8] nn_GIVEN, sl_GIVEN⟩)
    (u_READS : PySem.W.nsIn K mainGlobals "READS" = some (some (.ref uREADS)))
    (v_READS : K.lookup uREADS = some ⟨.type "tuple", od_READS, .seq #[.ref r_READS0, .ref r_READS1, .ref r_READS2, .ref r_READS3, .ref r_READS4, .ref r_READS5] nn_READS, sl_READS⟩)
    (v_READS0 : K.lookup r_READS0 = some ⟨.type "tuple", od_READS0, .seq #[] nn_READS0, sl_READS0⟩)
    (v_READS1 : K.lookup r_READS1 = some ⟨.type "tuple", od_READS1, .seq #[] nn_READS1, sl_READS1⟩)
    (v_READS2 : K.lookup r_READS2 = some ⟨.type "tuple", od_READS2, .seq #[.int 0 t_READS2_0] nn_READS2, sl_READS2⟩)
    (v_READS3 : K.lookup r_READS3 = some ⟨.type "tuple", od_READS3, .seq #[.int 0 t_READS3_0, .int 1 t_READS3_1] nn_READS3, sl_READS3⟩)
    (v_READS4 : K.lookup r_READS4 = some ⟨.type "tuple", od_READS4, .seq #[.int 0 t_READS4_0, .int 1 t_READS4_1] nn_READS4, sl_READS4⟩)
    (v_READS5 : K.lookup r_READS5 = some ⟨.type "tuple", od_READS5, .seq #[.int 0 t_READS5_0, .int 1 t_READS5_1] nn_READS5, sl_READS5⟩)
    (u_SETS : PySem.W.nsIn K mainGlobals "SETS" = some (some (.ref uSETS)))
    (v_SETS : K.lookup uSETS = some ⟨.type "tuple", od_SETS, .seq #[.ref r_SETS0, .ref r_SETS1, .ref r_SETS2, .ref r_SETS3, .ref r_SETS4, .ref r_SETS5] nn_SETS, sl_SETS⟩)
    (v_SETS0 : K.lookup r_SETS0 = some ⟨.type "tuple", od_SETS0, .seq #[.int 0 t_SETS0_0] nn_SETS0, sl_SETS0⟩)
    (v_SETS1 : K.lookup r_SETS1 = some ⟨.type "tuple", od_SETS1, .seq #[] nn_SETS1, sl_SETS1⟩)
    (v_SETS2 : K.lookup r_SETS2 = some ⟨.type "tuple", od_SETS2, .seq #[.int 1 t_SETS2_0] nn_SETS2, sl_SETS2⟩)
    (v_SETS3 : K.lookup r_SETS3 = some ⟨.type "tuple", od_SETS3, .seq #[.int 2 t_SETS3_0] nn_SETS3, sl_SETS3⟩)
    (v_SETS4 : K.lookup r_SETS4 = some ⟨.type "tuple", od_SETS4, .seq #[.int 0 t_SETS4_0, .int 1 t_SETS4_1] nn_SETS4, sl_SETS4⟩)
    (v_SETS5 : K.lookup r_SETS5 = some ⟨.type "tuple", od_SETS5, .seq #[.int 1 t_SETS5_0] nn_SETS5, sl_SETS5⟩)
    (u_ADDS : PySem.W.nsIn K mainGlobals "ADDS" = some (some (.ref uADDS)))
    (v_ADDS : K.lookup uADDS = some ⟨.type "tuple", od_ADDS, .seq #[.ref r_ADDS0, .ref r_ADDS1, .ref r_ADDS2, .ref r_ADDS3, .ref r_ADDS4, .ref r_ADDS5] nn_ADDS, sl_ADDS⟩)
    (v_ADDS0 : K.lookup r_ADDS0 = some ⟨.type "tuple", od_ADDS0, .seq #[] nn_ADDS0, sl_ADDS0⟩)
    (v_ADDS1 : K.lookup r_ADDS1 = some ⟨.type "tuple", od_ADDS1, .seq #[.int 0 t_ADDS1_0] nn_ADDS1, sl_ADDS1⟩)
    (v_ADDS2 : K.lookup r_ADDS2 = some ⟨.type "tuple", od_ADDS2, .seq #[] nn_ADDS2, sl_ADDS2⟩)
    (v_ADDS3 : K.lookup r_ADDS3 = some ⟨.type "tuple", od_ADDS3, .seq #[] nn_ADDS3, sl_ADDS3⟩)
    (v_ADDS4 : K.lookup r_ADDS4 = some ⟨.type "tuple", od_ADDS4, .seq #[] nn_ADDS4, sl_ADDS4⟩)
    (v_ADDS5 : K.lookup r_ADDS5 = some ⟨.type "tuple", od_ADDS5, .seq #[] nn_ADDS5, sl_ADDS5⟩) :
    ∃ fd : FuncData, (∀ (s : Shared) (us : List Value), us.length = (["calls"] : List Str).length → BindsTo s fd ⟨us, []⟩ ((["calls"] : List Str).zip us)) ∧ ∀ base : Heap, K.In base → base.Ns mainGlobals mg → FnOk P w K mg base CX0 6 fa fd ["calls"] (spAnswers K) := by
  have e := hfa.symm.trans (PySem.W.mg_of X G aAs)
  cases e
  have T : Txt K mg C := ⟨⟨pgC, hdC, poC, saC⟩, nC_who, nC_kind, nC_cells, nC_v, nC_reads, nC_sets, nC_adds, nC_is_there, nC_hung_on, PySem.W.mg_none_of X G z_range, PySem.W.mg_none_of X G z_len, PySem.W.mg_none_of X G z_any, PySem.W.mg_none_of X G z_sorted⟩
  have TS : TxtS K S := ⟨⟨pgS, hdS, poS, saS⟩, nS_steps⟩
  have o_CELLS_NAMED : ∀ H, SqT K H uCELLS_NAMED (nI cellsNamed) := sqT_of v_CELLS_NAMED (by show 6 ≤ sizeLine; decide) (.cons ⟨_, rfl⟩ (.cons ⟨_, rfl⟩ (.cons ⟨_, rfl⟩ (.cons ⟨_, rfl⟩ (.cons ⟨_, rfl⟩ (.cons ⟨_, rfl⟩ .nil))))))
  have o_NUMBER_NAMED : ∀ H, SqT K H uNUMBER_NAMED (numberNamed.map V.bl) := sqT_of v_NUMBER_NAMED (by show 6 ≤ sizeLine; decide) (.cons rfl (.cons rfl (.cons rfl (.cons rfl (.cons rfl (.cons rfl .nil))))))
  have o_GIVEN : ∀ H, SqT K H uGIVEN (nI givenL) := sqT_of v_GIVEN (by show 9 ≤ sizeLine; decide) (.cons ⟨_, rfl⟩ (.cons ⟨_, rfl⟩ (.cons ⟨_, rfl⟩ (.cons ⟨_, rfl⟩ (.cons ⟨_, rfl⟩ (.cons ⟨_, rfl⟩ (.cons ⟨_, rfl⟩ (.cons ⟨_, rfl⟩ (.cons ⟨_, rfl⟩ .nil)))))))))
  have o_READS0 : ∀ H, SqT K H r_READS0 (nI []) := sqT_of v_READS0 (by show 0 ≤ sizeLine; decide) .nil
  have o_READS1 : ∀ H, SqT K H r_READS1 (nI []) := sqT_of v_READS1 (by show 0 ≤ sizeLine; decide) .nil
  have o_READS2 : ∀ H, SqT K H r_READS2 (nI [0]) := sqT_of v_READS2 (by show 1 ≤ sizeLine; decide) (.cons ⟨_, rfl⟩ .nil)
  have o_READS3 : ∀ H, SqT K H r_READS3 (nI [0, 1]) := sqT_of v_READS3 (by show 2 ≤ sizeLine; decide) (.cons ⟨_, rfl⟩ (.cons ⟨_, rfl⟩ .nil))
  have o_READS4 : ∀ H, SqT K H r_READS4 (nI [0, 1]) := sqT_of v_READS4 (by show 2 ≤ sizeLine; decide) (.cons ⟨_, rfl⟩ (.cons ⟨_, rfl⟩ .nil))
  have o_READS5 : ∀ H, SqT K H r_READS5 (nI [0, 1]) := sqT_of v_READS5 (by show 2 ≤ sizeLine; decide) (.cons ⟨_, rfl⟩ (.cons ⟨_, rfl⟩ .nil))
  have o_READS : Tab K uREADS readsIx [r_READS0, r_READS1, r_READS2, r_READS3, r_READS4, r_READS5] := ⟨sqT_of v_READS (by show 6 ≤ sizeLine; decide) (.cons rfl (.cons rfl (.cons rfl (.cons rfl (.cons rfl (.cons rfl .nil)))))), fun j row hj => by
    match j, hj with
    | 0, hj => cases hj; exact ⟨_, rfl, o_READS0⟩
    | 1, hj => cases hj; exact ⟨_, rfl, o_READS1⟩
    | 2, hj => cases hj; exact ⟨_, rfl, o_READS2⟩
    | 3, hj => cases hj; exact ⟨_, rfl, o_READS3⟩
    | 4, hj => cases hj; exact ⟨_, rfl, o_READS4⟩
    | 5, hj => cases hj; exact ⟨_, rfl, o_READS5⟩
    | j + 6, hj => simp [readsIx] at hj⟩
  have o_SETS0 : ∀ H, SqT K H r_SETS0 (nI [0]) := sqT_of v_SETS0 (by show 1 ≤ sizeLine; decide) (.cons ⟨_, rfl⟩ .nil)
  have o_SETS1 : ∀ H, SqT K H r_SETS1 (nI []) := sqT_of v_SETS1 (by show 0 ≤ sizeLine; decide) .nil
  have o_SETS2 : ∀ H, SqT K H r_SETS2 (nI [1]) := sqT_of v_SETS2 (by show 1 ≤ sizeLine; decide) (.cons ⟨_, rfl⟩ .nil)
  have o_SETS3 : ∀ H, SqT K H r_SETS3 (nI [2]) := sqT_of v_SETS3 (by show 1 ≤ sizeLine; decide) (.cons ⟨_, rfl⟩ .nil)
  have o_SETS4 : ∀ H, SqT K H r_SETS4 (nI [0, 1]) := sqT_of v_SETS4 (by show 2 ≤ sizeLine; decide) (.cons ⟨_, rfl⟩ (.cons ⟨_, rfl⟩ .nil))
  have o_SETS5 : ∀ H, SqT K H r_SETS5 (nI [1]) := sqT_of v_SETS5 (by show 1 ≤ sizeLine; decide) (.cons ⟨_, rfl⟩ .nil)
  have o_SETS : Tab K uSETS setsIx [r_SETS0, r_SETS1, r_SETS2, r_SETS3, r_SETS4, r_SETS5] := ⟨sqT_of v_SETS (by show 6 ≤ sizeLine; decide) (.cons rfl (.cons rfl (.cons rfl (.cons rfl (.cons rfl (.cons rfl .nil)))))), fun j row hj => by
    match j, hj with
    | 0, hj => cases hj; exact ⟨_, rfl, o_SETS0⟩
    | 1, hj => cases hj; exact ⟨_, rfl, o_SETS1⟩
    | 2, hj => cases hj; exact ⟨_, rfl, o_SETS2⟩
    | 3, hj => cases hj; exact ⟨_, rfl, o_SETS3⟩
    | 4, hj => cases hj; exact ⟨_, rfl, o_SETS4⟩
    | 5, hj => cases hj; exact ⟨_, rfl, o_SETS5⟩
    | j + 6, hj => simp [setsIx] at hj⟩
  have o_ADDS0 : ∀ H, SqT K H r_ADDS0 (nI []) := sqT_of v_ADDS0 (by show 0 ≤ sizeLine; decide) .nil
  have o_ADDS1 : ∀ H, SqT K H r_ADDS1 (nI [0]) := sqT_of v_ADDS1 (by show 1 ≤ sizeLine; decide) (.cons ⟨_, rfl⟩ .nil)
  have o_ADDS2 : ∀ H, SqT K H r_ADDS2 (nI []) := sqT_of v_ADDS2 (by show 0 ≤ sizeLine; decide) .nil
  have o_ADDS3 : ∀ H, SqT K H r_ADDS3 (nI []) := sqT_of v_ADDS3 (by show 0 ≤ sizeLine; decide) .nil
  have o_ADDS4 : ∀ H, SqT K H r_ADDS4 (nI []) := sqT_of v_ADDS4 (by show 0 ≤ sizeLine; decide) .nil
  have o_ADDS5 : ∀ H, SqT K H r_ADDS5 (nI []) := sqT_of v_ADDS5 (by show 0 ≤ sizeLine; decide) .nil
  have o_ADDS : Tab K uADDS addsIx [r_ADDS0, r_ADDS1, r_ADDS2, r_ADDS3, r_ADDS4, r_ADDS5] := ⟨sqT_of v_ADDS (by show 6 ≤ sizeLine; decide) (.cons rfl (.cons rfl (.cons rfl (.cons rfl (.cons rfl (.cons rfl .nil)))))), fun j row hj => by
    match j, hj with
    | 0, hj => cases hj; exact ⟨_, rfl, o_ADDS0⟩
    | 1, hj => cases hj; exact ⟨_, rfl, o_ADDS1⟩
    | 2, hj => cases hj; exact ⟨_, rfl, o_ADDS2⟩
    | 3, hj => cases hj; exact ⟨_, rfl, o_ADDS3⟩
    | 4, hj => cases hj; exact ⟨_, rfl, o_ADDS4⟩
    | 5, hj => cases hj; exact ⟨_, rfl, o_ADDS5⟩
    | j + 6, hj => simp [addsIx] at hj⟩
  have FNa := fun_mk (st := sNamed) lNa cNa kNa
  have bNa := FNa.binds (ps := ["kind", "cells", "v"]) fun _ _ _ _ _ _ us hl => match us, hl with | [_, _, _], _ => rfl
  have FDo := fun_mk (st := sDone) lDo cDo kDo
  have bDo := FDo.binds (ps := ["steps", "step"]) fun _ _ _ _ _ _ us hl => match us, hl with | [_, _], _ => rfl
  have FFe := fun_mk (st := sFeeders) lFe cFe kFe
  have bFe := FFe.binds (ps := ["steps", "cell", "place"]) fun _ _ _ _ _ _ us hl => match us, hl with | [_, _, _], _ => rfl
  have FHo := fun_mk (st := sHangsOn) lHo cHo kHo
  have bHo := FHo.binds (ps := ["steps", "n"]) fun _ _ _ _ _ _ us hl => match us, hl with | [_, _], _ => rfl
  have FHa := fun_mk (st := sHangers) lHa cHa kHa
  have bHa := FHa.binds (ps := ["steps", "n"]) fun _ _ _ _ _ _ us hl => match us, hl with | [_, _], _ => rfl
  have FWi := fun_mk (st := sWithAll) lWi cWi kWi
  have bWi := FWi.binds (ps := ["steps", "n"]) fun _ _ _ _ _ _ us hl => match us, hl with | [_, _], _ => rfl
  have FCo := fun_mk (st := sContents) lCo cCo kCo
  have bCo := FCo.binds (ps := ["steps"]) fun _ _ _ _ _ _ us hl => match us, hl with | [_], _ => rfl
  have FPe := fun_mk (st := sPerform) lPe cPe kPe
  have bPe := FPe.binds (ps := ["step", "held"]) fun _ _ _ _ _ _ us hl => match us, hl with | [_, _], _ => rfl
  have FCf := fun_mk (st := s_comes_from) lCf cCf kCf
  have bCf := FCf.binds (ps := ["steps", "cell"]) fun _ _ _ _ _ _ us hl => match us, hl with | [_, _], _ => rfl
  have FCn := fun_mk (st := s_counted) lCn cCn kCn
  have bCn := FCn.binds (ps := ["numbers"]) fun _ _ _ _ _ _ us hl => match us, hl with | [_], _ => rfl
  have FAn := fun_mk (st := sAnswer) lAn cAn kAn
  have bAn := FAn.binds (ps := ["sheet", "call", "given"]) fun _ _ _ _ _ _ us hl => match us, hl with | [_, _, _], _ => rfl
  have FAs := fun_mk (st := sAnswers) lAs cAs kAs
  have bAs := FAs.binds (ps := ["calls"]) fun _ _ _ _ _ _ us hl => match us, hl with | [_], _ => rfl
  have FSi := fun_mk (st := sStepInit) lSi cSi kSi
  have bSi := FSi.binds (ps := ["self", "who", "kind", "cells", "v"]) fun _ _ _ _ _ _ us hl => match us, hl with | [_, _, _, _, _], _ => rfl
  have FTi := fun_mk (st := sShInit) lTi cTi kTi
  have bTi := FTi.binds (ps := ["self"]) fun _ _ _ _ _ _ us hl => match us, hl with | [_], _ => rfl
  have FBe := fun_mk (st := sBegin) lBe cBe kBe
  have bBe := FBe.binds (ps := ["self"]) fun _ _ _ _ _ _ us hl => match us, hl with | [_], _ => rfl
  have FDm := fun_mk (st := sDo) lDm cDm kDm
  have bDm := FDm.binds (ps := ["self", "who", "kind", "cells", "v"]) fun _ _ _ _ _ _ us hl => match us, hl with | [_, _, _, _, _], _ => rfl
  have FRe := fun_mk (st := sRefusal) lRe cRe kRe
  have bRe := FRe.binds (ps := ["self", "who", "n", "due_there"]) fun _ _ _ _ _ _ us hl => match us, hl with | [_, _, _, _], _ => rfl
  have FTa := fun_mk (st := sTake) lTa cTa kTa
  have bTa := FTa.binds (ps := ["self", "who", "n"]) fun _ _ _ _ _ _ us hl => match us, hl with | [_, _, _], _ => rfl
  have FAl := fun_mk (st := sAll) lAl cAl kAl
  have bAl := FAl.binds (ps := ["self", "who", "n"]) fun _ _ _ _ _ _ us hl => match us, hl with | [_, _, _], _ => rfl
  have FGi := fun_mk (st := sGive) lGi cGi kGi
  have bGi := FGi.binds (ps := ["self", "who", "n"]) fun _ _ _ _ _ _ us hl => match us, hl with | [_, _, _], _ => rfl
  have FCe := fun_mk (st := s_Sheet_cell) lCe cCe kCe
  have bCe := FCe.binds (ps := ["self", "c"]) fun _ _ _ _ _ _ us hl => match us, hl with | [_, _], _ => rfl
  have FHg := fun_mk (st := s_Sheet_hang) lHg cHg kHg
  have bHg := FHg.binds (ps := ["self", "n"]) fun _ _ _ _ _ _ us hl => match us, hl with | [_, _], _ => rfl
  have FFr := fun_mk (st := s_Sheet_from_cell) lFr cFr kFr
  have bFr := FFr.binds (ps := ["self", "c"]) fun _ _ _ _ _ _ us hl => match us, hl with | [_, _], _ => rfl
  have FTh := fun_mk (st := s_Sheet_there) lTh cTh kTh
  have bTh := FTh.binds (ps := ["self", "n"]) fun _ _ _ _ _ _ us hl => match us, hl with | [_, _], _ => rfl
  refine ⟨PySem.W.fnOf "answers" "answers" (defArgs sAnswers) (defBody sAnswers) (defScope sAnswers) .none kVAs dcAs pmAs anAs cdAs ctAs, fun s us hu => match us, hu with | [_], _ => .of_eq rfl, fun base _ _ => ?_⟩
  have GSI := ok_stepInit (P := P) (w := w) (base := base) FSi T (PySem.W.mg_of X G u_READS) (PySem.W.mg_of X G u_SETS) (PySem.W.mg_of X G u_ADDS) o_READS o_SETS o_ADDS
  have GRe := ok_refusal (P := P) (w := w) (base := base) FRe T TS (PySem.W.mg_of X G n_NO_SUCH_STEP) (PySem.W.mg_of X G n_NOT_YOURS) (PySem.W.mg_of X G n_SO_ALREADY)
  have GHa := ok_hangers (P := P) (w := w) (base := base) FHa T
  have GHo := ok_hangsOn (P := P) (w := w) (base := base) FHo T FFe bFe (PySem.W.mg_of X G aFe)
  have GWi := ok_withAll (P := P) (w := w) (base := base) FWi T FHa bHa (PySem.W.mg_of X G aHa)
  have GDo := ok_done (P := P) (w := w) (base := base) FDo T FHo bHo (PySem.W.mg_of X G aHo) FFe bFe (PySem.W.mg_of X G aFe)
  have GNa := ok_named (P := P) (w := w) (base := base) FNa (PySem.W.mg_none_of X G z_any) (PySem.W.mg_of X G n_KINDS) (PySem.W.mg_of X G n_CELLS) (PySem.W.mg_of X G u_CELLS_NAMED) o_CELLS_NAMED (PySem.W.mg_of X G u_NUMBER_NAMED) o_NUMBER_NAMED
  have GTi := ok_shInit (P := P) (w := w) (mg := mg) (base := base) FTi TS
  have GBe := ok_begin (P := P) (w := w) (mg := mg) (base := base) (C := C) FBe TS
  have GDm := ok_do (P := P) (w := w) (base := base) FDm T TS (PySem.W.mg_of X G n_PEOPLE) (PySem.W.mg_of X G n_WRONG) (PySem.W.mg_of X G n_MOST_STEPS) (PySem.W.mg_of X G n_FULL) GNa kNa bNa (PySem.W.mg_of X G aNa) GDo kDo bDo (PySem.W.mg_of X G aDo) ⟨mkC, aSi, iSi, kcC⟩ GSI bSi (PySem.W.mg_of X G aC)
  have GTa := ok_take (P := P) (w := w) (base := base) FTa T TS (PySem.W.mg_of X G n_NO_SUCH_STEP) (PySem.W.mg_of X G n_NOT_YOURS) (PySem.W.mg_of X G n_SO_ALREADY) (PySem.W.mg_of X G n_HUNG_ON) FRe bRe ⟨aRe, iRe, kRe⟩ FHa bHa (PySem.W.mg_of X G aHa)
  have GAl := ok_all (P := P) (w := w) (base := base) FAl T TS (PySem.W.mg_of X G n_OTHERS_HANG_ON_IT) GRe bRe ⟨aRe, iRe, kRe⟩ GWi kWi bWi (PySem.W.mg_of X G aWi)
  have GGi := ok_give (P := P) (w := w) (base := base) FGi T TS (PySem.W.mg_of X G n_HUNG_ON) (PySem.W.mg_of X G n_HANGS_OTHERWISE) GRe bRe ⟨aRe, iRe, kRe⟩ GHa kHa bHa (PySem.W.mg_of X G aHa) GHo kHo bHo (PySem.W.mg_of X G aHo)
  have NK : Kinds mg := ⟨⟨_, PySem.W.mg_of X G n_PUT⟩, ⟨_, PySem.W.mg_of X G n_ADD⟩, ⟨_, PySem.W.mg_of X G n_COPY⟩, ⟨_, PySem.W.mg_of X G n_SUM⟩, ⟨_, PySem.W.mg_of X G n_EXCHANGE⟩, ⟨_, PySem.W.mg_of X G n_IF_NOUGHT⟩, ⟨_, PySem.W.mg_of X G n_NUMBERS⟩⟩
  have GPe := ok_perform (P := P) (w := w) (base := base) FPe T NK
  have GCo := ok_contents (P := P) (w := w) (base := base) FCo T (PySem.W.mg_of X G n_CELLS) GPe kPe bPe (PySem.W.mg_of X G aPe)
  have GCe := ok_cell (P := P) (w := w) (base := base) FCe T TS (PySem.W.mg_of X G n_CELLS) (PySem.W.mg_of X G n_WRONG) GCo kCo bCo (PySem.W.mg_of X G aCo)
  have GCn := ok_counted (P := P) (w := w) (base := base) FCn T.len
  have GHg := ok_hang (P := P) (w := w) (base := base) FHg T TS (PySem.W.mg_of X G n_NO_SUCH_STEP) GHa kHa bHa (PySem.W.mg_of X G aHa) GCn kCn bCn (PySem.W.mg_of X G aCn)
  have GCf := ok_from (P := P) (w := w) (base := base) FCf T FFe bFe (PySem.W.mg_of X G aFe) GHo kHo bHo (PySem.W.mg_of X G aHo)
  have GFr := ok_fromCell (P := P) (w := w) (base := base) FFr TS (PySem.W.mg_of X G n_CELLS) (PySem.W.mg_of X G n_WRONG) GCf kCf bCf (PySem.W.mg_of X G aCf) GCn kCn bCn (PySem.W.mg_of X G aCn)
  have GTh := ok_there (P := P) (w := w) (base := base) FTh T TS (PySem.W.mg_of X G n_NO_SUCH_STEP)
  have GAn := ok_answer (P := P) (w := w) (base := base) FAn TS (PySem.W.mg_of X G n_BEGIN) (PySem.W.mg_of X G n_DO) (PySem.W.mg_of X G n_TAKE) (PySem.W.mg_of X G n_ALL_OF) (PySem.W.mg_of X G n_GIVE) (PySem.W.mg_of X G n_CELL) (PySem.W.mg_of X G n_HANG) (PySem.W.mg_of X G n_FROM_CELL) (PySem.W.mg_of X G n_THERE) GBe bBe ⟨aBe, iBe, kBe⟩ GDm bDm ⟨aDm, iDm, kDm⟩ GTa bTa ⟨aTa, iTa, kTa⟩ GAl bAl ⟨aAl, iAl, kAl⟩ GGi bGi ⟨aGi, iGi, kGi⟩ GCe bCe ⟨aCe, iCe, kCe⟩ GHg bHg ⟨aHg, iHg, kHg⟩ GFr bFr ⟨aFr, iFr, kFr⟩ GTh bTh ⟨aTh, iTh, kTh⟩
  exact ok_answers (k := 4) (by decide) FAs T (PySem.W.mg_of X G u_GIVEN) o_GIVEN ⟨mkS, aTi, iTi, kcS⟩ GTi bTi (PySem.W.mg_of X G aS) GAn kAn bAn (PySem.W.mg_of X G aAn)
end Tb
open PySem PySem.W PyProof.Rows
set_option maxRecDepth 100000 in
set_option maxHeartbeats 0 in
theorem PySem.Challenge.cw_takenback_s01_answers_holds : PySem.Challenge.rw_takenback_s01_answers.Holds := by
  w_on; k_headS; (case hw => exact ⟨[.list [.int 0]], by decide +kernel, by decide +kernel⟩)
  k_fillS
  refine L2.walk_specK (r := PySem.Challenge.rw_takenback_s01_answers) (k := 6) (CX := L2.CX0) (ps := ["calls"]) (sp := Tb.spAnswers) (by decide +kernel) rfl rfl ⟨rfl, by decide, by decide⟩ (fun w h Y => PySem.W.kIn_of Y) ?F ?S (fun _ _ _ _ z => z)
  case F =>
    intro w mg fa h Y KX G hmg
    refine' Tb.all_mk KX G hmg ?aC ?pgC ?hdC ?poC ?saC ?mkC ?kcC ?nC_who ?nC_kind ?nC_cells ?nC_v ?nC_reads ?nC_sets ?nC_adds ?nC_is_there ?nC_hung_on ?aS ?pgS ?hdS ?poS ?saS ?mkS ?kcS ?nS_steps ?aNa ?lNa ?cNa ?kNa ?aDo ?lDo ?cDo ?kDo ?aFe ?lFe ?cFe ?kFe ?aHo ?lHo ?cHo ?kHo ?aHa ?lHa ?cHa ?kHa ?aWi ?lWi ?cWi ?kWi ?aCo ?lCo ?cCo ?kCo ?aPe ?lPe ?cPe ?kPe ?aCf ?lCf ?cCf ?kCf ?aCn ?lCn ?cCn ?kCn ?aAn ?lAn ?cAn ?kAn ?aAs ?lAs ?cAs ?kAs ?aSi ?iSi ?lSi ?cSi ?kSi ?aTi ?iTi ?lTi ?cTi ?kTi ?aBe ?iBe ?lBe ?cBe ?kBe ?aDm ?iDm ?lDm ?cDm ?kDm ?aRe ?iRe ?lRe ?cRe ?kRe ?aTa ?iTa ?lTa ?cTa ?kTa ?aAl ?iAl ?lAl ?cAl ?kAl ?aGi ?iGi ?lGi ?cGi ?kGi ?aCe ?iCe ?lCe ?cCe ?kCe ?aHg ?iHg ?lHg ?cHg ?kHg ?aFr ?iFr ?lFr ?cFr ?kFr ?aTh ?iTh ?lTh ?cTh ?kTh ?z_range ?z_len ?z_any ?z_sorted ?n_CELLS ?n_KINDS ?n_PEOPLE ?n_MOST_STEPS ?n_NOT_YOURS ?n_NO_SUCH_STEP ?n_HANGS_OTHERWISE ?n_OTHERS_HANG_ON_IT ?n_HUNG_ON ?n_SO_ALREADY ?n_WRONG ?n_FULL ?n_BEGIN ?n_DO ?n_TAKE ?n_ALL_OF ?n_GIVE ?n_CELL ?n_HANG ?n_FROM_CELL ?n_THERE ?n_PUT ?n_ADD ?n_COPY ?n_SUM ?n_EXCHANGE ?n_IF_NOUGHT ?n_NUMBERS ?u_CELLS_NAMED ?v_CELLS_NAMED ?u_NUMBER_NAMED ?v_NUMBER_NAMED ?u_GIVEN ?v_GIVEN ?u_READS ?v_READS ?v_READS0 ?v_READS1 ?v_READS2 ?v_READS3 ?v_READS4 ?v_READS5 ?u_SETS ?v_SETS ?v_SETS0 ?v_SETS1 ?v_SETS2 ?v_SETS3 ?v_SETS4 ?v_SETS5 ?u_ADDS ?v_ADDS ?v_ADDS0 ?v_ADDS1 ?v_ADDS2 ?v_ADDS3 ?v_ADDS4 ?v_ADDS5
    (case aC => k_is)
    (case pgC => k_is)
    (case hdC => k_is)
    (case poC => k_is)
    (case saC => k_is)
    (case mkC => k_is)
    (case kcC => k_is)
    (case nC_who => k_is)
    (case nC_kind => k_is)
    (case nC_cells => k_is)
    (case nC_v => k_is)
    (case nC_reads => k_is)
    (case nC_sets => k_is)
    (case nC_adds => k_is)
    (case nC_is_there => k_is)
    (case nC_hung_on => k_is)
    (case aS => k_is)
    (case pgS => k_is)
    (case hdS => k_is)
    (case poS => k_is)
    (case saS => k_is)
    (case mkS => k_is)
    (case kcS => k_is)
    (case nS_steps => k_is)
    (case aNa => k_is)
    (case lNa => k_is)
    (case cNa => k_is)
    (case kNa => k_is)
    (case aDo => k_is)
    (case lDo => k_is)
    (case cDo => k_is)
    (case kDo => k_is)
    (case aFe => k_is)
    (case lFe => k_is)
    (case cFe => k_is)
    (case kFe => k_is)
    (case aHo => k_is)
    (case lHo => k_is)
    (case cHo => k_is)
    (case kHo => k_is)
    (case aHa => k_is)
    (case lHa => k_is)
    (case cHa => k_is)
    (case kHa => k_is)
    (case aWi => k_is)
    (case lWi => k_is)
    (case cWi => k_is)
    (case kWi => k_is)
    (case aCo => k_is)
    (case lCo => k_is)
    (case cCo => k_is)
    (case kCo => k_is)
    (case aPe => k_is)
    (case lPe => k_is)
    (case cPe => k_is)
    (case kPe => k_is)
    (case aCf => k_is)
    (case lCf => k_is)
    (case cCf => k_is)
    (case kCf => k_is)
    (case aCn => k_is)
    (case lCn => k_is)
    (case cCn => k_is)
    (case kCn => k_is)
    (case aAn => k_is)
    (case lAn => k_is)
    (case cAn => k_is)
    (case kAn => k_is)
    (case aAs => k_is)
    (case lAs => k_is)
    (case cAs => k_is)
    (case kAs => k_is)
    (case aSi => k_is)
    (case iSi => k_is)
    (case lSi => k_is)
    (case cSi => k_is)
    (case kSi => k_is)
    (case aTi => k_is)
    (case iTi => k_is)
    (case lTi => k_is)
    (case cTi => k_is)
    (case kTi => k_is)
    (case aBe => k_is)
    (case iBe => k_is)
    (case lBe => k_is)
    (case cBe => k_is)
    (case kBe => k_is)
    (case aDm => k_is)
    (case iDm => k_is)
    (case lDm => k_is)
    (case cDm => k_is)
    (case kDm => k_is)
    (case aRe => k_is)
    (case iRe => k_is)
    (case lRe => k_is)
    (case cRe => k_is)
    (case kRe => k_is)
    (case aTa => k_is)
    (case iTa => k_is)
    (case lTa => k_is)
    (case cTa => k_is)
    (case kTa => k_is)
    (case aAl => k_is)
    (case iAl => k_is)
    (case lAl => k_is)
    (case cAl => k_is)
    (case kAl => k_is)
    (case aGi => k_is)
    (case iGi => k_is)
    (case lGi => k_is)
    (case cGi => k_is)
    (case kGi => k_is)
    (case aCe => k_is)
    (case iCe => k_is)
    (case lCe => k_is)
    (case cCe => k_is)
    (case kCe => k_is)
    (case aHg => k_is)
    (case iHg => k_is)
    (case lHg => k_is)
    (case cHg => k_is)
    (case kHg => k_is)
    (case aFr => k_is)
    (case iFr => k_is)
    (case lFr => k_is)
    (case cFr => k_is)
    (case kFr => k_is)
    (case aTh => k_is)
    (case iTh => k_is)
    (case lTh => k_is)
    (case cTh => k_is)
    (case kTh => k_is)
    (case z_range => k_is)
    (case z_len => k_is)
    (case z_any => k_is)
    (case z_sorted => k_is)
    (case n_CELLS => k_is)
    (case n_KINDS => k_is)
    (case n_PEOPLE => k_is)
    (case n_MOST_STEPS => k_is)
    (case n_NOT_YOURS => k_is)
    (case n_NO_SUCH_STEP => k_is)
    (case n_HANGS_OTHERWISE => k_is)
    (case n_OTHERS_HANG_ON_IT => k_is)
    (case n_HUNG_ON => k_is)
    (case n_SO_ALREADY => k_is)
    (case n_WRONG => k_is)
    (case n_FULL => k_is)
    (case n_BEGIN => k_is)
    (case n_DO => k_is)
    (case n_TAKE => k_is)
    (case n_ALL_OF => k_is)
    (case n_GIVE => k_is)
    (case n_CELL => k_is)
    (case n_HANG => k_is)
    (case n_FROM_CELL => k_is)
    (case n_THERE => k_is)
    (case n_PUT => k_is)
    (case n_ADD => k_is)
    (case n_COPY => k_is)
    (case n_SUM => k_is)
    (case n_EXCHANGE => k_is)
    (case n_IF_NOUGHT => k_is)
    (case n_NUMBERS => k_is)
    (case u_CELLS_NAMED => k_is)
    (case v_CELLS_NAMED => k_is)
    (case u_NUMBER_NAMED => k_is)
    (case v_NUMBER_NAMED => k_is)
    (case u_GIVEN => k_is)
    (case v_GIVEN => k_is)
    (case u_READS => k_is)
    (case v_READS => k_is)
    (case v_READS0 => k_is)
    (case v_READS1 => k_is)
    (case v_READS2 => k_is)
    (case v_READS3 => k_is)
    (case v_READS4 => k_is)
    (case v_READS5 => k_is)
    (case u_SETS => k_is)
    (case v_SETS => k_is)
    (case v_SETS0 => k_is)
    (case v_SETS1 => k_is)
    (case v_SETS2 => k_is)
    (case v_SETS3 => k_is)
    (case v_SETS4 => k_is)
    (case v_SETS5 => k_is)
    (case u_ADDS => k_is)
    (case v_ADDS => k_is)
    (case v_ADDS0 => k_is)
    (case v_ADDS1 => k_is)
    (case v_ADDS2 => k_is)
    (case v_ADDS3 => k_is)
    (case v_ADDS4 => k_is)
    (case v_ADDS5 => k_is)
  case S =>
    intro K H xs a hO hwi hask hx
    cases hx with
    | cons h1 h2 =>
      cases h2
      cases h1 with
      | lst hs ha =>
        have e := L2.ints_dw a.1 _ ha
        subst e
        have q : ((Codec.inLen 0 30000 a.1 && a.1.all (Codec.inInt 0 4294967295)) && true) = true := hwi
        rw [Bool.and_eq_true, Bool.and_eq_true] at q
        exact ⟨_, a.1, rfl, Tb.ArgL.of hO hs, (Codec.inNat_iff.mp q.1.1).2, hask, fun H' p hp => .lst (L2.SqL.of hp) (L2.dw_ints _)⟩
#print axioms PySem.Challenge.cw_takenback_s01_answers_holds

