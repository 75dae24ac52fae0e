import PyProof.Rows.All
import Wide.All
import OpenK.AllK
import Wide.FinOn
import PyProof.EqAt
import PyProof.EqKinds
import PyProof.TupleCall
import KE.BitLaws
import Open.SpecLaws
import KE.OsHead
import KE.OsGo
import KE.KSortKeySt
import KE.KMinKey
import PyKcz6
import PySem.Challenge.RW_faultfinder_s01_answers
set_option Elab.async false
set_option linter.all false
set_option maxRecDepth 100000
namespace L2
open PySem PySem.Spec PyProof.Rows
abbrev Key := Sum Int Str
def keyIs : Key → Value → Bool
  | .inl k, v => Value.isInt k v
  | .inr x, v => Value.isStrOf x v
def keyH (w : World) : Key → Int
  | .inl k => hashInt k
  | .inr x => hashStr w x
theorem keyIs_shape : ∀ {k : Key} {v : Value}, keyIs k v = true → (∃ i t, k = Sum.inl i ∧ v = Value.int i t) ∨ (∃ x t, k = Sum.inr x ∧ v = Value.str x t)
  | .inl i, v, h => by
    obtain ⟨t, e⟩ := Value.isInt_shape (k := i) (v := v) h
    exact .inl ⟨i, t, rfl, e⟩
  | .inr x, v, h => by
    obtain ⟨t, e⟩ := Value.isStrOf_shape (x := x) (v := v) h
    exact .inr ⟨x, t, rfl, e⟩
theorem keyIs_int (i : Int) (t : Tok) : keyIs (.inl i) (.int i t) = true := by simp [keyIs, Value.isInt]
theorem keyIs_str (x : Str) (t : Tok) : keyIs (.inr x) (.str x t) = true := by simp [keyIs, Value.isStrOf]
theorem key_ll (a b : Int) : decide ((Sum.inl a : Key) = Sum.inl b) = (a == b) := by
  by_cases e : a = b
  · subst e; simp
  · have h : ¬ (Sum.inl a : Key) = Sum.inl b := fun q => e (Sum.inl.inj q)
    rw [decide_eq_false h]
    exact (beq_eq_false_iff_ne.mpr e).symm
theorem key_rr (a b : Str) : decide ((Sum.inr a : Key) = Sum.inr b) = decide (a = b) := by
  by_cases e : a = b
  · subst e; simp
  · have h : ¬ (Sum.inr a : Key) = Sum.inr b := fun q => e (Sum.inr.inj q)
    rw [decide_eq_false h, decide_eq_false e]
theorem key_lr (a : Int) (b : Str) : decide ((Sum.inl a : Key) = Sum.inr b) = false := decide_eq_false (fun q => nomatch q)
theorem key_rl (a : Str) (b : Int) : decide ((Sum.inr a : Key) = Sum.inl b) = false := decide_eq_false (fun q => nomatch q)
def mixKind (prog : Program) (w : World) : PySem.KeyKind prog w Key where
  is := keyIs
  hash := keyH w
  inj := fun v a b ha hb => by
    rcases keyIs_shape ha with ⟨i, t, rfl, rfl⟩ | ⟨x, t, rfl, rfl⟩
    · rcases keyIs_shape hb with ⟨j, u, rfl, e⟩ | ⟨y, u, rfl, e⟩
      · injection e with e1 _; rw [e1]
      · exact nomatch e
    · rcases keyIs_shape hb with ⟨j, u, rfl, e⟩ | ⟨y, u, rfl, e⟩
      · exact nomatch e
      · injection e with e1 _; rw [e1]
  byValue := fun k v h => by
    rcases keyIs_shape h with ⟨i, t, rfl, rfl⟩ | ⟨x, t, rfl, rfl⟩ <;> rfl
  pyHash := fun hv h => by
    rcases keyIs_shape hv with ⟨i, t, rfl, rfl⟩ | ⟨x, t, rfl, rfl⟩
    · exact wpAny_pyHash_int h
    · exact wpAny_pyHash_str h
  eqBool := fun hu hv h => by
    rcases keyIs_shape hu with ⟨i, t, rfl, rfl⟩ | ⟨x, t, rfl, rfl⟩
    · rcases keyIs_shape hv with ⟨j, u, rfl, rfl⟩ | ⟨y, u, rfl, rfl⟩
      · rw [key_ll] at h; exact wpAny_eqBool_int h
      · rw [key_lr] at h; exact SeqAt.EqAt.int_str i t y u _ _ _ _ h
    · rcases keyIs_shape hv with ⟨j, u, rfl, rfl⟩ | ⟨y, u, rfl, rfl⟩
      · rw [key_rl] at h; exact SeqAt.EqAt.str_int x t j u _ _ _ _ h
      · rw [key_rr] at h; exact wpAny_eqBool_str h
  «strs» := fun k x t v h => by
    rcases keyIs_shape h with ⟨i, u, rfl, e⟩ | ⟨y, u, rfl, e⟩
    · exact nomatch e
    · injection e with e1 _
      subst e1
      cases v <;> rfl
theorem mixKind_int (prog : Program) (w : World) (i : Int) (t : Tok) : (mixKind prog w).is (.inl i) (.int i t) = true := keyIs_int i t
theorem mixKind_str (prog : Program) (w : World) (x : Str) (t : Tok) : (mixKind prog w).is (.inr x) (.str x t) = true := keyIs_str x t
end L2
namespace L2
open PySem PySem.Spec PyProof.Rows
inductive V where
  | non | bl (b : Bool) | int (i : Int) | str (x : Str) | byt (b : Array UInt8) | flt (b : UInt64) | ref (a : Addr) | ty (n : String)
  deriving DecidableEq
def RelV : V → Value → Prop
  | .non, u => u = Value.none
  | .bl b, u => u = Value.bool b
  | .int i, u => ∃ t, u = Value.int i t
  | .str x, u => ∃ t, u = Value.str x t
  | .byt b, u => ∃ t, u = Value.bytes b t
  | .flt b, u => ∃ t, u = Value.float b t
  | .ref a, u => u = Value.ref a
  | .ty n, u => u = Value.type n
abbrev Vals : List V → List Value → Prop := Paired RelV
theorem Vals.length {xs : List V} {us : List Value} (r : Vals xs us) : xs.length = us.length := Paired.length r
theorem Vals.get : ∀ {xs : List V} {us : List Value} {i : Nat} {x : V}, Vals xs us → xs[i]? = some x → ∃ u, us[i]? = some u ∧ RelV x u
  | _, _, _, _, .nil, e => by simp at e
  | _, _, 0, _, .cons r _, e => by simp at e; subst e; exact ⟨_, rfl, r⟩
  | _, _, i + 1, x, .cons _ t, e => by
    obtain ⟨u, h1, h2⟩ := Vals.get (i := i) (x := x) t (by simpa using e)
    exact ⟨u, by simpa using h1, h2⟩
theorem Vals.set {x : V} {u : Value} (r : RelV x u) : ∀ {xs : List V} {us : List Value} (i : Nat), Vals xs us → Vals (xs.set i x) (us.set i u)
  | _, _, _, .nil => .nil
  | _, _, 0, .cons _ t => .cons r t
  | _, _, i + 1, .cons q t => .cons q (Vals.set r i t)
theorem Vals.append : ∀ {xs ys : List V} {us ws : List Value}, Vals xs us → Vals ys ws → Vals (xs ++ ys) (us ++ ws)
  | _, _, _, _, .nil, s => s
  | _, _, _, _, .cons r t, s => .cons r (Vals.append t s)
theorem Vals.take : ∀ {xs : List V} {us : List Value} (n : Nat), Vals xs us → Vals (xs.take n) (us.take n)
  | _, _, 0, _ => .nil
  | _, _, _ + 1, .nil => .nil
  | _, _, n + 1, .cons r t => .cons r (Vals.take n t)
theorem Vals.drop : ∀ {xs : List V} {us : List Value} (n : Nat), Vals xs us → Vals (xs.drop n) (us.drop n)
  | _, _, 0, r => r
  | _, _, _ + 1, .nil => .nil
  | _, _, n + 1, .cons _ t => Vals.drop n t
theorem Vals.none_of : ∀ {xs : List V} {us : List Value} {i : Nat}, Vals xs us → xs[i]? = none → us[i]? = none := fun {xs us i} r e => by
  have h1 := r.length
  have h2 : xs.length ≤ i := List.getElem?_eq_none_iff.mp e
  exact List.getElem?_eq_none_iff.mpr (by omega)
def RelO : Option V → Option Value → Prop
  | some v, some u => RelV v u
  | none, none => True
  | _, _ => False
def KV {κ : Type} : List (κ × V) → List (κ × Value) → Prop := Paired fun (p : κ × V) (q : κ × Value) => p.1 = q.1 ∧ RelV p.2 q.2
def kV : Key → V
  | .inl i => .int i
  | .inr x => .str x
inductive HO where
  /-- a list -/
  | lst (xs : List V)
  /-- a tuple (never changes) -/
  | tup (xs : List V)
  /-- a dict whose keys are ints and texts; one whose keys are tuples of ints and texts (the empty one is both) -/
  | dK (kvs : List (Key × V)) | dT (kvs : List (List Key × V))
  /-- a set of ints: its members, its size -/
  | set (S : Int → Bool) (n : Nat)
  /-- an instance of the class at C, its dict at dx, its attributes -/
  | ins (C dx : Addr) (fs : List (Str × V))
  /-- the dict of the instance at x -/
  | own (x : Addr)
  /-- the dict of an exception -/
  | xd (fs : List (Str × V))
  /-- a bound method, f of x -/
  | met (f x : Addr)
  /-- a range object lo, lo + 1, .. below hi -/
  | rng (lo hi : Int)
  /-- a thing that is known to the object (the script; a dict while a loop walks it): read, never written while it is so -/
  | frz (o : Obj) (u : HO)
  /-- a code object's table -/
  | tbl (ps : Array Value)
  /-- any other thing, by what is true of its one object (a def of one's own: SetO a S n := HO.ext fun h => ..) -/
  | ext (φ : Heap → Prop)
abbrev Hp := Addr → Option HO
def upd (H : Hp) (a : Addr) (o : HO) : Hp := fun b => if b = a then some o else H b
theorem upd_same {H : Hp} {a : Addr} {o : HO} : upd H a o a = some o := by unfold upd; rw [if_pos rfl]
theorem upd_ne {H : Hp} {a b : Addr} {o : HO} (h : b ≠ a) : upd H a o b = H b := by unfold upd; rw [if_neg h]
theorem upd_upd {H : Hp} {a : Addr} {o u : HO} : upd (upd H a o) a u = upd H a u := by
  funext b; unfold upd; split <;> rfl
theorem ne_of {H : Hp} {a b : Addr} {o u : HO} (h : H a = some o) (h' : H b = some u) (d : o ≠ u) : a ≠ b := by
  intro e; subst e; rw [h] at h'; exact d (Option.some.inj h')
theorem ne_of_none {H : Hp} {a b : Addr} {o : HO} (h : H a = some o) (h' : H b = none) : a ≠ b := by
  intro e; subst e; rw [h] at h'; cases h'
section
variable (P : Program) (w : World)
def ObjOk (H : Hp) (h : Heap) (a : Addr) : HO → Prop
  | .lst xs => xs.length ≤ sizeLine ∧ ∃ (its : List Value) (n : Nat), Vals xs its ∧ h.get? a = some { cls := .type "list", data := .seq its.toArray n }
  | .tup xs => xs.length ≤ sizeLine ∧ ∃ its : List Value, Vals xs its ∧ IsTup h a its.toArray
  | .dK kvs => kvs.length ≤ sizeLine ∧ (a == sysModules) = false ∧ ∃ vs, KV kvs vs ∧ h.DictOf (mixKind P w) a vs
  | .dT kvs => kvs.length ≤ sizeLine ∧ (a == sysModules) = false ∧ ∃ xs : List (List Key × Addr × Value),
      Paired (fun (p : List Key × V) (q : List Key × Addr × Value) => p.1 = q.1 ∧ H q.2.1 = some (.tup (p.1.map kV)) ∧ RelV p.2 q.2.2) kvs xs ∧
      ∃ o es ep, h.get? a = some o ∧ o.ExactDict ∧ o.data = .dict es ep ∧ es.toList = xs.map (entryOfKey (tupleKind (mixKind P w))) ∧ (xs.map (·.1)).Nodup
  | .set S n => h.SetOf (intKind P w) a S n
  | .ins C dx fs => H dx = some (.own a) ∧ fs.length ≤ 1000 ∧ dx ≠ a ∧ h.get? a = some (PySem.W.instObj C dx) ∧
      ∃ mA, h.Ns1 dx mA ∧ (∀ f, RelO (fs.lookup f) (mA f)) ∧ PySem.Within mA (fs.map (·.1))
  | .own _ => ∃ o, h.get? a = some o
  | .xd fs => ∃ mA, h.Ns1 a mA ∧ ∀ f, RelO (fs.lookup f) (mA f)
  | .rng lo hi => ∃ t u v, h.get? a = some { cls := .type "range", data := .fields #[.int lo t, .int hi u, .int 1 v] }
  | .frz o u => h.get? a = some o ∧ ObjOk H h a u
  | .tbl ps => h.get? a = some { cls := .none, data := .fields ps }
  | .met f x => h.get? a = some (PySem.W.methodObj (.ref f) (.ref x))
  | .ext φ => φ h ∧ (∃ o, h.get? a = some o) ∧ ∀ h1 h2 : Heap, φ h1 → (∀ o, h1.get? a = some o → h2.get? a = some o) → φ h2
def HOk (H : Hp) (h : Heap) : Prop := ∀ a o, H a = some o → ObjOk P w H h a o
end
section
variable {P : Program} {w : World} {H H' : Hp} {h h' : Heap} {a : Addr} {o : HO}
theorem ObjOk.lt (x : ObjOk P w H h a o) : a < h.objs.size := by
  cases o with
  | lst xs => obtain ⟨_, _, _, _, e⟩ := x; exact Heap.lt_size e
  | tup xs => obtain ⟨_, _, _, p⟩ := x; exact p.lt
  | dK kvs => obtain ⟨_, _, _, _, o, _, _, e, _⟩ := x; exact Heap.lt_size e
  | dT kvs => obtain ⟨_, _, _, _, o, _, _, e, _⟩ := x; exact Heap.lt_size e
  | set S n => obtain ⟨o, _, _, _, e, _⟩ := x; exact Heap.lt_size e
  | ins C dx fs => obtain ⟨_, _, _, e, _⟩ := x; exact Heap.lt_size e
  | own y => obtain ⟨_, e⟩ := x; exact Heap.lt_size e
  | xd fs => obtain ⟨_, ⟨_, _, _, e, _⟩, _⟩ := x; exact Heap.lt_size e
  | rng lo hi => obtain ⟨_, _, _, e⟩ := x; exact Heap.lt_size e
  | frz ob u => obtain ⟨e, _⟩ := x; exact Heap.lt_size e
  | tbl ps => exact Heap.lt_size (show h.get? a = some _ from x)
  | met f y => exact Heap.lt_size (show h.get? a = some _ from x)
  | ext φ => obtain ⟨_, ⟨_, e⟩, _⟩ := x; exact Heap.lt_size e
theorem Paired.mapP {α β : Type} {F G : α → β → Prop} : ∀ {l₁ : List α} {l₂ : List β}, Paired F l₁ l₂ → (∀ a b, F a b → G a b) → Paired G l₁ l₂
  | _, _, .nil, _ => .nil
  | _, _, .cons r t, f => .cons (f _ _ r) (Paired.mapP t f)
theorem ObjOk.stay (x : ObjOk P w H h a o) (k : ∀ b u, (b = a ∨ H b = some (.own a)) → h.get? b = some u → h'.get? b = some u)
    (ho : ∀ b, H b = some (.own a) → H' b = some (.own a)) (ht : ∀ b xs, H b = some (.tup xs) → H' b = some (.tup xs)) : ObjOk P w H' h' a o := by
  induction o with
  | lst xs => obtain ⟨z, its, n, r, e⟩ := x; exact ⟨z, its, n, r, k _ _ (.inl rfl) e⟩
  | tup xs => obtain ⟨z, its, r, ob, e, c⟩ := x; exact ⟨z, its, r, ob, k _ _ (.inl rfl) e, c⟩
  | dK kvs => obtain ⟨z, y, vs, r, ob, es, ep, e, c⟩ := x; exact ⟨z, y, vs, r, ob, es, ep, k _ _ (.inl rfl) e, c⟩
  | dT kvs =>
    obtain ⟨z, y, xs, r, ob, es, ep, e, c⟩ := x
    exact ⟨z, y, xs, Paired.mapP r fun p q z => ⟨z.1, ht _ _ z.2.1, z.2.2⟩, ob, es, ep, k _ _ (.inl rfl) e, c⟩
  | set S n => obtain ⟨ob, es, ep, t, e, c⟩ := x; exact ⟨ob, es, ep, t, k _ _ (.inl rfl) e, c⟩
  | ins C dx fs =>
    obtain ⟨d, z, ne, e, mA, ⟨od, es, ep, e2, c⟩, r⟩ := x
    exact ⟨ho _ d, z, ne, k _ _ (.inl rfl) e, mA, ⟨od, es, ep, k _ _ (.inr d) e2, c⟩, r⟩
  | own y => obtain ⟨ob, e⟩ := x; exact ⟨ob, k _ _ (.inl rfl) e⟩
  | xd fs => obtain ⟨mA, ⟨od, es, ep, e, c⟩, r⟩ := x; exact ⟨mA, ⟨od, es, ep, k _ _ (.inl rfl) e, c⟩, r⟩
  | rng lo hi => obtain ⟨t, u, v, e⟩ := x; exact ⟨t, u, v, k _ _ (.inl rfl) e⟩
  | frz ob u ih => obtain ⟨e, q⟩ := x; exact ⟨k _ _ (.inl rfl) e, ih q⟩
  | tbl ps =>
    have e : h.get? a = some { cls := .none, data := .fields ps } := x
    show h'.get? a = some { cls := .none, data := .fields ps }
    exact k a _ (.inl rfl) e
  | met f y =>
    have e : h.get? a = some (PySem.W.methodObj (.ref f) (.ref y)) := x
    show h'.get? a = some (PySem.W.methodObj (.ref f) (.ref y))
    exact k a _ (.inl rfl) e
  | ext φ => obtain ⟨p, ⟨o, e⟩, st⟩ := x; exact ⟨st _ _ p fun o q => k _ _ (.inl rfl) q, ⟨o, k _ _ (.inl rfl) e⟩, st⟩
theorem HOk.lt (x : HOk P w H h) (e : H a = some o) : a < h.objs.size := (x a o e).lt
theorem HOk.fresh (x : HOk P w H h) (e : h.objs.size ≤ a) : H a = none := by
  cases q : H a with
  | none => rfl
  | some u => exact absurd (Nat.lt_of_lt_of_le (x.lt q) e) (Nat.lt_irrefl _)
theorem HOk.kept (x : HOk P w H h) (k : ∀ b u, h.get? b = some u → h'.get? b = some u) : HOk P w H h' := fun a o e =>
  (x a o e).stay (fun b u _ q => k b u q) (fun _ q => q) fun _ _ q => q
theorem HOk.laid (x : HOk P w H h) (k : ∀ b u, h.get? b = some u → h'.get? b = some u) (hp : h.objs.size ≤ a) (new : ObjOk P w (upd H a o) h' a o) : HOk P w (upd H a o) h' := fun b u e => by
  have hn := x.fresh hp
  by_cases hb : b = a
  · subst hb; rw [upd_same] at e; cases e; exact new
  · rw [upd_ne hb] at e
    exact (x b u e).stay (fun c v _ q => k c v q) (fun c q => by rw [upd_ne (ne_of_none q hn)]; exact q) fun c xs q => by rw [upd_ne (ne_of_none q hn)]; exact q
end
def Rd (H : Hp) (a : Addr) (u : HO) : Prop := H a = some u ∨ ∃ o, H a = some (.frz o u)
theorem Rd.of {H : Hp} {a : Addr} {u : HO} (h : H a = some u) : Rd H a u := .inl h
theorem Rd.ok {P : Program} {w : World} {H : Hp} {h : Heap} {a : Addr} {u : HO} (r : Rd H a u) (x : HOk P w H h) : ObjOk P w H h a u := by
  rcases r with r | ⟨o, r⟩
  · exact x a u r
  · obtain ⟨_, q⟩ := x a _ r
    exact q
def Mut : Option HO → Prop
  | some (.lst _) => True
  | some (.dK _) => True
  | some (.dT _) => True
  | some (.set _ _) => True
  | some (.ins _ _ _) => True
  | some (.ext _) => True
  | _ => False
section
variable {P : Program} {w : World} {H : Hp} {h h' : Heap} {x e : Addr} {o' : HO}
theorem HOk.write (ok : HOk P w H h) (mu : Mut (H x)) (he : e = x ∨ H e = some (.own x)) (k : ∀ b u, b ≠ e → h.get? b = some u → h'.get? b = some u) (heo : ∃ u, h'.get? e = some u)
    (new : ObjOk P w (upd H x o') h' x o') : HOk P w (upd H x o') h' := fun b u q => by
  have nown : ∀ c y, H c = some (.own y) → c ≠ x := fun c y r z => by subst z; rw [r] at mu; exact mu
  have ntup : ∀ c xs, H c = some (.tup xs) → c ≠ x := fun c xs r z => by subst z; rw [r] at mu; exact mu
  by_cases hb : b = x
  · subst hb; rw [upd_same] at q; cases q; exact new
  · rw [upd_ne hb] at q
    by_cases hbe : b = e
    · have q' : H b = some (.own x) := by
        rcases he with z | z
        · exact absurd (hbe.trans z) hb
        · rw [hbe]; exact z
      rw [q] at q'; cases q'
      obtain ⟨v, hv⟩ := heo
      exact ⟨v, by rw [hbe]; exact hv⟩
    · refine (ok b u q).stay (fun c v hc r => k c v ?_ r) (fun c r => by rw [upd_ne (nown c b r)]; exact r) fun c xs r => by rw [upd_ne (ntup c xs r)]; exact r
      rcases hc with rfl | hc
      · exact hbe
      · rintro rfl
        rcases he with z | z
        · exact nown c b hc z
        · rw [hc] at z; cases z; exact hb rfl
end
structure Un (fs ex : List Addr) (H H' : Hp) (h h' : Heap) : Prop where
  keep : ∀ b o, h.get? b = some o → H b = none → b ∉ fs → b ∉ ex → h'.get? b = some o
  slot : ∀ b o, h.get? b = some o → H b = none → b ∈ fs → b ∉ ex → ∃ sl, h'.get? b = some { o with slots := sl }
  free : ∀ b o, h.get? b = some o → H b = none → b ∉ ex → H' b = none
  there : ∀ b o, h.get? b = some o → b ∉ ex → ∃ o', h'.get? b = some o'
  tups : ∀ b xs, H b = some (.tup xs) → H' b = some (.tup xs)
  frzs : ∀ b o u, H b = some (.frz o u) → H' b = some (.frz o u)
  tbls : ∀ b ps, H b = some (.tbl ps) → ∃ more, H' b = some (.tbl (ps ++ more))
section
variable {fs fs' ex ex' : List Addr} {H H1 H2 : Hp} {h h1 h2 h' : Heap} {a x e : Addr} {o : HO}
theorem Un.any (u : Un fs ex H H1 h h1) {b : Addr} {ob : Obj} (q : h.get? b = some ob) (n : H b = none) (hx : b ∉ ex) : ∃ sl, h1.get? b = some { ob with slots := sl } := by
  by_cases hb : b ∈ fs
  · exact u.slot b ob q n hb hx
  · exact ⟨ob.slots, u.keep b ob q n hb hx⟩
theorem Un.trans (a : Un fs ex H H1 h h1) (b : Un fs ex H1 H2 h1 h2) : Un fs ex H H2 h h2 where
  keep := fun c ob q n hc hx => b.keep c ob (a.keep c ob q n hc hx) (a.free c ob q n hx) hc hx
  slot := fun c ob q n hc hx => by
    obtain ⟨sl, e1⟩ := a.slot c ob q n hc hx
    obtain ⟨sl', e2⟩ := b.slot c _ e1 (a.free c ob q n hx) hc hx
    exact ⟨sl', e2⟩
  free := fun c ob q n hx => by
    obtain ⟨o', e1⟩ := a.there c ob q hx
    exact b.free c o' e1 (a.free c ob q n hx) hx
  there := fun c ob q hx => by
    obtain ⟨o', e1⟩ := a.there c ob q hx
    exact b.there c o' e1 hx
  tups := fun c xs q => b.tups c xs (a.tups c xs q)
  frzs := fun c ob xs q => b.frzs c ob xs (a.frzs c ob xs q)
  tbls := fun c ps q => by
    obtain ⟨m1, e1⟩ := a.tbls c ps q
    obtain ⟨m2, e2⟩ := b.tbls c _ e1
    exact ⟨m1 ++ m2, by rw [e2, Array.append_assoc]⟩
theorem Un.kept (k : ∀ b u, h.get? b = some u → h'.get? b = some u) : Un fs ex H H h h' :=
  ⟨fun b ob q _ _ _ => k b ob q, fun b ob q _ _ _ => ⟨ob.slots, k b ob q⟩, fun _ _ _ n _ => n, fun b ob q _ => ⟨ob, k b ob q⟩, fun _ _ q => q, fun _ _ _ q => q, fun _ ps q => ⟨#[], by rw [q]; simp⟩⟩
theorem Un.refl : Un fs ex H H h h := Un.kept fun _ _ q => q
theorem Un.laid (k : ∀ b u, h.get? b = some u → h'.get? b = some u) (hp : h.objs.size ≤ a) (hn : H a = none) : Un fs ex H (upd H a o) h h' where
  keep := fun b u q _ _ _ => k b u q
  slot := fun b u q _ _ _ => ⟨u.slots, k b u q⟩
  free := fun b u q n _ => by rw [upd_ne (Nat.ne_of_lt (Nat.lt_of_lt_of_le (Heap.lt_size q) hp))]; exact n
  there := fun b u q _ => ⟨u, k b u q⟩
  tups := fun b xs q => by rw [upd_ne (ne_of_none q hn)]; exact q
  frzs := fun b u xs q => by rw [upd_ne (ne_of_none q hn)]; exact q
  tbls := fun b ps q => ⟨#[], by rw [upd_ne (ne_of_none q hn), q]; simp⟩
theorem Un.write (mu : Mut (H x)) (he : e = x ∨ H e = some (.own x)) (k : ∀ b u, b ≠ e → h.get? b = some u → h'.get? b = some u) (heo : ∃ u, h'.get? e = some u) : Un fs ex H (upd H x o) h h' := by
  have hx : ∀ b, H b = none → b ≠ x := fun b n z => by subst z; rw [n] at mu; exact mu
  have hb : ∀ b, H b = none → b ≠ e := fun b n z => by
    subst z
    rcases he with r | r
    · exact hx b n r
    · rw [n] at r; cases r
  have hm : ∀ b u, H b = some u → ¬ Mut (some u) → b ≠ x := fun b u q nm z => by subst z; rw [q] at mu; exact nm mu
  refine ⟨fun b u q n _ _ => k b u (hb b n) q, fun b u q n _ _ => ⟨u.slots, k b u (hb b n) q⟩, fun b u q n _ => by rw [upd_ne (hx b n)]; exact n, fun b u q _ => ?_,
    fun b xs q => by rw [upd_ne (hm b _ q fun z => z)]; exact q, fun b u xs q => by rw [upd_ne (hm b _ q fun z => z)]; exact q, fun b ps q => ⟨#[], by rw [upd_ne (hm b _ q fun z => z), q]; simp⟩⟩
  by_cases hbe : b = e
  · subst hbe; exact heo
  · exact ⟨u, k b u hbe q⟩
theorem Un.mono (u : Un fs ex H H1 h h1) (hs : ∀ b ∈ fs, b ∈ fs') (hx : ∀ b ∈ ex, b ∈ ex') : Un fs' ex' H H1 h h1 :=
  ⟨fun b ob q n hb he => u.keep b ob q n (fun z => hb (hs b z)) fun z => he (hx b z), fun _ _ q n _ he => u.any q n fun z => he (hx _ z), fun b ob q n he => u.free b ob q n fun z => he (hx b z), fun b ob q he => u.there b ob q fun z => he (hx b z), u.tups, u.frzs, u.tbls⟩
end
def trk (h : Heap) (H : Hp) : List Addr := (List.range h.objs.size).filter fun a => (H a).isSome
def hidT (h : Heap) (H : Hp) : Heap := PySem.W.hideAll h (trk h H)
theorem hidT_size (h : Heap) (H : Hp) : (hidT h H).objs.size = h.objs.size := PySem.W.hideAll_size _ _
theorem hidT_get {h : Heap} {H : Hp} {b : Addr} {o : Obj} (e : h.get? b = some o) (n : H b = none) : (hidT h H).get? b = some o :=
  PySem.W.hideAll_get _ e fun hm => by
    have q : (H b).isSome = true := (List.mem_filter.mp hm).2
    rw [n] at q; simp at q
theorem of_hidT {h : Heap} {H : Hp} {b : Addr} {o : Obj} (e : (hidT h H).get? b = some o) : h.get? b = some o ∧ H b = none := by
  have e' : h.get? b = some o := PySem.W.of_hideAll (trk h H) e
  refine ⟨e', ?_⟩
  cases q : H b with
  | none => rfl
  | some x =>
    have hm : b ∈ trk h H := List.mem_filter.mpr ⟨List.mem_range.mpr (Heap.lt_size e'), by simp [q]⟩
    have z : (hidT h H).get? b = none := PySem.W.hideAll_none (trk h H) hm
    rw [z] at e; cases e
def allNews (g h : Heap) (L : Addr) : List (Addr × Obj) := (List.range h.objs.size).filterMap fun a => if a = L ∨ (g.get? a).isSome = true then none else (h.get? a).map fun o => (a, o)
def rest (g h : Heap) (L d : Addr) : List (Addr × Obj) := (allNews g h L).filter fun p => decide (p.1 ≠ d)
end L2
namespace L2
open PySem PySem.Spec PyProof.Rows
structure Mod (K : PySem.W.Frag) (mg : Str → Option Value) (base : Heap) : Prop where
  kin : K.In base
  glob : base.Ns mainGlobals mg
  blt : ∃ mb, base.Ns builtinsNs mb ∧ ∀ x : Str, x ≠ "__name__" → mb x = bootBuiltins x
  nolimit : base.NoLimit
structure Cx where
  prog : Program
  w : World
  K : PySem.W.Frag
  mg : Str → Option Value
  base : Heap
  A : Around
  N : List Str
  s_0 : Shared
  H_0 : Hp
  env : Env
  outer : List Env
  stack : List Env
  ex : List Addr
  fn : Str → Bool
  calm : Bool
  pn : List (Addr × Obj)
  xe : Value → Shared → Prop
def frs (l : List Env) : List Addr := l.filterMap (·.frame)
abbrev Cx.fs (X : Cx) : List Addr := frs X.outer
def Vis (sc : Scope) (x : Str) : Prop := sc.names.lookup x = some .local ∨ sc.names.lookup x = some .cell ∨ sc.names.lookup x = some .free
def Loc (sc : Scope) (x : Str) : Prop := sc.names.lookup x = some .local ∨ sc.names.lookup x = some .cell
def Look (env : Env) (h : Heap) (m : Str → Option Value) (x : Str) (u : Value) : Prop :=
  (env.kindOf x = some .local ∧ m x = some u) ∨ ((env.kindOf x = some .cell ∨ env.kindOf x = some .free) ∧ ∃ c, env.cells.lookup x = some c ∧ h.IsCell c (some u))
structure Cx.Ok (X : Cx) : Prop where
  mod : Mod X.K X.mg X.base
  kind : X.env.scope.kind = .function
  glob : X.env.globals = mainGlobals
  blt : X.env.builtins = builtinsNs
  above : X.s_0.heap.objs.size ≤ X.env.locals
  inj : ∀ x y c, X.env.cells.lookup x = some c → X.env.cells.lookup y = some c → x = y
  has : ∀ x, (X.env.kindOf x = some .cell ∨ X.env.kindOf x = some .free) → ∃ c, X.env.cells.lookup x = some c
  cab : ∀ x c, X.fn x = true → X.env.cells.lookup x = some c → X.s_0.heap.objs.size ≤ c
  hd : X.calm = true → X.A.handled = none
  frames : X.A.frames = some X.stack
  stk : X.stack = X.outer ∨ (X.stack = X.env :: X.outer ∧ X.env.frame = some X.env.locals)
  exf : ∀ b ∈ X.ex, b ≠ X.env.locals ∧ ∀ x c, X.env.cells.lookup x = some c → c ≠ b
  bs : ∀ b o, X.base.get? b = some o → X.s_0.heap.get? b = some o ∧ X.H_0 b = none
  bsz : X.base.objs.size ≤ X.s_0.heap.objs.size
  noex : ∀ b o, X.base.get? b = some o → b ∉ X.ex
  exfs : ∀ b ∈ X.ex, b ∉ X.fs
  funs : X.s_0.heap.FunFrames X.base X.outer
  frf : ∀ b ∈ X.fs, X.H_0 b = none
structure Inv (X : Cx) (pins : List (Addr × Obj)) (σ : List (Option V)) (H : Hp) (s : Shared) : Prop where
  ok : X.Ok
  os : s.os = X.s_0.os
  bare : AllBare s.gens
  base : Un X.fs X.ex X.H_0 H X.s_0.heap s.heap
  loc : ∃ m, s.heap.Ns X.env.locals m ∧ ∀ (i : Nat) (x : Str) (v : V), X.N[i]? = some x → σ[i]? = some (some v) → Vis X.env.scope x → ∃ u, RelV v u ∧ Look X.env s.heap m x u
  cell : ∀ x c, X.env.cells.lookup x = some c → ∃ v, s.heap.IsCell c v
  free : H X.env.locals = none
  freeC : ∀ x c, X.env.cells.lookup x = some c → H c = none
  pin : ∀ p ∈ X.pn ++ pins, s.heap.get? p.1 = some p.2 ∧ H p.1 = none ∧ p.1 ≠ X.env.locals ∧ p.1 ∉ X.fs ∧ ∀ v, p.2.data ≠ .cell v
  hok : HOk X.prog X.w H s.heap
  len : σ.length = X.N.length
section
variable {X : Cx} {pins : List (Addr × Obj)} {σ : List (Option V)} {H H' : Hp} {s : Shared} {h' : Heap}
theorem Cx.Ok.nofr (ok : X.Ok) {b : Addr} {o : Obj} (e : X.base.get? b = some o) : b ∉ X.fs := fun hb => by
  have := (ok.funs.mem hb).1
  rw [e] at this; cases this
theorem Inv.bs (I : Inv X pins σ H s) : ∀ b o, X.base.get? b = some o → s.heap.get? b = some o ∧ H b = none := fun b o e =>
  ⟨I.base.keep b o (I.ok.bs b o e).1 (I.ok.bs b o e).2 (I.ok.nofr e) (I.ok.noex b o e), I.base.free b o (I.ok.bs b o e).1 (I.ok.bs b o e).2 (I.ok.noex b o e)⟩
theorem Inv.bk (I : Inv X pins σ H s) : ∀ b o, X.base.get? b = some o → s.heap.get? b = some o := fun b o e => (I.bs b o e).1
theorem Inv.mod (I : Inv X pins σ H s) : Mod X.K X.mg X.base := I.ok.mod
theorem Inv.kIn (I : Inv X pins σ H s) : X.K.In s.heap := I.ok.mod.kin.keeps I.bk
theorem Inv.nolimit (I : Inv X pins σ H s) : s.heap.NoLimit := I.ok.mod.nolimit.keeps I.bk
theorem Inv.fr (I : Inv X pins σ H s) : ∃ m, Fr X.base X.env.locals s.heap m :=
  let ⟨m, hn, _⟩ := I.loc
  ⟨m, hn, I.bk, Nat.le_trans I.ok.bsz I.ok.above⟩
theorem Inv.lt (I : Inv X pins σ H s) : X.env.locals < s.heap.objs.size := let ⟨_, hn, _⟩ := I.loc; hn.lt
theorem Inv.sz (I : Inv X pins σ H s) : X.s_0.heap.objs.size ≤ s.heap.objs.size := Nat.le_trans I.ok.above (Nat.le_of_lt I.lt)
theorem Inv.nofs (I : Inv X pins σ H s) {a : Addr} (h : s.heap.objs.size ≤ a) : a ∉ X.fs := fun hb => by
  obtain ⟨_, o, ho, _⟩ := I.ok.funs.mem hb
  exact absurd (Nat.lt_of_lt_of_le (Heap.lt_size ho) (Nat.le_trans I.sz h)) (Nat.lt_irrefl _)
theorem Inv.cne (I : Inv X pins σ H s) : ∀ x c, X.env.cells.lookup x = some c → c ≠ X.env.locals := fun x c e z => by
  obtain ⟨v, o, ho, hd⟩ := I.cell x c e
  obtain ⟨m, ⟨o', es, ep, ho', hd', _⟩, _⟩ := I.loc
  rw [z, ho'] at ho; cases ho; rw [hd'] at hd; cases hd
theorem Inv.funs (I : Inv X pins σ H s) : s.heap.FunFrames X.base X.outer := by
  have all : ∀ (l : List Env), (∀ b ∈ frs l, b ∈ X.fs) → X.s_0.heap.FunFrames X.base l → s.heap.FunFrames X.base l := by
    intro l
    induction l with
    | nil => intro _ _; trivial
    | cons env r ih =>
      intro hs hl
      obtain ⟨hk, ⟨L, o, hf, hn, ho, hd⟩, hr⟩ := hl
      have hL : L ∈ X.fs := hs L (by unfold frs; rw [List.filterMap_cons, hf]; exact List.mem_cons_self)
      obtain ⟨sl, e⟩ := I.base.slot L o ho (I.ok.frf L hL) hL fun z => I.ok.exfs L z hL
      exact ⟨hk, ⟨L, _, hf, hn, e, hd⟩, ih (fun b hb => hs b (by unfold frs; rw [List.filterMap_cons, hf]; exact List.mem_cons_of_mem _ hb)) hr⟩
  exact all X.outer (fun _ hb => hb) I.ok.funs
theorem Inv.stack (I : Inv X pins σ H s) : s.heap.FunFrames X.base X.stack := by
  rcases I.ok.stk with e | ⟨e, hf⟩
  · rw [e]; exact I.funs
  · rw [e]
    obtain ⟨m, hn, _⟩ := I.loc
    refine .cons (by rw [I.ok.kind]; decide) hf hn ?_ I.funs
    exact Heap.get?_none_of_le (Nat.le_trans I.ok.bsz I.ok.above)
theorem Inv.stkSub (I : Inv X pins σ H s) : ∀ b ∈ frs X.stack, b ∈ X.env.locals :: X.fs := fun b hb => by
  rcases I.ok.stk with e | ⟨e, hf⟩
  · rw [e] at hb; exact List.mem_cons_of_mem _ hb
  · rw [e] at hb
    unfold frs at hb
    rw [List.filterMap_cons, hf] at hb
    exact hb
theorem Inv.stkFree (I : Inv X pins σ H s) : ∀ b ∈ frs X.stack, H b = none := fun b hb => by
  rcases List.mem_cons.mp (I.stkSub b hb) with e | hb
  · rw [e]; exact I.free
  · obtain ⟨_, o, ho, _⟩ := I.ok.funs.mem hb
    exact I.base.free b o ho (I.ok.frf b hb) fun z => I.ok.exfs b z hb
theorem Inv.step {g' : Array GenState} {t' : Nat} {d' : Drawn} {ch : List Addr} (I : Inv X pins σ H s)
    (hch : ∀ b ∈ ch, (b ∈ X.ex ∨ X.s_0.heap.objs.size ≤ b) ∧ b ≠ X.env.locals ∧ (∀ x c, X.env.cells.lookup x = some c → c ≠ b) ∧ ∀ p ∈ X.pn ++ pins, p.1 ≠ b)
    (keep : ∀ b o, b ≠ X.env.locals → b ∉ X.fs → b ∉ ch → s.heap.get? b = some o → H b = none → h'.get? b = some o)
    (slot : ∀ b o, b ≠ X.env.locals → b ∈ X.fs → b ∉ ch → s.heap.get? b = some o → H b = none → ∃ sl, h'.get? b = some { o with slots := sl }) (free : ∀ b o, b ∉ ch → s.heap.get? b = some o → H b = none → H' b = none)
    (there : ∀ b o, b ∉ ch → s.heap.get? b = some o → ∃ o', h'.get? b = some o')
    (tups : ∀ b xs, H b = some (.tup xs) → H' b = some (.tup xs)) (frzs : ∀ b o u, H b = some (.frz o u) → H' b = some (.frz o u)) (tbls : ∀ b ps, H b = some (.tbl ps) → ∃ more, H' b = some (.tbl (ps ++ more)))
    (ns : ∀ m, s.heap.Ns X.env.locals m → h'.Ns X.env.locals m) (hok : HOk X.prog X.w H' h') (hg : AllBare g') :
    Inv X pins σ H' { s with heap := h', gens := g', drawn := d', toks := t' } := by
  have neL : ∀ b o, X.s_0.heap.get? b = some o → b ≠ X.env.locals := fun b o e => Nat.ne_of_lt (Nat.lt_of_lt_of_le (Heap.lt_size e) I.ok.above)
  have neC : ∀ b o, X.s_0.heap.get? b = some o → b ∉ X.ex → b ∉ ch := fun b o e hx hb => by
    rcases (hch b hb).1 with z | z
    · exact hx z
    · exact absurd (Nat.lt_of_lt_of_le (Heap.lt_size e) z) (Nat.lt_irrefl _)
  have cellK : ∀ x c, X.env.cells.lookup x = some c → ∀ v, s.heap.IsCell c v → h'.IsCell c v := fun x c e v ⟨o, ho, hd⟩ => by
    have nch : c ∉ ch := fun z => (hch c z).2.2.1 x c e rfl
    by_cases hc : c ∈ X.fs
    · obtain ⟨sl, q⟩ := slot c o (I.cne x c e) hc nch ho (I.freeC x c e)
      exact ⟨_, q, hd⟩
    · exact ⟨o, keep c o (I.cne x c e) hc nch ho (I.freeC x c e), hd⟩
  refine ⟨I.ok, I.os, hg, ⟨fun b o e n hb hx => ?_, fun b o e n hb hx => ?_, fun b o e n hx => ?_, fun b o e hx => ?_, fun b xs e => tups b xs (I.base.tups b xs e), fun b o xs e => frzs b o xs (I.base.frzs b o xs e), fun b ps e => ?_⟩, ?_, fun x c e => ?_, ?_, fun x c e => ?_, fun p hp => ?_, hok, I.len⟩
  · exact keep b o (neL b o e) hb (neC b o e hx) (I.base.keep b o e n hb hx) (I.base.free b o e n hx)
  · obtain ⟨sl, e1⟩ := I.base.slot b o e n hb hx
    obtain ⟨sl', e2⟩ := slot b _ (neL b o e) hb (neC b o e hx) e1 (I.base.free b o e n hx)
    exact ⟨sl', e2⟩
  · obtain ⟨o', e1⟩ := I.base.there b o e hx
    exact free b o' (neC b o e hx) e1 (I.base.free b o e n hx)
  · obtain ⟨o', e1⟩ := I.base.there b o e hx
    exact there b o' (neC b o e hx) e1
  · obtain ⟨m1, e1⟩ := I.base.tbls b ps e
    obtain ⟨m2, e2⟩ := tbls b _ e1
    exact ⟨m1 ++ m2, by rw [e2, Array.append_assoc]⟩
  · obtain ⟨m, hn, hl⟩ := I.loc
    refine ⟨m, ns m hn, fun i x v e1 e2 e3 => ?_⟩
    obtain ⟨u, r, l⟩ := hl i x v e1 e2 e3
    refine ⟨u, r, ?_⟩
    rcases l with l | ⟨k, c, e, z⟩
    · exact .inl l
    · exact .inr ⟨k, c, e, cellK x c e _ z⟩
  · obtain ⟨v, z⟩ := I.cell x c e
    exact ⟨v, cellK x c e v z⟩
  · obtain ⟨m, ⟨o, _, _, ho, _⟩, _⟩ := I.loc
    exact free _ o (fun z => (hch _ z).2.1 rfl) ho I.free
  · obtain ⟨v, o, ho, hd⟩ := I.cell x c e
    exact free c o (fun z => (hch c z).2.2.1 x c e rfl) ho (I.freeC x c e)
  · obtain ⟨e, n, ne, nf, d⟩ := I.pin p hp
    have nch : p.1 ∉ ch := fun z => (hch p.1 z).2.2.2 p hp rfl
    exact ⟨keep p.1 p.2 ne nf nch e n, free p.1 p.2 nch e n, ne, nf, d⟩
theorem Inv.un {t' : Nat} (I : Inv X pins σ H s) (u : Un X.fs [] H H' s.heap h') (hok : HOk X.prog X.w H' h') : Inv X pins σ H' { s with heap := h', toks := t' } := by
  obtain ⟨m, ⟨o, es, ep, ho, r⟩, _⟩ := id I.loc
  obtain ⟨sl, hL⟩ := u.any ho I.free (by simp)
  exact I.step (g' := s.gens) (d' := s.drawn) (ch := []) (fun _ z => nomatch z) (fun b o _ hb _ e n => u.keep b o e n hb (by simp)) (fun b o _ hb _ e n => u.slot b o e n hb (by simp)) (fun b o _ e n => u.free b o e n (by simp)) (fun b o _ e => u.there b o e (by simp)) u.tups u.frzs u.tbls (fun m' hm => by
    obtain ⟨o', es', ep', ho', r'⟩ := hm
    rw [ho] at ho'; cases ho'
    exact ⟨_, es', ep', hL, r'⟩) hok I.bare
theorem Inv.call {g' : Array GenState} {t' : Nat} {d' : Drawn} {ch : List Addr} (I : Inv X pins σ H s) (u : Un (frs X.stack) ch H H' s.heap h') (hok : HOk X.prog X.w H' h') (hg : AllBare g')
    (hch : ∀ b ∈ ch, (b ∈ X.ex ∨ X.s_0.heap.objs.size ≤ b) ∧ b ≠ X.env.locals ∧ (∀ x c, X.env.cells.lookup x = some c → c ≠ b) ∧ ∀ p ∈ X.pn ++ pins, p.1 ≠ b) :
    Inv X pins σ H' { s with heap := h', gens := g', drawn := d', toks := t' } := by
  obtain ⟨m, ⟨o, es, ep, ho, r⟩, _⟩ := id I.loc
  obtain ⟨sl, hL⟩ := u.any ho I.free fun z => (hch _ z).2.1 rfl
  exact I.step (ch := ch) hch (fun b o hL hb hc e n => u.keep b o e n (fun z => (List.mem_cons.mp (I.stkSub b z)).elim hL hb) hc) (fun b o _ _ hc e n => u.any e n hc) (fun b o hc e n => u.free b o e n hc) (fun b o hc e => u.there b o e hc) u.tups u.frzs u.tbls (fun m' hm => by
    obtain ⟨o', es', ep', ho', r'⟩ := hm
    rw [ho] at ho'; cases ho'
    exact ⟨_, es', ep', hL, r'⟩) hok hg
theorem Inv.turned {t' : Nat} {it : Addr} (I : Inv X pins σ H s) (k : ∀ b o, b ≠ it → s.heap.get? b = some o → h'.get? b = some o) (hn : H it = none) (hL : it ≠ X.env.locals)
    (h1 : it ∈ X.ex ∨ X.s_0.heap.objs.size ≤ it) (h2 : ∀ x c, X.env.cells.lookup x = some c → c ≠ it) (h3 : ∀ p ∈ X.pn ++ pins, p.1 ≠ it) : Inv X pins σ H { s with heap := h', toks := t' } := by
  have nit : ∀ b u, H b = some u → b ≠ it := fun b u e z => by rw [z, hn] at e; cases e
  refine I.step (g' := s.gens) (d' := s.drawn) (ch := [it]) (fun b hb => ?_) (fun b o _ _ hc e _ => k b o (fun z => hc (by simp [z])) e) (fun b o _ _ hc e _ => ⟨o.slots, k b o (fun z => hc (by simp [z])) e⟩) (fun _ _ _ _ n => n)
    (fun b o hc e => ⟨o, k b o (fun z => hc (by simp [z])) e⟩) (fun _ _ e => e) (fun _ _ _ e => e) (fun b ps e => ⟨#[], by rw [e]; simp⟩) (fun m hm => ?_) (fun b u e => ?_) I.bare
  · have e : b = it := by simpa using hb
    subst e
    exact ⟨h1, hL, h2, h3⟩
  · obtain ⟨o, es, ep, ho, r⟩ := hm
    exact ⟨o, es, ep, k _ o (Ne.symm hL) ho, r⟩
  · refine (I.hok b u e).stay (fun c v hc q => k c v ?_ q) (fun _ q => q) fun _ _ q => q
    rcases hc with z | z
    · rw [z]; exact nit b u e
    · exact nit c _ z
theorem Inv.tok (I : Inv X pins σ H s) (t : Nat) : Inv X pins σ H { s with toks := t } := I.un (h' := s.heap) (t' := t) Un.refl I.hok
theorem Inv.kept {t' : Nat} (I : Inv X pins σ H s) (k : ∀ b u, s.heap.get? b = some u → h'.get? b = some u) : Inv X pins σ H { s with heap := h', toks := t' } := I.un (Un.kept k) (I.hok.kept k)
theorem Inv.laid {a : Addr} {o : HO} {t' : Nat} (I : Inv X pins σ H s) (k : ∀ b u, s.heap.get? b = some u → h'.get? b = some u) (hp : s.heap.objs.size ≤ a) (new : ObjOk X.prog X.w (upd H a o) h' a o) :
    Inv X pins σ (upd H a o) { s with heap := h', toks := t' } := I.un (Un.laid k hp (I.hok.fresh hp)) (I.hok.laid k hp new)
theorem Inv.write {x e : Addr} {o : HO} {t' : Nat} (I : Inv X pins σ H s) (mu : Mut (H x)) (he : e = x ∨ H e = some (.own x)) (k : ∀ b u, b ≠ e → s.heap.get? b = some u → h'.get? b = some u) (heo : ∃ u, h'.get? e = some u)
    (new : ObjOk X.prog X.w (upd H x o) h' x o) : Inv X pins σ (upd H x o) { s with heap := h', toks := t' } := I.un (Un.write mu he k heo) (I.hok.write mu he k heo new)
theorem Inv.weak {σ' : List (Option V)} (I : Inv X pins σ H s) (hl : σ'.length = σ.length) (w : ∀ (i : Nat) v, σ'[i]? = some (some v) → σ[i]? = some (some v)) : Inv X pins σ' H s :=
  ⟨I.ok, I.os, I.bare, I.base, let ⟨m, hn, hl'⟩ := I.loc; ⟨m, hn, fun i x v e1 e2 e3 => hl' i x v e1 (w i v e2) e3⟩, I.cell, I.free, I.freeC, I.pin, I.hok, hl.trans I.len⟩
theorem Inv.pins_of {pins' : List (Addr × Obj)} (I : Inv X pins σ H s) (h : ∀ p ∈ pins', s.heap.get? p.1 = some p.2 ∧ H p.1 = none ∧ p.1 ≠ X.env.locals ∧ p.1 ∉ X.fs ∧ ∀ v, p.2.data ≠ .cell v) : Inv X pins' σ H s :=
  ⟨I.ok, I.os, I.bare, I.base, I.loc, I.cell, I.free, I.freeC, fun p hp => (List.mem_append.mp hp).elim (fun z => I.pin p (List.mem_append_left _ z)) (h p), I.hok, I.len⟩
theorem nodup_ix {N : List Str} (hN : N.Nodup) {i j : Nat} {x : Str} (a : N[i]? = some x) (b : N[j]? = some x) : i = j := by
  obtain ⟨h1, e1⟩ := List.getElem?_eq_some_iff.mp a
  obtain ⟨h2, e2⟩ := List.getElem?_eq_some_iff.mp b
  exact (List.getElem_inj hN).mp (e1.trans e2.symm)
theorem store_ok2 {M : Model} {A : Around} {E : Value → Shared → Prop} {i : Nat} {x : Str} {v : V} {u : Value} {Q : Unit → Shared → Prop} (I : Inv X pins σ H s) (hN : X.N.Nodup) (hi : X.N[i]? = some x) (hx : Loc X.env.scope x) (r : RelV v u)
    (h : ∀ s', Inv X pins (σ.set i (some v)) H s' → (∃ a, Heap.SameBut a s.heap s'.heap ∧ (a = X.env.locals ∨ X.env.cells.lookup x = some a)) → Q () s') (hf : X.fn x = true ∨ X.env.scope.names.lookup x = some .local := by first | exact .inl rfl | exact .inr rfl | assumption) : wpAny M A (storeName X.env x u) Q E s := by
  obtain ⟨m, hn, hl⟩ := id I.loc
  have hcls : (X.env.scope.kind == .class || (X.env.scope.kind == .module && X.env.locals != X.env.globals)) = false := by rw [I.ok.kind]; rfl
  have hiσ : i < σ.length := by rw [I.len]; exact (List.getElem?_eq_some_iff.mp hi).1
  have cne := I.cne
  have tracked : ∀ {a : Addr} {h' : Heap}, (∃ o, s.heap.get? a = some o ∧ H a = none) → Heap.SameBut a s.heap h' → HOk X.prog X.w H h' := fun {a h'} ha hs b ob e => by
    obtain ⟨_, _, hfree⟩ := ha
    refine (I.hok b ob e).stay (fun c w' hc q => (hs.2 c ?_).trans q) (fun _ q => q) fun _ _ q => q
    rintro rfl
    rcases hc with rfl | hc
    · rw [hfree] at e; cases e
    · rw [hfree] at hc; cases hc
  rcases hx with hk | hk
  · refine wpAny_storeName_local hk hn (fun h' hn' hs => ?_) hcls
    obtain ⟨oL, _, _, hoL, _⟩ := id hn
    refine h _ ⟨I.ok, I.os, I.bare, ⟨fun b o e n hb hx => ?_, fun b o e n hb hx => ?_, I.base.free, fun b o e hx => ?_, I.base.tups, I.base.frzs, I.base.tbls⟩, ⟨_, hn', fun j y v' e1 e2 e3 => ?_⟩, fun y c e => ?_, I.free, I.freeC, fun p hp => ?_, tracked ⟨oL, hoL, I.free⟩ hs, by simpa using I.len⟩ ⟨_, hs, .inl rfl⟩
    · exact (hs.2 b (Nat.ne_of_lt (Nat.lt_of_lt_of_le (Heap.lt_size e) I.ok.above))).trans (I.base.keep b o e n hb hx)
    · obtain ⟨sl, e1⟩ := I.base.slot b o e n hb hx
      exact ⟨sl, (hs.2 b (Nat.ne_of_lt (Nat.lt_of_lt_of_le (Heap.lt_size e) I.ok.above))).trans e1⟩
    · obtain ⟨o', e1⟩ := I.base.there b o e hx
      exact ⟨o', (hs.2 b (Nat.ne_of_lt (Nat.lt_of_lt_of_le (Heap.lt_size e) I.ok.above))).trans e1⟩
    · by_cases hj : j = i
      · subst hj
        rw [hi] at e1; cases e1
        rw [List.getElem?_set_self hiσ] at e2
        cases e2
        exact ⟨u, r, .inl ⟨hk, by simp⟩⟩
      · rw [List.getElem?_set_ne (Ne.symm hj)] at e2
        obtain ⟨u', r', q⟩ := hl j y v' e1 e2 e3
        refine ⟨u', r', ?_⟩
        rcases q with ⟨k, e⟩ | ⟨k, c, e, z⟩
        · refine .inl ⟨k, ?_⟩
          have : y ≠ x := fun e => hj (nodup_ix hN e1 (e ▸ hi))
          simp [this, e]
        · exact .inr ⟨k, c, e, z.sameBut hs (cne y c e)⟩
    · obtain ⟨w', z⟩ := I.cell y c e
      exact ⟨w', z.sameBut hs (cne y c e)⟩
    · obtain ⟨e, n, ne, nf, d⟩ := I.pin p hp
      exact ⟨(hs.2 p.1 ne).trans e, n, ne, nf, d⟩
  · have hfn : X.fn x = true := by
      rcases hf with z | z
      · exact z
      · rw [z] at hk; cases hk
    obtain ⟨c, hc⟩ := I.ok.has x (.inl hk)
    obtain ⟨w', z⟩ := I.cell x c hc
    refine wpAny_storeName_cell I.ok.kind hk hc z (fun h' hc' hs => ?_)
    obtain ⟨oc, hoc, hocd⟩ := id z
    refine h { s with heap := h' } ⟨I.ok, I.os, I.bare, ⟨fun b o e n hb hx => ?_, fun b o e n hb hx => ?_, I.base.free, fun b o e hx => ?_, I.base.tups, I.base.frzs, I.base.tbls⟩, ⟨m, hn.sameBut hs (Ne.symm (cne x c hc)), fun j y v' e1 e2 e3 => ?_⟩, fun y c' e => ?_, I.free, I.freeC, fun p hp => ?_, tracked ⟨oc, hoc, I.freeC x c hc⟩ hs, by simpa using I.len⟩ ⟨c, hs, .inr hc⟩
    · exact (hs.2 b (Nat.ne_of_lt (Nat.lt_of_lt_of_le (Heap.lt_size e) (I.ok.cab x c hfn hc)))).trans (I.base.keep b o e n hb hx)
    · obtain ⟨sl, e1⟩ := I.base.slot b o e n hb hx
      exact ⟨sl, (hs.2 b (Nat.ne_of_lt (Nat.lt_of_lt_of_le (Heap.lt_size e) (I.ok.cab x c hfn hc)))).trans e1⟩
    · obtain ⟨o', e1⟩ := I.base.there b o e hx
      exact ⟨o', (hs.2 b (Nat.ne_of_lt (Nat.lt_of_lt_of_le (Heap.lt_size e) (I.ok.cab x c hfn hc)))).trans e1⟩
    · by_cases hj : j = i
      · subst hj
        rw [hi] at e1; cases e1
        rw [List.getElem?_set_self hiσ] at e2
        cases e2
        exact ⟨u, r, .inr ⟨.inl hk, c, hc, hc'⟩⟩
      · rw [List.getElem?_set_ne (Ne.symm hj)] at e2
        obtain ⟨u', r', q⟩ := hl j y v' e1 e2 e3
        refine ⟨u', r', ?_⟩
        rcases q with q | ⟨k, c', e, z'⟩
        · exact .inl q
        · refine .inr ⟨k, c', e, z'.sameBut hs ?_⟩
          rintro rfl
          exact hj (nodup_ix hN e1 (I.ok.inj _ _ _ e hc ▸ hi))
    · by_cases hcc : c' = c
      · subst hcc; exact ⟨_, hc'⟩
      · obtain ⟨w2, z2⟩ := I.cell y c' e
        exact ⟨w2, z2.sameBut hs hcc⟩
    · obtain ⟨e, n, ne, nf, d⟩ := I.pin p hp
      refine ⟨(hs.2 p.1 ?_).trans e, n, ne, nf, d⟩
      intro q
      rw [q, hoc] at e
      have q' : oc = p.2 := Option.some.inj e
      exact d w' (by rw [← q']; exact hocd)
theorem store_ok {M : Model} {A : Around} {E : Value → Shared → Prop} {i : Nat} {x : Str} {v : V} {u : Value} {Q : Unit → Shared → Prop} (I : Inv X pins σ H s) (hN : X.N.Nodup) (hi : X.N[i]? = some x) (hx : Loc X.env.scope x) (r : RelV v u)
    (h : ∀ s', Inv X pins (σ.set i (some v)) H s' → Q () s') (hf : X.fn x = true ∨ X.env.scope.names.lookup x = some .local := by first | exact .inl rfl | exact .inr rfl | assumption) : wpAny M A (storeName X.env x u) Q E s :=
  store_ok2 I hN hi hx r (fun s' I' _ => h s' I') hf
theorem Inv.call' {s' : Shared} {ch : List Addr} (I : Inv X pins σ H s) (ho : s'.os = s.os) (u : Un (frs X.stack) ch H H' s.heap s'.heap) (hok : HOk X.prog X.w H' s'.heap) (hg : AllBare s'.gens)
    (hch : ∀ b ∈ ch, (b ∈ X.ex ∨ X.s_0.heap.objs.size ≤ b) ∧ b ≠ X.env.locals ∧ (∀ x c, X.env.cells.lookup x = some c → c ≠ b) ∧ ∀ p ∈ X.pn ++ pins, p.1 ≠ b) : Inv X pins σ H' s' := by
  obtain ⟨h', g', d', t', o'⟩ := s'
  have e : o' = s.os := ho
  subst e
  exact I.call (g' := g') (t' := t') (d' := d') u hok hg hch
end
abbrev XK := Value → Option Addr → Hp → Prop
abbrev St := List (Option V)
abbrev VK := V → Hp → Prop
abbrev TE := St → Hp → VK → Prop
abbrev TT := St → Hp → (Bool → Hp → Prop) → Prop
abbrev TA := St → Hp → (List V → Hp → Prop) → Prop
structure Ends where
  nx : St → Hp → Prop
  rt : VK
  bk : St → Hp → Prop := fun _ _ => False
  ct : St → Hp → Prop := fun _ _ => False
abbrev TS := Ends → St → Hp → Prop
def EP (X : Cx) (pins : List (Addr × Obj)) (σ : St) (Q : VK) (u : Value) (s' : Shared) : Prop := ∃ v H', Inv X pins σ H' s' ∧ RelV v u ∧ Q v H'
def TP (X : Cx) (pins : List (Addr × Obj)) (σ : St) (Q : Bool → Hp → Prop) (b : Bool) (s' : Shared) : Prop := ∃ H', Inv X pins σ H' s' ∧ Q b H'
def AP (X : Cx) (pins : List (Addr × Obj)) (σ : St) (Q : List V → Hp → Prop) (us : List Value) (s' : Shared) : Prop := ∃ vs H', Inv X pins σ H' s' ∧ Vals vs us ∧ Q vs H'
def SP (X : Cx) (pins : List (Addr × Obj)) (D : Ends) (f : Flow) (s' : Shared) : Prop :=
  match f with
  | .next => ∃ σ' H', Inv X pins σ' H' s' ∧ D.nx σ' H'
  | .brk => ∃ σ' H', Inv X pins σ' H' s' ∧ D.bk σ' H'
  | .cont => ∃ σ' H', Inv X pins σ' H' s' ∧ D.ct σ' H'
  | .ret u => ∃ v σ' H', Inv X pins σ' H' s' ∧ RelV v u ∧ D.rt v H'
def PE (X : Cx) (e : Expr) (t : TE) : Prop :=
  ∀ (pins : List (Addr × Obj)) (s : Shared) (σ : St) (H : Hp) (Q : VK), Inv X pins σ H s → t σ H Q → wpAny (model X.prog X.w) X.A (eval e X.env) (EP X pins σ Q) X.xe s
def PT (X : Cx) (e : Expr) (t : TT) : Prop :=
  ∀ (pins : List (Addr × Obj)) (s : Shared) (σ : St) (H : Hp) (Q : Bool → Hp → Prop), Inv X pins σ H s → t σ H Q → wpAny (model X.prog X.w) X.A (isTrue e X.env (eval e X.env)) (TP X pins σ Q) X.xe s
def PW (X : Cx) (e : Expr) (t : TT) : Prop :=
  ∀ (whole : Sem Value) (pins : List (Addr × Obj)) (s : Shared) (σ : St) (H : Hp) (Q : Bool → Hp → Prop), Inv X pins σ H s → t σ H Q → wpAny (model X.prog X.w) X.A (isTrue e X.env whole) (TP X pins σ Q) X.xe s
theorem PW.pt {X : Cx} {e : Expr} {t : TT} (h : PW X e t) : PT X e t := h _
def PA (X : Cx) (es : List Expr) (t : TA) : Prop :=
  ∀ (pos : Pos) (pins : List (Addr × Obj)) (s : Shared) (σ : St) (H : Hp) (Q : List V → Hp → Prop), Inv X pins σ H s → t σ H Q → wpAny (model X.prog X.w) X.A (spliced (backTo pos (starEach es X.env))) (AP X pins σ Q) X.xe s
def PS (X : Cx) (st : Stmt) (t : TS) : Prop :=
  ∀ (pins : List (Addr × Obj)) (s : Shared) (σ : St) (H : Hp) (D : Ends), Inv X pins σ H s → t D σ H → wpAny (model X.prog X.w) X.A (exec st X.env) (SP X pins D) X.xe s
def PSs (X : Cx) (st : List Stmt) (t : TS) : Prop :=
  ∀ (pins : List (Addr × Obj)) (s : Shared) (σ : St) (H : Hp) (D : Ends), Inv X pins σ H s → t D σ H → wpAny (model X.prog X.w) X.A (execs st X.env) (SP X pins D) X.xe s
theorem thn {α : Type} {t : Sem α} {Q Q' : α → Shared → Prop} {M : Model} {A : Around} {E : Value → Shared → Prop} {s : Shared} (h : wpAny M A t Q E s) (hQ : ∀ a s, Q a s → Q' a s) : wpAny M A t Q' E s := wpAny_mono h hQ fun _ _ x => x
end L2
namespace L2
open PySem PySem.Spec PyProof.Rows
section
variable {X : Cx}
theorem bin {a b : Expr} {ta tb : TE} (ha : PE X a ta) (hb : PE X b tb) {pins : List (Addr × Obj)} {s : Shared} {σ : St} {H : Hp} {R : V → V → Hp → Prop} (I : Inv X pins σ H s) (h : ta σ H fun x H1 => tb σ H1 fun y H2 => R x y H2)
    {α : Type} {Q : α → Shared → Prop} {f : Value → Value → Sem α}
    (hf : ∀ v u s2 x y H2, Inv X pins σ H2 s2 → RelV x v → RelV y u → R x y H2 → wpAny (model X.prog X.w) X.A (f v u) Q X.xe s2) :
    wpAny (model X.prog X.w) X.A (eval a X.env) (fun v s₁ => wpAny (model X.prog X.w) X.A (eval b X.env) (fun u s₂ => wpAny (model X.prog X.w) X.A (f v u) Q X.xe s₂) X.xe s₁) X.xe s := by
  refine thn (ha pins s σ H _ I h) fun v s1 ⟨x, H1, I1, r1, q1⟩ => ?_
  refine thn (hb pins s1 σ H1 _ I1 q1) fun u s2 ⟨y, H2, I2, r2, q2⟩ => ?_
  exact hf v u s2 x y H2 I2 r1 r2 q2
def tVar (i : Nat) : TE := fun σ H Q => ∃ v, σ[i]? = some (some v) ∧ Q v H
def tC (v : V) : TE := fun _ H Q => Q v H
theorem pe_var {i : Nat} {x : Str} {pos : Pos} (hN : X.N[i]? = some x) (hv : Vis X.env.scope x) (hd : (x == ("__debug__" : Str)) = false := by decide) (hcd : (x == ("__classdict__" : Str)) = false := by decide) : PE X (.Name x pos) (tVar i) := by
  intro pins s σ H Q I h
  obtain ⟨v, e, h⟩ := h
  obtain ⟨m, hn, hl⟩ := I.loc
  obtain ⟨u, r, l⟩ := hl i x v hN e hv
  have fin : EP X pins σ Q u s := ⟨v, H, I, r, h⟩
  rcases l with ⟨hk, hm⟩ | ⟨hk, c, hc, hcell⟩
  · exact wpAny_Name (wpAny_loadName_local I.ok.kind hk hn hm fin) hd
  · rcases hk with hk | hk
    · exact wpAny_Name (wpAny_loadName_cell I.ok.kind hk hc hcell fin) hd
    · exact wpAny_Name (wpAny_loadName_free I.ok.kind hk hc hcell fin hcd) hd
theorem pe_int {i j pos} : PE X (.Constant (.int i) j pos) (tC (.int i)) := fun _ _ _ H _ I h => wpAny_Constant_int ⟨.int i, H, I.tok _, ⟨_, rfl⟩, h⟩
theorem pe_bl {b j pos} : PE X (.Constant (.bool b) j pos) (tC (.bl b)) := fun _ _ _ H _ I h => Constant_bool ⟨.bl b, H, I, rfl, h⟩
def Gl (X : Cx) (x : Str) : Prop := X.env.kindOf x = some .globalImplicit
theorem ld_glob {E : Value → Shared → Prop} {pins : List (Addr × Obj)} {s : Shared} {σ : St} {H : Hp} {x : Str} {u : Value} {pos : Pos} {Q : Value → Shared → Prop} (I : Inv X pins σ H s) (hg : Gl X x) (hm : X.mg x = some u) (h : Q u s)
    (hd : (x == ("__debug__" : Str)) = false := by decide) : wpAny (model X.prog X.w) X.A (eval (.Name x pos) X.env) Q E s :=
  Calls.Name_function_global I.ok.kind hg (Calls.loadGlobal_global (by rw [I.ok.glob]; exact I.mod.glob.keeps I.bk) hm h) hd
theorem ld_blt {E : Value → Shared → Prop} {pins : List (Addr × Obj)} {s : Shared} {σ : St} {H : Hp} {x : Str} {u : Value} {pos : Pos} {Q : Value → Shared → Prop} (I : Inv X pins σ H s) (hg : Gl X x) (hm : X.mg x = none) (hv : bootBuiltins x = some u) (h : Q u s)
    (hn : x ≠ "__name__" := by decide) (hd : (x == ("__debug__" : Str)) = false := by decide) : wpAny (model X.prog X.w) X.A (eval (.Name x pos) X.env) Q E s := by
  obtain ⟨mb, h1, h2⟩ := I.mod.blt
  exact Calls.Name_function_global I.ok.kind hg (Calls.loadGlobal_builtin (by rw [I.ok.glob]; exact I.mod.glob.keeps I.bk) hm (by rw [I.ok.blt]; exact h1.keeps I.bk) ((h2 x hn).trans hv) h) hd
theorem pe_glob {x : Str} {v : V} {u : Value} {pos : Pos} (hg : Gl X x) (hm : X.mg x = some u) (r : RelV v u) (hd : (x == ("__debug__" : Str)) = false := by decide) : PE X (.Name x pos) (tC v) :=
  fun _ _ _ H _ I h => ld_glob I hg hm ⟨v, H, I, r, h⟩ hd
def t2I (ta tb : TE) (k : Int → Int → Hp → Prop) : St → Hp → Prop := fun σ H => ta σ H fun x H1 => tb σ H1 fun y H2 => ∃ i j, x = .int i ∧ y = .int j ∧ k i j H2
variable {a b : Expr} {ta tb : TE} {pos : Pos}
def PC (X : Cx) (op : CmpOp) (a b : Expr) (t : TE) : Prop :=
  ∀ (pins : List (Addr × Obj)) (s : Shared) (σ : St) (H : Hp) (Q : VK), Inv X pins σ H s → t σ H Q →
    wpAny (model X.prog X.w) X.A (eval a X.env) (fun v s₁ => wpAny (model X.prog X.w) X.A (eval b X.env) (fun u s₂ => wpAny (model X.prog X.w) X.A (compareOp op v u) (EP X pins σ Q) X.xe s₂) X.xe s₁) X.xe s
theorem nobehind (b : Expr) {op : CmpOp} (h : op ≠ .In) (h2 : op ≠ .NotIn) : behindInMarks op b = false := by
  have e1 : (op == CmpOp.In) = false := by cases op <;> first | rfl | exact absurd rfl h
  have e2 : (op == CmpOp.NotIn) = false := by cases op <;> first | rfl | exact absurd rfl h2
  cases b <;> simp [behindInMarks, e1, e2]
def tCmp (p : Int → Int → Bool) (ta tb : TE) : TE := fun σ H Q => t2I ta tb (fun i j H2 => Q (.bl (p i j)) H2) σ H
abbrev tLt : TE → TE → TE := tCmp fun i j => decide (i < j)
abbrev tGt : TE → TE → TE := tCmp fun i j => decide (j < i)
abbrev tGe : TE → TE → TE := tCmp fun i j => decide (j ≤ i)
abbrev tEqI : TE → TE → TE := tCmp fun i j => decide (i = j)
theorem pc_int {op : CmpOp} {p : Int → Int → Bool} (ha : PE X a ta) (hb : PE X b tb)
    (rule : ∀ (i j : Int) (t u : Tok) (Q : Value → Shared → Prop) (s : Shared), Q (.bool (p i j)) s → wpAny (model X.prog X.w) X.A (compareOp op (.int i t) (.int j u)) Q X.xe s) : PC X op a b (tCmp p ta tb) := by
  intro pins s σ H Q I h
  refine bin ha hb I h fun v u s2 x y H2 I2 rx ry q => ?_
  obtain ⟨i, j, rfl, rfl, q⟩ := q
  obtain ⟨t, rfl⟩ := rx
  obtain ⟨t', rfl⟩ := ry
  exact rule i j t t' _ s2 ⟨.bl _, H2, I2, rfl, q⟩
theorem pc_lt (ha : PE X a ta) (hb : PE X b tb) : PC X .Lt a b (tLt ta tb) := pc_int ha hb fun _ _ _ _ _ _ h => lt_int h
theorem pc_gt (ha : PE X a ta) (hb : PE X b tb) : PC X .Gt a b (tGt ta tb) := pc_int ha hb fun _ _ _ _ _ _ h => gt_int h
theorem pc_ge (ha : PE X a ta) (hb : PE X b tb) : PC X .GtE a b (tGe ta tb) := pc_int ha hb fun _ _ _ _ _ _ h => ge_int h
theorem pc_eqI (ha : PE X a ta) (hb : PE X b tb) : PC X .Eq a b (tEqI ta tb) := pc_int ha hb fun _ _ _ _ _ _ h => eq_int (by rw [Bool.beq_eq_decide_eq]; exact h)
def tB (t : TE) : TT := fun σ H Q => t σ H fun x H1 => ∃ c, x = .bl c ∧ Q c H1
theorem pe_cmp {op : CmpOp} {t : TE} (h : PC X op a b t) (h1 : behindInMarks op b = false := by first | exact nobehind _ (by decide) (by decide) | rfl) : PE X (.Compare a [op] [b] pos) t := fun pins s σ H Q I hw => wpAny_Compare1 (h pins s σ H Q I hw) h1
theorem pt_cmp {op : CmpOp} {t : TE} (h : PC X op a b t) (h1 : behindInMarks op b = false := by first | exact nobehind _ (by decide) (by decide) | rfl) : PT X (.Compare a [op] [b] pos) (tB t) := by
  intro pins s σ H Q I hw
  refine wpAny_isTrue_Compare1 (thn (h pins s σ H _ I hw) fun v s1 h1 => thn h1 fun u s2 h2 => thn h2 fun c s3 ⟨x, H1, I1, r1, q1⟩ => ?_) h1
  obtain ⟨d, rfl, q⟩ := q1
  cases r1
  exact wpAny_truthy_bool ⟨H1, I1, q⟩
theorem pt_val {e : Expr} {t : TE} (h : PE X e t) (he : ∀ whole, isTrue e X.env whole = (do let v ← whole; standAt e.pos; holding [v] (truthy v)) := by intro _; rfl) : PT X e (tB t) := by
  intro pins s σ H Q I hw
  refine isTrue_plain (thn (h pins s σ H _ I hw) fun v s1 ⟨x, H1, I1, r1, q1⟩ => ?_) (he _)
  obtain ⟨d, rfl, q⟩ := q1
  cases r1
  exact wpAny_truthy_bool ⟨H1, I1, q⟩
variable {tA tB' : TT} {rest : List Expr}
def tAnd (t u : TT) : TT := fun σ H Q => t σ H fun c H1 => if c = true then u σ H1 Q else Q false H1
def tOr (t u : TT) : TT := fun σ H Q => t σ H fun c H1 => if c = true then Q true H1 else u σ H1 Q
def tNot (t : TT) : TT := fun σ H Q => t σ H fun c H1 => Q (!c) H1
theorem pw_and1 (ha : PT X a tA) : PW X (.BoolOp .And [a] pos) tA := by
  intro wh pins s σ H Q I h
  refine isTrue_and (thn (ha pins s σ H Q I h) fun c s1 e => ?_)
  cases c with
  | true => exact isTrue_and_nil e
  | false => exact e
theorem pw_or1 (ha : PT X a tA) : PW X (.BoolOp .Or [a] pos) tA := by
  intro wh pins s σ H Q I h
  refine isTrue_or (thn (ha pins s σ H Q I h) fun c s1 e => ?_)
  cases c with
  | false => exact isTrue_or_nil e
  | true => exact e
theorem pw_and (ha : PT X a tA) (hb : PW X (.BoolOp .And (b :: rest) pos) tB') : PW X (.BoolOp .And (a :: b :: rest) pos) (tAnd tA tB') := by
  intro wh pins s σ H Q I h
  refine isTrue_and (thn (ha pins s σ H _ I h) fun c s1 ⟨H1, I1, q1⟩ => ?_)
  cases c with
  | true => exact hb wh pins s1 σ H1 Q I1 q1
  | false => exact ⟨H1, I1, q1⟩
theorem pw_or (ha : PT X a tA) (hb : PW X (.BoolOp .Or (b :: rest) pos) tB') : PW X (.BoolOp .Or (a :: b :: rest) pos) (tOr tA tB') := by
  intro wh pins s σ H Q I h
  refine isTrue_or (thn (ha pins s σ H _ I h) fun c s1 ⟨H1, I1, q1⟩ => ?_)
  cases c with
  | true => exact ⟨H1, I1, q1⟩
  | false => exact hb wh pins s1 σ H1 Q I1 q1
theorem pt_not (ha : PT X a tA) : PT X (.UnaryOp .Not a pos) (tNot tA) := by
  intro pins s σ H Q I h
  exact isTrue_not (ha pins s σ H (fun c H1 => Q (!c) H1) I h)
def tNotV (ta : TE) : TE := fun σ H Q => ta σ H fun x H1 => ∃ c, x = .bl c ∧ Q (.bl (!c)) H1
theorem pe_not (ha : PE X a ta) : PE X (.UnaryOp .Not a pos) (tNotV ta) := by
  intro pins s σ H Q I h
  refine UnaryOp_ (thn (ha pins s σ H _ I h) fun v s1 ⟨x, H1, I1, r1, q1⟩ => ?_)
  obtain ⟨c, rfl, q1⟩ := q1
  cases r1
  exact not_of (wpAny_truthy_bool ⟨.bl (!c), H1, I1, rfl, q1⟩)
def tIf (t : TT) (ta tb : TE) : TE := fun σ H Q => t σ H fun c H1 => if c = true then ta σ H1 Q else tb σ H1 Q
theorem pe_ifExp {c : Expr} (hc : PT X c tA) (ha : PE X a ta) (hb : PE X b tb) : PE X (.IfExp c a b pos) (tIf tA ta tb) := by
  intro pins s σ H Q I h
  refine wpAny_IfExp (thn (hc pins s σ H _ I h) fun d s1 ⟨H1, I1, q1⟩ => ?_)
  cases d with
  | true => exact ha pins s1 σ H1 Q I1 q1
  | false => exact hb pins s1 σ H1 Q I1 q1
end
end L2
namespace L2
open PySem PySem.Spec PyProof.Rows
def SqL (K : PySem.W.Frag) (H : Hp) (a : Addr) (xs : List V) : Prop :=
  Rd H a (.lst xs) ∨
    ∃ (o : Obj) (its : Array Value) (n : Nat), K.lookup a = some o ∧ o.cls = .type "list" ∧ o.dict = none ∧ o.data = .seq its n ∧ its.size ≤ sizeLine ∧ Vals xs its.toList
def SqT (K : PySem.W.Frag) (H : Hp) (a : Addr) (xs : List V) : Prop :=
  Rd H a (.tup xs) ∨
    ∃ (o : Obj) (its : Array Value) (n : Nat), K.lookup a = some o ∧ o.cls = .type "tuple" ∧ o.data = .seq its n ∧ its.size ≤ sizeLine ∧ Vals xs its.toList
def absV : Value → Option V
  | .none => some .non
  | .bool b => some (.bl b)
  | .int i _ => some (.int i)
  | .str x _ => some (.str x)
  | .bytes b _ => some (.byt b)
  | .float b _ => some (.flt b)
  | .ref a => some (.ref a)
  | .type n => some (.ty n)
  | _ => none
theorem RelV.abs {x : V} {u : Value} (r : RelV x u) : absV u = some x := by
  cases x with
  | non => cases r; rfl
  | bl _ => cases r; rfl
  | int _ => obtain ⟨t, rfl⟩ := r; rfl
  | str _ => obtain ⟨t, rfl⟩ := r; rfl
  | byt _ => obtain ⟨t, rfl⟩ := r; rfl
  | flt _ => obtain ⟨t, rfl⟩ := r; rfl
  | ref _ => cases r; rfl
  | ty _ => cases r; rfl
theorem RelV.inj {x y : V} {u : Value} (r : RelV x u) (q : RelV y u) : x = y := Option.some.inj (r.abs.symm.trans q.abs)
theorem Vals.inj : ∀ {xs ys : List V} {us : List Value}, Vals xs us → Vals ys us → xs = ys
  | _, _, _, .nil, .nil => rfl
  | _, _, _, .cons r t, .cons r' t' => by rw [r.inj r', Vals.inj t t']
section
variable {X : Cx} {pins : List (Addr × Obj)} {σ : St} {H : Hp} {s : Shared} {a : Addr} {xs ys : List V}
theorem SqL.of {K : PySem.W.Frag} (h : H a = some (.lst xs)) : SqL K H a xs := .inl (.inl h)
theorem SqT.of {K : PySem.W.Frag} (h : H a = some (.tup xs)) : SqT K H a xs := .inl (.inl h)
theorem Inv.list (I : Inv X pins σ H s) (h : SqL X.K H a xs) : ∃ its : List Value, Vals xs its ∧ PlainL s.heap a its.toArray ∧ xs.length ≤ sizeLine := by
  rcases h with h | ⟨o, its, n, hk, hc, hd, hs, hz, r⟩
  · obtain ⟨z, its, n, r, e⟩ := h.ok I.hok
    exact ⟨its, r, ⟨_, n, e, rfl, rfl, rfl⟩, z⟩
  · refine ⟨its.toList, r, ⟨o, n, I.kIn a o hk, hc, hd, by simpa using hs⟩, ?_⟩
    have e := r.length
    simp only [Array.length_toList] at e
    omega
theorem Inv.tuple (I : Inv X pins σ H s) (h : SqT X.K H a xs) : ∃ its : List Value, Vals xs its ∧ IsTup s.heap a its.toArray ∧ xs.length ≤ sizeLine := by
  rcases h with h | ⟨o, its, n, hk, hc, hs, hz, r⟩
  · obtain ⟨z, its, r, p⟩ := h.ok I.hok
    exact ⟨its, r, p, z⟩
  · refine ⟨its.toList, r, ⟨o, I.kIn a o hk, hc, n, by simpa using hs⟩, ?_⟩
    have e := r.length
    simp only [Array.length_toList] at e
    omega
theorem Inv.list_inj (I : Inv X pins σ H s) (h : SqL X.K H a xs) (h' : SqL X.K H a ys) : xs = ys := by
  obtain ⟨its, r, ⟨o, n, e, _, _, d⟩, _⟩ := I.list h
  obtain ⟨its', r', ⟨o', n', e', _, _, d'⟩, _⟩ := I.list h'
  rw [e] at e'; cases e'
  rw [d] at d'
  injection d' with d1 _
  have : its = its' := by simpa using congrArg Array.toList d1
  subst this
  exact r.inj r'
end
abbrev Cx.wish (X : Cx) (E : Value → Shared → Prop) : Cx := { X with xe := E }
abbrev Cx.nox (X : Cx) : Cx := X.wish fun _ _ => False
theorem Cx.Ok.wish {X : Cx} (ok : X.Ok) (E : Value → Shared → Prop) : (X.wish E).Ok :=
  ⟨ok.mod, ok.kind, ok.glob, ok.blt, ok.above, ok.inj, ok.has, ok.cab, ok.hd, ok.frames, ok.stk, ok.exf, ok.bs, ok.bsz, ok.noex, ok.exfs, ok.funs, ok.frf⟩
theorem Cx.Ok.unwish {X : Cx} {E : Value → Shared → Prop} (ok : (X.wish E).Ok) : X.Ok :=
  ⟨ok.mod, ok.kind, ok.glob, ok.blt, ok.above, ok.inj, ok.has, ok.cab, ok.hd, ok.frames, ok.stk, ok.exf, ok.bs, ok.bsz, ok.noex, ok.exfs, ok.funs, ok.frf⟩
section
variable {X : Cx} {pins : List (Addr × Obj)} {σ : St} {H : Hp} {s : Shared} {E : Value → Shared → Prop}
theorem Inv.wish (I : Inv X pins σ H s) (E : Value → Shared → Prop) : Inv (X.wish E) pins σ H s := ⟨I.ok.wish E, I.os, I.bare, I.base, I.loc, I.cell, I.free, I.freeC, I.pin, I.hok, I.len⟩
theorem Inv.unwish (I : Inv (X.wish E) pins σ H s) : Inv X pins σ H s := ⟨I.ok.unwish, I.os, I.bare, I.base, I.loc, I.cell, I.free, I.freeC, I.pin, I.hok, I.len⟩
theorem SP.unwish {D : Ends} {f : Flow} {s' : Shared} (h : SP (X.wish E) pins D f s') : SP X pins D f s' := by
  cases f with
  | next => obtain ⟨σ', H', I, q⟩ := h; exact ⟨σ', H', I.unwish, q⟩
  | brk => obtain ⟨σ', H', I, q⟩ := h; exact ⟨σ', H', I.unwish, q⟩
  | cont => obtain ⟨σ', H', I, q⟩ := h; exact ⟨σ', H', I.unwish, q⟩
  | ret u => obtain ⟨v, σ', H', I, r, q⟩ := h; exact ⟨v, σ', H', I.unwish, r, q⟩
theorem PE.nox {e : Expr} {t : TE} (h : PE X.nox e t) : PE X e t := fun pins s σ H Q I hw =>
  wpAny_mono (h pins s σ H Q (I.wish _) hw) (fun _ _ ⟨v, H', I', r, q⟩ => ⟨v, H', I'.unwish, r, q⟩) fun _ _ z => False.elim z
theorem PT.nox {e : Expr} {t : TT} (h : PT X.nox e t) : PT X e t := fun pins s σ H Q I hw =>
  wpAny_mono (h pins s σ H Q (I.wish _) hw) (fun _ _ ⟨H', I', q⟩ => ⟨H', I'.unwish, q⟩) fun _ _ z => False.elim z
theorem PSs.nox {st : List Stmt} {t : TS} (h : PSs X.nox st t) : PSs X st t := fun pins s σ H D I hw =>
  wpAny_mono (h pins s σ H D (I.wish _) hw) (fun _ _ q => q.unwish) fun _ _ z => False.elim z
end
section
variable {X : Cx} {st : Stmt} {rest : List Stmt} {t u : TS} {e : Expr} {te : TE} {pos : Pos}
def tNext : TS := fun D σ H => D.nx σ H
def tSeq (t u : TS) : TS := fun D σ H => t { D with nx := u D } σ H
theorem pss_nil : PSs X [] tNext := fun _ _ σ H _ I h => wpAny_execs_nil ⟨σ, H, I, h⟩
theorem pss_cons (h1 : PS X st t) (h2 : PSs X rest u) : PSs X (st :: rest) (tSeq t u) := by
  intro pins s σ H D I h
  refine wpAny_execs_cons (thn (h1 pins s σ H { D with nx := u D } I h) fun f s1 q => ?_)
  cases f with
  | next =>
    obtain ⟨σ', H', I', q⟩ := q
    exact h2 pins s1 σ' H' D I' q
  | ret v => exact q
  | brk => exact q
  | cont => exact q
theorem pss_one (h1 : PS X st t) : PSs X [st] t := by
  intro pins s σ H D I h
  refine wpAny_execs_cons (thn (h1 pins s σ H D I h) fun f s1 q => ?_)
  cases f with
  | next => exact wpAny_execs_nil q
  | ret v => exact q
  | brk => exact q
  | cont => exact q
theorem Inv.quiet {pins : List (Addr × Obj)} {σ : St} {H : Hp} {s : Shared} (I : Inv X pins σ H s) : interactive X.env = false := by simp [interactive, I.ok.kind]
def tDrop (te : TE) : TS := fun D σ H => te σ H fun _ H1 => D.nx σ H1
theorem ps_expr (he : PE X e te) (hs : swapsWith e none pos.line X.env = pure false := by rfl) : PS X (.Expr e pos) (tDrop te) := by
  intro pins s σ H D I h
  exact wpAny_Expr_any (thn (he pins s σ H _ I h) fun v s1 ⟨x, H1, I1, r1, q1⟩ => ⟨σ, H1, I1, q1⟩) I.quiet hs
def tRet (te : TE) : TS := fun D σ H => te σ H D.rt
theorem ps_ret (he : PE X e te) : PS X (.Return (some e) pos) (tRet te) := by
  intro pins s σ H D I h
  exact wpAny_Return_some (thn (he pins s σ H _ I h) fun v s1 ⟨x, H1, I1, r1, q1⟩ => ⟨x, σ, H1, I1, r1, q1⟩)
def tIfS (c : TT) (t u : TS) : TS := fun D σ H => c σ H fun b H1 => if b = true then t D σ H1 else u D σ H1
theorem ps_if {c : Expr} {a b : List Stmt} {tc : TT} (hc : PT X c tc) (ha : PSs X a t) (hb : PSs X b u) : PS X (.If c a b pos) (tIfS tc t u) := by
  intro pins s σ H D I h
  refine wpAny_If (thn (hc pins s σ H _ I h) fun d s1 ⟨H1, I1, q1⟩ => ?_)
  cases d with
  | true => exact ha pins s1 σ H1 D I1 q1
  | false => exact hb pins s1 σ H1 D I1 q1
end
abbrev TG := V → St → Hp → (St → Hp → Prop) → Prop
abbrev TGs := List V → St → Hp → (St → Hp → Prop) → Prop
def PG (X : Cx) (target : Expr) (t : TG) : Prop :=
  ∀ (pins : List (Addr × Obj)) (s : Shared) (σ : St) (H : Hp) (v : V) (u : Value) (Q : St → Hp → Prop), Inv X pins σ H s → RelV v u → t v σ H Q →
    wpAny (model X.prog X.w) X.A (assign target X.env u) (fun _ s' => ∃ σ' H', Inv X pins σ' H' s' ∧ Q σ' H') X.xe s
def PGs (X : Cx) (ts : List Expr) (t : TGs) : Prop :=
  ∀ (pins : List (Addr × Obj)) (s : Shared) (σ : St) (H : Hp) (vs : List V) (us : List Value) (Q : St → Hp → Prop), Inv X pins σ H s → Vals vs us → t vs σ H Q →
    wpAny (model X.prog X.w) X.A (assignInOrder ((assignEach ts X.env).map (·.2)) us) (fun _ s' => ∃ σ' H', Inv X pins σ' H' s' ∧ Q σ' H') X.xe s
abbrev TSet := V → V → V → Hp → (Hp → Prop) → Prop
def PSet (X : Cx) (t : TSet) : Prop :=
  ∀ (pins : List (Addr × Obj)) (s : Shared) (σ : St) (H : Hp) (o i v : V) (ov iv u : Value) (Q : Hp → Prop), Inv X pins σ H s → RelV o ov → RelV i iv → RelV v u → t o i v H Q →
    wpAny (model X.prog X.w) X.A (setItem ov iv u) (fun _ s' => ∃ H', Inv X pins σ H' s' ∧ Q H') X.xe s
section
variable {X : Cx} {pos : Pos}
def gName (i : Nat) : TG := fun v σ H Q => Q (σ.set i (some v)) H
theorem pg_name {i : Nat} {x : Str} (hN : X.N.Nodup) (hi : X.N[i]? = some x) (hx : Loc X.env.scope x) (hf : X.fn x = true ∨ X.env.scope.names.lookup x = some .local := by first | exact .inl rfl | exact .inr rfl | assumption) : PG X (.Name x pos) (gName i) := by
  intro pins s σ H v u Q I r h
  exact wpAny_assign_Name (store_ok I hN hi hx r (fun s' I' => ⟨_, H, I', h⟩) hf)
def gNil : TGs := fun vs σ H Q => vs = [] ∧ Q σ H
def gCons (t : TG) (u : TGs) : TGs := fun vs σ H Q => ∃ v r, vs = v :: r ∧ t v σ H fun σ' H' => u r σ' H' Q
theorem pgs_nil : PGs X [] gNil := by
  intro pins s σ H vs us Q I r h
  obtain ⟨e, h⟩ := h
  subst e
  cases r
  exact assignInOrder_nil ⟨σ, H, I, h⟩
theorem pgs_cons {e : Expr} {es : List Expr} {t : TG} {u : TGs} (h1 : PG X e t) (h2 : PGs X es u)
    (hs : (assignEach (e :: es) X.env).map (·.2) = assign e X.env :: (assignEach es X.env).map (·.2) := by rfl) : PGs X (e :: es) (gCons t u) := by
  intro pins s σ H vs us Q I r h
  obtain ⟨v, vr, e1, h⟩ := h
  subst e1
  cases r with
  | cons r rr =>
    rw [hs]
    refine assignInOrder_cons (thn (h1 pins s σ H _ _ _ I r h) fun _ s1 ⟨σ1, H1, I1, q1⟩ => ?_)
    exact h2 pins s1 σ1 H1 _ _ Q I1 rr q1
def gTup (K : PySem.W.Frag) (n : Nat) (t : TGs) : TG := fun v σ H Q => ∃ a xs, v = .ref a ∧ SqT K H a xs ∧ xs.length = n ∧ t xs σ H Q
theorem pg_tup {es : List Expr} {k : Nat} {t : TGs} {n : Nat} (hc : X.calm = true) (h : PGs X es t)
    (hn : (assignEach es X.env).length = n := by rfl) (hst : (assignEach es X.env).findIdx? (·.1) = none := by rfl) : PG X (.Tuple es k pos) (gTup X.K n t) := by
  intro pins s σ H v u Q I r hw
  obtain ⟨a, xs, e1, hq, hl, hw⟩ := hw
  subst e1
  cases r
  obtain ⟨its, rv, ht, hz⟩ := I.tuple hq
  refine assign_Tuple_tuple (I.ok.hd hc) ht (by simp [hn, ← hl, rv.length]) hst fun h' hx => ?_
  have I1 : Inv X pins σ H { s with heap := h' } := I.kept (t' := s.toks) fun b o e => hx b o (Nat.ne_of_lt (Heap.lt_size e)) e
  exact h pins _ σ H xs _ Q I1 (by simpa using rv) hw
def gSub (to ti : TE) (t : TSet) : TG := fun v σ H Q => to σ H fun o H1 => ti σ H1 fun i H2 => t o i v H2 fun H3 => Q σ H3
theorem pg_sub {o i : Expr} {to ti : TE} {t : TSet} (ho : PE X o to) (hi : PE X i ti) (hs : PSet X t)
    (ha : ∀ v, assign (.Subscript o i pos) X.env v = (do
      let ov ← holding [v] (eval o X.env)
      let iv ← holding [v, ov] (eval i X.env)
      standAt pos
      holding [v, ov, iv] (setItem ov iv v)
      release [v, ov, iv] []) := by intro _; rfl) : PG X (.Subscript o i pos) (gSub to ti t) := by
  intro pins s σ H v u Q I r h
  rw [ha]
  refine wpAny_bind (wpAny_holding (thn (ho pins s σ H _ I h) fun ov s1 ⟨x, H1, I1, r1, q1⟩ => ?_))
  refine wpAny_bind (wpAny_holding (thn (hi pins s1 σ H1 _ I1 q1) fun iv s2 ⟨y, H2, I2, r2, q2⟩ => ?_))
  refine wpAny_bind (wpAny_standAt (wpAny_bind (wpAny_holding (thn (hs pins s2 σ H2 x y v ov iv u _ I2 r1 r2 r q2) fun _ s3 ⟨H3, I3, q3⟩ => ?_))))
  exact wpAny_release ⟨σ, H3, I3, q3⟩
def tAsg (te : TE) (g : TG) : TS := fun D σ H => te σ H fun x H1 => g x σ H1 D.nx
theorem ps_asg {tg e : Expr} {te : TE} {g : TG} (he : PE X e te) (hg : PG X tg g) (hs : swapsWithSole [tg] e pos.line X.env = pure false := by rfl) (hw : swappedStores [tg] e X.env = pure none := by rfl)
    (h1 : (assignEach [tg] X.env).map (·.2) = [assign tg X.env] := by rfl) : PS X (.Assign [tg] e pos) (tAsg te g) := by
  intro pins s σ H D I h
  refine wpAny_Assign_stores (thn (he pins s σ H _ I h) fun v s1 ⟨x, H1, I1, r1, q1⟩ => ?_) hs hw
  rw [h1]
  exact thn (hg pins s1 σ H1 x v _ I1 r1 q1) fun _ s2 q => q
theorem ps_set {i : Nat} {x : Str} {e : Expr} {te : TE} {pos' : Pos} (hN : X.N.Nodup) (hi : X.N[i]? = some x) (hx : Loc X.env.scope x) (he : PE X e te) (hs : swapsWith e (some (.Name x pos')) pos.line X.env = pure false := by rfl) (hf : X.fn x = true ∨ X.env.scope.names.lookup x = some .local := by first | exact .inl rfl | exact .inr rfl | assumption) :
    PS X (.Assign [.Name x pos'] e pos) (tAsg te (gName i)) := by
  intro pins s σ H D I h
  refine wpAny_Assign_Name (thn (he pins s σ H _ I h) fun v s1 ⟨y, H1, I1, r1, q1⟩ => ?_) hs
  exact store_ok I1 hN hi hx r1 (fun s2 I2 => ⟨_, H1, I2, q1⟩) hf
end
section
variable {X : Cx} {pos : Pos}
def tWhile (c : TT) (tb : TS) : TS := fun D σ H => ∃ W : Nat → St → Hp → Prop, (∃ m, W m σ H) ∧ ∀ m σ H, W m σ H →
  c σ H fun b H1 => if b = true then ∃ N : St → Hp → Prop, (∀ σ' H', N σ' H' → ∃ m', m' < m ∧ W m' σ' H') ∧ tb { D with nx := N, ct := N, bk := D.nx } σ H1 else D.nx σ H1
theorem ps_while {c : Expr} {body : List Stmt} {tc : TT} {tb : TS} (hp : PassesOwn (model X.prog X.w) X.A X.env X.xe) (hc : PT X c tc) (hb : PSs X body tb) : PS X (.While c body [] pos) (tWhile tc tb) := by
  intro pins s σ H D I h
  obtain ⟨W, ⟨m0, w0⟩, turn⟩ := h
  refine wpAny_While (codeAny_whileLoop (fun n s' => ∃ σ' H', Inv X pins σ' H' s' ∧ W n σ' H') ?_ m0 ⟨σ, H, I, w0⟩)
  rintro n s1 ⟨σ1, H1, I1, w1⟩
  refine wpAny_passesOwn hp (thn (hc pins s1 σ1 H1 _ I1 (turn n σ1 H1 w1)) fun b s2 ⟨H2, I2, q2⟩ => ?_)
  cases b with
  | true =>
    obtain ⟨N, hN, q2⟩ := q2
    rw [if_pos rfl]
    refine wpAny_passesOwn hp (thn (hb pins s2 σ1 H2 _ I2 q2) fun f s3 q3 => ?_)
    cases f with
    | next =>
      obtain ⟨σ3, H3, I3, n3⟩ := q3
      obtain ⟨m', hm, w3⟩ := hN σ3 H3 n3
      exact ⟨m', hm, σ3, H3, I3, w3⟩
    | cont =>
      obtain ⟨σ3, H3, I3, n3⟩ := q3
      obtain ⟨m', hm, w3⟩ := hN σ3 H3 n3
      exact ⟨m', hm, σ3, H3, I3, w3⟩
    | brk => exact q3
    | ret v => exact q3
  | false =>
    rw [if_neg Bool.false_ne_true]
    exact wpAny_execs_nil ⟨σ1, H2, I2, q2⟩
end
structure It where
  go : Nat → Hp → Prop
  yld : Nat → Hp → V → Hp → Prop
  stop : Nat → Hp → Prop
def FpOk (X : Cx) (pins : List (Addr × Obj)) (H : Hp) (b : Addr) : Prop :=
  H b = none ∧ b ≠ X.env.locals ∧ b ∉ X.fs ∧ (b ∈ X.ex ∨ X.s_0.heap.objs.size ≤ b) ∧ (∀ x c, X.env.cells.lookup x = some c → c ≠ b) ∧ ∀ p ∈ X.pn ++ pins, p.1 ≠ b
theorem Inv.fpOk {X : Cx} {pins : List (Addr × Obj)} {σ : St} {H H' : Hp} {s : Shared} {b : Addr} (I : Inv X pins σ H s) (hb : s.heap.objs.size ≤ b) (hn : H' b = none) : FpOk X pins H' b := by
  refine ⟨hn, Nat.ne_of_gt (Nat.lt_of_lt_of_le I.lt hb), I.nofs hb, .inr (Nat.le_trans I.sz hb), fun x c e z => ?_, fun p hp z => ?_⟩
  · obtain ⟨v, q⟩ := I.cell x c e
    exact absurd (Nat.lt_of_lt_of_le q.lt (by rw [z]; exact hb)) (Nat.lt_irrefl _)
  · exact absurd (Nat.lt_of_lt_of_le (Heap.lt_size (I.pin p hp).1) (by rw [z]; exact hb)) (Nat.lt_irrefl _)
structure Turn (P : Program) (w : World) (K : PySem.W.Frag) (tg : Expr) (J : It) (fp : List Addr) (it : Addr) (tn : Nat → Heap → Prop) : Prop where
  mem : it ∈ fp
  obj : ∀ i h, tn i h → ∀ b ∈ fp, ∃ o, h.get? b = some o ∧ ∀ v, o.data ≠ .cell v
  keep : ∀ i h h', tn i h → (∀ b ∈ fp, ∀ o, h.get? b = some o → h'.get? b = some o) → tn i h'
  item : ∀ (X : Cx), X.prog = P → X.w = w → X.K = K → X.calm = true → ∀ (i : Nat) (pins : List (Addr × Obj)) (s : Shared) (σ : St) (H : Hp) (E : Value → Shared → Prop), Inv X pins σ H s → (∀ b ∈ fp, FpOk X pins H b) → tn i s.heap → J.go i H →
    wpAny (model P w) X.A (pyNext (.ref it)) (fun r s1 => ∃ u, r = some u ∧
      wpAny (model P w) X.A (letOwnedTupleGo tg (.ref it) u) (fun _ s2 => ∃ x H', Inv X pins σ H' s2 ∧ RelV x u ∧ J.yld i H x H' ∧ tn (i + 1) s2.heap ∧ ∀ b ∈ fp, H' b = none) E s1) E s
  done : ∀ (X : Cx), X.prog = P → X.w = w → X.K = K → X.calm = true → ∀ (i : Nat) (pins : List (Addr × Obj)) (s : Shared) (σ : St) (H : Hp) (E : Value → Shared → Prop), Inv X pins σ H s → (∀ b ∈ fp, FpOk X pins H b) → tn i s.heap → J.stop i H →
    wpAny (model P w) X.A (pyNext (.ref it)) (fun r s1 => r = none ∧ Inv X pins σ H s1) E s
  self : ∀ (A : Around) (i : Nat) (s : Shared) (Q : Value → Shared → Prop) (E : Value → Shared → Prop), tn i s.heap → Q (.ref it) s → wpAny (model P w) A (pyIter (.ref it)) Q E s
abbrev TI := St → Hp → (It → Hp → Prop) → Prop
def PIE (X : Cx) (pins : List (Addr × Obj)) (σ : St) (tg : Expr) (R : It → Hp → Prop) (itv : Value) (s2 : Shared) : Prop :=
  ∃ (it : Addr) (fp : List Addr) (tn : Nat → Heap → Prop) (J : It) (H' : Hp), itv = .ref it ∧ Inv X pins σ H' s2 ∧ Turn X.prog X.w X.K tg J fp it tn ∧ tn 0 s2.heap ∧ (∀ b ∈ fp, FpOk X pins H' b) ∧ R J H'
def PI (X : Cx) (tg iter : Expr) (wi : TI) : Prop :=
  ∀ (pins : List (Addr × Obj)) (s : Shared) (σ : St) (H : Hp) (R : It → Hp → Prop), Inv X pins σ H s → wi σ H R →
    wpAny (model X.prog X.w) X.A (eval iter X.env) (fun v s1 => wpAny (model X.prog X.w) X.A (pyIter v) (PIE X pins σ tg R) X.xe s1) X.xe s
theorem go_of {M : Model} {A : Around} {E : Value → Shared → Prop} {s : Shared} {tg : Expr} {it : Addr} {u : Value} {o : Obj} {n : String} {vs : Array Value} {Q : Unit → Shared → Prop} (ho : s.heap.get? it = some o) (hc : o.cls = .type n) (hd : o.data = .fields vs)
    (hn : ["enumerate", "zip", "dict_itemiterator", "dict_reverseitemiterator", "odict_iterator", "itertools.zip_longest", "itertools.pairwise"].contains n = false) (hQ : Q () s) : wpAny M A (letOwnedTupleGo tg (.ref it) u) Q E s := by
  unfold letOwnedTupleGo
  cases tg <;> first
    | exact wpAny_pure hQ
    | (cases u <;> first
        | exact wpAny_pure hQ
        | (refine wpAny_bind (wpAny_load ho ?_)
           rw [hc, hd]
           show wpAny M A (if (["enumerate", "zip", "dict_itemiterator", "dict_reverseitemiterator", "odict_iterator", "itertools.zip_longest", "itertools.pairwise"].contains n && vs[0]? == some (rawInt _)) = true then _ else _) Q E s
           rw [if_neg (by intro h; rw [hn, Bool.false_and] at h; cases h)]
           exact wpAny_pure hQ))
def Itl (K : PySem.W.Frag) (a : Addr) : It :=
  ⟨fun i H => ∃ xs x, SqL K H a xs ∧ xs[i]? = some x, fun i H x H' => H' = H ∧ ∀ xs, SqL K H a xs → xs[i]? = some x, fun i H => ∃ xs, SqL K H a xs ∧ xs.length ≤ i⟩
def Itr (lo : Int) (n : Nat) : It := ⟨fun i _ => i < n, fun i H x H' => H' = H ∧ x = .int (lo + i), fun i _ => n ≤ i⟩
theorem turn_list {P : Program} {w : World} {K : PySem.W.Frag} {tg : Expr} (a it : Addr) : Turn P w K tg (Itl K a) [it] it (fun i h => h.IsListIter it a i) where
  mem := by simp
  obj := fun i h st b hb => by
    have e : b = it := by simpa using hb
    subst e
    obtain ⟨o, e, c, d⟩ := st
    exact ⟨o, e, fun v z => by rw [d] at z; cases z⟩
  keep := fun i h h' st k => st.at fun o e => k it (by simp) o e
  item := by
    intro X hP hw hK hc i pins s σ H E I hf st hg
    subst hP hw hK
    obtain ⟨xs, x, hq, hx⟩ := hg
    obtain ⟨its, rv, p, hz⟩ := I.list hq
    obtain ⟨u, hu, ru⟩ := rv.get hx
    obtain ⟨f0, f1, f2, f3, f4, f5⟩ := hf it (by simp)
    refine wpAny_pyNext_list_item st p.isList (x := u) (by simpa using hu) fun h' st' sb => ?_
    have I1 : Inv X pins σ H { s with heap := h' } := I.turned (t' := s.toks) (fun b o hb e => (sb.2 b hb).trans e) f0 f1 f3 f4 f5
    obtain ⟨o, e, c, d⟩ := id st'
    exact ⟨u, rfl, go_of (s := { s with heap := h' }) e c d (by decide) ⟨x, H, I1, ru, ⟨rfl, fun ys hy => by rw [I.list_inj hy hq]; exact hx⟩, st', fun b hb => (hf b hb).1⟩⟩
  done := by
    intro X hP hw hK hc i pins s σ H E I hf st hg
    subst hP hw hK
    obtain ⟨xs, hq, hx⟩ := hg
    obtain ⟨its, rv, p, hz⟩ := I.list hq
    obtain ⟨f0, f1, f2, f3, f4, f5⟩ := hf it (by simp)
    have hl := rv.length
    exact wpAny_pyNext_list_end (I.ok.hd hc) st p.isList (by simp; omega) fun h' eb => ⟨rfl, I.turned (t' := s.toks) (fun b o hb e => eb b o hb e) f0 f1 f3 f4 f5⟩
  self := fun _ _ _ _ _ st h => wpAny_pyIter_listiter st h
theorem turn_range {P : Program} {w : World} {K : PySem.W.Frag} {tg : Expr} (it : Addr) (lo : Int) (n : Nat) : Turn P w K tg (Itr lo n) [it] it (fun i h => IsRangeIter h it (lo + (i : Nat) * 1) ((n : Int) - (i : Nat)) 1) where
  mem := by simp
  obj := fun i h st b hb => by
    have e : b = it := by simpa using hb
    subst e
    exact ⟨_, st, fun v z => by
      have z' : Data.fields _ = Data.cell v := z
      cases z'⟩
  keep := fun i h h' st k => k it (by simp) _ st
  item := by
    intro X hP hw hK hc i pins s σ H E I hf st hg
    subst hP hw hK
    obtain ⟨f0, f1, f2, f3, f4, f5⟩ := hf it (by simp)
    have W := Walks.range (prog := X.prog) (w := X.w) (I.ok.hd hc) it lo 1 n
    refine W.item i s _ _ hg st fun v h' tk hv st' kk => ?_
    obtain ⟨t, rfl⟩ := hv
    have I1 : Inv X pins σ H { s with heap := h', toks := tk } := I.turned (fun b o hb e => kk b o (by simpa using hb) e) f0 f1 f3 f4 f5
    refine ⟨_, rfl, go_of (s := { s with heap := h', toks := tk }) (n := "range_iterator") st' rfl rfl (by decide) ⟨.int (lo + i), H, I1, ⟨t, ?_⟩, ⟨rfl, rfl⟩, st', fun b hb => (hf b hb).1⟩⟩
    rw [Int.mul_one]
  done := by
    intro X hP hw hK hc i pins s σ H E I hf st hg
    subst hP hw hK
    obtain ⟨f0, f1, f2, f3, f4, f5⟩ := hf it (by simp)
    exact wpAny_pyNext_range_end (I.ok.hd hc) st (by have : n ≤ i := hg; omega) fun h' eb => ⟨rfl, I.turned (t' := s.toks) (fun b o hb e => eb b o hb e) f0 f1 f3 f4 f5⟩
  self := fun _ _ _ _ _ st h => wpAny_pyIter_rangeiter st h
end L2
namespace L2
open PySem PySem.Spec PyProof.Rows
section
variable {X : Cx} {tg : Expr}
def iList (K : PySem.W.Frag) (tl : TE) : TI := fun σ H R => tl σ H fun x H1 => ∃ a, x = .ref a ∧ (∃ xs, SqL K H1 a xs) ∧ R (Itl K a) H1
theorem pi_list {l : Expr} {tl : TE} (hl : PE X l tl) : PI X tg l (iList X.K tl) := by
  intro pins s σ H R I h
  refine thn (hl pins s σ H _ I h) fun v s1 ⟨x, H1, I1, r1, q1⟩ => ?_
  obtain ⟨a, e, ⟨xs, hq⟩, q⟩ := q1
  subst e
  cases r1
  obtain ⟨its, rv, p, hz⟩ := I1.list hq
  refine wpAny_pyIter_list p.isList ?_
  refine ⟨s1.heap.objs.size, [s1.heap.objs.size], _, _, H1, rfl, I1.kept (t' := s1.toks) fun b o e => Heap.get?_push_of_some _ e, turn_list a _, ⟨_, Heap.get?_push_size _ rfl, rfl, rfl⟩, fun b hb => ?_, q⟩
  have e : b = s1.heap.objs.size := by simpa using hb
  subst e
  exact I1.fpOk (Nat.le_refl _) (I1.hok.fresh (Nat.le_refl _))
theorem range_it {pins : List (Addr × Obj)} {σ : St} {H : Hp} {s : Shared} {R : It → Hp → Prop} {E : Value → Shared → Prop} {lo hi : Int} {t u v : Tok} {tk : Nat} (I : Inv X pins σ H s) (h1 : -(2 ^ 62) ≤ lo) (h2 : lo < 2 ^ 62) (h3 : -(2 ^ 62) ≤ hi) (h4 : hi < 2 ^ 62)
    (q : R (Itr lo (hi - lo).toNat) H) : wpAny (model X.prog X.w) X.A (pyIter (.ref s.heap.objs.size)) (PIE X pins σ tg R) E { s with heap := s.heap.push { cls := .type "range", data := .fields #[.int lo t, .int hi u, .int 1 v] }, toks := tk } := by
  refine wpAny_pyIter_range (IsRange.new ..) (small_one h1 h2 h3 h4) ?_
  have I1 : Inv X pins σ H { s with heap := s.heap.push { cls := .type "range", data := .fields #[.int lo t, .int hi u, .int 1 v] }, toks := tk } := I.kept fun b o e => Heap.get?_push_of_some _ e
  refine ⟨(s.heap.push { cls := .type "range", data := .fields #[.int lo t, .int hi u, .int 1 v] }).objs.size, [(s.heap.push { cls := .type "range", data := .fields #[.int lo t, .int hi u, .int 1 v] }).objs.size], _, _, H, rfl,
    I1.kept (t' := tk) fun b o e => Heap.get?_push_of_some _ e, turn_range _ lo (hi - lo).toNat, ?_, fun b hb => ?_, q⟩
  · have e1 : lo + ((0 : Nat) : Int) * 1 = lo := by simp
    have e2 : (((hi - lo).toNat : Nat) : Int) - ((0 : Nat) : Int) = Builtin.Range.rangeSize lo hi 1 := by rw [rangeSize_one]; split <;> omega
    show IsRangeIter _ _ (lo + ((0 : Nat) : Int) * 1) ((((hi - lo).toNat : Nat) : Int) - ((0 : Nat) : Int)) 1
    rw [e1, e2]
    exact Heap.get?_push_size _ rfl
  · have e : b = (s.heap.push { cls := .type "range", data := .fields #[.int lo t, .int hi u, .int 1 v] }).objs.size := by simpa using hb
    subst e
    exact I1.fpOk (Nat.le_refl _) (I1.hok.fresh (Nat.le_refl _))
def iRng1 (ta : TA) : TI := fun σ H R => ta σ H fun vs H1 => ∃ j : Int, vs = [.int j] ∧ -(2 ^ 62) ≤ j ∧ j < 2 ^ 62 ∧ R (Itr 0 j.toNat) H1
theorem pi_range1 {a : Expr} {ta : TA} {p pos : Pos} (hg : Gl X "range") (hm : X.mg "range" = none) (ha : PA X [a] ta) (hs : starEach [a] X.env = [(false, eval a X.env)] := by rfl) : PI X tg (.Call (.Name "range" p) [a] [] pos) (iRng1 ta) := by
  intro pins s σ H R I h
  refine Call_ (ld_blt I hg hm boot_range (PyProof.Rows.callWith_type1 (thn (ha pos pins s σ H _ I h) fun us s1 ⟨vs, H1, I1, r1, q1⟩ => ?_) hs rfl))
  obtain ⟨j, e, q1, q2, q⟩ := q1
  subst e
  cases r1 with
  | cons r rr =>
    cases rr
    obtain ⟨t, rfl⟩ := r
    exact call_range_1 (range_it I1 (by omega) (by omega) q1 q2 (by simpa using q))
def tFor (wi : TI) (g : TG) (tb : TS) : TS := fun D σ H => wi σ H fun J H1 => ∃ W : Nat → Nat → St → Hp → Prop, (∃ m, W 0 m σ H1) ∧ ∀ i m σ H, W i m σ H →
  (J.stop i H ∧ D.nx σ H) ∨ (J.go i H ∧ ∃ N : St → Hp → Prop, (∀ σ' H', N σ' H' → ∃ m', m' < m ∧ W (i + 1) m' σ' H') ∧ ∀ x H', J.yld i H x H' → g x σ H' fun σ2 H2 => tb { D with nx := N, ct := N, bk := D.nx } σ2 H2)
def pinsAt (fp : List Addr) (h : Heap) : List (Addr × Obj) := fp.filterMap fun b => (h.get? b).map fun o => (b, o)
theorem mem_pinsAt {fp : List Addr} {h : Heap} {b : Addr} {o : Obj} (hb : b ∈ fp) (e : h.get? b = some o) : (b, o) ∈ pinsAt fp h := List.mem_filterMap.mpr ⟨b, hb, by rw [e]; rfl⟩
theorem of_pinsAt {fp : List Addr} {h : Heap} {p : Addr × Obj} (hp : p ∈ pinsAt fp h) : p.1 ∈ fp ∧ h.get? p.1 = some p.2 := by
  obtain ⟨b, hb, e⟩ := List.mem_filterMap.mp hp
  cases q : h.get? b with
  | none => rw [q] at e; cases e
  | some o =>
    rw [q] at e
    have e' : (b, o) = p := Option.some.inj e
    subst e'
    exact ⟨hb, q⟩
theorem Inv.pinned {pins : List (Addr × Obj)} {σ : St} {H : Hp} {s : Shared} {fp : List Addr} (I : Inv X pins σ H s) (hf : ∀ b ∈ fp, FpOk X pins H b) (ho : ∀ b ∈ fp, ∃ o, s.heap.get? b = some o ∧ ∀ v, o.data ≠ .cell v) : Inv X (pins ++ pinsAt fp s.heap) σ H s :=
  I.pins_of fun p hp => (List.mem_append.mp hp).elim (fun z => I.pin p (List.mem_append_right _ z)) fun z => by
    obtain ⟨hb, e⟩ := of_pinsAt z
    obtain ⟨f0, f1, f2, _⟩ := hf p.1 hb
    obtain ⟨o, e', d⟩ := ho p.1 hb
    rw [e] at e'; cases e'
    exact ⟨e, f0, f1, f2, d⟩
theorem Inv.unpinned {pins pl : List (Addr × Obj)} {σ : St} {H : Hp} {s : Shared} (I : Inv X (pins ++ pl) σ H s) : Inv X pins σ H s := I.pins_of fun p hp => I.pin p (List.mem_append_right _ (List.mem_append_left _ hp))
theorem ps_for {iter : Expr} {body : List Stmt} {wi : TI} {g : TG} {tb : TS} {pos : Pos} (hp : PassesOwn (model X.prog X.w) X.A X.env X.xe) (hc : X.calm = true) (hi : PI X tg iter wi) (hg : PG X tg g) (hb : PSs X body tb)
    (hs : ∀ x, foldedSetIterable iter X.env x = pure x := by intro _; rfl) : PS X (.For tg iter body [] pos) (tFor wi g tb) := by
  intro pins s σ H D I h
  refine wpAny_For (thn (hi pins s σ H _ I h) fun v s1 h1 => thn h1 fun itv s2 h2 => ?_) hs
  obtain ⟨it, fp, tn, J, H2, e, I2, T, st2, f2, W, ⟨m0, w0⟩, turn⟩ := h2
  subst e
  -- what stays true of the iterator's objects through the loop
  have stat : ∀ {H' : Hp}, (∀ b ∈ fp, H' b = none) → ∀ b ∈ fp, FpOk X pins H' b := fun hn b hb => ⟨hn b hb, (f2 b hb).2⟩
  refine codeAny_forLoop_any (fun n s' => ∃ i σ' H', Inv X pins σ' H' s' ∧ tn i s'.heap ∧ (∀ b ∈ fp, H' b = none) ∧ W i n σ' H') ?_ m0 ⟨0, σ, H2, I2, st2, fun b hb => (f2 b hb).1, w0⟩
  rintro n s3 ⟨i, σ3, H3, I3, st3, fr3, w3⟩
  rcases turn i n σ3 H3 w3 with ⟨stop, qn⟩ | ⟨go, N, hN, step⟩
  · refine wpAny_passesOwn hp (thn (T.done X rfl rfl rfl hc i pins s3 σ3 H3 X.xe I3 (stat fr3) st3 stop) fun r s4 ⟨hr, I4⟩ => ?_)
    subst hr
    exact wpAny_execs_nil ⟨σ3, H3, I4, qn⟩
  · refine wpAny_passesOwn hp (thn (T.item X rfl rfl rfl hc i pins s3 σ3 H3 X.xe I3 (stat fr3) st3 go) fun r s4 ⟨u, hr, h4⟩ => ?_)
    subst hr
    refine wpAny_passesOwn hp (thn h4 fun _ s5 ⟨x, H5, I5, r5, y5, st5, fr5⟩ => ?_)
    have I5' := I5.pinned (stat fr5) (T.obj _ _ st5)
    refine wpAny_passesOwn hp (thn (hg _ s5 σ3 H5 x u _ I5' r5 (step x H5 y5)) fun _ s6 ⟨σ6, H6, I6, q6⟩ => ?_)
    refine wpAny_passesOwn hp (thn (hb _ s6 σ6 H6 _ I6 q6) fun f s7 q7 => ?_)
    have again : ∀ {σ7 : St} {H7 : Hp}, Inv X (pins ++ pinsAt fp s5.heap) σ7 H7 s7 → N σ7 H7 → ∃ m, m < n ∧ ∃ i σ' H', Inv X pins σ' H' s7 ∧ tn i s7.heap ∧ (∀ b ∈ fp, H' b = none) ∧ W i m σ' H' := fun {σ7 H7} I7 n7 => by
      obtain ⟨m', hm, w7⟩ := hN σ7 H7 n7
      refine ⟨m', hm, i + 1, σ7, H7, I7.unpinned, T.keep _ _ _ st5 fun b hb o e => (I7.pin (b, o) (List.mem_append_right _ (List.mem_append_right _ (mem_pinsAt hb e)))).1, fun b hb => ?_, w7⟩
      obtain ⟨o, e, d⟩ := T.obj _ _ st5 b hb
      exact (I7.pin (b, o) (List.mem_append_right _ (List.mem_append_right _ (mem_pinsAt hb e)))).2.1
    cases f with
    | next => obtain ⟨σ7, H7, I7, n7⟩ := q7; exact again I7 n7
    | cont => obtain ⟨σ7, H7, I7, n7⟩ := q7; exact again I7 n7
    | brk => obtain ⟨σ7, H7, I7, q7⟩ := q7; exact ⟨σ7, H7, I7.unpinned, q7⟩
    | ret v => obtain ⟨x7, σ7, H7, I7, r7, q7⟩ := q7; exact ⟨x7, σ7, H7, I7.unpinned, r7, q7⟩
end
theorem for_list {K : PySem.W.Frag} {a : Addr} {xs : List V} {g : TG} {tb : TS} {D : Ends} {σ : St} {H : Hp} (Pv : Nat → St → Hp → Prop) (h0 : Pv 0 σ H) (hl : ∀ i σ H, i ≤ xs.length → Pv i σ H → SqL K H a xs)
    (hs : ∀ i x σ H, xs[i]? = some x → Pv i σ H → g x σ H fun σ2 H2 => tb { D with nx := Pv (i + 1), ct := Pv (i + 1), bk := D.nx } σ2 H2) (hd : ∀ σ H, Pv xs.length σ H → D.nx σ H) :
    ∃ W : Nat → Nat → St → Hp → Prop, (∃ m, W 0 m σ H) ∧ ∀ i m σ H, W i m σ H →
      ((Itl K a).stop i H ∧ D.nx σ H) ∨ ((Itl K a).go i H ∧ ∃ N : St → Hp → Prop, (∀ σ' H', N σ' H' → ∃ m', m' < m ∧ W (i + 1) m' σ' H') ∧ ∀ x H', (Itl K a).yld i H x H' → g x σ H' fun σ2 H2 => tb { D with nx := N, ct := N, bk := D.nx } σ2 H2) := by
  refine ⟨fun i m σ H => m = xs.length - i ∧ i ≤ xs.length ∧ Pv i σ H, ⟨xs.length, by simp, Nat.zero_le _, h0⟩, ?_⟩
  rintro i m σ H ⟨rfl, hi, p⟩
  have q := hl i σ H hi p
  by_cases hlt : i < xs.length
  · refine .inr ⟨⟨xs, xs[i], q, by simp [hlt]⟩, Pv (i + 1), fun σ' H' p' => ⟨xs.length - (i + 1), by omega, rfl, hlt, p'⟩, fun x H' y => ?_⟩
    obtain ⟨e, y⟩ := y
    subst e
    exact hs i x σ _ (y xs q) p
  · have e : i = xs.length := by omega
    subst e
    exact .inl ⟨⟨xs, q, Nat.le_refl _⟩, hd σ H p⟩
theorem for_range {lo : Int} {n : Nat} {g : TG} {tb : TS} {D : Ends} {σ : St} {H : Hp} (Pv : Nat → St → Hp → Prop) (h0 : Pv 0 σ H)
    (hs : ∀ i σ H, i < n → Pv i σ H → g (.int (lo + i)) σ H fun σ2 H2 => tb { D with nx := Pv (i + 1), ct := Pv (i + 1), bk := D.nx } σ2 H2) (hd : ∀ σ H, Pv n σ H → D.nx σ H) :
    ∃ W : Nat → Nat → St → Hp → Prop, (∃ m, W 0 m σ H) ∧ ∀ i m σ H, W i m σ H →
      ((Itr lo n).stop i H ∧ D.nx σ H) ∨ ((Itr lo n).go i H ∧ ∃ N : St → Hp → Prop, (∀ σ' H', N σ' H' → ∃ m', m' < m ∧ W (i + 1) m' σ' H') ∧ ∀ x H', (Itr lo n).yld i H x H' → g x σ H' fun σ2 H2 => tb { D with nx := N, ct := N, bk := D.nx } σ2 H2) := by
  refine ⟨fun i m σ H => m = n - i ∧ i ≤ n ∧ Pv i σ H, ⟨n, by simp, Nat.zero_le _, h0⟩, ?_⟩
  rintro i m σ H ⟨rfl, hi, p⟩
  by_cases hlt : i < n
  · refine .inr ⟨hlt, Pv (i + 1), fun σ' H' p' => ⟨n - (i + 1), by omega, rfl, hlt, p'⟩, fun x H' y => ?_⟩
    obtain ⟨e, y⟩ := y
    subst e y
    exact hs i σ _ hlt p
  · have e : i = n := by omega
    subst e
    exact .inl ⟨Nat.le_refl _, hd σ H p⟩
theorem while_by {c : TT} {tb : TS} {D : Ends} {σ : St} {H : Hp} (Pv : St → Hp → Prop) (μ : St → Hp → Nat) (h0 : Pv σ H)
    (hs : ∀ σ H, Pv σ H → c σ H fun b H1 => if b = true then tb { D with nx := fun σ' H' => Pv σ' H' ∧ μ σ' H' < μ σ H, ct := fun σ' H' => Pv σ' H' ∧ μ σ' H' < μ σ H, bk := D.nx } σ H1 else D.nx σ H1)
    (mono : ∀ σ H Q Q', (∀ b H1, Q b H1 → Q' b H1) → c σ H Q → c σ H Q') : tWhile c tb D σ H := by
  refine ⟨fun m σ H => m = μ σ H ∧ Pv σ H, ⟨_, rfl, h0⟩, ?_⟩
  rintro m σ H ⟨rfl, p⟩
  refine mono σ H _ _ (fun b H1 q => ?_) (hs σ H p)
  cases b with
  | true => exact ⟨_, fun σ' H' ⟨p', l⟩ => ⟨_, l, rfl, p'⟩, q⟩
  | false => exact q
end L2
namespace L2
open PySem PySem.Spec PyProof.Rows
abbrev R2 := V → V → Hp → VK → Prop
def OpR (X : Cx) (f : Value → Value → Sem Value) (r : R2) : Prop :=
  ∀ (pins : List (Addr × Obj)) (s : Shared) (σ : St) (H : Hp) (x y : V) (v u : Value) (Q : VK), Inv X pins σ H s → RelV x v → RelV y u → r x y H Q →
    wpAny (model X.prog X.w) X.A (f v u) (EP X pins σ Q) X.xe s
def CallR (X : Cx) (f : Value) (r : List V → Hp → VK → Prop) : Prop :=
  ∀ (pins : List (Addr × Obj)) (s : Shared) (σ : St) (H : Hp) (xs : List V) (us : List Value) (Q : VK), Inv X pins σ H s → Vals xs us → r xs H Q →
    wpAny (model X.prog X.w) X.A (call f us) (EP X pins σ Q) X.xe s
def tOp (r : R2) (ta tb : TE) : TE := fun σ H Q => ta σ H fun x H1 => tb σ H1 fun y H2 => r x y H2 Q
def rI (C : Int → Int → Prop) (g : Int → Int → V) : R2 := fun x y H Q => ∃ i j, x = .int i ∧ y = .int j ∧ C i j ∧ Q (g i j) H
def rI0 (g : Int → Int → V) : R2 := fun x y H Q => ∃ i j, x = .int i ∧ y = .int j ∧ Q (g i j) H
section
variable {X : Cx} {a b c : Expr} {ta tb tc : TE} {pos : Pos}
theorem binT (ha : PE X a ta) (hb : PE X b tb) {pins : List (Addr × Obj)} {s : Shared} {σ : St} {H : Hp} {R : V → V → Hp → Prop} (I : Inv X pins σ H s)
    (h : ta σ H fun x H1 => tb σ H1 fun y H2 => R x y H2) {Q : Value → Shared → Prop} {f : Value → Value → Sem Value}
    (hf : ∀ v u s2 x y H2, Inv X pins σ H2 s2 → RelV x v → RelV y u → R x y H2 → wpAny (model X.prog X.w) X.A (f v u) Q X.xe s2) :
    wpAny (model X.prog X.w) X.A (eval a X.env) (fun v s₁ => wpAny (model X.prog X.w) X.A (eval b X.env) (fun u s₂ => wpAny (model X.prog X.w) X.A (f v u) Q X.xe s₂) X.xe s₁) X.xe s := by
  refine thn (ha pins s σ H _ I h) fun v s1 ⟨x, H1, I1, r1, q1⟩ => ?_
  refine thn (hb pins s1 σ H1 _ I1 q1) fun u s2 ⟨y, H2, I2, r2, q2⟩ => ?_
  exact hf v u s2 x y H2 I2 r1 r2 q2
theorem pe_op {op : Operator} {r : R2} (ho : OpR X (binaryOp op) r) (ha : PE X a ta) (hb : PE X b tb) : PE X (.BinOp a op b pos) (tOp r ta tb) := by
  intro pins s σ H Q I h
  exact wpAny_BinOp (binT ha hb I h fun v u s2 x y H2 I2 rx ry q => ho pins s2 σ H2 x y v u Q I2 rx ry q)
theorem opI {f : Value → Value → Sem Value} {C : Int → Int → Prop} {g : Int → Int → Int}
    (rule : ∀ (i j : Int) (t u : Tok) (s : Shared) (Q : Value → Shared → Prop) (E : Value → Shared → Prop), C i j → Q (.int (g i j) s.toks) { s with toks := s.toks + 1 } → wpAny (model X.prog X.w) X.A (f (.int i t) (.int j u)) Q E s) :
    OpR X f (rI C fun i j => .int (g i j)) := by
  intro pins s σ H x y v u Q I rx ry h
  obtain ⟨i, j, rfl, rfl, hc, q⟩ := h
  obtain ⟨t, rfl⟩ := rx
  obtain ⟨t', rfl⟩ := ry
  exact rule i j t t' s _ _ hc ⟨.int (g i j), H, I.tok _, ⟨_, rfl⟩, q⟩
theorem opI0 {f : Value → Value → Sem Value} {g : Int → Int → Int}
    (rule : ∀ (i j : Int) (t u : Tok) (s : Shared) (Q : Value → Shared → Prop) (E : Value → Shared → Prop), Q (.int (g i j) s.toks) { s with toks := s.toks + 1 } → wpAny (model X.prog X.w) X.A (f (.int i t) (.int j u)) Q E s) :
    OpR X f (rI0 fun i j => .int (g i j)) := by
  intro pins s σ H x y v u Q I rx ry h
  obtain ⟨i, j, rfl, rfl, q⟩ := h
  obtain ⟨t, rfl⟩ := rx
  obtain ⟨t', rfl⟩ := ry
  exact rule i j t t' s _ _ ⟨.int (g i j), H, I.tok _, ⟨_, rfl⟩, q⟩
def CPow (i j : Int) : Prop := 0 ≤ j ∧ j ≤ 1000000 ∧ i.natAbs < 2 ^ 64
def CMul (i j : Int) : Prop := (-(2 ^ 64) < i ∧ i < 2 ^ 64) ∨ (-(2 ^ 64) < j ∧ j < 2 ^ 64)
theorem CMul.ok {i j : Int} (h : CMul i j) : IntMulOk i j := by
  rcases h with ⟨h1, h2⟩ | ⟨h1, h2⟩
  · exact .of_left (intBits_le_64 h1 h2)
  · exact .of_right (intBits_le_64 h1 h2)
theorem two_pow_nn (k : Nat) : (0 : Int) ≤ 2 ^ k := by
  rw [two_pow_cast]
  exact Int.natCast_nonneg _
theorem op_add : OpR X (binaryOp .Add) (rI0 fun i j => .int (i + j)) := opI0 fun _ _ _ _ _ _ _ q => add_int q
theorem op_sub : OpR X (binaryOp .Sub) (rI0 fun i j => .int (i - j)) := opI0 fun _ _ _ _ _ _ _ q => sub_int q
theorem op_shl : OpR X (binaryOp .LShift) (rI CPow fun i j => .int (i * 2 ^ j.toNat)) := opI fun _ _ _ _ _ _ _ hc q => lshift_int_small hc.1 hc.2.1 hc.2.2 q
theorem op_shr : OpR X (binaryOp .RShift) (rI (fun _ j => 0 ≤ j) fun i j => .int (i / 2 ^ j.toNat)) := opI fun i j _ _ _ _ _ hc q =>
  rshift_int hc (by rw [Int.fdiv_eq_ediv_of_nonneg i (two_pow_nn _)]; exact q)
theorem op_and : OpR X (binaryOp .BitAnd) (rI0 fun i j => .int (Builtin.bitAnd i j)) := opI0 fun _ _ _ _ _ _ _ q => and_int q
theorem op_or : OpR X (binaryOp .BitOr) (rI0 fun i j => .int (Builtin.bitOr i j)) := opI0 fun _ _ _ _ _ _ _ q => or_int q
theorem op_xor : OpR X (binaryOp .BitXor) (rI0 fun i j => .int (Builtin.bitXor i j)) := opI0 fun _ _ _ _ _ _ _ q => xor_int q
end
section
variable {X : Cx} {a b c : Expr} {ta tb tc : TE} {pos : Pos}
theorem OpR.or {f : Value → Value → Sem Value} {r r' : R2} (h : OpR X f r) (h' : OpR X f r') : OpR X f (fun x y H Q => r x y H Q ∨ r' x y H Q) := by
  intro pins s σ H x y v u Q I rx ry q
  rcases q with q | q
  · exact h pins s σ H x y v u Q I rx ry q
  · exact h' pins s σ H x y v u Q I rx ry q
theorem line63 : (sizeLine : Nat) < 2 ^ 63 := by rw [sizeLine_eq]; decide
theorem vals1 {x : V} {us : List Value} (r : Vals [x] us) : ∃ u, us = [u] ∧ RelV x u := by
  cases r with
  | cons r1 r2 => cases r2; exact ⟨_, rfl, r1⟩
theorem vals2 {x y : V} {us : List Value} (r : Vals [x, y] us) : ∃ u w', us = [u, w'] ∧ RelV x u ∧ RelV y w' := by
  cases r with
  | cons r1 r2 =>
    cases r2 with
    | cons r3 r4 => cases r4; exact ⟨_, _, rfl, r1, r3⟩
theorem call_max2 (hc : X.calm = true) : CallR X (.builtin "max") (fun xs H Q => ∃ i j, xs = [.int i, .int j] ∧ Q (.int (if j > i then j else i)) H) := by
  intro pins s σ H xs us Q I r h
  obtain ⟨i, j, rfl, q⟩ := h
  obtain ⟨u, w', rfl, ⟨t, rfl⟩, ⟨t', rfl⟩⟩ := vals2 r
  refine max_two_ints (I.ok.hd hc) fun h' tk k => ⟨_, H, I.kept k, ?_, q⟩
  by_cases hj : j > i
  · rw [if_pos hj, if_pos hj]; exact ⟨_, rfl⟩
  · rw [if_neg hj, if_neg hj]; exact ⟨_, rfl⟩
end
end L2
namespace L2
open PySem PySem.Spec PyProof.Rows
structure ObjM (h : Heap) (x dx C : Addr) (mA : Str → Option Value) : Prop where
  obj : h.get? x = some (PySem.W.instObj C dx)
  ns : h.Ns1 dx mA
  ne : dx ≠ x
theorem lookIn_ns {h : Heap} {dx : Addr} {mA : Str → Option Value} (n : h.Ns1 dx mA) : ∃ od, h.get? dx = some od ∧ ∀ name, PySem.W.lookIn name od = some (mA name) := by
  obtain ⟨o, es, ep, ho, hd, hk, _, hm⟩ := n
  refine ⟨o, ho, fun name => ?_⟩
  have e := hm name
  unfold nsFind findBy at e
  rw [← Array.find?_toList] at e
  unfold PySem.W.lookIn
  rw [hd]
  dsimp only
  split
  · rename_i y q
    rw [q] at e
    exact congrArg some e
  · rename_i q
    rw [q] at e
    have a : es.toList.any (·.refKey) = false := by
      rw [List.any_eq_false]
      intro y hy
      obtain ⟨z, t, hkey⟩ := hk y (Array.mem_toList_iff.mp hy)
      simp [DictEntry.refKey, hkey]
    have a' : ¬ es.toList.any (·.refKey) = true := by rw [a]; exact Bool.false_ne_true
    rw [if_neg a']
    exact congrArg some e
theorem ObjM.look {h : Heap} {x dx C : Addr} {mA : Str → Option Value} (I : ObjM h x dx C mA) : ∃ od, PySem.W.InstAt h x (PySem.W.instObj C dx) C (some od) ∧ ∀ name, PySem.W.lookIn name od = some (mA name) :=
  let ⟨od, ho, hl⟩ := lookIn_ns I.ns
  ⟨od, ⟨I.obj, rfl, rfl, ho⟩, hl⟩
section
variable {prog : Program} {w : World} {A : Around} {E : Value → Shared → Prop} {s : Shared} {K : PySem.W.Frag} {x dx C f : Addr} {mA : Str → Option Value} {name : Str} {v : Value}
theorem get_map {expr : Bool} {Q : Value → Shared → Prop} (X : K.In s.heap) (I : ObjM s.heap x dx C mA) (hg : PySem.W.plainGet K C name = true) (hh : PySem.W.hasDictIn K C = true)
    (ha : PySem.W.findIn K (.ref C) name = some none) (hv : mA name = some v) (hv' : PySem.W.handedIn v = true) (h : Q v { s with toks := s.toks + 1 }) :
    wpAny (model prog w) A (getAttr (.ref x) name expr) Q E s := by
  obtain ⟨od, J, hl⟩ := I.look
  exact PySem.W.get_value X J (PySem.W.plainGet_of hg).1 (PySem.W.findObj_own hh ha rfl (by rw [hl, hv])) hv' h
theorem get_meth {pl : Sem Bool} {Q : Value × List Value → Shared → Prop} (X : K.In s.heap) (I : ObjM s.heap x dx C mA) (hg : PySem.W.plainGet K C name = true)
    (hf : PySem.W.findIn K (.ref C) name = some (some (.ref f))) (ht : PySem.W.isFn K (.ref f) = true) (hv : mA name = none) (h : Q (.ref f, [.ref x]) s) :
    wpAny (model prog w) A (getMethod (.ref x) name pl) Q E s := by
  obtain ⟨od, J, hl⟩ := I.look
  exact PySem.W.method_fn X J (PySem.W.plainGet_of hg).1 (PySem.W.plainGet_of hg).2 hf (beq_iff_eq.mp ht) (by show (PySem.W.lookIn name od).map (·.isSome) = some false; rw [hl, hv]; rfl) h
theorem set_map {ns : List Str} {Q : Unit → Shared → Prop} (X : K.In s.heap) (I : ObjM s.heap x dx C mA)
    (hs : PySem.W.findIn K (.ref C) "__setattr__" = some (some (.builtin "object.__setattr__"))) (hp : PySem.W.plainOver K C = true) (ht : PySem.W.takerIn K C name = some none) (hh : PySem.W.hasDictIn K C = true)
    (hw : PySem.Within mA ns) (hsz : ns.length ≤ sizeLine)
    (h : ∀ h', ObjM h' x dx C (fun y => if y = name then some v else mA y) → Heap.SameBut dx s.heap h' → Q () { s with heap := h', toks := s.toks + 2 }) :
    wpAny (model prog w) A (setAttr (.ref x) name v) Q E s := by
  obtain ⟨od, J, hl⟩ := I.look
  refine PySem.W.set_plain X J hs (PySem.W.osa_open (s := { s with toks := s.toks + 1 }) (r := none) X J hp ht fun b => ?_)
  obtain ⟨cd, hc, hd'⟩ := PySem.W.any_some hh
  have hx : s.heap.get? x = some ⟨.ref C, some dx, .plain, #[]⟩ := I.obj
  refine wpAny_bind (wpAny_pure (wpAny_bind (wpAny_bind (wpAny_loadPart hx (wpAny_bind (PySem.W.Looks.here (s := { s with toks := s.toks + 1 }) (PySem.W.looks_clsIn X hc) ?_))))))
  rw [hd']
  refine wpAny_pure (a := some dx) (wpAny_bind (wpAny_pure (wpAny_bind ?_)))
  refine wpAny_nsSet1 (s := { s with toks := s.toks + 1 }) I.ns fun h' hn2 hs2 => ?_
  obtain ⟨oD, esD, epD, hoD, hdD, hcD⟩ := hn2.count (PySem.Within.cons name v hw)
  refine wpAny_bind (wpAny_lookBehind hoD (by rw [hdD]; exact pastItsLine_dict (Nat.le_trans hcD (by rw [List.length_cons]; omega))) ?_)
  exact wpAny_pure (h _ ⟨(hs2.2 _ (Ne.symm I.ne)).trans I.obj, hn2, I.ne⟩ hs2)
theorem make_map {R : Result → Shared → Prop} {vs : List Value} {kw : List (Str × Value)} (X : K.In s.heap) (hm : PySem.W.makesIn K C = true)
    (hi : PySem.W.findIn K (.ref C) "__init__" = some (some (.ref f))) (hf : PySem.W.typeIn K (.ref f) = some (.type "function"))
    (h : codeAny (model prog w) (A.under (.builtin "type.__call__" ⟨.ref C :: vs, kw⟩)) (.call (.ref f) ⟨.ref (s.heap.objs.size + 1) :: vs, kw⟩) (PySem.W.InitBack (s.heap.objs.size + 1) R)
      { s with heap := (s.heap.push PySem.W.emptyDict).push (PySem.W.instObj C s.heap.objs.size) }) :
    codeAny (model prog w) A (.call (.ref C) ⟨vs, kw⟩) R s := by
  obtain ⟨hh, g, d, t, os⟩ := s
  exact PySem.W.make_core (PySem.W.makes_of X hm) (PySem.W.looks_findIn X hi) (fun self => PySem.W.bind_fn X self hf) (.inl rfl) h
end
def putF (f : Str) (v : V) : List (Str × V) → List (Str × V)
  | [] => [(f, v)]
  | (g, x) :: r => if g = f then (g, v) :: r else (g, x) :: putF f v r
theorem lookup_putF (f g : Str) (v : V) : ∀ fs : List (Str × V), (putF f v fs).lookup g = if g = f then some v else fs.lookup g
  | [] => by
    show List.lookup g [(f, v)] = _
    by_cases h : g = f
    · have hb : (g == f) = true := beq_iff_eq.mpr h
      simp only [List.lookup, hb, if_pos h]
    · have hb : (g == f) = false := beq_eq_false_iff_ne.mpr h
      simp only [List.lookup, hb, if_neg h]
  | (k, x) :: r => by
    have ih := lookup_putF f g v r
    rw [show putF f v ((k, x) :: r) = (if k = f then (k, v) :: r else (k, x) :: putF f v r) from rfl]
    by_cases hk : k = f
    · rw [if_pos hk]
      by_cases h : g = k
      · have hb : (g == k) = true := beq_iff_eq.mpr h
        simp only [List.lookup, hb, if_pos (h.trans hk)]
      · have hb : (g == k) = false := beq_eq_false_iff_ne.mpr h
        simp only [List.lookup, hb, if_neg (fun e : g = f => h (e.trans hk.symm))]
    · rw [if_neg hk]
      by_cases h : g = k
      · have hb : (g == k) = true := beq_iff_eq.mpr h
        simp only [List.lookup, hb, if_neg (fun e : g = f => hk (h.symm.trans e))]
      · have hb : (g == k) = false := beq_eq_false_iff_ne.mpr h
        simp only [List.lookup, hb]
        exact ih
theorem keys_putF (f : Str) (v : V) : ∀ fs : List (Str × V), f ∈ (putF f v fs).map (·.1) ∧ ∀ g, g ∈ fs.map (·.1) → g ∈ (putF f v fs).map (·.1)
  | [] => ⟨by simp [putF], fun g h => by simp at h⟩
  | (k, x) :: r => by
    obtain ⟨i1, i2⟩ := keys_putF f v r
    rw [show putF f v ((k, x) :: r) = (if k = f then (k, v) :: r else (k, x) :: putF f v r) from rfl]
    by_cases hk : k = f
    · rw [if_pos hk]
      subst hk
      exact ⟨by simp, fun g h => by simpa using h⟩
    · rw [if_neg hk]
      refine ⟨?_, fun g h => ?_⟩
      · rw [List.map_cons]
        exact List.mem_cons_of_mem _ i1
      · rw [List.map_cons] at h ⊢
        rcases List.mem_cons.mp h with e | e
        · exact List.mem_cons.mpr (.inl e)
        · exact List.mem_cons_of_mem _ (i2 g e)
theorem length_putF (f : Str) (v : V) : ∀ fs : List (Str × V), (putF f v fs).length ≤ fs.length + 1
  | [] => by simp [putF]
  | (k, x) :: r => by
    have ih := length_putF f v r
    rw [show putF f v ((k, x) :: r) = (if k = f then (k, v) :: r else (k, x) :: putF f v r) from rfl]
    by_cases hk : k = f
    · rw [if_pos hk, List.length_cons, List.length_cons]; omega
    · rw [if_neg hk, List.length_cons, List.length_cons]; omega
theorem RelO.some_of {v : V} {o : Option Value} (r : RelO (some v) o) : ∃ u, o = some u ∧ RelV v u := by
  cases o with
  | none => exact (show False from r).elim
  | some u => exact ⟨u, rfl, r⟩
theorem RelO.none_of {o : Option Value} (r : RelO none o) : o = none := by
  cases o with
  | none => rfl
  | some u => exact (show False from r).elim
theorem handed_of {v : V} {u : Value} (r : RelV v u) : PySem.W.handedIn u = true := by
  cases v with
  | non => cases (show u = Value.none from r); rfl
  | bl b => cases (show u = Value.bool b from r); rfl
  | int i => obtain ⟨t, e⟩ := (show ∃ t, u = Value.int i t from r); cases e; rfl
  | str x => obtain ⟨t, e⟩ := (show ∃ t, u = Value.str x t from r); cases e; rfl
  | byt b => obtain ⟨t, e⟩ := (show ∃ t, u = Value.bytes b t from r); cases e; rfl
  | flt b => obtain ⟨t, e⟩ := (show ∃ t, u = Value.float b t from r); cases e; rfl
  | ref a => cases (show u = Value.ref a from r); rfl
  | ty n => cases (show u = Value.type n from r); rfl
section
variable {P : Program} {w : World} {H H' : Hp} {h h' : Heap} {a C dx : Addr} {fs fs' : List (Str × V)}
theorem ins_get (hok : HOk P w H h) (e : H a = some (.ins C dx fs)) : ∃ mA, ObjM h a dx C mA ∧ (∀ f, RelO (fs.lookup f) (mA f)) ∧ PySem.Within mA (fs.map (·.1)) ∧ fs.length ≤ 1000 ∧ H dx = some (.own a) := by
  obtain ⟨d, z, ne, ob, mA, n, r, q⟩ := (show ObjOk P w H h a (.ins C dx fs) from hok a _ e)
  exact ⟨mA, ⟨ob, n, ne⟩, r, q, z, d⟩
end
structure Cls (K : PySem.W.Frag) (C : Addr) : Prop where
  pg : PySem.W.plainGet K C Str.empty = true
  hd : PySem.W.hasDictIn K C = true
  po : PySem.W.plainOver K C = true
  sa : PySem.W.findIn K (.ref C) "__setattr__" = some (some (.builtin "object.__setattr__"))
theorem Cls.get {K : PySem.W.Frag} {C : Addr} (c : Cls K C) (f : Str) : PySem.W.plainGet K C f = true := c.pg
def NoAttr (K : PySem.W.Frag) (C : Addr) (f : Str) : Prop := PySem.W.findIn K (.ref C) f = some none
theorem NoAttr.taker {K : PySem.W.Frag} {C : Addr} {f : Str} (n : NoAttr K C f) : PySem.W.takerIn K C f = some none := by
  unfold PySem.W.takerIn
  rw [show PySem.W.findIn K (.ref C) f = some none from n]
  rfl
structure Con (K : PySem.W.Frag) (C : Addr) (f : Str) (v : V) (u : Value) : Prop where
  at_ : PySem.W.findIn K (.ref C) f = some (some u)
  rel : RelV v u
  get : PySem.W.specialIn K u "__get__" = some none
  cp : PySem.W.copiedNames.contains f = false
structure Meth (K : PySem.W.Frag) (C : Addr) (m : Str) (f : Addr) : Prop where
  at_ : PySem.W.findIn K (.ref C) m = some (some (.ref f))
  fn : PySem.W.isFn K (.ref f) = true
  kp : PySem.W.keepIn K (.ref f) = true
section
variable {X : Cx} {pins : List (Addr × Obj)} {σ : St} {H : Hp} {s : Shared} {a C dx : Addr} {fs : List (Str × V)} {f : Str} {v : V} {A : Around} {E : Value → Shared → Prop}
theorem getattr_ok {b : Bool} {Q : Value → Shared → Prop} (I : Inv X pins σ H s) (e : H a = some (.ins C dx fs)) (c : Cls X.K C) (n : NoAttr X.K C f) (l : fs.lookup f = some v)
    (h : ∀ u s', Inv X pins σ H s' → RelV v u → Q u s') : wpAny (model X.prog X.w) A (getAttr (.ref a) f b) Q E s := by
  obtain ⟨mA, O, r, _, _, _⟩ := ins_get I.hok e
  obtain ⟨u, hu, ru⟩ := RelO.some_of (v := v) (o := mA f) (by rw [← l]; exact r f)
  exact get_map I.kIn O (c.get f) c.hd n hu (handed_of ru) (h u _ (I.tok _) ru)
theorem getmeth_ok {m : Str} {g : Addr} {pl : Sem Bool} {Q : Value × List Value → Shared → Prop} (I : Inv X pins σ H s) (e : H a = some (.ins C dx fs)) (c : Cls X.K C) (k : Meth X.K C m g) (l : fs.lookup m = none)
    (h : Q (.ref g, [.ref a]) s) : wpAny (model X.prog X.w) A (getMethod (.ref a) m pl) Q E s := by
  obtain ⟨mA, O, r, _, _, _⟩ := ins_get I.hok e
  have hn : mA m = none := RelO.none_of (by rw [← l]; exact r m)
  exact get_meth I.kIn O (c.get m) k.at_ k.fn hn h
theorem setattr_ok {y : V} {u : Value} {Q : Unit → Shared → Prop} (I : Inv X pins σ H s) (e : H a = some (.ins C dx fs)) (c : Cls X.K C) (n : NoAttr X.K C f) (hl : fs.length < 1000) (ry : RelV y u)
    (h : ∀ s', Inv X pins σ (upd H a (.ins C dx (putF f y fs))) s' → Q () s') : wpAny (model X.prog X.w) A (setAttr (.ref a) f u) Q E s := by
  obtain ⟨mA, O, r, wi, _, ho⟩ := ins_get I.hok e
  have hz : (fs.map (·.1)).length ≤ sizeLine := by rw [List.length_map, sizeLine_eq]; omega
  refine set_map I.kIn O c.sa c.po n.taker c.hd wi hz fun h' O' sb => h _ ?_
  have hd : ∃ o, h'.get? dx = some o := let ⟨o, _, _, e', _⟩ := O'.ns; ⟨o, e'⟩
  refine I.write (x := a) (e := dx) (by rw [e]; exact True.intro) (.inr ho) (fun b q hb z => (sb.2 b hb).trans z) hd ?_
  refine ⟨by rw [upd_ne O.ne]; exact ho, ?_, O.ne, O'.obj, _, O'.ns, fun g => ?_, fun g hg => ?_⟩
  · have := length_putF f y fs; omega
  · show RelO ((putF f y fs).lookup g) (if g = f then some u else mA g)
    rw [lookup_putF]
    by_cases q : g = f
    · rw [if_pos q, if_pos q]; exact ry
    · rw [if_neg q, if_neg q]; exact r g
  · by_cases q : g = f
    · rw [q]; exact (keys_putF f y fs).1
    · refine (keys_putF f y fs).2 g (wi g fun z => hg ?_)
      show (if g = f then some u else mA g) = none
      rw [if_neg q]; exact z
theorem Inv.made (I : Inv X pins σ H s) : Inv X pins σ (upd (upd H s.heap.objs.size (.own (s.heap.objs.size + 1))) (s.heap.objs.size + 1) (.ins C s.heap.objs.size []))
    { s with heap := (s.heap.push PySem.W.emptyDict).push (PySem.W.instObj C s.heap.objs.size) } := by
  have e1 : (s.heap.push PySem.W.emptyDict).get? s.heap.objs.size = some PySem.W.emptyDict := Heap.get?_push_size s.heap rfl
  have e2 : ((s.heap.push PySem.W.emptyDict).push (PySem.W.instObj C s.heap.objs.size)).get? (s.heap.objs.size + 1) = some (PySem.W.instObj C s.heap.objs.size) := by
    have := Heap.get?_push_size (s.heap.push PySem.W.emptyDict) (o := PySem.W.instObj C s.heap.objs.size) rfl
    rwa [Heap.size_push] at this
  have e3 : (s.heap.push PySem.W.emptyDict).Ns s.heap.objs.size (fun _ => none) := ⟨PySem.W.emptyDict, #[], _, e1, rfl, (fun e he => absurd he (by simp)), fun _ => rfl⟩
  have I1 := I.laid (a := s.heap.objs.size) (o := .own (s.heap.objs.size + 1)) (h' := s.heap.push PySem.W.emptyDict) (t' := s.toks) (fun b u q => Heap.get?_push_of_some _ q) (Nat.le_refl _) ⟨_, e1⟩
  refine I1.laid (a := s.heap.objs.size + 1) (o := .ins C s.heap.objs.size []) (t' := s.toks) (fun b u q => Heap.get?_push_of_some _ q) (Nat.le_of_eq (Heap.size_push _ _)) ?_
  have ne : s.heap.objs.size ≠ s.heap.objs.size + 1 := Nat.ne_of_lt (Nat.lt_succ_self _)
  refine ⟨by rw [upd_ne ne, upd_same], Nat.zero_le _, ne, e2, fun _ => none, (Heap.Ns1.of_empty e3).at fun o q => Heap.get?_push_of_some _ q, fun _ => True.intro, fun y hy => absurd rfl hy⟩
theorem attr_of {prog : Program} {w : World} {env : Env} {e : Expr} {f : Str} {pos : Pos} {s : Shared} {Q : Value → Shared → Prop} (hb : attributeBase e f env (eval e env) = eval e env)
    (h : wpAny (model prog w) A (eval e env) (fun o s₁ => wpAny (model prog w) A (getAttr o f true) Q E s₁) E s) : wpAny (model prog w) A (eval (.Attribute e f pos) env) Q E s :=
  Attribute_any_ h (by rw [arm_eval_Attribute, hb])
end
def tFld (K : PySem.W.Frag) (ta : TE) (f : Str) : TE := fun σ H Q => ta σ H fun x H1 => ∃ a C dx fs v, x = .ref a ∧ H1 a = some (.ins C dx fs) ∧ Cls K C ∧ NoAttr K C f ∧ fs.lookup f = some v ∧ Q v H1
def sFld (K : PySem.W.Frag) (ta tv : TE) (f : Str) : TS := fun D σ H => tv σ H fun y H1 => ta σ H1 fun x H2 => ∃ a C dx fs, x = .ref a ∧ H2 a = some (.ins C dx fs) ∧ Cls K C ∧ NoAttr K C f ∧ fs.length < 1000 ∧
  D.nx σ (upd H2 a (.ins C dx (putF f y fs)))
section
variable {X : Cx} {o e value : Expr} {f : Str} {pos pos' tpos : Pos} {ta tv : TE}
theorem pe_fld (he : PE X e ta) (hb : attributeBase e f X.env (eval e X.env) = eval e X.env) : PE X (.Attribute e f pos) (tFld X.K ta f) := by
  intro pins s σ H Q I h
  refine attr_of hb (thn (he pins s σ H _ I h) fun u s1 ⟨x, H1, I1, rx, a, C, dx, fs, v, ex, ea, c, n, l, q⟩ => ?_)
  subst ex
  obtain rfl : u = Value.ref a := rx
  exact getattr_ok I1 ea c n l fun u' s2 I2 ru => ⟨v, H1, I2, ru, q⟩
theorem ps_fld (ha : PE X o ta) (hv : PE X value tv) (hs : swapsWith value (some (.Attribute o f pos')) pos.line X.env = pure false) : PS X (.Assign [.Attribute o f pos'] value pos) (sFld X.K ta tv f) := by
  intro pins s σ H D I h
  refine plainObj_wpAny_Assign_Attribute (thn (hv pins s σ H _ I h) fun u s1 ⟨y, H1, I1, ry, q⟩ => thn (ha pins s1 σ H1 _ I1 q) fun ov s2 ⟨x, H2, I2, rx, a, C, dx, fs, ex, ea, c, n, l, q2⟩ => ?_) hs
  subst ex
  obtain rfl : ov = Value.ref a := rx
  exact setattr_ok I2 ea c n l ry fun s3 I3 => ⟨σ, _, I3, q2⟩
end
section
variable {X : Cx} {pins : List (Addr × Obj)} {σ : St} {H : Hp} {s : Shared} {A : Around} {E : Value → Shared → Prop} {Q : Value → Shared → Prop} {c : Value} {b : Bool}
inductive TyOf (K : PySem.W.Frag) (H : Hp) : V → Value → Prop where
  | non : TyOf K H .non (.type "NoneType")
  | bl (x : Bool) : TyOf K H (.bl x) (.type "bool")
  | int (i : Int) : TyOf K H (.int i) (.type "int")
  | str (x : Str) : TyOf K H (.str x) (.type "str")
  | flt (x : UInt64) : TyOf K H (.flt x) (.type "float")
  | lst {a : Addr} {xs : List V} (e : H a = some (.lst xs)) : TyOf K H (.ref a) (.type "list")
  | frz {a : Addr} {o : Obj} {xs : List V} (e : H a = some (.frz o (.lst xs))) : TyOf K H (.ref a) (.type "list")
  | tup {a : Addr} {xs : List V} (e : H a = some (.tup xs)) : TyOf K H (.ref a) (.type "tuple")
  | dK {a : Addr} {kvs : List (Key × V)} (e : H a = some (.dK kvs)) : TyOf K H (.ref a) (.type "dict")
  | dT {a : Addr} {kvs : List (List Key × V)} (e : H a = some (.dT kvs)) : TyOf K H (.ref a) (.type "dict")
  | ins {a C dx : Addr} {fs : List (Str × V)} (e : H a = some (.ins C dx fs)) (cl : Cls K C) (ha : PySem.W.findIn K (.ref C) "__class__" = some (some (.builtin "object.__class__")))
      (hn : PySem.W.specialIn K (.builtin "object.__class__") "__get__" = some (some (.builtin "getset_descriptor.__get__"))) (htk : PySem.W.takesIn K (.builtin "object.__class__") = some true)
      (hm : PySem.W.mroIn K C (.type "object") = some true) : TyOf K H (.ref a) (.ref C)
end
end L2
namespace L2
open PySem PySem.Spec PyProof.Rows
structure Room (k : Nat) (A : Around) : Prop where
  hd : A.handled = none
  dp : A.depth + 3 * k + 5 < recursionLimit
  un : A.units + 16 * k + 200 < cLine
theorem Room.mono {j k : Nat} {A : Around} (r : Room k A) (h : j ≤ k) : Room j A := ⟨r.hd, by have := r.dp; omega, by have := r.un; omega⟩
theorem Room.deeper {k : Nat} {A : Around} (r : Room (k + 1) A) (env : Env) : Room k (A.deeper env) :=
  ⟨r.hd, by have := r.dp; show A.depth + 1 + 3 * k + 5 < _; omega, by have := r.un; show A.units + 3 + 16 * k + 200 < _; omega⟩
theorem Room.in1 {k : Nat} {A : Around} (r : Room (k + 1) A) : Room k A.in1 :=
  ⟨r.hd, by have := r.dp; show A.depth + 3 * k + 5 < _; omega, by have := r.un; show A.units + 1 + 16 * k + 200 < _; omega⟩
theorem make_depth {A : Around} {C : Addr} {us : List Value} {kw : List (Str × Value)} : (A.under (.builtin "type.__call__" ⟨.ref C :: us, kw⟩)).depth = A.depth + 1 := by
  first | rfl | simp [Around.under, Code.weight, Code.isCreation, Code.isGuard, Code.isCaller, Code.frames, Code.isFrame, guardIds]
theorem make_units {A : Around} {C : Addr} {us : List Value} {kw : List (Str × Value)} : (A.under (.builtin "type.__call__" ⟨.ref C :: us, kw⟩)).units = A.units + 1 := by
  first | rfl | simp [Around.under, Code.cUnits, Code.frames, Code.isFrame]
theorem Room.make {k : Nat} {A : Around} (r : Room (k + 1) A) (C : Addr) (us : List Value) (kw : List (Str × Value)) : Room k (A.under (.builtin "type.__call__" ⟨.ref C :: us, kw⟩)) :=
  ⟨r.hd, by have := r.dp; rw [make_depth]; omega, by have := r.un; rw [make_units]; omega⟩
theorem Room.depth {k : Nat} {A : Around} (r : Room k A) : A.depth < recursionLimit := by have := r.dp; omega
theorem Room.units {k : Nat} {A : Around} (r : Room k A) : A.units + 64 < cLine := by have := r.un; omega
def tNil : TA := fun _ H Q => Q [] H
def tCons (ta : TE) (tr : TA) : TA := fun σ H Q => ta σ H fun x H1 => tr σ H1 fun xs H2 => Q (x :: xs) H2
section
variable {X : Cx} {e : Expr} {es : List Expr} {te : TE} {t : TA} {pos : Pos}
theorem pa_nil : PA X [] tNil := fun _ _ _ _ H Q I h => Calls.spliced_nil ⟨[], H, I, .nil, h⟩
theorem pa_cons (ha : PE X e te) (hr : PA X es t) (hs : starEach (e :: es) X.env = (false, eval e X.env) :: starEach es X.env := by rfl) : PA X (e :: es) (tCons te t) := by
  intro pos pins s σ H Q I h
  rw [hs]
  show wpAny _ _ (spliced ((false, eval e X.env) :: backTo pos (starEach es X.env))) _ _ s
  refine Calls.spliced_cons (thn (ha pins s σ H _ I h) fun u s1 ⟨x, H1, I1, r1, q1⟩ => ?_)
  exact thn (hr pos pins s1 σ H1 _ I1 q1) fun us s2 ⟨xs, H2, I2, r2, q2⟩ => ⟨x :: xs, H2, I2, .cons r1 r2, q2⟩
def tLst (t : TA) : TE := fun σ H Q => t σ H fun xs H1 => xs.length ≤ sizeLine ∧ ∀ p, H1 p = none → Q (.ref p) (upd H1 p (.lst xs))
theorem pe_lst (h : PA X es t) : PE X (.List es pos) (tLst t) := by
  intro pins s σ H Q I hq
  refine wpAny_List_spliced (thn (h pos pins s σ H _ I hq) fun us s1 ⟨xs, H1, I1, r, z, q⟩ => ⟨by rw [← r.length]; exact z, ?_⟩)
  have hf : H1 s1.heap.objs.size = none := I1.hok.fresh (Nat.le_refl _)
  refine ⟨.ref s1.heap.objs.size, upd H1 s1.heap.objs.size (.lst xs), I1.laid (t' := s1.toks) (fun b u e => Heap.get?_push_of_some _ e) (Nat.le_refl _) ?_, rfl, q _ hf⟩
  exact ⟨z, us, 0, r, Heap.get?_push_size _ rfl⟩
end
abbrev Sp := List V → Hp → VK → XK → Prop
abbrev CXT := List Env → Hp → Shared → XK → Value → Shared → Prop
structure Env0 (P : Program) (w : World) (K : PySem.W.Frag) (mg : Str → Option Value) (base : Heap) (A : Around) (outer : List Env) (s : Shared) (H : Hp) : Prop where
  frames : A.frames = some outer
  mod : Mod K mg base
  bs : ∀ b o, base.get? b = some o → s.heap.get? b = some o ∧ H b = none
  bsz : base.objs.size ≤ s.heap.objs.size
  funs : s.heap.FunFrames base outer
  frf : ∀ b ∈ frs outer, H b = none
  hok : HOk P w H s.heap
  bare : AllBare s.gens
def CE (outer : List Env) (P : Program) (w : World) (H : Hp) (s : Shared) (Q : VK) (u : Value) (s' : Shared) : Prop :=
  ∃ v H', s'.os = s.os ∧ AllBare s'.gens ∧ Un (frs outer) [] H H' s.heap s'.heap ∧ HOk P w H' s'.heap ∧ RelV v u ∧ Q v H'
def CR (CX : CXT) (outer : List Env) (P : Program) (w : World) (H : Hp) (s : Shared) (Q : VK) (E : XK) (r : Result) (s' : Shared) : Prop :=
  match r with
  | .ok (.ret u) => CE outer P w H s Q u s'
  | .ok _ => False
  | .error e => CX outer H s E e s'
structure FnOk (P : Program) (w : World) (K : PySem.W.Frag) (mg : Str → Option Value) (base : Heap) (CX : CXT) (k : Nat) (f : Addr) (fd : FuncData) (ps : List Str) (sp : Sp) : Prop where
  len : ∀ vs H Q E, sp vs H Q E → vs.length = ps.length
  run : ∀ (A : Around) (outer : List Env) (s : Shared) (H : Hp) (args : Args) (us : List Value) (vs : List V) (Q : VK) (E : XK), Room k A → Env0 P w K mg base A outer s H → BindsTo s fd args (ps.zip us) → Vals vs us → sp vs H Q E →
    codeAny (model P w) A (.call (.ref f) args) (CR CX outer P w H s Q E) s
theorem FnOk.mono {P : Program} {w : World} {K : PySem.W.Frag} {mg : Str → Option Value} {base : Heap} {CX : CXT} {j k : Nat} {f : Addr} {fd : FuncData} {ps : List Str} {sp : Sp} (F : FnOk P w K mg base CX j f fd ps sp) (h : j ≤ k) :
    FnOk P w K mg base CX k f fd ps sp := ⟨F.len, fun A outer s H args us vs Q E hr => F.run A outer s H args us vs Q E (hr.mono h)⟩
theorem FnOk.imp {P : Program} {w : World} {K : PySem.W.Frag} {mg : Str → Option Value} {base : Heap} {CX : CXT} {k : Nat} {f : Addr} {fd : FuncData} {ps : List Str} {sp sp' : Sp} (F : FnOk P w K mg base CX k f fd ps sp)
    (h : ∀ vs H Q E, sp' vs H Q E → sp vs H Q E) : FnOk P w K mg base CX k f fd ps sp' :=
  ⟨fun vs H Q E q => F.len vs H Q E (h _ _ _ _ q), fun A outer s H args us vs Q E hr he hb hv hs => F.run A outer s H args us vs Q E hr he hb hv (h _ _ _ _ hs)⟩
theorem Env0.make {P : Program} {w : World} {K : PySem.W.Frag} {mg : Str → Option Value} {base : Heap} {A : Around} {outer : List Env} {s : Shared} {H : Hp} (e : Env0 P w K mg base A outer s H) (C : Addr) (us : List Value) (kw : List (Str × Value)) :
    Env0 P w K mg base (A.under (.builtin "type.__call__" ⟨.ref C :: us, kw⟩)) outer s H := ⟨by first | exact e.frames | (simpa [Around.under, Code.envs, Code.isFrame, pushEnvs] using e.frames), e.mod, e.bs, e.bsz, e.funs, e.frf, e.hok, e.bare⟩
theorem Env0.in1 {P : Program} {w : World} {K : PySem.W.Frag} {mg : Str → Option Value} {base : Heap} {A : Around} {outer : List Env} {s : Shared} {H : Hp} (e : Env0 P w K mg base A outer s H) :
    Env0 P w K mg base A.in1 outer s H := ⟨e.frames, e.mod, e.bs, e.bsz, e.funs, e.frf, e.hok, e.bare⟩
section
variable {X : Cx} {pins : List (Addr × Obj)} {σ : St} {H : Hp} {s s' : Shared}
theorem Inv.env0 (I : Inv X pins σ H s) : Env0 X.prog X.w X.K X.mg X.base X.A X.stack s H :=
  ⟨I.ok.frames, I.ok.mod, I.bs, Nat.le_trans I.ok.bsz I.sz, I.stack, I.stkFree, I.hok, I.bare⟩
theorem Inv.after {Q : VK} {u : Value} (I : Inv X pins σ H s) (h : CE X.stack X.prog X.w H s Q u s') : EP X pins σ Q u s' := by
  obtain ⟨v, H', os, bare, un, hok, r, q⟩ := h
  obtain ⟨hh, g, d, t, os'⟩ := s'
  obtain rfl : os' = s.os := os
  exact ⟨v, H', I.call (h' := hh) (g' := g) (d' := d) (t' := t) (ch := []) un hok bare (fun b z => absurd z (by simp)), r, q⟩
end
def tCall (sp : Sp) (dvs : List V) (E : XK) (t : TA) : TE := fun σ H Q => t σ H fun vs H1 => sp (vs ++ dvs) H1 Q E
def tMeth (C : Addr) (m : Str) (sp : Sp) (dvs : List V) (E : XK) (ta : TE) (t : TA) : TE := fun σ H Q => ta σ H fun x H1 => ∃ a dx fs, x = .ref a ∧ H1 a = some (.ins C dx fs) ∧ fs.lookup m = none ∧
  t σ H1 fun vs H2 => sp (x :: (vs ++ dvs)) H2 Q E
def tMake (C : Addr) (sp : Sp) (dvs : List V) (E : XK) (t : TA) : TE := fun σ H Q => t σ H fun vs H1 => ∀ x dx, H1 x = none → H1 dx = none → dx ≠ x →
  sp (.ref x :: (vs ++ dvs)) (upd (upd H1 dx (.own x)) x (.ins C dx [])) (fun v H2 => v = .non ∧ Q (.ref x) H2) E
def Binds (K : PySem.W.Frag) (fd : FuncData) (ps : List Str) (ds : List Value) : Prop :=
  ∀ (s : Shared) (us : List Value), K.In s.heap → (us ++ ds).length = ps.length → BindsTo s fd ⟨us, []⟩ (ps.zip (us ++ ds))
theorem Binds.all {K : PySem.W.Frag} {fd : FuncData} {ps : List Str} (h : ∀ us : List Value, us.length = ps.length → bindArgs fd ⟨us, []⟩ = pure (ps.zip us)) : Binds K fd ps [] := fun s us _ hl => by
  rw [List.append_nil] at hl ⊢
  exact .of_eq (h us hl)
def Passes (CX : CXT) (X : Cx) (E : XK) : Prop := ∀ (pins : List (Addr × Obj)) (σ : St) (H : Hp) (s : Shared) (e : Value) (s' : Shared), Inv X pins σ H s → CX X.stack H s E e s' → X.xe e s'
section
variable {X : Cx} {CX : CXT} {k : Nat} {f C : Addr} {fd : FuncData} {ps : List Str} {sp : Sp} {dvs : List V} {ds : List Value} {E : XK} {x m : Str} {p pos apos : Pos} {e o : Expr} {es : List Expr} {ta : TE} {t : TA}
theorem run_fn {pins : List (Addr × Obj)} {σ : St} {H : Hp} {s : Shared} {Q : VK} {us : List Value} {vs : List V} (F : FnOk X.prog X.w X.K X.mg X.base CX k f fd ps sp) (hr : Room k X.A) (hb : Binds X.K fd ps ds) (hd : Vals dvs ds) (hx : Passes CX X E)
    (I : Inv X pins σ H s) (r : Vals vs us) (h : sp (vs ++ dvs) H Q E) : wpAny (model X.prog X.w) X.A (call (.ref f) us) (EP X pins σ Q) X.xe s := by
  have r2 : Vals (vs ++ dvs) (us ++ ds) := r.append hd
  have hl : (us ++ ds).length = ps.length := by rw [← r2.length]; exact F.len _ _ _ _ h
  refine wpAny_call (codeAny_mono (F.run X.A X.stack s H ⟨us, []⟩ (us ++ ds) (vs ++ dvs) Q E hr I.env0 (hb s us I.kIn hl) r2 h) fun r s' hq => ?_)
  cases r with
  | error e => exact hx pins σ H s e s' I hq
  | ok fl =>
    cases fl with
    | ret u => exact I.after hq
    | next => exact False.elim hq
    | brk => exact False.elim hq
    | cont => exact False.elim hq
theorem pe_call (F : FnOk X.prog X.w X.K X.mg X.base CX k f fd ps sp) (hr : Room k X.A) (hg : Gl X x) (hm : X.mg x = some (.ref f)) (hk : PySem.W.keepIn X.K (.ref f) = true) (hb : Binds X.K fd ps ds) (hd : Vals dvs ds) (hx : Passes CX X E)
    (ha : PA X (e :: es) t) (hdb : (x == ("__debug__" : Str)) = false := by decide) (he : starEach (e :: es) X.env = (false, eval e X.env) :: starEach es X.env := by rfl) (hpl : (backTo pos (starEach es X.env)).any (·.1) = false := by rfl) :
    PE X (.Call (.Name x p) (e :: es) [] pos) (tCall sp dvs E t) := by
  intro pins s σ H Q I h
  refine wpAny_Call_Name_kw (ld_glob I hg hm ?_ hdb)
  refine PySem.W.callWith_K (h₀ := X.base) I.ok.mod.kin hk (thn (ha pos pins s σ H _ I h) fun us s1 ⟨vs, H1, I1, r, q⟩ => ⟨I1.kIn, ?_⟩) he hpl
  exact run_fn F hr hb hd hx I1 r q
theorem pe_meth {pl : Sem Bool} (he : PE X o ta) (c : Cls X.K C) (hm : Meth X.K C m f) (F : FnOk X.prog X.w X.K X.mg X.base CX k f fd ps sp) (hr : Room k X.A) (hb : Binds X.K fd ps ds) (hd : Vals dvs ds) (hx : Passes CX X E) (ha : PA X (e :: es) t)
    (hst : starEach (e :: es) X.env = (false, eval e X.env) :: starEach es X.env := by rfl) (hpl : (backTo pos (starEach es X.env)).any (·.1) = false := by rfl)
    (ht : eval (.Call (.Attribute o m apos) (e :: es) [] pos) X.env = (do
      let ov ← eval o X.env
      standAt apos.atName
      let (f, first) ← holding [ov] (getMethod ov m pl)
      callWith pos f first (backTo pos (starEach (e :: es) X.env)) (backToKw pos (keywordEach [] X.env))) := by rfl) :
    PE X (.Call (.Attribute o m apos) (e :: es) [] pos) (tMeth C m sp dvs E ta t) := by
  intro pins s σ H Q I h
  refine PySem.W.methodCall_KW (pl := pl) (thn (he pins s σ H _ I h) fun u s1 ⟨x, H1, I1, rx, a, dx, fs, ex, ea, l, q⟩ => ?_) ht
  subst ex
  obtain rfl : u = Value.ref a := rx
  refine getmeth_ok I1 ea c hm l ?_
  refine PySem.W.callWith_K (first := [.ref a]) (h₀ := X.base) I.ok.mod.kin hm.kp (thn (ha pos pins s1 σ H1 _ I1 q) fun us s2 ⟨vs, H2, I2, r, q2⟩ => ⟨I2.kIn, ?_⟩) hst hpl
  exact run_fn (us := .ref a :: us) (vs := .ref a :: vs) F hr hb hd hx I2 (.cons rfl r) q2
theorem pe_meth0 {pl : Sem Bool} (he : PE X o ta) (c : Cls X.K C) (hm : Meth X.K C m f) (F : FnOk X.prog X.w X.K X.mg X.base CX k f fd ps sp) (hr : Room k X.A) (hb : Binds X.K fd ps ds) (hd : Vals dvs ds) (hx : Passes CX X E)
    (ht : eval (.Call (.Attribute o m apos) [] [] pos) X.env = (do
      let ov ← eval o X.env
      standAt apos.atName
      let (f, first) ← holding [ov] (getMethod ov m pl)
      callWith pos f first (backTo pos (starEach [] X.env)) (backToKw pos (keywordEach [] X.env))) := by rfl) :
    PE X (.Call (.Attribute o m apos) [] [] pos) (tMeth C m sp dvs E ta tNil) := by
  intro pins s σ H Q I h
  refine PySem.W.methodCall_KW (pl := pl) (thn (he pins s σ H _ I h) fun u s1 ⟨x, H1, I1, rx, a, dx, fs, ex, ea, l, q⟩ => ?_) ht
  subst ex
  obtain rfl : u = Value.ref a := rx
  refine getmeth_ok I1 ea c hm l ?_
  exact PySem.W.callWith_K0 (first := [.ref a]) I1.kIn hm.kp (run_fn (us := [.ref a]) (vs := [.ref a]) F hr hb hd hx I1 (.cons rfl .nil) q)
structure Mk (K : PySem.W.Frag) (C f : Addr) : Prop where
  makes : PySem.W.makesIn K C = true
  init : PySem.W.findIn K (.ref C) "__init__" = some (some (.ref f))
  fn : PySem.W.isFn K (.ref f) = true
  kp : PySem.W.keepIn K (.ref C) = true
theorem run_make {pins : List (Addr × Obj)} {σ : St} {H : Hp} {s : Shared} {Q : VK} {us : List Value} {vs : List V} (M : Mk X.K C f) (F : FnOk X.prog X.w X.K X.mg X.base CX k f fd ps sp) (hr : Room (k + 1) X.A) (hb : Binds X.K fd ps ds) (hd : Vals dvs ds)
    (hx : Passes CX X E) (I : Inv X pins σ H s) (r : Vals vs us)
    (h : ∀ x dx, H x = none → H dx = none → dx ≠ x → sp (.ref x :: (vs ++ dvs)) (upd (upd H dx (.own x)) x (.ins C dx [])) (fun v H2 => v = .non ∧ Q (.ref x) H2) E) :
    wpAny (model X.prog X.w) X.A (call (.ref C) us) (EP X pins σ Q) X.xe s := by
  have hq := h (s.heap.objs.size + 1) s.heap.objs.size (I.hok.fresh (Nat.le_succ _)) (I.hok.fresh (Nat.le_refl _)) (Nat.ne_of_lt (Nat.lt_succ_self _))
  have I2 := Inv.made (C := C) I
  have r2 : Vals (V.ref (s.heap.objs.size + 1) :: (vs ++ dvs)) (Value.ref (s.heap.objs.size + 1) :: (us ++ ds)) := .cons rfl (r.append hd)
  have hl : (Value.ref (s.heap.objs.size + 1) :: us ++ ds).length = ps.length := by
    have e := r2.length
    rw [F.len _ _ _ _ hq] at e
    exact e.symm
  refine wpAny_call (make_map (f := f) I.kIn M.makes M.init (beq_iff_eq.mp M.fn) (codeAny_mono (F.run _ X.stack _ _ ⟨Value.ref (s.heap.objs.size + 1) :: us, []⟩ (Value.ref (s.heap.objs.size + 1) :: (us ++ ds)) _ _ E (hr.make C us [])
    (I2.env0.make C us []) (hb _ (Value.ref (s.heap.objs.size + 1) :: us) I2.kIn hl) r2 hq) fun r s' hq' => ?_))
  cases r with
  | error e => exact hx pins σ _ _ e s' I2 hq'
  | ok fl =>
    cases fl with
    | ret u =>
      obtain ⟨v, H', I3, rv, ev, q3⟩ := I2.after hq'
      subst ev
      exact ⟨rv, ⟨V.ref (s.heap.objs.size + 1), H', I3, rfl, q3⟩⟩
    | next => exact False.elim hq'
    | brk => exact False.elim hq'
    | cont => exact False.elim hq'
theorem pe_make (M : Mk X.K C f) (F : FnOk X.prog X.w X.K X.mg X.base CX k f fd ps sp) (hr : Room (k + 1) X.A) (hg : Gl X x) (hm : X.mg x = some (.ref C)) (hb : Binds X.K fd ps ds) (hd : Vals dvs ds) (hx : Passes CX X E)
    (ha : PA X (e :: es) t) (hdb : (x == ("__debug__" : Str)) = false := by decide) (he : starEach (e :: es) X.env = (false, eval e X.env) :: starEach es X.env := by rfl) (hpl : (backTo pos (starEach es X.env)).any (·.1) = false := by rfl) :
    PE X (.Call (.Name x p) (e :: es) [] pos) (tMake C sp dvs E t) := by
  intro pins s σ H Q I h
  refine wpAny_Call_Name_kw (ld_glob I hg hm ?_ hdb)
  refine PySem.W.callWith_K (h₀ := X.base) I.ok.mod.kin M.kp (thn (ha pos pins s σ H _ I h) fun us s1 ⟨vs, H1, I1, r, q⟩ => ⟨I1.kIn, ?_⟩) he hpl
  exact run_make M F hr hb hd hx I1 r q
theorem pe_make0 (M : Mk X.K C f) (F : FnOk X.prog X.w X.K X.mg X.base CX k f fd ps sp) (hr : Room (k + 1) X.A) (hg : Gl X x) (hm : X.mg x = some (.ref C)) (hb : Binds X.K fd ps ds) (hd : Vals dvs ds) (hx : Passes CX X E)
    (hdb : (x == ("__debug__" : Str)) = false := by decide) : PE X (.Call (.Name x p) [] [] pos) (tMake C sp dvs E tNil) := by
  intro pins s σ H Q I h
  refine wpAny_Call_Name_kw (ld_glob I hg hm ?_ hdb)
  exact PySem.W.callWith_K0 I.kIn M.kp (run_make (us := []) M F hr hb hd hx I .nil h)
end
section
variable {X : Cx} {CX : CXT} {k : Nat} {f C : Addr} {fd : FuncData} {ps ks : List Str} {sp : Sp} {E : XK} {x m : Str} {p pos apos kpos : Pos} {e o : Expr} {es : List Expr} {kws : List Keyword} {te ta : TE} {t tk : TA} {nm : Option Str}
structure KBinds (K : PySem.W.Frag) (fd : FuncData) (ps ks : List Str) (g : List Value → List Value → List Value) (gV : List V → List V → List V) : Prop where
  to : ∀ (s : Shared) (us ws : List Value), K.In s.heap → (g us ws).length = ps.length → BindsTo s fd ⟨us, ks.zip ws⟩ (ps.zip (g us ws))
  rel : ∀ {vs : List V} {us : List Value} {zs : List V} {ws : List Value}, Vals vs us → Vals zs ws → Vals (gV vs zs) (g us ws)
variable {g : List Value → List Value → List Value} {gV : List V → List V → List V}
end
structure FnScope (N P : List Str) (sc : Scope) : Prop where
  kind : sc.kind = .function
  co : sc.isCoroutine = false
  gen : sc.isGenerator = false
  nd : N.Nodup
  pre : N.take P.length = P
  par : ∀ x ∈ P, sc.names.lookup x = some .local ∨ sc.names.lookup x = some .cell
  nofree : ∀ y ∈ sc.names, y.2 ≠ .free
theorem bindL_out {kindOf : Str → Option NameKind} {x : Str} : ∀ {binds : List (Str × Value)} {m : Str → Option Value}, (∀ v, (x, v) ∉ binds) → bindL kindOf binds m x = m x
  | [], _, _ => rfl
  | (n, v) :: r, m, h => by
    unfold bindL
    rw [bindL_out fun w hw => h w (List.mem_cons_of_mem _ hw)]
    split
    · have : x ≠ n := by rintro rfl; exact h v List.mem_cons_self
      simp [this]
    · rfl
theorem bindC_out {kindOf : Str → Option NameKind} {x : Str} : ∀ {binds : List (Str × Value)} {m : Str → Option Value}, (∀ v, (x, v) ∉ binds) → bindC kindOf binds m x = m x
  | [], _, _ => rfl
  | (n, v) :: r, m, h => by
    unfold bindC
    rw [bindC_out fun w hw => h w (List.mem_cons_of_mem _ hw)]
    split
    · rfl
    · have : x ≠ n := by rintro rfl; exact h v List.mem_cons_self
      simp [this]
theorem bindL_get {kindOf : Str → Option NameKind} {x : Str} {v : Value} : ∀ {P : List Str} {vs : List Value} {i : Nat} {m : Str → Option Value}, P.Nodup → P[i]? = some x → vs[i]? = some v → kindOf x = some .local →
    bindL kindOf (P.zip vs) m x = some v
  | [], _, _, _, _, h, _, _ => by simp at h
  | _ :: _, [], _, _, _, _, h, _ => by simp at h
  | p :: P, w :: vs, 0, m, nd, h1, h2, hk => by
    simp at h1 h2; subst h1; subst h2
    show bindL kindOf ((p, w) :: P.zip vs) m p = _
    unfold bindL
    rw [bindL_out fun v hv => (List.nodup_cons.mp nd).1 (List.of_mem_zip hv).1, if_pos hk]
    simp
  | p :: P, w :: vs, i + 1, m, nd, h1, h2, hk => by
    show bindL kindOf ((p, w) :: P.zip vs) m x = _
    unfold bindL
    exact bindL_get (i := i) (List.nodup_cons.mp nd).2 (by simpa using h1) (by simpa using h2) hk
theorem bindC_get {kindOf : Str → Option NameKind} {x : Str} {v : Value} : ∀ {P : List Str} {vs : List Value} {i : Nat} {m : Str → Option Value}, P.Nodup → P[i]? = some x → vs[i]? = some v → kindOf x ≠ some .local →
    bindC kindOf (P.zip vs) m x = some v
  | [], _, _, _, _, h, _, _ => by simp at h
  | _ :: _, [], _, _, _, _, h, _ => by simp at h
  | p :: P, w :: vs, 0, m, nd, h1, h2, hk => by
    simp at h1 h2; subst h1; subst h2
    show bindC kindOf ((p, w) :: P.zip vs) m p = _
    unfold bindC
    rw [bindC_out fun v hv => (List.nodup_cons.mp nd).1 (List.of_mem_zip hv).1, if_neg hk]
    simp
  | p :: P, w :: vs, i + 1, m, nd, h1, h2, hk => by
    show bindC kindOf ((p, w) :: P.zip vs) m x = _
    unfold bindC
    exact bindC_get (i := i) (List.nodup_cons.mp nd).2 (by simpa using h1) (by simpa using h2) hk
def start (N : List Str) (vs : List V) : St := vs.map some ++ List.replicate (N.length - vs.length) none
def cxOf (CX : CXT) (P : Program) (w : World) (K : PySem.W.Frag) (mg : Str → Option Value) (base : Heap) (N : List Str) (qual : Str) (scope : Scope) (f : Addr) (cd : Value) (A : Around) (outer : List Env) (s : Shared) (H : Hp) (E : XK) : Cx where
  prog := P
  w := w
  K := K
  mg := mg
  base := base
  A := A.deeper (envOfC qual scope s.heap.objs.size f cd)
  N := N
  s_0 := s
  H_0 := H
  env := envOfC qual scope s.heap.objs.size f cd
  outer := outer
  stack := envOfC qual scope s.heap.objs.size f cd :: outer
  ex := []
  calm := true
  fn := fun _ => true
  pn := []
  xe := fun e s' => wpAny (model P w) (A.deeper (envOfC qual scope s.heap.objs.size f cd)) (leaving (envOfC qual scope s.heap.objs.size f cd) e) (fun _ s'' => CX outer H s E e s'') (fun e' s'' => CX outer H s E e' s'') s'
theorem cell_has {sc : Scope} {n : Nat} {x : Str} (h : sc.names.lookup x = some .cell) : ∃ c, (cellsFrom n sc.names []).lookup x = some c := by
  have q := PySem.W.cellsFrom_some sc.names n [] (.inl h)
  exact Option.isSome_iff_exists.mp q
theorem inv_start {CX : CXT} {P : Program} {w : World} {K : PySem.W.Frag} {mg : Str → Option Value} {base : Heap} {N ps : List Str} {qual : Str} {scope : Scope} {f : Addr} {cd : Value} {A : Around} {outer : List Env} {s s1 : Shared} {H : Hp} {E : XK} {us : List Value} {vs : List V}
    (S : FnScope N ps scope) (hd : A.handled = none) (e0 : Env0 P w K mg base A outer s H) (hl : vs.length = ps.length) (r : Vals vs us)
    (x : InCallC s s.heap.objs.size (bindL (envOfC qual scope s.heap.objs.size f cd).kindOf (ps.zip us) fun _ => none) (cellsFrom (s.heap.objs.size + 1) scope.names []) (bindC (envOfC qual scope s.heap.objs.size f cd).kindOf (ps.zip us) fun _ => none) s1) :
    Inv (cxOf CX P w K mg base N qual scope f cd A outer s H E) [] (start N vs) H s1 := by
  have hpl : ps.length ≤ N.length := by have := congrArg List.length S.pre; rw [List.length_take] at this; omega
  obtain ⟨h1, tk, rfl, hk⟩ := x.done
  have noA : ∀ b : Addr, b ∉ (cxOf CX P w K mg base N qual scope f cd A outer s H E).ex := fun b z => absurd (show b ∈ ([] : List Addr) from z) (by simp)
  refine ⟨⟨e0.mod, S.kind, rfl, rfl, Nat.le_refl _, fun y z c h1 h2 => ?_, fun y hy => ?_, fun y c _ h => ?_, fun _ => hd, Around.frames_deeper e0.frames, .inr ⟨rfl, rfl⟩, fun b z => absurd z (noA b), e0.bs, e0.bsz, fun b _ _ => noA b, fun b z => absurd z (noA b), e0.funs, e0.frf⟩,
    rfl, e0.bare, Un.kept hk, ⟨_, x.toInCall.ns, fun i y v h1 h2 h3 => ?_⟩, fun y c h => ⟨_, x.cell y c h⟩, e0.hok.fresh (Nat.le_refl _), fun y c h => ?_, fun p hp => absurd (show p ∈ ([] : List (Addr × Obj)) from hp) (by simp), e0.hok.kept hk, ?_⟩
  · exact name_of_addr x.apart (PySem.mem_of_lookup h1) (PySem.mem_of_lookup h2)
  · have hy : scope.names.lookup y = some .cell ∨ scope.names.lookup y = some .free := hy
    rcases hy with hy | hy
    · exact cell_has hy
    · exact absurd rfl (S.nofree _ (PySem.mem_of_lookup hy))
  · exact Nat.le_of_lt (x.above y c (PySem.mem_of_lookup h))
  · have hi : i < vs.length := by
      unfold start at h2
      by_cases hi : i < vs.length
      · exact hi
      · rw [List.getElem?_append_right (by simpa using hi)] at h2
        rw [List.getElem?_replicate] at h2
        split at h2 <;> cases h2
    have ha : vs[i]? = some v := by
      unfold start at h2
      rw [List.getElem?_append_left (by simpa using hi), List.getElem?_map] at h2
      cases e : vs[i]? with
      | none => rw [e] at h2; cases h2
      | some a => rw [e] at h2; cases h2; rfl
    obtain ⟨u, hu, rv⟩ := r.get ha
    have hp : ps[i]? = some y := by
      rw [← S.pre, List.getElem?_take_of_lt (by omega)]; exact h1
    have ndP : ps.Nodup := by rw [← S.pre]; exact S.nd.sublist (List.take_sublist _ _)
    refine ⟨u, rv, ?_⟩
    rcases S.par y (List.mem_of_getElem? hp) with k | k
    · exact .inl ⟨k, bindL_get ndP hp hu k⟩
    · obtain ⟨c, e⟩ := cell_has (n := s.heap.objs.size + 1) k
      refine .inr ⟨.inl k, c, e, ?_⟩
      have q := x.cell y c e
      rw [bindC_get ndP hp hu (by show scope.names.lookup y ≠ _; rw [k]; decide)] at q
      exact q
  · exact e0.hok.fresh (Nat.le_of_lt (x.above y c (PySem.mem_of_lookup h)))
  · unfold start
    show _ = N.length
    rw [List.length_append, List.length_map, List.length_replicate]
    omega
theorem fn_of {CX : CXT} {P : Program} {w : World} {K : PySem.W.Frag} {mg : Str → Option Value} {base : Heap} {k : Nat} {f : Addr} {name qual : Str} {params : Arguments} {body : List Stmt} {scope : Scope} {dV kV doc pm cdv ct oc : Value} {an od : Option Addr}
    {osl : Array (Option Value)} {N ps : List Str} {sp : Sp} (lk : K.lookup f = some ⟨oc, od, .func (PySem.W.fnOf name qual params body scope dV kV doc pm an cdv ct), osl⟩) (hcd : PySem.W.codeIn K cdv qual = true) (S : FnScope N ps scope)
    (len : ∀ vs H Q E, sp vs H Q E → vs.length = ps.length)
    (hbody : ∀ (A : Around) (outer : List Env) (s : Shared) (H : Hp) (vs : List V) (Q : VK) (E : XK), Room k (A.deeper (envOfC qual scope s.heap.objs.size f cdv)) → sp vs H Q E →
      ∃ t, PSs (cxOf CX P w K mg base N qual scope f cdv A outer s H E) body t ∧ t { nx := fun _ H' => Q .non H', rt := Q } (start N vs) H) :
    FnOk P w K mg base CX (k + 1) f (PySem.W.fnOf name qual params body scope dV kV doc pm an cdv ct) ps sp := by
  refine ⟨len, fun A outer s H args us vs Q E hr e0 hb r hsp => ?_⟩
  have hl := len _ _ _ _ hsp
  have KX : K.In s.heap := e0.mod.kin.keeps fun b o e => (e0.bs b o e).1
  have lim : s.heap.NoLimit := e0.mod.nolimit.keeps fun b o e => (e0.bs b o e).1
  have hkind : ∀ y ∈ ps.zip us, scope.names.lookup y.1 = some .local ∨ (scope.names.lookup y.1 = some .cell ∧ ((cellsFrom (s.heap.objs.size + 1) scope.names []).lookup y.1).isSome = true) := fun ⟨n, v⟩ hy => by
    rcases S.par n (List.of_mem_zip hy).1 with q | q
    · exact .inl q
    · exact .inr ⟨q, PySem.W.cellsFrom_some _ _ _ (.inl q)⟩
  refine codeAny_call_function hr.depth (KX _ _ lk) rfl S.co S.gen rfl (PySem.W.codeRec_of KX hcd) (hb _ _ _ _ ?_)
  refine wpAny_newFunctionEnv_cells S.kind hkind fun env he s1 x => ?_
  subst he
  refine ⟨lim.keeps x.toInCall.keep, codeAny_func ?_⟩
  obtain ⟨t, ht, hq⟩ := hbody A outer s H vs Q E (hr.deeper _) hsp
  have I : Inv (cxOf CX P w K mg base N qual scope f cdv A outer s H E) [] (start N vs) H s1 := inv_start S hr.hd e0 hl r x
  refine wpAny_mono (ht [] s1 (start N vs) H _ I hq) (fun fl s' hs => ?_) fun e s' hs => hs
  have fin : ∀ {σ' : St} {H' : Hp} {v : V} {u : Value}, Inv (cxOf CX P w K mg base N qual scope f cdv A outer s H E) [] σ' H' s' → RelV v u → Q v H' → CE outer P w H s Q u s' :=
    fun {σ' H' v u} J rv q => ⟨v, H', J.os, J.bare, J.base, J.hok, rv, q⟩
  cases fl with
  | ret u =>
    obtain ⟨v, σ', H', J, rv, q⟩ := hs
    exact fin J rv q
  | next =>
    obtain ⟨σ', H', J, q⟩ := hs
    exact fin (v := V.non) (u := Value.none) J rfl q
  | brk =>
    obtain ⟨_, _, _, q⟩ := hs
    exact False.elim q
  | cont =>
    obtain ⟨_, _, _, q⟩ := hs
    exact False.elim q
end L2
namespace L2
open PySem PySem.Spec PyProof.Rows
section
variable {X : Cx} {x : Str} {p pos : Pos} {e : Expr} {es : List Expr} {t : TA} {id T : String} {r : List V → Hp → VK → Prop}
def tCB (r : List V → Hp → VK → Prop) (t : TA) : TE := fun σ H Q => t σ H fun vs H1 => r vs H1 Q
theorem pe_callB (hc : CallR X (.builtin id) r) (hg : Gl X x) (hm : X.mg x = none) (hv : bootBuiltins x = some (.builtin id)) (ha : PA X (e :: es) t) (hn : x ≠ "__name__" := by decide) (hdb : (x == ("__debug__" : Str)) = false := by decide)
    (he : starEach (e :: es) X.env = (false, eval e X.env) :: starEach es X.env := by rfl) (hpl : (backTo pos (starEach es X.env)).any (·.1) = false := by rfl) : PE X (.Call (.Name x p) (e :: es) [] pos) (tCB r t) := by
  intro pins s σ H Q I h
  refine wpAny_Call_Name_kw (ld_blt I hg hm hv ?_ hn hdb)
  exact PyProof.Rows.callWith_builtin1 (thn (ha pos pins s σ H _ I h) fun us s1 ⟨vs, H1, I1, r1, q1⟩ => hc pins s1 σ H1 vs us Q I1 r1 q1) he hpl
end
end L2
namespace HT
open PySem PyProof.Rows
section
open PySem.SeqAt
open PySem.AutoSeq1 (wpAny_loadPart')
open PySem.MeetsSeq PySem.MeetsSeq2 PySem.MeetsSeq3
end
section
variable {prog : Program} {w : World} {A : Around} {E : Value → Shared → Prop} {s : Shared}
def sIx (n d : Nat) : Option Int → Nat
  | none => d
  | some v => if v < 0 then (v + (n : Int)).toNat else min v.toNat n
theorem sIx_none (n d : Nat) : sIx n d none = d := rfl
theorem sIx_nat (n d k : Nat) : sIx n d (some (k : Int)) = min k n := by
  show (if (k : Int) < 0 then ((k : Int) + (n : Int)).toNat else min (k : Int).toNat n) = min k n
  rw [if_neg (by omega), Int.toNat_natCast]
end
end HT
namespace L2
open PySem PySem.Spec PyProof.Rows
abbrev TO := St → Hp → (Option Int → Hp → Prop) → Prop
def PO (X : Cx) (e : Option Expr) (t : TO) : Prop :=
  ∀ (pins : List (Addr × Obj)) (s : Shared) (σ : St) (H : Hp) (Q : Option Int → Hp → Prop), Inv X pins σ H s → t σ H Q →
    wpAny (model X.prog X.w) X.A (evalPart e X.env) (fun u s' => ∃ o H', Inv X pins σ H' s' ∧ IsPart u o ∧ Q o H') X.xe s
def tNoPart : TO := fun _ H Q => Q none H
def tPart (t : TE) : TO := fun σ H Q => t σ H fun x H1 => ∃ i, x = .int i ∧ Q (some i) H1
section
variable {X : Cx} {e : Expr} {te : TE} {lo hi : Option Expr} {tl th : TO} {pos p2 : Pos}
theorem po_none : PO X none tNoPart := by
  intro pins s σ H Q I h
  rw [evalPart_none]
  exact wpAny_pure ⟨none, H, I, .none, h⟩
theorem po_some (h : PE X e te) : PO X (some e) (tPart te) := by
  intro pins s σ H Q I hw
  rw [evalPart_some]
  refine thn (h pins s σ H _ I hw) fun u s1 ⟨x, H1, I1, r1, q1⟩ => ?_
  obtain ⟨i, rfl, q⟩ := q1
  obtain ⟨t, rfl⟩ := r1
  exact ⟨some i, H1, I1, .int i t, q⟩
def SlR (X : Cx) (r : V → Option Int → Option Int → Hp → VK → Prop) : Prop :=
  ∀ (pins : List (Addr × Obj)) (s : Shared) (σ : St) (H : Hp) (x : V) (v vl vu : Value) (lo hi : Option Int) (sl : Addr) (Q : VK), Inv X pins σ H s → RelV x v → s.heap.IsSliceOf sl vl vu .none → IsPart vl lo → IsPart vu hi → r x lo hi H Q →
    ∃ T id, typeLookup (.type T) "__getitem__" = pure (some (.builtin id)) ∧ s.TypeIs v T ∧ wpAny (model X.prog X.w) X.A (getItem v (.ref sl)) (EP X pins σ Q) X.xe s
theorem SlR.or {r r' : V → Option Int → Option Int → Hp → VK → Prop} (h : SlR X r) (h' : SlR X r') : SlR X (fun x lo hi H Q => r x lo hi H Q ∨ r' x lo hi H Q) := by
  intro pins s σ H x v vl vu lo hi sl Q I rx hs pl pu q
  rcases q with q | q
  · exact h pins s σ H x v vl vu lo hi sl Q I rx hs pl pu q
  · exact h' pins s σ H x v vl vu lo hi sl Q I rx hs pl pu q
def tSl (r : V → Option Int → Option Int → Hp → VK → Prop) (te : TE) (tl th : TO) : TE := fun σ H Q => te σ H fun x H1 => tl σ H1 fun l H2 => th σ H2 fun u H3 => r x l u H3 Q
theorem pe_slice {r : V → Option Int → Option Int → Hp → VK → Prop} (hr : SlR X r) (he : PE X e te) (hl : PO X lo tl) (hu : PO X hi th) : PE X (.Subscript e (.Slice lo hi none p2) pos) (tSl r te tl th) := by
  intro pins s σ H Q I h
  refine Subscript_ (thn (he pins s σ H _ I h) fun v s1 ⟨x, H1, I1, r1, q1⟩ => ?_)
  refine wpAny_Slice (thn (hl pins s1 σ H1 _ I1 q1) fun vl s2 ⟨l, H2, I2, pl, q2⟩ => thn (hu pins s2 σ H2 _ I2 q2) fun vu s3 ⟨u, H3, I3, pu, q3⟩ => ?_)
  rw [evalPart_none]
  refine wpAny_pure ?_
  have I4 : Inv X pins σ H3 { s3 with heap := s3.heap.push { cls := .type "slice", data := .fields #[vl, vu, .none] } } := I3.kept (t' := s3.toks) fun b ob q => Heap.get?_push_of_some _ q
  obtain ⟨T, id, hT, ht, hg⟩ := hr pins { s3 with heap := s3.heap.push { cls := .type "slice", data := .fields #[vl, vu, .none] } } σ H3 x v vl vu l u s3.heap.objs.size Q I4 r1 (Heap.IsSliceOf.new ..) pl pu q3
  show wpAny (model X.prog X.w) X.A (subscriptTail e (.Slice lo hi none p2) v (.ref s3.heap.objs.size)) (EP X pins σ Q) X.xe { s3 with heap := s3.heap.push { cls := .type "slice", data := .fields #[vl, vu, .none] } }
  exact tail_any (ops := [.ref s3.heap.objs.size, v]) ht hT hg (by with_unfolding_all rfl)
def cutV (xs : List V) (lo hi : Option Int) : List V := (xs.drop (HT.sIx xs.length 0 lo)).take (HT.sIx xs.length xs.length hi - HT.sIx xs.length 0 lo)
theorem cutV_length (xs : List V) (lo hi : Option Int) : (cutV xs lo hi).length ≤ xs.length := by
  unfold cutV
  rw [List.length_take, List.length_drop]
  omega
end
end L2
namespace L2
open PySem PySem.Spec PyProof.Rows
def ixN (n : Nat) (i : Int) : Option Nat := if 0 ≤ i then (if i < n then some i.toNat else none) else if -(n : Int) ≤ i then some (i + n).toNat else none
def atI {α : Type} (xs : List α) (i : Int) : Option α := (ixN xs.length i).bind fun j => xs[j]?
theorem ixN_seq {n : Nat} {i : Int} {j : Nat} (h : ixN n i = some j) : seqIndex? i n = some j ∧ j < n ∧ -(n : Int) ≤ i ∧ i < n := by
  unfold ixN at h
  by_cases h0 : 0 ≤ i
  · rw [if_pos h0] at h
    by_cases h1 : i < n
    · rw [if_pos h1] at h
      have e : i.toNat = j := Option.some.inj h
      exact ⟨by rw [seqIndex_of h0 h1, e], by omega, by omega, h1⟩
    · rw [if_neg h1] at h; cases h
  · rw [if_neg h0] at h
    by_cases h1 : -(n : Int) ≤ i
    · rw [if_pos h1] at h
      have e : (i + n).toNat = j := Option.some.inj h
      exact ⟨by rw [seqIndex_neg (by omega) h1, e], by omega, h1, by omega⟩
    · rw [if_neg h1] at h; cases h
theorem atI_get {α : Type} {xs : List α} {i : Int} {v : α} (h : atI xs i = some v) : ∃ j, seqIndex? i xs.length = some j ∧ xs[j]? = some v ∧ j < xs.length ∧ -(xs.length : Int) ≤ i ∧ i < xs.length := by
  unfold atI at h
  cases e : ixN xs.length i with
  | none => rw [e] at h; cases h
  | some j =>
    rw [e] at h
    obtain ⟨h1, h2, h3, h4⟩ := ixN_seq e
    exact ⟨j, h1, h, h2, h3, h4⟩
theorem atI_nat {α : Type} {xs : List α} {j : Nat} {v : α} (h : xs[j]? = some v) : atI xs (j : Int) = some v := by
  have hj : j < xs.length := (List.getElem?_eq_some_iff.mp h).1
  have e : ixN xs.length (j : Int) = some j := by
    unfold ixN
    rw [if_pos (by omega), if_pos (by omega)]; simp
  unfold atI; rw [e]; exact h
def PlainIx (b : Expr) : Prop := ∀ o i, subscripted b false o i = operate [o, i] (getItem o i)
def IxR (X : Cx) (r : R2) : Prop :=
  ∀ (value slice : Expr) (pins : List (Addr × Obj)) (s : Shared) (σ : St) (H : Hp) (x y : V) (v u : Value) (Q : VK), Inv X pins σ H s → RelV x v → RelV y u → r x y H Q →
    subscripted slice false v u = operate [v, u] (getItem v u) → wpAny (model X.prog X.w) X.A (subscriptTail value slice v u) (EP X pins σ Q) X.xe s
def MtR (X : Cx) (id : String) (r : V → List V → Hp → VK → Prop) : Prop :=
  ∀ (pins : List (Addr × Obj)) (s : Shared) (σ : St) (H : Hp) (x : V) (xs : List V) (v : Value) (us : List Value) (Q : VK), Inv X pins σ H s → RelV x v → Vals xs us → r x xs H Q →
    wpAny (model X.prog X.w) X.A (call (.builtin id) (v :: us)) (EP X pins σ Q) X.xe s
section
variable {X : Cx} {a b : Expr} {ta tb : TE} {pos : Pos}
theorem IxR.or {r r' : R2} (h : IxR X r) (h' : IxR X r') : IxR X (fun x y H Q => r x y H Q ∨ r' x y H Q) := by
  intro value slice pins s σ H x y v u Q I rx ry q hs
  rcases q with q | q
  · exact h value slice pins s σ H x y v u Q I rx ry q hs
  · exact h' value slice pins s σ H x y v u Q I rx ry q hs
theorem MtR.or {id : String} {r r' : V → List V → Hp → VK → Prop} (h : MtR X id r) (h' : MtR X id r') : MtR X id (fun x xs H Q => r x xs H Q ∨ r' x xs H Q) := by
  intro pins s σ H x xs v us Q I rx rs q
  rcases q with q | q
  · exact h pins s σ H x xs v us Q I rx rs q
  · exact h' pins s σ H x xs v us Q I rx rs q
theorem pe_ix {r : R2} (hr : IxR X r) (ha : PE X a ta) (hb : PE X b tb) (hs : PlainIx b) : PE X (.Subscript a b pos) (tOp r ta tb) := by
  intro pins s σ H Q I h
  exact Subscript_ (binT ha hb I h fun v u s2 x y H2 I2 rx ry q => hr a b pins s2 σ H2 x y v u Q I2 rx ry q (hs _ _))
def rIxL (K : PySem.W.Frag) : R2 := fun x y H Q => ∃ p xs i v, x = .ref p ∧ y = .int i ∧ SqL K H p xs ∧ atI xs i = some v ∧ Q v H
def rIxT (K : PySem.W.Frag) : R2 := fun x y H Q => ∃ p xs i v, x = .ref p ∧ y = .int i ∧ SqT K H p xs ∧ atI xs i = some v ∧ Q v H
theorem ix_list : IxR X (rIxL X.K) := by
  intro value slice pins s σ H x y v u Q I rx ry h hs
  obtain ⟨p, xs, i, z, rfl, rfl, hq, he, q⟩ := h
  cases rx
  obtain ⟨t, rfl⟩ := ry
  obtain ⟨its, r, pl, hz⟩ := I.list hq
  obtain ⟨j, h1, h2, h3, h4, h5⟩ := atI_get he
  obtain ⟨w, ew, rw'⟩ := r.get h2
  have hl := r.length
  have hn := line63
  have fin : EP X pins σ Q w s := ⟨z, H, I, rw', q⟩
  by_cases h0 : 0 ≤ i
  · have hj : i.toNat = j := by
      rw [seqIndex_of h0 h5] at h1
      exact Option.some.inj h1
    exact item_listR pl.isList h0 (by omega) (by rw [hj]; simpa using ew) fin hs
  · have hj : (i + (its.toArray.size : Int)).toNat = j := by
      rw [seqIndex_neg (by omega) h4] at h1
      rw [List.size_toArray, ← hl]
      exact Option.some.inj h1
    exact subscriptTail_builtinR (x := w) pl.isList.typeIs slot_list_getitem.lookup
      (wpAny_getItem_list_neg (Q := fun r s' => r = w ∧ EP X pins σ Q r s') pl.isList (by omega) (by rw [List.size_toArray] <;> omega) (by omega) (by rw [hj]; simpa using ew) ⟨rfl, fin⟩) hs
theorem ix_tup : IxR X (rIxT X.K) := by
  intro value slice pins s σ H x y v u Q I rx ry h hs
  obtain ⟨p, xs, i, z, rfl, rfl, hq, he, q⟩ := h
  cases rx
  obtain ⟨t, rfl⟩ := ry
  obtain ⟨its, r, pl, hz⟩ := I.tuple hq
  obtain ⟨j, h1, h2, h3, h4, h5⟩ := atI_get he
  obtain ⟨w, ew, rw'⟩ := r.get h2
  have hl := r.length
  have hn := line63
  have fin : EP X pins σ Q w s := ⟨z, H, I, rw', q⟩
  exact subscriptTail_builtinR (x := w) pl.typeIs slot_tuple_getitem.lookup
    (getItem_tuple (j := j) (Q := fun r s' => r = w ∧ EP X pins σ Q r s') pl (by omega) (by omega) (by rw [List.size_toArray, ← hl]; exact h1) (by simpa using ew) ⟨rfl, fin⟩) hs
theorem mapSeq_set (its : List Value) (n j : Nat) (u : Value) : Obj.mapSeq (·.setIfInBounds j u) { cls := .type "list", data := .seq its.toArray n } = { cls := .type "list", data := .seq (its.set j u).toArray n } := by
  simp [Obj.mapSeq]
theorem Inv.lst {pins : List (Addr × Obj)} {σ : St} {H : Hp} {s : Shared} {p : Addr} {xs : List V} (I : Inv X pins σ H s) (h : H p = some (.lst xs)) :
    ∃ (its : List Value) (n : Nat), Vals xs its ∧ s.heap.get? p = some { cls := .type "list", data := .seq its.toArray n } ∧ xs.length ≤ sizeLine := by
  obtain ⟨z, its, n, r, e⟩ := I.hok p _ h
  exact ⟨its, n, r, e, z⟩
theorem Inv.lstUpd {pins : List (Addr × Obj)} {σ : St} {H : Hp} {s : Shared} {p : Addr} {xs ys : List V} {its its' : List Value} {n n' : Nat} {f : Obj → Obj} (I : Inv X pins σ H s) (h : H p = some (.lst xs))
    (ho : s.heap.get? p = some { cls := .type "list", data := .seq its.toArray n }) (hf : f { cls := .type "list", data := .seq its.toArray n } = { cls := .type "list", data := .seq its'.toArray n' }) (r : Vals ys its') (hz : ys.length ≤ sizeLine) (t : Nat) :
    Inv X pins σ (upd H p (.lst ys)) { s with heap := s.heap.update p f, toks := t } := by
  have e : (s.heap.update p f).get? p = some { cls := .type "list", data := .seq its'.toArray n' } := by
    rw [Heap.get?_update_self f ho (by rw [hf] <;> rfl), hf]
  refine I.write (x := p) (e := p) (by rw [h]; trivial) (.inl rfl) (fun b u hb q => (Heap.get?_update_other _ _ (Ne.symm hb)).trans q) ⟨_, e⟩ ?_
  exact ⟨hz, its', n', r, e⟩
def rSetL : V → V → V → Hp → (Hp → Prop) → Prop := fun o i v H Q => ∃ p xs k j, o = .ref p ∧ i = .int k ∧ H p = some (.lst xs) ∧ ixN xs.length k = some j ∧ Q (upd H p (.lst (xs.set j v)))
theorem set_list : PSet X rSetL := by
  intro pins s σ H o i v ov iv u Q I ro ri rv h
  obtain ⟨p, xs, k, j, rfl, rfl, hp, hj, q⟩ := h
  cases ro
  obtain ⟨t, rfl⟩ := ri
  obtain ⟨its, n, r, ho, hz⟩ := I.lst hp
  obtain ⟨h1, h2, h3, h4⟩ := ixN_seq hj
  have hl := r.length
  have hn := line63
  have I' : Inv X pins σ (upd H p (.lst (xs.set j v))) { s with heap := s.heap.update p (Obj.mapSeq (·.setIfInBounds j u)) } :=
    I.lstUpd hp ho (mapSeq_set its n j u) (r.set rv j) (by rw [List.length_set]; exact hz) s.toks
  by_cases h0 : 0 ≤ k
  · have hk : k.toNat = j := by
      rw [seqIndex_of h0 h4] at h1
      exact Option.some.inj h1
    exact PySem.W.ki_setAt ho h0 (by omega) (by rw [List.size_toArray, ← hl]; exact h4) (by rw [hk]; exact ⟨_, I', q⟩)
  · have hk : (k + (its.toArray.size : Int)).toNat = j := by
      rw [seqIndex_neg (by omega) h3] at h1
      rw [List.size_toArray, ← hl]
      exact Option.some.inj h1
    exact PySem.W.ki_setBack ho (by omega) (by rw [List.size_toArray, ← hl]; exact h3) (by omega) (by rw [hk]; exact ⟨_, I', q⟩)
theorem slice_bounds (lo hi : Option Int) (n : Nat) : (sliceBounds lo hi none n).1 = ((HT.sIx n 0 lo : Nat) : Int) ∧ (sliceBounds lo hi none n).2.1 = ((HT.sIx n n hi : Nat) : Int) ∧ (sliceBounds lo hi none n).2.2 = 1 := by
  refine ⟨?_, ?_, rfl⟩
  · cases lo with
    | none => simp [sliceBounds, HT.sIx]
    | some i =>
      simp only [sliceBounds, HT.sIx, Option.getD_none, show (1 : Int) > 0 by decide, if_true]
      by_cases h : i < 0
      · simp only [h, if_true] <;> omega
      · simp only [h, if_false] <;> omega
  · cases hi with
    | none => simp [sliceBounds, HT.sIx]
    | some i =>
      simp only [sliceBounds, HT.sIx, Option.getD_none, show (1 : Int) > 0 by decide, if_true]
      by_cases h : i < 0
      · simp only [h, if_true] <;> omega
      · simp only [h, if_false] <;> omega
theorem slicePick_cut (its : List Value) (lo hi : Option Int) : slicePick its.toArray lo hi none = ((its.drop (HT.sIx its.length 0 lo)).take (HT.sIx its.length its.length hi - HT.sIx its.length 0 lo)).toArray := by
  obtain ⟨h1, h2, h3⟩ := slice_bounds lo hi its.toArray.size
  unfold slicePick
  rw [h1, h2, h3]
  simp only [sliceRange_one, pick_run, List.size_toArray] <;> rfl
def rSlL (K : PySem.W.Frag) : V → Option Int → Option Int → Hp → VK → Prop := fun x lo hi H Q => ∃ a xs, x = .ref a ∧ SqL K H a xs ∧ ∀ p, H p = none → Q (.ref p) (upd H p (.lst (cutV xs lo hi)))
theorem sl_list : SlR X (rSlL X.K) := by
  intro pins s σ H x v vl vu lo hi sl Q I rx hs pl pu h
  obtain ⟨a, xs, rfl, hx, q⟩ := h
  cases rx
  obtain ⟨its, r, ht, hz⟩ := I.list hx
  have hlen := r.length
  refine ⟨"list", _, slot_list_getitem.lookup, ht.isList.typeIs, ?_⟩
  refine wpAny_getItem_list_slice ht.isList hs pl pu .none (by simp) ?_ (by rw [List.size_toArray] <;> omega)
  rw [slicePick_cut, ← hlen]
  refine ⟨.ref s.heap.objs.size, _, I.laid (t' := s.toks) (o := .lst (cutV xs lo hi)) (fun b ob q => Heap.get?_push_of_some _ q) (Nat.le_refl _) ?_, rfl, q _ (I.hok.fresh (Nat.le_refl _))⟩
  exact ⟨Nat.le_trans (cutV_length xs lo hi) hz, _, 0, (r.drop (HT.sIx xs.length 0 lo)).take (HT.sIx xs.length xs.length hi - HT.sIx xs.length 0 lo), Heap.get?_push_size _ rfl⟩
theorem call_len_seq : CallR X (.builtin "len") (fun xs H Q => ∃ p ys, xs = [.ref p] ∧ (SqL X.K H p ys ∨ SqT X.K H p ys) ∧ Q (.int ys.length) H) := by
  intro pins s σ H xs us Q I r h
  obtain ⟨p, ys, rfl, hq, q⟩ := h
  obtain ⟨u, rfl, rx⟩ := vals1 r
  cases rx
  have hn := line63
  rcases hq with hq | hq
  · obtain ⟨its, r', pl, hz⟩ := I.list hq
    have hlen := r'.length
    exact Calls.call_len_list pl.isList (by simp only [List.size_toArray] <;> omega) ⟨.int ys.length, H, I.tok _, ⟨s.toks + 1, by rw [List.size_toArray, hlen]⟩, q⟩
  · obtain ⟨its, r', pl, hz⟩ := I.tuple hq
    have hlen := r'.length
    exact len_tuple pl (by simp only [List.size_toArray] <;> omega) ⟨.int ys.length, H, I.tok _, ⟨s.toks + 1, by rw [List.size_toArray, hlen]⟩, q⟩
theorem CallR.or {f : Value} {r r' : List V → Hp → VK → Prop} (h : CallR X f r) (h' : CallR X f r') : CallR X f (fun xs H Q => r xs H Q ∨ r' xs H Q) := by
  intro pins s σ H xs us Q I rs q
  rcases q with q | q
  · exact h pins s σ H xs us Q I rs q
  · exact h' pins s σ H xs us Q I rs q
def tyV (K : PySem.W.Frag) (T : String) (x : V) (H : Hp) : Prop := match x with
  | .str _ => T = "str"
  | .int _ => T = "int"
  | .ref p => (T = "list" ∧ ∃ xs, SqL K H p xs) ∨ (T = "tuple" ∧ ∃ o, K.lookup p = some o ∧ o.cls = .type "tuple" ∧ o.dict = none) ∨
      (T = "dict" ∧ ((∃ kvs, H p = some (.dK kvs)) ∨ ∃ kvs, H p = some (.dT kvs))) ∨ (T = "set" ∧ ∃ S n, H p = some (.set S n))
  | _ => False
theorem tyV_is {pins : List (Addr × Obj)} {σ : St} {H : Hp} {s : Shared} {T : String} {x : V} {v : Value} (I : Inv X pins σ H s) (r : RelV x v) (ty : tyV X.K T x H) :
    s.TypeIs v T ∧ ∀ a, v = .ref a → ∃ ob, s.heap.get? a = some ob ∧ ob.dict = none := by
  cases x with
  | str z =>
    obtain ⟨t, rfl⟩ := r
    cases (show T = "str" from ty)
    exact ⟨typeIs_str s z t, fun _ e => nomatch e⟩
  | int i =>
    obtain ⟨t, rfl⟩ := r
    cases (show T = "int" from ty)
    exact ⟨typeIs_int s i t, fun _ e => nomatch e⟩
  | ref p =>
    cases r
    rcases ty with ⟨rfl, xs, hq⟩ | ⟨rfl, o, hk, hc, hd⟩ | ⟨rfl, hk⟩ | ⟨rfl, S, n, hk⟩
    · obtain ⟨its, _, pl, _⟩ := I.list hq
      refine ⟨pl.isList.typeIs, fun a e => ?_⟩
      cases e
      obtain ⟨o, n, e, c, hd, _⟩ := pl
      exact ⟨o, e, hd⟩
    · refine ⟨⟨o, I.kIn p o hk, hc⟩, fun a e => ?_⟩
      cases e
      exact ⟨o, I.kIn _ o hk, hd⟩
    · have z : ∃ o, s.heap.get? p = some o ∧ o.ExactDict := by
        rcases hk with ⟨kvs, hk⟩ | ⟨kvs, hk⟩
        · obtain ⟨_, _, _, _, o, _, _, e, ex, _⟩ := I.hok p _ hk
          exact ⟨o, e, ex⟩
        · obtain ⟨_, _, _, _, o, _, _, e, ex, _⟩ := I.hok p _ hk
          exact ⟨o, e, ex⟩
      obtain ⟨o, e, ex⟩ := z
      refine ⟨⟨o, e, ex.1⟩, fun a e2 => ?_⟩
      cases e2
      exact ⟨o, e, ex.2.1⟩
    · obtain ⟨o, _, _, _, e, ex, _⟩ := I.hok p _ hk
      refine ⟨⟨o, e, ex.1⟩, fun a e2 => ?_⟩
      cases e2
      exact ⟨o, e, ex.2.1⟩
  | _ => exact False.elim ty
def tBM (K : PySem.W.Frag) (T : String) (r : V → List V → Hp → VK → Prop) (to : TE) (t : TA) : TE := fun σ H Q => to σ H fun x H1 => tyV K T x H1 ∧ t σ H1 fun xs H2 => r x xs H2 Q
variable {o e : Expr} {es : List Expr} {to : TE} {t : TA} {name : Str} {apos cpos : Pos} {T id : String} {r : V → List V → Hp → VK → Prop}
theorem pe_bm (pa : PlainAttrs T) (slot : Slot T name id) (hty : typeOf (.builtin id) = pure (.type "method_descriptor")) (hm : MtR X id r) (ho : PE X o to) (ha : PA X (e :: es) t)
    (hbase : attributeBase o name X.env (eval o X.env) = eval o X.env := by rfl)
    (hfew : ((backTo cpos (starEach (e :: es) X.env)).all (fun x => !x.1) && (backToKw cpos (keywordEach [] X.env)).all (fun x => x.1.isSome)
      && decide ((e :: es).length + ([] : List Keyword).length + (if ([] : List Keyword).isEmpty then 0 else 1) < 30)) = true := by rfl)
    (hline : (apos.endLine == cpos.line) = true := by rfl) (hs : starEach (e :: es) X.env = (false, eval e X.env) :: starEach es X.env := by rfl) (hplain : (backTo cpos (starEach es X.env)).any (·.1) = false := by rfl) :
    PE X (.Call (.Attribute o name apos) (e :: es) [] cpos) (tBM X.K T r to t) := by
  intro pins s σ H Q I h
  refine wpAny_Call_method_late hbase hfew hline rfl (thn (ho pins s σ H _ I h) fun v s1 ⟨x, H1, I1, r1, ty, q1⟩ => ?_)
  obtain ⟨h1, h2⟩ := tyV_is I1 r1 ty
  refine ⟨T, id, pa, slot, hty, h1, h2, ?_⟩
  have hA := ha cpos pins s1 σ H1 _ I1 q1
  rw [hs] at hA ⊢
  refine Calls.callWith_builtin (by show (false || (backTo cpos (starEach es X.env)).any (·.1)) = false; rw [hplain] <;> rfl) (Calls.evalArgs_plain ?_)
  exact thn hA fun us s2 ⟨vs, H2, I2, r2, q2⟩ => hm pins s2 σ H2 x vs v us Q I2 r1 r2 q2
end
end L2
namespace L2
open PySem PySem.Spec PyProof.Rows
def MtM (X : Cx) (id : String) (r : V → List V → Hp → VK → Prop) : Prop :=
  ∀ (pins : List (Addr × Obj)) (s : Shared) (σ : St) (H : Hp) (x : V) (xs : List V) (v : Value) (us : List Value) (Q : VK), Inv X pins σ H s → RelV x v → Vals xs us → r x xs H Q →
    wpAny (model X.prog X.w) X.A (call (.builtin id) (v :: us)) (EP X pins σ Q) X.xe s
theorem Vals.one : ∀ {x : V} {us : List Value}, Vals [x] us → ∃ u, us = [u] ∧ RelV x u
  | _, _, .cons r .nil => ⟨_, rfl, r⟩
theorem Vals.two : ∀ {x y : V} {us : List Value}, Vals [x, y] us → ∃ u v, us = [u, v] ∧ RelV x u ∧ RelV y v
  | _, _, _, .cons r (.cons q .nil) => ⟨_, _, rfl, r, q⟩
theorem Vals.zero : ∀ {us : List Value}, Vals [] us → us = []
  | _, .nil => rfl
theorem Vals.rep {xs : List V} {us : List Value} (h : Vals xs us) : ∀ k : Nat, Vals (List.replicate k xs).flatten (List.replicate k us).flatten
  | 0 => .nil
  | k + 1 => by
    rw [List.replicate_succ, List.replicate_succ, List.flatten_cons, List.flatten_cons]
    exact Vals.append h (Vals.rep h k)
theorem foldl_rep (its : List Value) : ∀ (k : Nat) (acc : List Value),
    List.foldl (fun x1 x2 => x1 ++ x2) acc.toArray (List.replicate k its.toArray) = (acc ++ (List.replicate k its).flatten).toArray
  | 0, acc => by simp
  | k + 1, acc => by
    have e : acc.toArray ++ its.toArray = (acc ++ its).toArray := by simp
    have e2 : (acc ++ its) ++ (List.replicate k its).flatten = acc ++ (List.replicate (k + 1) its).flatten := by
      rw [List.replicate_succ, List.flatten_cons, List.append_assoc]
    rw [← e2, ← foldl_rep its k (acc ++ its), ← e, List.replicate_succ, List.foldl_cons]
section
variable {X : Cx} {pins : List (Addr × Obj)} {σ : St} {H : Hp} {s : Shared} {l b : Addr} {xs ys zs : List V}
theorem Inv.lset {its its' : List Value} {n : Nat} {f : Array Value → Array Value} {t' : Nat} (I : Inv X pins σ H s) (hH : H l = some (.lst xs))
    (e : s.heap.get? l = some { cls := .type "list", data := .seq its.toArray n }) (hf : f its.toArray = its'.toArray) (hv : Vals ys its') (hz : ys.length ≤ sizeLine) :
    Inv X pins σ (upd H l (.lst ys)) { s with heap := s.heap.update l (Obj.mapSeq f), toks := t' } := by
  have q := PySem.IsL.update e f
  rw [hf] at q
  refine I.write (x := l) (e := l) (by rw [hH]; exact trivial) (.inl rfl) (fun b' u hb hu => (Heap.get?_update_other s.heap (Obj.mapSeq f) (Ne.symm hb)).trans hu) ⟨_, q⟩ ?_
  exact ⟨hz, its', _, hv, q⟩
theorem Inv.lnew {its : List Value} {t' : Nat} (I : Inv X pins σ H s) (hv : Vals ys its) (hz : ys.length ≤ sizeLine) :
    Inv X pins σ (upd H s.heap.objs.size (.lst ys)) { s with heap := s.heap.push { cls := .type "list", data := .seq its.toArray }, toks := t' } :=
  I.laid (fun _ _ q => Heap.get?_push_of_some _ q) (Nat.le_refl _) ⟨hz, its, 0, hv, Heap.get?_push_size _ rfl⟩
theorem Inv.fresh (I : Inv X pins σ H s) : H s.heap.objs.size = none := I.hok.fresh (Nat.le_refl _)
theorem Inv.lstM (I : Inv X pins σ H s) (hH : H l = some (.lst xs)) : xs.length ≤ sizeLine ∧ ∃ (its : List Value) (n : Nat), Vals xs its ∧ xs.length = its.length ∧ s.heap.get? l = some { cls := .type "list", data := .seq its.toArray n } := by
  obtain ⟨z, its, n, r, e⟩ := I.hok l _ hH
  exact ⟨z, its, n, r, r.length, e⟩
theorem notLongL {n : Nat} (h : n ≤ sizeLine) : Builtin.List.listTooLong n = false := by
  unfold Builtin.List.listTooLong
  exact decide_eq_false (by omega)
end
section
variable {X : Cx}
def rAppend : V → List V → Hp → VK → Prop := fun x vs H Q => ∃ l xs y, x = .ref l ∧ vs = [y] ∧ H l = some (.lst xs) ∧ xs.length < sizeLine ∧ Q .non (upd H l (.lst (xs ++ [y])))
theorem mt_append : MtM X "list.append" rAppend := by
  intro pins s σ H x vs v us Q I rx rv h
  obtain ⟨l, xs, y, rfl, rfl, hH, hz, q⟩ := h
  cases rx
  obtain ⟨u, rfl, ru⟩ := rv.one
  obtain ⟨z, its, n, r, hl, e⟩ := I.lstM hH
  refine call_meets F.slot_list_append ⟨_, e, rfl⟩ F.entry_list_append (F.args_list_append_2 _ _) (PySem.list_append l its.toArray n u (by rw [List.size_toArray]; omega)) ⟨e, ?_⟩
  refine ⟨.non, _, I.lset (its' := its ++ [u]) hH e (by simp) (r.append (.cons ru .nil)) ?_, rfl, q⟩
  rw [List.length_append, List.length_singleton]
  omega
def rExtend : V → List V → Hp → VK → Prop := fun x vs H Q => ∃ l b xs zs, x = .ref l ∧ vs = [.ref b] ∧ H l = some (.lst xs) ∧ H b = some (.lst zs) ∧ xs.length + zs.length ≤ sizeLine ∧ Q .non (upd H l (.lst (xs ++ zs)))
theorem mt_extend : MtM X "list.extend" rExtend := by
  intro pins s σ H x vs v us Q I rx rv h
  obtain ⟨l, b, xs, zs, rfl, rfl, hH, hB, hz, q⟩ := h
  cases rx
  obtain ⟨u, rfl, ru⟩ := rv.one
  cases ru
  obtain ⟨z, its, n, r, hl, e⟩ := I.lstM hH
  obtain ⟨z2, its2, n2, r2, hl2, e2⟩ := I.lstM hB
  have hsz : its.toArray.size + its2.toArray.size ≤ sizeLine := by rw [List.size_toArray, List.size_toArray]; omega
  have hlong : ¬ (!its.toArray.isEmpty && Builtin.List.listTooLong (its.toArray.size + its2.toArray.size)) = true := by
    rw [notLongL hsz, Bool.and_false]
    exact Bool.false_ne_true
  refine call_meets F.slot_list_extend ⟨_, e, rfl⟩ F.entry_list_extend (F.args_list_extend_2 _ _)
    (AutoSeq1.list_extend_list_list_0 l its.toArray n b its2.toArray n2 hlong (by rw [List.size_toArray]; omega) (by omega)) ⟨e, e2, ?_⟩
  refine ⟨.non, _, I.lset (its' := its ++ its2) hH e (by simp) (r.append r2) ?_, rfl, q⟩
  rw [List.length_append]
  omega
def rCat : R2 := fun x y H Q => ∃ l b xs zs, x = .ref l ∧ y = .ref b ∧ H l = some (.lst xs) ∧ H b = some (.lst zs) ∧ xs.length + zs.length ≤ sizeLine ∧ ∀ p, H p = none → Q (.ref p) (upd H p (.lst (xs ++ zs)))
theorem op_cat : OpR X (binaryOp .Add) rCat := by
  intro pins s σ H x y v u Q I rx ry h
  obtain ⟨l, b, xs, zs, rfl, rfl, hH, hB, hz, q⟩ := h
  cases rx
  cases ry
  obtain ⟨z, its, n, r, hl, e⟩ := I.lstM hH
  obtain ⟨z2, its2, n2, r2, hl2, e2⟩ := I.lstM hB
  refine PySem.P.add_list e e2 ?_ (by rw [List.size_toArray, List.size_toArray]; omega)
  have ea : its.toArray ++ its2.toArray = (its ++ its2).toArray := by simp
  rw [ea]
  exact ⟨.ref _, _, I.lnew (t' := s.toks) (r.append r2) (by rw [List.length_append]; omega), rfl, q _ I.fresh⟩
def rRep : R2 := fun x y H Q => ∃ l k xs, x = .ref l ∧ y = .int k ∧ H l = some (.lst xs) ∧ -(2 ^ 63) ≤ k ∧ k < 2 ^ 63 ∧ xs.length * k.toNat ≤ sizeLine ∧
  ∀ p, H p = none → Q (.ref p) (upd H p (.lst (List.replicate k.toNat xs).flatten))
theorem len_rep {α : Type} (xs : List α) (k : Nat) : (List.replicate k xs).flatten.length = k * xs.length := by
  induction k with
  | zero => simp
  | succ k ih => rw [List.replicate_succ, List.flatten_cons, List.length_append, ih, Nat.succ_mul, Nat.add_comm]
theorem op_rep : OpR X (binaryOp .Mult) rRep := by
  intro pins s σ H x y v u Q I rx ry h
  obtain ⟨l, k, xs, rfl, rfl, hH, h1, h2, hz, q⟩ := h
  cases rx
  obtain ⟨t, rfl⟩ := ry
  obtain ⟨z, its, n, r, hl, e⟩ := I.lstM hH
  have hlen : its.toArray.size * k.toNat ≤ sizeLine := by rw [List.size_toArray, ← hl]; exact hz
  have hcap : ¬ its.toArray.size * k.toNat > (2 ^ 63 - 1) / 8 := by
    have : (sizeLine : Nat) ≤ (2 ^ 63 - 1) / 8 := by decide
    omega
  have hfit : ¬ (!Builtin.List.listFitsIndex k) = true := by
    rw [fitsIndex_both h1 h2]
    exact Bool.false_ne_true
  have hlong : ¬ Builtin.List.listTooLong (its.toArray.size * k.toNat) = true := by
    rw [notLongL hlen]
    exact Bool.false_ne_true
  have hnew : List.foldl (fun x1 x2 => x1 ++ x2) #[] (List.replicate (if its.toArray.isEmpty = true then 0 else k.toNat) its.toArray) = (List.replicate k.toNat its).flatten.toArray := by
    have f0 : ∀ m : Nat, List.foldl (fun x1 x2 => x1 ++ x2) #[] (List.replicate m its.toArray) = (List.replicate m its).flatten.toArray := fun m => by
      have := foldl_rep its m []
      rw [List.nil_append] at this
      exact this
    rw [f0]
    cases its with
    | nil => simp
    | cons a r' => rw [if_neg (by simp)]
  refine wpAny_binaryOp_repeat_ref (T := "list") (U := "int") (by decide) ⟨_, e, rfl⟩ (fun s' => typeIs_int s' k t) noFill_list_mul F.fills_int_mul F.slot_int_rmul repeat_list F.slot_int_index.lookup
    (call_meets F.slot_int_rmul (typeIs_int s k t) F.entry_int_rmul (F.args_int_rmul_2 _ _) (int___rmul___int_list k t l its.toArray n)
      ⟨e, rfl, ⟨_, e, rfl⟩, call_meets F.slot_list_mul ⟨_, e, rfl⟩ F.entry_list_mul (F.args_list_mul_2 _ _) (AutoListH.list___mul___list_int_3 l its.toArray n k t hfit hcap hlong) ⟨e, ?_⟩⟩)
  rw [hnew]
  exact ⟨.ref _, _, I.lnew (t' := s.toks) (r.rep k.toNat) (by rw [len_rep, Nat.mul_comm]; exact hz), rfl, q _ I.fresh⟩
end
section
variable {prog : Program} {w : World} {A : Around} {E : Value → Shared → Prop} {s : Shared}
set_option maxRecDepth 100000 in
end
section
variable {X : Cx}
end
end L2
namespace L2
open PySem PySem.Spec PyProof.Rows
theorem Vals.ints : ∀ {ns : List Int} {us : List Value}, Vals (ns.map V.int) us → IntsAre us ns
  | [], us, h => by
    rw [List.map_nil] at h
    cases h
    exact IntsAre.nil
  | n :: ns, us, h => by
    rw [List.map_cons] at h
    cases h with
    | cons r t =>
      obtain ⟨k, rfl⟩ := r
      exact IntsAre.cons n k (Vals.ints t)
theorem vals_of_ints : ∀ {us : List Value} {ns : List Int}, IntsAre us ns → Vals (ns.map V.int) us
  | _, _, .nil => by rw [List.map_nil]; exact Paired.nil
  | _, _, .cons n t h => by rw [List.map_cons]; exact Paired.cons (show RelV (V.int n) (Value.int n t) from ⟨t, rfl⟩) (vals_of_ints h)
theorem Vals.bls : ∀ {bs : List Bool} {us : List Value}, Vals (bs.map V.bl) us → us = bs.map Value.bool
  | [], us, h => by
    rw [List.map_nil] at h
    cases h
    rfl
  | b :: bs, us, h => by
    rw [List.map_cons] at h
    cases h with
    | cons r t =>
      cases r
      rw [Vals.bls t, List.map_cons]
theorem Vals.ref1 {a : Addr} {us : List Value} (r : Vals [V.ref a] us) : us = [Value.ref a] := by
  cases r with
  | cons r t =>
    cases t
    cases r
    rfl
section
variable {prog : Program} {w : World} {A : Around} {E : Value → Shared → Prop} {s : Shared} {l : Addr} {its : List Value} {ns : List Int} {Q : Value → Shared → Prop}
theorem sum_raw (hh : A.handled = none) (hl : s.heap.IsList l its.toArray) (hi : IntsAre its ns)
    (h : ∀ h' tk t', (∀ b o, s.heap.get? b = some o → h'.get? b = some o) → Q (.int ns.sum t') { s with heap := h', toks := tk }) : wpAny (model prog w) A (call (.builtin "sum") [.ref l]) Q E s := by
  obtain ⟨xs, e⟩ := hi.allInts.items
  have hn : numsOf (intItems xs).toList = ns := by rw [← e]; exact hi.numsOf
  rw [nums_intItems] at hn
  rw [e] at hl
  refine PySem.sum_intListG hh hl fun h' tk t' hk => ?_
  have := h h' tk t' hk
  rw [preSum_eq, List.take_of_length_le (by simp), hn]; exact this
end
section
variable {X : Cx}
def rSum (K : PySem.W.Frag) : List V → Hp → VK → Prop := fun vs H Q => ∃ (a : Addr) (ns : List Int), vs = [V.ref a] ∧ SqL K H a (ns.map V.int) ∧ Q (.int ns.sum) H
theorem cr_sum (hc : X.calm = true) : CallR X (.builtin "sum") (rSum X.K) := by
  intro pins s σ H vs us Q I r h
  obtain ⟨a, ns, rfl, hs, q⟩ := h
  obtain ⟨its, rv, hl, _⟩ := I.list hs
  rw [Vals.ref1 r]
  exact sum_raw (I.ok.hd hc) hl.isList rv.ints fun h' tk t' hk => ⟨.int _, H, I.kept hk, ⟨_, rfl⟩, q⟩
end
section
variable {X : Cx}
end
section
variable {X : Cx}
end
theorem iter_any {prog : Program} {w : World} {A : Around} {E : Value → Shared → Prop} {s : Shared} {l : Addr} {items : Array Value} {Q : Value → Shared → Prop} (hl : s.heap.IsList l items)
    (h : ∀ s₂ : Shared, s₂ = { s with heap := s.heap.push { cls := .type "list_iterator", data := .fields #[.ref l, .int 0 0] } } →
      (s₂.heap.IsListIter s.heap.objs.size l 0 ∧ s₂.heap.IsList l items) → l ≠ s.heap.objs.size → Q (.ref s.heap.objs.size) s₂) : wpAny (model prog w) A (pyIter (.ref l)) Q E s := by
  have hlt : l < s.heap.objs.size := by obtain ⟨_, e, _⟩ := hl; exact Heap.lt_size e
  exact wpAny_pyIter_list hl (h _ rfl ⟨⟨_, Heap.get?_push_size _ rfl, rfl, rfl⟩, hl.push _⟩ (Nat.ne_of_lt hlt))
theorem truth_bools {prog : Program} {w : World} {A : Around} {bs : List Bool} {its : List Value} (e : its = bs.map Value.bool) :
    TruthOf prog w A (fun i v => its.toArray[i]? = some v) (fun i => bs.getD i false) := fun i v s Q E hv hq => by
  have hv' : its[i]? = some v := by simpa using hv
  rw [e, List.getElem?_map] at hv'
  obtain ⟨b, hb, rfl⟩ := Option.map_eq_some_iff.mp hv'
  have hg : bs.getD i false = b := by rw [List.getD_eq_getElem?_getD, hb] <;> rfl
  have hq' : Q (bs.getD i false) s := hq
  rw [hg] at hq'
  exact wpAny_truthy_bool hq'
theorem any_range : ∀ bs : List Bool, (List.range bs.length).any (fun i => bs.getD i false) = bs.any id
  | [] => rfl
  | b :: bs => by
    rw [List.length_cons, List.range_succ_eq_map, List.any_cons, List.any_map, List.any_cons, ← any_range bs]
    all_goals rfl
section
variable {X : Cx}
def rAny (K : PySem.W.Frag) : List V → Hp → VK → Prop := fun vs H Q => ∃ (a : Addr) (bs : List Bool), vs = [V.ref a] ∧ SqL K H a (bs.map V.bl) ∧ Q (.bl (bs.any id)) H
theorem cr_any (hc : X.calm = true) : CallR X (.builtin "any") (rAny X.K) := by
  intro pins s σ H vs us Q I r h
  obtain ⟨a, bs, rfl, hs, q⟩ := h
  obtain ⟨its, rv, hl, _⟩ := I.list hs
  rw [Vals.ref1 r]
  have hb := rv.bls
  refine call_any_walk (iter_any hl.isList fun s₂ e2 st hne => ?_)
  subst e2
  refine ⟨_, _, _, _, _, _, _, rfl, Walks.list (A := X.A.in1) (I.ok.hd hc) _ a hne its.toArray, st, truth_bools hb, fun h' tk hk => ?_⟩
  refine ⟨.bl _, H, I.kept fun b o eo => hk b o (fun hmem => ?_) (Heap.get?_push_of_some _ eo), ?_, q⟩
  · rcases List.mem_cons.mp hmem with e1 | hmem
    · exact absurd (e1 ▸ Heap.lt_size eo) (Nat.lt_irrefl _)
    · cases hmem
  · show Value.bool _ = Value.bool _
    rw [← any_range, hb, List.size_toArray, List.length_map]
end
mutual
inductive Dp (K : PySem.W.Frag) (H : Hp) : V → PyData → Prop
  | non : Dp K H .non .none
  | bl (b : Bool) : Dp K H (.bl b) (.bool b)
  | int (i : Int) : Dp K H (.int i) (.int i)
  | str (x : Str) : Dp K H (.str x) (.str x)
  | lst {a : Addr} {xs : List V} {ds : List PyData} : SqL K H a xs → DpAll K H xs ds → Dp K H (.ref a) (.list ds)
  | tup {a : Addr} {xs : List V} {ds : List PyData} : SqT K H a xs → DpAll K H xs ds → Dp K H (.ref a) (.tuple ds)
inductive DpAll (K : PySem.W.Frag) (H : Hp) : List V → List PyData → Prop
  | nil : DpAll K H [] []
  | cons {v : V} {vs : List V} {d : PyData} {ds : List PyData} : Dp K H v d → DpAll K H vs ds → DpAll K H (v :: vs) (d :: ds)
end
section
variable {X : Cx} {pins : List (Addr × Obj)} {σ : St} {H : Hp} {s : Shared}
mutual
theorem Dp.reads (I : Inv X pins σ H s) : ∀ (d : PyData) (v : V) (u : Value), Dp X.K H v d → RelV v u → ∃ as, Reads s.heap u d as
  | .none, _, _, h, r => by
    cases h
    cases r
    exact ⟨_, Reads.none⟩
  | .bool b, _, _, h, r => by
    cases h
    cases r
    exact ⟨_, Reads.bool b⟩
  | .int i, _, _, h, r => by
    cases h
    obtain ⟨t, rfl⟩ := r
    exact ⟨_, Reads.int i t⟩
  | .str x, _, _, h, r => by
    cases h
    obtain ⟨t, rfl⟩ := r
    exact ⟨_, Reads.str x t⟩
  | .list ds, _, _, h, r => by
    cases h with
    | lst hs ha =>
      cases r
      obtain ⟨its, rv, ⟨o, n, ho, hc, _, hd⟩, _⟩ := I.list hs
      obtain ⟨as, hr⟩ := Dp.readsAll I ds _ its ha rv
      exact ⟨_, Reads.list ho hc hd hr⟩
  | .tuple ds, _, _, h, r => by
    cases h with
    | tup hs ha =>
      cases r
      obtain ⟨its, rv, ⟨o, ho, hc, n, hd⟩, _⟩ := I.tuple hs
      obtain ⟨as, hr⟩ := Dp.readsAll I ds _ its ha rv
      exact ⟨_, Reads.tuple ho hc hd hr⟩
  | .dict _, _, _, h, _ => by cases h
theorem Dp.readsAll (I : Inv X pins σ H s) : ∀ (ds : List PyData) (vs : List V) (us : List Value), DpAll X.K H vs ds → Vals vs us → ∃ as, ReadsAll s.heap us ds as
  | [], _, _, h, r => by
    cases h
    cases r
    exact ⟨_, ReadsAll.nil⟩
  | d :: ds, _, _, h, r => by
    cases h with
    | cons h1 h2 =>
      cases r with
      | cons r1 r2 =>
        obtain ⟨as, q1⟩ := Dp.reads I d _ _ h1 r1
        obtain ⟨bs, q2⟩ := Dp.readsAll I ds _ _ h2 r2
        exact ⟨_, ReadsAll.cons q1 q2⟩
end
end
section
variable {X : Cx}
end
end L2
namespace L2
open PySem PySem.Spec PyProof.Rows
abbrev CellAt (h : Heap) (c : Addr) (v : Option Value) : Prop := h.IsCell c v
def relS (scope sc : Scope) : Scope :=
  { scope with names := scope.names.map fun (n, k) => if (k == .free && sc.kind == .function && sc.names.lookup n == some .cell) then (n, .cell) else (n, k) }
def cloFrom (cells : List (Str × Addr)) : List (Str × NameKind) → List (Str × Addr) → List (Str × Addr)
  | [], acc => acc
  | (n, k) :: r, acc => if k == .free then cloFrom cells r ((n, (cells.lookup n).getD 0) :: acc) else cloFrom cells r acc
theorem closure_loop (env : Env) (f : Str × NameKind → List (Str × Addr) → Sem (ForInStep (List (Str × Addr))))
    (hf : ∀ n k c, f (n, k) c = if k == .free then (do let a ← cellOf env n; pure (.yield ((n, a) :: c))) else pure (.yield c)) :
    ∀ (names : List (Str × NameKind)) (acc : List (Str × Addr)), (∀ y ∈ names, y.2 = .free → ∃ c, env.cells.lookup y.1 = some c) → forIn names acc f = pure (cloFrom env.cells names acc)
  | [], acc, _ => by rw [List.forIn_nil]; rfl
  | (n, k) :: r, acc, h => by
    rw [List.forIn_cons, hf]
    have ih := fun acc => closure_loop env f hf r acc fun y hy => h y (List.mem_cons_of_mem _ hy)
    unfold cloFrom
    by_cases hk : (k == NameKind.free) = true
    · rw [if_pos hk, if_pos hk]
      obtain ⟨c, hc⟩ := h (n, k) List.mem_cons_self (by simpa using hk)
      have e : cellOf env n = pure c := by unfold cellOf; rw [hc]
      rw [e]
      have e2 : (env.cells.lookup n).getD 0 = c := by rw [hc]; rfl
      rw [e2]
      exact ih _
    · rw [if_neg hk, if_neg hk]
      exact ih _
theorem closure_ok {scope : Scope} {env : Env} (h : ∀ y ∈ scope.names, y.2 = .free → ∃ c, env.cells.lookup y.1 = some c) : closureFor scope env = pure (cloFrom env.cells scope.names []) := by
  simp only [closureFor]
  rw [closure_loop env _ (fun n k c => rfl) scope.names [] h]
  rfl
theorem mem_lookup {α : Type} : ∀ {l : List (Str × α)} {n : Str} {c : α}, (n, c) ∈ l → ∃ c', l.lookup n = some c'
  | (k, v) :: r, n, c, h => by
    rw [List.lookup_cons]
    cases hb : n == k with
    | true => exact ⟨_, rfl⟩
    | false =>
      rcases List.mem_cons.mp h with e | h
      · cases e; simp at hb
      · exact mem_lookup h
theorem cloFrom_mem {cells : List (Str × Addr)} : ∀ {names : List (Str × NameKind)} {acc : List (Str × Addr)} {n : Str} {c : Addr}, (n, c) ∈ cloFrom cells names acc → (n, c) ∈ acc ∨ ((n, .free) ∈ names ∧ c = (cells.lookup n).getD 0)
  | [], _, _, _, h => .inl h
  | (m, k) :: r, acc, n, c, h => by
    unfold cloFrom at h
    split at h
    · rename_i hk
      have hk : k = .free := by simpa using hk
      rcases cloFrom_mem h with h | ⟨h1, h2⟩
      · rcases List.mem_cons.mp h with e | h
        · cases e; exact .inr ⟨hk ▸ List.mem_cons_self, rfl⟩
        · exact .inl h
      · exact .inr ⟨List.mem_cons_of_mem _ h1, h2⟩
    · rcases cloFrom_mem h with h | ⟨h1, h2⟩
      · exact .inl h
      · exact .inr ⟨List.mem_cons_of_mem _ h1, h2⟩
theorem cloFrom_acc {cells : List (Str × Addr)} : ∀ {names : List (Str × NameKind)} {acc : List (Str × Addr)} {p : Str × Addr}, p ∈ acc → p ∈ cloFrom cells names acc
  | [], _, _, h => h
  | (m, k) :: r, acc, p, h => by
    unfold cloFrom
    split
    · exact cloFrom_acc (List.mem_cons_of_mem _ h)
    · exact cloFrom_acc h
theorem cloFrom_has {cells : List (Str × Addr)} : ∀ {names : List (Str × NameKind)} {acc : List (Str × Addr)} {n : Str}, (n, .free) ∈ names → (n, (cells.lookup n).getD 0) ∈ cloFrom cells names acc
  | (m, k) :: r, acc, n, h => by
    unfold cloFrom
    rcases List.mem_cons.mp h with e | h
    · cases e
      exact cloFrom_acc List.mem_cons_self
    · split
      · exact cloFrom_has h
      · exact cloFrom_has h
theorem cells_mem : ∀ {names : List (Str × NameKind)} {h : Heap} {acc : List (Str × Addr)} {x : Str} {c : Addr}, (x, c) ∈ cellsFrom h.objs.size names acc →
    (x, c) ∈ acc ∨ ((x, .cell) ∈ names ∧ h.objs.size ≤ c ∧ CellAt (pushCells h names) c none)
  | [], _, _, _, _, h => .inl h
  | (n, k) :: r, h, acc, x, c, hm => by
    unfold cellsFrom at hm
    unfold pushCells
    split at hm
    · rename_i hk
      rw [if_pos hk]
      have hk : k = .cell := by simpa using hk
      rw [← Heap.size_push h { cls := .type "cell", data := .cell none }] at hm
      rcases cells_mem hm with hm | ⟨h1, h2, h3⟩
      · rcases List.mem_cons.mp hm with e | hm
        · cases e
          exact .inr ⟨hk ▸ List.mem_cons_self, Nat.le_refl _, _, pushCells_keeps r _ _ _ (Heap.get?_push_size _ rfl), rfl⟩
        · exact .inl hm
      · rw [Heap.size_push] at h2
        exact .inr ⟨List.mem_cons_of_mem _ h1, Nat.le_of_succ_le h2, h3⟩
    · rename_i hk
      rw [if_neg hk]
      rcases cells_mem hm with hm | ⟨h1, h2, h3⟩
      · exact .inl hm
      · exact .inr ⟨List.mem_cons_of_mem _ h1, h2, h3⟩
theorem cells_acc : ∀ {names : List (Str × NameKind)} {n : Nat} {acc : List (Str × Addr)} {p : Str × Addr}, p ∈ acc → p ∈ cellsFrom n names acc
  | [], _, _, _, h => h
  | (m, k) :: r, n, acc, p, h => by
    unfold cellsFrom
    split
    · exact cells_acc (List.mem_cons_of_mem _ h)
    · exact cells_acc h
theorem cells_has : ∀ {names : List (Str × NameKind)} {n : Nat} {acc : List (Str × Addr)} {x : Str}, (x, .cell) ∈ names → ∃ c, (x, c) ∈ cellsFrom n names acc
  | (m, k) :: r, n, acc, x, h => by
    unfold cellsFrom
    rcases List.mem_cons.mp h with e | h
    · cases e
      exact ⟨n, cells_acc List.mem_cons_self⟩
    · split
      · exact cells_has h
      · exact cells_has h
theorem cells_inj : ∀ {names : List (Str × NameKind)} {h : Heap} {acc : List (Str × Addr)} {x y : Str} {c : Addr}, (∀ p ∈ acc, p.2 < h.objs.size) → (∀ x y c, (x, c) ∈ acc → (y, c) ∈ acc → x = y) →
    (x, c) ∈ cellsFrom h.objs.size names acc → (y, c) ∈ cellsFrom h.objs.size names acc → x = y
  | [], _, _, _, _, _, _, hi, h1, h2 => hi _ _ _ h1 h2
  | (n, k) :: r, h, acc, x, y, c, hl, hi, h1, h2 => by
    unfold cellsFrom at h1 h2
    split at h1
    · rename_i hk
      rw [if_pos hk] at h2
      rw [← Heap.size_push h { cls := .type "cell", data := .cell none }] at h1 h2
      refine cells_inj (h := h.push _) (fun p hp => ?_) (fun x y c a b => ?_) h1 h2
      · rw [Heap.size_push]
        rcases List.mem_cons.mp hp with rfl | hp
        · exact Nat.lt_succ_self _
        · exact Nat.lt_succ_of_lt (hl p hp)
      · rcases List.mem_cons.mp a with e | a <;> rcases List.mem_cons.mp b with e' | b
        · cases e; cases e'; rfl
        · cases e; exact absurd (hl _ b) (Nat.lt_irrefl _)
        · cases e'; exact absurd (hl _ a) (Nat.lt_irrefl _)
        · exact hi _ _ _ a b
    · rename_i hk
      rw [if_neg hk] at h2
      exact cells_inj hl hi h1 h2
theorem newEnv_comp {M : Model} {A : Around} {E : Value → Shared → Prop} {s : Shared} {scope : Scope} {globals : Addr} {closure : List (Str × Addr)} {qual : Str} {func : Option Addr} {code : Value} {around : Env} {builtins : Addr} {Q : Env → Shared → Prop}
    (h : Q (newEnv scope s.heap.objs.size globals (cellsFrom (s.heap.objs.size + 1) scope.names closure) qual func code (some around) builtins)
      { s with heap := pushCells (s.heap.push { cls := .type "dict", data := .dict #[] }) scope.names }) :
    wpAny M A (newFunctionEnv scope globals closure [] qual func code (some around) builtins) Q E s := by
  simp only [newFunctionEnv, Option.isSome_some, if_true]
  refine wpAny_bind (wpAny_alloc ?_)
  refine wpAny_bind (wpAny_layCells _ (fun n k c => rfl) scope.names closure _ _ ?_)
  rw [show ({ s with heap := s.heap.push { cls := .type "dict", data := .dict #[] } } : Shared).heap.objs.size = s.heap.objs.size + 1 from Heap.size_push ..]
  rw [List.forIn_nil]
  exact wpAny_bind (wpAny_pure (wpAny_pure h))
theorem lookup_relS {sc : Scope} : ∀ {names : List (Str × NameKind)} {x : Str} {k : NameKind},
    (names.map fun (n, k) => if (k == NameKind.free && sc.kind == .function && sc.names.lookup n == some .cell) then (n, NameKind.cell) else (n, k)).lookup x = some k →
    ∃ k', names.lookup x = some k' ∧ (k = k' ∨ (k' = .free ∧ k = .cell))
  | [], _, _, h => by simp at h
  | (n, k₀) :: r, x, k, h => by
    have ih := @lookup_relS sc r x k
    have h' : List.lookup x ((if (k₀ == NameKind.free && sc.kind == .function && sc.names.lookup n == some .cell) = true then (n, NameKind.cell) else (n, k₀)) :: (r.map _)) = some k := h
    cases hx : x == n with
    | true =>
      simp only [List.lookup_cons, hx]
      by_cases hc : (k₀ == NameKind.free && sc.kind == .function && sc.names.lookup n == some .cell) = true
      · rw [if_pos hc] at h'
        simp only [List.lookup_cons, hx] at h'
        cases h'
        simp only [Bool.and_eq_true, beq_iff_eq] at hc
        exact ⟨k₀, rfl, .inr ⟨hc.1.1, rfl⟩⟩
      · rw [if_neg hc] at h'
        simp only [List.lookup_cons, hx] at h'
        cases h'
        exact ⟨_, rfl, .inl rfl⟩
    | false =>
      simp only [List.lookup_cons, hx]
      by_cases hc : (k₀ == NameKind.free && sc.kind == .function && sc.names.lookup n == some .cell) = true
      · rw [if_pos hc] at h'
        simp only [List.lookup_cons, hx] at h'
        exact ih h'
      · rw [if_neg hc] at h'
        simp only [List.lookup_cons, hx] at h'
        exact ih h'
structure BlkOk (N : List Str) (sc scope : Scope) (own : List (Str × Nat)) : Prop where
  kind : scope.kind = .function
  uniq : ∀ y ∈ scope.names, scope.names.lookup y.1 = some y.2
  ix : ∀ p ∈ own, N[p.2]? = some p.1
  free : ∀ y ∈ scope.names, y.2 = .free → sc.names.lookup y.1 = some .cell ∨ sc.names.lookup y.1 = some .free
  own : ∀ y ∈ scope.names, y.2 = .local ∨ y.2 = .cell → y.1 ∈ own.map (·.1) ∨ y.1 ∉ N
def wipe (σ : St) : List Nat → St
  | [] => σ
  | v :: vs => (wipe σ vs).set v none
theorem wipe_length (σ : St) : ∀ vs : List Nat, (wipe σ vs).length = σ.length
  | [] => rfl
  | v :: vs => by unfold wipe; rw [List.length_set, wipe_length σ vs]
theorem wipe_some {σ : St} {i : Nat} {x : V} : ∀ {vs : List Nat}, (wipe σ vs)[i]? = some (some x) → σ[i]? = some (some x) ∧ i ∉ vs
  | [], h => ⟨h, by simp⟩
  | v :: vs, h => by
    unfold wipe at h
    by_cases hi : v = i
    · subst hi
      by_cases hv : v < (wipe σ vs).length
      · rw [List.getElem?_set_self hv] at h; cases h
      · rw [List.getElem?_eq_none (by simpa using hv)] at h; cases h
    · rw [List.getElem?_set_ne hi] at h
      obtain ⟨h1, h2⟩ := wipe_some h
      exact ⟨h1, by simp only [List.mem_cons, not_or]; exact ⟨fun e => hi e.symm, h2⟩⟩
abbrev Cx.blk (X : Cx) (s : Shared) (H : Hp) (scope : Scope) (cenv : Env) (fp : List Addr) : Cx := { X with s_0 := s, H_0 := H, env := cenv, outer := X.stack, ex := fp, fn := fun x => scope.names.lookup x == some .cell, pn := [], xe := fun _ _ => False }
section
variable {X : Cx} {pins : List (Addr × Obj)} {σ : St} {H : Hp} {s : Shared}
theorem block_start {scope : Scope} {own : List (Str × Nat)} {fp : List Addr} (I : Inv X pins σ H s) (ok : BlkOk X.N X.env.scope scope own) (hN : X.N.Nodup) (hfp : ∀ b ∈ fp, FpOk X pins H b ∧ b < s.heap.objs.size) :
    Inv (X.blk s H scope (compEnvC scope (cellsFrom (s.heap.objs.size + 1) scope.names (cloFrom X.env.cells scope.names [])) s.heap.objs.size X.env) fp) [] (wipe σ (own.map (·.2))) H { s with heap := pushCells (s.heap.push { cls := .type "dict", data := .dict #[] }) scope.names } := by
  have hfree : ∀ y ∈ scope.names, y.2 = .free → ∃ c, X.env.cells.lookup y.1 = some c := fun y hy e => by
    rcases ok.free y hy e with k | k
    · exact I.ok.has _ (.inl k)
    · exact I.ok.has _ (.inr k)
  generalize hcenv : compEnvC scope (cellsFrom (s.heap.objs.size + 1) scope.names (cloFrom X.env.cells scope.names [])) s.heap.objs.size X.env = cenv
  have kp : ∀ b o, s.heap.get? b = some o → (pushCells (s.heap.push { cls := .type "dict", data := .dict #[] }) scope.names).get? b = some o := fun b o e => pushCells_keeps _ _ _ _ (Heap.get?_push_of_some _ e)
  have hL : cenv.locals = s.heap.objs.size := by rw [← hcenv]; rfl
  have hcl : cenv.cells = cellsFrom (s.heap.objs.size + 1) scope.names (cloFrom X.env.cells scope.names []) := by rw [← hcenv]; rfl
  have hsc : cenv.scope = relS scope X.env.scope := by rw [← hcenv]; rfl
  rw [← Heap.size_push s.heap { cls := .type "dict", data := .dict #[] }] at hcl
  have cm : ∀ {y c}, (y, c) ∈ cloFrom X.env.cells scope.names [] → X.env.cells.lookup y = some c ∧ c < s.heap.objs.size := fun {y c} hm => by
    rcases cloFrom_mem hm with hm | ⟨h1, rfl⟩
    · cases hm
    · obtain ⟨c, hc⟩ := hfree _ h1 rfl
      rw [hc]
      obtain ⟨w, z⟩ := I.cell _ _ hc
      exact ⟨rfl, z.lt⟩
  have mem : ∀ {y c}, cenv.cells.lookup y = some c → (X.env.cells.lookup y = some c ∧ c < s.heap.objs.size) ∨ (s.heap.objs.size + 1 ≤ c ∧ CellAt (pushCells (s.heap.push { cls := .type "dict", data := .dict #[] }) scope.names) c none) := fun {y c} e => by
    rw [hcl] at e
    rcases cells_mem (PySem.mem_of_lookup e) with hm | ⟨_, h2, h3⟩
    · exact .inl (cm hm)
    · rw [Heap.size_push] at h2; exact .inr ⟨h2, h3⟩
  have look : ∀ {y}, scope.names.lookup y = some .free → ∃ c, cenv.cells.lookup y = some c ∧ X.env.cells.lookup y = some c := fun {y} hl => by
    have hy : (y, NameKind.free) ∈ scope.names := PySem.mem_of_lookup hl
    obtain ⟨c', e'⟩ := mem_lookup (cells_acc (names := scope.names) (n := (s.heap.push { cls := .type "dict", data := .dict #[] }).objs.size) (cloFrom_has (cells := X.env.cells) (acc := []) hy))
    rw [← hcl] at e'
    refine ⟨c', e', ?_⟩
    rw [hcl] at e'
    rcases cells_mem (PySem.mem_of_lookup e') with hm | ⟨h1, _, _⟩
    · exact (cm hm).1
    · have := ok.uniq _ h1
      rw [hl] at this; cases this
  have okB : (X.blk s H scope cenv fp).Ok := by
    refine ⟨I.ok.mod, by show cenv.scope.kind = _; rw [hsc]; exact ok.kind, by show cenv.globals = _; rw [← hcenv]; exact I.ok.glob, by show cenv.builtins = _; rw [← hcenv]; exact I.ok.blt, by show s.heap.objs.size ≤ cenv.locals; rw [hL]; exact Nat.le_refl _,
      fun y z c e1 e2 => ?_, fun y hy => ?_, fun y c z e => ?_, I.ok.hd, I.ok.frames, .inl rfl, fun b hb => ⟨?_, fun y c e z => ?_⟩, I.bs, Nat.le_trans I.ok.bsz I.sz, fun b o e hb => ?_, fun b hb z => ?_, I.stack, I.stkFree⟩
    · have e1 : cenv.cells.lookup y = some c := e1
      have e2 : cenv.cells.lookup z = some c := e2
      rw [hcl] at e1 e2
      refine cells_inj (fun p hp => ?_) (fun y z c a b => I.ok.inj y z c (cm a).1 (cm b).1) (PySem.mem_of_lookup e1) (PySem.mem_of_lookup e2)
      rw [Heap.size_push]
      exact Nat.lt_succ_of_lt (cm (y := p.1) (c := p.2) hp).2
    · show ∃ c, cenv.cells.lookup y = some c
      have key : ∀ k, cenv.kindOf y = some k → (k = .cell ∨ k = .free) → ∃ c, cenv.cells.lookup y = some c := fun k hk hk' => by
        unfold Env.kindOf at hk
        rw [hsc] at hk
        obtain ⟨k', e, r⟩ := lookup_relS hk
        have : k' = .cell ∨ k' = .free := by
          rcases r with rfl | ⟨rfl, _⟩
          · exact hk'
          · exact .inr rfl
        rcases this with rfl | rfl
        · obtain ⟨c, hm⟩ := cells_has (n := (s.heap.push { cls := .type "dict", data := .dict #[] }).objs.size) (acc := cloFrom X.env.cells scope.names []) (PySem.mem_of_lookup e)
          obtain ⟨c', e'⟩ := mem_lookup hm
          exact ⟨c', by rw [hcl]; exact e'⟩
        · obtain ⟨c, h1, _⟩ := look e
          exact ⟨c, h1⟩
      rcases hy with hy | hy
      · exact key _ hy (.inl rfl)
      · exact key _ hy (.inr rfl)
    · have z : (scope.names.lookup y == some NameKind.cell) = true := z
      have z : scope.names.lookup y = some .cell := by simpa using z
      have e : cenv.cells.lookup y = some c := e
      rw [hcl] at e
      rcases cells_mem (PySem.mem_of_lookup e) with hm | ⟨_, h2, _⟩
      · rcases cloFrom_mem hm with hm | ⟨h1, _⟩
        · cases hm
        · have q := ok.uniq _ h1
          rw [z] at q; cases q
      · rw [Heap.size_push] at h2
        exact Nat.le_of_succ_le h2
    · show b ≠ cenv.locals
      rw [hL]; exact Nat.ne_of_lt (hfp b hb).2
    · have e : cenv.cells.lookup y = some c := e
      rcases mem e with ⟨h1, _⟩ | ⟨h1, _⟩
      · exact (hfp b hb).1.2.2.2.2.1 y c h1 z
      · have h2 : s.heap.objs.size + 1 ≤ b := by rw [← z]; exact h1
        exact absurd (Nat.lt_of_lt_of_le (hfp b hb).2 (Nat.le_of_succ_le h2)) (Nat.lt_irrefl _)
    · rcases (hfp b hb).1.2.2.2.1 with z | z
      · exact I.ok.noex b o e z
      · exact absurd (Nat.lt_of_lt_of_le (Heap.lt_size e) (Nat.le_trans I.ok.bsz z)) (Nat.lt_irrefl _)
    · rcases List.mem_cons.mp (I.stkSub b z) with z | z
      · exact (hfp b hb).1.2.1 z
      · exact (hfp b hb).1.2.2.1 z
  refine ⟨okB, rfl, I.bare, Un.kept kp, ⟨fun _ => none, ?_, fun i y av e1 e2 e3 => ?_⟩, fun y c e => ?_, ?_, fun y c e => ?_, fun p hp => ?_, I.hok.kept kp, by rw [wipe_length]; exact I.len⟩
  · show Heap.Ns _ cenv.locals _
    rw [hL]
    exact Heap.Ns.keeps (Heap.Ns.new ..) fun b o e => pushCells_keeps _ _ _ _ e
  · obtain ⟨e2, hne⟩ := wipe_some e2
    have hfr : scope.names.lookup y = some .free ∧ (cenv.kindOf y = some .cell ∨ cenv.kindOf y = some .free) := by
      have key : ∀ k, cenv.scope.names.lookup y = some k → k = .local ∨ k = .cell ∨ k = .free → scope.names.lookup y = some .free ∧ (cenv.kindOf y = some .cell ∨ cenv.kindOf y = some .free) := fun k hk hk' => by
        have hk0 := hk
        rw [hsc] at hk
        obtain ⟨k', e, r⟩ := lookup_relS hk
        have no : ¬ (k' = .local ∨ k' = .cell) := fun hh => by
          rcases ok.own _ (PySem.mem_of_lookup e) hh with e' | e'
          · obtain ⟨p, hp, hpy⟩ := List.mem_map.mp e'
            have e3 := ok.ix p hp
            have : p.1 = y := hpy
            rw [this] at e3
            exact hne (List.mem_map.mpr ⟨p, hp, nodup_ix hN e3 e1⟩)
          · exact e' (List.mem_of_getElem? e1)
        rcases r with rfl | ⟨rfl, rfl⟩
        · rcases hk' with rfl | rfl | rfl
          · exact absurd (.inl rfl) no
          · exact absurd (.inr rfl) no
          · exact ⟨e, .inr hk0⟩
        · exact ⟨e, .inl hk0⟩
      have e3 : Vis cenv.scope y := e3
      rcases e3 with e3 | e3 | e3
      · exact key _ e3 (.inl rfl)
      · exact key _ e3 (.inr (.inl rfl))
      · exact key _ e3 (.inr (.inr rfl))
    obtain ⟨m, hn, hl⟩ := I.loc
    have hvis : Vis X.env.scope y := (ok.free _ (PySem.mem_of_lookup hfr.1) rfl).elim (fun k => .inr (.inl k)) (fun k => .inr (.inr k))
    obtain ⟨w, r, q⟩ := hl i y av e1 e2 hvis
    refine ⟨w, r, .inr ⟨hfr.2, ?_⟩⟩
    obtain ⟨c, h1, h2⟩ := look hfr.1
    rcases q with ⟨k, _⟩ | ⟨_, c', e', z⟩
    · have k : X.env.scope.names.lookup y = some .local := k
      rcases ok.free _ (PySem.mem_of_lookup hfr.1) rfl with k' | k' <;> rw [show X.env.scope.names.lookup y = _ from k'] at k <;> cases k
    · rw [h2] at e'; cases e'
      exact ⟨c, h1, z.keeps kp⟩
  · have e : cenv.cells.lookup y = some c := e
    rcases mem e with ⟨h1, _⟩ | ⟨_, z⟩
    · obtain ⟨w, z⟩ := I.cell y c h1
      exact ⟨w, z.keeps kp⟩
    · exact ⟨_, z⟩
  · show H cenv.locals = none
    rw [hL]; exact I.hok.fresh (Nat.le_refl _)
  · have e : cenv.cells.lookup y = some c := e
    rcases mem e with ⟨h1, _⟩ | ⟨h1, _⟩
    · exact I.freeC y c h1
    · exact I.hok.fresh (Nat.le_of_succ_le h1)
  · exact absurd (show p ∈ ([] : List (Addr × Obj)) ++ [] from hp) (by simp)
theorem app_ok {E : Value → Shared → Prop} {D : Addr} {xs : List V} {y : V} {v : Value} {Q : Value → Shared → Prop} (I : Inv X pins σ H s) (hD : H D = some (.lst xs)) (hz : xs.length < sizeLine) (r : RelV y v)
    (h : ∀ s', Inv X pins σ (upd H D (.lst (xs ++ [y]))) s' → Q .none s') : wpAny (model X.prog X.w) X.A (call (.builtin "list.append") [.ref D, v]) Q E s := by
  obtain ⟨hz', its, n, ri, e⟩ := I.hok D _ hD
  have hl := ri.length
  refine append_at (hsz := by rw [List.size_toArray]; omega) e fun h' sb ho' => ?_
  refine h { s with heap := h' } (I.write (t' := s.toks) (by rw [hD]; trivial) (.inl rfl) (fun b u hb q => (sb.2 b hb).trans q) ⟨_, ho'⟩ ⟨by rw [List.length_append]; exact hz, its ++ [v], n + 1, ri.append (.cons r .nil), ?_⟩)
  rw [ho']
  simp
def PTs (X : Cx) (ifs : List Expr) (t : TT) : Prop :=
  ∀ (pins : List (Addr × Obj)) (s : Shared) (σ : St) (H : Hp) (Q : Bool → Hp → Prop), Inv X pins σ H s → t σ H Q →
    wpAny (model X.prog X.w) X.A (forIn ifs true fun c r => if r = true then do let ok ← isTrue c X.env (eval c X.env); pure (ForInStep.yield ok) else pure (ForInStep.yield r)) (TP X pins σ Q) X.xe s
def tYes : TT := fun _ H Q => Q true H
theorem pts_nil : PTs X [] tYes := fun _ _ _ H _ I h => wpAny_tests_nil ⟨H, I, h⟩
theorem pts_one {c : Expr} {t : TT} (h : PT X c t) : PTs X [c] t := fun pins s σ H Q I hw => wpAny_tests_one (h pins s σ H Q I hw)
end
theorem thnF {α : Type} {t : Sem α} {Q Q' : α → Shared → Prop} {M : Model} {A : Around} {E : Value → Shared → Prop} {s : Shared} (h : wpAny M A t Q (fun _ _ => False) s) (hQ : ∀ a s, Q a s → Q' a s) : wpAny M A t Q' E s := wpAny_mono h hQ fun _ _ z => False.elim z
theorem compLoop_any {prog : Program} {w : World} {A : Around} {R : Result → Shared → Prop} {s : Shared} {elt target iter : Expr} {ifs : List Expr} {scope : Scope} {pos : Pos} {it acc : Value} {env : Env} (I : Nat → Shared → Prop)
    (turn : ∀ n s, I n s → wpAny (model prog w) A (pyNext it) (fun r s₁ => match r with
      | none => R (.ok .next) s₁
      | some v => wpAny (model prog w) A (letOwnedTupleGo target it v) (fun _ s₁' => wpAny (model prog w) A (assign target env v) (fun _ s₂ =>
          wpAny (model prog w) A (forIn ifs true fun c r => if r = true then do let ok ← isTrue c env (eval c env); pure (ForInStep.yield ok) else pure (ForInStep.yield r)) (fun ok s₃ =>
            if ok = true then wpAny (model prog w) A (eval elt env) (fun x s₄ =>
              wpAny (model prog w) A (call (.builtin "list.append") [acc, x]) (fun _ s₅ => ∃ m, m < n ∧ I m s₅) (notedBy (model prog w) A env fun e s' => R (.error e) s') s₄) (notedBy (model prog w) A env fun e s' => R (.error e) s') s₃
            else ∃ m, m < n ∧ I m s₃) (notedBy (model prog w) A env fun e s' => R (.error e) s') s₂) (notedBy (model prog w) A env fun e s' => R (.error e) s') s₁') (notedBy (model prog w) A env fun e s' => R (.error e) s') s₁) (notedBy (model prog w) A env fun e s' => R (.error e) s') s)
    (n : Nat) (h : I n s) :
    codeAny (model prog w) A (.compLoop (.ListComp elt [⟨target, iter, ifs, 0⟩] scope pos) 0 it acc env) R s := by
  refine codeAny_loop rfl I (fun n s hI => ?_) n h
  show wpAny _ A ((compTurn (.ListComp elt [⟨target, iter, ifs, 0⟩] scope pos) 0 it acc env).onRaise (fun x => do noteFrame x env; theTreesLotGoes x)) _ _ s
  refine wpAny_noted ?_
  rw [compTurn_list]
  refine wpAny_bind (wpAny_standAt (wpAny_bind (wpAny_mono (turn n s hI) (fun r s₁ h₁ => ?_) fun _ _ h' => h')))
  cases r with
  | none => exact wpAny_pure h₁
  | some v =>
    refine wpAny_bind (wpAny_mono h₁ (fun _ s₁' h₁' => ?_) fun _ _ h' => h')
    refine wpAny_bind (wpAny_mono h₁' (fun _ s₂ h₂ => wpAny_bind (wpAny_mono h₂ (fun ok s₃ h₃ => ?_) fun _ _ h' => h')) fun _ _ h' => h')
    cases ok with
    | false => exact wpAny_pure ⟨rfl, h₃⟩
    | true =>
      exact wpAny_bind (wpAny_bind (wpAny_mono h₃ (fun x s₄ h₄ => wpAny_bind (wpAny_mono h₄ (fun _ s₅ h₅ => wpAny_pure (wpAny_pure ⟨rfl, h₅⟩)) fun _ _ h' => h')) fun _ _ h' => h'))
section
variable {X : Cx}
def tLc (wi : TI) (g : TG) (tt : TT) (te : TE) (vs : List Nat) : TE := fun σ H Q => wi σ H fun J H1 => ∀ D, H1 D = none → ∃ W : Nat → Nat → Hp → Prop, (∃ m, W 0 m (upd H1 D (.lst []))) ∧ ∀ i m H, W i m H →
  (J.stop i H ∧ Q (.ref D) H) ∨ (J.go i H ∧ ∃ Nx : Hp → Prop, (∀ H', Nx H' → ∃ m', m' < m ∧ W (i + 1) m' H') ∧ ∀ x H', J.yld i H x H' → g x (wipe σ vs) H' fun σ2 H2 => wipe σ2 vs = wipe σ vs ∧ tt σ2 H2 fun b H3 =>
    if b = true then te σ2 H3 fun y H4 => ∃ acc, H4 D = some (.lst acc) ∧ acc.length < sizeLine ∧ Nx (upd H4 D (.lst (acc ++ [y]))) else Nx H3)
theorem lc_core {pins : List (Addr × Obj)} {s : Shared} {σ : St} {H : Hp} {Q : VK} {elt tg iter : Expr} {ifs : List Expr} {scope : Scope} {own : List (Str × Nat)} {pos pos' : Pos} {wi : TI} {g : TG} {tt : TT} {te : TE} {use : Option (Value → Sem Unit)} {Qf : Value → Shared → Prop}
    (hc : X.calm = true) (hN : X.N.Nodup) (I : Inv X pins σ H s) (hi : PI X tg iter wi) (ok : BlkOk X.N X.env.scope scope own)
    (hg : ∀ (s : Shared) (H : Hp) (C : Addr) (cl : List (Str × Addr)) (fp : List Addr), PG (X.blk s H scope (compEnvC scope cl C X.env) fp) tg g) (ht : ∀ (s : Shared) (H : Hp) (C : Addr) (cl : List (Str × Addr)) (fp : List Addr), PTs (X.blk s H scope (compEnvC scope cl C X.env) fp) ifs tt)
    (he : ∀ (s : Shared) (H : Hp) (C : Addr) (cl : List (Str × Addr)) (fp : List Addr), PE (X.blk s H scope (compEnvC scope cl C X.env) fp) elt te) (hs : ∀ x, foldedSetIterable iter X.env x = pure x)
    (h : tLc wi g tt te (own.map (·.2)) σ H Q)
    (hRR : ∀ D C s' m H', Inv X pins σ H' s' → Q (.ref D) H' → s'.heap.Ns C m → FpOk X pins H' C → compPost (model X.prog X.w) X.A X.xe use Qf (.ref D) C (.ok .next) s') :
    wpAny (model X.prog X.w) X.A (comprehension (.ListComp elt [⟨tg, iter, ifs, 0⟩] scope pos) scope X.env pos' (newList []) false (eval iter X.env) use) Qf X.xe s := by
  have hfree : ∀ y ∈ scope.names, y.2 = .free → ∃ c, X.env.cells.lookup y.1 = some c := fun y hy e => by
    rcases ok.free y hy e with k | k
    · exact I.ok.has _ (.inl k)
    · exact I.ok.has _ (.inr k)
  refine wpAny_comprehension_free (use := use) rfl hs (closure_ok hfree) ok.kind (fun y hy e => by rw [ok.uniq y hy, e])
    (thn (hi pins s σ H _ I h) fun xv s1 hx => thn hx fun itv s2 h2 => ?_)
  obtain ⟨it, fp, tn, J, H2, e, I2, T, st2, f2, q⟩ := h2
  subst e
  refine wpAny_newObj_type (newEnv_comp ?_) (by show 0 ≤ sizeLine; decide)
  generalize hD : s2.heap.objs.size = D
  have hDn : H2 D = none := I2.hok.fresh (Nat.le_of_eq hD)
  obtain ⟨W, ⟨m0, w0⟩, turn⟩ := q D hDn
  -- the new list
  generalize hs3 : ({ s2 with heap := s2.heap.push { cls := .type "list", data := .seq ([] : List Value).toArray } } : Shared) = s3
  have I3 : Inv X pins σ (upd H2 D (.lst [])) s3 := by
    rw [← hs3]
    refine I2.laid (t' := s2.toks) (fun b o e => Heap.get?_push_of_some _ e) (Nat.le_of_eq hD) ⟨Nat.zero_le _, [], 0, .nil, ?_⟩
    rw [← hD]
    exact Heap.get?_push_size _ rfl
  have h3 : s3.heap = s2.heap.push { cls := .type "list", data := .seq ([] : List Value).toArray } := by rw [← hs3]
  have sz : ∀ b ∈ fp, b < s2.heap.objs.size := fun b hb => by
    obtain ⟨o, e, _⟩ := T.obj _ _ st2 b hb
    exact Heap.lt_size e
  have f3 : ∀ b ∈ fp, FpOk X pins (upd H2 D (.lst [])) b ∧ b < s3.heap.objs.size := fun b hb => by
    have hlt := sz b hb
    refine ⟨⟨?_, (f2 b hb).2⟩, by rw [h3, Heap.size_push]; exact Nat.lt_succ_of_lt hlt⟩
    rw [upd_ne (by rw [← hD]; exact Nat.ne_of_lt hlt)]
    exact (f2 b hb).1
  have st3 : tn 0 s3.heap := T.keep _ _ _ st2 fun b _ o e => by rw [h3]; exact Heap.get?_push_of_some _ e
  have I4 := block_start I3 ok hN f3
  have pg := hg s3 (upd H2 D (.lst [])) s3.heap.objs.size (cellsFrom (s3.heap.objs.size + 1) scope.names (cloFrom X.env.cells scope.names [])) fp
  have pt := ht s3 (upd H2 D (.lst [])) s3.heap.objs.size (cellsFrom (s3.heap.objs.size + 1) scope.names (cloFrom X.env.cells scope.names [])) fp
  have pe := he s3 (upd H2 D (.lst [])) s3.heap.objs.size (cellsFrom (s3.heap.objs.size + 1) scope.names (cloFrom X.env.cells scope.names [])) fp
  show codeAny _ _ (.compStart (.ListComp elt [⟨tg, iter, ifs, 0⟩] scope pos) 0 (.ref it) (.ref D) (compEnvC scope (cellsFrom (s3.heap.objs.size + 1) scope.names (cloFrom X.env.cells scope.names [])) s3.heap.objs.size X.env)) (compPost (model X.prog X.w) X.A X.xe use Qf (.ref D) s3.heap.objs.size) { s3 with heap := pushCells (s3.heap.push { cls := .type "dict", data := .dict #[] }) scope.names }
  have nfp : ∀ b ∈ fp, (upd H2 D (.lst [])) b = none := fun b hb => (f3 b hb).1.1
  generalize hce : compEnvC scope (cellsFrom (s3.heap.objs.size + 1) scope.names (cloFrom X.env.cells scope.names [])) s3.heap.objs.size X.env = ce at I4 pg pt pe ⊢
  have cL : ce.locals = s3.heap.objs.size := by subst hce; rfl
  generalize hH3 : upd H2 D (.lst []) = H3 at I3 I4 pg pt pe w0 nfp f3
  generalize hs4 : ({ s3 with heap := pushCells (s3.heap.push { cls := .type "dict", data := .dict #[] }) scope.names } : Shared) = s4 at I4 ⊢
  have st4 : tn 0 s4.heap := T.keep _ _ _ st3 fun b _ o e => by rw [← hs4]; exact pushCells_keeps _ _ _ _ (Heap.get?_push_of_some _ e)
  have stat : ∀ {σ' : St} {H' : Hp} {s' : Shared}, Inv (X.blk s3 H3 scope ce fp) [] σ' H' s' → (∀ b ∈ fp, H' b = none) → ∀ b ∈ fp, FpOk (X.blk s3 H3 scope ce fp) [] H' b := fun {σ' H' s'} I' hn b hb =>
    ⟨hn b hb, (I'.ok.exf b hb).1, I'.ok.exfs b hb, .inl hb, fun x c e => (I'.ok.exf b hb).2 x c e, fun p hp => absurd (show p ∈ ([] : List (Addr × Obj)) ++ [] from hp) (by simp)⟩
  have loop : codeAny (model X.prog X.w) X.A (.compLoop (.ListComp elt [⟨tg, iter, ifs, 0⟩] scope pos) 0 (.ref it) (.ref D) ce) (compPost (model X.prog X.w) X.A X.xe use Qf (.ref D) s3.heap.objs.size) s4 := by
    refine compLoop_any (fun n s' => ∃ i H', Inv (X.blk s3 H3 scope ce fp) [] (wipe σ (own.map (·.2))) H' s' ∧ tn i s'.heap ∧ (∀ b ∈ fp, H' b = none) ∧ W i n H') ?_ m0 ⟨0, H3, I4, st4, nfp, w0⟩
    rintro n s5 ⟨i, H5, I5, st5, n5, w5⟩
    rcases turn i n H5 w5 with ⟨stop, qq⟩ | ⟨go, Nx, hNx, step⟩
    · have td := T.done (X.blk s3 H3 scope ce fp) rfl rfl rfl hc i [] s5 _ H5 (fun _ _ => False) I5 (stat I5 n5) st5 stop
      refine thnF td fun r s6 ⟨hr, I6⟩ => ?_
      subst hr
      -- back in the def's context
      have I7 : Inv X pins σ H5 s6 := I3.call' (ch := fp) I6.os I6.base I6.hok I6.bare fun b hb => ⟨(f3 b hb).1.2.2.2.1, (f3 b hb).1.2.1, (f3 b hb).1.2.2.2.2.1, (f3 b hb).1.2.2.2.2.2⟩
      have nC : H5 s3.heap.objs.size = none := by
        have z : H5 ce.locals = none := I6.free
        rw [cL] at z
        exact z
      obtain ⟨m, hn, _⟩ := I6.loc
      have hn : s6.heap.Ns ce.locals m := hn
      rw [cL] at hn
      exact hRR D s3.heap.objs.size s6 m H5 I7 qq hn (I3.fpOk (Nat.le_refl _) nC)
    · have ti := T.item (X.blk s3 H3 scope ce fp) rfl rfl rfl hc i [] s5 _ H5 (fun _ _ => False) I5 (stat I5 n5) st5 go
      refine thnF ti fun r s6 ⟨u, hr, h6⟩ => ?_
      subst hr
      refine thnF h6 fun _ s7 ⟨x, H7, I7, r7, y7, st7, n7⟩ => ?_
      have I7' := I7.pinned (stat I7 n7) (T.obj _ _ st7)
      refine thnF (pg _ s7 _ H7 x u _ I7' r7 (step x H7 y7)) fun _ s8 ⟨σ8, H8, I8, hw8, q8⟩ => ?_
      refine thnF (pt _ s8 σ8 H8 _ I8 q8) fun b s9 ⟨H9, I9, q9⟩ => ?_
      -- the turn's end
      have fin : ∀ {s' : Shared} {H' : Hp}, Inv (X.blk s3 H3 scope ce fp) ([] ++ pinsAt fp s7.heap) σ8 H' s' → Nx H' → ∃ m, m < n ∧ ∃ i H', Inv (X.blk s3 H3 scope ce fp) [] (wipe σ (own.map (·.2))) H' s' ∧ tn i s'.heap ∧ (∀ b ∈ fp, H' b = none) ∧ W i m H' := fun {s' H'} I' nx => by
        obtain ⟨m', hm, w'⟩ := hNx H' nx
        have pin' : ∀ b ∈ fp, ∀ o, s7.heap.get? b = some o → s'.heap.get? b = some o ∧ H' b = none := fun b hb o e =>
          let z := I'.pin (b, o) (List.mem_append_right _ (List.mem_append_right _ (mem_pinsAt hb e)))
          ⟨z.1, z.2.1⟩
        have hl : (wipe σ (own.map (·.2))).length = σ8.length := by rw [← hw8, wipe_length]
        refine ⟨m', hm, i + 1, H', (I'.unpinned (pins := [])).weak hl (fun j v e => ?_), T.keep _ _ _ st7 fun b hb o e => (pin' b hb o e).1, fun b hb => ?_, w'⟩
        · rw [← hw8] at e
          exact (wipe_some e).1
        · obtain ⟨o, e, _⟩ := T.obj _ _ st7 b hb
          exact (pin' b hb o e).2
      cases b with
      | false =>
        simp only [Bool.false_eq_true, if_false] at q9 ⊢
        exact fin I9 q9
      | true =>
        simp only [if_true] at q9 ⊢
        refine thnF (pe _ s9 σ8 H9 _ I9 q9) fun z s10 ⟨yv, H10, I10, r10, acc, hD10, hz10, nx⟩ => ?_
        exact app_ok (X := X.blk s3 H3 scope ce fp) I10 hD10 hz10 r10 fun s11 I11 => fin I11 nx
  exact codeAny_compStart_list loop (T.self X.A 0 _ _ _ st4 loop)
theorem pe_lc {elt tg iter : Expr} {ifs : List Expr} {scope : Scope} {own : List (Str × Nat)} {pos : Pos} {wi : TI} {g : TG} {tt : TT} {te : TE} (hc : X.calm = true) (hN : X.N.Nodup) (hi : PI X tg iter wi) (ok : BlkOk X.N X.env.scope scope own)
    (hg : ∀ (s : Shared) (H : Hp) (C : Addr) (cl : List (Str × Addr)) (fp : List Addr), PG (X.blk s H scope (compEnvC scope cl C X.env) fp) tg g) (ht : ∀ (s : Shared) (H : Hp) (C : Addr) (cl : List (Str × Addr)) (fp : List Addr), PTs (X.blk s H scope (compEnvC scope cl C X.env) fp) ifs tt)
    (he : ∀ (s : Shared) (H : Hp) (C : Addr) (cl : List (Str × Addr)) (fp : List Addr), PE (X.blk s H scope (compEnvC scope cl C X.env) fp) elt te) (hs : ∀ x, foldedSetIterable iter X.env x = pure x := by intro _; rfl) :
    PE X (.ListComp elt [⟨tg, iter, ifs, 0⟩] scope pos) (tLc wi g tt te (own.map (·.2))) := by
  intro pins s σ H Q I h
  rw [eval_ListComp]
  refine lc_core hc hN I hi ok hg ht he hs h fun D C s' m H' I' q hn f => ⟨m, hn, fun h'' sb => ?_⟩
  obtain ⟨f0, f1, f2, f3, f4, f5⟩ := f
  exact ⟨.ref D, H', I'.turned (t' := s'.toks) (fun b o hb e => (sb.2 b hb).trans e) f0 f1 f3 f4 f5, rfl, q⟩
theorem ps_setLc {i : Nat} {y : Str} {py : Pos} {elt tg iter : Expr} {ifs : List Expr} {scope : Scope} {own : List (Str × Nat)} {pos spos : Pos} {wi : TI} {g : TG} {tt : TT} {te : TE} (hc : X.calm = true) (hN : X.N.Nodup) (hy : X.N[i]? = some y) (hyl : X.env.scope.names.lookup y = some .local)
    (hsw : swapsWith (.ListComp elt [⟨tg, iter, ifs, 0⟩] scope pos) (some (.Name y py)) spos.line X.env = pure true) (hi : PI X tg iter wi) (ok : BlkOk X.N X.env.scope scope own)
    (hg : ∀ (s : Shared) (H : Hp) (C : Addr) (cl : List (Str × Addr)) (fp : List Addr), PG (X.blk s H scope (compEnvC scope cl C X.env) fp) tg g) (ht : ∀ (s : Shared) (H : Hp) (C : Addr) (cl : List (Str × Addr)) (fp : List Addr), PTs (X.blk s H scope (compEnvC scope cl C X.env) fp) ifs tt)
    (he : ∀ (s : Shared) (H : Hp) (C : Addr) (cl : List (Str × Addr)) (fp : List Addr), PE (X.blk s H scope (compEnvC scope cl C X.env) fp) elt te) (hs : ∀ x, foldedSetIterable iter X.env x = pure x := by intro _; rfl) :
    PS X (.Assign [.Name y py] (.ListComp elt [⟨tg, iter, ifs, 0⟩] scope pos) spos) (tAsg (tLc wi g tt te (own.map (·.2))) (gName i)) := by
  intro pins s σ H D I h
  rw [exec_Assign_Name_used _ _ _ _ hsw]
  refine wpAny_bind (wpAny_standAt (wpAny_bind ?_))
  show wpAny _ X.A (do let _ ← comprehension (.ListComp elt [⟨tg, iter, ifs, 0⟩] scope pos) scope X.env (firstIterPos [⟨tg, iter, ifs, 0⟩] pos) (newList []) false (eval iter X.env) (some (assign (.Name y py) X.env))) _ _ s
  have h : tLc wi g tt te (own.map (·.2)) σ H (fun x H1 => gName i x σ H1 D.nx) := h
  refine wpAny_bind (thn (lc_core (Qf := fun _ s' => SP X pins D .next s') hc hN I hi ok hg ht he hs h fun L C s' m H' I' q hn f => ?_) fun _ s' hq => wpAny_pure (wpAny_pure hq))
  show wpAny _ _ (assign (.Name y py) X.env (.ref L)) _ _ _
  refine wpAny_assign_Name (store_ok2 (v := V.ref L) I' hN hy (.inl hyl) rfl (fun s2 I2 ⟨a, sb, ha⟩ => ?_) (.inr hyl))
  obtain ⟨f0, f1, f2, f3, f4, f5⟩ := f
  have haC : C ≠ a := by
    rcases ha with z | z
    · rw [z]; exact f1
    · exact fun e => f4 y a z e.symm
  refine ⟨m, hn.sameBut sb haC, fun h3 sb3 => ?_⟩
  exact ⟨_, H', I2.turned (t' := s2.toks) (fun b o hb e => (sb3.2 b hb).trans e) f0 f1 f3 f4 f5, q⟩
theorem sw_true {elt : Expr} {gs : List Comprehension} {scope : Scope} {pos py : Pos} {y : Str} {l : Nat} {env : Env} (hk : env.scope.kind = .function) (hy : env.scope.names.lookup y = some .local) (hl : (py.line == pos.line) = true)
    (ha : (scope.names.any fun (n, k) => n == y && (k == .local || k == .cell)) = false) : swapsWith (.ListComp elt gs scope pos) (some (.Name y py)) l env = pure true := by
  have ky : env.kindOf y = some .local := hy
  have hb : env.blockKind = .function := by unfold Env.blockKind; rw [hk]; rfl
  unfold swapsWith
  simp only [hb, ky, ha, Expr.pos, hl]
  rfl
end
theorem lc_range {lo : Int} {n : Nat} {g : TG} {tt : TT} {te : TE} {vs : List Nat} {σ : St} {H1 : Hp} {D : Addr} {Qd : Hp → Prop} (Pv : Nat → Hp → Prop) (h0 : Pv 0 (upd H1 D (.lst [])))
    (hs : ∀ i H, i < n → Pv i H → g (.int (lo + i)) (wipe σ vs) H fun σ2 H2 => wipe σ2 vs = wipe σ vs ∧ tt σ2 H2 fun b H3 =>
      if b = true then te σ2 H3 fun y H4 => ∃ acc, H4 D = some (.lst acc) ∧ acc.length < sizeLine ∧ Pv (i + 1) (upd H4 D (.lst (acc ++ [y]))) else Pv (i + 1) H3) (hd : ∀ H, Pv n H → Qd H) :
    ∃ W : Nat → Nat → Hp → Prop, (∃ m, W 0 m (upd H1 D (.lst []))) ∧ ∀ i m H, W i m H →
      ((Itr lo n).stop i H ∧ Qd H) ∨ ((Itr lo n).go i H ∧ ∃ Nx : Hp → Prop, (∀ H', Nx H' → ∃ m', m' < m ∧ W (i + 1) m' H') ∧ ∀ x H', (Itr lo n).yld i H x H' → g x (wipe σ vs) H' fun σ2 H2 => wipe σ2 vs = wipe σ vs ∧ tt σ2 H2 fun b H3 =>
        if b = true then te σ2 H3 fun y H4 => ∃ acc, H4 D = some (.lst acc) ∧ acc.length < sizeLine ∧ Nx (upd H4 D (.lst (acc ++ [y]))) else Nx H3) := by
  refine ⟨fun i m H => m = n - i ∧ i ≤ n ∧ Pv i H, ⟨n, by simp, Nat.zero_le _, h0⟩, ?_⟩
  rintro i m H ⟨rfl, hi, p⟩
  by_cases hlt : i < n
  · refine .inr ⟨hlt, Pv (i + 1), fun H' p' => ⟨n - (i + 1), by omega, rfl, hlt, p'⟩, fun x H' y => ?_⟩
    obtain ⟨e, y⟩ := y
    subst e y
    exact hs i _ hlt p
  · have e : i = n := by omega
    subst e
    exact .inl ⟨Nat.le_refl _, hd H p⟩
theorem lc_list {K : PySem.W.Frag} {a : Addr} {xs : List V} {g : TG} {tt : TT} {te : TE} {vs : List Nat} {σ : St} {H1 : Hp} {D : Addr} {Qd : Hp → Prop} (Pv : Nat → Hp → Prop) (h0 : Pv 0 (upd H1 D (.lst []))) (hl : ∀ i H, i ≤ xs.length → Pv i H → SqL K H a xs)
    (hs : ∀ i x H, xs[i]? = some x → Pv i H → g x (wipe σ vs) H fun σ2 H2 => wipe σ2 vs = wipe σ vs ∧ tt σ2 H2 fun b H3 =>
      if b = true then te σ2 H3 fun y H4 => ∃ acc, H4 D = some (.lst acc) ∧ acc.length < sizeLine ∧ Pv (i + 1) (upd H4 D (.lst (acc ++ [y]))) else Pv (i + 1) H3) (hd : ∀ H, Pv xs.length H → Qd H) :
    ∃ W : Nat → Nat → Hp → Prop, (∃ m, W 0 m (upd H1 D (.lst []))) ∧ ∀ i m H, W i m H →
      ((Itl K a).stop i H ∧ Qd H) ∨ ((Itl K a).go i H ∧ ∃ Nx : Hp → Prop, (∀ H', Nx H' → ∃ m', m' < m ∧ W (i + 1) m' H') ∧ ∀ x H', (Itl K a).yld i H x H' → g x (wipe σ vs) H' fun σ2 H2 => wipe σ2 vs = wipe σ vs ∧ tt σ2 H2 fun b H3 =>
        if b = true then te σ2 H3 fun y H4 => ∃ acc, H4 D = some (.lst acc) ∧ acc.length < sizeLine ∧ Nx (upd H4 D (.lst (acc ++ [y]))) else Nx H3) := by
  refine ⟨fun i m H => m = xs.length - i ∧ i ≤ xs.length ∧ Pv i H, ⟨xs.length, by simp, Nat.zero_le _, h0⟩, ?_⟩
  rintro i m H ⟨rfl, hi, p⟩
  have q := hl i H hi p
  by_cases hlt : i < xs.length
  · refine .inr ⟨⟨xs, xs[i], q, by simp [hlt]⟩, Pv (i + 1), fun H' p' => ⟨xs.length - (i + 1), by omega, rfl, hlt, p'⟩, fun x H' y => ?_⟩
    obtain ⟨e, y⟩ := y
    subst e
    exact hs i x _ (y xs q) p
  · have e : i = xs.length := by omega
    subst e
    exact .inl ⟨⟨xs, q, Nat.le_refl _⟩, hd H p⟩
def blkC (N : List Str) (sc scope : Scope) (own : List (Str × Nat)) : Bool :=
  (match scope.kind with | .function => true | _ => false) && (scope.names.all fun y => decide (scope.names.lookup y.1 = some y.2)) && (own.all fun p => decide (N[p.2]? = some p.1)) &&
    (scope.names.all fun y => match y.2 with
      | .free => (match sc.names.lookup y.1 with | some .cell => true | some .free => true | _ => false)
      | .local => decide (y.1 ∈ own.map (·.1)) || decide (y.1 ∉ N)
      | .cell => decide (y.1 ∈ own.map (·.1)) || decide (y.1 ∉ N)
      | _ => true)
theorem blkOk_by {N : List Str} {sc scope : Scope} {own : List (Str × Nat)} (h : blkC N sc scope own = true) : BlkOk N sc scope own := by
  unfold blkC at h
  simp only [Bool.and_eq_true, List.all_eq_true, decide_eq_true_eq] at h
  obtain ⟨⟨⟨h1, h2⟩, h3⟩, h4⟩ := h
  refine ⟨?_, h2, h3, fun y hy e => ?_, fun y hy e => ?_⟩
  · split at h1
    · assumption
    · cases h1
  · have q := h4 y hy
    simp only [e] at q
    split at q <;> first | exact .inl (by assumption) | exact .inr (by assumption) | cases q
  · have q := h4 y hy
    rcases e with e | e <;> (simp only [e, Bool.or_eq_true, decide_eq_true_eq] at q; exact q)
end L2
namespace L2
open PySem PySem.Spec PyProof.Rows
section
variable {prog : Program} {w : World} {A : Around} {R : Result → Shared → Prop} {s : Shared} {elt t0 i0 t1 i1 : Expr} {ifs0 ifs1 : List Expr} {scope : Scope} {pos : Pos} {it acc : Value} {env : Env}
end
section
variable {X : Cx}
end
end L2
namespace L2
open PySem PySem.Spec PyProof.Rows
section
variable {κ : Type} [DecidableEq κ]
def valV (kvs : List (κ × V)) (k : κ) : Option V := (kvs.find? fun kv => decide (kv.1 = k)).map (·.2)
def putK (kvs : List (κ × V)) (k : κ) (v : V) : List (κ × V) :=
  if (kvs.any fun kv => decide (kv.1 = k)) = true then kvs.map (fun kv => if kv.1 = k then (kv.1, v) else kv) else kvs ++ [(k, v)]
def dropK (kvs : List (κ × V)) (k : κ) : List (κ × V) := kvs.filter fun kv => decide (kv.1 ≠ k)
theorem valV_pos {p : κ × V} {r : List (κ × V)} {k : κ} (e : p.1 = k) : valV (p :: r) k = some p.2 := by simp [valV, List.find?_cons, e]
theorem valV_neg {p : κ × V} {r : List (κ × V)} {k : κ} (e : ¬ p.1 = k) : valV (p :: r) k = valV r k := by simp [valV, List.find?_cons, e]
theorem valV_any (k : κ) : ∀ kvs : List (κ × V), (kvs.any fun kv => decide (kv.1 = k)) = (valV kvs k).isSome
  | [] => rfl
  | p :: r => by
    rw [List.any_cons]
    by_cases e : p.1 = k
    · simp only [valV_pos e, decide_eq_true e, Bool.true_or, Option.isSome_some]
    · rw [valV_neg e, decide_eq_false e, Bool.false_or]; exact valV_any k r
theorem valV_snoc (k j : κ) (y : V) : ∀ kvs : List (κ × V), valV kvs k = none → valV (kvs ++ [(k, y)]) j = if j = k then some y else valV kvs j
  | [], _ => by
    by_cases e : k = j
    · rw [if_pos e.symm]; exact valV_pos (p := (k, y)) e
    · rw [if_neg (fun z => e z.symm)]; exact valV_neg (p := (k, y)) e
  | p :: r, hn => by
    rw [List.cons_append]
    have hk : ¬ p.1 = k := fun z => by rw [valV_pos z] at hn; cases hn
    rw [valV_neg hk] at hn
    have ih := valV_snoc k j y r hn
    by_cases e : p.1 = j
    · rw [valV_pos e, valV_pos e, if_neg (fun z => hk (e.trans z))]
    · rw [valV_neg e, valV_neg e, ih]
theorem length_putK (kvs : List (κ × V)) (k : κ) (v : V) : (putK kvs k v).length ≤ kvs.length + 1 := by
  unfold putK
  split
  · rw [List.length_map]; omega
  · rw [List.length_append, List.length_cons, List.length_nil]; omega
theorem putK_new {kvs : List (κ × V)} {k : κ} (v : V) (h : valV kvs k = none) : putK kvs k v = kvs ++ [(k, v)] := by
  unfold putK
  rw [valV_any, h]
  exact if_neg (by decide)
theorem RelO.isSome_eq {o : Option V} {u : Option Value} (r : RelO o u) : o.isSome = u.isSome := by
  cases o with
  | none => cases u with
    | none => rfl
    | some _ => exact (show False from r).elim
  | some _ => cases u with
    | none => exact (show False from r).elim
    | some _ => rfl
theorem RelO.getD {o : Option V} {u : Option Value} {d : V} {d' : Value} (r : RelO o u) (rd : RelV d d') : RelV (o.getD d) (u.getD d') := by
  cases o with
  | none => cases u with
    | none => exact rd
    | some _ => exact (show False from r).elim
  | some _ => cases u with
    | none => exact (show False from r).elim
    | some _ => exact r
theorem KV.val {kvs : List (κ × V)} {vs : List (κ × Value)} (r : KV kvs vs) (k : κ) : RelO (valV kvs k) (valueAt vs k) := by
  unfold KV at r
  induction r with
  | nil => exact True.intro
  | @cons p q ps qs h t ih =>
    obtain ⟨h1, h2⟩ := h
    by_cases e : p.1 = k
    · have e' : q.1 = k := h1.symm.trans e
      have b : valueAt (q :: qs) k = some q.2 := by simp [valueAt, List.find?_cons, e']
      rw [valV_pos e, b]; exact h2
    · have e' : ¬ q.1 = k := fun z => e (h1.trans z)
      have b : valueAt (q :: qs) k = valueAt qs k := by simp [valueAt, List.find?_cons, e']
      rw [valV_neg e, b]; exact ih
theorem KV.any {kvs : List (κ × V)} {vs : List (κ × Value)} (r : KV kvs vs) (k : κ) : (kvs.any fun kv => decide (kv.1 = k)) = vs.any fun kv => decide (kv.1 = k) := by
  unfold KV at r
  induction r with
  | nil => rfl
  | cons h t ih => rw [List.any_cons, List.any_cons, ih, h.1]
theorem KV.repl {kvs : List (κ × V)} {vs : List (κ × Value)} (r : KV kvs vs) (k : κ) {y : V} {u : Value} (ry : RelV y u) :
    KV (kvs.map fun kv => if kv.1 = k then (kv.1, y) else kv) (vs.map fun kv => if kv.1 = k then (kv.1, u) else kv) := by
  unfold KV at r ⊢
  induction r with
  | nil => exact .nil
  | @cons p q ps qs h t ih =>
    rw [List.map_cons, List.map_cons]
    refine .cons ?_ ih
    obtain ⟨h1, h2⟩ := h
    by_cases e : p.1 = k
    · rw [if_pos e, if_pos (h1.symm.trans e)]; exact ⟨h1, ry⟩
    · rw [if_neg e, if_neg (fun z => e (h1.trans z))]; exact ⟨h1, h2⟩
theorem KV.put {kvs : List (κ × V)} {vs : List (κ × Value)} (r : KV kvs vs) (k : κ) {y : V} {u : Value} (ry : RelV y u) : KV (putK kvs k y) (stored vs k u) := by
  unfold putK stored
  rw [r.any k]
  by_cases e : (vs.any fun kv => decide (kv.1 = k)) = true
  · rw [if_pos e, if_pos e]; exact r.repl k ry
  · rw [if_neg e, if_neg e]; exact Paired.snoc r ⟨rfl, ry⟩
theorem KV.drop {kvs : List (κ × V)} {vs : List (κ × Value)} (r : KV kvs vs) (k : κ) : KV (dropK kvs k) (without vs k) := by
  unfold KV at r ⊢
  unfold dropK without
  induction r with
  | nil => exact .nil
  | @cons p q ps qs h t ih =>
    obtain ⟨h1, h2⟩ := h
    rw [List.filter_cons, List.filter_cons]
    by_cases e : p.1 = k
    · have a : ¬ decide (p.1 ≠ k) = true := by simp [e]
      have b : ¬ decide (q.1 ≠ k) = true := by simp [h1.symm.trans e]
      rw [if_neg a, if_neg b]; exact ih
    · have e' : ¬ q.1 = k := fun z => e (h1.trans z)
      have a : decide (p.1 ≠ k) = true := by simp [e]
      have b : decide (q.1 ≠ k) = true := by simp [e']
      rw [if_pos a, if_pos b]; exact .cons ⟨h1, h2⟩ ih
theorem KV.keys {kvs : List (κ × V)} {vs : List (κ × Value)} (r : KV kvs vs) : kvs.map (·.1) = vs.map (·.1) := by
  unfold KV at r
  induction r with
  | nil => rfl
  | cons h t ih => rw [List.map_cons, List.map_cons, ih, h.1]
theorem KV.length {kvs : List (κ × V)} {vs : List (κ × Value)} (r : KV kvs vs) : kvs.length = vs.length := Paired.length r
end
theorem kV_is {P : Program} {w : World} {k : Key} {u : Value} (r : RelV (kV k) u) : (mixKind P w).is k u = true := by
  cases k with
  | inl i => obtain ⟨t, e⟩ := (show ∃ t, u = Value.int i t from r); subst e; exact mixKind_int P w i t
  | inr x => obtain ⟨t, e⟩ := (show ∃ t, u = Value.str x t from r); subst e; exact mixKind_str P w x t
theorem items_are {P : Program} {w : World} : ∀ {ks : List Key} {us : List Value}, Vals (ks.map kV) us → ItemsAre (mixKind P w) ks us
  | [], _, r => by rw [List.map_nil] at r; cases r; exact .nil
  | k :: ks, _, r => by
    rw [List.map_cons] at r
    cases r with
    | cons h t => exact .cons (kV_is h) (items_are t)
abbrev KT (H : Hp) : List (List Key × V) → List (List Key × Addr × Value) → Prop := Paired fun p q => p.1 = q.1 ∧ H q.2.1 = some (.tup (p.1.map kV)) ∧ RelV p.2 q.2.2
theorem KT.val {H : Hp} {kvs : List (List Key × V)} {xs : List (List Key × Addr × Value)} (r : KT H kvs xs) (k : List Key) : RelO (valV kvs k) ((atKey xs k).map (·.2)) := by
  induction r with
  | nil => exact True.intro
  | @cons p q ps qs h t ih =>
    obtain ⟨h1, _, h2⟩ := h
    by_cases e : p.1 = k
    · have e' : q.1 = k := h1.symm.trans e
      have b : atKey (q :: qs) k = some q.2 := by simp [atKey, List.find?_cons, e']
      rw [valV_pos e, b]; exact h2
    · have e' : ¬ q.1 = k := fun z => e (h1.trans z)
      have b : atKey (q :: qs) k = atKey qs k := by simp [atKey, List.find?_cons, e']
      rw [valV_neg e, b]; exact ih
theorem KT.repl {H : Hp} {kvs : List (List Key × V)} {xs : List (List Key × Addr × Value)} (r : KT H kvs xs) (k : List Key) {y : V} {u : Value} (ry : RelV y u) :
    KT H (kvs.map fun kv => if kv.1 = k then (kv.1, y) else kv) (xs.map (putAt k u)) := by
  induction r with
  | nil => exact .nil
  | @cons p q ps qs h t ih =>
    rw [List.map_cons, List.map_cons]
    refine .cons ?_ ih
    obtain ⟨h1, h2, h3⟩ := h
    unfold putAt
    by_cases e : p.1 = k
    · rw [if_pos e, if_pos (h1.symm.trans e)]; exact ⟨h1, h2, ry⟩
    · rw [if_neg e, if_neg (fun z => e (h1.trans z))]; exact ⟨h1, h2, h3⟩
theorem KT.put {H : Hp} {kvs : List (List Key × V)} {xs : List (List Key × Addr × Value)} (r : KT H kvs xs) (k : List Key) {b : Addr} {y : V} {u : Value} (hb : H b = some (.tup (k.map kV))) (ry : RelV y u) :
    KT H (putK kvs k y) (storedH xs k b u) := by
  have e : (kvs.any fun kv => decide (kv.1 = k)) = (atKey xs k).isSome := by
    rw [valV_any, (r.val k).isSome_eq, Option.isSome_map]
  unfold putK storedH
  rw [e]
  by_cases q : (atKey xs k).isSome = true
  · rw [if_pos q, if_pos q]; exact r.repl k ry
  · rw [if_neg q, if_neg q]; exact Paired.snoc r ⟨rfl, hb, ry⟩
theorem KT.keeps {H H' : Hp} {kvs : List (List Key × V)} {xs : List (List Key × Addr × Value)} (r : KT H kvs xs) (ht : ∀ b ys, H b = some (.tup ys) → H' b = some (.tup ys)) : KT H' kvs xs :=
  Paired.mapP r fun _ _ z => ⟨z.1, ht _ _ z.2.1, z.2.2⟩
section
variable {P : Program} {w : World} {H : Hp} {h : Heap} {a : Addr}
theorem rd_of {u : HO} (ok : HOk P w H h) (e : Rd H a u) : ObjOk P w H h a u := e.ok ok
theorem dk_rd {kvs : List (Key × V)} (ok : HOk P w H h) (e : Rd H a (.dK kvs)) : kvs.length ≤ sizeLine ∧ (a == sysModules) = false ∧ ∃ vs, KV kvs vs ∧ h.DictOf (mixKind P w) a vs :=
  show ObjOk P w H h a (.dK kvs) from rd_of ok e
theorem dk_of {kvs : List (Key × V)} (ok : HOk P w H h) (e : H a = some (.dK kvs)) : kvs.length ≤ sizeLine ∧ (a == sysModules) = false ∧ ∃ vs, KV kvs vs ∧ h.DictOf (mixKind P w) a vs := dk_rd ok (.inl e)
theorem key_of {ks : List Key} (ok : HOk P w H h) (e : H a = some (.tup (ks.map kV))) : (tupleKind (mixKind P w)).is h ks a := by
  obtain ⟨_, its, r, o, h1, h2, n, h3⟩ := (show ObjOk P w H h a (.tup (ks.map kV)) from ok a _ e)
  exact ⟨o, its.toArray, n, h1, h2, h3, by simpa using items_are r⟩
theorem dt_rd {kvs : List (List Key × V)} (ok : HOk P w H h) (e : Rd H a (.dT kvs)) : kvs.length ≤ sizeLine ∧ (a == sysModules) = false ∧
    ∃ xs, KT H kvs xs ∧ h.DictOfH (tupleKind (mixKind P w)) a xs := by
  obtain ⟨z, y, xs, r, o, es, ep, h1, h2, h3, h4, h5⟩ := (show ObjOk P w H h a (.dT kvs) from rd_of ok e)
  refine ⟨z, y, xs, r, o, es, ep, h1, h2, h3, h4, fun x hx => ?_, h5⟩
  have all : ∀ {l : List (List Key × V)} {m : List (List Key × Addr × Value)}, KT H l m → ∀ x ∈ m, (tupleKind (mixKind P w)).is h x.1 x.2.1 := by
    intro l m q
    induction q with
    | nil => intro x hx; exact nomatch hx
    | @cons p q ps qs hq t ih =>
      intro x hx
      rcases List.mem_cons.mp hx with e | hx
      · subst e
        exact key_of ok (by rw [← hq.1]; exact hq.2.1)
      · exact ih x hx
  exact all r x hx
theorem dt_of {kvs : List (List Key × V)} (ok : HOk P w H h) (e : H a = some (.dT kvs)) : kvs.length ≤ sizeLine ∧ (a == sysModules) = false ∧
    ∃ xs, KT H kvs xs ∧ h.DictOfH (tupleKind (mixKind P w)) a xs := dt_rd ok (.inl e)
end
def DGet (H : Hp) (a : Addr) (y : V) (r : Option V) : Prop :=
  (∃ kvs k, Rd H a (.dK kvs) ∧ y = kV k ∧ r = valV kvs k) ∨ ∃ kvs k b, Rd H a (.dT kvs) ∧ y = .ref b ∧ H b = some (.tup (k.map kV)) ∧ r = valV kvs k
def DPut (H : Hp) (a : Addr) (y v : V) (H' : Hp) : Prop :=
  (∃ kvs k, H a = some (.dK kvs) ∧ y = kV k ∧ kvs.length < sizeLine ∧ H' = upd H a (.dK (putK kvs k v))) ∨
  ∃ kvs k b, H a = some (.dT kvs) ∧ y = .ref b ∧ H b = some (.tup (k.map kV)) ∧ kvs.length < sizeLine ∧ H' = upd H a (.dT (putK kvs k v))
theorem DGet.k {H : Hp} {a : Addr} {kvs : List (Key × V)} {k : Key} (e : H a = some (.dK kvs)) : DGet H a (kV k) (valV kvs k) := .inl ⟨kvs, k, .inl e, rfl, rfl⟩
theorem DGet.t {H : Hp} {a b : Addr} {kvs : List (List Key × V)} {k : List Key} (e : H a = some (.dT kvs)) (eb : H b = some (.tup (k.map kV))) : DGet H a (.ref b) (valV kvs k) := .inr ⟨kvs, k, b, .inl e, rfl, eb, rfl⟩
theorem DPut.k {H : Hp} {a : Addr} {kvs : List (Key × V)} {k : Key} {v : V} (e : H a = some (.dK kvs)) (hl : kvs.length < sizeLine) : DPut H a (kV k) v (upd H a (.dK (putK kvs k v))) := .inl ⟨kvs, k, e, rfl, hl, rfl⟩
theorem DPut.t {H : Hp} {a b : Addr} {kvs : List (List Key × V)} {k : List Key} {v : V} (e : H a = some (.dT kvs)) (eb : H b = some (.tup (k.map kV))) (hl : kvs.length < sizeLine) :
    DPut H a (.ref b) v (upd H a (.dT (putK kvs k v))) := .inr ⟨kvs, k, b, e, rfl, eb, hl, rfl⟩
section
variable {X : Cx} {pins : List (Addr × Obj)} {σ : St} {H : Hp} {s : Shared} {a : Addr} {y v : V} {u r : Value} {o : Option V} {A : Around} {E : Value → Shared → Prop}
theorem Inv.big (I : Inv X pins σ H s) : sysModules < s.heap.objs.size := by
  have h : mainGlobals < s.heap.objs.size := (I.mod.glob.keeps I.bk).lt
  exact Nat.lt_trans (by decide) h
theorem d_in {Q : Value → Shared → Prop} (hu : A.units + 1 < cLine) (I : Inv X pins σ H s) (g : DGet H a y o) (ry : RelV y u) (h : ∀ s', Inv X pins σ H s' → Q (.bool o.isSome) s') :
    wpAny (model X.prog X.w) A (compareOp .In u (.ref a)) Q E s := by
  rcases g with ⟨kvs, k, e, ey, l⟩ | ⟨kvs, k, b, e, ey, eb, l⟩
  · subst ey
    obtain ⟨z, hd, vs, rel, dd⟩ := dk_rd I.hok e
    refine wpAny_in_of (kV_is ry) hd dd.mapOf ?_
    rw [← (rel.val k).isSome_eq, ← l]
    exact h _ (I.tok _)
  · subst ey
    cases (show u = Value.ref b from ry)
    obtain ⟨z, hd, xs, rel, dd⟩ := dt_rd I.hok e
    refine wpAny_in_heap (tupleKind_room_in1 hu) (key_of I.hok eb) hd dd ?_
    have q := (rel.val k).isSome_eq
    rw [Option.isSome_map] at q
    rw [← q, ← l]
    exact h _ (I.tok _)
theorem d_notIn {Q : Value → Shared → Prop} (hu : A.units + 1 < cLine) (I : Inv X pins σ H s) (g : DGet H a y o) (ry : RelV y u) (h : ∀ s', Inv X pins σ H s' → Q (.bool (!o.isSome)) s') :
    wpAny (model X.prog X.w) A (compareOp .NotIn u (.ref a)) Q E s := by
  rcases g with ⟨kvs, k, e, ey, l⟩ | ⟨kvs, k, b, e, ey, eb, l⟩
  · subst ey
    obtain ⟨z, hd, vs, rel, dd⟩ := dk_rd I.hok e
    refine wpAny_notIn_of (kV_is ry) hd dd.mapOf ?_
    rw [← (rel.val k).isSome_eq, ← l]
    exact h _ (I.tok _)
  · subst ey
    cases (show u = Value.ref b from ry)
    obtain ⟨z, hd, xs, rel, dd⟩ := dt_rd I.hok e
    refine wpAny_notIn_heap (tupleKind_room_in1 hu) (key_of I.hok eb) hd dd ?_
    have q := (rel.val k).isSome_eq
    rw [Option.isSome_map] at q
    rw [← q, ← l]
    exact h _ (I.tok _)
theorem d_write {h' : Heap} {t' : Nat} {ob : HO} (I : Inv X pins σ H s) (mu : Mut (H a)) (hs : Heap.SameBut a s.heap h') (he : ∃ q, h'.get? a = some q) (new : ObjOk X.prog X.w (upd H a ob) h' a ob) :
    Inv X pins σ (upd H a ob) { s with heap := h', toks := t' } :=
  I.write (x := a) (e := a) mu (.inl rfl) (fun b q hb z => (hs.2 b hb).trans z) he new
theorem dk_new {P : Program} {w : World} {H' : Hp} {h' : Heap} {kvs : List (Key × V)} {vs : List (Key × Value)} (z : kvs.length ≤ sizeLine) (hd : (a == sysModules) = false) (rel : KV kvs vs) (dd : h'.DictOf (mixKind P w) a vs) :
    ObjOk P w H' h' a (.dK kvs) := ⟨z, hd, vs, rel, dd⟩
theorem d_setItem {H' : Hp} {Q : Unit → Shared → Prop} (hu : A.units + 1 < cLine) (I : Inv X pins σ H s) (g : DPut H a y v H') (ry : RelV y u) (rv : RelV v r) (h : ∀ s', Inv X pins σ H' s' → Q () s') :
    wpAny (model X.prog X.w) A (setItem (.ref a) u r) Q E s := by
  rcases g with ⟨kvs, k, e, ey, l, eH⟩ | ⟨kvs, k, b, e, ey, eb, l, eH⟩
  · subst ey eH
    obtain ⟨z, hd, vs, rel, dd⟩ := dk_of I.hok e
    have hz : vs.length ≤ sizeLine := by rw [← rel.length]; exact z
    have hl : (putK kvs k v).length ≤ sizeLine := by have := length_putK kvs k v; omega
    refine wpAny_setItem_pairs (hsz := hz) (kV_is ry) dd fun h' dd' hs => h _ ?_
    have he : ∃ q, h'.get? a = some q := let ⟨q, _, _, hq, _⟩ := dd'; ⟨q, hq⟩
    exact d_write I (by rw [e]; exact True.intro) hs he (dk_new hl hd (rel.put k rv) dd')
  · subst ey eH
    cases (show u = Value.ref b from ry)
    obtain ⟨z, hd, xs, rel, dd⟩ := dt_of I.hok e
    have hz : xs.length ≤ sizeLine := by rw [← Paired.length rel]; exact z
    have hl : (putK kvs k v).length ≤ sizeLine := by have := length_putK kvs k v; omega
    refine wpAny_setItem_heap (hsz := hz) (tupleKind_room_in1 hu) (key_of I.hok eb) dd fun h' dd' hs => h _ ?_
    obtain ⟨q, es, ep, hq, h2, h3, h4, _, h5⟩ := dd'
    refine d_write I (by rw [e]; exact True.intro) hs ⟨q, hq⟩ ⟨hl, hd, _, (rel.put k eb rv).keeps fun c ys ec => ?_, q, es, ep, hq, h2, h3, h4, h5⟩
    rw [upd_ne (ne_of ec e (fun z => nomatch z))]
    exact ec
end
section
variable {X : Cx} {pins : List (Addr × Obj)} {σ : St} {H : Hp} {s : Shared} {a : Addr} {kvs : List (Key × V)} {k : Key} {u : Value} {A : Around} {E : Value → Shared → Prop}
end
def tDIn (ty td : TE) : TE := fun σ H Q => ty σ H fun y H1 => td σ H1 fun x H2 => ∃ a o, x = .ref a ∧ DGet H2 a y o ∧ Q (.bl o.isSome) H2
def tDNotIn (ty td : TE) : TE := fun σ H Q => ty σ H fun y H1 => td σ H1 fun x H2 => ∃ a o, x = .ref a ∧ DGet H2 a y o ∧ Q (.bl (!o.isSome)) H2
def sDPut (td ty tv : TE) : TS := fun D σ H => tv σ H fun v H1 => td σ H1 fun x H2 => ty σ H2 fun y H3 => ∃ a H4, x = .ref a ∧ DPut H3 a y v H4 ∧ D.nx σ H4
section
variable {X : Cx} {o i e value : Expr} {pos pos' tpos : Pos} {td ty tv : TE}
theorem pc_din (hu : X.A.units + 1 < cLine) (hi : PE X i ty) (ho : PE X o td) : PC X .In i o (tDIn ty td) := by
  intro pins s σ H Q I h
  refine thn (hi pins s σ H _ I h) fun iv s1 ⟨y, H1, I1, ry, q1⟩ => thn (ho pins s1 σ H1 _ I1 q1) fun u s2 ⟨x, H2, I2, rx, a, ov, ex, g, q2⟩ => ?_
  subst ex
  obtain rfl : u = Value.ref a := rx
  exact d_in hu I2 g ry fun s3 I3 => ⟨.bl ov.isSome, H2, I3, rfl, q2⟩
theorem pc_dnotin (hu : X.A.units + 1 < cLine) (hi : PE X i ty) (ho : PE X o td) : PC X .NotIn i o (tDNotIn ty td) := by
  intro pins s σ H Q I h
  refine thn (hi pins s σ H _ I h) fun iv s1 ⟨y, H1, I1, ry, q1⟩ => thn (ho pins s1 σ H1 _ I1 q1) fun u s2 ⟨x, H2, I2, rx, a, ov, ex, g, q2⟩ => ?_
  subst ex
  obtain rfl : u = Value.ref a := rx
  exact d_notIn hu I2 g ry fun s3 I3 => ⟨.bl (!ov.isSome), H2, I3, rfl, q2⟩
theorem ps_dput (hu : X.A.units + 1 < cLine) (ho : PE X o td) (hi : PE X i ty) (hv : PE X value tv) (hs : swapsWith value (some (.Subscript o i pos')) pos.line X.env = pure false) :
    PS X (.Assign [.Subscript o i pos'] value pos) (sDPut td ty tv) := by
  intro pins s σ H D I h
  refine wpAny_Assign_Subscript (thn (hv pins s σ H _ I h) fun r s1 ⟨v, H1, I1, rv, q1⟩ => thn (ho pins s1 σ H1 _ I1 q1) fun u s2 ⟨x, H2, I2, rx, q2⟩ => thn (hi pins s2 σ H2 _ I2 q2) fun iv s3 ⟨y, H3, I3, ry, a, H4, ex, g, q3⟩ => ?_) hs
  subst ex
  obtain rfl : u = Value.ref a := rx
  exact d_setItem hu I3 g ry rv fun s4 I4 => ⟨σ, H4, I4, q3⟩
end
theorem dk_empty {P : Program} {w : World} {H : Hp} (h : Heap) (hb : sysModules < h.objs.size) : ObjOk P w H (h.push { cls := .type "dict", data := .dict #[] }) h.objs.size (.dK []) :=
  ⟨Nat.zero_le _, beq_eq_false_iff_ne.mpr (Ne.symm (Nat.ne_of_lt hb)), [], .nil, Heap.DictOf.new h⟩
def tDNewK : TE := fun _ H Q => ∀ p, H p = none → Q (.ref p) (upd H p (.dK []))
section
variable {X : Cx} {pos : Pos}
theorem pe_dnewK : PE X (.Dict [] [] pos) tDNewK := fun pins s σ H Q I h =>
  wpAny_Dict_empty ⟨.ref s.heap.objs.size, _, I.laid (a := s.heap.objs.size) (o := .dK []) (t' := s.toks) (fun _ _ q => Heap.get?_push_of_some _ q) (Nat.le_refl _) (dk_empty s.heap I.big), rfl, h _ (I.hok.fresh (Nat.le_refl _))⟩
end
structure M1 (X : Cx) (o : Expr) (m : Str) (apos : Pos) (e : Expr) (cpos : Pos) : Prop where
  base : attributeBase o m X.env (eval o X.env) = eval o X.env
  few : ((backTo cpos (starEach [e] X.env)).all (fun x => !x.1) && (backToKw cpos (keywordEach [] X.env)).all (fun x => x.1.isSome)
    && decide (([e] : List Expr).length + ([] : List Keyword).length + (if ([] : List Keyword).isEmpty then 0 else 1) < 30)) = true
  line : (apos.endLine == cpos.line) = true
  trees : backTo cpos (starEach [e] X.env) = [(false, eval e X.env)]
structure M2 (X : Cx) (o : Expr) (m : Str) (apos : Pos) (e f : Expr) (cpos : Pos) : Prop where
  base : attributeBase o m X.env (eval o X.env) = eval o X.env
  few : ((backTo cpos (starEach [e, f] X.env)).all (fun x => !x.1) && (backToKw cpos (keywordEach [] X.env)).all (fun x => x.1.isSome)
    && decide (([e, f] : List Expr).length + ([] : List Keyword).length + (if ([] : List Keyword).isEmpty then 0 else 1) < 30)) = true
  line : (apos.endLine == cpos.line) = true
  trees : backTo cpos (starEach [e, f] X.env) = [(false, eval e X.env), (false, eval f X.env)]
section
variable {X : Cx} {pins : List (Addr × Obj)} {σ : St} {H : Hp} {s : Shared} {a : Addr} {y d : V} {u r : Value} {o : Option V} {A : Around} {E : Value → Shared → Prop}
end
section
variable {X : Cx} {o e f : Expr} {apos cpos : Pos} {td ty tx : TE}
end
section
variable {X : Cx} {pins : List (Addr × Obj)} {σ : St} {H : Hp} {s : Shared} {a : Addr} {kvs : List (Key × V)} {A : Around} {E : Value → Shared → Prop}
end
section
variable {X : Cx} {pins : List (Addr × Obj)} {σ : St} {H : Hp} {s : Shared} {a : Addr} {y : V} {u : Value} {A : Around} {E : Value → Shared → Prop}
end
end L2
namespace L2
open PySem PySem.Spec PyProof.Rows
section
variable {prog : Program} {w : World} {A : Around} {E : Value → Shared → Prop}
end
section
variable {X : Cx}
end
end L2
namespace L2
open PySem PySem.Spec PyProof.Rows
section
variable {X : Cx} {pins : List (Addr × Obj)} {σ : St} {H : Hp} {s : Shared} {h' : Heap}
theorem Inv.turnedNew {t' : Nat} {ch : List Addr} {T : Addr} {ob : HO} (I : Inv X pins σ H s) (k : ∀ b o, b ∉ ch → s.heap.get? b = some o → h'.get? b = some o) (hf : ∀ b ∈ ch, FpOk X pins H b) (hT : s.heap.objs.size ≤ T)
    (new : ObjOk X.prog X.w (upd H T ob) h' T ob) : Inv X pins σ (upd H T ob) { s with heap := h', toks := t' } := by
  have hn : H T = none := I.hok.fresh hT
  have nit : ∀ b u, H b = some u → b ∉ ch := fun b u e z => by
    have q := (hf b z).1
    rw [q] at e; cases e
  refine I.step (g' := s.gens) (d' := s.drawn) (ch := ch) (fun b hb => ⟨(hf b hb).2.2.2.1, (hf b hb).2.1, (hf b hb).2.2.2.2.1, (hf b hb).2.2.2.2.2⟩) (fun b o _ _ hc e _ => k b o hc e) (fun b o _ _ hc e _ => ⟨o.slots, k b o hc e⟩)
    (fun b o _ e n => ?_) (fun b o hc e => ⟨o, k b o hc e⟩) (fun b xs e => ?_) (fun b o u e => ?_) (fun b ps e => ⟨#[], ?_⟩) (fun m hm => ?_) (fun b u e => ?_) I.bare
  · rw [upd_ne (Nat.ne_of_lt (Nat.lt_of_lt_of_le (Heap.lt_size e) hT))]; exact n
  · rw [upd_ne (ne_of_none e hn)]; exact e
  · rw [upd_ne (ne_of_none e hn)]; exact e
  · rw [upd_ne (ne_of_none e hn), e]; simp
  · obtain ⟨o, es, ep, ho, r⟩ := hm
    exact ⟨o, es, ep, k _ o (fun z => (hf _ z).2.1 rfl) ho, r⟩
  · by_cases hb : b = T
    · subst hb
      rw [upd_same] at e
      cases e
      exact new
    · rw [upd_ne hb] at e
      refine (I.hok b u e).stay (fun c v hc q => k c v ?_ q) (fun c q => by rw [upd_ne (ne_of_none q hn)]; exact q) fun c xs q => by rw [upd_ne (ne_of_none q hn)]; exact q
      rcases hc with z | z
      · rw [z]; exact nit b u e
      · exact nit c _ z
theorem Inv.lock {d : Addr} {u : HO} (I : Inv X pins σ H s) (h : H d = some u) (mu : Mut (some u)) : ∃ od, Inv X pins σ (upd H d (.frz od u)) s := by
  have x := I.hok d u h
  have ex : ∃ od, s.heap.get? d = some od := by
    cases u with
    | lst xs => obtain ⟨_, _, _, _, e⟩ := x; exact ⟨_, e⟩
    | dK kvs => obtain ⟨_, _, _, _, o, _, _, e, _⟩ := x; exact ⟨o, e⟩
    | dT kvs => obtain ⟨_, _, _, _, o, _, _, e, _⟩ := x; exact ⟨o, e⟩
    | set S n => obtain ⟨o, _, _, _, e, _⟩ := x; exact ⟨o, e⟩
    | ins C dx fs => obtain ⟨_, _, _, e, _⟩ := x; exact ⟨_, e⟩
    | ext φ => obtain ⟨_, ⟨_, e⟩, _⟩ := x; exact ⟨_, e⟩
    | _ => exact False.elim mu
  obtain ⟨od, e⟩ := ex
  have new : ObjOk X.prog X.w (upd H d (.frz od u)) s.heap d (.frz od u) := by
    refine ⟨e, x.stay (fun b v _ q => q) (fun b q => ?_) fun b xs q => ?_⟩
    · rw [upd_ne (fun z => by rw [z, h] at q; cases q; exact mu)]; exact q
    · rw [upd_ne (fun z => by rw [z, h] at q; cases q; exact mu)]; exact q
  exact ⟨od, I.write (x := d) (e := d) (t' := s.toks) (h' := s.heap) (by rw [h]; exact mu) (.inl rfl) (fun b v _ q => q) ⟨od, e⟩ new⟩
theorem Inv.nofrz {d : Addr} {u : HO} (I : Inv X pins σ H s) (h : H d = some u) (mu : Mut (some u)) : ∀ o' u', X.H_0 d ≠ some (.frz o' u') := fun o' u' e => by
  have q := I.base.frzs d o' u' e
  rw [h] at q
  cases q
  exact mu
theorem Inv.unlock {d : Addr} {od : Obj} {u : HO} (I : Inv X pins σ H s) (h : H d = some (.frz od u)) (hn : ∀ o' u', X.H_0 d ≠ some (.frz o' u')) : Inv X pins σ (upd H d u) s := by
  have neH : ∀ b o, H b = some o → (∀ o' u', o ≠ .frz o' u') → b ≠ d := fun b o e hne z => by
    rw [z, h] at e
    cases e
    exact hne _ _ rfl
  have neN : ∀ b, H b = none → b ≠ d := fun b e z => by rw [z, h] at e; cases e
  refine ⟨I.ok, I.os, I.bare, ⟨I.base.keep, I.base.slot, fun b o e n hx => ?_, I.base.there, fun b xs e => ?_, fun b o x e => ?_, fun b ps e => ?_⟩, I.loc, I.cell, ?_, fun x c e => ?_, fun p hp => ?_, fun b o e => ?_, I.len⟩
  · rw [upd_ne (neN b (I.base.free b o e n hx))]; exact I.base.free b o e n hx
  · have q := I.base.tups b xs e
    rw [upd_ne (neH b _ q (fun _ _ z => nomatch z))]; exact q
  · have q := I.base.frzs b o x e
    rw [upd_ne (fun z => by rw [z] at e; exact hn _ _ e)]; exact q
  · obtain ⟨m, q⟩ := I.base.tbls b ps e
    exact ⟨m, by rw [upd_ne (neH b _ q (fun _ _ z => nomatch z))]; exact q⟩
  · rw [upd_ne (neN _ I.free)]; exact I.free
  · rw [upd_ne (neN c (I.freeC x c e))]; exact I.freeC x c e
  · obtain ⟨e, n, r⟩ := I.pin p hp
    exact ⟨e, by rw [upd_ne (neN _ n)]; exact n, r⟩
  · by_cases hb : b = d
    · rw [hb, upd_same] at e
      cases e
      rw [hb]
      obtain ⟨_, x⟩ := I.hok d _ h
      exact x.stay (fun c v _ q => q) (fun c q => by rw [upd_ne (neH c _ q (fun _ _ z => nomatch z))]; exact q) fun c xs q => by rw [upd_ne (neH c _ q (fun _ _ z => nomatch z))]; exact q
    · rw [upd_ne hb] at e
      exact (I.hok b o e).stay (fun c v _ q => q) (fun c q => by rw [upd_ne (neH c _ q (fun _ _ z => nomatch z))]; exact q) fun c xs q => by rw [upd_ne (neH c _ q (fun _ _ z => nomatch z))]; exact q
end
section
variable {X : Cx}
end
section
variable {X : Cx} {tg : Expr}
end
section
variable {X : Cx} {tg : Expr}
end
section
variable {prog : Program} {w : World} {A : Around} {E : Value → Shared → Prop} {s : Shared}
end
theorem paired_get {α β : Type} {G : α → β → Prop} {l₁ : List α} {l₂ : List β} (h : Paired G l₁ l₂) : ∀ {i : Nat} {a : α}, l₁[i]? = some a → ∃ b, l₂[i]? = some b ∧ G a b := by
  induction h with
  | nil => intro i a e; simp at e
  | @cons a b l₁ l₂ r t ih =>
    intro i a' e
    cases i with
    | zero =>
      simp only [List.getElem?_cons_zero, Option.some.injEq] at e
      subst e
      exact ⟨b, rfl, r⟩
    | succ j =>
      simp only [List.getElem?_cons_succ] at e ⊢
      exact ih e
section
variable {X : Cx} {pins : List (Addr × Obj)} {σ : St} {H : Hp} {s : Shared} {d : Addr} {o : Obj}
end
section
variable {P : Program} {w : World} {K : PySem.W.Frag} {tg : Expr} {d : Addr} {o : Obj} {es : Array DictEntry} {ep : Nat}
end
section
variable {X : Cx} {tg e : Expr} {td : TE} {apos cpos : Pos}
end
def Ite (K : PySem.W.Frag) (a : Addr) : It :=
  ⟨fun i H => ∃ (xs : List V) (x : V), SqL K H a xs ∧ xs[i]? = some x, fun i H v H' => ∃ T x, v = .ref T ∧ H T = none ∧ H' = upd H T (.tup [.int (i : Nat), x]) ∧ ∀ xs, SqL K H a xs → xs[i]? = some x, fun i H => ∃ xs : List V, SqL K H a xs ∧ xs.length ≤ i⟩
theorem turn_enum {P : Program} {w : World} {K : PySem.W.Frag} {elts : List Expr} {kk : Nat} {tpos : Pos} (a e it : Addr) :
    Turn P w K (.Tuple elts kk tpos) (Ite K a) [e, it] e (fun i h => (∃ old, IsEnum h e it ((i : Nat) : Int) old) ∧ h.IsListIter it a i ∧ e ≠ it) where
  mem := by simp
  obj := fun i h st b hb => by
    obtain ⟨⟨old, he⟩, ⟨o, ho, hc, hd⟩, _⟩ := st
    have e' : b = e ∨ b = it := by simpa using hb
    rcases e' with z | z
    · rw [z]; exact ⟨_, he, fun v q => nomatch q⟩
    · rw [z]; exact ⟨o, ho, fun v q => by rw [hd] at q; cases q⟩
  keep := fun i h h' st k => let ⟨⟨old, he⟩, hi, hne⟩ := st; ⟨⟨old, k e (by simp) _ he⟩, hi.at fun o q => k it (by simp) o q, hne⟩
  item := by
    intro X hP hw hK hc i pins s σ H E I hf st hg
    subst hP hw hK
    obtain ⟨⟨old, he⟩, hit, hne⟩ := st
    obtain ⟨xs, x, hq, hx⟩ := hg
    obtain ⟨its, rv, p, hz⟩ := I.list hq
    obtain ⟨u, hu, ru⟩ := rv.get hx
    have hel : e < s.heap.objs.size := Heap.lt_size he
    have hil : it < s.heap.objs.size := by obtain ⟨_, q, _⟩ := hit; exact Heap.lt_size q
    refine wpAny_pyNext_enum_item he hit p.isList (x := u) (by simpa using hu) hne fun h' ho hit' hT hsz hk => ?_
    refine ⟨_, rfl, wpAny_letOwnedTupleGo_enum (s := { s with heap := h', toks := s.toks + 1 }) ho fun h'' he' sb => ?_⟩
    have hT2 : h''.get? s.heap.objs.size = some { cls := .type "tuple", data := .seq #[.int i s.toks, u] } := (sb.2 _ (Nat.ne_of_gt hel)).trans hT
    have new : ObjOk X.prog X.w (upd H s.heap.objs.size (.tup [.int (i : Nat), x])) h'' s.heap.objs.size (.tup [.int (i : Nat), x]) :=
      ⟨by show 2 ≤ sizeLine; decide, [.int i s.toks, u], .cons ⟨_, rfl⟩ (.cons ru .nil), ⟨_, hT2, rfl, _, rfl⟩⟩
    have I1 : Inv X pins σ (upd H s.heap.objs.size (.tup [.int (i : Nat), x])) { s with heap := h'', toks := s.toks + 1 } :=
      I.turnedNew (ch := [e, it]) (fun b ob hb q => (sb.2 b (fun z => hb (by simp [z]))).trans (hk b ob (fun z => hb (by simp [z])) (fun z => hb (by simp [z])) q)) hf (Nat.le_refl _) new
    refine ⟨.ref s.heap.objs.size, _, I1, rfl, ⟨_, x, rfl, I.hok.fresh (Nat.le_refl _), rfl, fun ys hy => by rw [I.list_inj hy hq]; exact hx⟩, ⟨⟨u, ?_⟩, hit'.at fun o q => (sb.2 it (Ne.symm hne)).trans q, hne⟩, fun b hb => ?_⟩
    · have e1 : ((i + 1 : Nat) : Int) = (i : Int) + 1 := by omega
      rw [e1]; exact he'
    · have hb' : b < s.heap.objs.size := by
        have e' : b = e ∨ b = it := by simpa using hb
        rcases e' with z | z
        · rw [z]; exact hel
        · rw [z]; exact hil
      rw [upd_ne (Nat.ne_of_lt hb')]
      exact (hf b hb).1
  done := by
    intro X hP hw hK hc i pins s σ H E I hf st hg
    subst hP hw hK
    obtain ⟨⟨old, he⟩, hit, hne⟩ := st
    obtain ⟨xs, hq, hx⟩ := hg
    obtain ⟨its, rv, p, hz⟩ := I.list hq
    obtain ⟨f0, f1, f2, f3, f4, f5⟩ := hf it (by simp)
    have hl := rv.length
    exact wpAny_pyNext_enum_end (I.ok.hd hc) he hit p.isList (by simp; omega) fun h' eb => ⟨rfl, I.turned (t' := s.toks) (fun b o hb q => eb b o hb q) f0 f1 f3 f4 f5⟩
  self := fun A i s Q E st h => let ⟨⟨_, he⟩, _⟩ := st; wpAny_pyIter_enum he h
def iEnum (K : PySem.W.Frag) (ta : TA) : TI := fun σ H R => ta σ H fun vs H1 => ∃ a xs, vs = [.ref a] ∧ SqL K H1 a xs ∧ R (Ite K a) H1
theorem pi_enum {X : Cx} {e : Expr} {ta : TA} {p pos tpos : Pos} {elts : List Expr} {kk : Nat} (hg : Gl X "enumerate") (hm : X.mg "enumerate" = none) (ha : PA X [e] ta) (hs : starEach [e] X.env = [(false, eval e X.env)] := by rfl) :
    PI X (.Tuple elts kk tpos) (.Call (.Name "enumerate" p) [e] [] pos) (iEnum X.K ta) := by
  intro pins s σ H R I h
  refine Call_ (ld_blt I hg hm boot_enumerate (PyProof.Rows.callWith_type1 (thn (ha pos pins s σ H _ I h) fun us s1 ⟨vs, H1, I1, r1, q1⟩ => ?_) hs rfl))
  obtain ⟨a, xs, ex, hq, q⟩ := q1
  subst ex
  cases r1 with
  | cons r rr =>
    cases rr
    cases r
    obtain ⟨its, rv, p', hz⟩ := I1.list hq
    refine call_enumerate_list p'.isList fun h' he hit hsz hk => wpAny_pyIter_enum he ?_
    have I2 : Inv X pins σ H1 { s1 with heap := h' } := I1.kept (t' := s1.toks) hk
    refine ⟨s1.heap.objs.size + 1, [s1.heap.objs.size + 1, s1.heap.objs.size], _, _, H1, rfl, I2, turn_enum a (s1.heap.objs.size + 1) s1.heap.objs.size, ⟨⟨.none, he⟩, hit, Nat.succ_ne_self _⟩, fun b hb => ?_, q⟩
    have e' : b = s1.heap.objs.size + 1 ∨ b = s1.heap.objs.size := by simpa using hb
    have hle : s1.heap.objs.size ≤ b := by
      rcases e' with z | z
      · rw [z]; exact Nat.le_add_right _ _
      · rw [z]; exact Nat.le_refl _
    exact I1.fpOk hle (I1.hok.fresh hle)
end L2
section 
namespace Bits
open PySem PyProof.Rows
end Bits
end 
section 
namespace TL
open PySem PySem.Builtin PySem.Builtin.Str PySem.StrLaws
abbrev tl (x : Str) : List Nat := x.cps.toList
def pre (S l : List Nat) : Bool := l.take S.length == S
def par (S : List Nat) : List Nat → List Nat → Option (List Nat × List Nat)
  | _, [] => none
  | acc, c :: r => if pre S (c :: r) = true then some (acc, (c :: r).drop S.length) else par S (acc ++ [c]) r
end TL
end 
namespace L2
open PySem PySem.Spec PyProof.Rows
section
variable {X : Cx} {pins : List (Addr × Obj)} {σ : St} {H : Hp} {s : Shared} {Q : VK}
end
section
variable {X : Cx}
end
section
variable {X : Cx} {o e : Expr} {to te : TE}
def tM1 (r : V → List V → Hp → VK → Prop) (to te : TE) : TE := fun σ H Q => to σ H fun x H1 => (∃ a, x = .str a) ∧ te σ H1 fun y H2 => r x [y] H2 Q
end
end L2
namespace L2
open PySem PySem.Spec PyProof.Rows
section
variable {X : Cx}
end
end L2
namespace Att
open PySem PySem.W PySem.Calls PyProof.Rows
section
variable {prog : Program} {w : World} {A : Around} {E : Value → Shared → Prop} {s : Shared} {K : Frag}
end
end Att
namespace L2
open PySem PySem.Spec PyProof.Rows
end L2
namespace L2
open PySem PySem.Spec PyProof.Rows
abbrev KOf {K : PySem.W.Frag} {h : Heap} (_ : K.In h) : PySem.W.Frag := K
end L2
namespace L2
open PySem PySem.Spec PyProof.Rows
def inClass (s : Stmt) (j : Nat) : Stmt := match s with
  | .ClassDef _ _ _ body _ _ _ _ _ _ _ => body.getD j (.Pass ⟨0, 0, 0, 0⟩)
  | _ => .Pass ⟨0, 0, 0, 0⟩
def defArgs (s : Stmt) : Arguments := match s with
  | .FunctionDef _ a _ _ _ _ _ _ _ _ => a
  | _ => { posonlyargs := [], args := [], vararg := none, kwonlyargs := [], kw_defaults := [], kwarg := none, defaults := [] }
def defBody (s : Stmt) : List Stmt := match s with
  | .FunctionDef _ _ b _ _ _ _ _ _ _ => b
  | _ => []
def defScope (s : Stmt) : Scope := match s with
  | .FunctionDef _ _ _ _ _ _ sc _ _ _ => sc
  | _ => { kind := .function, names := [], isGenerator := false, isCoroutine := false }
abbrev CX0 : CXT := fun _ _ _ _ _ _ => False
abbrev E0 : XK := fun _ _ _ => False
theorem pass0 {X : Cx} : Passes CX0 X E0 := fun _ _ _ _ _ _ _ h => h.elim
structure Fun (K : PySem.W.Frag) (x qual : Str) (st : Stmt) (f : Addr) (fd : FuncData) : Prop where
  ex : ∃ (oc : Value) (od : Option Addr) (kV doc pm : Value) (an : Option Addr) (cdv ct : Value) (osl : Array (Option Value)),
    fd = PySem.W.fnOf x qual (defArgs st) (defBody st) (defScope st) .none kV doc pm an cdv ct ∧ K.lookup f = some ⟨oc, od, .func fd, osl⟩ ∧ PySem.W.codeIn K cdv qual = true
  kp : PySem.W.keepIn K (.ref f) = true
section
variable {P : Program} {w : World} {K : PySem.W.Frag} {mg : Str → Option Value} {base : Heap}
theorem Fun.ok {x qual : Str} {st : Stmt} {f : Addr} {fd : FuncData} {N ps : List Str} {k : Nat} {sp : Sp} (F : Fun K x qual st f fd) (S : FnScope N ps (defScope st)) (len : ∀ vs H Q E, sp vs H Q E → vs.length = ps.length)
    (hbody : ∀ (cdv : Value) (A : Around) (outer : List Env) (s : Shared) (H : Hp) (vs : List V) (Q : VK) (E : XK), Room k (A.deeper (envOfC qual (defScope st) s.heap.objs.size f cdv)) → sp vs H Q E →
      ∃ t, PSs (cxOf CX0 P w K mg base N qual (defScope st) f cdv A outer s H E).nox (defBody st) t ∧ t { nx := fun _ H' => Q .non H', rt := Q } (start N vs) H) : FnOk P w K mg base CX0 (k + 1) f fd ps sp := by
  obtain ⟨oc, od, kV, doc, pm, an, cdv, ct, osl, rfl, lk, hcd⟩ := F.ex
  refine fn_of lk hcd S len fun A outer s H vs Q E hr hsp => ?_
  obtain ⟨t, h, q⟩ := hbody cdv A outer s H vs Q E hr hsp
  exact ⟨t, h.nox, q⟩
theorem Fun.binds {x qual : Str} {st : Stmt} {f : Addr} {fd : FuncData} {ps : List Str} (F : Fun K x qual st f fd)
    (h : ∀ (kV doc pm : Value) (an : Option Addr) (cdv ct : Value) (us : List Value), us.length = ps.length → bindArgs (PySem.W.fnOf x qual (defArgs st) (defBody st) (defScope st) .none kV doc pm an cdv ct) ⟨us, []⟩ = pure (ps.zip us)) : Binds K fd ps [] := by
  obtain ⟨oc, od, kV, doc, pm, an, cdv, ct, osl, rfl, lk, hcd⟩ := F.ex
  exact .all (h kV doc pm an cdv ct)
theorem fun_mk {x qual : Str} {st : Stmt} {f : Addr} {oc : Value} {od an : Option Addr} {osl : Array (Option Value)} {kV doc pm cdv ct : Value} (l : K.lookup f = some ⟨oc, od, .func (PySem.W.fnOf x qual (defArgs st) (defBody st) (defScope st) .none kV doc pm an cdv ct), osl⟩)
    (c : PySem.W.codeIn K cdv qual = true) (k : PySem.W.keepIn K (.ref f) = true) : Fun K x qual st f (PySem.W.fnOf x qual (defArgs st) (defBody st) (defScope st) .none kV doc pm an cdv ct) := ⟨⟨oc, od, kV, doc, pm, an, cdv, ct, osl, rfl, l, c⟩, k⟩
end
theorem hu_of {A : Around} {k : Nat} (hr : Room k A) : A.units + 1 < cLine := Nat.lt_of_le_of_lt (Nat.add_le_add_left (by decide : 1 ≤ 64) _) hr.units
section
variable {X : Cx}
theorem pv (i : Nat) {x : Str} {pos : Pos} (hN : X.N[i]? = some x := by rfl) (hv : Vis X.env.scope x := by first | exact Or.inl rfl | exact Or.inr (Or.inl rfl) | exact Or.inr (Or.inr rfl)) (hd : (x == ("__debug__" : Str)) = false := by decide)
    (hcd : (x == ("__classdict__" : Str)) = false := by decide) : PE X (.Name x pos) (tVar i) := pe_var hN hv hd hcd
end
theorem iteF {A B : Prop} (h : B) : if false = true then A else B := by
  rw [if_neg Bool.false_ne_true]
  exact h
theorem iteT {A B : Prop} (h : A) : if true = true then A else B := by
  rw [if_pos rfl]
  exact h
theorem ite2 {c A B : Prop} [Decidable c] (h1 : c → A) (h2 : ¬ c → B) : if c then A else B := by
  by_cases h : c
  · rw [if_pos h]
    exact h1 h
  · rw [if_neg h]
    exact h2 h
def Same (H H' : Hp) : Prop := ∀ b o, H b = some o → H' b = some o
theorem Same.refl (H : Hp) : Same H H := fun _ _ h => h
theorem Same.trans {H H1 H2 : Hp} (a : Same H H1) (b : Same H1 H2) : Same H H2 := fun c o h => b c o (a c o h)
theorem Same.free {H H' : Hp} (e : Same H H') {l : Addr} (h : H' l = Option.none) : H l = Option.none := by
  cases q : H l with
  | none => rfl
  | some o =>
    rw [e l o q] at h
    cases h
theorem Same.seq {K : PySem.W.Frag} {H H' : Hp} {a : Addr} {xs : List V} (e : Same H H') (h : SqL K H a xs) : SqL K H' a xs := by
  rcases h with (h | ⟨o, h⟩) | h
  · exact .inl (.inl (e _ _ h))
  · exact .inl (.inr ⟨o, e _ _ h⟩)
  · exact .inr h
section
variable {κ : Type} [DecidableEq κ]
theorem nd_snoc : ∀ {l : List κ} {k : κ}, l.Nodup → ¬ k ∈ l → (l ++ [k]).Nodup
  | [], k, _, _ => by simp
  | a :: r, k, h, hk => by
    obtain ⟨h1, h2⟩ := List.nodup_cons.mp h
    show (a :: (r ++ [k])).Nodup
    refine List.nodup_cons.mpr ⟨fun m => ?_, nd_snoc h2 fun m => hk (List.mem_cons.mpr (Or.inr m))⟩
    rcases List.mem_append.mp m with q | q
    · exact h1 q
    · exact hk (List.mem_cons.mpr (Or.inl (List.mem_singleton.mp q).symm))
end
theorem nd_ix {α : Type} {l : List α} (hN : l.Nodup) {i j : Nat} {x : α} (a : l[i]? = some x) (b : l[j]? = some x) : i = j := by
  obtain ⟨h1, e1⟩ := List.getElem?_eq_some_iff.mp a
  obtain ⟨h2, e2⟩ := List.getElem?_eq_some_iff.mp b
  exact (List.getElem_inj hN).mp (e1.trans e2.symm)
theorem Same.made {H H1 : Hp} {x dx C : Addr} (nx : H x = Option.none) (nd : H dx = Option.none) (k : ∀ b o, (upd (upd H dx (.own x)) x (.ins C dx [])) b = some o → b ≠ x → H1 b = some o) : Same H H1 := fun b o e =>
  k b o (by rw [upd_ne (ne_of_none e nx), upd_ne (ne_of_none e nd)]; exact e) (ne_of_none e nx)
end L2
section
set_option Elab.async false
set_option linter.all false
set_option maxRecDepth 100000
set_option maxHeartbeats 2000000
namespace L2
open PySem PySem.Spec PyProof.Rows
open PySem.W (WData Codec OpenSpec Well WellAll ReadsW ReadsAllW)
mutual
/-- x stands for the datum d, lists and tuples all the way -/
inductive Dw (K : PySem.W.Frag) (H : Hp) : V → WData → Prop
  | non : Dw K H .non .none
  | bl (b : Bool) : Dw K H (.bl b) (.bool b)
  | int (i : Int) : Dw K H (.int i) (.int i)
  | str (x : Str) : Dw K H (.str x) (.str x)
  | byt (b : Array UInt8) : Dw K H (.byt b) (.bytes b.toList)
  | lst {a : Addr} {xs : List V} {ds : List WData} : SqL K H a xs → DwAll K H xs ds → Dw K H (.ref a) (.list ds)
  | tup {a : Addr} {xs : List V} {ds : List WData} : SqT K H a xs → DwAll K H xs ds → Dw K H (.ref a) (.tuple ds)
inductive DwAll (K : PySem.W.Frag) (H : Hp) : List V → List WData → Prop
  | nil : DwAll K H [] []
  | cons {v : V} {vs : List V} {d : WData} {ds : List WData} : Dw K H v d → DwAll K H vs ds → DwAll K H (v :: vs) (d :: ds)
end
theorem dw_ints {K : PySem.W.Frag} {H : Hp} : ∀ ns : List Int, DwAll K H (ns.map V.int) (ns.map WData.int)
  | [] => .nil
  | n :: r => .cons (.int n) (dw_ints r)
theorem ints_dw {K : PySem.W.Frag} {H : Hp} : ∀ (ns : List Int) (xs : List V), DwAll K H xs (ns.map WData.int) → xs = ns.map V.int
  | [], xs, h => by
    cases h
    rfl
  | n :: r, xs, h => by
    cases h with
    | cons h1 h2 =>
      cases h1
      rw [ints_dw r _ h2] <;> rfl
section
variable {P : Program} {w : World} {K : PySem.W.Frag} {H : Hp} {h : Heap} {R : PySem.W.WRecords} {cl : Str → Option Addr}
theorem sqL_at {a : Addr} {xs : List V} (hok : HOk P w H h) (KX : K.In h) (q : SqL K H a xs) : ∃ (its : List Value) (o : Obj) (n : Nat), Vals xs its ∧ h.get? a = some o ∧ o.cls = .type "list" ∧ o.data = .seq its.toArray n := by
  rcases q with q | ⟨o, its, n, e, hc, _, hd, _, hv⟩
  · obtain ⟨_, its, n, hv, e⟩ := (show ObjOk P w H h a (.lst xs) from q.ok hok)
    exact ⟨its, _, n, hv, e, rfl, rfl⟩
  · exact ⟨its.toList, o, n, hv, KX _ _ e, hc, by simp [hd]⟩
theorem sqT_at {a : Addr} {xs : List V} (hok : HOk P w H h) (KX : K.In h) (q : SqT K H a xs) : ∃ (its : List Value) (o : Obj) (n : Nat), Vals xs its ∧ h.get? a = some o ∧ o.cls = .type "tuple" ∧ o.data = .seq its.toArray n := by
  rcases q with q | ⟨o, its, n, e, hc, hd, _, hv⟩
  · obtain ⟨_, its, hv, o, e, hc, n, hd⟩ := (show ObjOk P w H h a (.tup xs) from q.ok hok)
    exact ⟨its, o, n, hv, e, hc, hd⟩
  · exact ⟨its.toList, o, n, hv, KX _ _ e, hc, by simp [hd]⟩
mutual
theorem Dw.reads (hok : HOk P w H h) (KX : K.In h) : ∀ (d : WData) (v : V) (u : Value), Dw K H v d → RelV v u → ∃ as, ReadsW R cl h u d as
  | .none, _, _, x, r => by
    cases x
    cases r
    exact ⟨_, ReadsW.none⟩
  | .bool b, _, _, x, r => by
    cases x
    cases r
    exact ⟨_, ReadsW.bool b⟩
  | .int i, _, _, x, r => by
    cases x
    obtain ⟨t, rfl⟩ := r
    exact ⟨_, ReadsW.int i t⟩
  | .str s, _, _, x, r => by
    cases x
    obtain ⟨t, rfl⟩ := r
    exact ⟨_, ReadsW.str s t⟩
  | .bytes b, _, _, x, r => by
    cases x
    obtain ⟨t, rfl⟩ := r
    exact ⟨_, ReadsW.bytes _ t⟩
  | .list ds, _, _, x, r => by
    cases x with
    | lst hs ha =>
      cases r
      obtain ⟨its, o, n, rv, ho, hc, hd⟩ := sqL_at hok KX hs
      obtain ⟨as, hr⟩ := Dw.readsAll hok KX ds _ its ha rv
      exact ⟨_, ReadsW.list ho hc hd hr⟩
  | .tuple ds, _, _, x, r => by
    cases x with
    | tup hs ha =>
      cases r
      obtain ⟨its, o, n, rv, ho, hc, hd⟩ := sqT_at hok KX hs
      obtain ⟨as, hr⟩ := Dw.readsAll hok KX ds _ its ha rv
      exact ⟨_, ReadsW.tuple ho hc hd hr⟩
  | .float _, _, _, x, _ => by cases x
  | .dict _, _, _, x, _ => by cases x
  | .bytearray _, _, _, x, _ => by cases x
  | .set _, _, _, x, _ => by cases x
  | .frozenset _, _, _, x, _ => by cases x
  | .obj _ _, _, _, x, _ => by cases x
theorem Dw.readsAll (hok : HOk P w H h) (KX : K.In h) : ∀ (ds : List WData) (vs : List V) (us : List Value), DwAll K H vs ds → Vals vs us → ∃ as, ReadsAllW R cl h us ds as
  | [], _, _, x, r => by
    cases x
    cases r
    exact ⟨_, ReadsAllW.nil⟩
  | d :: ds, _, _, x, r => by
    cases x with
    | cons h1 h2 =>
      cases r with
      | cons r1 r2 =>
        obtain ⟨as, q1⟩ := Dw.reads hok KX d _ _ h1 r1
        obtain ⟨bs, q2⟩ := Dw.readsAll hok KX ds _ _ h2 r2
        exact ⟨_, ReadsAllW.cons q1 q2⟩
end
end
mutual
/-- data that a codec tells -/
def plW : WData → Bool
  | .none => true
  | .bool _ => true
  | .int _ => true
  | .str _ => true
  | .bytes _ => true
  | .list xs => plWs xs
  | .tuple xs => plWs xs
  | _ => false
def plWs : List WData → Bool
  | [] => true
  | x :: r => plW x && plWs r
end
theorem plWs_map {α : Type} {f : α → WData} (h : ∀ a, plW (f a) = true) : ∀ l : List α, plWs (l.map f) = true
  | [] => rfl
  | x :: r => by
    show (plW (f x) && plWs (r.map f)) = true
    rw [h x, plWs_map h r] <;> rfl
theorem pl_enc : ∀ (c : Codec) (a : c.denote), plW (c.enc a) = true
  | .unit, _ => rfl
  | .bool, _ => rfl
  | .int _ _, _ => rfl
  | .nat _ _, _ => rfl
  | .u8, _ => rfl
  | .bytes _ _, _ => rfl
  | .text _ _ _ _, _ => rfl
  | .list _ _ c, a => plWs_map (fun x => pl_enc c x) a
  | .pair c d, a => by
    show (plW (c.enc a.1) && (plW (d.enc a.2) && true)) = true
    rw [pl_enc c a.1, pl_enc d a.2] <;> rfl
  | .triple c d e, a => by
    show (plW (c.enc a.1) && (plW (d.enc a.2.1) && (plW (e.enc a.2.2) && true))) = true
    rw [pl_enc c a.1, pl_enc d a.2.1, pl_enc e a.2.2] <;> rfl
  | .option c, none => rfl
  | .option c, some x => pl_enc c x
theorem pl_encAll : ∀ (cs : List Codec) (a : Codec.denoteAll cs), plWs (Codec.encAll cs a) = true
  | [], _ => rfl
  | c :: cs, a => by
    show (plW (c.enc a.1) && plWs (Codec.encAll cs a.2)) = true
    rw [pl_enc c a.1, pl_encAll cs a.2] <;> rfl
theorem weight_mem : ∀ {xs : List WData} {d : WData}, d ∈ xs → d.weight ≤ WData.weightAll xs
  | [], d, h => absurd h (by simp)
  | x :: r, d, h => by
    show d.weight ≤ x.weight + 1 + WData.weightAll r
    rcases List.mem_cons.mp h with e | m
    · rw [e]
      omega
    · have z := weight_mem m
      omega
def toV : Value → V
  | .none => .non
  | .bool b => .bl b
  | .int i _ => .int i
  | .str x _ => .str x
  | .bytes b _ => .byt b
  | .ref a => .ref a
  | _ => .non
def OkU (A : List Addr) : Value → Prop
  | .none => True
  | .bool _ => True
  | .int _ _ => True
  | .str _ _ => True
  | .bytes _ _ => True
  | .ref a => a ∈ A
  | _ => False
theorem OkU.mono {A B : List Addr} (h : ∀ a ∈ A, a ∈ B) : ∀ {u : Value}, OkU A u → OkU B u := fun {u} x => by
  cases u with
  | ref a => exact h a x
  | none => trivial
  | bool b => trivial
  | int i t => trivial
  | str s t => trivial
  | bytes b t => trivial
  | _ => exact False.elim x
theorem relV_toV {A : List Addr} {u : Value} (x : OkU A u) : RelV (toV u) u := by
  cases u with
  | ref a => rfl
  | none => rfl
  | bool b => rfl
  | int i t => exact ⟨t, rfl⟩
  | str s t => exact ⟨t, rfl⟩
  | bytes b t => exact ⟨t, rfl⟩
  | _ => exact False.elim x
theorem vals_toV {A : List Addr} : ∀ {vs : List Value}, (∀ u ∈ vs, OkU A u) → Vals (vs.map toV) vs
  | [], _ => .nil
  | u :: r, h => .cons (relV_toV (h u (List.mem_cons_self ..))) (vals_toV fun x hx => h x (List.mem_cons_of_mem _ hx))
def ArgOb (h : Heap) (A : List Addr) (a : Addr) : Prop := ∃ vs : List Value, vs.length ≤ sizeLine ∧ (∀ u ∈ vs, OkU A u) ∧
  (h.get? a = some { cls := .type "list", data := .seq vs.toArray } ∨ h.get? a = some { cls := .type "tuple", data := .seq vs.toArray })
theorem ArgOb.mono {h : Heap} {A B : List Addr} {a : Addr} (k : ∀ a ∈ A, a ∈ B) (x : ArgOb h A a) : ArgOb h B a := by
  obtain ⟨vs, h1, h2, h3⟩ := x
  exact ⟨vs, h1, fun u hu => (h2 u hu).mono k, h3⟩
theorem wellAll_len {P : Params} {h : Heap} : ∀ {vs : List Value} {ds : List WData}, WellAll P h vs ds → vs.length = ds.length
  | _, _, .nil => rfl
  | _, _, .cons _ b => by
    show _ + 1 = _ + 1
    rw [wellAll_len b]
theorem well_list {P : Params} {h : Heap} {v : Value} {ds : List WData} (x : Well P h v (.list ds)) : ∃ (a : Addr) (vs : List Value), v = .ref a ∧ h.get? a = some { cls := .type "list", data := .seq vs.toArray } ∧ WellAll P h vs ds := by
  cases x with
  | list ho hall => exact ⟨_, _, rfl, ho, hall⟩
theorem well_tuple {P : Params} {h : Heap} {v : Value} {ds : List WData} (x : Well P h v (.tuple ds)) : ∃ (a : Addr) (vs : List Value), v = .ref a ∧ h.get? a = some { cls := .type "tuple", data := .seq vs.toArray } ∧ WellAll P h vs ds := by
  cases x with
  | tuple ho hall => exact ⟨_, _, rfl, ho, hall⟩
theorem well_cons {P : Params} {h : Heap} {us : List Value} {d : WData} {ds : List WData} (x : WellAll P h us (d :: ds)) : ∃ (v : Value) (vs : List Value), us = v :: vs ∧ Well P h v d ∧ WellAll P h vs ds := by
  cases x with
  | cons a b => exact ⟨_, _, rfl, a, b⟩
theorem line_of {n : Nat} (h : n ≤ 1048576) : n ≤ sizeLine := Nat.le_trans h (by decide)
section
variable {P : Params} {h : Heap}
mutual
theorem area_one : ∀ (d : WData) (v : Value), Well P h v d → plW d = true → d.weight ≤ 1048576 → ∃ A : List Addr, OkU A v ∧ ∀ a ∈ A, ArgOb h A a
  | .none, _, x, _, _ => by
    cases x
    exact ⟨[], trivial, fun a m => absurd m (by simp)⟩
  | .bool b, _, x, _, _ => by
    cases x
    exact ⟨[], trivial, fun a m => absurd m (by simp)⟩
  | .int i, _, x, _, _ => by
    cases x
    exact ⟨[], trivial, fun a m => absurd m (by simp)⟩
  | .str s, _, x, _, _ => by
    cases x
    exact ⟨[], trivial, fun a m => absurd m (by simp)⟩
  | .bytes b, _, x, _, _ => by
    cases x
    exact ⟨[], trivial, fun a m => absurd m (by simp)⟩
  | .list ds, _, x, p, z => by
    obtain ⟨a, vs, rfl, ho, hall⟩ := well_list x
    have z2 : WData.weightAll ds ≤ 1048576 := z
    obtain ⟨A, h1, h2⟩ := area_all ds _ hall p fun d hd => Nat.le_trans (weight_mem hd) z2
    have k : ∀ b ∈ A, b ∈ a :: A := fun b hb => List.mem_cons_of_mem _ hb
    refine ⟨a :: A, List.mem_cons_self .., fun b hb => ?_⟩
    rcases List.mem_cons.mp hb with e | m
    · rw [e]
      exact ⟨vs, line_of (by rw [wellAll_len hall]; exact Nat.le_trans (PySem.W.length_le_weightAllW ds) z2), fun u hu => (h1 u hu).mono k, .inl ho⟩
    · exact (h2 b m).mono k
  | .tuple ds, _, x, p, z => by
    obtain ⟨a, vs, rfl, ho, hall⟩ := well_tuple x
    have z2 : WData.weightAll ds ≤ 1048576 := z
    obtain ⟨A, h1, h2⟩ := area_all ds _ hall p fun d hd => Nat.le_trans (weight_mem hd) z2
    have k : ∀ b ∈ A, b ∈ a :: A := fun b hb => List.mem_cons_of_mem _ hb
    refine ⟨a :: A, List.mem_cons_self .., fun b hb => ?_⟩
    rcases List.mem_cons.mp hb with e | m
    · rw [e]
      exact ⟨vs, line_of (by rw [wellAll_len hall]; exact Nat.le_trans (PySem.W.length_le_weightAllW ds) z2), fun u hu => (h1 u hu).mono k, .inr ho⟩
    · exact (h2 b m).mono k
  | .float _, _, _, p, _ => Bool.noConfusion (show false = true from p)
  | .dict _, _, _, p, _ => Bool.noConfusion (show false = true from p)
  | .bytearray _, _, _, p, _ => Bool.noConfusion (show false = true from p)
  | .set _, _, _, p, _ => Bool.noConfusion (show false = true from p)
  | .frozenset _, _, _, p, _ => Bool.noConfusion (show false = true from p)
  | .obj _ _, _, _, p, _ => Bool.noConfusion (show false = true from p)
theorem area_all : ∀ (ds : List WData) (vs : List Value), WellAll P h vs ds → plWs ds = true → (∀ d ∈ ds, d.weight ≤ 1048576) → ∃ A : List Addr, (∀ u ∈ vs, OkU A u) ∧ ∀ a ∈ A, ArgOb h A a
  | [], _, x, _, _ => by
    cases x
    exact ⟨[], fun u m => absurd m (by simp), fun a m => absurd m (by simp)⟩
  | d :: ds, _, x, p, z => by
    obtain ⟨v, vs, rfl, x1, x2⟩ := well_cons x
    have q : plW d = true ∧ plWs ds = true := Bool.and_eq_true_iff.mp p
    obtain ⟨A, a1, a2⟩ := area_one d v x1 q.1 (z d (List.mem_cons_self ..))
    obtain ⟨B, b1, b2⟩ := area_all ds vs x2 q.2 fun e he => z e (List.mem_cons_of_mem _ he)
    have kA : ∀ b ∈ A, b ∈ A ++ B := fun b hb => List.mem_append.mpr (.inl hb)
    have kB : ∀ b ∈ B, b ∈ A ++ B := fun b hb => List.mem_append.mpr (.inr hb)
    refine ⟨A ++ B, fun u hu => ?_, fun b hb => ?_⟩
    · rcases List.mem_cons.mp hu with e | m
      · rw [e]
        exact a1.mono kA
      · exact (b1 u m).mono kB
    · rcases List.mem_append.mp hb with m | m
      · exact (a2 b m).mono kA
      · exact (b2 b m).mono kB
end
end
def hoOf (o : Obj) : Option HO := match o.data with
  | .seq vs _ => if (o.cls == Value.type "list") = true then some (.frz o (.lst (vs.toList.map toV))) else some (.frz o (.tup (vs.toList.map toV)))
  | _ => none
def argH (K : PySem.W.Frag) (h : Heap) (A : List Addr) : Hp := fun b => if b ∈ A then (if (K.lookup b).isNone = true then (h.get? b).bind hoOf else none) else none
def OnlyF (H : Hp) : Prop := ∀ b, H b = none ∨ ∃ o u, H b = some (.frz o u)
theorem hoOf_lst (vs : List Value) : hoOf { cls := .type "list", data := .seq vs.toArray } = some (.frz { cls := .type "list", data := .seq vs.toArray } (.lst (vs.map toV))) := by
  show (if (Value.type "list" == Value.type "list") = true then some (HO.frz { cls := .type "list", data := .seq vs.toArray } (.lst (vs.toArray.toList.map toV))) else some (HO.frz { cls := .type "list", data := .seq vs.toArray } (.tup (vs.toArray.toList.map toV)))) = _
  rw [if_pos (beq_self_eq_true _)]
theorem hoOf_tup (vs : List Value) : hoOf { cls := .type "tuple", data := .seq vs.toArray } = some (.frz { cls := .type "tuple", data := .seq vs.toArray } (.tup (vs.map toV))) := by
  show (if (Value.type "tuple" == Value.type "list") = true then some (HO.frz { cls := .type "tuple", data := .seq vs.toArray } (.lst (vs.toArray.toList.map toV))) else some (HO.frz { cls := .type "tuple", data := .seq vs.toArray } (.tup (vs.toArray.toList.map toV)))) = _
  rw [if_neg (by decide)]
section
variable {P : Program} {w : World} {K : PySem.W.Frag} {h : Heap} {A : List Addr}
theorem argH_at {b : Addr} {o : Obj} (hb : b ∈ A) (hk : K.lookup b = none) (e : h.get? b = some o) : argH K h A b = hoOf o := by
  unfold argH
  rw [if_pos hb, hk, if_pos (show (none : Option Obj).isNone = true from rfl), e] <;> rfl
theorem of_argH {b : Addr} {u : HO} (q : argH K h A b = some u) : b ∈ A ∧ K.lookup b = none := by
  unfold argH at q
  by_cases hb : b ∈ A
  · rw [if_pos hb] at q
    cases hk : K.lookup b with
    | none => exact ⟨hb, rfl⟩
    | some o =>
      rw [hk, if_neg (by simp)] at q
      cases q
  · rw [if_neg hb] at q
    cases q
theorem argH_is (ar : ∀ a ∈ A, ArgOb h A a) {b : Addr} {u : HO} (q : argH K h A b = some u) : K.lookup b = none ∧ ∃ vs : List Value, vs.length ≤ sizeLine ∧ (∀ u ∈ vs, OkU A u) ∧
    ((h.get? b = some { cls := .type "list", data := .seq vs.toArray } ∧ u = .frz { cls := .type "list", data := .seq vs.toArray } (.lst (vs.map toV))) ∨
     (h.get? b = some { cls := .type "tuple", data := .seq vs.toArray } ∧ u = .frz { cls := .type "tuple", data := .seq vs.toArray } (.tup (vs.map toV)))) := by
  obtain ⟨hb, hk⟩ := of_argH q
  obtain ⟨vs, h1, h2, h3⟩ := ar b hb
  refine ⟨hk, vs, h1, h2, ?_⟩
  rcases h3 with e | e
  · rw [argH_at hb hk e, hoOf_lst] at q
    exact .inl ⟨e, (Option.some.inj q).symm⟩
  · rw [argH_at hb hk e, hoOf_tup] at q
    exact .inr ⟨e, (Option.some.inj q).symm⟩
theorem argH_only (ar : ∀ a ∈ A, ArgOb h A a) : OnlyF (argH K h A) := fun b => by
  cases q : argH K h A b with
  | none => exact .inl rfl
  | some u =>
    obtain ⟨_, vs, _, _, ⟨_, e⟩ | ⟨_, e⟩⟩ := argH_is ar q
    · exact .inr ⟨_, _, by rw [e]⟩
    · exact .inr ⟨_, _, by rw [e]⟩
theorem argH_ok (ar : ∀ a ∈ A, ArgOb h A a) : HOk P w (argH K h A) h := fun b u q => by
  obtain ⟨_, vs, h1, h2, ⟨e, rfl⟩ | ⟨e, rfl⟩⟩ := argH_is ar q
  · exact ⟨e, by rw [List.length_map]; exact h1, vs, _, vals_toV h2, e⟩
  · exact ⟨e, by rw [List.length_map]; exact h1, vs, vals_toV h2, _, e, rfl, _, rfl⟩
theorem seq_inj {c c' : Value} {vs us : List Value} (e : (some { cls := c, data := .seq vs.toArray } : Option Obj) = some { cls := c', data := .seq us.toArray }) : c = c' ∧ vs = us := by
  have e1 := Option.some.inj e
  have e2 : c = c' := congrArg Obj.cls e1
  have e3 : Data.seq vs.toArray = Data.seq us.toArray := congrArg Obj.data e1
  injection e3 with e4
  refine ⟨e2, ?_⟩
  have e5 := congrArg Array.toList e4
  simpa using e5
theorem argL (KX : K.In h) (ar : ∀ a ∈ A, ArgOb h A a) {a : Addr} {vs : List Value} (ha : a ∈ A) (e : h.get? a = some { cls := .type "list", data := .seq vs.toArray }) : (∀ u ∈ vs, OkU A u) ∧ SqL K (argH K h A) a (vs.map toV) := by
  obtain ⟨us, h1, h2, h3⟩ := ar a ha
  have hu : us = vs := by
    rcases h3 with q | q
    · rw [e] at q
      exact (seq_inj q).2.symm
    · rw [e] at q
      exact absurd (Value.type.inj (seq_inj q).1) (by decide)
  subst hu
  refine ⟨h2, ?_⟩
  cases hk : K.lookup a with
  | none => exact .inl (.inr ⟨_, by rw [argH_at ha hk e, hoOf_lst]⟩)
  | some o =>
    have e2 := KX a o hk
    rw [e] at e2
    obtain rfl := Option.some.inj e2
    exact .inr ⟨_, us.toArray, _, hk, rfl, rfl, rfl, by rw [List.size_toArray]; exact h1, by simpa using vals_toV h2⟩
theorem argT (KX : K.In h) (ar : ∀ a ∈ A, ArgOb h A a) {a : Addr} {vs : List Value} (ha : a ∈ A) (e : h.get? a = some { cls := .type "tuple", data := .seq vs.toArray }) : (∀ u ∈ vs, OkU A u) ∧ SqT K (argH K h A) a (vs.map toV) := by
  obtain ⟨us, h1, h2, h3⟩ := ar a ha
  have hu : us = vs := by
    rcases h3 with q | q
    · rw [e] at q
      exact absurd (Value.type.inj (seq_inj q).1) (by decide)
    · rw [e] at q
      exact (seq_inj q).2.symm
  subst hu
  refine ⟨h2, ?_⟩
  cases hk : K.lookup a with
  | none => exact .inl (.inr ⟨_, by rw [argH_at ha hk e, hoOf_tup]⟩)
  | some o =>
    have e2 := KX a o hk
    rw [e] at e2
    obtain rfl := Option.some.inj e2
    exact .inr ⟨_, us.toArray, _, hk, rfl, rfl, by rw [List.size_toArray]; exact h1, by simpa using vals_toV h2⟩
mutual
theorem dw_one {Pm : Params} (KX : K.In h) (ar : ∀ a ∈ A, ArgOb h A a) : ∀ (d : WData) (v : Value), Well Pm h v d → plW d = true → OkU A v → Dw K (argH K h A) (toV v) d
  | .none, _, x, _, _ => by
    cases x
    exact .non
  | .bool b, _, x, _, _ => by
    cases x
    exact .bl b
  | .int i, _, x, _, _ => by
    cases x
    exact .int i
  | .str s, _, x, _, _ => by
    cases x
    exact .str s
  | .bytes b, _, x, _, _ => by
    cases x
    have z := Dw.byt (K := K) (H := argH K h A) b.toArray
    exact z
  | .list ds, _, x, p, hu => by
    obtain ⟨a, vs, rfl, ho, hall⟩ := well_list x
    obtain ⟨h2, hs⟩ := argL KX ar hu ho
    exact .lst hs (dw_all KX ar ds _ hall p h2)
  | .tuple ds, _, x, p, hu => by
    obtain ⟨a, vs, rfl, ho, hall⟩ := well_tuple x
    obtain ⟨h2, hs⟩ := argT KX ar hu ho
    exact .tup hs (dw_all KX ar ds _ hall p h2)
  | .float _, _, _, p, _ => Bool.noConfusion (show false = true from p)
  | .dict _, _, _, p, _ => Bool.noConfusion (show false = true from p)
  | .bytearray _, _, _, p, _ => Bool.noConfusion (show false = true from p)
  | .set _, _, _, p, _ => Bool.noConfusion (show false = true from p)
  | .frozenset _, _, _, p, _ => Bool.noConfusion (show false = true from p)
  | .obj _ _, _, _, p, _ => Bool.noConfusion (show false = true from p)
theorem dw_all {Pm : Params} (KX : K.In h) (ar : ∀ a ∈ A, ArgOb h A a) : ∀ (ds : List WData) (vs : List Value), WellAll Pm h vs ds → plWs ds = true → (∀ u ∈ vs, OkU A u) → DwAll K (argH K h A) (vs.map toV) ds
  | [], _, x, _, _ => by
    cases x
    exact .nil
  | d :: ds, _, x, p, hu => by
    obtain ⟨v, vs, rfl, x1, x2⟩ := well_cons x
    have q : plW d = true ∧ plWs ds = true := Bool.and_eq_true_iff.mp p
    exact .cons (dw_one KX ar d v x1 q.1 (hu _ (List.mem_cons_self ..))) (dw_all KX ar ds vs x2 q.2 fun u m => hu u (List.mem_cons_of_mem _ m))
end
end
theorem spec_call {P : Program} {w : World} {K : PySem.W.Frag} {mg mb : Str → Option Value} {CX : CXT} {k : Nat} {fa : Addr} {fd : FuncData} {ps : List Str} {sp : Sp} {s₁ : Shared} {vals : List Value} {ds : List WData} {R : PySem.W.WRecords} {cl : Str → Option Addr} {d0 : WData}
    (KX : K.In s₁.heap) (hns : s₁.heap.Ns mainGlobals mg) (hb : s₁.heap.Ns builtinsNs mb) (hbb : ∀ x : Str, x ≠ "__name__" → mb x = bootBuiltins x) (hlim : s₁.heap.NoLimit) (hg : s₁.gens = #[])
    (hwl : WellAll w.params s₁.heap vals ds) (hpl : plWs ds = true) (hwt : ∀ d ∈ ds, d.weight ≤ 1048576) (hr : Room k callerA)
    (F : ∀ base : Heap, K.In base → base.Ns mainGlobals mg → FnOk P w K mg base CX k fa fd ps sp) (hbind : ∀ (s : Shared) (us : List Value), us.length = ps.length → BindsTo s fd ⟨us, []⟩ (ps.zip us)) (hlen : ds.length = ps.length)
    (hsp : ∀ (H : Hp) (xs : List V), OnlyF H → DwAll K H xs ds → sp xs H (fun v H' => Dw K H' v d0) fun _ _ _ => False)
    (hCX : ∀ H e s', CX [] H s₁ (fun _ _ _ => False) e s' → False) :
    codeAny (model P w) callerA (.call (.ref fa) ⟨vals, []⟩) (fun r s' => ∃ u as, r = .ok (.ret u) ∧ ReadsW R cl s'.heap u d0 as ∧ OldK s₁.heap s'.heap ∧ s'.os = s₁.os ∧ AllBare s'.gens) s₁ := by
  obtain ⟨A, ho, ar⟩ := area_all ds vals hwl hpl hwt
  have hO : OnlyF (argH K s₁.heap A) := argH_only ar
  have hok : HOk P w (argH K s₁.heap A) s₁.heap := argH_ok ar
  have hS := dw_all KX ar ds vals hwl hpl ho
  have hV := vals_toV ho
  have hK : ∀ b u, argH K s₁.heap A b = some u → K.lookup b = none := fun b u q => (argH_is ar q).1
  have noA : ∀ {b : Addr} {o : Obj} {es : Array DictEntry} {ep : Nat}, s₁.heap.get? b = some o → o.data = .dict es ep → argH K s₁.heap A b = none := fun {b o es ep} e d => by
    cases q : argH K s₁.heap A b with
    | none => rfl
    | some u =>
      obtain ⟨_, vs, _, _, ⟨e2, _⟩ | ⟨e2, _⟩⟩ := argH_is ar q
      · rw [e2] at e
        cases e
        have d' : Data.seq vs.toArray _ = Data.dict es ep := d
        cases d'
      · rw [e2] at e
        cases e
        have d' : Data.seq vs.toArray _ = Data.dict es ep := d
        cases d'
  generalize argH K s₁.heap A = H at hO hok hS hK noA
  have base_of : ∀ {b : Addr} {o : Obj}, s₁.heap.get? b = some o → H b = none → (hidT s₁.heap H).get? b = some o := fun e n => hidT_get e n
  have nsK : ∀ {b : Addr} {m : Str → Option Value}, s₁.heap.Ns b m → (hidT s₁.heap H).Ns b m := fun {b m} ⟨o, es, ep, e, d, r⟩ => ⟨o, es, ep, base_of e (noA e d), d, r⟩
  have nK : ∀ b o, K.lookup b = some o → H b = none := fun b o e => by
    cases q : H b with
    | none => rfl
    | some u =>
      rw [hK b u q] at e
      cases e
  have hKb : K.In (hidT s₁.heap H) := fun b o e => base_of (KX b o e) (nK b o e)
  have hM : Mod K mg (hidT s₁.heap H) := ⟨hKb, nsK hns, ⟨mb, nsK hb, hbb⟩, let ⟨mc, h1, h2⟩ := hlim; ⟨mc, nsK h1, h2⟩⟩
  have e0 : Env0 P w K mg (hidT s₁.heap H) callerA [] s₁ H := ⟨rfl, hM, fun b o e => of_hidT e, Nat.le_of_eq (hidT_size _ _), trivial, fun b hb => absurd (show b ∈ ([] : List Addr) from hb) (by simp), hok, .of_eq hg⟩
  have hl : vals.length = ps.length := by rw [wellAll_len hwl]; exact hlen
  refine codeAny_mono ((F _ hKb (nsK hns)).run callerA [] s₁ H ⟨vals, []⟩ vals (vals.map toV) _ _ hr e0 (hbind s₁ vals hl) hV (hsp H _ hO hS)) fun r s' x => ?_
  cases r with
  | error e => exact (hCX H e s' x).elim
  | ok fl =>
    cases fl with
    | next => exact False.elim x
    | brk => exact False.elim x
    | cont => exact False.elim x
    | ret u =>
      obtain ⟨v, H', os, bare, un, hok', r', q⟩ := x
      have kept : ∀ b o, s₁.heap.get? b = some o → s'.heap.get? b = some o := fun b o e => by
        cases q2 : H b with
        | none => exact un.keep b o e q2 (by intro z; exact absurd (show b ∈ ([] : List Addr) from z) (by simp)) (by simp)
        | some u2 =>
          rcases hO b with z | ⟨ob, u3, z⟩
          · rw [q2] at z
            cases z
          · have z2 := un.frzs b ob _ z
            obtain ⟨e1, _⟩ := hok b _ z
            obtain ⟨e2, _⟩ := hok' b _ z2
            rw [e] at e1
            cases e1
            exact e2
      have KX' : K.In s'.heap := fun b o e => kept b o (KX b o e)
      obtain ⟨as, hrd⟩ := Dw.reads (R := R) (cl := cl) hok' KX' d0 v u q r'
      exact ⟨u, as, rfl, hrd, OldK.of_keep kept, os, bare⟩
theorem layable_weight {ds : List WData} (h : WData.layableAll ds = true) : ∀ d ∈ ds, d.weight ≤ 1048576 := fun d hd =>
  (PySem.W.layableW_iff.mp (List.all_eq_true.mp h d hd)).2.2
theorem encAll_len : ∀ (cs : List Codec) (a : Codec.denoteAll cs), (Codec.encAll cs a).length = cs.length
  | [], _ => rfl
  | c :: cs, a => by
    show (Codec.encAll cs a.2).length + 1 = cs.length + 1
    rw [encAll_len cs a.2]
theorem walk_spec {r : OpenSpec} {k : Nat} {q : Program} {loose : List Str} {XP : (Str → Option Value) → Heap → Prop} {YP : World → Heap → Prop} {d : DefRec} {K : Params → PySem.W.Frag} {CX : World → CXT} {ps : List Str} {sp : World → Sp}
    (hwell : r.wellSaid = true) (hdf : d.params.defaults = []) (hlen : r.args.length = ps.length) (hr : Room k callerA)
    (hY : ∀ (w : World) (h : Heap), YP w h → (K w.params).In h)
    (F : ∀ (w : World) (mg : Str → Option Value) (fa : Addr) (h : Heap), YP w h → (K w.params).In h → h.Ns mainGlobals mg → mg d.name = some (.ref fa) →
      ∃ fd : FuncData, (∀ (s : Shared) (us : List Value), us.length = ps.length → BindsTo s fd ⟨us, []⟩ (ps.zip us)) ∧
        ∀ base : Heap, (K w.params).In base → base.Ns mainGlobals mg → FnOk r.prog w (K w.params) mg base (CX w) k fa fd ps (sp w))
    (hsp : ∀ (w : World) (H : Hp) (xs : List V) (a : Codec.denoteAll r.args), OnlyF H → Codec.withinAll r.args a = true → Codec.app r.args r.asked a = true → DwAll (K w.params) H xs (Codec.encAll r.args a) →
      sp w xs H (fun v H' => Dw (K w.params) H' v (r.ret.enc (Codec.app r.args r.f a))) fun _ _ _ => False)
    (hCX : ∀ (w : World) (H : Hp) (s : Shared) (e : Value) (s' : Shared), CX w [] H s (fun _ _ _ => False) e s' → False) :
    PySem.W.WalkOS q loose XP YP r d [] (fun f vs => PySem.call f vs) := by
  intro w s_0 s₁ mg mb G Y fa o pm cd doc dV kV ho hd hcd hD hmg hg args vals as hpre hlay hrd hwl hlo
  obtain ⟨a, e1, e2⟩ := PySem.W.os_pre_some hpre
  obtain ⟨e3, hwi⟩ := Codec.encAll_of_decAll r.args args a e1
  subst e3
  have KX := hY w _ Y
  obtain ⟨fd, hb, hF⟩ := F w mg fa _ Y KX G.T.g hmg
  refine PySem.W.enter_call (codeAny_mono (spec_call (R := []) (cl := classAt s_0.heap) (d0 := r.ret.enc (Codec.app r.args r.f a)) KX G.T.g G.T.b G.T.builtins G.T.nolimit hg hwl (pl_encAll _ _) (layable_weight hlay) hr hF hb (by rw [encAll_len]; exact hlen)
    (fun H xs hO hS => hsp w H xs a hO hwi e2 hS) fun H e s' => hCX w H s₁ e s') fun r' s' hq => ?_)
  obtain ⟨u, as', rfl, h1, h2, h3, h4⟩ := hq
  exact ⟨.inl ⟨u, _, as', rfl, fun _ => rfl, h1, (OpenSpec.post_iff hwell hwi _ _).mpr rfl, fun z => Bool.noConfusion (show false = true from z)⟩, h2, h3, h4⟩
theorem walk_specK {r : OpenSpec} {k : Nat} {q : Program} {loose : List Str} {XP : (Str → Option Value) → Heap → Prop} {YP : World → Heap → Prop} {d : DefRec} {K : Params → PySem.W.Frag} {CX : CXT} {ps : List Str} {sp : PySem.W.Frag → Sp}
    (hwell : r.wellSaid = true) (hdf : d.params.defaults = []) (hlen : r.args.length = ps.length) (hr : Room k callerA)
    (hY : ∀ (w : World) (h : Heap), YP w h → (K w.params).In h)
    (F : ∀ (w : World) (mg : Str → Option Value) (fa : Addr) (h : Heap), YP w h → (K w.params).In h → h.Ns mainGlobals mg → mg d.name = some (.ref fa) →
      ∃ fd : FuncData, (∀ (s : Shared) (us : List Value), us.length = ps.length → BindsTo s fd ⟨us, []⟩ (ps.zip us)) ∧
        ∀ base : Heap, (K w.params).In base → base.Ns mainGlobals mg → FnOk r.prog w (K w.params) mg base CX k fa fd ps (sp (K w.params)))
    (hsp : ∀ (K : PySem.W.Frag) (H : Hp) (xs : List V) (a : Codec.denoteAll r.args), OnlyF H → Codec.withinAll r.args a = true → Codec.app r.args r.asked a = true → DwAll K H xs (Codec.encAll r.args a) →
      sp K xs H (fun v H' => Dw K H' v (r.ret.enc (Codec.app r.args r.f a))) fun _ _ _ => False)
    (hCX : ∀ (H : Hp) (s : Shared) (e : Value) (s' : Shared), CX [] H s (fun _ _ _ => False) e s' → False) :
    PySem.W.WalkOS q loose XP YP r d [] (fun f vs => PySem.call f vs) :=
  walk_spec (K := K) (CX := fun _ => CX) (sp := fun w => sp (K w.params)) hwell hdf hlen hr hY F (fun w H xs a h1 h2 h3 h4 => hsp (K w.params) H xs a h1 h2 h3 h4) fun _ H s e s' => hCX H s e s'
end L2
end


namespace FF
open Kcz6
/-- the wires, gate after gate, f telling which gates give the other value -/
def wiresF (f : Nat → Bool) : Nat → List Gate → List Bool → List Bool
  | _, [], l => l
  | k, g :: gs, l => wiresF f (k + 1) gs (l ++ [works g (l.getD g.a false) (l.getD g.b false) != f k])
theorem wiresF_len (f : Nat → Bool) : ∀ (gs : List Gate) (k : Nat) (l : List Bool), (wiresF f k gs l).length = l.length + gs.length
  | [], k, l => by simp [wiresF]
  | g :: gs, k, l => by
    rw [wiresF, wiresF_len f gs]
    simp
    omega
theorem wiresF_pre (f : Nat → Bool) : ∀ (gs : List Gate) (k : Nat) (l : List Bool) (i : Nat), i < l.length → (wiresF f k gs l).getD i false = l.getD i false
  | [], k, l, i, h => by simp [wiresF]
  | g :: gs, k, l, i, h => by
    rw [wiresF, wiresF_pre f gs _ _ i (by simp; omega)]
    simp [List.getD, List.getElem?_append_left h]
theorem wiresF_congr {f f' : Nat → Bool} : ∀ (gs : List Gate) (k : Nat) (l : List Bool), (∀ j, j < gs.length → f (k + j) = f' (k + j)) → wiresF f k gs l = wiresF f' k gs l
  | [], k, l, h => rfl
  | g :: gs, k, l, h => by
    rw [wiresF, wiresF, show f k = f' k from h 0 (by simp)]
    refine wiresF_congr gs _ _ fun j hj => ?_
    have := h (j + 1) (by simp; omega)
    rw [show k + (j + 1) = k + 1 + j by omega] at this
    exact this
theorem getD_snoc (l : List Bool) (x : Bool) : (l ++ [x]).getD l.length false = x := by simp [List.getD]
theorem mem_ways (d : Nat) : ∀ (gs : List Gate) (k : Nat) (s : List (Option Bool)) (l x : List Bool), x ∈ ways d k gs s l ↔
    ∃ f : Nat → Bool, (∀ j, j < gs.length → f (k + j) = true → bit d (k + j) = true) ∧ x = wiresF f k gs l ∧ ∀ j, j < gs.length → fits (s.getD j none) (x.getD (l.length + j) false) = true
  | [], k, s, l, x => by
    simp only [ways, List.mem_singleton, wiresF, List.length_nil]
    exact ⟨fun e => ⟨fun _ => false, fun j h => absurd h (by omega), e, fun j h => absurd h (by omega)⟩, fun ⟨_, _, e, _⟩ => e⟩
  | g :: gs, k, s, l, x => by
    simp only [ways, List.mem_flatMap, List.mem_filter]
    constructor
    · rintro ⟨v, ⟨hv, hf⟩, hx⟩
      obtain ⟨f, h1, h2, h3⟩ := (mem_ways d gs (k + 1) s.tail (l ++ [v]) x).mp hx
      refine ⟨fun j => if j = k then (works g (l.getD g.a false) (l.getD g.b false) != v) else f j, fun j hj => ?_, ?_, fun j hj => ?_⟩
      · cases j with
        | zero =>
          intro q
          simp only [Nat.add_zero, if_true] at q ⊢
          by_cases hb : bit d k = true
          · exact hb
          · rw [if_neg hb] at hv
            rw [List.mem_singleton] at hv
            subst hv
            simp at q
        | succ j =>
          intro q
          have hne : ¬ k + (j + 1) = k := by omega
          simp only [if_neg hne] at q
          have := h1 j (by simp at hj; omega)
          rw [show k + 1 + j = k + (j + 1) by omega] at this
          exact this q
      · rw [h2, wiresF]
        have ev : ((works g (l.getD g.a false) (l.getD g.b false)) != (if k = k then (works g (l.getD g.a false) (l.getD g.b false) != v) else f k)) = v := by
          rw [if_pos rfl]; cases works g (l.getD g.a false) (l.getD g.b false) <;> cases v <;> rfl
        show _ = wiresF _ (k + 1) gs (l ++ [works g (l.getD g.a false) (l.getD g.b false) != (if k = k then (works g (l.getD g.a false) (l.getD g.b false) != v) else f k)])
        rw [ev]
        refine wiresF_congr gs _ _ fun j hj => ?_
        rw [if_neg (by omega)]
      · cases j with
        | zero =>
          rw [Nat.add_zero, h2, wiresF_pre _ _ _ _ _ (by simp), getD_snoc]
          cases s <;> exact hf
        | succ j =>
          have := h3 j (by simp at hj; omega)
          rw [List.length_append, List.length_singleton] at this
          rw [show l.length + (j + 1) = l.length + 1 + j by omega]
          cases s with
          | nil => simpa using this
          | cons a s => simpa using this
    · rintro ⟨f, h1, h2, h3⟩
      have e0 : x.getD l.length false = (works g (l.getD g.a false) (l.getD g.b false) != f k) := by
        rw [h2, wiresF, wiresF_pre _ _ _ _ _ (by simp), getD_snoc]
      refine ⟨works g (l.getD g.a false) (l.getD g.b false) != f k, ⟨?_, ?_⟩, ?_⟩
      · cases hk : f k with
        | false =>
          by_cases hb : bit d k = true
          · rw [if_pos hb]; cases works g (l.getD g.a false) (l.getD g.b false) <;> simp
          · rw [if_neg hb]; simp
        | true =>
          have hb := h1 0 (by simp) (by simpa using hk)
          rw [if_pos (by simpa using hb)]
          cases works g (l.getD g.a false) (l.getD g.b false) <;> simp
      · have := h3 0 (by simp)
        rw [Nat.add_zero, e0] at this
        cases s <;> exact this
      · refine (mem_ways d gs (k + 1) s.tail _ x).mpr ⟨f, fun j hj => ?_, ?_, fun j hj => ?_⟩
        · have := h1 (j + 1) (by simp; omega)
          rw [show k + (j + 1) = k + 1 + j by omega] at this
          exact this
        · rw [h2, wiresF]
        · have := h3 (j + 1) (by simp; omega)
          rw [List.length_append, List.length_singleton]
          rw [show l.length + (j + 1) = l.length + 1 + j by omega] at this
          cases s with
          | nil => simpa using this
          | cons a s => simpa using this
/-! sets as numbers -/
theorem bit_eq (m k : Nat) : bit m k = m.testBit k := by
  unfold bit
  rw [Nat.testBit_eq_decide_div_mod_eq]
  rfl
theorem num_of (f : Nat → Bool) : ∀ n : Nat, ∃ m, m < 2 ^ n ∧ ∀ j, j < n → bit m j = f j
  | 0 => ⟨0, by simp, fun j h => absurd h (by omega)⟩
  | n + 1 => by
    obtain ⟨m, h1, h2⟩ := num_of f n
    cases hf : f n with
    | false =>
      refine ⟨m, by rw [Nat.pow_succ]; omega, fun j hj => ?_⟩
      by_cases e : j = n
      · subst e; rw [hf, bit_eq]; exact Nat.testBit_lt_two_pow h1
      · exact h2 j (by omega)
    | true =>
      refine ⟨2 ^ n + m, by rw [Nat.pow_succ]; omega, fun j hj => ?_⟩
      by_cases e : j = n
      · subst e; rw [hf, bit_eq, Nat.testBit_two_pow_add_eq, Nat.testBit_lt_two_pow h1]; rfl
      · rw [bit_eq, Nat.testBit_two_pow_add_gt (by omega), ← bit_eq]; exact h2 j (by omega)
theorem or_sub {x d n : Nat} (hx : x < 2 ^ n) : x ||| d = d ↔ ∀ j, j < n → bit x j = true → bit d j = true := by
  constructor
  · intro e j _ h
    rw [bit_eq] at h ⊢
    rw [← e, Nat.testBit_or, h]; rfl
  · intro h
    apply Nat.eq_of_testBit_eq
    intro i
    rw [Nat.testBit_or]
    by_cases hi : i < n
    · have := h i hi
      rw [bit_eq, bit_eq] at this
      cases hb : x.testBit i with
      | false => rfl
      | true => rw [this hb]; rfl
    · rw [Nat.testBit_lt_two_pow (Nat.lt_of_lt_of_le hx (Nat.pow_le_pow_right (by decide) (by omega)))]; rfl
/-- the wires with these gates wrong -/
def wires (gs : List Gate) (inp : List Bool) (wrong : Nat) : List Bool := wiresF (bit wrong) 0 gs inp
theorem mem_waysOf {a : Abs} {d : Nat} {t : Test} {x : List Bool} : x ∈ waysOf a d t ↔
    ∃ wrong, wrong < 2 ^ a.gates.length ∧ wrong ||| d = d ∧ x = wires a.gates t.inputs wrong ∧ ∀ j, j < a.gates.length → fits (t.seen.getD j none) (x.getD (t.inputs.length + j) false) = true := by
  unfold waysOf wires
  rw [mem_ways]
  constructor
  · rintro ⟨f, h1, h2, h3⟩
    obtain ⟨m, hm, hb⟩ := num_of f a.gates.length
    refine ⟨m, hm, (or_sub hm).mpr fun j hj q => ?_, ?_, h3⟩
    · have := h1 j hj
      rw [Nat.zero_add] at this
      exact this (by rw [← hb j hj]; exact q)
    · rw [h2]
      refine wiresF_congr _ _ _ fun j hj => ?_
      rw [Nat.zero_add]
      exact (hb j hj).symm
  · rintro ⟨m, hm, ho, hx, h3⟩
    refine ⟨bit m, fun j hj q => ?_, hx, h3⟩
    rw [Nat.zero_add] at q ⊢
    exact (or_sub hm).mp ho j hj q
end FF
namespace FF
open Kcz6
/-- what the gates gave, these wrong -/
def gaveOf (gs : List Gate) (inp : List Bool) (wrong : Nat) : List Bool := (wires gs inp wrong).drop inp.length
theorem gaveOf_len (gs : List Gate) (inp : List Bool) (w : Nat) : (gaveOf gs inp w).length = gs.length := by
  unfold gaveOf wires
  rw [List.length_drop, wiresF_len]
  omega
theorem wires_getD (gs : List Gate) (inp : List Bool) (w j : Nat) : (wires gs inp w).getD (inp.length + j) false = (gaveOf gs inp w).getD j false := by
  unfold gaveOf
  simp [List.getD]
def fitsAll (seen : List (Option Bool)) (y : List Bool) (n : Nat) : Bool := (List.range n).all fun j => fits (seen.getD j none) (y.getD j false)
theorem fitsAll_iff {seen : List (Option Bool)} {y : List Bool} {n : Nat} : fitsAll seen y n = true ↔ ∀ j, j < n → fits (seen.getD j none) (y.getD j false) = true := by
  unfold fitsAll
  simp [List.all_eq_true]
/-- all ways of a test, one for each set of wrong gates -/
def pall (gs : List Gate) (inp : List Bool) : List (Nat × List Bool) := (List.range (2 ^ gs.length)).map fun w => (w, gaveOf gs inp w)
def pways (gs : List Gate) (t : Test) : List (Nat × List Bool) := (pall gs t.inputs).filter fun y => fitsAll t.seen y.2 gs.length
theorem pways_new (gs : List Gate) (inp : List Bool) : pways gs ⟨inp, List.replicate gs.length none⟩ = pall gs inp := by
  unfold pways
  rw [List.filter_eq_self]
  intro y _
  rw [fitsAll_iff]
  intro j hj
  have e : (List.replicate gs.length (none : Option Bool)).getD j none = none := by
    simp [List.getD, hj]
  show fits ((List.replicate gs.length (none : Option Bool)).getD j none) _ = true
  rw [e]; rfl
theorem fitsAll_set {seen : List (Option Bool)} {y : List Bool} {n w : Nat} {v : Bool} (hw : w < n) (hl : seen.length = n) (hn : seen.getD w none = none) :
    fitsAll (seen.set w (some v)) y n = (fitsAll seen y n && (y.getD w false == v)) := by
  rw [Bool.eq_iff_iff, Bool.and_eq_true, fitsAll_iff, fitsAll_iff]
  constructor
  · intro h
    refine ⟨fun j hj => ?_, ?_⟩
    · by_cases e : j = w
      · subst e; rw [hn]; rfl
      · have := h j hj
        rw [List.getD, List.getElem?_set_ne (fun z => e z.symm)] at this
        exact this
    · have := h w hw
      rw [List.getD, List.getElem?_set_self (by omega)] at this
      have q : (v == y.getD w false) = true := this
      rw [beq_iff_eq] at q ⊢
      exact q.symm
  · rintro ⟨h, q⟩ j hj
    by_cases e : j = w
    · subst e
      rw [List.getD, List.getElem?_set_self (by omega)]
      show (v == y.getD j false) = true
      rw [beq_iff_eq] at q ⊢
      exact q.symm
    · rw [List.getD, List.getElem?_set_ne (fun z => e z.symm)]
      exact h j hj
theorem pways_set {gs : List Gate} {t : Test} {w : Nat} {v : Bool} (hw : w < gs.length) (hl : t.seen.length = gs.length) (hn : t.seen.getD w none = none) :
    pways gs { t with seen := t.seen.set w (some v) } = (pways gs t).filter fun y => y.2.getD w false == v := by
  unfold pways
  rw [List.filter_filter]
  congr 1
  funext y
  rw [Bool.and_comm]
  exact fitsAll_set hw hl hn
theorem mem_pways {gs : List Gate} {t : Test} {y : Nat × List Bool} : y ∈ pways gs t ↔ y.1 < 2 ^ gs.length ∧ y.2 = gaveOf gs t.inputs y.1 ∧ fitsAll t.seen y.2 gs.length = true := by
  unfold pways pall
  rw [List.mem_filter, List.mem_map]
  constructor
  · rintro ⟨⟨w, hw, rfl⟩, h⟩
    exact ⟨List.mem_range.mp hw, rfl, h⟩
  · rintro ⟨h1, h2, h3⟩
    exact ⟨⟨y.1, List.mem_range.mpr h1, by rw [← h2]⟩, h3⟩
/-- the ways that these gates broken allow -/
def pwith (gs : List Gate) (t : Test) (d : Nat) : List (Nat × List Bool) := (pways gs t).filter fun y => decide (y.1 ||| d = d)
theorem mem_waysOf' {a : Abs} {d : Nat} {t : Test} {x : List Bool} : x ∈ waysOf a d t ↔ ∃ y, y ∈ pwith a.gates t d ∧ x = wires a.gates t.inputs y.1 := by
  rw [mem_waysOf]
  constructor
  · rintro ⟨w, hw, ho, hx, hf⟩
    refine ⟨(w, gaveOf a.gates t.inputs w), List.mem_filter.mpr ⟨mem_pways.mpr ⟨hw, rfl, fitsAll_iff.mpr fun j hj => ?_⟩, decide_eq_true ho⟩, hx⟩
    have := hf j hj
    rw [hx, wires_getD] at this
    exact this
  · rintro ⟨y, hy, hx⟩
    obtain ⟨h1, h2⟩ := List.mem_filter.mp hy
    obtain ⟨h3, h4, h5⟩ := mem_pways.mp h1
    refine ⟨y.1, h3, of_decide_eq_true h2, hx, fun j hj => ?_⟩
    rw [hx, wires_getD, ← h4]
    exact fitsAll_iff.mp h5 j hj
theorem waysOf_empty {a : Abs} {d : Nat} {t : Test} : (waysOf a d t).isEmpty = (pwith a.gates t d).isEmpty := by
  rw [Bool.eq_iff_iff, List.isEmpty_iff, List.isEmpty_iff, List.eq_nil_iff_forall_not_mem, List.eq_nil_iff_forall_not_mem]
  constructor
  · intro h y hy
    exact h _ (mem_waysOf'.mpr ⟨y, hy, rfl⟩)
  · intro h x hx
    obtain ⟨y, hy, _⟩ := mem_waysOf'.mp hx
    exact h y hy
theorem waysOf_any {a : Abs} {d : Nat} {t : Test} {w : Nat} (hl : t.inputs.length = a.inputs) (p : Bool → Bool) :
    (waysOf a d t).any (fun x => p (x.getD (a.inputs + w) false)) = (pwith a.gates t d).any fun y => p (y.2.getD w false) := by
  rw [Bool.eq_iff_iff, List.any_eq_true, List.any_eq_true]
  constructor
  · rintro ⟨x, hx, q⟩
    obtain ⟨y, hy, e⟩ := mem_waysOf'.mp hx
    refine ⟨y, hy, ?_⟩
    obtain ⟨h1, _⟩ := List.mem_filter.mp hy
    rw [(mem_pways.mp h1).2.1, ← wires_getD, ← e, hl]
    exact q
  · rintro ⟨y, hy, q⟩
    refine ⟨_, mem_waysOf'.mpr ⟨y, hy, rfl⟩, ?_⟩
    obtain ⟨h1, _⟩ := List.mem_filter.mp hy
    rw [(mem_pways.mp h1).2.1, ← wires_getD, hl] at q
    exact q
/-! ### the states that are met -/
structure WF (s : Abs) : Prop where
  inp : s.inputs ≤ 4
  g8 : s.gates.length ≤ 8
  t6 : s.tests.length ≤ 6
  gok : ∀ (k : Nat) (g : Gate), s.gates[k]? = some g → g.kind ≤ 4 ∧ g.a < s.inputs + k ∧ g.b < s.inputs + k
  tok : ∀ t, t ∈ s.tests → t.inputs.length = s.inputs ∧ t.seen.length = s.gates.length
theorem WF.first : WF Kcz6.first := ⟨by decide, by decide, by decide, fun k g h => by simp [Kcz6.first] at h, fun t h => by simp [Kcz6.first] at h⟩
theorem WF.step {s : Abs} (w : WF s) (c : Call) : WF (Kcz6.step s c).1 := by
  cases c with
  | begin_ n =>
    unfold Kcz6.step
    dsimp only
    split
    · exact w
    · rename_i h
      have : n ≤ 4 := by
        have : INPUTS = 4 := rfl
        omega
      exact ⟨this, by simp, by simp, fun k g h => by simp at h, fun t h => by simp at h⟩
  | gate k x y =>
    unfold Kcz6.step
    dsimp only
    split
    · exact w
    · rename_i h
      split
      · exact w
      · rename_i h2
        split
        · exact w
        · rename_i h3
          have h2' : s.tests = [] := by simpa using h2
          have e8 : GATES = 8 := rfl
          refine ⟨w.inp, by simp; omega, w.t6, fun j g hg => ?_, fun t ht => ?_⟩
          · by_cases hj : j < s.gates.length
            · rw [List.getElem?_append_left hj] at hg
              exact w.gok j g hg
            · rw [List.getElem?_append_right (by omega)] at hg
              have e0 : j - s.gates.length = 0 := by
                rcases Nat.eq_zero_or_pos (j - s.gates.length) with z | z
                · exact z
                · rw [List.getElem?_eq_none (by simp; omega)] at hg; cases hg
              rw [e0] at hg
              have e1 : (⟨k, x, y⟩ : Gate) = g := Option.some.inj hg
              subst e1
              dsimp only
              omega
          · rw [show ({ s with gates := s.gates ++ [⟨k, x, y⟩] } : Abs).tests = s.tests from rfl, h2'] at ht
            simp at ht
  | test i =>
    unfold Kcz6.step
    dsimp only
    split
    · exact w
    · split
      · exact w
      · rename_i h h2
        have e6 : TESTS = 6 := rfl
        refine ⟨w.inp, w.g8, by simp; omega, w.gok, fun t ht => ?_⟩
        rcases List.mem_append.mp ht with z | z
        · exact w.tok t z
        · rw [List.mem_singleton] at z
          subst z
          simp
  | seen k x v =>
    unfold Kcz6.step
    dsimp only
    split
    · exact w
    · rename_i t ht
      split
      · exact w
      · split
        · exact w
        · refine ⟨w.inp, w.g8, by simp; exact w.t6, w.gok, fun u hu => ?_⟩
          rcases List.mem_or_eq_of_mem_set hu with z | z
          · exact w.tok u z
          · subst z
            have := w.tok t (List.mem_of_getElem? ht)
            simp only [List.length_set]
            exact this
  | explains d => unfold Kcz6.step; dsimp only; split <;> exact w
  | least => exact w
  | suspects => exact w
  | sure => exact w
  | may d k x =>
    unfold Kcz6.step
    dsimp only
    split
    · exact w
    · split
      · exact w
      · split <;> exact w
  | next k =>
    unfold Kcz6.step
    dsimp only
    split
    · exact w
    · split <;> exact w
/-! ### a list of calls, call by call -/
theorem whole_id (c : List (List Int)) : PyKcz6.whole c = c := by
  unfold PyKcz6.whole
  split <;> rfl
theorem map_whole (cs : List (List (List Int))) : cs.map PyKcz6.whole = cs := by
  induction cs with
  | nil => rfl
  | cons c r ih => rw [List.map_cons, whole_id, ih]
/-- how many numbers a call has -/
def argn (p : Int) : Nat := if p = 1 ∨ p = 3 ∨ p = 8 then 3 else if p = 5 ∨ p = 6 ∨ p = 7 then 0 else 1
theorem shape_some {p : Int} {n k : Nat} (h : PyKcz6.shape p = some (n, k)) : 0 ≤ p ∧ p ≤ 9 ∧ n = argn p ∧ k = 0 := by
  unfold PyKcz6.shape at h
  unfold argn
  repeat' split at h
  all_goals first | (cases h; subst_vars; decide) | cases h
theorem calls_cons {f : Nat} {p : Int} {r : List Int} {cs : List (List (List Int))} (h : PyFlat.calls PyKcz6.shape f (p :: r) = some cs) :
    ∃ f' cs', 0 ≤ p ∧ p ≤ 9 ∧ argn p ≤ r.length ∧ cs = [p :: r.take (argn p)] :: cs' ∧ PyFlat.calls PyKcz6.shape f' (r.drop (argn p)) = some cs' := by
  cases f with
  | zero => simp [PyFlat.calls] at h
  | succ f =>
    rw [PyFlat.calls] at h
    cases hc : PyFlat.call PyKcz6.shape (p :: r) with
    | none => rw [hc] at h; cases h
    | some ct =>
      obtain ⟨c, t⟩ := ct
      rw [hc] at h
      dsimp only at h
      unfold PyFlat.call at hc
      dsimp only at hc
      cases hs : PyKcz6.shape p with
      | none => rw [hs] at hc; cases hc
      | some nk =>
        obtain ⟨n, k⟩ := nk
        obtain ⟨h0, h9, hn, hk⟩ := shape_some hs
        rw [hs] at hc
        dsimp only at hc
        subst hk
        by_cases hl : r.length < n
        · rw [if_pos hl] at hc; cases hc
        · rw [if_neg hl] at hc
          rw [PyFlat.rows] at hc
          dsimp only at hc
          have e : [p :: r.take n] = c ∧ r.drop n = t := by
            have := Option.some.inj hc
            exact ⟨congrArg Prod.fst this, congrArg Prod.snd this⟩
          obtain ⟨e1, e2⟩ := e
          subst e1 e2 hn
          cases hq : PyFlat.calls PyKcz6.shape f (r.drop (argn p)) with
          | none => rw [hq] at h; cases h
          | some cs' =>
            rw [hq] at h
            exact ⟨f, cs', h0, h9, by omega, (Option.some.inj h).symm, hq⟩
theorem filter_len {α : Type} (p : α → Bool) (l : List α) : (l.filter p).length ≤ l.length := List.length_filter_le _ _
theorem flatMap_len {α β : Type} (f : α → List β) (m : Nat) : ∀ l : List α, (∀ x ∈ l, (f x).length ≤ m) → (l.flatMap f).length ≤ l.length * m
  | [], _ => by simp
  | a :: r, h => by
    rw [List.flatMap_cons, List.length_append, List.length_cons, Nat.add_mul]
    have h1 := h a (by simp)
    have h2 := flatMap_len f m r fun x hx => h x (by simp [hx])
    omega
theorem order_len {a : Abs} (w : WF a) (l : List Nat) : (order a l).length ≤ 2304 := by
  unfold order
  refine Nat.le_trans (flatMap_len _ 256 _ fun x _ => ?_) (by simp [GATES])
  refine Nat.le_trans (List.length_filter_le _ _) ?_
  unfold all_
  rw [List.length_range]
  exact Nat.pow_le_pow_right (by decide) w.g8
theorem step_len {s : Abs} (w : WF s) (c : Kcz6Neutral.Call_) : (Kcz6Neutral.step s c).2.length ≤ 2305 := by
  unfold Kcz6Neutral.step
  dsimp only
  generalize Kcz6Neutral.call c = q
  have key : ∀ y : Ans, (∀ v l, y = .some_ v l → l.length ≤ 2304) → (Kcz6Neutral.tell y).length ≤ 2305 := by
    intro y hy
    cases y with
    | num v => simp [Kcz6Neutral.tell]
    | some_ v l =>
      have := hy v l rfl
      simp [Kcz6Neutral.tell, Kcz6Neutral.nums]
      omega
  apply key
  intro v l h
  cases q with
  | begin_ n => unfold Kcz6.step at h; dsimp only at h; split at h <;> cases h
  | gate k x y => unfold Kcz6.step at h; dsimp only at h; repeat' split at h
                  all_goals cases h
  | test i => unfold Kcz6.step at h; dsimp only at h; repeat' split at h
              all_goals cases h
  | seen k x v => unfold Kcz6.step at h; dsimp only at h; repeat' split at h
                  all_goals cases h
  | explains d => unfold Kcz6.step at h; dsimp only at h; split at h <;> cases h
  | least => unfold Kcz6.step at h; dsimp only at h; cases h; exact order_len w _
  | suspects => unfold Kcz6.step at h; dsimp only at h; cases h; exact order_len w _
  | sure => unfold Kcz6.step at h; dsimp only at h; cases h; simp
  | may d k x => unfold Kcz6.step at h; dsimp only at h; repeat' split at h
                 all_goals cases h
  | next k => unfold Kcz6.step at h; dsimp only at h; repeat' split at h
              all_goals first | (cases h; simp; done) | cases h
/-- between two calls: what is behind, what is still to come -/
structure Go (l : List Int) (at_ : Nat) (s : Abs) (out : List Int) : Prop where
  le : at_ ≤ l.length
  wf : WF s
  eq : ∃ f cs, PyFlat.calls PyKcz6.shape f (l.drop at_) = some cs ∧ out.length + 2400 * cs.length ≤ 960000 ∧ PyKcz6.answers l = out ++ PyFlat.told (PyFlat.played Kcz6Neutral.step s cs)
theorem Go.start {l : List Int} (h : PyKcz6.answers_asked l = true) : Go l 0 Kcz6.first [] := by
  unfold PyKcz6.answers_asked PyKcz6.calls at h
  refine ⟨Nat.zero_le _, WF.first, ?_⟩
  unfold PyKcz6.answers PyKcz6.calls
  cases hc : PyFlat.calls PyKcz6.shape l.length l with
  | none => rw [hc] at h; cases h
  | some cs =>
    rw [hc] at h
    dsimp only at h
    rw [map_whole, Bool.and_eq_true] at h
    refine ⟨l.length, cs, by rw [List.drop_zero]; exact hc, by have := of_decide_eq_true h.1; simp; omega, ?_⟩
    dsimp only
    rw [map_whole]
    rfl
theorem Go.fin {l : List Int} {s : Abs} {out : List Int} (g : Go l l.length s out) : PyKcz6.answers l = out := by
  obtain ⟨f, cs, h, _, e⟩ := g.eq
  rw [List.drop_length] at h
  have : cs = [] := by
    cases f <;> exact (Option.some.inj h).symm
  subst this
  rw [e]
  simp [PyFlat.played, PyFlat.told]
theorem Go.room {l : List Int} {at_ : Nat} {s : Abs} {out : List Int} (g : Go l at_ s out) : out.length ≤ 960000 := by
  obtain ⟨f, cs, _, h, _⟩ := g.eq
  omega
theorem Go.turn {l : List Int} {at_ : Nat} {s : Abs} {out : List Int} (g : Go l at_ s out) (h : at_ < l.length) : ∃ p, l[at_]? = some p ∧ 0 ≤ p ∧ p ≤ 9 ∧ at_ + 1 + argn p ≤ l.length ∧
    Go l (at_ + 1 + argn p) (Kcz6Neutral.step s [p :: (l.drop (at_ + 1)).take (argn p)]).1
      (out ++ ((Kcz6Neutral.step s [p :: (l.drop (at_ + 1)).take (argn p)]).2.length : Int) :: (Kcz6Neutral.step s [p :: (l.drop (at_ + 1)).take (argn p)]).2) := by
  obtain ⟨f, cs, hc, hl, e⟩ := g.eq
  rw [List.drop_eq_getElem_cons h] at hc
  obtain ⟨f', cs', h0, h9, hn, ec, hq⟩ := calls_cons hc
  refine ⟨l[at_], List.getElem?_eq_getElem h, h0, h9, by rw [List.length_drop] at hn; omega, ⟨by rw [List.length_drop] at hn; omega, g.wf.step _, f', cs', ?_, ?_, ?_⟩⟩
  · rw [List.drop_drop] at hq
    exact hq
  · rw [ec, List.length_cons] at hl
    have := step_len g.wf [l[at_] :: (l.drop (at_ + 1)).take (argn l[at_])]
    simp only [List.length_append, List.length_cons]
    omega
  · rw [e, ec]
    simp [PyFlat.played, PyFlat.told]
end FF

namespace FF
open Kcz6
/-! ### sets of at most eight gates as numbers -/
theorem within_iff {x y : Nat} : within x y = true ↔ ∀ k, k < 8 → bit x k = true → bit y k = true := by
  unfold within
  rw [List.all_eq_true]
  constructor
  · intro h k hk hx
    have := h k (List.mem_range.mpr hk)
    rw [hx] at this
    exact this
  · intro h k hk
    cases hx : bit x k with
    | false => rfl
    | true => rw [h k (List.mem_range.mp hk) hx]; rfl
theorem within_or {x y : Nat} (hx : x < 256) : within x y = true ↔ x ||| y = y := by
  rw [within_iff, or_sub (n := 8) hx]
theorem or_le {x y : Nat} (h : x ||| y = y) : x ≤ y := by
  rw [← h]
  exact Nat.left_le_or
theorem within_le {x y : Nat} (hx : x < 256) (h : within x y = true) : x ≤ y := or_le ((within_or hx).mp h)
theorem within_refl (x : Nat) : within x x = true := within_iff.mpr fun _ _ h => h
theorem within_trans {x y z : Nat} (h1 : within x y = true) (h2 : within y z = true) : within x z = true :=
  within_iff.mpr fun k hk h => within_iff.mp h2 k hk (within_iff.mp h1 k hk h)
theorem within_antisymm {x y : Nat} (hx : x < 256) (hy : y < 256) (h1 : within x y = true) (h2 : within y x = true) : x = y :=
  Nat.le_antisymm (within_le hx h1) (within_le hy h2)
theorem within_and {x y : Nat} (hx : x < 256) : within x y = true ↔ x &&& y = x := by
  rw [within_or hx]
  constructor
  · intro h
    apply Nat.eq_of_testBit_eq
    intro i
    have := congrArg (fun z => z.testBit i) h
    simp only [Nat.testBit_or, Nat.testBit_and] at this ⊢
    cases h1 : x.testBit i <;> cases h2 : y.testBit i <;> simp_all
  · intro h
    apply Nat.eq_of_testBit_eq
    intro i
    have := congrArg (fun z => z.testBit i) h
    simp only [Nat.testBit_or, Nat.testBit_and] at this ⊢
    cases h1 : x.testBit i <;> cases h2 : y.testBit i <;> simp_all
theorem bits_eq {x y : Nat} (hx : x < 256) (hy : y < 256) (h : ∀ k, k < 8 → bit x k = bit y k) : x = y :=
  within_antisymm hx hy (within_iff.mpr fun k hk q => by rw [← h k hk]; exact q) (within_iff.mpr fun k hk q => by rw [h k hk]; exact q)
theorem filter_lt {α : Type} {p q : α → Bool} : ∀ {l : List α}, (∀ a ∈ l, p a = true → q a = true) → (∃ a ∈ l, p a = false ∧ q a = true) → (l.filter p).length < (l.filter q).length
  | [], _, ⟨a, h, _⟩ => by simp at h
  | b :: r, h, ⟨a, ha, h1, h2⟩ => by
    have hb := h b List.mem_cons_self
    have hr : ∀ a ∈ r, p a = true → q a = true := fun a ha => h a (List.mem_cons_of_mem _ ha)
    have le : (r.filter p).length ≤ (r.filter q).length := by
      clear h hb ha
      induction r with
      | nil => exact Nat.le_refl _
      | cons c r ih =>
        have ih := ih fun a ha => hr a (List.mem_cons_of_mem _ ha)
        rw [List.filter_cons, List.filter_cons]
        by_cases hp : p c = true
        · rw [if_pos hp, if_pos (hr c List.mem_cons_self hp)]
          simp only [List.length_cons]
          omega
        · rw [if_neg hp]
          by_cases hq : q c = true
          · rw [if_pos hq, List.length_cons]; omega
          · rw [if_neg hq]; exact ih
    rw [List.filter_cons, List.filter_cons]
    rcases List.mem_cons.mp ha with e | e
    · subst e
      rw [if_neg (by rw [h1]; decide), if_pos h2, List.length_cons]
      omega
    · have ih := filter_lt hr ⟨a, e, h1, h2⟩
      by_cases hp : p b = true
      · rw [if_pos hp, if_pos (hb hp), List.length_cons, List.length_cons]; omega
      · rw [if_neg hp]
        by_cases hq : q b = true
        · rw [if_pos hq, List.length_cons]; omega
        · rw [if_neg hq]; exact ih
theorem ones_lt {x y : Nat} (hx : x < 256) (hy : y < 256) (h : within x y = true) (ne : x ≠ y) : ones x < ones y := by
  unfold ones
  refine filter_lt (fun k hk q => within_iff.mp h k (List.mem_range.mp hk) q) ?_
  have : ∃ k, k < 8 ∧ bit x k = false ∧ bit y k = true := by
    refine Classical.byContradiction fun hn => ne (bits_eq hx hy fun k hk => ?_)
    cases h1 : bit x k with
    | true => exact (within_iff.mp h k hk h1).symm
    | false =>
      cases h2 : bit y k with
      | false => rfl
      | true => exact (hn ⟨k, hk, h1, h2⟩).elim
  obtain ⟨k, hk, h1, h2⟩ := this
  exact ⟨k, List.mem_range.mpr hk, h1, h2⟩
theorem ones_le8 (x : Nat) : ones x ≤ 8 := by
  unfold ones
  exact Nat.le_trans (List.length_filter_le _ _) (by simp [GATES])
/-! ### least ones -/
/-- x is a least one of those that are P, below m -/
def Least (P : Nat → Bool) (m x : Nat) : Prop := x < m ∧ P x = true ∧ ∀ y, y < m → P y = true → within y x = true → y = x
theorem mem_leasts {P : Nat → Bool} {m x : Nat} : x ∈ leasts ((List.range m).filter P) ↔ Least P m x := by
  unfold leasts Least
  rw [List.mem_filter, List.mem_filter, List.mem_range, List.all_eq_true]
  constructor
  · rintro ⟨⟨h1, h2⟩, h3⟩
    refine ⟨h1, h2, fun y hy hp hw => ?_⟩
    have := h3 y (List.mem_filter.mpr ⟨List.mem_range.mpr hy, hp⟩)
    rw [hw] at this
    exact eq_of_beq (by simpa using this)
  · rintro ⟨h1, h2, h3⟩
    refine ⟨⟨h1, h2⟩, fun y hy => ?_⟩
    obtain ⟨hy1, hy2⟩ := List.mem_filter.mp hy
    cases hw : within y x with
    | false => rfl
    | true => rw [h3 y (List.mem_range.mp hy1) hy2 hw]; simp
/-- below each that is P there is a least one -/
theorem exists_least {P : Nat → Bool} {m : Nat} (hm : m ≤ 256) : ∀ (n x : Nat), ones x ≤ n → x < m → P x = true → ∃ y, Least P m y ∧ within y x = true
  | n, x, hn, hx, hp => by
    by_cases h : ∃ y, y < m ∧ P y = true ∧ within y x = true ∧ y ≠ x
    · obtain ⟨y, hy, py, wy, ne⟩ := h
      have lt := ones_lt (by omega) (by omega) wy ne
      cases n with
      | zero => omega
      | succ n =>
        obtain ⟨z, hz, wz⟩ := exists_least hm n y (by omega) hy py
        exact ⟨z, hz, within_trans wz wy⟩
    · refine ⟨x, ⟨hx, hp, fun y hy py wy => Classical.byContradiction fun ne => h ⟨y, hy, py, wy, ne⟩⟩, within_refl x⟩
/-- the least ones in their order: fewer first, of like ones the lesser -/
theorem order_eq {a : Abs} {P Q : Nat → Bool} (h : ∀ x, x < 2 ^ a.gates.length → (Q x = true ↔ Least P (2 ^ a.gates.length) x)) :
    order a (leasts ((all_ a).filter P)) = (List.range 9).flatMap fun n => (List.range (2 ^ a.gates.length)).filter fun x => Q x && ones x == n := by
  unfold order all_
  show (List.range 9).flatMap _ = _
  congr 1
  funext n
  refine List.filter_congr fun x hx => ?_
  congr 1
  rw [Bool.eq_iff_iff, h x (List.mem_range.mp hx), ← mem_leasts, List.contains_iff_mem]
/-! ### more broken explain more -/
theorem explains_mono {a : Abs} {d d' : Nat} (h : d ||| d' = d') (e : explains a d = true) : explains a d' = true := by
  unfold explains at e ⊢
  rw [List.all_eq_true] at e ⊢
  intro t ht
  have := e t ht
  rw [waysOf_empty] at this ⊢
  cases hp : pwith a.gates t d with
  | nil => rw [hp] at this; cases this
  | cons y r =>
    have hy : y ∈ pwith a.gates t d := by rw [hp]; exact List.mem_cons_self
    obtain ⟨h1, h2⟩ := List.mem_filter.mp hy
    have hd : y.1 ||| d = d := of_decide_eq_true h2
    have : y ∈ pwith a.gates t d' := List.mem_filter.mpr ⟨h1, decide_eq_true (by rw [← h, ← Nat.or_assoc, hd])⟩
    cases hq : pwith a.gates t d' with
    | nil => rw [hq] at this; simp at this
    | cons z s => rfl
theorem may_eq {a : Abs} {d : Nat} {t : Test} {w : Nat} (hl : t.inputs.length = a.inputs) :
    may a d t w = (if (pwith a.gates t d).any (fun y => !(y.2.getD w false)) then 1 else 0) + (if (pwith a.gates t d).any (fun y => y.2.getD w false) then 2 else 0) := by
  unfold may
  dsimp only
  rw [waysOf_any hl (fun b => !b), waysOf_any hl (fun b => b)]
end FF

namespace FF
open Kcz6
/-! ### parts of a set that lack one gate -/
def gatesOf (m : Nat) : List Nat := (List.range 8).filter (bit m)
def partsOf (m : Nat) : List Nat := (gatesOf m).map fun k => m ^^^ 2 ^ k
theorem ones_gates (m : Nat) : (gatesOf m).length = ones m := rfl
theorem mem_gates {m k : Nat} : k ∈ gatesOf m ↔ k < 8 ∧ bit m k = true := by
  unfold gatesOf
  rw [List.mem_filter, List.mem_range]
theorem bit_flip {m k j : Nat} : bit (m ^^^ 2 ^ k) j = (bit m j != decide (k = j)) := by
  rw [bit_eq, bit_eq, Nat.testBit_xor, Nat.testBit_two_pow]
theorem pow_le256 {n : Nat} (h : n ≤ 8) : 2 ^ n ≤ 256 := Nat.pow_le_pow_right (n := 2) (by decide) h
theorem flip_within {m k : Nat} (h : bit m k = true) : within (m ^^^ 2 ^ k) m = true := by
  rw [within_iff]
  intro j hj
  rw [bit_flip]
  by_cases e : k = j
  · subst e; rw [h]; intro _; rfl
  · rw [decide_eq_false e]; cases bit m j <;> simp
theorem flip_lt {m k : Nat} (hm : m < 256) (hk : k < 8) : m ^^^ 2 ^ k < 256 :=
  Nat.xor_lt_two_pow (n := 8) hm (Nat.pow_lt_pow_right (by decide) hk)
theorem part_lt {m k : Nat} (hm : m < 256) (hk : k < 8) (h : bit m k = true) : m ^^^ 2 ^ k < m := by
  have h1 := within_le (flip_lt hm hk) (flip_within h)
  have h2 : m ^^^ 2 ^ k ≠ m := fun e => by
    have := bit_flip (m := m) (k := k) (j := k)
    rw [e, h] at this
    simp at this
  omega
theorem parts_lt {m p : Nat} (hm : m < 256) (h : p ∈ partsOf m) : p < m := by
  obtain ⟨k, hk, rfl⟩ := List.mem_map.mp h
  obtain ⟨h1, h2⟩ := mem_gates.mp hk
  exact part_lt hm h1 h2
theorem parts_within {m p : Nat} (h : p ∈ partsOf m) : within p m = true := by
  obtain ⟨k, hk, rfl⟩ := List.mem_map.mp h
  exact flip_within (mem_gates.mp hk).2
/-- a smaller part lies within one that lacks one gate -/
theorem within_part {x y : Nat} (hx : x < 256) (hy : y < 256) (h : within x y = true) (ne : x ≠ y) : ∃ p, p ∈ partsOf y ∧ within x p = true := by
  have : ∃ k, k < 8 ∧ bit x k = false ∧ bit y k = true := by
    refine Classical.byContradiction fun hn => ne (bits_eq hx hy fun k hk => ?_)
    cases h1 : bit x k with
    | true => exact (within_iff.mp h k hk h1).symm
    | false =>
      cases h2 : bit y k with
      | false => rfl
      | true => exact (hn ⟨k, hk, h1, h2⟩).elim
  obtain ⟨k, hk, h1, h2⟩ := this
  refine ⟨y ^^^ 2 ^ k, List.mem_map.mpr ⟨k, mem_gates.mpr ⟨hk, h2⟩, rfl⟩, within_iff.mpr fun j hj q => ?_⟩
  rw [bit_flip, within_iff.mp h j hj q]
  by_cases e : k = j
  · subst e; rw [h1] at q; cases q
  · rw [decide_eq_false e]; rfl
/-! ### the least ones, by the parts that lack one gate -/
def leastQ (P : Nat → Bool) (x : Nat) : Bool := P x && !((partsOf x).any P)
theorem leastQ_iff {P : Nat → Bool} {n x : Nat} (hn : n ≤ 8) (up : ∀ x y, x < 2 ^ n → y < 2 ^ n → within x y = true → P x = true → P y = true) (hx : x < 2 ^ n) : leastQ P x = true ↔ Least P (2 ^ n) x := by
  have h256 := pow_le256 hn
  unfold leastQ Least
  rw [Bool.and_eq_true, Bool.not_eq_true', List.any_eq_false]
  constructor
  · rintro ⟨h1, h2⟩
    refine ⟨hx, h1, fun y hy py wy => Classical.byContradiction fun ne => ?_⟩
    obtain ⟨p, hp, wp⟩ := within_part (by omega) (by omega) wy ne
    have := parts_lt (by omega) hp
    exact h2 p hp (up y p hy (by omega) wp py)
  · rintro ⟨_, h1, h2⟩
    refine ⟨h1, fun p hp q => ?_⟩
    have hlt := parts_lt (by omega) hp
    have := h2 p (by omega) q (parts_within hp)
    omega
/-- fewer first, the order kept among like ones -/
def sortL (l : List Nat) : List Nat := (List.range 9).flatMap fun n => l.filter fun x => ones x == n
theorem least_order {a : Abs} {P : Nat → Bool} (hn : a.gates.length ≤ 8) (up : ∀ x y, x < 2 ^ a.gates.length → y < 2 ^ a.gates.length → within x y = true → P x = true → P y = true) :
    sortL ((List.range (2 ^ a.gates.length)).filter (leastQ P)) = order a (leasts ((all_ a).filter P)) := by
  rw [order_eq (Q := leastQ P) fun x hx => leastQ_iff hn up hx]
  unfold sortL
  congr 1
  funext n
  rw [List.filter_filter]
  refine List.filter_congr fun x _ => Bool.and_comm _ _
/-- a list in the order of a key that is below m is its rows by the key, one behind another -/
theorem rows_of (key : Nat → Nat) : ∀ (m : Nat) (l : List Nat), l.Pairwise (fun x y => key x ≤ key y) → (∀ x ∈ l, key x < m) → (List.range m).flatMap (fun n => l.filter fun x => key x == n) = l
  | 0, l, _, h => by
    cases l with
    | nil => rfl
    | cons a r => exact absurd (h a (by simp)) (by omega)
  | m + 1, l, hp, h => by
    rw [List.range_succ, List.flatMap_append]
    have split : ∃ a b : List Nat, l = a ++ b ∧ (∀ x ∈ a, key x < m) ∧ ∀ x ∈ b, key x = m := by
      induction l with
      | nil => exact ⟨[], [], rfl, by simp, by simp⟩
      | cons x r ih =>
        have hr := List.pairwise_cons.mp hp
        obtain ⟨a, b, e, ha, hb⟩ := ih hr.2 fun y hy => h y (by simp [hy])
        have hx : key x < m + 1 := h x (by simp)
        by_cases hk : key x < m
        · exact ⟨x :: a, b, by rw [e]; rfl, fun y hy => by
            rcases List.mem_cons.mp hy with z | z
            · rw [z]; exact hk
            · exact ha y z, hb⟩
        · refine ⟨[], x :: r, rfl, by simp, fun y hy => ?_⟩
          rcases List.mem_cons.mp hy with z | z
          · rw [z]; omega
          · have h1 := hr.1 y z
            have h2 : key y < m + 1 := h y hy
            omega
    obtain ⟨a, b, rfl, ha, hb⟩ := split
    have e1 : (List.range m).flatMap (fun n => (a ++ b).filter fun x => key x == n) = a := by
      have ih := rows_of key m a (List.pairwise_append.mp hp).1 ha
      rw [← ih]
      refine congrArg List.flatten (List.map_congr_left fun n hn => ?_)
      rw [ih, List.filter_append]
      have : b.filter (fun x => key x == n) = [] := by
        rw [List.filter_eq_nil_iff]
        intro x hx
        have := hb x hx
        have := List.mem_range.mp hn
        simp; omega
      rw [this, List.append_nil]
    rw [e1]
    congr 1
    rw [List.flatMap_cons, List.flatMap_nil, List.append_nil, List.filter_append]
    have e2 : a.filter (fun x => key x == m) = [] := by
      rw [List.filter_eq_nil_iff]
      intro x hx
      have := ha x hx
      simp; omega
    have e3 : b.filter (fun x => key x == m) = b := by
      rw [List.filter_eq_self]
      intro x hx
      simp [hb x hx]
    rw [e2, e3, List.nil_append]
theorem sortL_of {l ys : List Nat} (hp : ys.Pairwise fun x y => ones x ≤ ones y) (hs : ∀ n, ys.filter (fun x => ones x == n) = l.filter fun x => ones x == n) : ys = sortL l := by
  rw [← rows_of ones 9 ys hp fun x _ => by have := ones_le8 x; omega]
  unfold sortL
  congr 1
  funext n
  exact hs n
end FF

namespace FF
open Kcz6
/-! ### explaining: for each set which tests it explains, all sets at once -/
/-- the wrong gates of each test's ways -/
def wrongs (a : Abs) : List (List Nat) := a.tests.map fun t => (pways a.gates t).map Prod.fst
/-- some way of test t needs just these gates, or fewer -/
def hitEq (wr : List (List Nat)) (m t : Nat) : Bool := (wr.getD t []).contains m
def hitSub (wr : List (List Nat)) (m t : Nat) : Bool := (wr.getD t []).any fun w => within w m
theorem hitSub_iff {wr : List (List Nat)} {m t : Nat} : hitSub wr m t = true ↔ ∃ w, w ∈ wr.getD t [] ∧ within w m = true := by
  unfold hitSub
  rw [List.any_eq_true]
theorem hitEq_iff {wr : List (List Nat)} {m t : Nat} : hitEq wr m t = true ↔ m ∈ wr.getD t [] := by
  unfold hitEq
  rw [List.contains_iff_mem]
theorem hitSub_step {wr : List (List Nat)} {m t : Nat} (hm : m < 256) (hw : ∀ l ∈ wr, ∀ w ∈ l, w < 256) : hitSub wr m t = (hitEq wr m t || (partsOf m).any fun p => hitSub wr p t) := by
  rw [Bool.eq_iff_iff, Bool.or_eq_true, List.any_eq_true, hitSub_iff, hitEq_iff]
  have hlt : ∀ w, w ∈ wr.getD t [] → w < 256 := fun w h => by
    rw [List.getD] at h
    cases e : wr[t]? with
    | none => rw [e] at h; simp at h
    | some l => rw [e] at h; exact hw l (List.mem_of_getElem? e) w h
  constructor
  · rintro ⟨w, h1, h2⟩
    by_cases e : w = m
    · subst e; exact .inl h1
    · obtain ⟨p, hp, wp⟩ := within_part (hlt w h1) hm h2 e
      exact .inr ⟨p, hp, hitSub_iff.mpr ⟨w, h1, wp⟩⟩
  · rintro (h | ⟨p, hp, h⟩)
    · exact ⟨m, h, within_refl m⟩
    · obtain ⟨w, h1, h2⟩ := hitSub_iff.mp h
      exact ⟨w, h1, within_trans h2 (parts_within hp)⟩
/-- the numbers' bits are as F tells -/
def Bits (N : Nat) (e : List Nat) (F : Nat → Nat → Bool) : Prop := e.length = N ∧ ∀ m, m < N → ∀ t, (e.getD m 0).testBit t = F m t
theorem Bits.congr {N : Nat} {e : List Nat} {F G : Nat → Nat → Bool} (h : Bits N e F) (q : ∀ m, m < N → ∀ t, F m t = G m t) : Bits N e G := ⟨h.1, fun m hm t => (h.2 m hm t).trans (q m hm t)⟩
theorem Bits.zero {N : Nat} : Bits N (List.replicate N 0) fun _ _ => false := ⟨by simp, fun m hm t => by
  rw [List.getD, List.getElem?_replicate, if_pos hm]; simp⟩
theorem Bits.set {N : Nat} {e : List Nat} {F : Nat → Nat → Bool} {w v : Nat} (h : Bits N e F) (hw : w < N) : Bits N (e.set w (e.getD w 0 ||| v)) fun m t => F m t || (decide (m = w) && v.testBit t) := by
  refine ⟨by rw [List.length_set]; exact h.1, fun m hm t => ?_⟩
  by_cases e1 : m = w
  · subst e1
    rw [List.getD, List.getElem?_set_self (by rw [h.1]; exact hw)]
    show (e.getD m 0 ||| v).testBit t = _
    rw [Nat.testBit_or, h.2 m hm t]
    simp
  · rw [List.getD, List.getElem?_set_ne (fun z => e1 z.symm)]
    show (e.getD m 0).testBit t = _
    rw [h.2 m hm t]
    simp [e1]
/-- while the tests are gone through: i tests, and j ways of the next -/
def fst1 (wr : List (List Nat)) (i j m t : Nat) : Bool := if t < i then hitEq wr m t else if t = i then ((wr.getD i []).take j).contains m else false
theorem fst1_next {wr : List (List Nat)} {i j w : Nat} (h : (wr.getD i [])[j]? = some w) (m t : Nat) : (fst1 wr i j m t || (decide (m = w) && (2 ^ i).testBit t)) = fst1 wr i (j + 1) m t := by
  unfold fst1
  have e : (wr.getD i []).take (j + 1) = (wr.getD i []).take j ++ [w] := by
    rw [List.take_add_one, h]; rfl
  rw [e, Nat.testBit_two_pow]
  by_cases h1 : t < i
  · have : ¬ i = t := by omega
    simp [h1, this]
  · by_cases h2 : t = i
    · subst h2
      simp [List.contains_eq_mem, Bool.decide_or]
    · have : ¬ i = t := by omega
      simp [h1, h2, this]
theorem fst1_turn {wr : List (List Nat)} {i : Nat} (m t : Nat) : fst1 wr i (wr.getD i []).length m t = fst1 wr (i + 1) 0 m t := by
  unfold fst1 hitEq
  rw [List.take_length]
  by_cases h1 : t < i
  · have : t < i + 1 := by omega
    simp [h1, this]
  · by_cases h2 : t = i
    · subst h2; simp
    · have h3 : ¬ t < i + 1 := by omega
      rw [if_neg h1, if_neg h2, if_neg h3]
      split
      · simp
      · rfl
theorem fst1_start {wr : List (List Nat)} (m t : Nat) : fst1 wr 0 0 m t = false := by
  unfold fst1
  rw [if_neg (by omega)]
  split <;> simp
theorem fst1_end {wr : List (List Nat)} (m t : Nat) : fst1 wr wr.length 0 m t = hitEq wr m t := by
  unfold fst1 hitEq
  split
  · rfl
  · rename_i h
    have e : wr.getD t [] = [] := by rw [List.getD, List.getElem?_eq_none (by omega)]; rfl
    rw [e]
    split <;> simp
/-- while the sets are gone through: those below b are told in full, of b the first j parts -/
def snd1 (wr : List (List Nat)) (b j m t : Nat) : Bool := if m < b then hitSub wr m t else if m = b then (hitEq wr m t || ((partsOf b).take j).any fun p => hitSub wr p t) else hitEq wr m t
theorem snd1_next {wr : List (List Nat)} {b j p N : Nat} {e : List Nat} (h : Bits N e (snd1 wr b j)) (hb : b < N) (hp : (partsOf b)[j]? = some p) (hlt : p < b) : Bits N (e.set b (e.getD b 0 ||| e.getD p 0)) (snd1 wr b (j + 1)) := by
  refine (h.set (v := e.getD p 0) hb).congr fun m hm t => ?_
  rw [h.2 p (by omega) t]
  have e0 : (partsOf b).take (j + 1) = (partsOf b).take j ++ [p] := by
    rw [List.take_add_one, hp]; rfl
  unfold snd1
  rw [if_pos hlt, e0]
  by_cases h1 : m < b
  · have : ¬ m = b := by omega
    simp [h1, this]
  · by_cases h2 : m = b
    · subst h2
      simp [Bool.or_assoc]
    · simp [h1, h2]
theorem snd1_turn {wr : List (List Nat)} {b N : Nat} {e : List Nat} (h : Bits N e (snd1 wr b (partsOf b).length)) (hN : N ≤ 256) (hw : ∀ l ∈ wr, ∀ w ∈ l, w < 256) : Bits N e (snd1 wr (b + 1) 0) := by
  refine h.congr fun m hm t => ?_
  unfold snd1
  rw [List.take_length]
  by_cases h1 : m < b
  · have : m < b + 1 := by omega
    simp [h1, this]
  · by_cases h2 : m = b
    · subst h2
      rw [if_neg h1, if_pos rfl, if_pos (by omega), hitSub_step (by omega) hw]
    · rw [if_neg h1, if_neg h2, if_neg (by omega)]
      split <;> simp
theorem snd1_start {wr : List (List Nat)} (m t : Nat) : snd1 wr 0 0 m t = hitEq wr m t := by
  unfold snd1
  rw [if_neg (by omega)]
  split <;> simp
theorem snd1_end {wr : List (List Nat)} {N : Nat} {e : List Nat} (h : Bits N e (snd1 wr N 0)) : Bits N e (hitSub wr) :=
  h.congr fun m hm t => by unfold snd1; rw [if_pos hm]
theorem wrongs_lt {a : Abs} (hn : a.gates.length ≤ 8) : ∀ l ∈ wrongs a, ∀ w ∈ l, w < 256 := fun l hl w hw => by
  obtain ⟨t, _, rfl⟩ := List.mem_map.mp hl
  obtain ⟨y, hy, rfl⟩ := List.mem_map.mp hw
  have := (mem_pways.mp hy).1
  have := pow_le256 hn
  omega
theorem hitSub_explains {a : Abs} (hn : a.gates.length ≤ 8) {m t : Nat} {τ : Test} (h : a.tests[t]? = some τ) : hitSub (wrongs a) m t = !(waysOf a m τ).isEmpty := by
  have e : (wrongs a).getD t [] = (pways a.gates τ).map Prod.fst := by
    unfold wrongs
    rw [List.getD, List.getElem?_map, h]; rfl
  rw [waysOf_empty, Bool.eq_iff_iff, hitSub_iff, e]
  have h8 := pow_le256 hn
  constructor
  · rintro ⟨w, hw, q⟩
    obtain ⟨y, hy, rfl⟩ := List.mem_map.mp hw
    have hlt := (mem_pways.mp hy).1
    have hm : y ∈ pwith a.gates τ m := List.mem_filter.mpr ⟨hy, decide_eq_true ((within_or (by omega)).mp q)⟩
    cases hp : pwith a.gates τ m with
    | nil => rw [hp] at hm; simp at hm
    | cons z s => rfl
  · intro q
    cases hp : pwith a.gates τ m with
    | nil => rw [hp] at q; cases q
    | cons z s =>
      have hz : z ∈ pwith a.gates τ m := by rw [hp]; exact List.mem_cons_self
      obtain ⟨h1, h2⟩ := List.mem_filter.mp hz
      have hlt := (mem_pways.mp h1).1
      exact ⟨z.1, List.mem_map.mpr ⟨z, h1, rfl⟩, (within_or (by omega)).mpr (of_decide_eq_true h2)⟩
theorem ones_eq_all {e T : Nat} {F : Nat → Bool} (h : ∀ t, e.testBit t = F t) (hz : ∀ t, T ≤ t → F t = false) : decide (e = 2 ^ T - 1) = (List.range T).all F := by
  rw [Bool.eq_iff_iff, decide_eq_true_iff, List.all_eq_true]
  constructor
  · intro q t ht
    rw [← h t, q, Nat.testBit_two_pow_sub_one]
    exact decide_eq_true (List.mem_range.mp ht)
  · intro q
    apply Nat.eq_of_testBit_eq
    intro t
    rw [h t, Nat.testBit_two_pow_sub_one]
    by_cases ht : t < T
    · rw [q t (List.mem_range.mpr ht), decide_eq_true ht]
    · rw [hz t (by omega), decide_eq_false ht]
theorem explains_bits {a : Abs} (hn : a.gates.length ≤ 8) {e m : Nat} (h : ∀ t, e.testBit t = hitSub (wrongs a) m t) : decide (e = 2 ^ a.tests.length - 1) = explains a m := by
  rw [ones_eq_all h fun t ht => ?_]
  · unfold explains
    rw [Bool.eq_iff_iff, List.all_eq_true, List.all_eq_true]
    constructor
    · intro q τ hτ
      obtain ⟨t, ht, rfl⟩ := List.getElem_of_mem hτ
      rw [← hitSub_explains hn (List.getElem?_eq_getElem ht)]
      exact q t (List.mem_range.mpr ht)
    · intro q t ht
      have ht := List.mem_range.mp ht
      rw [hitSub_explains hn (List.getElem?_eq_getElem ht)]
      exact q _ (List.getElem_mem ht)
  · unfold hitSub wrongs
    rw [List.getD, List.getElem?_eq_none (by rw [List.length_map]; exact ht)]
    rfl
/-- what explaining answers -/
def explL (a : Abs) : List Bool := (List.range (2 ^ a.gates.length)).map (explains a)
theorem expl_of {a : Abs} (hn : a.gates.length ≤ 8) {e : List Nat} (h : Bits (2 ^ a.gates.length) e (hitSub (wrongs a))) : e.map (fun x => decide (x = 2 ^ a.tests.length - 1)) = explL a := by
  apply List.ext_getElem?
  intro m
  unfold explL
  rw [List.getElem?_map, List.getElem?_map]
  by_cases hm : m < 2 ^ a.gates.length
  · rw [List.getElem?_range hm, List.getElem?_eq_getElem (by rw [h.1]; exact hm)]
    refine congrArg some (explains_bits hn fun t => ?_)
    have := h.2 m hm t
    rw [List.getD, List.getElem?_eq_getElem (by rw [h.1]; exact hm)] at this
    exact this
  · rw [List.getElem?_eq_none (by rw [h.1]; omega), List.getElem?_eq_none (by rw [List.length_range]; omega)]
    rfl
theorem explL_len (a : Abs) : (explL a).length = 2 ^ a.gates.length := by unfold explL; rw [List.length_map, List.length_range]
theorem explL_at {a : Abs} {m : Nat} (h : m < 2 ^ a.gates.length) : (explL a)[m]? = some (explains a m) := by
  unfold explL
  rw [List.getElem?_map, List.getElem?_range h]; rfl
theorem explains_up {a : Abs} (hn : a.gates.length ≤ 8) : ∀ x y, x < 2 ^ a.gates.length → y < 2 ^ a.gates.length → within x y = true → explains a x = true → explains a y = true := fun x y hx _ h q =>
  explains_mono ((within_or (by have := pow_le256 hn; omega)).mp h) q
/-! ### what least_of answers of a list of answers -/
def lessL (f : List Bool) : List Nat := sortL ((List.range f.length).filter (leastQ fun x => f.getD x false))
theorem lessL_map {N : Nat} (P : Nat → Bool) (hN : N ≤ 256) : lessL ((List.range N).map P) = sortL ((List.range N).filter (leastQ P)) := by
  unfold lessL
  rw [List.length_map, List.length_range]
  congr 1
  refine List.filter_congr fun x hx => ?_
  have hx := List.mem_range.mp hx
  have hg : ∀ y, y < N → ((List.range N).map P).getD y false = P y := fun y hy => by
    rw [List.getD, List.getElem?_map, List.getElem?_range hy]; rfl
  unfold leastQ
  dsimp only
  rw [hg x hx]
  congr 2
  rw [Bool.eq_iff_iff, List.any_eq_true, List.any_eq_true]
  constructor
  · rintro ⟨p, hp, q⟩
    rw [hg p (by have := parts_lt (by omega) hp; omega)] at q
    exact ⟨p, hp, q⟩
  · rintro ⟨p, hp, q⟩
    exact ⟨p, hp, by rw [hg p (by have := parts_lt (by omega) hp; omega)]; exact q⟩
theorem least_eq {a : Abs} (hn : a.gates.length ≤ 8) : lessL (explL a) = diagnoses a := by
  unfold explL diagnoses
  rw [lessL_map _ (pow_le256 hn), least_order hn (explains_up hn)]
theorem xor_others {n c : Nat} (h : c < 2 ^ n) : (2 ^ n - 1) ^^^ c = 2 ^ n - 1 - c := by
  apply Nat.eq_of_testBit_eq
  intro i
  rw [Nat.testBit_xor, Nat.testBit_two_pow_sub_one, show 2 ^ n - 1 - c = 2 ^ n - (c + 1) by omega, Nat.testBit_two_pow_sub_succ h]
  by_cases hi : i < n
  · simp [hi]
  · simp [hi, Nat.testBit_lt_two_pow (Nat.lt_of_lt_of_le h (Nat.pow_le_pow_right (by decide) (Nat.le_of_not_lt hi)))]
theorem others_lt {a : Abs} {c : Nat} : others a c < 2 ^ a.gates.length := by
  unfold others
  have : 0 < 2 ^ a.gates.length := Nat.pow_pos (by decide)
  omega
theorem others_within {a : Abs} {x y : Nat} (hn : a.gates.length ≤ 8) (hx : x < 2 ^ a.gates.length) (hy : y < 2 ^ a.gates.length) (h : within x y = true) : within (others a y) (others a x) = true := by
  rw [within_iff]
  intro k hk
  unfold others
  rw [← xor_others hx, ← xor_others hy, bit_eq, bit_eq, Nat.testBit_xor, Nat.testBit_xor, ← bit_eq x, ← bit_eq y]
  have := within_iff.mp h k hk
  have hy2 : bit y k = true → (2 ^ a.gates.length - 1).testBit k = true := fun q => by
    rw [Nat.testBit_two_pow_sub_one]
    refine decide_eq_true (Classical.byContradiction fun z => ?_)
    rw [bit_eq, Nat.testBit_lt_two_pow (Nat.lt_of_lt_of_le hy (Nat.pow_le_pow_right (by decide) (Nat.le_of_not_lt z)))] at q
    cases q
  cases h1 : bit x k <;> cases h2 : bit y k <;> cases h3 : (2 ^ a.gates.length - 1).testBit k <;> simp_all
def suspL (a : Abs) : List Bool := (List.range (2 ^ a.gates.length)).map fun c => !explains a (others a c)
theorem suspects_eq {a : Abs} (hn : a.gates.length ≤ 8) : lessL (suspL a) = Kcz6.suspects a := by
  unfold suspL Kcz6.suspects
  rw [lessL_map _ (pow_le256 hn), least_order hn]
  intro x y hx hy w q
  cases e : explains a (others a y) with
  | false => rfl
  | true =>
    rw [explains_up hn _ _ others_lt others_lt (others_within hn hx hy w) e] at q
    cases q
end FF

namespace FF
open Kcz6
/-! ### sure -/
theorem fold_and (k : Nat) : ∀ (l : List Nat) (e : Nat), (l.foldl (fun x y => x &&& y) e).testBit k = (e.testBit k && l.all fun x => x.testBit k)
  | [], e => by simp
  | a :: r, e => by rw [List.foldl_cons, fold_and k r, Nat.testBit_and, List.all_cons, Bool.and_assoc]
theorem fold_or (k : Nat) : ∀ (l : List Nat) (e : Nat), (l.foldl (fun x y => x ||| y) e).testBit k = (e.testBit k || l.any fun x => x.testBit k)
  | [], e => by simp
  | a :: r, e => by rw [List.foldl_cons, fold_or k r, Nat.testBit_or, List.any_cons, Bool.or_assoc]
theorem sum_bits (p : Nat → Bool) : ∀ n : Nat, ((List.range n).filter p).foldl (fun s k => s + 2 ^ k) 0 < 2 ^ n ∧ ∀ k, (((List.range n).filter p).foldl (fun s k => s + 2 ^ k) 0).testBit k = (decide (k < n) && p k)
  | 0 => ⟨by simp, fun k => by simp⟩
  | n + 1 => by
    obtain ⟨h1, h2⟩ := sum_bits p n
    rw [List.range_succ, List.filter_append, List.foldl_append]
    cases hp : p n with
    | false =>
      have e : [n].filter p = [] := by rw [List.filter_cons, hp]; rfl
      rw [e, List.foldl_nil]
      refine ⟨by rw [Nat.pow_succ]; omega, fun k => ?_⟩
      rw [h2 k]
      by_cases hk : k = n
      · subst hk; simp [hp]
      · have : decide (k < n) = decide (k < n + 1) := by
          rw [Bool.eq_iff_iff, decide_eq_true_iff, decide_eq_true_iff]; omega
        rw [this]
    | true =>
      have e : [n].filter p = [n] := by rw [List.filter_cons, hp]; rfl
      rw [e, List.foldl_cons, List.foldl_nil]
      refine ⟨by rw [Nat.pow_succ]; omega, fun k => ?_⟩
      rw [Nat.add_comm]
      by_cases hk : k = n
      · subst hk
        rw [Nat.testBit_two_pow_add_eq, h2 k]
        simp [hp]
      · by_cases hlt : k < n
        · rw [Nat.testBit_two_pow_add_gt hlt, h2 k]
          simp [hlt, Nat.lt_succ_of_lt hlt]
        · have hz : (2 ^ n + ((List.range n).filter p).foldl (fun s k => s + 2 ^ k) 0).testBit k = false := by
            refine Nat.testBit_lt_two_pow (Nat.lt_of_lt_of_le ?_ (Nat.pow_le_pow_right (by decide) (show n + 1 ≤ k by omega)))
            rw [Nat.pow_succ]; omega
          rw [hz, decide_eq_false (show ¬ k < n + 1 by omega)]
          rfl
theorem inAll_eq {a : Abs} (hn : a.gates.length ≤ 8) (l : List Nat) : l.foldl (fun x y => x &&& y) (2 ^ a.gates.length - 1) = inAll l % 2 ^ a.gates.length := by
  apply Nat.eq_of_testBit_eq
  intro k
  have h := (sum_bits (fun k => l.all fun x => bit x k) 8).2 k
  rw [fold_and, Nat.testBit_two_pow_sub_one, Nat.testBit_mod_two_pow]
  show _ = (decide (k < a.gates.length) && (((List.range 8).filter fun k => l.all fun x => bit x k).foldl (fun s k => s + 2 ^ k) 0).testBit k)
  rw [h]
  by_cases hk : k < a.gates.length
  · rw [decide_eq_true hk, decide_eq_true (show k < 8 by omega)]
    simp only [Bool.true_and]
    exact congrArg (fun q => l.all q) (funext fun x => (bit_eq x k).symm)
  · rw [decide_eq_false hk]
    rfl
theorem inSome_eq {a : Abs} (hn : a.gates.length ≤ 8) {l : List Nat} (hl : ∀ x ∈ l, x < 2 ^ a.gates.length) : l.foldl (fun x y => x ||| y) 0 = inSome l := by
  apply Nat.eq_of_testBit_eq
  intro k
  have h := (sum_bits (fun k => l.any fun x => bit x k) 8).2 k
  rw [fold_or, Nat.zero_testBit, Bool.false_or]
  show _ = (((List.range 8).filter fun k => l.any fun x => bit x k).foldl (fun s k => s + 2 ^ k) 0).testBit k
  rw [h]
  by_cases hk : k < 8
  · rw [decide_eq_true hk, Bool.true_and]
    exact congrArg (fun q => l.any q) (funext fun x => (bit_eq x k).symm)
  · rw [decide_eq_false hk, Bool.false_and, List.any_eq_false]
    intro x hx
    have h1 := hl x hx
    have h2 := pow_le256 hn
    rw [Nat.testBit_lt_two_pow (Nat.lt_of_lt_of_le (show x < 2 ^ 8 by omega) (Nat.pow_le_pow_right (by decide) (by omega)))]
    decide
theorem or_lt {n : Nat} : ∀ {l : List Nat} {e : Nat}, e < 2 ^ n → (∀ x ∈ l, x < 2 ^ n) → l.foldl (fun x y => x ||| y) e < 2 ^ n
  | [], e, h, _ => h
  | a :: r, e, h, q => by
    rw [List.foldl_cons]
    exact or_lt (Nat.or_lt_two_pow h (q a (by simp))) fun x hx => q x (by simp [hx])
theorem diagnoses_lt {a : Abs} {x : Nat} (h : x ∈ diagnoses a) : x < 2 ^ a.gates.length := by
  unfold diagnoses order at h
  obtain ⟨n, _, h⟩ := List.mem_flatMap.mp h
  have := (List.mem_filter.mp h).1
  unfold all_ at this
  exact List.mem_range.mp this
theorem none_eq {a : Abs} (hn : a.gates.length ≤ 8) : (2 ^ a.gates.length - 1) ^^^ (diagnoses a).foldl (fun x y => x ||| y) 0 = others a (inSome (diagnoses a)) := by
  have hl : ∀ x ∈ diagnoses a, x < 2 ^ a.gates.length := fun x hx => diagnoses_lt hx
  rw [xor_others (or_lt (Nat.pow_pos (by decide)) hl), inSome_eq hn hl]
  rfl
theorem diagnoses_len {a : Abs} (hn : a.gates.length ≤ 8) : (diagnoses a).length ≤ 2304 := by
  unfold diagnoses order
  refine Nat.le_trans (flatMap_len _ 256 _ fun x _ => ?_) (by simp [GATES])
  refine Nat.le_trans (List.length_filter_le _ _) ?_
  unfold all_
  rw [List.length_range]
  exact pow_le256 hn
/-! ### may -/
def couldG (ws : List (Nat × List Bool)) (w : Nat) : Nat := ws.foldl (fun v y => v ||| (if y.2.getD w false then 2 else 1)) 0
theorem fold_could (w : Nat) : ∀ (ws : List (Nat × List Bool)) (p q : Bool), ws.foldl (fun v y => v ||| (if y.2.getD w false then 2 else 1)) ((if p then 1 else 0) + (if q then 2 else 0)) =
    (if p || ws.any (fun y => !(y.2.getD w false)) then 1 else 0) + (if q || ws.any (fun y => y.2.getD w false) then 2 else 0)
  | [], p, q => by simp
  | y :: r, p, q => by
    rw [List.foldl_cons, List.any_cons, List.any_cons]
    have e : ((if p then 1 else 0) + (if q then 2 else 0)) ||| (if y.2.getD w false then 2 else 1) = (if p || !(y.2.getD w false) then 1 else 0) + (if q || y.2.getD w false then 2 else 0) := by
      cases p <;> cases q <;> cases y.2.getD w false <;> decide
    rw [e, fold_could w r, Bool.or_assoc, Bool.or_assoc]
theorem may_could {a : Abs} {d : Nat} {t : Test} {w : Nat} (hl : t.inputs.length = a.inputs) : may a d t w = couldG (pwith a.gates t d) w := by
  rw [may_eq hl]
  have := fold_could w (pwith a.gates t d) false false
  simp only [Bool.false_or] at this
  exact this.symm
theorem couldG_snoc (ws : List (Nat × List Bool)) (y : Nat × List Bool) (w : Nat) : couldG (ws ++ [y]) w = couldG ws w ||| (if y.2.getD w false then 2 else 1) := by
  unfold couldG
  rw [List.foldl_append]
  rfl
/-! ### next -/
theorem sum_count {α : Type} (p : α → Bool) : ∀ l : List α, (l.map fun x => if p x then (1 : Int) else 0).sum = ((l.filter p).length : Int)
  | [] => rfl
  | a :: r => by
    rw [List.map_cons, List.sum_cons, sum_count p r, List.filter_cons]
    cases p a with
    | true => simp; omega
    | false => simp
theorem best_none {f : Nat → Nat} : ∀ {l : List Nat}, best f l = none ↔ l = []
  | [] => by simp [best]
  | w :: l => by
    unfold best
    cases best f l with
    | none => simp
    | some x => dsimp only; split <;> simp
theorem best_some {f : Nat → Nat} : ∀ {l : List Nat} {i x : Nat}, l[i]? = some x → (∀ j y, l[j]? = some y → f x ≤ f y ∧ (j < i → f x < f y)) → best f l = some x
  | [], i, x, h, _ => by simp at h
  | w :: l, 0, x, h, q => by
    have e : w = x := Option.some.inj h
    subst e
    unfold best
    cases hb : best f l with
    | none => rfl
    | some y =>
      dsimp only
      have hm : y ∈ l := best_mem hb
      obtain ⟨j, hj, rfl⟩ := List.getElem_of_mem hm
      have := (q (j + 1) _ (by rw [List.getElem?_cons_succ, List.getElem?_eq_getElem hj])).1
      rw [if_neg (by omega)]
  | w :: l, i + 1, x, h, q => by
    have ih := best_some (f := f) (l := l) (i := i) (x := x) h fun j y hy => by
      have := q (j + 1) y hy
      exact ⟨this.1, fun z => this.2 (by omega)⟩
    unfold best
    rw [ih]
    dsimp only
    have := (q 0 w rfl).2 (by omega)
    rw [if_pos this]
where
  best_mem {f : Nat → Nat} : ∀ {l : List Nat} {x : Nat}, best f l = some x → x ∈ l
    | [], x, h => by simp [best] at h
    | w :: l, x, h => by
      unfold best at h
      cases hb : best f l with
      | none => rw [hb] at h; have := Option.some.inj h; simp [this]
      | some y =>
        rw [hb] at h
        dsimp only at h
        split at h
        · have := Option.some.inj h
          subst this
          exact List.mem_cons_of_mem _ (best_mem hb)
        · have := Option.some.inj h; simp [this]
end FF

set_option Elab.async false
set_option linter.all false
set_option maxRecDepth 100000
set_option maxHeartbeats 4000000
namespace L2
open PySem PySem.Spec PyProof.Rows
theorem Same.upd_new {H : Hp} {a : Addr} {o : HO} (n : H a = none) : Same H (upd H a o) := fun b u e => by rw [upd_ne (ne_of_none e n)]; exact e
theorem Same.upd_new' {H H1 : Hp} {a : Addr} {o : HO} (s : Same H H1) (n : H1 a = none) : Same H (upd H1 a o) := s.trans (Same.upd_new n)
theorem Same.upd_own {H H1 : Hp} {a : Addr} {o : HO} (s : Same H H1) (n : H a = none) : Same H (upd H1 a o) := fun b u e => by rw [upd_ne (ne_of_none e n)]; exact s b u e
end L2
namespace FF
open PySem PySem.Spec PyProof.Rows L2
/-! ### values -/
abbrev nV (n : Nat) : V := .int (n : Int)
def bI (b : Bool) : Int := if b then 1 else 0
abbrev bV (b : Bool) : V := .int (bI b)
theorem bI_01 (b : Bool) : bI b = 0 ∨ bI b = 1 := by cases b <;> simp [bI]
theorem bI_inj {a b : Bool} (h : bI a = bI b) : a = b := by cases a <;> cases b <;> simp [bI] at h <;> rfl
theorem toNat_cast (k : Nat) : ((k : Int)).toNat = k := Int.toNat_natCast k
theorem shr_nat (m k : Nat) : ((m : Int) / 2 ^ ((k : Int)).toNat) = ((m / 2 ^ k : Nat) : Int) := by
  rw [toNat_cast, Int.natCast_ediv, Int.natCast_pow]
  rfl
theorem shl_nat (m k : Nat) : ((m : Int) * 2 ^ ((k : Int)).toNat) = ((m * 2 ^ k : Nat) : Int) := by
  rw [toNat_cast, Int.natCast_mul, Int.natCast_pow]
  rfl
theorem bit_int (m k : Nat) : Builtin.bitAnd ((m : Int) / 2 ^ ((k : Int)).toNat) 1 = bI (Kcz6.bit m k) := by
  rw [bitAnd_m1, shr_nat]
  unfold Kcz6.bit bI
  have h : m / 2 ^ k % 2 = 0 ∨ m / 2 ^ k % 2 = 1 := by omega
  rcases h with h | h
  · rw [h]
    show ((m / 2 ^ k : Nat) : Int) % 2 = 0
    omega
  · rw [h]
    show ((m / 2 ^ k : Nat) : Int) % 2 = 1
    omega
theorem has_int (m k : Nat) : decide ((0 : Int) < (m : Int) / 2 ^ ((k : Int)).toNat) = decide (2 ^ k ≤ m) := by
  rw [shr_nat, Bool.eq_iff_iff, decide_eq_true_iff, decide_eq_true_iff]
  have hp : 0 < 2 ^ k := Nat.pow_pos (by decide)
  have := Nat.div_pos_iff (a := m) (b := 2 ^ k)
  omega
theorem or_nat (m d : Nat) : Builtin.bitOr (m : Int) (d : Int) = ((m ||| d : Nat) : Int) := by
  unfold Builtin.bitOr
  have h1 : ¬ 0 ≤ Builtin.bitNot (m : Int) := by unfold Builtin.bitNot; omega
  have h2 : ¬ 0 ≤ Builtin.bitNot (d : Int) := by unfold Builtin.bitNot; omega
  have e1 : Builtin.bitNot (Builtin.bitNot (m : Int)) = (m : Int) := by unfold Builtin.bitNot; omega
  have e2 : Builtin.bitNot (Builtin.bitNot (d : Int)) = (d : Int) := by unfold Builtin.bitNot; omega
  unfold Builtin.bitAnd
  rw [decide_eq_false h1, decide_eq_false h2]
  show Builtin.bitNot (Builtin.bitNot _) = _
  rw [e1, e2, toNat_cast, toNat_cast]
  unfold Builtin.bitNot
  omega
theorem and_nat (m d : Nat) : Builtin.bitAnd (m : Int) (d : Int) = ((m &&& d : Nat) : Int) := by
  rw [bitAnd_pp (by omega) (by omega), toNat_cast, toNat_cast]
theorem xor_bit (x y : Bool) : Builtin.bitXor (bI x) (bI y) = bI (x != y) := by
  cases x <;> cases y <;> decide +kernel
/-! ### fields -/
theorem lk_hit {f : Str} {x : V} {r : List (Str × V)} : ((f, x) :: r).lookup f = some x := by simp [List.lookup]
theorem lk_miss {f k : Str} {x : V} {r : List (Str × V)} (h : ¬ f = k) : ((k, x) :: r).lookup f = r.lookup f := by
  have hb : (f == k) = false := beq_eq_false_iff_ne.mpr h
  simp [List.lookup, hb]
theorem put_hit {f : Str} {v x : V} {r : List (Str × V)} : putF f v ((f, x) :: r) = (f, v) :: r := if_pos rfl
theorem put_miss {f g : Str} {v x : V} {r : List (Str × V)} (h : ¬ g = f) : putF f v ((g, x) :: r) = (g, x) :: putF f v r := if_neg h
theorem put_nil {f : Str} {v : V} : putF f v [] = [(f, v)] := rfl
theorem put_le {f : Str} {v : V} {r : List (Str × V)} {n : Nat} (h : r.length ≤ n) : (putF f v r).length ≤ n + 1 := by
  have := length_putF f v r
  omega
theorem put_lt1 {f : Str} {v : V} : (putF f v []).length < 1000 := Nat.lt_of_le_of_lt (put_le (Nat.le_refl 0)) (by decide)
theorem put_lt2 {f g : Str} {v x : V} : (putF g x (putF f v [])).length < 1000 := Nat.lt_of_le_of_lt (put_le (put_le (Nat.le_refl 0))) (by decide)
/-! ### heaps -/
/-- all is kept but what stands at p -/
def Keep1 (p : Addr) (H H' : Hp) : Prop := ∀ b o, H b = some o → b ≠ p → H' b = some o
def KeepX (M : List Addr) (H H' : Hp) : Prop := ∀ b o, H b = some o → b ∉ M → H' b = some o
theorem KeepX.of_same {M : List Addr} {H H' : Hp} (s : Same H H') : KeepX M H H' := fun b o e _ => s b o e
theorem KeepX.trans {M M1 : List Addr} {H H1 H2 : Hp} (a : KeepX M H H1) (b : KeepX M1 H1 H2) (h : ∀ x, x ∈ M1 → x ∈ M ∨ H x = none) : KeepX M H H2 := fun c o e hc => by
  refine b c o (a c o e hc) fun hm => ?_
  rcases h c hm with z | z
  · exact hc z
  · rw [e] at z; cases z
theorem KeepX.seq {K : PySem.W.Frag} {M : List Addr} {H H' : Hp} {a : Addr} {xs : List V} (e : KeepX M H H') (n : a ∉ M) (h : SqL K H a xs) : SqL K H' a xs := by
  rcases h with (h | ⟨o, h⟩) | h
  · exact .inl (.inl (e _ _ h n))
  · exact .inl (.inr ⟨o, e _ _ h n⟩)
  · exact .inr h
theorem ne_mem {b a : Addr} {M : List Addr} (hb : b ∉ M) (ha : a ∈ M) : b ≠ a := fun z => hb (by rw [z]; exact ha)
theorem mem_ne {b a : Addr} {M : List Addr} (hb : b ∈ M) (ha : a ∉ M) : b ≠ a := fun z => ha (by rw [← z]; exact hb)
theorem upd_upd {H : Hp} {a : Addr} {o o' : HO} : upd (upd H a o) a o' = upd H a o' := by
  funext b
  unfold upd
  by_cases h : b = a
  · rw [if_pos h, if_pos h]
  · rw [if_neg h, if_neg h, if_neg h]
/-! ### a list in pairs -/
theorem paired_len {α β : Type} {F : α → β → Prop} : ∀ {l : List α} {m : List β}, Paired F l m → l.length = m.length
  | _, _, .nil => rfl
  | _, _, .cons _ t => by rw [List.length_cons, List.length_cons, paired_len t]
theorem paired_get {α β : Type} {F : α → β → Prop} : ∀ {l : List α} {m : List β} {i : Nat} {x : α}, Paired F l m → l[i]? = some x → ∃ y, m[i]? = some y ∧ F x y
  | _, _, _, _, .nil, h => by simp at h
  | _, _, 0, _, .cons r _, h => ⟨_, rfl, by have e := Option.some.inj h; subst e; exact r⟩
  | _, _, i + 1, _, .cons _ t, h => paired_get (i := i) t h
theorem paired_getR {α β : Type} {F : α → β → Prop} : ∀ {l : List α} {m : List β} {i : Nat} {y : β}, Paired F l m → m[i]? = some y → ∃ x, l[i]? = some x ∧ F x y
  | _, _, _, _, .nil, h => by simp at h
  | _, _, 0, _, .cons r _, h => ⟨_, rfl, by have e := Option.some.inj h; subst e; exact r⟩
  | _, _, i + 1, _, .cons _ t, h => paired_getR (i := i) t h
theorem paired_imp {α β : Type} {F G : α → β → Prop} : ∀ {l : List α} {m : List β}, Paired F l m → (∀ a b, a ∈ l → F a b → G a b) → Paired G l m
  | _, _, .nil, _ => .nil
  | _, _, .cons r t, f => .cons (f _ _ List.mem_cons_self r) (paired_imp t fun a b h => f a b (List.mem_cons_of_mem _ h))
theorem paired_snoc {α β : Type} {F : α → β → Prop} {a : α} {b : β} : ∀ {l : List α} {m : List β}, Paired F l m → F a b → Paired F (l ++ [a]) (m ++ [b])
  | _, _, .nil, h => .cons h .nil
  | _, _, .cons r t, h => .cons r (paired_snoc t h)
theorem paired_set {α β : Type} {F : α → β → Prop} {b : β} : ∀ {l : List α} {m : List β} {i : Nat} {a : α}, Paired F l m → l[i]? = some a → F a b → Paired F l (m.set i b)
  | _, _, _, _, .nil, h, _ => by simp at h
  | _, _, 0, _, .cons _ t, h, q => by have e := Option.some.inj h; subst e; exact .cons q t
  | _, _, i + 1, _, .cons r t, h, q => .cons r (paired_set (i := i) t h q)
theorem take_snoc {α : Type} : ∀ {l : List α} {i : Nat} {x : α}, l[i]? = some x → l.take (i + 1) = l.take i ++ [x]
  | [], i, x, h => by simp at h
  | a :: l, 0, x, h => by
    have e : a = x := Option.some.inj h
    subst e
    rfl
  | a :: l, i + 1, x, h => by
    have ih := take_snoc (l := l) (i := i) (x := x) h
    show a :: l.take (i + 1) = a :: l.take i ++ [x]
    rw [ih]
    rfl
theorem map_get {α : Type} {f : α → V} {l : List α} {i : Nat} {v : V} (h : (l.map f)[i]? = some v) : ∃ x, l[i]? = some x ∧ v = f x := by
  rw [List.getElem?_map] at h
  cases e : l[i]? with
  | none => rw [e] at h; cases h
  | some x => rw [e] at h; exact ⟨x, rfl, (Option.some.inj h).symm⟩
theorem at_map {α : Type} {f : α → V} {l : List α} {j : Nat} {x : α} (h : l[j]? = some x) : atI (l.map f) (j : Int) = some (f x) := atI_nat (by rw [List.getElem?_map, h]; rfl)
theorem size_ok {n : Nat} (h : n ≤ 10000000) : n ≤ sizeLine := Nat.le_trans h (by rw [sizeLine_eq]; decide)
theorem size_lt {n : Nat} (h : n ≤ 10000000) : n < sizeLine := Nat.lt_of_le_of_lt h (by rw [sizeLine_eq]; decide)
/-! ### calls of defs of the text, bundled -/
/-- a def of the file's top -/
structure GF (P : Program) (w : World) (K : PySem.W.Frag) (mg : Str → Option Value) (base : Heap) (k : Nat) (x : Str) (ps : List Str) (sp : Sp) : Prop where
  ex : ∃ f fd, FnOk P w K mg base CX0 k f fd ps sp ∧ Binds K fd ps [] ∧ PySem.W.keepIn K (.ref f) = true ∧ mg x = some (.ref f)
/-- a method -/
structure MF (P : Program) (w : World) (K : PySem.W.Frag) (mg : Str → Option Value) (base : Heap) (C : Addr) (k : Nat) (m : Str) (ps : List Str) (sp : Sp) : Prop where
  ex : ∃ f fd, FnOk P w K mg base CX0 k f fd ps sp ∧ Binds K fd ps [] ∧ Meth K C m f
/-- a class, by its __init__ -/
structure CF (P : Program) (w : World) (K : PySem.W.Frag) (mg : Str → Option Value) (base : Heap) (C : Addr) (k : Nat) (x : Str) (ps : List Str) (sp : Sp) : Prop where
  ex : ∃ f fd, FnOk P w K mg base CX0 k f fd ps sp ∧ Binds K fd ps [] ∧ Mk K C f ∧ mg x = some (.ref C)
section
variable {X : Cx} {k j : Nat} {C : Addr} {ps : List Str} {sp : Sp} {x m : Str} {p pos apos : Pos} {e o : Expr} {es : List Expr} {ta : TE} {t : TA}
theorem pe_gi {i : Int} (hg : Gl X x) (h : ∃ t, X.mg x = some (.int i t)) (hd : (x == ("__debug__" : Str)) = false := by decide) : PE X (.Name x pos) (tC (.int i)) := by
  obtain ⟨t, e⟩ := h
  exact pe_glob hg e ⟨t, rfl⟩ hd
theorem pe_gr {a : Addr} (hg : Gl X x) (h : X.mg x = some (.ref a)) (hd : (x == ("__debug__" : Str)) = false := by decide) : PE X (.Name x pos) (tC (.ref a)) := pe_glob hg h (show Value.ref a = Value.ref a from rfl) hd
/-! the same with the written part named: within a comprehension's block -/
theorem pe_fldK (K : PySem.W.Frag) (hK : X.K = K) {f : Str} (he : PE X e ta) (hb : attributeBase e f X.env (eval e X.env) = eval e X.env) : PE X (.Attribute e f pos) (tFld K ta f) := by
  subst hK
  exact pe_fld he hb
theorem ix_listK (K : PySem.W.Frag) (hK : X.K = K) : IxR X (rIxL K) := by
  subst hK
  exact ix_list
theorem ix_tupK (K : PySem.W.Frag) (hK : X.K = K) : IxR X (rIxT K) := by
  subst hK
  exact ix_tup
def rLen (K : PySem.W.Frag) : List V → Hp → VK → Prop := fun xs H Q => ∃ p ys, xs = [.ref p] ∧ (SqL K H p ys ∨ SqT K H p ys) ∧ Q (.int ys.length) H
theorem call_lenK (K : PySem.W.Frag) (hK : X.K = K) : CallR X (.builtin "len") (rLen K) := by
  subst hK
  exact call_len_seq
theorem sl_listK (K : PySem.W.Frag) (hK : X.K = K) : SlR X (rSlL K) := by
  subst hK
  exact sl_list
theorem pi_listK (K : PySem.W.Frag) (hK : X.K = K) {tg l : Expr} {tl : TE} (hl : PE X l tl) : PI X tg l (iList K tl) := by
  subst hK
  exact pi_list hl
theorem pe_gf (G : GF X.prog X.w X.K X.mg X.base k x ps sp) (hr : Room j X.A) (hk : k ≤ j) (hg : Gl X x) (ha : PA X (e :: es) t) (hdb : (x == ("__debug__" : Str)) = false := by decide)
    (he : starEach (e :: es) X.env = (false, eval e X.env) :: starEach es X.env := by rfl) (hpl : (backTo pos (starEach es X.env)).any (·.1) = false := by rfl) :
    PE X (.Call (.Name x p) (e :: es) [] pos) (tCall sp [] E0 t) := by
  obtain ⟨f, fd, F, b, kp, hm⟩ := G.ex
  exact pe_call F (hr.mono hk) hg hm kp b .nil pass0 ha hdb he hpl
theorem pe_mf {pl : Sem Bool} (he : PE X o ta) (c : Cls X.K C) (M : MF X.prog X.w X.K X.mg X.base C k m ps sp) (hr : Room j X.A) (hk : k ≤ j) (ha : PA X (e :: es) t)
    (hst : starEach (e :: es) X.env = (false, eval e X.env) :: starEach es X.env := by rfl) (hpl : (backTo pos (starEach es X.env)).any (·.1) = false := by rfl)
    (ht : eval (.Call (.Attribute o m apos) (e :: es) [] pos) X.env = (do
      let ov ← eval o X.env
      standAt apos.atName
      let (f, first) ← holding [ov] (getMethod ov m pl)
      callWith pos f first (backTo pos (starEach (e :: es) X.env)) (backToKw pos (keywordEach [] X.env))) := by rfl) :
    PE X (.Call (.Attribute o m apos) (e :: es) [] pos) (tMeth C m sp [] E0 ta t) := by
  obtain ⟨f, fd, F, b, hm⟩ := M.ex
  exact pe_meth he c hm F (hr.mono hk) b .nil pass0 ha hst hpl ht
theorem pe_mf0 {pl : Sem Bool} (he : PE X o ta) (c : Cls X.K C) (M : MF X.prog X.w X.K X.mg X.base C k m ps sp) (hr : Room j X.A) (hk : k ≤ j)
    (ht : eval (.Call (.Attribute o m apos) [] [] pos) X.env = (do
      let ov ← eval o X.env
      standAt apos.atName
      let (f, first) ← holding [ov] (getMethod ov m pl)
      callWith pos f first (backTo pos (starEach [] X.env)) (backToKw pos (keywordEach [] X.env))) := by rfl) :
    PE X (.Call (.Attribute o m apos) [] [] pos) (tMeth C m sp [] E0 ta tNil) := by
  obtain ⟨f, fd, F, b, hm⟩ := M.ex
  exact pe_meth0 he c hm F (hr.mono hk) b .nil pass0 ht
theorem pe_cf (M : CF X.prog X.w X.K X.mg X.base C k x ps sp) (hr : Room j X.A) (hk : k + 1 ≤ j) (hg : Gl X x) (ha : PA X (e :: es) t) (hdb : (x == ("__debug__" : Str)) = false := by decide)
    (he : starEach (e :: es) X.env = (false, eval e X.env) :: starEach es X.env := by rfl) (hpl : (backTo pos (starEach es X.env)).any (·.1) = false := by rfl) :
    PE X (.Call (.Name x p) (e :: es) [] pos) (tMake C sp [] E0 t) := by
  obtain ⟨f, fd, F, b, mk, hm⟩ := M.ex
  exact pe_make mk F (hr.mono hk) hg hm b .nil pass0 ha hdb he hpl
theorem pe_cf0 (M : CF X.prog X.w X.K X.mg X.base C k x ps sp) (hr : Room j X.A) (hk : k + 1 ≤ j) (hg : Gl X x) (hdb : (x == ("__debug__" : Str)) = false := by decide) :
    PE X (.Call (.Name x p) [] [] pos) (tMake C sp [] E0 tNil) := by
  obtain ⟨f, fd, F, b, mk, hm⟩ := M.ex
  exact pe_make0 mk F (hr.mono hk) hg hm b .nil pass0 hdb
end
end FF

set_option Elab.async false
set_option linter.all false
set_option maxRecDepth 100000
set_option maxHeartbeats 4000000
namespace L2
open PySem PySem.Spec PyProof.Rows
section
variable {X : Cx} {k : Nat} {f : Addr} {fd : FuncData} {ps : List Str} {sp : Sp} {pins : List (Addr × Obj)} {σ : St} {H : Hp} {s : Shared} {Q : VK}
/-- a def of one's own that a builtin calls -/
theorem run_key {A : Around} {us : List Value} {vs : List V} {E : Value → Shared → Prop} (F : FnOk X.prog X.w X.K X.mg X.base CX0 k f fd ps sp) (hr : Room k A)
    (up : Env0 X.prog X.w X.K X.mg X.base X.A X.stack s H → Env0 X.prog X.w X.K X.mg X.base A X.stack s H) (hb : Binds X.K fd ps [])
    (I : Inv X pins σ H s) (r : Vals vs us) (h : sp vs H Q E0) : wpAny (model X.prog X.w) A (call (.ref f) us) (EP X pins σ Q) E s := by
  have hl : (us ++ []).length = ps.length := by rw [List.append_nil, ← r.length]; exact F.len _ _ _ _ h
  have hbd := hb s us I.kIn hl
  rw [List.append_nil] at hbd
  refine wpAny_call (codeAny_mono (F.run A X.stack s H ⟨us, []⟩ us vs Q E0 hr (up I.env0) hbd r h) fun z s' hq => ?_)
  cases z with
  | error e => exact False.elim hq
  | ok fl =>
    cases fl with
    | ret u => exact I.after hq
    | next => exact False.elim hq
    | brk => exact False.elim hq
    | cont => exact False.elim hq
/-! ### sorted(xs, key = f): ints, by a key that is an int -/
theorem zip_keys (g : Int → Int) : ∀ vs : List Value, ((vs.map numOf).map g).zip vs = vs.map fun v => (g (numOf v), v)
  | [] => rfl
  | v :: r => by rw [List.map_cons, List.map_cons, List.zip_cons_cons, zip_keys g r, List.map_cons]
/-- what a stable sort gives, as ints -/
structure SortedBy (g : Int → Int) (ns ys : List Int) : Prop where
  perm : ys.Perm ns
  ord : ys.Pairwise fun x y => g x ≤ g y
  same : ∀ z, ys.filter (fun x => g x == z) = ns.filter fun x => g x == z
theorem sorted_by {g : Int → Int} {ns : List Int} {vs out : List Value} (hi : IntsAre vs ns) (ko : KskOutSt false (ns.map g) vs out) : ∃ ys, IntsAre out ys ∧ SortedBy g ns ys := by
  obtain ⟨ps, hp, rfl, ho, hst⟩ := ko
  have hn := hi.nums
  subst hn
  rw [zip_keys] at hp hst
  have mem : ∀ p, p ∈ ps → p.1 = g (numOf p.2) ∧ p.2 ∈ vs := fun p q => by
    obtain ⟨v, hv, rfl⟩ := List.mem_map.mp (hp.mem_iff.mp q)
    exact ⟨rfl, hv⟩
  have e1 : ∀ (z : Int) (l : List (Int × Value)), (∀ p, p ∈ l → p.1 = g (numOf p.2)) → ((l.map Prod.snd).map numOf).filter (fun x => g x == z) = (l.filter fun p => p.1 == z).map fun p => numOf p.2 := fun z l hl => by
    rw [List.map_map, List.filter_map]
    refine congrArg (List.map _) (List.filter_congr fun p q => ?_)
    rw [hl p q]
    rfl
  refine ⟨(ps.map Prod.snd).map numOf, intsAre_map _ fun v hv => ?_, ?_, ?_, fun z => ?_⟩
  · obtain ⟨p, q, rfl⟩ := List.mem_map.mp hv
    exact hi.all _ (mem p q).2
  · have q := (hp.map Prod.snd).map numOf
    rw [List.map_map (f := fun v => (g (numOf v), v))] at q
    have e : vs.map (Prod.snd ∘ fun v => (g (numOf v), v)) = vs := by
      have : (Prod.snd ∘ fun v => (g (numOf v), v)) = (id : Value → Value) := rfl
      rw [this, List.map_id]
    rw [e] at q
    exact q
  · rw [List.pairwise_map, List.pairwise_map]
    refine ho.imp_of_mem fun {p q} h1 h2 h3 => ?_
    have h3 : p.1 ≤ q.1 := h3
    rw [(mem p h1).1, (mem q h2).1] at h3
    exact h3
  · rw [e1 z ps fun p q => (mem p q).1, hst z, ← e1 z (vs.map fun v => (g (numOf v), v)) fun p q => by obtain ⟨v, _, rfl⟩ := List.mem_map.mp q; rfl]
    rw [List.map_map (f := fun v => (g (numOf v), v))]
    have : (Prod.snd ∘ fun v => (g (numOf v), v)) = (id : Value → Value) := rfl
    rw [this, List.map_id]
/-- behind the keys: the store is emptied, the list written -/
theorem sortK_tail {A : Around} {E : Value → Shared → Prop} {P : PySem.Fin → Shared → Prop} {D kS : Addr} {e1 : Nat} {kz : List Int} {vs keys : List Value} {st : SortSt} (I : Inv X pins σ H s) (hD : H D = some (.frz (seqObj "list" #[] e1) (.lst [])))
    (hnD : ∀ o' u', X.H_0 D ≠ some (.frz o' u')) (hk : H kS = some (.lst (kz.map V.int))) (hi : IntsAre keys kz) (hlen : kz.length = vs.length) (hz : vs.length ≤ sizeLine)
    (hp : (arrOf st).Perm (keys.toArray.zip vs.toArray)) (hs : SortedTo (arrOf st) (arrOf st).size) (hfl : failedOf st = none) (hst : Stable intKind (arrOf st) (keys.toArray.zip vs.toArray))
    (h : ∀ (out : List Value) (s' : Shared), KskOutSt false kz vs out → (∀ ys : List V, Vals ys out → Inv X pins σ (upd (upd H kS (.lst [])) D (.lst ys)) s') → P (.done (.ret .none)) s') :
    wpAny (model X.prog X.w) A (ksk_tail D false e1 (.ref kS) st) P E s := by
  have hZ := hz
  rw [sizeLine_eq] at hZ
  obtain ⟨_, kits, n, kv, _, ke⟩ := I.lstM hk
  have hkl : kits.length = vs.length := by rw [← kv.length, List.length_map]; exact hlen
  have ne : D ≠ kS := fun z => by rw [z, hk] at hD; cases hD
  have I1 := I.lset (f := fun _ => #[]) (its' := []) (ys := []) (t' := s.toks) hk ke rfl .nil (Nat.zero_le _)
  have hD1 : upd H kS (.lst []) D = some (.frz (seqObj "list" #[] e1) (.lst [])) := (upd_ne ne).trans hD
  have hod := (I1.hok D _ hD1).1
  have I2 := I1.unlock hD1 hnD
  have ko := ksk_outSt (kz := kz) (vs := vs) (b := false) (xs := arrOf st) (by rw [List.toList_toArray]; exact hi) hp hs hst
  rw [if_neg (by decide)] at ko
  have hsz : (arrOf st).size = vs.length := by
    rw [hp.size_eq, Array.size_zip, List.size_toArray, List.size_toArray, hi.length, hlen, Nat.min_self]
  unfold ksk_tail
  try dsimp only
  refine wpAny_bind (listUpdate_at ke rfl ?_ (by rw [List.size_toArray, hkl]; exact hz) (Nat.zero_le _))
  refine wpAny_bind (wpAny_letGo (wpAny_bind (seqEpoch_at hod rfl ?_)))
  refine wpAny_bind (listUpdate_at hod rfl ?_ (Nat.zero_le _) (by
    show (if false = true then _ else (arrOf st).map (·.2)).size ≤ sizeLine + 1
    rw [if_neg (by decide), Array.size_map, hsz]
    omega))
  rw [hfl]
  simp only [bne_self_eq_false, Bool.false_eq_true, if_false]
  refine wpAny_pure (h _ _ ko fun ys hv => ?_)
  have I3 := I2.lset (f := fun _ => (arrOf st).map (·.2)) (its' := ((arrOf st).map (·.2)).toList) (t' := s.toks) upd_same hod (by rw [Array.toArray_toList]) hv (by rw [hv.length, Array.length_toList, Array.size_map, hsz]; exact hz)
  rw [upd_upd] at I3
  exact I3
theorem sortK_end {A : Around} {E : Value → Shared → Prop} {P : PySem.Fin → Shared → Prop} {D kS : Addr} {e1 : Nat} {kz : List Int} {vs keys : List Value} (I : Inv X pins σ H s) (hD : H D = some (.frz (seqObj "list" #[] e1) (.lst [])))
    (hnD : ∀ o' u', X.H_0 D ≠ some (.frz o' u')) (hk : H kS = some (.lst (kz.map V.int))) (hi : IntsAre keys kz) (hlen : kz.length = vs.length) (hz : vs.length ≤ sizeLine)
    (h : ∀ (out : List Value) (s' : Shared), KskOutSt false kz vs out → (∀ ys : List V, Vals ys out → Inv X pins σ (upd (upd H kS (.lst [])) D (.lst ys)) s') → P (.done (.ret .none)) s') :
    wpAny (model X.prog X.w) A (ksk_end D false vs.toArray e1 (.ref kS) keys.toArray) P E s := by
  have hk2 : IntsAre keys.toArray.toList kz := by rw [List.toList_toArray]; exact hi
  have hsz : keys.toArray.size = vs.length := by rw [List.size_toArray, hi.length, hlen]
  have hzs : (keys.toArray.zip vs.toArray).size = vs.length := by rw [Array.size_zip, hsz, List.size_toArray, Nat.min_self]
  unfold ksk_end
  simp only [Bool.false_eq_true, if_false]
  by_cases h2 : vs.toArray.size < 2
  · rw [if_pos h2, if_pos h2]
    refine wpAny_bind (wpAny_pure ?_)
    rw [StateT.run_pure]
    refine wpAny_bind (wpAny_pure ?_)
    try dsimp only
    refine sortK_tail (st := SortSt.mk' general' (keys.toArray.zip vs.toArray) #[] 7 none) I hD hnD hk hi hlen hz (Array.Perm.refl _) (fun i j hij hj => ?_) rfl (Stable.refl _) h
    have hj2 : j < (keys.toArray.zip vs.toArray).size := hj
    rw [List.size_toArray] at h2
    have : i = j := by omega
    rw [this]
    exact Int.le_refl _
  · rw [if_neg h2, if_neg h2]
    rw [List.size_toArray] at h2
    rw [ksk_kind hk2 (by omega)]
    refine wpAny_bind (wpAny_pure (wpAny_bind (wpAny_mono (wpS_sortRunsSt (κ := intKind) (a₀ := keys.toArray.zip vs.toArray) (st := SortSt.mk' oneType' (keys.toArray.zip vs.toArray) #[] 7 none)
      (Q := fun _ st' => (arrOf st').Perm (keys.toArray.zip vs.toArray) ∧ failedOf st' = none ∧ SortedTo (arrOf st') (arrOf st').size ∧ Stable intKind (arrOf st') (keys.toArray.zip vs.toArray))
      intKind_oneLt (ksk_keysOfInt (ksk_intKeys hk2)) ⟨Array.Perm.refl _, rfl, rfl⟩ rfl (Stable.refl _) (by omega) fun st' a1 a2 a3 a4 => ⟨a1, a2, by rw [a1.size_eq]; exact sortedTo_of_int a3, a4⟩) ?_ fun _ _ e => e)))
    rintro ⟨⟨⟩, st'⟩ s' ⟨rfl, hp, hf, hs, hst⟩
    try dsimp only
    exact sortK_tail I hD hnD hk hi hlen hz hp hs hf hst h
/-- what sorted(xs, key = f) asks of f and gives -/
def SortK (K : PySem.W.Frag) (sp : Sp) (H : Hp) (a : Addr) (Q : VK) : Prop := ∃ (ns : List Int) (g : Int → Int), SqL K H a (ns.map V.int) ∧
  (∀ (H' : Hp) (n : Int) (Q' : VK), Same H H' → n ∈ ns → (∀ H2, Same H' H2 → Q' (.int (g n)) H2) → sp [.int n] H' Q' E0) ∧
  ∀ (H' : Hp) (ys : List Int) (p : Addr), Same H H' → H p = none → H' p = some (.lst (ys.map V.int)) → SortedBy g ns ys → Q (.ref p) H'
theorem sortK_ok {x : Str} {a : Addr} (F : FnOk X.prog X.w X.K X.mg X.base CX0 k f fd [x] sp) (hr : Room (k + 2) X.A) (hb : Binds X.K fd [x] []) (I : Inv X pins σ H s) (h : SortK X.K sp H a Q) :
    wpAny (model X.prog X.w) X.A (call (.builtin "sorted") [.ref a] [(Str.ofString "key", .ref f)]) (EP X pins σ Q) X.xe s := by
  obtain ⟨ns, g, hs, turn, done⟩ := h
  obtain ⟨its, rv, hl, hz⟩ := I.list hs
  rw [List.length_map] at hz
  have hi := rv.ints
  have hil : its.length = ns.length := hi.length
  have hz2 : its.length ≤ sizeLine := by rw [hil]; exact hz
  refine call_function_entry_kw kind_sorted plain_sorted entry_sorted (ksk_s1 _ _) ?_
  unfold Builtin.«sorted»
  refine wpAny_bind (m := checkCount "sorted" 1 1 _) (wpAny_pure (wpAny_bind (collect_list hl.isList ?_ hz2)))
  refine wpAny_bind (wpAny_newList ?_ hz2)
  -- the list that is to be sorted
  have I1 : Inv X pins σ H { s with heap := (s.heap.push (seqObj "list" #[] 0)).update s.heap.objs.size (Obj.mapSeq (· ++ its.toArray)) } :=
    I.kept (t' := s.toks) fun b u e => by
      rw [Heap.get?_update_other _ _ (Nat.ne_of_gt (Heap.lt_size e))]
      exact Heap.get?_push_of_some _ e
  generalize hh1 : (s.heap.push (seqObj "list" #[] 0)).update s.heap.objs.size (Obj.mapSeq (· ++ its.toArray)) = h1 at I1 ⊢
  have hDn : H h1.objs.size = none := I1.fresh
  have I2 := I1.lnew (its := its) (ys := ns.map V.int) (t' := s.toks) rv (by rw [List.length_map]; exact hz)
  generalize hD : h1.objs.size = D at I2 hDn ⊢
  have hH2 : upd H D (.lst (ns.map V.int)) D = some (.lst (ns.map V.int)) := upd_same
  have ho : (h1.push { cls := .type "list", data := .seq its.toArray }).get? D = some { cls := .type "list", data := .seq its.toArray } := by rw [← hD]; exact Heap.get?_push_size _ rfl
  refine wpAny_bind (wpAny_holding (wpAny_call_entry_kw slot_list_sort ⟨_, ho, rfl⟩ entry_list_sort ?body (ksk_l1 _ _)))
  case body =>
    show wpAny (model X.prog X.w) X.A.in1.in1 (Builtin.«list.sort» ⟨[.ref D], [(Str.ofString "key", .ref f)]⟩) _ _ _
    rw [ksk_t1]
    unfold ksk_tree
    refine wpAny_bind (listItems_at ho rfl (wpAny_bind (listUpdate_at ho rfl ?_ (by rw [List.size_toArray]; exact hz2) (Nat.zero_le _))))
    have I3 := I2.lset (f := fun _ => #[]) (its' := []) (ys := []) (t' := s.toks) hH2 ho rfl .nil (Nat.zero_le _)
    rw [upd_upd] at I3
    obtain ⟨_, its3, e1, v3, _, o3⟩ := I3.lstM (l := D) upd_same
    cases v3
    refine wpAny_bind (seqEpoch_at o3 rfl (wpAny_bind (wpAny_newTuple ?_ (by rw [List.toList_toArray]; exact hz2))))
    have I4 := I3.kept (t' := s.toks) (h' := ((h1.push { cls := .type "list", data := .seq its.toArray }).update D (Obj.mapSeq fun _ => #[])).push { cls := .type "tuple", data := .seq its.toArray.toList.toArray }) fun b u e => Heap.get?_push_of_some _ e
    have o4 : (((h1.push { cls := .type "list", data := .seq its.toArray }).update D (Obj.mapSeq fun _ => #[])).push { cls := .type "tuple", data := .seq its.toArray.toList.toArray }).get? D = some (seqObj "list" #[] e1) := Heap.get?_push_of_some _ o3
    generalize hh4 : ((h1.push { cls := .type "list", data := .seq its.toArray }).update D (Obj.mapSeq fun _ => #[])).push { cls := .type "tuple", data := .seq its.toArray.toList.toArray } = h4 at I4 o4 ⊢
    refine wpAny_bind (wpAny_newList ?_ (Nat.zero_le _))
    have nK : upd H D (.lst []) h4.objs.size = none := I4.fresh
    have I5 := I4.lnew (its := []) (ys := []) (t' := s.toks) .nil (Nat.zero_le _)
    generalize hkS : h4.objs.size = kS at I5 nK ⊢
    have neK : kS ≠ D := fun z => by rw [z, upd_same] at nK; cases nK
    have nKH : H kS = none := by rw [upd_ne neK] at nK; exact nK
    have o5 : (h4.push { cls := .type "list", data := .seq (#[] : Array Value) }).get? D = some (seqObj "list" #[] e1) := Heap.get?_push_of_some _ o4
    have hD5 : upd (upd H D (.lst [])) kS (.lst []) D = some (.lst []) := (upd_ne neK.symm).trans upd_same
    have hnD := I5.nofrz hD5 trivial
    obtain ⟨od, I6⟩ := I5.lock hD5 trivial
    have eod : od = seqObj "list" #[] e1 := by
      have q := (I6.hok D _ upd_same).1
      have q2 : some od = some (seqObj "list" #[] e1) := q.symm.trans o5
      exact Option.some.inj q2
    subst eod
    refine wpAny_holding ?_
    unfold ksk_rest
    refine wpAny_bind (wpAny_rule ?_)
    rw [List.forIn_toArray]
    have hS0 : Same H (upd (upd (upd H D (.lst [])) kS (.lst [])) D (.frz (seqObj "list" #[] e1) (.lst []))) := fun b o e => by
      rw [upd_ne (ne_of_none e hDn), upd_ne (ne_of_none e nKH), upd_ne (ne_of_none e hDn)]
      exact e
    refine wpAny_bind (ksk_fold (fun i s' => ∃ H', Inv X pins σ H' s' ∧ Same H H' ∧ H' D = some (.frz (seqObj "list" #[] e1) (.lst [])) ∧ H' kS = some (.lst (((ns.map g).take i).map V.int))) its 0 _
      ⟨_, I6, hS0, upd_same, (upd_ne neK).trans upd_same⟩ ?step ?last)
    case step =>
      rintro j u s' hu ⟨H', I', hS, hD', hK'⟩
      rw [Nat.zero_add] at hK' ⊢
      have hj : j < its.length := (List.getElem?_eq_some_iff.mp hu).1
      obtain ⟨n, hn⟩ : ∃ n, ns[j]? = some n := ⟨_, List.getElem?_eq_getElem (by omega)⟩
      obtain ⟨t, ht⟩ := hi.get j n hn
      rw [ht] at hu
      cases hu
      refine wpAny_bind (wpAny_attempt (wpAny_mono (run_key (Q := fun v H2 => v = .int (g n) ∧ Same H' H2) F (hr.in1).in1 (fun e => e.in1.in1) hb I' (vs := [.int n]) (.cons ⟨t, rfl⟩ .nil)
        (turn H' n _ hS (List.mem_of_getElem? hn) fun H2 s2 => ⟨rfl, s2⟩)) (fun v sx hq => ?_) fun _ _ e => e))
      obtain ⟨w, H2, I2', rw', ew, s2⟩ := hq
      subst ew
      obtain ⟨t2, rfl⟩ := rw'
      dsimp only
      have hK2 := s2 _ _ hK'
      obtain ⟨zK, kits, nK2, kv, kl, ke⟩ := I2'.lstM hK2
      have hkl : kits.length ≤ j := by
        rw [← kl, List.length_map, List.length_take]
        omega
      refine wpAny_bind (listUpdate_at ke rfl ?_ (by rw [List.size_toArray]; omega) (by rw [Array.size_push, List.size_toArray]; omega))
      have I3' := I2'.lset (f := fun z => z.push (.int (g n) t2)) (its' := kits ++ [.int (g n) t2]) (ys := ((ns.map g).take j).map V.int ++ [.int (g n)]) (t' := sx.toks) hK2 ke (by simp) (kv.append (ws := [.int (g n) t2]) (.cons (show RelV (.int (g n)) (.int (g n) t2) from ⟨t2, rfl⟩) .nil)) (by
        rw [List.length_append, kl, List.length_singleton]
        omega)
      refine wpAny_pure ⟨rfl, _, I3', (hS.trans s2).upd_own nKH, (upd_ne neK.symm).trans (s2 _ _ hD'), ?_⟩
      rw [upd_same]
      have e : (ns.map g).take (j + 1) = (ns.map g).take j ++ [g n] := by
        rw [List.take_add_one, List.getElem?_map, hn]; rfl
      rw [e, List.map_append]
      rfl
    case last =>
      rintro s' ⟨H', I', hS, hD', hK'⟩
      rw [Nat.zero_add, hil, List.take_of_length_le (by rw [List.length_map]; omega)] at hK'
      obtain ⟨zK, kits, nK2, kv, kl, ke⟩ := I'.lstM hK'
      refine wpAny_bind (listItems_at ke rfl ?_)
      refine sortK_end I' hD' hnD hK' kv.ints (by rw [List.length_map, hil]) hz2 fun out s3 ko hI => ⟨_, rfl, ?_⟩
      obtain ⟨ys, hy, sb⟩ := sorted_by hi ko
      exact wpAny_pure ⟨_, rfl, .ref D, _, hI _ (vals_of_ints hy), rfl, done _ ys D ((hS.upd_own nKH).upd_own hDn) hDn upd_same sb⟩
/-! ### min(xs, key = f): the first of those whose key is least -/
def FirstMin (kf : Nat → Int) (n i : Nat) : Prop := ∀ j, j < n → kf i ≤ kf j ∧ (j < i → kf i < kf j)
def MinK (K : PySem.W.Frag) (sp : Sp) (H : Hp) (a : Addr) (Q : VK) : Prop := ∃ (xs : List V) (kf : Nat → Int), SqL K H a xs ∧ 0 < xs.length ∧
  (∀ (H' : Hp) (i : Nat) (x : V) (Q' : VK), Same H H' → xs[i]? = some x → (∀ H2, Same H' H2 → Q' (.int (kf i)) H2) → sp [x] H' Q' E0) ∧
  ∀ (H' : Hp) (i : Nat) (x : V), Same H H' → xs[i]? = some x → FirstMin kf xs.length i → Q x H'
/-- the best so far: none, or that of the first j -/
def BestSo (xs : List V) (kf : Nat → Int) (j : Nat) (b : List V) : Prop := (j = 0 ∧ b = []) ∨ ∃ i x, i < j ∧ xs[i]? = some x ∧ FirstMin kf j i ∧ b = [x, .int (kf i)]
theorem minK_loop {x : Str} {a it S : Addr} {H0 : Hp} {xs : List V} {kf : Nat → Int} {R : Result → Shared → Prop} (F : FnOk X.prog X.w X.K X.mg X.base CX0 k f fd [x] sp) (hr : Room (k + 1) X.A) (hb : Binds X.K fd [x] []) (hc : X.calm = true)
    (hs : SqL X.K H0 a xs) (hne : 0 < xs.length) (nS : H0 S = none)
    (turn : ∀ (H' : Hp) (i : Nat) (x : V) (Q' : VK), Same H0 H' → xs[i]? = some x → (∀ H2, Same H' H2 → Q' (.int (kf i)) H2) → sp [x] H' Q' E0)
    (done : ∀ (H' : Hp) (i : Nat) (x : V) (u : Value) (s' : Shared), Same H0 H' → xs[i]? = some x → FirstMin kf xs.length i → RelV x u → Inv X pins σ H' s' → R (.ok (.ret u)) s') :
    ∀ (r j : Nat) (H : Hp) (s : Shared) (b : List V), xs.length - j = r → j ≤ xs.length → Inv X pins σ H s → Same H0 H → s.heap.IsListIter it a j → FpOk X pins H it → H S = some (.lst b) → BestSo xs kf j b →
      codeAny (model X.prog X.w) X.A (.builtin "min.loop" ⟨[.ref it, .ref f, .ref S], []⟩) R s := by
  have hname : (toString "min" ++ toString ".loop" : String) = "min.loop" := by decide
  intro r
  induction r with
  | zero =>
    intro j H s b hrj hj I hS hit fp hb1 hbest
    have ej : j = xs.length := by omega
    subst ej
    obtain ⟨its, rv, p, hz⟩ := I.list (hS.seq hs)
    obtain ⟨f0, f1, f2, f3, f4, f5⟩ := fp
    rcases hbest with ⟨z, _⟩ | ⟨i, y, hi, hy, fm, rfl⟩
    · omega
    obtain ⟨_, bits, n, bv, _, be⟩ := I.lstM hb1
    obtain ⟨u, w2, rfl, ru, t, rfl⟩ := vals2 bv
    refine codeAny_builtin PySem.F.entry_min_loop ?_
    rw [Around.under_plainId PySem.F.plain_min_loop _]
    show wpAny _ X.A.in1 (seqItems? (.ref S) >>= _) _ _ _
    refine wpAny_bind (wpAny_seqItems be rfl ?_)
    show wpAny _ X.A.in1 (tryCatch (pyNext (.ref it)) _ >>= _) _ _ _
    refine wpAny_bind (wpAny_tryCatch (wpAny_pyNext_list_end (A := X.A.in1) (I.ok.hd hc) hit p.isList (by simp [rv.length]) fun h' eb => ?_))
    have I1 : Inv X pins σ H { s with heap := h' } := I.turned (t' := s.toks) (fun b o hb e => eb b o hb e) f0 f1 f3 f4 f5
    have nSi : S ≠ it := fun z => by rw [z, f0] at hb1; cases hb1
    have be1 := eb S _ nSi be
    have I2 := I1.lset (f := fun _ => #[]) (its' := []) (ys := []) (t' := s.toks) hb1 be1 rfl .nil (Nat.zero_le _)
    show wpAny _ X.A.in1 (updateSeq S (fun _ => #[]) >>= _) _ _ _
    refine wpAny_bind (wpAny_updateSeq be1 rfl (wpAny_bind (wpAny_letGo (wpAny_pure ?_))))
    exact done _ i y u _ (hS.upd_own nS) hy fm ru I2
  | succ r ih =>
    intro j H s b hrj hj I hS hit fp hb1 hbest
    have hlt : j < xs.length := by omega
    obtain ⟨its, rv, p, hz⟩ := I.list (hS.seq hs)
    obtain ⟨f0, f1, f2, f3, f4, f5⟩ := id fp
    obtain ⟨y, hy⟩ : ∃ y, xs[j]? = some y := ⟨_, List.getElem?_eq_getElem hlt⟩
    obtain ⟨u, hu, ru⟩ := rv.get hy
    obtain ⟨_, bits, n, bv, _, be⟩ := I.lstM hb1
    have nSi : S ≠ it := fun z => by rw [z, f0] at hb1; cases hb1
    refine codeAny_builtin PySem.F.entry_min_loop ?_
    rw [Around.under_plainId PySem.F.plain_min_loop _]
    show wpAny _ X.A.in1 (seqItems? (.ref S) >>= _) _ _ _
    refine wpAny_bind (wpAny_seqItems be rfl ?_)
    show wpAny _ X.A.in1 (tryCatch (pyNext (.ref it)) _ >>= _) _ _ _
    refine wpAny_bind (wpAny_tryCatch (wpAny_pyNext_list_item (A := X.A.in1) hit p.isList (x := u) (by simpa using hu) fun h' st' sb => ?_))
    have I1 : Inv X pins σ H { s with heap := h' } := I.turned (t' := s.toks) (fun b o hb e => (sb.2 b hb).trans e) f0 f1 f3 f4 f5
    obtain ⟨oi, hoi, hoc, hod⟩ := id st'
    have I1p := I1.pinned (fp := [it]) (fun b hb => by rw [List.mem_singleton.mp hb]; exact fp) fun b hb => by
      rw [List.mem_singleton.mp hb]
      exact ⟨oi, hoi, fun v z => by rw [hod] at z; cases z⟩
    show wpAny _ X.A.in1 (tryCatch (holding [u] (call (.ref f) [u])) _ >>= _) _ _ _
    refine wpAny_bind (wpAny_tryCatch (wpAny_holding (wpAny_mono (run_key (Q := fun v H2 => v = .int (kf j) ∧ Same H H2) F hr.in1 (fun e => e.in1) hb I1p (vs := [y]) (.cons ru .nil)
      (turn H j y _ hS hy fun H2 s2 => ⟨rfl, s2⟩)) (fun v s2 hq => ?_) fun _ _ e => e)))
    obtain ⟨w2, H2, I2, rw2, ew, sm2⟩ := hq
    subst ew
    obtain ⟨t2, rfl⟩ := rw2
    have pin2 := I2.pin (it, oi) (List.mem_append_right _ (List.mem_append_right _ (mem_pinsAt (List.mem_singleton.mpr rfl) hoi)))
    have hit2 : s2.heap.IsListIter it a (j + 1) := ⟨oi, pin2.1, hoc, hod⟩
    have fp2 : FpOk X pins H2 it := ⟨pin2.2.1, fp.2⟩
    have I3 := I2.unpinned
    have hb2 := sm2 _ _ hb1
    obtain ⟨_, bits2, n2, bv2, _, be2⟩ := I3.lstM hb2
    have nSi2 : it ≠ S := nSi.symm
    -- the new best is written
    have wr : ∀ bw : List Value, bw.toArray.size ≤ 2 → bits2 = bw → ∀ (z : Unit → Sem PySem.Fin), (∀ h3, Inv X pins σ (upd H2 S (.lst [y, .int (kf j)])) { s2 with heap := h3 } → h3.IsListIter it a (j + 1) → wpAny (model X.prog X.w) X.A.in1 (z ()) (fun fin s' => match fin with
        | .done g => R (.ok g) s'
        | .again c' => c'.quiet = true ∧ codeAny (model X.prog X.w) X.A c' R s') (fun e s' => R (.error e) s') { s2 with heap := h3 }) →
        wpAny (model X.prog X.w) X.A.in1 (updateSeq S (fun _ => #[u, .int (kf j) t2]) >>= z) (fun fin s' => match fin with
        | .done g => R (.ok g) s'
        | .again c' => c'.quiet = true ∧ codeAny (model X.prog X.w) X.A c' R s') (fun e s' => R (.error e) s') s2 := by
      intro bw hbw ebw z hz2
      have I4 := I3.lset (f := fun _ => #[u, .int (kf j) t2]) (its' := [u, .int (kf j) t2]) (ys := [y, .int (kf j)]) (t' := s2.toks) hb2 be2 rfl (.cons ru (.cons ⟨t2, rfl⟩ .nil)) (show 2 ≤ sizeLine by decide)
      refine wpAny_bind (wpAny_updateSeq be2 rfl (hz2 _ I4 ⟨oi, (Heap.get?_update_other _ _ nSi).trans pin2.1, hoc, hod⟩) (by rw [ebw]; exact Nat.le_trans hbw (by decide)) (show 2 ≤ sizeLine + 1 by decide))
    rcases hbest with ⟨rfl, rfl⟩ | ⟨i, y0, hi, hy0, fm, rfl⟩
    · cases bv
      cases bv2
      refine wr [] (by decide) rfl _ fun h3 I4 hit4 => ?_
      rw [hname]
      refine wpAny_pure ⟨plainId_quiet PySem.F.plain_min_loop _, ih 1 _ _ _ (by omega) hlt I4 ((hS.trans sm2).upd_own nS) hit4 ⟨(upd_ne nSi2).trans fp2.1, fp2.2⟩ upd_same (.inr ⟨0, y, by decide, hy, fun j' hj' => ?_, rfl⟩)⟩
      have : j' = 0 := by omega
      subst this
      exact ⟨Int.le_refl _, fun z => absurd z (by omega)⟩
    · obtain ⟨u0, w0, rfl, ru0, t0, rfl⟩ := vals2 bv
      obtain ⟨u1, w1, rfl, ru1, t1, rfl⟩ := vals2 bv2
      show wpAny _ X.A.in1 (tryCatch (holding [u, .int (kf j) t2] (richCompare .Lt (.int (kf j) t2) (.int (kf i) t0) >>= _)) _ >>= _) _ _ _
      refine wpAny_bind (wpAny_tryCatch (wpAny_holding (wpAny_bind (CmpOf.ints_lt (A := X.A.in1) (P := fun q v => ∃ t, v = .int (kf q) t) kf (fun _ _ q => q) j i _ _ _ _ _ ⟨t2, rfl⟩ ⟨t0, rfl⟩ ?_))))
      refine wpAny_bind (wpAny_holding (wpAny_truthy_bool (wpAny_bind (wpAny_letGo (wpAny_pure ?_)))))
      by_cases lt : kf j < kf i
      · simp only [lt, decide_true, if_true]
        refine wr [u1, .int (kf i) t1] (Nat.le_refl 2) rfl _ fun h3 I4 hit4 => wpAny_bind (wpAny_letGo ?_)
        rw [hname]
        refine wpAny_pure ⟨plainId_quiet PySem.F.plain_min_loop _, ih (j + 1) _ _ _ (by omega) hlt I4 ((hS.trans sm2).upd_own nS) hit4 ⟨(upd_ne nSi2).trans fp2.1, fp2.2⟩ upd_same (.inr ⟨j, y, by omega, hy, fun j' hj' => ?_, rfl⟩)⟩
        by_cases e : j' = j
        · subst e
          exact ⟨Int.le_refl _, fun z => absurd z (by omega)⟩
        · have := (fm j' (by omega)).1
          exact ⟨by omega, fun _ => by omega⟩
      · simp only [lt, decide_false, Bool.false_eq_true, if_false]
        refine wpAny_bind (wpAny_letGo ?_)
        rw [hname]
        refine wpAny_pure ⟨plainId_quiet PySem.F.plain_min_loop _, ih (j + 1) _ _ _ (by omega) hlt I3 (hS.trans sm2) hit2 fp2 hb2 (.inr ⟨i, y0, by omega, hy0, fun j' hj' => ?_, rfl⟩)⟩
        by_cases e : j' = j
        · subst e
          exact ⟨by omega, fun z => absurd z (by omega)⟩
        · exact fm j' (by omega)
theorem minK_ok {x : Str} {a : Addr} (F : FnOk X.prog X.w X.K X.mg X.base CX0 k f fd [x] sp) (hr : Room (k + 1) X.A) (hb : Binds X.K fd [x] []) (hc : X.calm = true) (I : Inv X pins σ H s) (h : MinK X.K sp H a Q) :
    wpAny (model X.prog X.w) X.A (call (.builtin "min") [.ref a] [(Str.ofString "key", .ref f)]) (EP X pins σ Q) X.xe s := by
  have hname : (toString "min" ++ toString ".loop" : String) = "min.loop" := by decide
  obtain ⟨xs, kf, hs, hne, turn, done⟩ := h
  obtain ⟨its, rv, hl, hz⟩ := I.list hs
  refine kmk_tree PySem.F.kind_min PySem.F.plain_min PySem.F.entry_min (kmk_min_key _ _) ?_
  show wpAny _ X.A.in1 (Builtin.Builtins.bindParams "min" ["key", "default"] 0 ⟨[], [(Str.ofString "key", .ref f)]⟩ >>= _) _ _ s
  refine wpAny_bind (wpAny_of_eq (a := [some (.ref f), none]) rfl ?_)
  refine wpAny_bind (wpAny_pure (wpAny_bind (wpAny_pyIter_list hl.isList ?_)))
  have I1 : Inv X pins σ H { s with heap := s.heap.push { cls := .type "list_iterator", data := .fields #[.ref a, .int 0 0] } } := I.kept (t' := s.toks) fun b u e => Heap.get?_push_of_some _ e
  have fp : FpOk X pins H s.heap.objs.size := I.fpOk (Nat.le_refl _) I.fresh
  have g1 : (s.heap.push { cls := .type "list_iterator", data := .fields #[.ref a, .int 0 0] }).get? s.heap.objs.size = some { cls := .type "list_iterator", data := .fields #[.ref a, .int 0 0] } := Heap.get?_push_size _ rfl
  generalize hh1 : s.heap.push { cls := .type "list_iterator", data := .fields #[.ref a, .int 0 0] } = h1 at I1 g1 ⊢
  refine wpAny_bind (wpAny_newList ?_ (Nat.zero_le _))
  have nS : H h1.objs.size = none := I1.fresh
  have I2 := I1.lnew (its := []) (ys := []) (t' := s.toks) .nil (Nat.zero_le _)
  have neS : s.heap.objs.size ≠ h1.objs.size := Nat.ne_of_lt (Heap.lt_size g1)
  rw [hname]
  refine wpAny_pure ⟨plainId_quiet PySem.F.plain_min_loop _, minK_loop (H0 := H) (xs := xs) (kf := kf) F hr hb hc hs hne nS turn (fun H' i y u s' hS hy fm ru I' => ⟨y, H', I', ru, done H' i y hS hy fm⟩) _ 0 _ _ [] rfl (Nat.zero_le _) I2 (Same.upd_new nS)
    ⟨_, Heap.get?_push_of_some _ g1, rfl, rfl⟩ ⟨(upd_ne neS).trans fp.1, fp.2⟩ upd_same (.inl ⟨rfl, rfl⟩)⟩
end
/-! ### as expressions -/
section
variable {X : Cx} {k : Nat} {f : Addr} {fd : FuncData} {sp : Sp} {x y b : Str} {p p2 kp pos : Pos} {e : Expr} {te : TE}
/-- b(e, key = y), b a builtin: r is what is asked of the list's address -/
def tKey (r : Hp → Addr → VK → Prop) (te : TE) : TE := fun σ H Q => te σ H fun v H1 => ∃ a, v = .ref a ∧ r H1 a Q
theorem pe_key {id : String} {r : Hp → Addr → VK → Prop} (hcall : ∀ (pins : List (Addr × Obj)) (s : Shared) (σ : St) (H : Hp) (a : Addr) (Q : VK), Inv X pins σ H s → r H a Q → wpAny (model X.prog X.w) X.A (call (.builtin id) [.ref a] [(Str.ofString "key", .ref f)]) (EP X pins σ Q) X.xe s)
    (hg : Gl X b) (hm : X.mg b = none) (hv : bootBuiltins b = some (.builtin id)) (hgy : Gl X y) (hmy : X.mg y = some (.ref f)) (he : PE X e te)
    (hn : b ≠ "__name__" := by decide) (hdb : (b == ("__debug__" : Str)) = false := by decide) (hdy : (y == ("__debug__" : Str)) = false := by decide)
    (hst : backTo pos (starEach [e] X.env) = (false, eval e X.env) :: backTo pos (starEach [] X.env) := by rfl) :
    PE X (.Call (.Name b p) [e] [⟨some (Str.ofString "key"), .Name y p2, kp⟩] pos) (tKey r te) := by
  intro pins s σ H Q I h
  refine wpAny_Call_Name_kw (ld_blt I hg hm hv ?_ hn hdb)
  refine callWith_kw (e := e) (rest := []) ?_ hst (by rw [hst]; rfl) rfl rfl
  rw [hst]
  refine Calls.spliced_cons (thn (he pins s σ H _ I h) fun u s1 ⟨v, H1, I1, rv, q1⟩ => Calls.spliced_nil ?_)
  obtain ⟨a, rfl, q⟩ := q1
  obtain rfl : u = Value.ref a := rv
  refine kws_cons (ld_glob I1 hgy hmy (kws_nil ?_) hdy)
  exact hcall pins s1 σ H1 a Q I1 q
end
end L2
namespace FF
open PySem PySem.Spec PyProof.Rows L2
section
variable {X : Cx} {k j : Nat} {sp : Sp} {x y : Str} {p p2 kp pos : Pos} {e : Expr} {te : TE}
theorem pe_sortK (G : GF X.prog X.w X.K X.mg X.base k y [x] sp) (hr : Room j X.A) (hk : k + 2 ≤ j) (hg : Gl X "sorted") (hm : X.mg "sorted" = none) (hgy : Gl X y) (he : PE X e te) (hdy : (y == ("__debug__" : Str)) = false := by decide)
    (hst : backTo pos (starEach [e] X.env) = (false, eval e X.env) :: backTo pos (starEach [] X.env) := by rfl) :
    PE X (.Call (.Name "sorted" p) [e] [⟨some (Str.ofString "key"), .Name y p2, kp⟩] pos) (tKey (SortK X.K sp) te) := by
  obtain ⟨f, fd, F, b, kp', hmy⟩ := G.ex
  exact pe_key (fun pins s σ H a Q I h => sortK_ok F (hr.mono hk) b I h) hg hm boot_sorted hgy hmy he (by decide) (by decide) hdy hst
theorem pe_minK (G : GF X.prog X.w X.K X.mg X.base k y [x] sp) (hr : Room j X.A) (hk : k + 1 ≤ j) (hc : X.calm = true) (hg : Gl X "min") (hm : X.mg "min" = none) (hgy : Gl X y) (he : PE X e te) (hdy : (y == ("__debug__" : Str)) = false := by decide)
    (hst : backTo pos (starEach [e] X.env) = (false, eval e X.env) :: backTo pos (starEach [] X.env) := by rfl) :
    PE X (.Call (.Name "min" p) [e] [⟨some (Str.ofString "key"), .Name y p2, kp⟩] pos) (tKey (MinK X.K sp) te) := by
  obtain ⟨f, fd, F, b, kp', hmy⟩ := G.ex
  exact pe_key (fun pins s σ H a Q I h => minK_ok F (hr.mono hk) b hc I h) hg hm boot_min hgy hmy he (by decide) (by decide) hdy hst
end
theorem xor_sum : ∀ (n m d : Nat), m ≤ n → (m ^^^ d) + 2 * (m &&& d) = m + d
  | 0, m, d, h => by
    have : m = 0 := by omega
    subst this
    simp
  | n + 1, m, d, h => by
    by_cases h0 : m = 0
    · subst h0; simp
    have ih := xor_sum n (m / 2) (d / 2) (by omega)
    have e1 : (m ^^^ d) / 2 = m / 2 ^^^ d / 2 := Nat.xor_div_two
    have e2 : (m &&& d) / 2 = m / 2 &&& d / 2 := Nat.and_div_two
    have e3 : (m ^^^ d) % 2 = (m % 2 + d % 2) % 2 := by
      have := Nat.xor_mod_two_pow (a := m) (b := d) (n := 1)
      rw [Nat.pow_one] at this
      rw [this]
      have h1 : m % 2 = 0 ∨ m % 2 = 1 := by omega
      have h2 : d % 2 = 0 ∨ d % 2 = 1 := by omega
      rcases h1 with h1 | h1 <;> rcases h2 with h2 | h2 <;> rw [h1, h2] <;> rfl
    have e4 : (m &&& d) % 2 = (m % 2) * (d % 2) := by
      have := Nat.and_mod_two_pow (a := m) (b := d) (n := 1)
      rw [Nat.pow_one] at this
      rw [this]
      have h1 : m % 2 = 0 ∨ m % 2 = 1 := by omega
      have h2 : d % 2 = 0 ∨ d % 2 = 1 := by omega
      rcases h1 with h1 | h1 <;> rcases h2 with h2 | h2 <;> rw [h1, h2] <;> rfl
    rw [← e1, ← e2] at ih
    have h1 : m % 2 = 0 ∨ m % 2 = 1 := by omega
    have h2 : d % 2 = 0 ∨ d % 2 = 1 := by omega
    rcases h1 with h1 | h1 <;> rcases h2 with h2 | h2 <;> rw [h1, h2] at e3 e4 <;> omega
theorem xor_nat (m d : Nat) : Builtin.bitXor (m : Int) (d : Int) = ((m ^^^ d : Nat) : Int) := by
  rw [bitXor_and, and_nat]
  have := xor_sum m m d (Nat.le_refl _)
  omega
section
variable {X : Cx}
theorem cr_anyK (K : PySem.W.Frag) (hK : X.K = K) (hc : X.calm = true) : CallR X (.builtin "any") (rAny K) := by
  subst hK
  exact cr_any hc
theorem cr_sumK (K : PySem.W.Frag) (hK : X.K = K) (hc : X.calm = true) : CallR X (.builtin "sum") (rSum K) := by
  subst hK
  exact cr_sum hc
/-- an int as a test -/
def tI (t : TE) : TT := fun σ H Q => t σ H fun x H1 => ∃ i, x = .int i ∧ Q (i != 0) H1
theorem pt_int {e : Expr} {t : TE} (h : PE X e t) (he : ∀ whole, isTrue e X.env whole = (do let v ← whole; standAt e.pos; holding [v] (truthy v)) := by intro _; rfl) : PT X e (tI t) := by
  intro pins s σ H Q I hw
  refine isTrue_plain (thn (h pins s σ H _ I hw) fun v s1 ⟨x, H1, I1, r1, q1⟩ => ?_) (he _)
  obtain ⟨i, rfl, q⟩ := q1
  obtain ⟨t, rfl⟩ := r1
  exact PySem.P.truthy_int ⟨H1, I1, q⟩
end
end FF

set_option Elab.async false
set_option linter.all false
set_option maxRecDepth 100000
set_option maxHeartbeats 4000000
namespace FF
open PySem PySem.Spec PyProof.Rows L2
/-! ### the text by places -/
def top (i : Nat) : Stmt := PySem.Challenge.pw_faultfinder_s01_answers.main.body.getD i (.Pass ⟨0, 0, 0, 0⟩)
structure Adr where
  CG : Addr
  CW : Addr
  CT : Addr
  CC : Addr
  aGV : Addr
  aHO : Addr
def givesRow (k : Nat) : List Int := if k = 0 then [0, 0, 1] else if k = 1 then [0, 1, 1] else if k = 2 then [0, 1, 0] else if k = 3 then [1, 1, 0] else [1, 0, 0]
structure Txt (K : PySem.W.Frag) (mg : Str → Option Value) (A : Adr) : Prop where
  cl_Gate : Cls K A.CG
  cl_Way : Cls K A.CW
  cl_Test : Cls K A.CT
  cl_Circuit : Cls K A.CC
  n_kind : NoAttr K A.CG "kind"
  n_a : NoAttr K A.CG "a"
  n_b : NoAttr K A.CG "b"
  n_wrong : NoAttr K A.CW "wrong"
  n_gave : NoAttr K A.CW "gave"
  n_ways : NoAttr K A.CT "ways"
  n_measured : NoAttr K A.CT "measured"
  n_inputs : NoAttr K A.CC "inputs"
  n_gates : NoAttr K A.CC "gates"
  n_tests : NoAttr K A.CC "tests"
  g_BEGIN : ∃ t, mg "BEGIN" = some (.int 0 t)
  g_GATE : ∃ t, mg "GATE" = some (.int 1 t)
  g_TEST : ∃ t, mg "TEST" = some (.int 2 t)
  g_SEEN : ∃ t, mg "SEEN" = some (.int 3 t)
  g_EXPLAINS : ∃ t, mg "EXPLAINS" = some (.int 4 t)
  g_LEAST : ∃ t, mg "LEAST" = some (.int 5 t)
  g_SUSPECTS : ∃ t, mg "SUSPECTS" = some (.int 6 t)
  g_SURE : ∃ t, mg "SURE" = some (.int 7 t)
  g_MAY : ∃ t, mg "MAY" = some (.int 8 t)
  g_NOT_THERE : ∃ t, mg "NOT_THERE" = some (.int (-2) t)
  g_ALL_MEASURED : ∃ t, mg "ALL_MEASURED" = some (.int (-6) t)
  g_NO_WAY : ∃ t, mg "NO_WAY" = some (.int (-61) t)
  g_BUSY : ∃ t, mg "BUSY" = some (.int (-16) t)
  g_MEASURED_ALREADY : ∃ t, mg "MEASURED_ALREADY" = some (.int (-17) t)
  g_NOT_VALID : ∃ t, mg "NOT_VALID" = some (.int (-22) t)
  g_FULL : ∃ t, mg "FULL" = some (.int (-28) t)
  g_MOST_INPUTS : ∃ t, mg "MOST_INPUTS" = some (.int 4 t)
  g_MOST_GATES : ∃ t, mg "MOST_GATES" = some (.int 8 t)
  g_MOST_TESTS : ∃ t, mg "MOST_TESTS" = some (.int 6 t)
  g_GIVES : mg "GIVES" = some (.ref A.aGV)
  g_HANDED_OVER : mg "HANDED_OVER" = some (.ref A.aHO)
  gives : ∃ rs : List Addr, rs.length = 5 ∧ (∀ H, SqT K H A.aGV (rs.map V.ref)) ∧ ∀ (k : Nat) (r : Addr), rs[k]? = some r → ∀ H, SqT K H r ((givesRow k).map V.int)
  handed : ∀ H, SqT K H A.aHO (([1, 3, 1, 3, 1, 0, 0, 0, 3, 1] : List Int).map V.int)
  no_len : mg "len" = none
  no_range : mg "range" = none
  no_enumerate : mg "enumerate" = none
  no_any : mg "any" = none
  no_sum : mg "sum" = none
  no_max : mg "max" = none
  no_min : mg "min" = none
  no_sorted : mg "sorted" = none
/-! ### how the objects lie -/
def gF (g : Kcz6.Gate) : List (Str × V) := [("kind", nV g.kind), ("a", nV g.a), ("b", nV g.b)]
def wF (wrong : Nat) (ga : Addr) : List (Str × V) := [("wrong", nV wrong), ("gave", .ref ga)]
def tF (wa ma : Addr) : List (Str × V) := [("ways", .ref wa), ("measured", .ref ma)]
def cF (n : Nat) (lg lt : Addr) : List (Str × V) := [("inputs", nV n), ("gates", .ref lg), ("tests", .ref lt)]
theorem gF_kind {g : Kcz6.Gate} : (gF g).lookup ("kind" : Str) = some (nV g.kind) := lk_hit
theorem gF_a {g : Kcz6.Gate} : (gF g).lookup ("a" : Str) = some (nV g.a) := (lk_miss (by decide +kernel)).trans lk_hit
theorem gF_b {g : Kcz6.Gate} : (gF g).lookup ("b" : Str) = some (nV g.b) := (lk_miss (by decide +kernel)).trans ((lk_miss (by decide +kernel)).trans lk_hit)
theorem wF_wrong {n : Nat} {a : Addr} : (wF n a).lookup ("wrong" : Str) = some (nV n) := lk_hit
theorem wF_gave {n : Nat} {a : Addr} : (wF n a).lookup ("gave" : Str) = some (V.ref a) := (lk_miss (by decide +kernel)).trans lk_hit
theorem tF_ways {wa ma : Addr} : (tF wa ma).lookup ("ways" : Str) = some (V.ref wa) := lk_hit
theorem tF_measured {wa ma : Addr} : (tF wa ma).lookup ("measured" : Str) = some (V.ref ma) := (lk_miss (by decide +kernel)).trans lk_hit
theorem cF_inputs {n : Nat} {g t : Addr} : (cF n g t).lookup ("inputs" : Str) = some (nV n) := lk_hit
theorem cF_gates {n : Nat} {g t : Addr} : (cF n g t).lookup ("gates" : Str) = some (V.ref g) := (lk_miss (by decide +kernel)).trans lk_hit
theorem cF_tests {n : Nat} {g t : Addr} : (cF n g t).lookup ("tests" : Str) = some (V.ref t) := (lk_miss (by decide +kernel)).trans ((lk_miss (by decide +kernel)).trans lk_hit)
theorem gF_no {g : Kcz6.Gate} {m : Str} (h1 : ¬ m = "kind") (h2 : ¬ m = "a") (h3 : ¬ m = "b") : (gF g).lookup m = none := (lk_miss h1).trans ((lk_miss h2).trans ((lk_miss h3).trans rfl))
theorem wF_no {n : Nat} {a : Addr} {m : Str} (h1 : ¬ m = "wrong") (h2 : ¬ m = "gave") : (wF n a).lookup m = none := (lk_miss h1).trans ((lk_miss h2).trans rfl)
theorem tF_no {wa ma : Addr} {m : Str} (h1 : ¬ m = "ways") (h2 : ¬ m = "measured") : (tF wa ma).lookup m = none := (lk_miss h1).trans ((lk_miss h2).trans rfl)
theorem cF_no {n : Nat} {g t : Addr} {m : Str} (h1 : ¬ m = "inputs") (h2 : ¬ m = "gates") (h3 : ¬ m = "tests") : (cF n g t).lookup m = none := (lk_miss h1).trans ((lk_miss h2).trans ((lk_miss h3).trans rfl))
def GateAt (C : Addr) (H : Hp) (x : Addr) (g : Kcz6.Gate) : Prop := ∃ dx, H x = some (.ins C dx (gF g))
def WayAt (C : Addr) (H : Hp) (x : Addr) (y : Nat × List Bool) : Prop := ∃ dx ga, H x = some (.ins C dx (wF y.1 ga)) ∧ H ga = some (.lst (y.2.map bV))
theorem GateAt.same {C : Addr} {H H' : Hp} {x : Addr} {g : Kcz6.Gate} (h : GateAt C H x g) (s : Same H H') : GateAt C H' x g := let ⟨dx, e⟩ := h; ⟨dx, s _ _ e⟩
theorem WayAt.same {C : Addr} {H H' : Hp} {x : Addr} {y : Nat × List Bool} (h : WayAt C H x y) (s : Same H H') : WayAt C H' x y := let ⟨dx, ga, e, q⟩ := h; ⟨dx, ga, s _ _ e, s _ _ q⟩
section
variable {P : Program} {w : World} {K : PySem.W.Frag} {mg : Str → Option Value} {base : Heap} {f : Addr} {fd : FuncData} {A : Adr}
/-! ### bit_of, has_bit_from -/
abbrev s_bit_of : Stmt := top 26
theorem sc_bit_of : FnScope ["bits", "k"] ["bits", "k"] (defScope s_bit_of) := ⟨rfl, rfl, rfl, by decide +kernel, rfl, by decide +kernel, by decide +kernel⟩
def sp_bit_of : Sp := fun vs H Q _ => ∃ m k : Nat, vs = [nV m, nV k] ∧ Q (bV (Kcz6.bit m k)) H
theorem ok_bit_of (F : Fun K "bit_of" "bit_of" s_bit_of f fd) : FnOk P w K mg base CX0 1 f fd ["bits", "k"] sp_bit_of := by
  refine F.ok sc_bit_of (fun vs H Q E h => ?_) (fun cdv Ar outer s H vs Q E hr h => ?_)
  · obtain ⟨m, k, rfl, _⟩ := h
    rfl
  · obtain ⟨m, k, rfl, q⟩ := h
    refine ⟨_, (pss_one (ps_ret (pe_op op_and (pe_op op_shr (pv 0) (pv 1)) pe_int))), ?_⟩
    refine ⟨_, rfl, _, rfl, _, _, rfl, rfl, Int.natCast_nonneg _, _, _, rfl, rfl, ?_⟩
    show Q (V.int (Builtin.bitAnd ((m : Int) / 2 ^ ((k : Int)).toNat) 1)) H
    rw [bit_int]
    exact q
abbrev s_has_bit_from : Stmt := top 27
theorem sc_has_bit_from : FnScope ["bits", "k"] ["bits", "k"] (defScope s_has_bit_from) := ⟨rfl, rfl, rfl, by decide +kernel, rfl, by decide +kernel, by decide +kernel⟩
def sp_has_bit_from : Sp := fun vs H Q _ => ∃ m k : Nat, vs = [nV m, nV k] ∧ Q (.bl (decide (2 ^ k ≤ m))) H
theorem ok_has_bit_from (F : Fun K "has_bit_from" "has_bit_from" s_has_bit_from f fd) : FnOk P w K mg base CX0 1 f fd ["bits", "k"] sp_has_bit_from := by
  refine F.ok sc_has_bit_from (fun vs H Q E h => ?_) (fun cdv Ar outer s H vs Q E hr h => ?_)
  · obtain ⟨m, k, rfl, _⟩ := h
    rfl
  · obtain ⟨m, k, rfl, q⟩ := h
    refine ⟨_, (pss_one (ps_ret (pe_cmp (pc_gt (pe_op op_shr (pv 0) (pv 1)) pe_int)))), ?_⟩
    refine ⟨_, rfl, _, rfl, _, _, rfl, rfl, Int.natCast_nonneg _, _, _, rfl, rfl, ?_⟩
    show Q (V.bl (decide ((0 : Int) < (m : Int) / 2 ^ ((k : Int)).toNat))) H
    rw [has_int]
    exact q
/-! ### Gate -/
abbrev s_Gate_init : Stmt := inClass (top 22) 0
theorem sc_Gate_init : FnScope ["self", "kind", "a", "b"] ["self", "kind", "a", "b"] (defScope s_Gate_init) := ⟨rfl, rfl, rfl, by decide +kernel, rfl, by decide +kernel, by decide +kernel⟩
def sp_Gate_init (A : Adr) : Sp := fun vs H Q _ => ∃ (p dx : Addr) (g : Kcz6.Gate), vs = [.ref p, nV g.kind, nV g.a, nV g.b] ∧ H p = some (.ins A.CG dx []) ∧ ∀ H', H' p = some (.ins A.CG dx (gF g)) → Keep1 p H H' → Q .non H'
theorem ok_Gate_init (F : Fun K "__init__" "Gate.__init__" s_Gate_init f fd) (T : Txt K mg A) : FnOk P w K mg base CX0 1 f fd ["self", "kind", "a", "b"] (sp_Gate_init A) := by
  refine F.ok sc_Gate_init (fun vs H Q E h => ?_) (fun cdv Ar outer s H vs Q E hr h => ?_)
  · obtain ⟨p, dx, g, rfl, _⟩ := h
    rfl
  · obtain ⟨p, dx, g, rfl, hp, k⟩ := h
    refine ⟨_, (pss_cons (ps_fld (pv 0) (pv 1) rfl)
      (pss_cons (ps_fld (pv 0) (pv 2) rfl)
      (pss_one (ps_fld (pv 0) (pv 3) rfl)))), ?_⟩
    refine ⟨_, rfl, _, rfl, p, _, dx, _, rfl, hp, T.cl_Gate, T.n_kind, (by decide), ?_⟩
    refine ⟨_, rfl, _, rfl, p, _, dx, _, rfl, upd_same, T.cl_Gate, T.n_a, put_lt1, ?_⟩
    refine ⟨_, rfl, _, rfl, p, _, dx, _, rfl, upd_same, T.cl_Gate, T.n_b, put_lt2, ?_⟩
    · refine k _ (upd_same.trans ?_) fun b o e hb => ?_
      · rw [put_nil, put_miss (by decide +kernel), put_nil, put_miss (by decide +kernel), put_miss (by decide +kernel), put_nil]
        rfl
      · rw [upd_ne hb, upd_ne hb, upd_ne hb]
        exact e
abbrev s_Gate_should_give : Stmt := inClass (top 22) 1
theorem sc_Gate_should_give : FnScope ["self", "wires"] ["self", "wires"] (defScope s_Gate_should_give) := ⟨rfl, rfl, rfl, by decide +kernel, rfl, by decide +kernel, by decide +kernel⟩
def sp_Gate_should_give (A : Adr) : Sp := fun vs H Q _ => ∃ (p l : Addr) (g : Kcz6.Gate) (ws : List Bool), vs = [.ref p, .ref l] ∧ GateAt A.CG H p g ∧ H l = some (.lst (ws.map bV)) ∧ g.kind ≤ 4 ∧ g.a < ws.length ∧ g.b < ws.length ∧
  Q (bV (Kcz6.works g (ws.getD g.a false) (ws.getD g.b false))) H
theorem gives_at {g : Kcz6.Gate} (h : g.kind ≤ 4) (x y : Bool) : ∃ z : Nat, bI x + bI y = (z : Int) ∧ (givesRow g.kind)[z]? = some (bI (Kcz6.works g x y)) := by
  refine ⟨(bI x + bI y).toNat, by cases x <;> cases y <;> decide, ?_⟩
  unfold Kcz6.works givesRow
  have h5 : g.kind = 0 ∨ g.kind = 1 ∨ g.kind = 2 ∨ g.kind = 3 ∨ g.kind = 4 := by omega
  rcases h5 with e | e | e | e | e <;> rw [e] <;> cases x <;> cases y <;> rfl
theorem getD_at {ws : List Bool} {i : Nat} (h : i < ws.length) : ws[i]? = some (ws.getD i false) := by
  rw [List.getD, List.getElem?_eq_getElem h]
  rfl
theorem ok_Gate_should_give (F : Fun K "should_give" "Gate.should_give" s_Gate_should_give f fd) (T : Txt K mg A) : FnOk P w K mg base CX0 1 f fd ["self", "wires"] (sp_Gate_should_give A) := by
  refine F.ok sc_Gate_should_give (fun vs H Q E h => ?_) (fun cdv Ar outer s H vs Q E hr h => ?_)
  · obtain ⟨p, l, g, ws, rfl, _⟩ := h
    rfl
  · obtain ⟨p, l, g, ws, rfl, ⟨dx, hp⟩, hl, hk, ha, hb, q⟩ := h
    obtain ⟨rs, h5, hG, hR⟩ := T.gives
    obtain ⟨r, hr5⟩ : ∃ r, rs[g.kind]? = some r := ⟨_, List.getElem?_eq_getElem (by omega)⟩
    obtain ⟨z, ez, hz⟩ := gives_at hk (ws.getD g.a false) (ws.getD g.b false)
    refine ⟨_, (pss_one (ps_ret (pe_ix ix_tup (pe_ix ix_tup (pe_gr rfl T.g_GIVES) (pe_fld (pv 0) rfl) (fun _ _ => rfl)) (pe_op op_add (pe_ix ix_list (pv 1) (pe_fld (pv 0) rfl) (fun _ _ => rfl)) (pe_ix ix_list (pv 1) (pe_fld (pv 0) rfl) (fun _ _ => rfl))) (fun _ _ => rfl)))), ?_⟩
    refine ⟨_, rfl, p, _, dx, _, _, rfl, hp, T.cl_Gate, T.n_kind, gF_kind, _, _, _, _, rfl, rfl, hG H, at_map hr5, ?_⟩
    refine ⟨_, rfl, _, rfl, p, _, dx, _, _, rfl, hp, T.cl_Gate, T.n_a, gF_a, l, _, _, _, rfl, rfl, SqL.of hl, at_map (getD_at ha), ?_⟩
    refine ⟨_, rfl, _, rfl, p, _, dx, _, _, rfl, hp, T.cl_Gate, T.n_b, gF_b, l, _, _, _, rfl, rfl, SqL.of hl, at_map (getD_at hb), ?_⟩
    refine ⟨_, _, rfl, rfl, r, _, _, _, rfl, rfl, hR _ r hr5 H, ?_, q⟩
    rw [ez]
    exact at_map hz
/-! ### Way -/
abbrev s_Way_init : Stmt := inClass (top 23) 0
theorem sc_Way_init : FnScope ["self", "wrong", "gave"] ["self", "wrong", "gave"] (defScope s_Way_init) := ⟨rfl, rfl, rfl, by decide +kernel, rfl, by decide +kernel, by decide +kernel⟩
def sp_Way_init (A : Adr) : Sp := fun vs H Q _ => ∃ (p dx ga : Addr) (n : Nat), vs = [.ref p, nV n, .ref ga] ∧ H p = some (.ins A.CW dx []) ∧ ∀ H', H' p = some (.ins A.CW dx (wF n ga)) → Keep1 p H H' → Q .non H'
theorem ok_Way_init (F : Fun K "__init__" "Way.__init__" s_Way_init f fd) (T : Txt K mg A) : FnOk P w K mg base CX0 1 f fd ["self", "wrong", "gave"] (sp_Way_init A) := by
  refine F.ok sc_Way_init (fun vs H Q E h => ?_) (fun cdv Ar outer s H vs Q E hr h => ?_)
  · obtain ⟨p, dx, ga, n, rfl, _⟩ := h
    rfl
  · obtain ⟨p, dx, ga, n, rfl, hp, k⟩ := h
    refine ⟨_, (pss_cons (ps_fld (pv 0) (pv 1) rfl)
      (pss_one (ps_fld (pv 0) (pv 2) rfl))), ?_⟩
    refine ⟨_, rfl, _, rfl, p, _, dx, _, rfl, hp, T.cl_Way, T.n_wrong, (by decide), ?_⟩
    refine ⟨_, rfl, _, rfl, p, _, dx, _, rfl, upd_same, T.cl_Way, T.n_gave, put_lt1, ?_⟩
    refine k _ (upd_same.trans ?_) fun b o e hb => ?_
    · rw [put_nil, put_miss (by decide +kernel), put_nil]
      rfl
    · rw [upd_ne hb, upd_ne hb]
      exact e
theorem or_eq_int (m d : Nat) : decide (Builtin.bitOr (m : Int) (d : Int) = (d : Int)) = decide (m ||| d = d) := by
  rw [or_nat, Bool.eq_iff_iff, decide_eq_true_iff, decide_eq_true_iff]
  omega
end
end FF

set_option Elab.async false
set_option linter.all false
set_option maxRecDepth 100000
set_option maxHeartbeats 4000000
namespace FF
open PySem PySem.Spec PyProof.Rows L2
theorem bI_eq (a b : Bool) : decide (bI a = bI b) = (a == b) := by cases a <;> cases b <;> decide
theorem filter_snoc {α : Type} (p : α → Bool) (l : List α) (x : α) : (l ++ [x]).filter p = l.filter p ++ (if p x = true then [x] else []) := by
  rw [List.filter_append, List.filter_cons]
  by_cases h : p x = true
  · rw [if_pos h, if_pos h]; rfl
  · rw [if_neg h, if_neg h]; rfl
/-- over enumerate of a list that the body leaves as it is -/
theorem for_enum {K : PySem.W.Frag} {a : Addr} {xs : List V} {g : TG} {tb : TS} {D : Ends} {σ : L2.St} {H : Hp} (Pv : Nat → L2.St → Hp → Prop) (h0 : Pv 0 σ H) (hl : ∀ i σ H, i ≤ xs.length → Pv i σ H → SqL K H a xs)
    (hs : ∀ i x σ H T, xs[i]? = some x → Pv i σ H → H T = none → g (.ref T) σ (upd H T (.tup [.int ((i : Nat) : Int), x])) fun σ2 H2 => tb { D with nx := Pv (i + 1), ct := Pv (i + 1), bk := D.nx } σ2 H2) (hd : ∀ σ H, Pv xs.length σ H → D.nx σ H) :
    ∃ W : Nat → Nat → L2.St → Hp → Prop, (∃ m, W 0 m σ H) ∧ ∀ i m σ H, W i m σ H →
      ((Ite K a).stop i H ∧ D.nx σ H) ∨ ((Ite K a).go i H ∧ ∃ N : L2.St → Hp → Prop, (∀ σ' H', N σ' H' → ∃ m', m' < m ∧ W (i + 1) m' σ' H') ∧ ∀ x H', (Ite K a).yld i H x H' → g x σ H' fun σ2 H2 => tb { D with nx := N, ct := N, bk := D.nx } σ2 H2) := by
  refine ⟨fun i m σ H => m = xs.length - i ∧ i ≤ xs.length ∧ Pv i σ H, ⟨xs.length, by simp, Nat.zero_le _, h0⟩, ?_⟩
  rintro i m σ H ⟨rfl, hi, p⟩
  have q := hl i σ H hi p
  by_cases hlt : i < xs.length
  · refine .inr ⟨⟨xs, xs[i], q, by simp [hlt]⟩, Pv (i + 1), fun σ' H' p' => ⟨xs.length - (i + 1), by omega, rfl, hlt, p'⟩, fun v H' y => ?_⟩
    obtain ⟨T, x, ev, hT, eH, y⟩ := y
    subst ev eH
    exact hs i x σ _ T (y xs q) p hT
  · have e : i = xs.length := by omega
    subst e
    exact .inl ⟨⟨xs, q, Nat.le_refl _⟩, hd σ H p⟩
section
variable {P : Program} {w : World} {K : PySem.W.Frag} {mg : Str → Option Value} {base : Heap} {f : Addr} {fd : FuncData} {A : Adr}
/-! ### Test -/
abbrev s_Test_init : Stmt := inClass (top 24) 0
theorem sc_Test_init : FnScope ["self", "ways"] ["self", "ways"] (defScope s_Test_init) := ⟨rfl, rfl, rfl, by decide +kernel, rfl, by decide +kernel, by decide +kernel⟩
def sp_Test_init (A : Adr) : Sp := fun vs H Q _ => ∃ (p dx wa : Addr), vs = [.ref p, .ref wa] ∧ H p = some (.ins A.CT dx []) ∧
  ∀ H' ma, H' p = some (.ins A.CT dx (tF wa ma)) → H ma = none → H' ma = some (.dK []) → Keep1 p H H' → Q .non H'
theorem ok_Test_init (F : Fun K "__init__" "Test.__init__" s_Test_init f fd) (T : Txt K mg A) : FnOk P w K mg base CX0 1 f fd ["self", "ways"] (sp_Test_init A) := by
  refine F.ok sc_Test_init (fun vs H Q E h => ?_) (fun cdv Ar outer s H vs Q E hr h => ?_)
  · obtain ⟨p, dx, wa, rfl, _⟩ := h
    rfl
  · obtain ⟨p, dx, wa, rfl, hp, k⟩ := h
    refine ⟨_, (pss_cons (ps_fld (pv 0) (pv 1) rfl)
      (pss_one (ps_fld (pv 0) pe_dnewK rfl))), ?_⟩
    refine ⟨_, rfl, _, rfl, p, _, dx, _, rfl, hp, T.cl_Test, T.n_ways, (by decide), ?_⟩
    intro ma hma
    have nm : ma ≠ p := fun e => by rw [e, upd_same] at hma; cases hma
    have hma' : H ma = none := by rw [upd_ne nm] at hma; exact hma
    refine ⟨_, rfl, p, _, dx, _, rfl, (upd_ne (fun e => nm e.symm)).trans upd_same, T.cl_Test, T.n_measured, put_lt1, ?_⟩
    refine k _ ma (upd_same.trans ?_) hma' ((upd_ne nm).trans upd_same) fun b o e hb => ?_
    · rw [put_nil, put_miss (by decide +kernel), put_nil]
      rfl
    · rw [upd_ne hb, upd_ne (ne_of_none e hma'), upd_ne hb]
      exact e
/-- a Test at x: its ways ws (they and their list lie in Hi, which never changes), its dict at ma -/
def TestO (A : Adr) (Hi H : Hp) (x ma : Addr) (ws : List (Nat × List Bool)) (kvs : List (Key × V)) : Prop :=
  Same Hi H ∧ Hi x = none ∧ Hi ma = none ∧ ∃ dx wa was, H x = some (.ins A.CT dx (tF wa ma)) ∧ Hi wa = some (.lst (was.map V.ref)) ∧ Paired (WayAt A.CW Hi) was ws ∧ H ma = some (.dK kvs)
abbrev s_Test_measure : Stmt := inClass (top 24) 1
theorem sc_Test_measure : FnScope ["self", "gate", "value", "way"] ["self", "gate", "value"] (defScope s_Test_measure) := ⟨rfl, rfl, rfl, by decide +kernel, rfl, by decide +kernel, by decide +kernel⟩
def sp_Test_measure (A : Adr) : Sp := fun vs H Q _ => ∃ (x ma : Addr) (Hi : Hp) (ws : List (Nat × List Bool)) (kvs : List (Key × V)) (g : Nat) (v : Bool), vs = [.ref x, nV g, bV v] ∧ TestO A Hi H x ma ws kvs ∧ kvs.length < 1000 ∧ ws.length ≤ 1000 ∧ (∀ y ∈ ws, g < y.2.length) ∧
  ∀ H' dx wa was, H' x = some (.ins A.CT dx (tF wa ma)) → H wa = none → H' wa = some (.lst (was.map V.ref)) → Paired (WayAt A.CW Hi) was (ws.filter fun y => y.2.getD g false == v) → H' ma = some (.dK (putK kvs (Sum.inl (g : Int)) (.bl true))) →
    KeepX [x, ma] H H' → Q .non H'
theorem ok_Test_measure (F : Fun K "measure" "Test.measure" s_Test_measure f fd) (T : Txt K mg A) : FnOk P w K mg base CX0 1 f fd ["self", "gate", "value"] (sp_Test_measure A) := by
  refine F.ok sc_Test_measure (fun vs H Q E h => ?_) (fun cdv Ar outer s H vs Q E hr h => ?_)
  · obtain ⟨x, ma, Hi, ws, kvs, g, v, rfl, _⟩ := h
    rfl
  · obtain ⟨x, ma, Hi, ws, kvs, g, v, rfl, ⟨sm, nx, nma, dx, wa, was, hx, hwa, pw, hma⟩, hkl, hwl, hg, k⟩ := h
    have nd := sc_Test_measure.nd
    have hu := hu_of hr
    refine ⟨_, (pss_cons (ps_dput hu (pe_fld (pv 0) rfl) (pv 1) pe_bl rfl)
      (pss_one (ps_fld (pv 0) (pe_lc rfl nd (pi_list (pe_fld (pv 0) rfl)) (blkOk_by (N := ["self", "gate", "value", "way"]) (sc := defScope s_Test_measure) (own := [("way", 3)]) (by decide +kernel)) (fun _ _ _ _ _ => (pg_name (i := 3) nd rfl (Or.inl rfl))) (fun _ _ _ _ _ => (pts_one (pt_cmp (pc_eqI (pe_ix (ix_listK K rfl) (pe_fldK K rfl (pv 3) rfl) (pv 1) (fun _ _ => rfl)) (pv 2))))) (fun _ _ _ _ _ => (pv 3))) rfl))), ?_⟩
    have nxm : x ≠ ma := ne_of hx hma (by intro z; cases z)
    refine ⟨_, rfl, x, _, dx, _, _, rfl, hx, T.cl_Test, T.n_measured, tF_measured, _, rfl, ma, _, rfl, DPut.k (k := Sum.inl (g : Int)) hma (size_lt (by omega)), ?_⟩
    have hx1 : upd H ma (.dK (putK kvs (Sum.inl (g : Int)) (.bl true))) x = some (.ins A.CT dx (tF wa ma)) := (upd_ne nxm).trans hx
    have sm1 : Same Hi (upd H ma (.dK (putK kvs (Sum.inl (g : Int)) (.bl true)))) := sm.upd_own nma
    refine ⟨_, rfl, x, _, dx, _, _, rfl, hx1, T.cl_Test, T.n_ways, tF_ways, wa, rfl, ⟨_, SqL.of (sm1 _ _ hwa)⟩, fun D hD => ?_⟩
    have nD : Hi D = none := sm1.free hD
    refine lc_list (K := K) (a := wa) (xs := was.map V.ref) (fun i H' => ∃ sel : List Addr, H' = upd (upd H ma (.dK (putK kvs (Sum.inl (g : Int)) (.bl true)))) D (.lst (sel.map V.ref)) ∧ Paired (WayAt A.CW Hi) sel ((ws.take i).filter fun y => y.2.getD g false == v))
      ⟨[], rfl, .nil⟩ (fun i H' _ ⟨sel, e, _⟩ => by rw [e]; exact SqL.of ((sm1.upd_own nD) _ _ hwa)) ?_ ?_
    · rintro i u H' hi ⟨sel, rfl, ps⟩
      obtain ⟨a, ha, rfl⟩ := map_get hi
      obtain ⟨y, hy, wy⟩ := paired_get pw ha
      obtain ⟨dy, ga, hy1, hy2⟩ := wy.same (sm1.upd_own (o := .lst (sel.map V.ref)) nD)
      have hlen : sel.length ≤ 1000 := by
        have e1 := paired_len ps
        have e2 := filter_len (fun y : Nat × List Bool => y.2.getD g false == v) (ws.take i)
        rw [List.length_take] at e2
        omega
      refine ⟨rfl, _, rfl, a, _, dy, _, _, rfl, hy1, T.cl_Way, T.n_gave, wF_gave, _, rfl, ga, _, _, _, rfl, rfl, SqL.of hy2, at_map (getD_at (hg y (List.mem_of_getElem? hy))), _, rfl, _, _, rfl, rfl, _, rfl, ?_⟩
      refine ite2 (fun h => ?_) (fun h => ?_)
      · have h : (y.2.getD g false == v) = true := (bI_eq _ _).symm.trans h
        refine ⟨_, rfl, _, upd_same, size_lt (by rw [List.length_map]; omega), sel ++ [a], ?_, ?_⟩
        · rw [upd_upd, List.map_append]; rfl
        · rw [take_snoc hy, filter_snoc, if_pos h]
          exact paired_snoc ps wy
      · have h : ¬ (y.2.getD g false == v) = true := fun z => h ((bI_eq _ _).trans z)
        refine ⟨sel, rfl, ?_⟩
        rw [take_snoc hy, filter_snoc, if_neg h, List.append_nil]
        exact ps
    · rintro H' ⟨sel, rfl, ps⟩
      rw [List.length_map, paired_len pw, List.take_length] at ps
      have nDx : x ≠ D := ne_of_none hx1 hD
      have hDm : D ≠ ma := fun e => by rw [e, upd_same] at hD; cases hD
      have hD0 : H D = none := by rw [upd_ne hDm] at hD; exact hD
      refine ⟨_, rfl, x, _, dx, _, rfl, (upd_ne nDx).trans hx1, T.cl_Test, T.n_ways, (show 2 < 1000 by decide), ?_⟩
      refine k _ dx D sel (upd_same.trans ?_) hD0 ((upd_ne nDx.symm).trans upd_same) ps ((upd_ne nxm.symm).trans ((upd_ne hDm.symm).trans upd_same)) fun b o e hb => ?_
      · unfold tF
        rw [put_hit]
      · have h1 : b ≠ x := fun z => hb (by simp [z])
        have h2 : b ≠ ma := fun z => hb (by simp [z])
        rw [upd_ne h1, upd_ne (ne_of_none e hD0), upd_ne h2]
        exact e
abbrev s_Test_ways_with : Stmt := inClass (top 24) 2
theorem sc_Test_ways_with : FnScope ["self", "broken", "way"] ["self", "broken"] (defScope s_Test_ways_with) := ⟨rfl, rfl, rfl, by decide +kernel, rfl, by decide +kernel, by decide +kernel⟩
def sp_Test_ways_with (A : Adr) : Sp := fun vs H Q _ => ∃ (x ma : Addr) (Hi : Hp) (ws : List (Nat × List Bool)) (kvs : List (Key × V)) (d : Nat), vs = [.ref x, nV d] ∧ TestO A Hi H x ma ws kvs ∧ ws.length ≤ 1000 ∧
  ∀ H' l was, H l = none → H' l = some (.lst (was.map V.ref)) → Paired (WayAt A.CW Hi) was (ws.filter fun y => decide (y.1 ||| d = d)) → Same H H' → Q (.ref l) H'
theorem ok_Test_ways_with (F : Fun K "ways_with" "Test.ways_with" s_Test_ways_with f fd) (T : Txt K mg A) : FnOk P w K mg base CX0 1 f fd ["self", "broken"] (sp_Test_ways_with A) := by
  refine F.ok sc_Test_ways_with (fun vs H Q E h => ?_) (fun cdv Ar outer s H vs Q E hr h => ?_)
  · obtain ⟨x, ma, Hi, ws, kvs, d, rfl, _⟩ := h
    rfl
  · obtain ⟨x, ma, Hi, ws, kvs, d, rfl, ⟨sm, nx, nma, dx, wa, was, hx, hwa, pw, hma⟩, hwl, k⟩ := h
    have nd := sc_Test_ways_with.nd
    refine ⟨_, (pss_one (ps_ret (pe_lc rfl nd (pi_list (pe_fld (pv 0) rfl)) (blkOk_by (N := ["self", "broken", "way"]) (sc := defScope s_Test_ways_with) (own := [("way", 2)]) (by decide +kernel)) (fun _ _ _ _ _ => (pg_name (i := 2) nd rfl (Or.inl rfl))) (fun _ _ _ _ _ => (pts_one (pt_cmp (pc_eqI (pe_op op_or (pe_fldK K rfl (pv 2) rfl) (pv 1)) (pv 1))))) (fun _ _ _ _ _ => (pv 2))))), ?_⟩
    refine ⟨_, rfl, x, _, dx, _, _, rfl, hx, T.cl_Test, T.n_ways, tF_ways, wa, rfl, ⟨_, SqL.of (sm _ _ hwa)⟩, fun D hD => ?_⟩
    have nD : Hi D = none := sm.free hD
    refine lc_list (K := K) (a := wa) (xs := was.map V.ref) (fun i H' => ∃ sel : List Addr, H' = upd H D (.lst (sel.map V.ref)) ∧ Paired (WayAt A.CW Hi) sel ((ws.take i).filter fun y => decide (y.1 ||| d = d)))
      ⟨[], rfl, .nil⟩ (fun i H' _ ⟨sel, e, _⟩ => by rw [e]; exact SqL.of ((sm.upd_own nD) _ _ hwa)) ?_ ?_
    · rintro i u H' hi ⟨sel, rfl, ps⟩
      obtain ⟨a, ha, rfl⟩ := map_get hi
      obtain ⟨y, hy, wy⟩ := paired_get pw ha
      have wy' := wy.same (sm.upd_own (o := .lst (sel.map V.ref)) nD)
      obtain ⟨dy, ga, hy1, hy2⟩ := wy'
      have hlen : sel.length ≤ 1000 := by
        have e1 := paired_len ps
        have e2 := filter_len (fun y : Nat × List Bool => decide (y.1 ||| d = d)) (ws.take i)
        rw [List.length_take] at e2
        omega
      refine ⟨rfl, _, rfl, a, _, dy, _, _, rfl, hy1, T.cl_Way, T.n_wrong, wF_wrong, _, rfl, _, _, rfl, rfl, _, rfl, _, _, rfl, rfl, _, rfl, ?_⟩
      refine ite2 (fun h => ?_) (fun h => ?_)
      · have h : decide (y.1 ||| d = d) = true := (or_eq_int _ _).symm.trans h
        refine ⟨_, rfl, _, upd_same, size_lt (by rw [List.length_map]; omega), sel ++ [a], ?_, ?_⟩
        · rw [upd_upd, List.map_append]; rfl
        · rw [take_snoc hy, filter_snoc, if_pos h]
          exact paired_snoc ps wy
      · have h : ¬ decide (y.1 ||| d = d) = true := fun z => h ((or_eq_int _ _).trans z)
        refine ⟨sel, rfl, ?_⟩
        rw [take_snoc hy, filter_snoc, if_neg h, List.append_nil]
        exact ps
    · rintro H' ⟨sel, rfl, ps⟩
      rw [List.length_map, paired_len pw, List.take_length] at ps
      exact k _ D sel hD upd_same ps (Same.upd_new hD)
abbrev s_Test_unmeasured_of : Stmt := inClass (top 24) 3
theorem sc_Test_unmeasured_of : FnScope ["self", "gates", "w"] ["self", "gates"] (defScope s_Test_unmeasured_of) := ⟨rfl, rfl, rfl, by decide +kernel, rfl, by decide +kernel, by decide +kernel⟩
def sp_Test_unmeasured_of (A : Adr) : Sp := fun vs H Q _ => ∃ (x ma dx wa : Addr) (kvs : List (Key × V)) (n : Nat) (p : Nat → Bool), vs = [.ref x, nV n] ∧ H x = some (.ins A.CT dx (tF wa ma)) ∧ H ma = some (.dK kvs) ∧ n ≤ 1000 ∧
  (∀ k : Nat, (valV kvs (Sum.inl (k : Int))).isSome = !p k) ∧ ∀ H' l, H l = none → H' l = some (.lst (((List.range n).filter p).map nV)) → Same H H' → Q (.ref l) H'
theorem ok_Test_unmeasured_of (F : Fun K "unmeasured_of" "Test.unmeasured_of" s_Test_unmeasured_of f fd) (T : Txt K mg A) : FnOk P w K mg base CX0 1 f fd ["self", "gates"] (sp_Test_unmeasured_of A) := by
  refine F.ok sc_Test_unmeasured_of (fun vs H Q E h => ?_) (fun cdv Ar outer s H vs Q E hr h => ?_)
  · obtain ⟨x, ma, dx, wa, kvs, n, p, rfl, _⟩ := h
    rfl
  · obtain ⟨x, ma, dx, wa, kvs, n, p, rfl, hx, hma, hn, hp, k⟩ := h
    have nd := sc_Test_unmeasured_of.nd
    have hu := hu_of hr
    refine ⟨_, (pss_one (ps_ret (pe_lc rfl nd (pi_range1 rfl T.no_range (pa_cons (pv 1) pa_nil)) (blkOk_by (N := ["self", "gates", "w"]) (sc := defScope s_Test_unmeasured_of) (own := [("w", 2)]) (by decide +kernel)) (fun _ _ _ _ _ => (pg_name (i := 2) nd rfl (Or.inl rfl))) (fun _ _ _ _ _ => (pts_one (pt_cmp (pc_dnotin hu (pv 2) (pe_fldK K rfl (pv 0) rfl))))) (fun _ _ _ _ _ => (pv 2))))), ?_⟩
    refine ⟨_, rfl, _, rfl, (by omega), (by omega), fun D hD => ?_⟩
    rw [toNat_cast]
    refine lc_range (fun i H' => H' = upd H D (.lst (((List.range i).filter p).map nV))) rfl ?_ ?_
    · rintro i H' hi rfl
      have s1 : Same H (upd H D (.lst (((List.range i).filter p).map nV))) := Same.upd_new hD
      refine ⟨rfl, _, rfl, _, rfl, x, _, dx, _, _, rfl, s1 _ _ hx, T.cl_Test, T.n_measured, tF_measured, ma, _, rfl, DGet.k (k := Sum.inl ((0 : Int) + (i : Int))) (s1 _ _ hma), _, rfl, ?_⟩
      rw [Int.zero_add, hp i, Bool.not_not]
      have fl : ((List.range i).filter p).length ≤ 1000 := by
        have := List.length_filter_le p (List.range i)
        rw [List.length_range] at this
        omega
      refine ite2 (fun h => ?_) (fun h => ?_)
      · refine ⟨_, rfl, _, upd_same, size_lt (by rw [List.length_map]; omega), ?_⟩
        rw [upd_upd, List.range_succ, filter_snoc, if_pos h, List.map_append]
        rfl
      · rw [List.range_succ, filter_snoc, if_neg h, List.append_nil]
    · rintro H' rfl
      exact k _ D hD upd_same (Same.upd_new hD)
end
end FF

set_option Elab.async false
set_option linter.all false
set_option maxRecDepth 100000
set_option maxHeartbeats 4000000
namespace FF
open PySem PySem.Spec PyProof.Rows L2
/-! ### the heap without what may change -/
def hide (M : List Addr) (H : Hp) : Hp := fun b => if b ∈ M then none else H b
theorem hide_of {M : List Addr} {H : Hp} {b : Addr} {o : HO} (h : H b = some o) (n : b ∉ M) : hide M H b = some o := (if_neg n).trans h
theorem of_hide {M : List Addr} {H : Hp} {b : Addr} {o : HO} (h : hide M H b = some o) : b ∉ M ∧ H b = some o := by
  unfold hide at h
  by_cases hb : b ∈ M
  · rw [if_pos hb] at h; cases h
  · rw [if_neg hb] at h; exact ⟨hb, h⟩
theorem hide_in {M : List Addr} {H : Hp} {b : Addr} (h : b ∈ M) : hide M H b = none := if_pos h
theorem hide_same {M : List Addr} {H : Hp} : Same (hide M H) H := fun _ _ h => (of_hide h).2
theorem hide_keep {M M' : List Addr} {H H' : Hp} (k : KeepX M H H') (f : ∀ b, b ∈ M' → b ∈ M ∨ H b = none) : Same (hide M H) (hide M' H') := fun b o h => by
  obtain ⟨n, e⟩ := of_hide h
  refine hide_of (k b o e n) fun hm => ?_
  rcases f b hm with z | z
  · exact n z
  · rw [e] at z; cases z
/-! ### a Test, a Circuit -/
structure TAt (A : Adr) (M : List Addr) (H : Hp) (gs : List Kcz6.Gate) (x ma : Addr) (τ : Kcz6.Test) : Prop where
  ex : ∃ dx wa was kvs, H x = some (.ins A.CT dx (tF wa ma)) ∧ hide M H wa = some (.lst (was.map V.ref)) ∧ Paired (WayAt A.CW (hide M H)) was (pways gs τ) ∧ H ma = some (.dK kvs) ∧
    (∀ k : Nat, (valV kvs (Sum.inl (k : Int))).isSome = (τ.seen.getD k none).isSome) ∧ kvs.length = (τ.seen.filter Option.isSome).length
def Mof (p lg lt : Addr) (ts : List (Addr × Addr)) : List Addr := p :: lg :: lt :: (ts.map Prod.fst ++ ts.map Prod.snd)
theorem mem_Mof {p lg lt : Addr} {ts : List (Addr × Addr)} {b : Addr} : b ∈ Mof p lg lt ts ↔ b = p ∨ b = lg ∨ b = lt ∨ b ∈ ts.map Prod.fst ∨ b ∈ ts.map Prod.snd := by
  unfold Mof
  rw [List.mem_cons, List.mem_cons, List.mem_cons, List.mem_append]
/-- X: things of others that the object has nothing to do with (they may be changed by others) -/
structure CAt (A : Adr) (X : List Addr) (H : Hp) (p : Addr) (M : List Addr) (s : Kcz6.Abs) : Prop where
  xs : ∀ b, b ∈ X → b ∉ M ∧ ∃ o, H b = some o
  ex : ∃ dx lg lt gas ts, M = Mof p lg lt ts ∧ lg ≠ lt ∧ (ts.map Prod.fst).Nodup ∧ (ts.map Prod.snd).Nodup ∧ H p = some (.ins A.CC dx (cF s.inputs lg lt)) ∧ H lg = some (.lst (gas.map V.ref)) ∧ H lt = some (.lst ((ts.map Prod.fst).map V.ref)) ∧
    Paired (GateAt A.CG (hide (M ++ X) H)) gas s.gates ∧ Paired (fun t τ => TAt A (M ++ X) H s.gates t.1 t.2 τ) ts s.tests
theorem TAt.move {A : Adr} {M M' : List Addr} {H H' : Hp} {gs : List Kcz6.Gate} {x ma : Addr} {τ : Kcz6.Test} (h : TAt A M H gs x ma τ) (hs : Same (hide M H) (hide M' H')) (e1 : ∀ o, H x = some o → H' x = some o) (e2 : ∀ o, H ma = some o → H' ma = some o) :
    TAt A M' H' gs x ma τ := by
  obtain ⟨dx, wa, was, kvs, h1, h2, h3, h4, h5, h6⟩ := h.ex
  exact ⟨dx, wa, was, kvs, e1 _ h1, hs _ _ h2, paired_imp h3 fun a b _ q => q.same hs, e2 _ h4, h5, h6⟩
theorem TAt.tracked {A : Adr} {M : List Addr} {H : Hp} {gs : List Kcz6.Gate} {x ma : Addr} {τ : Kcz6.Test} (h : TAt A M H gs x ma τ) : (∃ o, H x = some o) ∧ ∃ o, H ma = some o := by
  obtain ⟨dx, wa, was, kvs, h1, h2, h3, h4, h5, h6⟩ := h.ex
  exact ⟨⟨_, h1⟩, ⟨_, h4⟩⟩
theorem paired_mem {α β : Type} {F : α → β → Prop} : ∀ {l : List α} {m : List β} {x : α}, Paired F l m → x ∈ l → ∃ y, y ∈ m ∧ F x y
  | _, _, _, .nil, h => by simp at h
  | _, _, _, .cons r t, h => by
    rcases List.mem_cons.mp h with z | z
    · subst z; exact ⟨_, List.mem_cons_self, r⟩
    · obtain ⟨y, hy, q⟩ := paired_mem t z
      exact ⟨y, List.mem_cons_of_mem _ hy, q⟩
theorem CAt.tracked {A : Adr} {X : List Addr} {H : Hp} {p : Addr} {M : List Addr} {s : Kcz6.Abs} (h : CAt A X H p M s) {b : Addr} (hb : b ∈ M) : ∃ o, H b = some o := by
  obtain ⟨dx, lg, lt, gas, ts, rfl, _, _, _, hp, hg, ht, _, pt⟩ := h.ex
  rcases mem_Mof.mp hb with z | z | z | z | z
  · exact ⟨_, z ▸ hp⟩
  · exact ⟨_, z ▸ hg⟩
  · exact ⟨_, z ▸ ht⟩
  · obtain ⟨t, h1, rfl⟩ := List.mem_map.mp z
    obtain ⟨τ, _, q⟩ := paired_mem pt h1
    exact q.tracked.1
  · obtain ⟨t, h1, rfl⟩ := List.mem_map.mp z
    obtain ⟨τ, _, q⟩ := paired_mem pt h1
    exact q.tracked.2
theorem CAt.notin {A : Adr} {X : List Addr} {H : Hp} {p : Addr} {M : List Addr} {s : Kcz6.Abs} (h : CAt A X H p M s) {b : Addr} (hb : H b = none) : b ∉ M := fun hm => by
  obtain ⟨o, e⟩ := h.tracked hm
  rw [e] at hb; cases hb
theorem CAt.notinX {A : Adr} {X : List Addr} {H : Hp} {p : Addr} {M : List Addr} {s : Kcz6.Abs} (h : CAt A X H p M s) {b : Addr} (hb : H b = none) : b ∉ M ++ X := fun hm => by
  rcases List.mem_append.mp hm with z | z
  · exact h.notin hb z
  · obtain ⟨_, o, e⟩ := h.xs b z
    rw [e] at hb; cases hb
/-- what never changes is kept by what changes M alone -/
theorem hide_keepX {X M M' : List Addr} {H H' : Hp} (k : KeepX M H H') (f : ∀ b, b ∈ M' → b ∈ M ∨ H b = none) : Same (hide (M ++ X) H) (hide (M' ++ X) H') :=
  hide_keep (fun b o e n => k b o e fun z => n (List.mem_append_left _ z)) fun b hb => by
    rcases List.mem_append.mp hb with z | z
    · rcases f b z with q | q
      · exact .inl (List.mem_append_left _ q)
      · exact .inr q
    · exact .inl (List.mem_append_right _ z)
theorem xs_keep {X M M' : List Addr} {H H' : Hp} (xs : ∀ b, b ∈ X → b ∉ M ∧ ∃ o, H b = some o) (k : KeepX M H H') (f : ∀ b, b ∈ M' → b ∈ M ∨ H b = none) : ∀ b, b ∈ X → b ∉ M' ∧ ∃ o, H' b = some o := fun b hb => by
  obtain ⟨n, o, e⟩ := xs b hb
  refine ⟨fun hm => ?_, o, k b o e n⟩
  rcases f b hm with z | z
  · exact n z
  · rw [e] at z; cases z
theorem CAt.same {A : Adr} {X : List Addr} {H H' : Hp} {p : Addr} {M : List Addr} {s : Kcz6.Abs} (h : CAt A X H p M s) (sm : Same H H') : CAt A X H' p M s := by
  obtain ⟨dx, lg, lt, gas, ts, e, h0, h1, h2, hp, hg, ht, pg, pt⟩ := h.ex
  have hs : Same (hide (M ++ X) H) (hide (M ++ X) H') := hide_keepX (KeepX.of_same sm) fun b hb => .inl hb
  exact ⟨xs_keep h.xs (KeepX.of_same sm) fun b hb => .inl hb, dx, lg, lt, gas, ts, e, h0, h1, h2, sm _ _ hp, sm _ _ hg, sm _ _ ht, paired_imp pg fun a b _ q => q.same hs, paired_imp pt fun a b _ q => q.move hs (fun o => sm _ o) fun o => sm _ o⟩
/-- a thing of another is new -/
theorem CAt.more {A : Adr} {X : List Addr} {H : Hp} {p q : Addr} {M : List Addr} {s : Kcz6.Abs} {o : HO} (h : CAt A X H p M s) (hq : H q = none) : CAt A (q :: X) (upd H q o) p M s := by
  obtain ⟨dx, lg, lt, gas, ts, e, h0, h1, h2, hp, hg, ht, pg, pt⟩ := h.ex
  have sm : Same H (upd H q o) := Same.upd_new hq
  have hs : Same (hide (M ++ X) H) (hide (M ++ q :: X) (upd H q o)) := fun b u eb => by
    obtain ⟨n, e⟩ := of_hide eb
    refine hide_of (sm _ _ e) fun hm => n ?_
    rcases List.mem_append.mp hm with z | z
    · exact List.mem_append_left _ z
    · rcases List.mem_cons.mp z with z | z
      · rw [z, hq] at e; cases e
      · exact List.mem_append_right _ z
  refine ⟨fun b hb => ?_, dx, lg, lt, gas, ts, e, h0, h1, h2, sm _ _ hp, sm _ _ hg, sm _ _ ht, paired_imp pg fun a b _ q => q.same hs, paired_imp pt fun a b _ q => q.move hs (fun o => sm _ o) fun o => sm _ o⟩
  rcases List.mem_cons.mp hb with z | z
  · subst z
    exact ⟨h.notin hq, o, upd_same⟩
  · obtain ⟨n, u, e⟩ := h.xs b z
    exact ⟨n, u, sm _ _ e⟩
/-- a thing of another is changed -/
theorem CAt.poke {A : Adr} {X : List Addr} {H : Hp} {p q : Addr} {M : List Addr} {s : Kcz6.Abs} {o : HO} (h : CAt A X H p M s) (hq : q ∈ X) : CAt A X (upd H q o) p M s := by
  obtain ⟨dx, lg, lt, gas, ts, e, h0, h1, h2, hp, hg, ht, pg, pt⟩ := h.ex
  have nq := (h.xs q hq).1
  have kp : ∀ b u, b ∈ M → H b = some u → upd H q o b = some u := fun b u hb e => (upd_ne (mem_ne hb nq)).trans e
  have hs : Same (hide (M ++ X) H) (hide (M ++ X) (upd H q o)) := fun b u eb => by
    obtain ⟨n, e⟩ := of_hide eb
    exact hide_of ((upd_ne (fun z => n (by rw [z]; exact List.mem_append_right _ hq))).trans e) n
  have mp : p ∈ M := by rw [e]; exact mem_Mof.mpr (.inl rfl)
  have mg : lg ∈ M := by rw [e]; exact mem_Mof.mpr (.inr (.inl rfl))
  have mt : lt ∈ M := by rw [e]; exact mem_Mof.mpr (.inr (.inr (.inl rfl)))
  refine ⟨fun b hb => ?_, dx, lg, lt, gas, ts, e, h0, h1, h2, kp _ _ mp hp, kp _ _ mg hg, kp _ _ mt ht, paired_imp pg fun a b _ q => q.same hs, paired_imp pt fun a b ha q => q.move hs (fun o => kp _ o ?_) fun o => kp _ o ?_⟩
  · obtain ⟨n, u, eb⟩ := h.xs b hb
    by_cases z : b = q
    · subst z; exact ⟨n, o, upd_same⟩
    · exact ⟨n, u, (upd_ne z).trans eb⟩
  · rw [e]; exact mem_Mof.mpr (.inr (.inr (.inr (.inl (List.mem_map.mpr ⟨a, ha, rfl⟩)))))
  · rw [e]; exact mem_Mof.mpr (.inr (.inr (.inr (.inr (List.mem_map.mpr ⟨a, ha, rfl⟩)))))
/-- what a call of the object is to reach: it stands for s', all but its own things is kept, its new things are new -/
def Prom (A : Adr) (X : List Addr) (p : Addr) (M : List Addr) (H : Hp) (s' : Kcz6.Abs) (Q : VK) (v : V) : Prop :=
  ∀ H' M', CAt A X H' p M' s' → KeepX M H H' → (∀ b, b ∈ M' → b ∈ M ∨ H b = none) → Q v H'
theorem Prom.same {A : Adr} {X : List Addr} {p : Addr} {M : List Addr} {H H' : Hp} {s : Kcz6.Abs} {Q : VK} {v : V} (k : Prom A X p M H s Q v) (h : CAt A X H p M s) (sm : Same H H') : Q v H' := k H' M (h.same sm) (KeepX.of_same sm) fun b hb => .inl hb
def ansV : Kcz6.Ans → V
  | .num v => .int v
  | _ => .non
section
variable {P : Program} {w : World} {K : PySem.W.Frag} {mg : Str → Option Value} {base : Heap} {f : Addr} {fd : FuncData} {A : Adr}
abbrev s_Circuit_init : Stmt := inClass (top 25) 0
theorem sc_Circuit_init : FnScope ["self"] ["self"] (defScope s_Circuit_init) := ⟨rfl, rfl, rfl, by decide +kernel, rfl, by decide +kernel, by decide +kernel⟩
def sp_Circuit_init (A : Adr) : Sp := fun vs H Q _ => ∃ (p dx : Addr), vs = [.ref p] ∧ H p = some (.ins A.CC dx []) ∧ ∀ H' M, CAt A [] H' p M Kcz6.first → Keep1 p H H' → (∀ b, b ∈ M → b = p ∨ H b = none) → Q .non H'
/-- a circuit with two new lists -/
theorem cat_new {X : List Addr} {H : Hp} {p dx lg lt : Addr} {n : Nat} (xs : ∀ b, b ∈ X → b ∉ Mof p lg lt [] ∧ ∃ o, H b = some o) (hp : H p = some (.ins A.CC dx (cF n lg lt))) (hg : H lg = some (.lst [])) (ht : H lt = some (.lst [])) (ne : lg ≠ lt) : CAt A X H p (Mof p lg lt []) ⟨n, [], []⟩ :=
  ⟨xs, dx, lg, lt, [], [], rfl, ne, List.nodup_nil, List.nodup_nil, hp, hg, ht, .nil, .nil⟩
theorem ok_Circuit_init (F : Fun K "__init__" "Circuit.__init__" s_Circuit_init f fd) (T : Txt K mg A) : FnOk P w K mg base CX0 1 f fd ["self"] (sp_Circuit_init A) := by
  refine F.ok sc_Circuit_init (fun vs H Q E h => ?_) (fun cdv Ar outer s H vs Q E hr h => ?_)
  · obtain ⟨p, dx, rfl, _⟩ := h
    rfl
  · obtain ⟨p, dx, rfl, hp, k⟩ := h
    refine ⟨_, (pss_cons (ps_fld (pv 0) pe_int rfl)
      (pss_cons (ps_fld (pv 0) (pe_lst pa_nil) rfl)
      (pss_one (ps_fld (pv 0) (pe_lst pa_nil) rfl)))), ?_⟩
    refine ⟨_, rfl, p, _, dx, _, rfl, hp, T.cl_Circuit, T.n_inputs, (by decide), ?_⟩
    refine ⟨Nat.zero_le _, fun lg hlg => ?_⟩
    have n1 : lg ≠ p := fun e => by rw [e, upd_same] at hlg; cases hlg
    have g1 : H lg = none := by rw [upd_ne n1] at hlg; exact hlg
    refine ⟨_, rfl, p, _, dx, _, rfl, (upd_ne n1.symm).trans upd_same, T.cl_Circuit, T.n_gates, put_lt1, ?_⟩
    refine ⟨Nat.zero_le _, fun lt hlt => ?_⟩
    have n2 : lt ≠ p := fun e => by rw [e, upd_same] at hlt; cases hlt
    have n3 : lt ≠ lg := fun e => by rw [e, upd_ne n1, upd_same] at hlt; cases hlt
    have g2 : H lt = none := by rw [upd_ne n2, upd_ne n3, upd_ne n2] at hlt; exact hlt
    refine ⟨_, rfl, p, _, dx, _, rfl, (upd_ne n2.symm).trans upd_same, T.cl_Circuit, T.n_tests, put_lt2, ?_⟩
    refine k _ (Mof p lg lt []) (cat_new (dx := dx) (fun b hb => absurd hb (by simp)) (upd_same.trans ?_) ?_ ?_ n3.symm) (fun b o e hb => ?_) fun b hb => ?_
    · rw [put_nil, put_miss (by decide +kernel), put_nil, put_miss (by decide +kernel), put_miss (by decide +kernel), put_nil]
      rfl
    · rw [upd_ne n1, upd_ne n3.symm, upd_ne n1, upd_same]
    · rw [upd_ne n2, upd_same]
    · rw [upd_ne hb, upd_ne (ne_of_none e g2), upd_ne hb, upd_ne (ne_of_none e g1), upd_ne hb]
      exact e
    · rcases mem_Mof.mp hb with z | z | z | z | z
      · exact .inl z
      · exact .inr (z ▸ g1)
      · exact .inr (z ▸ g2)
      · simp at z
      · simp at z
abbrev s_Circuit_begin : Stmt := inClass (top 25) 1
theorem sc_Circuit_begin : FnScope ["self", "inputs"] ["self", "inputs"] (defScope s_Circuit_begin) := ⟨rfl, rfl, rfl, by decide +kernel, rfl, by decide +kernel, by decide +kernel⟩
def sp_Circuit_begin (A : Adr) : Sp := fun vs H Q _ => ∃ (X : List Addr) (p : Addr) (M : List Addr) (s : Kcz6.Abs) (n : Nat), vs = [.ref p, nV n] ∧ CAt A X H p M s ∧ Prom A X p M H (Kcz6.step s (.begin_ n)).1 Q (ansV (Kcz6.step s (.begin_ n)).2)
theorem begin_bad {s : Kcz6.Abs} {n : Nat} (h : n = 0 ∨ 4 < n) : Kcz6.step s (.begin_ n) = (s, .num (-22)) := if_pos h
theorem begin_ok {s : Kcz6.Abs} {n : Nat} (h : ¬ (n = 0 ∨ 4 < n)) : Kcz6.step s (.begin_ n) = (⟨n, [], []⟩, .num 0) := if_neg h
theorem ok_Circuit_begin (F : Fun K "begin" "Circuit.begin" s_Circuit_begin f fd) (T : Txt K mg A) : FnOk P w K mg base CX0 1 f fd ["self", "inputs"] (sp_Circuit_begin A) := by
  refine F.ok sc_Circuit_begin (fun vs H Q E h => ?_) (fun cdv Ar outer s H vs Q E hr h => ?_)
  · obtain ⟨X, p, M, s, n, rfl, _⟩ := h
    rfl
  · obtain ⟨X, p, M, s, n, rfl, hC, k⟩ := h
    obtain ⟨dx, lg0, lt0, gas, ts, eM, h0, h1, h2, hp, hg, ht, pg, pt⟩ := hC.ex
    refine ⟨_, (pss_cons (ps_if (PW.pt (pw_or (pt_cmp (pc_lt (pv 1) pe_int)) (pw_or1 (pt_cmp (pc_gt (pv 1) (pe_gi rfl T.g_MOST_INPUTS)))))) (pss_one (ps_ret (pe_gi rfl T.g_NOT_VALID))) pss_nil)
      (pss_cons (ps_fld (pv 0) (pv 1) rfl)
      (pss_cons (ps_fld (pv 0) (pe_lst pa_nil) rfl)
      (pss_cons (ps_fld (pv 0) (pe_lst pa_nil) rfl)
      (pss_one (ps_ret pe_int)))))), ?_⟩
    refine ⟨_, rfl, _, _, rfl, rfl, _, rfl, ite2 (fun c1 => ?_) (fun c1 => ?_)⟩
    · have c1 := of_decide_eq_true c1
      rw [begin_bad (.inl (by omega))] at k
      exact iteT (k.same hC (Same.refl H))
    · refine ⟨_, rfl, _, _, rfl, rfl, _, rfl, ite2 (fun c2 => ?_) (fun c2 => ?_)⟩
      · have c2 := of_decide_eq_true c2
        rw [begin_bad (.inr (by omega))] at k
        exact k.same hC (Same.refl H)
      · rw [decide_eq_true_iff] at c1 c2
        rw [begin_ok (by omega)] at k
        refine ⟨_, rfl, _, rfl, p, _, dx, _, rfl, hp, T.cl_Circuit, T.n_inputs, (show 3 < 1000 by decide), ?_⟩
        refine ⟨Nat.zero_le _, fun lg hlg => ?_⟩
        have n1 : lg ≠ p := fun e => by rw [e, upd_same] at hlg; cases hlg
        have g1 : H lg = none := by rw [upd_ne n1] at hlg; exact hlg
        refine ⟨_, rfl, p, _, dx, _, rfl, (upd_ne n1.symm).trans upd_same, T.cl_Circuit, T.n_gates, Nat.lt_of_le_of_lt (put_le (Nat.le_refl 3)) (by decide), ?_⟩
        refine ⟨Nat.zero_le _, fun lt hlt => ?_⟩
        have n2 : lt ≠ p := fun e => by rw [e, upd_same] at hlt; cases hlt
        have n3 : lt ≠ lg := fun e => by rw [e, upd_ne n1, upd_same] at hlt; cases hlt
        have g2 : H lt = none := by rw [upd_ne n2, upd_ne n3, upd_ne n2] at hlt; exact hlt
        have ef : putF "tests" (.ref lt) (putF "gates" (.ref lg) (putF "inputs" (nV n) (cF s.inputs lg0 lt0))) = cF n lg lt := by
          unfold cF
          rw [put_hit, put_miss (by decide +kernel), put_hit, put_miss (by decide +kernel), put_miss (by decide +kernel), put_hit]
        refine ⟨_, rfl, p, _, dx, _, rfl, (upd_ne n2.symm).trans upd_same, T.cl_Circuit, T.n_tests, ?_, ?_⟩
        · exact Nat.lt_of_le_of_lt (put_le (put_le (Nat.le_refl 3))) (by decide)
        · have mp : p ∈ M := by rw [eM]; exact mem_Mof.mpr (.inl rfl)
          have fr : ∀ b, b ∈ Mof p lg lt [] → b ∈ M ∨ H b = none := fun b hb => by
            rcases mem_Mof.mp hb with z | z | z | z | z
            · exact .inl (z ▸ mp)
            · exact .inr (z ▸ g1)
            · exact .inr (z ▸ g2)
            · simp at z
            · simp at z
          have kx : ∀ o1 o2 o3 o4 o5, KeepX M H (upd (upd (upd (upd (upd H p o1) lg o2) p o3) lt o4) p o5) := fun o1 o2 o3 o4 o5 b o e hb => by
            have hbp : b ≠ p := fun z => hb (z ▸ mp)
            rw [upd_ne hbp, upd_ne (ne_of_none e g2), upd_ne hbp, upd_ne (ne_of_none e g1), upd_ne hbp]
            exact e
          refine k _ (Mof p lg lt []) (cat_new (dx := dx) (xs_keep hC.xs (kx _ _ _ _ _) fr) (upd_same.trans (congrArg (fun q => some (HO.ins A.CC dx q)) ef)) ?_ ?_ n3.symm) (kx _ _ _ _ _) fr
          · rw [upd_ne n1, upd_ne n3.symm, upd_ne n1, upd_same]
          · rw [upd_ne n2, upd_same]
abbrev s_Circuit_gate : Stmt := inClass (top 25) 2
theorem sc_Circuit_gate : FnScope ["self", "kind", "a", "b", "wires"] ["self", "kind", "a", "b"] (defScope s_Circuit_gate) := ⟨rfl, rfl, rfl, by decide +kernel, rfl, by decide +kernel, by decide +kernel⟩
def sp_Circuit_gate (A : Adr) : Sp := fun vs H Q _ => ∃ (X : List Addr) (p : Addr) (M : List Addr) (s : Kcz6.Abs) (g : Kcz6.Gate), vs = [.ref p, nV g.kind, nV g.a, nV g.b] ∧ CAt A X H p M s ∧ WF s ∧ Prom A X p M H (Kcz6.step s (.gate g.kind g.a g.b)).1 Q (ansV (Kcz6.step s (.gate g.kind g.a g.b)).2)
theorem gate_bad {s : Kcz6.Abs} {k x y : Nat} (h : 4 < k ∨ s.inputs + s.gates.length ≤ x ∨ s.inputs + s.gates.length ≤ y) : Kcz6.step s (.gate k x y) = (s, .num (-22)) := if_pos h
theorem gate_busy {s : Kcz6.Abs} {k x y : Nat} (h : ¬ (4 < k ∨ s.inputs + s.gates.length ≤ x ∨ s.inputs + s.gates.length ≤ y)) (h2 : s.tests ≠ []) : Kcz6.step s (.gate k x y) = (s, .num (-16)) := (if_neg h).trans (if_pos h2)
theorem gate_full {s : Kcz6.Abs} {k x y : Nat} (h : ¬ (4 < k ∨ s.inputs + s.gates.length ≤ x ∨ s.inputs + s.gates.length ≤ y)) (h2 : ¬ s.tests ≠ []) (h3 : 8 ≤ s.gates.length) : Kcz6.step s (.gate k x y) = (s, .num (-28)) := (if_neg h).trans ((if_neg h2).trans (if_pos h3))
theorem gate_ok {s : Kcz6.Abs} {k x y : Nat} (h : ¬ (4 < k ∨ s.inputs + s.gates.length ≤ x ∨ s.inputs + s.gates.length ≤ y)) (h2 : ¬ s.tests ≠ []) (h3 : ¬ 8 ≤ s.gates.length) :
    Kcz6.step s (.gate k x y) = ({ s with gates := s.gates ++ [⟨k, x, y⟩] }, .num s.gates.length) := (if_neg h).trans ((if_neg h2).trans (if_neg h3))
theorem ok_Circuit_gate (F : Fun K "gate" "Circuit.gate" s_Circuit_gate f fd) (T : Txt K mg A) (B_Gate : CF P w K mg base A.CG 1 "Gate" ["self", "kind", "a", "b"] (sp_Gate_init A)) :
    FnOk P w K mg base CX0 3 f fd ["self", "kind", "a", "b"] (sp_Circuit_gate A) := by
  refine F.ok sc_Circuit_gate (fun vs H Q E h => ?_) (fun cdv Ar outer s H vs Q E hr h => ?_)
  · obtain ⟨X, p, M, s, g, rfl, _⟩ := h
    rfl
  · obtain ⟨X, p, M, s, g, rfl, hC, wf, k⟩ := h
    obtain ⟨dx, lg, lt, gas, ts, eM, h0, h1, h2, hp, hg, ht, pg, pt⟩ := hC.ex
    obtain ⟨rs, h5, hG, hR⟩ := T.gives
    have lgas := paired_len pg
    have lts := paired_len pt
    have nd := sc_Circuit_gate.nd
    refine ⟨_, (pss_cons (ps_set (i := 4) nd rfl (Or.inl rfl) (pe_op op_add (pe_fld (pv 0) rfl) (pe_callB call_len_seq rfl T.no_len PySem.boot_len (pa_cons (pe_fld (pv 0) rfl) pa_nil))))
      (pss_cons (ps_if (PW.pt (pw_or (pt_cmp (pc_ge (pv 1) (pe_callB call_len_seq rfl T.no_len PySem.boot_len (pa_cons (pe_gr rfl T.g_GIVES) pa_nil)))) (pw_or (pt_cmp (pc_ge (pv 2) (pv 4))) (pw_or1 (pt_cmp (pc_ge (pv 3) (pv 4))))))) (pss_one (ps_ret (pe_gi rfl T.g_NOT_VALID))) pss_nil)
      (pss_cons (ps_if (pt_cmp (pc_gt (pe_callB call_len_seq rfl T.no_len PySem.boot_len (pa_cons (pe_fld (pv 0) rfl) pa_nil)) pe_int)) (pss_one (ps_ret (pe_gi rfl T.g_BUSY))) pss_nil)
      (pss_cons (ps_if (pt_cmp (pc_eqI (pe_callB call_len_seq rfl T.no_len PySem.boot_len (pa_cons (pe_fld (pv 0) rfl) pa_nil)) (pe_gi rfl T.g_MOST_GATES))) (pss_one (ps_ret (pe_gi rfl T.g_FULL))) pss_nil)
      (pss_cons (ps_expr (pe_bm PySem.F.plainAttrs_list PySem.F.slot_list_append PySem.F.type_list_append mt_append (pe_fld (pv 0) rfl) (pa_cons (pe_cf B_Gate hr (by decide) rfl (pa_cons (pv 1) (pa_cons (pv 2) (pa_cons (pv 3) pa_nil)))) pa_nil)))
      (pss_one (ps_ret (pe_op op_sub (pe_callB call_len_seq rfl T.no_len PySem.boot_len (pa_cons (pe_fld (pv 0) rfl) pa_nil)) pe_int)))))))), ?_⟩
    refine ⟨_, rfl, p, _, dx, _, _, rfl, hp, T.cl_Circuit, T.n_inputs, cF_inputs, _, rfl, p, _, dx, _, _, rfl, hp, T.cl_Circuit, T.n_gates, cF_gates, lg, _, rfl, .inl (SqL.of hg), _, _, rfl, rfl, ?_⟩
    refine ⟨_, rfl, A.aGV, _, rfl, .inr (hG H), _, _, rfl, rfl, _, rfl, ite2 (fun c1 => ?_) (fun c1 => ?_)⟩
    · have c1 := of_decide_eq_true c1
      rw [List.length_map, h5] at c1
      rw [gate_bad (.inl (by omega))] at k
      exact iteT (k.same hC (Same.refl H))
    rw [decide_eq_true_iff, List.length_map, h5] at c1
    refine ⟨_, rfl, _, rfl, _, _, rfl, rfl, _, rfl, ite2 (fun c2 => ?_) (fun c2 => ?_)⟩
    · have c2 := of_decide_eq_true c2
      rw [List.length_map, lgas] at c2
      rw [gate_bad (.inr (.inl (by omega)))] at k
      exact iteT (k.same hC (Same.refl H))
    rw [decide_eq_true_iff, List.length_map, lgas] at c2
    refine ⟨_, rfl, _, rfl, _, _, rfl, rfl, _, rfl, ite2 (fun c3 => ?_) (fun c3 => ?_)⟩
    · have c3 := of_decide_eq_true c3
      rw [List.length_map, lgas] at c3
      rw [gate_bad (.inr (.inr (by omega)))] at k
      exact k.same hC (Same.refl H)
    rw [decide_eq_true_iff, List.length_map, lgas] at c3
    have hb : ¬ (4 < g.kind ∨ s.inputs + s.gates.length ≤ g.a ∨ s.inputs + s.gates.length ≤ g.b) := by omega
    refine ⟨_, rfl, p, _, dx, _, _, rfl, hp, T.cl_Circuit, T.n_tests, cF_tests, lt, _, rfl, .inl (SqL.of ht), _, _, rfl, rfl, _, rfl, ite2 (fun c4 => ?_) (fun c4 => ?_)⟩
    · have c4 := of_decide_eq_true c4
      rw [List.length_map, List.length_map, lts] at c4
      rw [gate_busy hb (fun e => by rw [e] at c4; simp at c4)] at k
      exact k.same hC (Same.refl H)
    rw [decide_eq_true_iff, List.length_map, List.length_map, lts] at c4
    have hb2 : ¬ s.tests ≠ [] := fun e => e (List.eq_nil_of_length_eq_zero (by omega))
    refine ⟨_, rfl, p, _, dx, _, _, rfl, hp, T.cl_Circuit, T.n_gates, cF_gates, lg, _, rfl, .inl (SqL.of hg), _, _, rfl, rfl, _, rfl, ite2 (fun c5 => ?_) (fun c5 => ?_)⟩
    · have c5 := of_decide_eq_true c5
      rw [List.length_map, lgas] at c5
      rw [gate_full hb hb2 (by omega)] at k
      exact k.same hC (Same.refl H)
    rw [decide_eq_true_iff, List.length_map, lgas] at c5
    have w8 := wf.g8
    rw [gate_ok hb hb2 (by omega)] at k
    refine ⟨_, rfl, p, _, dx, _, _, rfl, hp, T.cl_Circuit, T.n_gates, cF_gates, .inl ⟨rfl, _, SqL.of hg⟩, _, rfl, _, rfl, _, rfl, fun x dg nx ndg nxd => ?_⟩
    refine ⟨x, dg, g, rfl, upd_same, fun H1 hx kp => ⟨rfl, ?_⟩⟩
    have sm : Same H H1 := Same.made nx ndg kp
    refine ⟨lg, _, _, rfl, rfl, sm _ _ hg, size_lt (by rw [List.length_map]; omega), ?_⟩
    have nlp : p ≠ lg := ne_of hp hg (by intro z; cases z)
    have e1 : upd H1 lg (.lst (gas.map V.ref ++ [V.ref x])) = upd H1 lg (.lst ((gas ++ [x]).map V.ref)) := by rw [List.map_append]; rfl
    rw [e1]
    refine ⟨_, rfl, p, _, dx, _, _, rfl, (upd_ne nlp).trans (sm _ _ hp), T.cl_Circuit, T.n_gates, cF_gates, lg, _, rfl, .inl (SqL.of upd_same), _, _, rfl, rfl, ?_⟩
    have ev : (((gas ++ [x]).map V.ref).length : Int) - 1 = (s.gates.length : Int) := by
      rw [List.length_map, List.length_append, List.length_singleton, lgas]
      omega
    show Q (V.int ((((gas ++ [x]).map V.ref).length : Int) - 1)) _
    rw [ev]
    have mlg : lg ∈ M := by rw [eM]; exact mem_Mof.mpr (.inr (.inl rfl))
    have kx : KeepX M H (upd H1 lg (.lst ((gas ++ [x]).map V.ref))) := fun b o e hb => by
      rw [upd_ne (ne_mem hb mlg)]
      exact sm _ _ e
    have hs : Same (hide (M ++ X) H) (hide (M ++ X) (upd H1 lg (.lst ((gas ++ [x]).map V.ref)))) := hide_keepX kx fun b hb => .inl hb
    refine k _ M ⟨xs_keep hC.xs kx fun b hb => .inl hb, dx, lg, lt, gas ++ [x], ts, eM, h0, h1, h2, (upd_ne nlp).trans (sm _ _ hp), upd_same, (upd_ne h0.symm).trans (sm _ _ ht), ?_, ?_⟩ kx fun b hb => .inl hb
    · refine paired_snoc (paired_imp pg fun a b _ q => q.same hs) ⟨dg, hide_of ((upd_ne (ne_mem (hC.notin nx) mlg)).trans hx) (hC.notinX nx)⟩
    · have e0 : s.tests = [] := Classical.byContradiction hb2
      have e2 : ts = [] := List.eq_nil_of_length_eq_zero (by rw [lts, e0]; rfl)
      show Paired _ ts s.tests
      rw [e0, e2]
      exact .nil
end
end FF

set_option Elab.async false
set_option linter.all false
set_option maxRecDepth 100000
set_option maxHeartbeats 4000000
namespace FF
open PySem PySem.Spec PyProof.Rows L2
theorem cut_drop {xs : List V} {k : Nat} (h : k ≤ xs.length) : cutV xs (some (k : Int)) none = xs.drop k := by
  unfold cutV
  rw [HT.sIx_nat, HT.sIx_none, Nat.min_eq_left h, List.take_of_length_le]
  rw [List.length_drop]
  exact Nat.le_refl _
theorem cut_mid {xs : List V} {i j : Nat} (h : i ≤ j) (h2 : j ≤ xs.length) : cutV xs (some (i : Int)) (some (j : Int)) = (xs.drop i).take (j - i) := by
  unfold cutV
  rw [HT.sIx_nat, HT.sIx_nat, Nat.min_eq_left h2, Nat.min_eq_left (Nat.le_trans h h2)]
theorem wiresF_snoc (f : Nat → Bool) (g : Kcz6.Gate) : ∀ (gs : List Kcz6.Gate) (k : Nat) (l : List Bool), wiresF f k (gs ++ [g]) l =
    wiresF f k gs l ++ [Kcz6.works g ((wiresF f k gs l).getD g.a false) ((wiresF f k gs l).getD g.b false) != f (k + gs.length)]
  | [], k, l => rfl
  | a :: gs, k, l => by
    show wiresF f (k + 1) (gs ++ [g]) _ = wiresF f (k + 1) gs _ ++ _
    rw [wiresF_snoc f g gs]
    rw [show k + 1 + gs.length = k + (a :: gs).length by rw [List.length_cons]; omega]
    rfl
/-- the inputs that a number tells -/
def inB (n i : Nat) : List Bool := (List.range n).map (Kcz6.bit i)
theorem inB_len (n i : Nat) : (inB n i).length = n := by unfold inB; rw [List.length_map, List.length_range]
def NewWay (A : Adr) (H H' : Hp) (x : Addr) (y : Nat × List Bool) : Prop := ∃ dx ga, H' x = some (.ins A.CW dx (wF y.1 ga)) ∧ H' ga = some (.lst (y.2.map bV)) ∧ H x = none ∧ H ga = none
section
variable {P : Program} {w : World} {K : PySem.W.Frag} {mg : Str → Option Value} {base : Heap} {f : Addr} {fd : FuncData} {A : Adr}
abbrev s_Circuit_way : Stmt := inClass (top 25) 14
theorem sc_Circuit_way : FnScope ["self", "inputs", "wrong", "wires", "k", "gate"] ["self", "inputs", "wrong"] (defScope s_Circuit_way) := ⟨rfl, rfl, rfl, by decide +kernel, rfl, by decide +kernel, by decide +kernel⟩
def sp_Circuit_way (A : Adr) : Sp := fun vs H Q _ => ∃ (X : List Addr) (p : Addr) (M : List Addr) (s : Kcz6.Abs) (i wr : Nat), vs = [.ref p, nV i, nV wr] ∧ CAt A X H p M s ∧ WF s ∧
  ∀ H' x, NewWay A H H' x (wr, gaveOf s.gates (inB s.inputs i) wr) → Same H H' → Q (.ref x) H'
theorem ok_Circuit_way (F : Fun K "way" "Circuit.way" s_Circuit_way f fd) (T : Txt K mg A) (B_bit_of : GF P w K mg base 1 "bit_of" ["bits", "k"] sp_bit_of)
    (B_Gate_should_give : MF P w K mg base A.CG 1 "should_give" ["self", "wires"] (sp_Gate_should_give A)) (B_Way : CF P w K mg base A.CW 1 "Way" ["self", "wrong", "gave"] (sp_Way_init A)) :
    FnOk P w K mg base CX0 3 f fd ["self", "inputs", "wrong"] (sp_Circuit_way A) := by
  refine F.ok sc_Circuit_way (fun vs H Q E h => ?_) (fun cdv Ar outer s H vs Q E hr h => ?_)
  · obtain ⟨X, p, M, s, i, wr, rfl, _⟩ := h
    rfl
  · obtain ⟨X, p, M, s, inp, wr, rfl, hC, wf, k⟩ := h
    obtain ⟨dx, lg, lt, gas, ts, eM, h0, h1, h2, hp, hg, ht, pg, pt⟩ := hC.ex
    have lgas := paired_len pg
    have nd := sc_Circuit_way.nd
    have w4 := wf.inp
    have w8 := wf.g8
    refine ⟨_, (pss_cons (ps_setLc (i := 3) rfl nd rfl rfl (sw_true rfl rfl rfl (by decide +kernel)) (pi_range1 rfl T.no_range (pa_cons (pe_fld (pv 0) rfl) pa_nil)) (blkOk_by (N := ["self", "inputs", "wrong", "wires", "k", "gate"]) (sc := defScope s_Circuit_way) (own := [("k", 4)]) (by decide +kernel)) (fun _ _ _ _ _ => (pg_name (i := 4) nd rfl (Or.inl rfl))) (fun _ _ _ _ _ => pts_nil) (fun _ _ _ _ _ => (pe_gf B_bit_of hr (by decide) rfl (pa_cons (pv 1) (pa_cons (pv 4) pa_nil)))))
      (pss_cons (ps_for PassesOwn.never rfl (pi_enum rfl T.no_enumerate (pa_cons (pe_fld (pv 0) rfl) pa_nil)) (pg_tup rfl (pgs_cons (pg_name (i := 4) nd rfl (Or.inl rfl)) (pgs_cons (pg_name (i := 5) nd rfl (Or.inl rfl)) pgs_nil)))
      (pss_one (ps_expr (pe_bm PySem.F.plainAttrs_list PySem.F.slot_list_append PySem.F.type_list_append mt_append (pv 3) (pa_cons (pe_op op_xor (pe_mf (pv 5) T.cl_Gate B_Gate_should_give hr (by decide) (pa_cons (pv 3) pa_nil)) (pe_gf B_bit_of hr (by decide) rfl (pa_cons (pv 2) (pa_cons (pv 4) pa_nil)))) pa_nil)))))
      (pss_one (ps_ret (pe_cf B_Way hr (by decide) rfl (pa_cons (pv 2) (pa_cons (pe_slice sl_list (pv 3) (po_some (pe_fld (pv 0) rfl)) po_none) pa_nil))))))), ?_⟩
    -- wires = [bit_of(inputs, k) for k in range(self.inputs)]
    refine ⟨_, rfl, p, _, dx, _, _, rfl, hp, T.cl_Circuit, T.n_inputs, cF_inputs, _, rfl, (by omega), (by omega), fun D hD => ?_⟩
    refine lc_range (fun i H' => H' = upd H D (.lst ((inB i inp).map bV))) rfl ?_ ?_
    · rintro i H' hi rfl
      refine ⟨rfl, ?_⟩
      refine ⟨_, rfl, _, rfl, inp, i, (by rw [Int.zero_add]; rfl), _, upd_same, size_lt ?_, ?_⟩
      · rw [List.length_map, inB_len]
        rw [toNat_cast] at hi
        omega
      · rw [upd_upd]
        unfold inB
        rw [List.range_succ, List.map_append, List.map_append]
        rfl
    rintro H1 rfl
    rw [toNat_cast]
    have sD : Same H (upd H D (.lst ((inB s.inputs inp).map bV))) := Same.upd_new hD
    -- for k, gate in enumerate(self.gates)
    refine ⟨_, rfl, p, _, dx, _, _, rfl, sD _ _ hp, T.cl_Circuit, T.n_gates, cF_gates, lg, _, rfl, SqL.of (sD _ _ hg), ?_⟩
    refine for_enum (K := K) (a := lg) (xs := gas.map V.ref) (fun i σ H' => ∃ v4 v5 : Option V, σ = [some (.ref p), some (nV inp), some (nV wr), some (.ref D), v4, v5] ∧ Same H H' ∧ H' D = some (.lst ((wiresF (Kcz6.bit wr) 0 (s.gates.take i) (inB s.inputs inp)).map bV)))
      ⟨none, none, rfl, sD, upd_same⟩ (fun i σ H' _ ⟨_, _, _, sm, _⟩ => SqL.of (sm _ _ hg)) ?_ ?_
    · rintro i u σ H' Tp hi ⟨v4, v5, rfl, sm, hD'⟩ hT
      obtain ⟨a, ha, rfl⟩ := map_get hi
      obtain ⟨g, hgi, ga⟩ := paired_get pg ha
      have sT : Same H' (upd H' Tp (.tup [.int ((i : Nat) : Int), V.ref a])) := Same.upd_new hT
      obtain ⟨dg, hga⟩ := ga.same (hide_same.trans (sm.trans sT))
      obtain ⟨wk, wa, wb⟩ := wf.gok i g hgi
      have hi8 : i < s.gates.length := (List.getElem?_eq_some_iff.mp hgi).1
      have wl : (wiresF (Kcz6.bit wr) 0 (s.gates.take i) (inB s.inputs inp)).length = s.inputs + i := by
        rw [wiresF_len, inB_len, List.length_take]
        omega
      refine ⟨Tp, _, rfl, SqT.of upd_same, rfl, _, _, rfl, _, _, rfl, rfl, ?_⟩
      refine ⟨_, rfl, .inl ⟨rfl, _, SqL.of (sT _ _ hD')⟩, _, rfl, a, dg, _, rfl, hga, gF_no (by decide +kernel) (by decide +kernel) (by decide +kernel), _, rfl, a, D, g, _, rfl, ⟨dg, hga⟩, sT _ _ hD', wk, (by omega), (by omega), ?_⟩
      refine ⟨_, rfl, _, rfl, wr, i, rfl, _, _, rfl, rfl, D, _, _, rfl, rfl, sT _ _ hD', size_lt (by rw [List.length_map]; omega), ?_⟩
      refine ⟨_, _, rfl, (sm.trans sT).upd_own hD, ?_⟩
      rw [upd_same]
      dsimp only
      rw [xor_bit, take_snoc hgi, wiresF_snoc, List.map_append, Nat.zero_add, List.length_take, Nat.min_eq_left (by omega)]
      rfl
    rintro σ H' ⟨v4, v5, rfl, sm, hD'⟩
    rw [List.length_map, lgas, List.take_length] at hD'
    -- return Way(wrong, wires[self.inputs:])
    refine ⟨_, rfl, _, rfl, _, rfl, p, _, dx, _, _, rfl, sm _ _ hp, T.cl_Circuit, T.n_inputs, cF_inputs, _, rfl, D, _, rfl, SqL.of hD', fun q hq => ?_⟩
    rw [cut_drop (by rw [List.length_map, wiresF_len, inB_len]; omega)]
    intro x dw nx ndw ne
    refine ⟨x, dw, q, wr, rfl, upd_same, fun H2 hx kp => ⟨rfl, ?_⟩⟩
    have s2 : Same (upd H' q (.lst (((wiresF (Kcz6.bit wr) 0 s.gates (inB s.inputs inp)).map bV).drop s.inputs))) H2 := Same.made nx ndw kp
    have s3 := Same.trans (Same.upd_new (o := .lst (((wiresF (Kcz6.bit wr) 0 s.gates (inB s.inputs inp)).map bV).drop s.inputs)) hq) s2
    refine k H2 x ⟨dw, q, hx, ?_, sm.free ((Same.upd_new hq).free nx), sm.free hq⟩ (sm.trans s3)
    rw [s2 _ _ upd_same]
    unfold gaveOf wires
    rw [inB_len, ← List.map_drop]
abbrev s_Circuit_all_ways : Stmt := inClass (top 25) 13
theorem sc_Circuit_all_ways : FnScope ["self", "inputs", "wrong"] ["self", "inputs"] (defScope s_Circuit_all_ways) := ⟨rfl, rfl, rfl, by decide +kernel, rfl, by decide +kernel, by decide +kernel⟩
def sp_Circuit_all_ways (A : Adr) : Sp := fun vs H Q _ => ∃ (X : List Addr) (p : Addr) (M : List Addr) (s : Kcz6.Abs) (i : Nat), vs = [.ref p, nV i] ∧ CAt A X H p M s ∧ WF s ∧
  ∀ H' l was, H l = none → H' l = some (.lst (was.map V.ref)) → Paired (NewWay A H H') was (pall s.gates (inB s.inputs i)) → Same H H' → Q (.ref l) H'
theorem ok_Circuit_all_ways (F : Fun K "all_ways" "Circuit.all_ways" s_Circuit_all_ways f fd) (T : Txt K mg A) (B_Circuit_way : MF P w K mg base A.CC 3 "way" ["self", "inputs", "wrong"] (sp_Circuit_way A)) :
    FnOk P w K mg base CX0 4 f fd ["self", "inputs"] (sp_Circuit_all_ways A) := by
  refine F.ok sc_Circuit_all_ways (fun vs H Q E h => ?_) (fun cdv Ar outer s H vs Q E hr h => ?_)
  · obtain ⟨X, p, M, s, i, rfl, _⟩ := h
    rfl
  · obtain ⟨X, p, M, s, inp, rfl, hC, wf, k⟩ := h
    obtain ⟨dx, lg, lt, gas, ts, eM, h0, h1, h2, hp, hg, ht, pg, pt⟩ := hC.ex
    have lgas := paired_len pg
    have nd := sc_Circuit_all_ways.nd
    have w8 := wf.g8
    refine ⟨_, (pss_one (ps_ret (pe_lc rfl nd (pi_range1 rfl T.no_range (pa_cons (pe_op op_shl pe_int (pe_callB call_len_seq rfl T.no_len PySem.boot_len (pa_cons (pe_fld (pv 0) rfl) pa_nil))) pa_nil)) (blkOk_by (N := ["self", "inputs", "wrong"]) (sc := defScope s_Circuit_all_ways) (own := [("wrong", 2)]) (by decide +kernel)) (fun _ _ _ _ _ => (pg_name (i := 2) nd rfl (Or.inl rfl))) (fun _ _ _ _ _ => pts_nil) (fun _ _ _ _ _ => (pe_mf (pv 0) T.cl_Circuit B_Circuit_way hr (by decide) (pa_cons (pv 1) (pa_cons (pv 2) pa_nil))))))), ?_⟩
    have en : (1 : Int) * 2 ^ (((gas.map V.ref).length : Int)).toNat = ((2 ^ s.gates.length : Nat) : Int) := by
      have e := shl_nat 1 (gas.map V.ref).length
      rw [List.length_map, lgas, Nat.one_mul] at e
      rw [List.length_map, lgas]
      exact e
    have p8 : 2 ^ s.gates.length ≤ 256 := Nat.pow_le_pow_right (n := 2) (by decide) w8
    refine ⟨_, rfl, p, _, dx, _, _, rfl, hp, T.cl_Circuit, T.n_gates, cF_gates, lg, _, rfl, .inl (SqL.of hg), _, _, rfl, rfl, ⟨Int.natCast_nonneg _, ?_, by decide⟩, ?_⟩
    · rw [List.length_map]
      omega
    refine ⟨_, rfl, ?_, ?_, fun D hD => ?_⟩
    · rw [en]; exact Int.le_trans (by decide) (Int.natCast_nonneg _)
    · rw [en]; exact Int.lt_of_le_of_lt (Int.ofNat_le.mpr p8) (by decide)
    rw [en, toNat_cast]
    refine lc_range (fun i H' => ∃ sel : List Addr, H' D = some (.lst (sel.map V.ref)) ∧ Same H H' ∧ Paired (NewWay A (upd H D (.lst [])) H') sel ((List.range i).map fun w => (w, gaveOf s.gates (inB s.inputs inp) w))) ⟨[], upd_same, Same.upd_new hD, .nil⟩ ?_ ?_
    · rintro i H' hi ⟨sel, hD', sm, ps⟩
      refine ⟨rfl, ?_⟩
      have lsel := paired_len ps
      rw [List.length_map, List.length_range] at lsel
      refine ⟨_, rfl, p, dx, _, rfl, sm _ _ hp, cF_no (by decide +kernel) (by decide +kernel) (by decide +kernel), _, rfl, _, rfl, X, p, M, s, inp, i, (by rw [Int.zero_add]; rfl), hC.same sm, wf, fun H2 x nw s2 => ?_⟩
      refine ⟨_, s2 _ _ hD', size_lt (by rw [List.length_map]; omega), sel ++ [x], ?_, (sm.trans s2).upd_own hD, ?_⟩
      · rw [upd_same, List.map_append]
        rfl
      · rw [List.range_succ, List.map_append]
        have sub : ∀ b, H' b = none → upd H D (.lst []) b = none := fun b e => by
          have hb : b ≠ D := fun z => by rw [z, hD'] at e; cases e
          rw [upd_ne hb]
          exact sm.free e
        have nD : ∀ b, upd H D (.lst []) b = none → b ≠ D := fun b e z => by rw [z, upd_same] at e; cases e
        refine paired_snoc (paired_imp ps fun a b _ q => ?_) ?_
        · obtain ⟨da, ga, q1, q2, q3, q4⟩ := q
          exact ⟨da, ga, (upd_ne (nD _ q3)).trans (s2 _ _ q1), (upd_ne (nD _ q4)).trans (s2 _ _ q2), q3, q4⟩
        · obtain ⟨da, ga, q1, q2, q3, q4⟩ := nw
          exact ⟨da, ga, (upd_ne (nD _ (sub _ q3))).trans q1, (upd_ne (nD _ (sub _ q4))).trans q2, sub _ q3, sub _ q4⟩
    · rintro H' ⟨sel, hD', sm, ps⟩
      refine k H' D sel hD hD' (paired_imp ps fun a b _ q => ?_) sm
      obtain ⟨da, ga, q1, q2, q3, q4⟩ := q
      have sub : ∀ b, upd H D (.lst []) b = none → H b = none := fun b e => by
        by_cases hb : b = D
        · rw [hb]; exact hD
        · rw [upd_ne hb] at e; exact e
      exact ⟨da, ga, q1, q2, sub _ q3, sub _ q4⟩
end
end FF

set_option Elab.async false
set_option linter.all false
set_option maxRecDepth 100000
set_option maxHeartbeats 4000000
namespace FF
open PySem PySem.Spec PyProof.Rows L2
theorem test_bad {s : Kcz6.Abs} {i : Nat} (h : 2 ^ s.inputs ≤ i) : Kcz6.step s (.test i) = (s, .num (-22)) := if_pos h
theorem test_full {s : Kcz6.Abs} {i : Nat} (h : ¬ 2 ^ s.inputs ≤ i) (h2 : 6 ≤ s.tests.length) : Kcz6.step s (.test i) = (s, .num (-28)) := (if_neg h).trans (if_pos h2)
theorem test_ok {s : Kcz6.Abs} {i : Nat} (h : ¬ 2 ^ s.inputs ≤ i) (h2 : ¬ 6 ≤ s.tests.length) :
    Kcz6.step s (.test i) = ({ s with tests := s.tests ++ [⟨inB s.inputs i, List.replicate s.gates.length none⟩] }, .num s.tests.length) := (if_neg h).trans (if_neg h2)
theorem nodup_snoc {l : List Addr} {x : Addr} (h : l.Nodup) (hx : x ∉ l) : (l ++ [x]).Nodup := nd_snoc h hx
theorem pall_len (gs : List Kcz6.Gate) (inp : List Bool) : (pall gs inp).length = 2 ^ gs.length := by
  unfold pall
  rw [List.length_map, List.length_range]
theorem pways_len (gs : List Kcz6.Gate) (t : Kcz6.Test) : (pways gs t).length ≤ 2 ^ gs.length := by
  unfold pways
  exact Nat.le_trans (List.length_filter_le _ _) (Nat.le_of_eq (pall_len _ _))
theorem count_none (n : Nat) : ((List.replicate n (none : Option Bool)).filter Option.isSome).length = 0 := by
  rw [List.filter_eq_nil_iff.mpr]
  · rfl
  · intro a ha
    rw [(List.mem_replicate.mp ha).2]
    simp
theorem count_set {b : Bool} : ∀ {l : List (Option Bool)} {i : Nat}, i < l.length → l.getD i none = none → ((l.set i (some b)).filter Option.isSome).length = (l.filter Option.isSome).length + 1
  | [], i, h, _ => by simp at h
  | a :: r, 0, _, e => by
    have e : a = none := e
    subst e
    rfl
  | a :: r, i + 1, h, e => by
    have ih := count_set (b := b) (l := r) (i := i) (by simpa using h) e
    rw [List.set_cons_succ, List.filter_cons, List.filter_cons]
    split
    · rw [List.length_cons, List.length_cons, ih]
    · exact ih
section
variable {P : Program} {w : World} {K : PySem.W.Frag} {mg : Str → Option Value} {base : Heap} {f : Addr} {fd : FuncData} {A : Adr}
abbrev s_Circuit_test : Stmt := inClass (top 25) 3
theorem sc_Circuit_test : FnScope ["self", "inputs"] ["self", "inputs"] (defScope s_Circuit_test) := ⟨rfl, rfl, rfl, by decide +kernel, rfl, by decide +kernel, by decide +kernel⟩
def sp_Circuit_test (A : Adr) : Sp := fun vs H Q _ => ∃ (X : List Addr) (p : Addr) (M : List Addr) (s : Kcz6.Abs) (i : Nat), vs = [.ref p, nV i] ∧ CAt A X H p M s ∧ WF s ∧ Prom A X p M H (Kcz6.step s (.test i)).1 Q (ansV (Kcz6.step s (.test i)).2)
theorem ok_Circuit_test (F : Fun K "test" "Circuit.test" s_Circuit_test f fd) (T : Txt K mg A) (B_has_bit_from : GF P w K mg base 1 "has_bit_from" ["bits", "k"] sp_has_bit_from)
    (B_Circuit_all_ways : MF P w K mg base A.CC 4 "all_ways" ["self", "inputs"] (sp_Circuit_all_ways A)) (B_Test : CF P w K mg base A.CT 1 "Test" ["self", "ways"] (sp_Test_init A)) :
    FnOk P w K mg base CX0 5 f fd ["self", "inputs"] (sp_Circuit_test A) := by
  refine F.ok sc_Circuit_test (fun vs H Q E h => ?_) (fun cdv Ar outer s H vs Q E hr h => ?_)
  · obtain ⟨X, p, M, s, i, rfl, _⟩ := h
    rfl
  · obtain ⟨X, p, M, s, i, rfl, hC, wf, k⟩ := h
    obtain ⟨dx, lg, lt, gas, ts, eM, h0, h1, h2, hp, hg, ht, pg, pt⟩ := hC.ex
    have lts := paired_len pt
    have w6 := wf.t6
    refine ⟨_, (pss_cons (ps_if (pt_val (pe_gf B_has_bit_from hr (by decide) rfl (pa_cons (pv 1) (pa_cons (pe_fld (pv 0) rfl) pa_nil)))) (pss_one (ps_ret (pe_gi rfl T.g_NOT_VALID))) pss_nil)
      (pss_cons (ps_if (pt_cmp (pc_eqI (pe_callB call_len_seq rfl T.no_len PySem.boot_len (pa_cons (pe_fld (pv 0) rfl) pa_nil)) (pe_gi rfl T.g_MOST_TESTS))) (pss_one (ps_ret (pe_gi rfl T.g_FULL))) pss_nil)
      (pss_cons (ps_expr (pe_bm PySem.F.plainAttrs_list PySem.F.slot_list_append PySem.F.type_list_append mt_append (pe_fld (pv 0) rfl) (pa_cons (pe_cf B_Test hr (by decide) rfl (pa_cons (pe_mf (pv 0) T.cl_Circuit B_Circuit_all_ways hr (by decide) (pa_cons (pv 1) pa_nil)) pa_nil)) pa_nil)))
      (pss_one (ps_ret (pe_op op_sub (pe_callB call_len_seq rfl T.no_len PySem.boot_len (pa_cons (pe_fld (pv 0) rfl) pa_nil)) pe_int)))))), ?_⟩
    refine ⟨_, rfl, _, rfl, p, _, dx, _, _, rfl, hp, T.cl_Circuit, T.n_inputs, cF_inputs, i, s.inputs, rfl, _, rfl, ite2 (fun c1 => ?_) (fun c1 => ?_)⟩
    · rw [test_bad (of_decide_eq_true c1)] at k
      exact k.same hC (Same.refl H)
    rw [decide_eq_true_iff] at c1
    refine ⟨_, rfl, p, _, dx, _, _, rfl, hp, T.cl_Circuit, T.n_tests, cF_tests, lt, _, rfl, .inl (SqL.of ht), _, _, rfl, rfl, _, rfl, ite2 (fun c2 => ?_) (fun c2 => ?_)⟩
    · have c2 := of_decide_eq_true c2
      rw [List.length_map, List.length_map, lts] at c2
      rw [test_full c1 (by omega)] at k
      exact k.same hC (Same.refl H)
    rw [decide_eq_true_iff, List.length_map, List.length_map, lts] at c2
    rw [test_ok c1 (by omega)] at k
    refine ⟨_, rfl, p, _, dx, _, _, rfl, hp, T.cl_Circuit, T.n_tests, cF_tests, .inl ⟨rfl, _, SqL.of ht⟩, _, rfl, p, dx, _, rfl, hp, cF_no (by decide +kernel) (by decide +kernel) (by decide +kernel), _, rfl, X, p, M, s, i, rfl, hC, wf, fun H1 wa was nwa hwa pw s1 => ?_⟩
    intro x dt nx ndt nxd
    refine ⟨x, dt, wa, rfl, upd_same, fun H2 ma hx nma hma kp => ⟨rfl, ?_⟩⟩
    have s2 : Same H1 H2 := Same.made nx ndt kp
    have s12 := s1.trans s2
    have nma1 : H1 ma = none := by
      by_cases e1 : ma = x
      · rw [e1]; exact nx
      · by_cases e2 : ma = dt
        · rw [e2]; exact ndt
        · rw [upd_ne e1, upd_ne e2] at nma; exact nma
    have xma : x ≠ ma := fun e => by rw [← e, hx] at hma; cases hma
    refine ⟨lt, _, _, rfl, rfl, s12 _ _ ht, size_lt (by rw [List.length_map, List.length_map]; omega), ?_⟩
    have e1 : upd H2 lt (.lst ((ts.map Prod.fst).map V.ref ++ [V.ref x])) = upd H2 lt (.lst (((ts ++ [(x, ma)]).map Prod.fst).map V.ref)) := by rw [List.map_append, List.map_append]; rfl
    rw [e1]
    have npt : p ≠ lt := ne_of hp ht (by intro z; cases z)
    refine ⟨_, rfl, p, _, dx, _, _, rfl, (upd_ne npt).trans (s12 _ _ hp), T.cl_Circuit, T.n_tests, cF_tests, lt, _, rfl, .inl (SqL.of upd_same), _, _, rfl, rfl, ?_⟩
    have ev : ((((ts ++ [(x, ma)]).map Prod.fst).map V.ref).length : Int) - 1 = (s.tests.length : Int) := by
      rw [List.length_map, List.length_map, List.length_append, List.length_singleton, lts]
      omega
    show Q (V.int (((((ts ++ [(x, ma)]).map Prod.fst).map V.ref).length : Int) - 1)) _
    rw [ev]
    -- the new state
    have mlt : lt ∈ M := by rw [eM]; exact mem_Mof.mpr (.inr (.inr (.inl rfl)))
    have nxH : H x = none := s1.free nx
    have nmaH : H ma = none := s1.free nma1
    have mM : ∀ b, b ∈ Mof p lg lt (ts ++ [(x, ma)]) → b ∈ M ∨ b = x ∨ b = ma := fun b hb => by
      rw [mem_Mof, List.map_append, List.map_append, List.mem_append, List.mem_append] at hb
      rw [eM, mem_Mof]
      simp only [List.map_cons, List.map_nil, List.mem_singleton] at hb
      rcases hb with z | z | z | (z | z) | (z | z)
      · exact .inl (.inl z)
      · exact .inl (.inr (.inl z))
      · exact .inl (.inr (.inr (.inl z)))
      · exact .inl (.inr (.inr (.inr (.inl z))))
      · exact .inr (.inl z)
      · exact .inl (.inr (.inr (.inr (.inr z))))
      · exact .inr (.inr z)
    have fr : ∀ b, b ∈ Mof p lg lt (ts ++ [(x, ma)]) → b ∈ M ∨ H b = none := fun b hb => by
      rcases mM b hb with z | z | z
      · exact .inl z
      · exact .inr (z ▸ nxH)
      · exact .inr (z ▸ nmaH)
    have kx : KeepX M H (upd H2 lt (.lst (((ts ++ [(x, ma)]).map Prod.fst).map V.ref))) := fun b o e hb => by
      rw [upd_ne (ne_mem hb mlt)]
      exact s12 _ _ e
    have hs := hide_keepX (X := X) kx fr
    have nlx : x ≠ lt := fun e => by rw [e, ht] at nxH; cases nxH
    have nlm : ma ≠ lt := fun e => by rw [e, ht] at nmaH; cases nmaH
    -- what is new behind all_ways lies apart
    have hid : ∀ b o, H b = none → H1 b = some o → hide (Mof p lg lt (ts ++ [(x, ma)]) ++ X) (upd H2 lt (.lst (((ts ++ [(x, ma)]).map Prod.fst).map V.ref))) b = some o := fun b o e0 e => by
      have nb : b ≠ lt := fun z => by rw [z, ht] at e0; cases e0
      refine hide_of ((upd_ne nb).trans (s2 _ _ e)) fun hm => ?_
      rcases List.mem_append.mp hm with hm | hm
      case inr => exact hC.notinX e0 (List.mem_append_right _ hm)
      rcases mM b hm with z | z | z
      · exact hC.notin e0 z
      · rw [z, nx] at e; cases e
      · rw [z, nma1] at e; cases e
    refine k _ (Mof p lg lt (ts ++ [(x, ma)])) ⟨xs_keep hC.xs kx fr, dx, lg, lt, gas, ts ++ [(x, ma)], rfl, h0, ?_, ?_, (upd_ne npt).trans (s12 _ _ hp), (upd_ne h0).trans (s12 _ _ hg), upd_same, paired_imp pg fun a b _ q => q.same hs, ?_⟩ kx fr
    · rw [List.map_append]
      refine nodup_snoc h1 fun hm => hC.notin nxH ?_
      rw [eM]
      exact mem_Mof.mpr (.inr (.inr (.inr (.inl hm))))
    · rw [List.map_append]
      refine nodup_snoc h2 fun hm => hC.notin nmaH ?_
      rw [eM]
      exact mem_Mof.mpr (.inr (.inr (.inr (.inr hm))))
    · refine paired_snoc (paired_imp pt fun a b ha q => ?_) ?_
      · refine q.move hs (fun o e => ?_) fun o e => ?_
        · obtain ⟨_, _, _, _, q1, _⟩ := q.ex
          rw [upd_ne (ne_of q1 ht (by intro z; cases z))]
          exact s12 _ _ e
        · obtain ⟨_, _, _, _, _, _, _, q4, _⟩ := q.ex
          rw [upd_ne (ne_of q4 ht (by intro z; cases z))]
          exact s12 _ _ e
      · refine ⟨dt, wa, was, [], (upd_ne nlx).trans hx, hid _ _ nwa hwa, ?_, (upd_ne nlm).trans hma, fun j => ?_, ?_⟩
        · rw [pways_new]
          refine paired_imp pw fun a b _ q => ?_
          obtain ⟨da, ga, q1, q2, q3, q4⟩ := q
          exact ⟨da, ga, hid _ _ q3 q1, hid _ _ q4 q2⟩
        · show Option.isSome _ = Option.isSome ((List.replicate s.gates.length (none : Option Bool)).getD j none)
          have e : (List.replicate s.gates.length (none : Option Bool)).getD j none = none := by
            rw [List.getD, List.getElem?_replicate]
            split <;> rfl
          rw [e]
          rfl
        · exact (count_none _).symm
/-! ### seen -/
theorem seen_no {s : Kcz6.Abs} {k x v : Nat} (h : s.tests[k]? = none) : Kcz6.step s (.seen k x v) = (s, .num (-2)) := by
  unfold Kcz6.step
  dsimp only
  rw [h]
theorem seen_bad {s : Kcz6.Abs} {k x v : Nat} {t : Kcz6.Test} (h : s.tests[k]? = some t) (h2 : s.gates.length ≤ x ∨ 1 < v) : Kcz6.step s (.seen k x v) = (s, .num (-22)) := by
  unfold Kcz6.step
  dsimp only
  rw [h]
  exact if_pos h2
theorem seen_had {s : Kcz6.Abs} {k x v : Nat} {t : Kcz6.Test} (h : s.tests[k]? = some t) (h2 : ¬ (s.gates.length ≤ x ∨ 1 < v)) (h3 : (t.seen.getD x none).isSome = true) : Kcz6.step s (.seen k x v) = (s, .num (-17)) := by
  unfold Kcz6.step
  dsimp only
  rw [h]
  exact (if_neg h2).trans (if_pos h3)
theorem seen_ok {s : Kcz6.Abs} {k x v : Nat} {t : Kcz6.Test} (h : s.tests[k]? = some t) (h2 : ¬ (s.gates.length ≤ x ∨ 1 < v)) (h3 : ¬ (t.seen.getD x none).isSome = true) :
    Kcz6.step s (.seen k x v) = ({ s with tests := s.tests.set k { t with seen := t.seen.set x (some (v == 1)) } }, .num 0) := by
  unfold Kcz6.step
  dsimp only
  rw [h]
  exact (if_neg h2).trans (if_neg h3)
abbrev s_Circuit_seen : Stmt := inClass (top 25) 4
theorem sc_Circuit_seen : FnScope ["self", "t", "w", "v"] ["self", "t", "w", "v"] (defScope s_Circuit_seen) := ⟨rfl, rfl, rfl, by decide +kernel, rfl, by decide +kernel, by decide +kernel⟩
def sp_Circuit_seen (A : Adr) : Sp := fun vs H Q _ => ∃ (X : List Addr) (p : Addr) (M : List Addr) (s : Kcz6.Abs) (t x v : Nat), vs = [.ref p, nV t, nV x, nV v] ∧ CAt A X H p M s ∧ WF s ∧ Prom A X p M H (Kcz6.step s (.seen t x v)).1 Q (ansV (Kcz6.step s (.seen t x v)).2)
theorem paired_set2 {α β : Type} {F G : α → β → Prop} {b : β} : ∀ {l : List α} {m : List β} {i : Nat} {a : α}, Paired F l m → l[i]? = some a → G a b → (∀ (j : Nat) (x : α) (y : β), j ≠ i → l[j]? = some x → F x y → G x y) → Paired G l (m.set i b)
  | _, _, _, _, .nil, h, _, _ => by simp at h
  | _, _, 0, _, .cons _ t, h, q, f => by
    have e := Option.some.inj h
    subst e
    refine .cons q ?_
    exact paired_of_ix t fun j x y hx => f (j + 1) x y (by omega) hx
  | _, _, i + 1, _, .cons r t, h, q, f => .cons (f 0 _ _ (by omega) rfl r) (paired_set2 (i := i) t h q fun j x y hj hx => f (j + 1) x y (by omega) hx)
where
  paired_of_ix {α β : Type} {F G : α → β → Prop} : ∀ {l : List α} {m : List β}, Paired F l m → (∀ (j : Nat) (x : α) (y : β), l[j]? = some x → F x y → G x y) → Paired G l m
    | _, _, .nil, _ => .nil
    | _, _, .cons r t, f => .cons (f 0 _ _ rfl r) (paired_of_ix t fun j x y hx => f (j + 1) x y hx)
theorem ok_Circuit_seen (F : Fun K "seen" "Circuit.seen" s_Circuit_seen f fd) (T : Txt K mg A) (B_Test_measure : MF P w K mg base A.CT 1 "measure" ["self", "gate", "value"] (sp_Test_measure A)) :
    FnOk P w K mg base CX0 2 f fd ["self", "t", "w", "v"] (sp_Circuit_seen A) := by
  refine F.ok sc_Circuit_seen (fun vs H Q E h => ?_) (fun cdv Ar outer s H vs Q E hr h => ?_)
  · obtain ⟨X, p, M, s, t, x, v, rfl, _⟩ := h
    rfl
  · obtain ⟨X, p, M, s, t, wg, v, rfl, hC, wf, k⟩ := h
    obtain ⟨dx, lg, lt, gas, ts, eM, h0, h1, h2, hp, hg, ht, pg, pt⟩ := hC.ex
    have lts := paired_len pt
    have lgas := paired_len pg
    have hu := hu_of hr
    refine ⟨_, (pss_cons (ps_if (pt_cmp (pc_ge (pv 1) (pe_callB call_len_seq rfl T.no_len PySem.boot_len (pa_cons (pe_fld (pv 0) rfl) pa_nil)))) (pss_one (ps_ret (pe_gi rfl T.g_NOT_THERE))) pss_nil)
      (pss_cons (ps_if (PW.pt (pw_or (pt_cmp (pc_ge (pv 2) (pe_callB call_len_seq rfl T.no_len PySem.boot_len (pa_cons (pe_fld (pv 0) rfl) pa_nil)))) (pw_or1 (pt_cmp (pc_gt (pv 3) pe_int))))) (pss_one (ps_ret (pe_gi rfl T.g_NOT_VALID))) pss_nil)
      (pss_cons (ps_if (pt_cmp (pc_din hu (pv 2) (pe_fld (pe_ix ix_list (pe_fld (pv 0) rfl) (pv 1) (fun _ _ => rfl)) rfl))) (pss_one (ps_ret (pe_gi rfl T.g_MEASURED_ALREADY))) pss_nil)
      (pss_cons (ps_expr (pe_mf (pe_ix ix_list (pe_fld (pv 0) rfl) (pv 1) (fun _ _ => rfl)) T.cl_Test B_Test_measure hr (by decide) (pa_cons (pv 2) (pa_cons (pv 3) pa_nil))))
      (pss_one (ps_ret pe_int)))))), ?_⟩
    refine ⟨_, rfl, _, rfl, p, _, dx, _, _, rfl, hp, T.cl_Circuit, T.n_tests, cF_tests, lt, _, rfl, .inl (SqL.of ht), _, _, rfl, rfl, _, rfl, ite2 (fun c1 => ?_) (fun c1 => ?_)⟩
    · have c1 := of_decide_eq_true c1
      rw [List.length_map, List.length_map, lts] at c1
      rw [seen_no (List.getElem?_eq_none (by omega))] at k
      exact k.same hC (Same.refl H)
    rw [decide_eq_true_iff, List.length_map, List.length_map, lts] at c1
    obtain ⟨τ, hτ⟩ : ∃ τ, s.tests[t]? = some τ := ⟨_, List.getElem?_eq_getElem (by omega)⟩
    refine ⟨_, rfl, _, rfl, p, _, dx, _, _, rfl, hp, T.cl_Circuit, T.n_gates, cF_gates, lg, _, rfl, .inl (SqL.of hg), _, _, rfl, rfl, _, rfl, ite2 (fun c2 => ?_) (fun c2 => ?_)⟩
    · have c2 := of_decide_eq_true c2
      rw [List.length_map, lgas] at c2
      rw [seen_bad hτ (.inl (by omega))] at k
      exact iteT (k.same hC (Same.refl H))
    rw [decide_eq_true_iff, List.length_map, lgas] at c2
    refine ⟨_, rfl, _, _, rfl, rfl, _, rfl, ite2 (fun c3 => ?_) (fun c3 => ?_)⟩
    · have c3 := of_decide_eq_true c3
      rw [seen_bad hτ (.inr (by omega))] at k
      exact k.same hC (Same.refl H)
    rw [decide_eq_true_iff] at c3
    have nb : ¬ (s.gates.length ≤ wg ∨ 1 < v) := by omega
    obtain ⟨⟨x, ma⟩, hxi, tx⟩ := paired_getR pt hτ
    obtain ⟨dt, wa, was, kvs, q1, q2, q3, q4, q5, q6⟩ := tx.ex
    have hat : atI ((ts.map Prod.fst).map V.ref) ((t : Nat) : Int) = some (V.ref x) := by
      refine at_map (f := V.ref) ?_
      rw [List.getElem?_map, hxi]
      rfl
    refine ⟨_, rfl, _, rfl, p, _, dx, _, _, rfl, hp, T.cl_Circuit, T.n_tests, cF_tests, _, rfl, lt, _, _, _, rfl, rfl, SqL.of ht, hat, x, _, dt, _, _, rfl, q1, T.cl_Test, T.n_measured, tF_measured, ma, _, rfl, DGet.k (k := Sum.inl (wg : Int)) q4, _, rfl, ?_⟩
    rw [q5 wg]
    refine ite2 (fun c4 => ?_) (fun c4 => ?_)
    · rw [seen_had hτ nb c4] at k
      exact k.same hC (Same.refl H)
    rw [seen_ok hτ nb c4] at k
    have mx : x ∈ M := by rw [eM]; exact mem_Mof.mpr (.inr (.inr (.inr (.inl (List.mem_map.mpr ⟨(x, ma), List.mem_of_getElem? hxi, rfl⟩)))))
    have mma : ma ∈ M := by rw [eM]; exact mem_Mof.mpr (.inr (.inr (.inr (.inr (List.mem_map.mpr ⟨(x, ma), List.mem_of_getElem? hxi, rfl⟩)))))
    obtain ⟨ti, tsl⟩ := wf.tok τ (List.mem_of_getElem? hτ)
    have w8 := wf.g8
    have p8 : 2 ^ s.gates.length ≤ 256 := Nat.pow_le_pow_right (n := 2) (by decide) w8
    have pl := pways_len s.gates τ
    have kl : kvs.length ≤ 8 := by
      rw [q6]
      exact Nat.le_trans (List.length_filter_le _ _) (by omega)
    have ev : V.int ((v : Nat) : Int) = bV (v == 1) := by
      have : v = 0 ∨ v = 1 := by omega
      rcases this with z | z <;> subst z <;> rfl
    refine ⟨_, rfl, p, _, dx, _, _, rfl, hp, T.cl_Circuit, T.n_tests, cF_tests, _, rfl, lt, _, _, _, rfl, rfl, SqL.of ht, hat, x, dt, _, rfl, q1, tF_no (by decide +kernel) (by decide +kernel), _, rfl, _, rfl, ?_⟩
    refine ⟨x, ma, hide (M ++ X) H, pways s.gates τ, kvs, wg, v == 1, congrArg (fun q => [V.ref x, nV wg, q]) ev, ⟨hide_same, hide_in (List.mem_append_left _ mx), hide_in (List.mem_append_left _ mma), dt, wa, was, q1, q2, q3, q4⟩, (by omega), (by omega), fun y hy => ?_, ?_⟩
    · rw [(mem_pways.mp hy).2.1, gaveOf_len]
      omega
    intro H1 dt' wa' was' e1 e2 e3 e4 e5 kx0
    have kx : KeepX M H H1 := fun b o e hb => kx0 b o e fun z => by
      simp only [List.mem_cons, List.mem_singleton, List.not_mem_nil, or_false] at z
      rcases z with z | z
      · exact hb (z ▸ mx)
      · exact hb (z ▸ mma)
    have hs := hide_keepX (X := X) kx fun b hb => Or.inl hb
    have kp : ∀ b o, H b = some o → b ≠ x → b ≠ ma → H1 b = some o := fun b o e z1 z2 => kx0 b o e fun z => by
      simp only [List.mem_cons, List.mem_singleton, List.not_mem_nil, or_false] at z
      rcases z with z | z
      · exact z1 z
      · exact z2 z
    refine k H1 M ⟨xs_keep hC.xs kx fun b hb => .inl hb, dx, lg, lt, gas, ts, eM, h0, h1, h2, ?_, ?_, ?_, paired_imp pg fun a b _ q => q.same hs, ?_⟩ kx fun b hb => .inl hb
    · refine kp _ _ hp (fun z => ?_) (fun z => ?_)
      · rw [z, q1] at hp
        injection Option.some.inj hp with _ _ ef
        exact absurd (show (2 : Nat) = 3 from congrArg List.length ef) (by decide)
      · rw [z, q4] at hp; cases hp
    · refine kp _ _ hg (fun z => ?_) (fun z => ?_)
      · rw [z, q1] at hg; cases hg
      · rw [z, q4] at hg; cases hg
    · refine kp _ _ ht (fun z => ?_) (fun z => ?_)
      · rw [z, q1] at ht; cases ht
      · rw [z, q4] at ht; cases ht
    · refine paired_set2 pt hxi ?_ fun j t' τ' hj hx' q => ?_
      · have hvn : valV kvs (Sum.inl (wg : Int)) = none := by
          have := q5 wg
          rw [Bool.not_eq_true] at c4
          rw [c4] at this
          cases e : valV kvs (Sum.inl (wg : Int)) with
          | none => rfl
          | some u => rw [e] at this; cases this
        have hsn : τ.seen.getD wg none = none := by
          rw [Bool.not_eq_true] at c4
          cases e : τ.seen.getD wg none with
          | none => rfl
          | some b => rw [e] at c4; cases c4
        refine ⟨dt', wa', was', _, e1, hide_of e3 (hC.notinX e2), ?_, e5, fun j => ?_, ?_⟩
        · rw [pways_set (by omega) tsl hsn]
          exact paired_imp e4 fun a b _ q => q.same hs
        · rw [putK_new _ hvn, valV_snoc _ _ _ _ hvn]
          by_cases ej : j = wg
          · subst ej
            rw [if_pos rfl, List.getD, List.getElem?_set_self (by omega)]
            rfl
          · have ne : ¬ (Sum.inl (j : Int) : Key) = Sum.inl (wg : Int) := fun z => ej (by have := Sum.inl.inj z; omega)
            rw [if_neg ne, List.getD, List.getElem?_set_ne (fun z => ej z.symm)]
            exact q5 j
        · rw [putK_new _ hvn, List.length_append, List.length_singleton, q6]
          exact (count_set (by omega) hsn).symm
      · obtain ⟨_, _, _, _, r1, _, _, r4, _⟩ := q.ex
        have n1 : t'.1 ≠ x := fun z => hj (nd_ix h1 (i := j) (j := t) (x := x) (by rw [List.getElem?_map, hx', ← z]; rfl) (by rw [List.getElem?_map, hxi]; rfl))
        have n2 : t'.2 ≠ ma := fun z => hj (nd_ix h2 (i := j) (j := t) (x := ma) (by rw [List.getElem?_map, hx', ← z]; rfl) (by rw [List.getElem?_map, hxi]; rfl))
        refine q.move hs (fun o e => kp _ _ e n1 (fun z => ?_)) fun o e => kp _ _ e (fun z => ?_) n2
        · rw [z, q4] at r1; cases r1
        · rw [z, q1] at r4; cases r4
end
end FF

set_option Elab.async false
set_option linter.all false
set_option maxRecDepth 100000
set_option maxHeartbeats 4000000
namespace FF
open PySem PySem.Spec PyProof.Rows L2
section
variable {P : Program} {w : World} {K : PySem.W.Frag} {mg : Str → Option Value} {base : Heap} {f : Addr} {fd : FuncData} {A : Adr}
abbrev s_Circuit_explains_all : Stmt := inClass (top 25) 6
theorem sc_Circuit_explains_all : FnScope ["self", "broken", "test"] ["self", "broken"] (defScope s_Circuit_explains_all) := ⟨rfl, rfl, rfl, by decide +kernel, rfl, by decide +kernel, by decide +kernel⟩
def sp_Circuit_explains_all (A : Adr) : Sp := fun vs H Q _ => ∃ (X : List Addr) (p : Addr) (M : List Addr) (s : Kcz6.Abs) (d : Nat), vs = [.ref p, nV d] ∧ CAt A X H p M s ∧ WF s ∧ ∀ H', Same H H' → Q (.bl (Kcz6.explains s d)) H'
theorem ok_Circuit_explains_all (F : Fun K "explains_all" "Circuit.explains_all" s_Circuit_explains_all f fd) (T : Txt K mg A) (B_Test_ways_with : MF P w K mg base A.CT 1 "ways_with" ["self", "broken"] (sp_Test_ways_with A)) :
    FnOk P w K mg base CX0 3 f fd ["self", "broken"] (sp_Circuit_explains_all A) := by
  refine F.ok sc_Circuit_explains_all (fun vs H Q E h => ?_) (fun cdv Ar outer s H vs Q E hr h => ?_)
  · obtain ⟨X, p, M, s, d, rfl, _⟩ := h
    rfl
  · obtain ⟨X, p, M, s, d, rfl, hC, wf, k⟩ := h
    obtain ⟨dx, lg, lt, gas, ts, eM, h0, h1, h2, hp, hg, ht, pg, pt⟩ := hC.ex
    have lts := paired_len pt
    have nd := sc_Circuit_explains_all.nd
    have p8 : 2 ^ s.gates.length ≤ 256 := Nat.pow_le_pow_right (n := 2) (by decide) wf.g8
    refine ⟨_, (pss_cons (ps_for PassesOwn.never rfl (pi_list (pe_fld (pv 0) rfl)) (pg_name (i := 2) nd rfl (Or.inl rfl))
      (pss_one (ps_if (pt_cmp (pc_eqI (pe_callB call_len_seq rfl T.no_len PySem.boot_len (pa_cons (pe_mf (pv 2) T.cl_Test B_Test_ways_with hr (by decide) (pa_cons (pv 1) pa_nil)) pa_nil)) pe_int)) (pss_one (ps_ret pe_bl)) pss_nil)))
      (pss_one (ps_ret pe_bl))), ?_⟩
    refine ⟨_, rfl, p, _, dx, _, _, rfl, hp, T.cl_Circuit, T.n_tests, cF_tests, lt, rfl, ⟨_, SqL.of ht⟩, ?_⟩
    refine for_list (K := K) (a := lt) (xs := (ts.map Prod.fst).map V.ref) (fun i σ H' => ∃ v : Option V, σ = [some (.ref p), some (nV d), v] ∧ Same H H' ∧ (s.tests.take i).all (fun t => !(Kcz6.waysOf s d t).isEmpty) = true)
      ⟨none, rfl, Same.refl H, rfl⟩ (fun i σ H' _ ⟨_, _, sm, _⟩ => SqL.of (sm _ _ ht)) ?_ ?_
    · rintro i u σ H' hi ⟨v, rfl, sm, ha⟩
      obtain ⟨x, hx, rfl⟩ := map_get hi
      obtain ⟨⟨x', ma⟩, hxm, ex⟩ : ∃ t : Addr × Addr, ts[i]? = some t ∧ t.1 = x := by
        rw [List.getElem?_map] at hx
        cases e : ts[i]? with
        | none => rw [e] at hx; cases hx
        | some t => rw [e] at hx; exact ⟨t, rfl, Option.some.inj hx⟩
      have ex : x' = x := ex
      subst ex
      obtain ⟨τ, hτ, tx⟩ := paired_get pt hxm
      have mx : x' ∈ M := by rw [eM]; exact mem_Mof.mpr (.inr (.inr (.inr (.inl (List.mem_map.mpr ⟨(x', ma), List.mem_of_getElem? hxm, rfl⟩)))))
      have mma : ma ∈ M := by rw [eM]; exact mem_Mof.mpr (.inr (.inr (.inr (.inr (List.mem_map.mpr ⟨(x', ma), List.mem_of_getElem? hxm, rfl⟩)))))
      obtain ⟨dt, wa, was, kvs, q1, q2, q3, q4, q5, q6⟩ := tx.ex
      have pl := pways_len s.gates τ
      refine ⟨_, rfl, x', dt, _, rfl, sm _ _ q1, tF_no (by decide +kernel) (by decide +kernel), _, rfl, x', ma, hide (M ++ X) H, pways s.gates τ, kvs, d, rfl, ⟨hide_same.trans sm, hide_in (List.mem_append_left _ mx), hide_in (List.mem_append_left _ mma), dt, wa, was, sm _ _ q1, q2, q3, sm _ _ q4⟩, (by omega), ?_⟩
      intro H2 l ws' nl hl pw s2
      have lw := paired_len pw
      refine ⟨l, _, rfl, .inl (SqL.of hl), _, _, rfl, rfl, _, rfl, ?_⟩
      have ec : decide ((((ws'.map V.ref).length : Nat) : Int) = 0) = (Kcz6.waysOf s d τ).isEmpty := by
        rw [waysOf_empty, List.length_map, lw]
        show _ = (pwith s.gates τ d).isEmpty
        unfold pwith
        cases (pways s.gates τ).filter fun y => decide (y.1 ||| d = d) with
        | nil => rfl
        | cons a r =>
          rw [List.length_cons]
          exact decide_eq_false (by omega)
      show if decide ((((ws'.map V.ref).length : Nat) : Int) = 0) = true then _ else _
      rw [ec]
      refine ite2 (fun c => ?_) (fun c => ?_)
      · have e : Kcz6.explains s d = false := by
          unfold Kcz6.explains
          rw [List.all_eq_false]
          exact ⟨τ, List.mem_of_getElem? hτ, by rw [c]; decide⟩
        rw [e] at k
        exact k H2 (sm.trans s2)
      · refine ⟨_, rfl, sm.trans s2, ?_⟩
        rw [take_snoc hτ, List.all_append, ha]
        rw [Bool.not_eq_true] at c
        simp [c]
    · rintro σ H' ⟨v, rfl, sm, ha⟩
      rw [List.length_map, List.length_map, lts, List.take_length] at ha
      have e : Kcz6.explains s d = true := ha
      rw [e] at k
      exact k H' sm
abbrev s_Circuit_explains : Stmt := inClass (top 25) 5
theorem sc_Circuit_explains : FnScope ["self", "broken"] ["self", "broken"] (defScope s_Circuit_explains) := ⟨rfl, rfl, rfl, by decide +kernel, rfl, by decide +kernel, by decide +kernel⟩
def sp_Circuit_explains (A : Adr) : Sp := fun vs H Q _ => ∃ (X : List Addr) (p : Addr) (M : List Addr) (s : Kcz6.Abs) (d : Nat), vs = [.ref p, nV d] ∧ CAt A X H p M s ∧ WF s ∧ Prom A X p M H (Kcz6.step s (.explains d)).1 Q (ansV (Kcz6.step s (.explains d)).2)
theorem explains_bad {s : Kcz6.Abs} {d : Nat} (h : 2 ^ s.gates.length ≤ d) : Kcz6.step s (.explains d) = (s, .num (-22)) := if_pos h
theorem explains_ok {s : Kcz6.Abs} {d : Nat} (h : ¬ 2 ^ s.gates.length ≤ d) : Kcz6.step s (.explains d) = (s, .num (if Kcz6.explains s d then 1 else 0)) := if_neg h
theorem ok_Circuit_explains (F : Fun K "explains" "Circuit.explains" s_Circuit_explains f fd) (T : Txt K mg A) (B_has_bit_from : GF P w K mg base 1 "has_bit_from" ["bits", "k"] sp_has_bit_from)
    (B_Circuit_explains_all : MF P w K mg base A.CC 3 "explains_all" ["self", "broken"] (sp_Circuit_explains_all A)) :
    FnOk P w K mg base CX0 4 f fd ["self", "broken"] (sp_Circuit_explains A) := by
  refine F.ok sc_Circuit_explains (fun vs H Q E h => ?_) (fun cdv Ar outer s H vs Q E hr h => ?_)
  · obtain ⟨X, p, M, s, d, rfl, _⟩ := h
    rfl
  · obtain ⟨X, p, M, s, d, rfl, hC, wf, k⟩ := h
    obtain ⟨dx, lg, lt, gas, ts, eM, h0, h1, h2, hp, hg, ht, pg, pt⟩ := hC.ex
    have lgas := paired_len pg
    refine ⟨_, (pss_cons (ps_if (pt_val (pe_gf B_has_bit_from hr (by decide) rfl (pa_cons (pv 1) (pa_cons (pe_callB call_len_seq rfl T.no_len PySem.boot_len (pa_cons (pe_fld (pv 0) rfl) pa_nil)) pa_nil)))) (pss_one (ps_ret (pe_gi rfl T.g_NOT_VALID))) pss_nil)
      (pss_one (ps_ret (pe_ifExp (pt_val (pe_mf (pv 0) T.cl_Circuit B_Circuit_explains_all hr (by decide) (pa_cons (pv 1) pa_nil))) pe_int pe_int)))), ?_⟩
    refine ⟨_, rfl, _, rfl, p, _, dx, _, _, rfl, hp, T.cl_Circuit, T.n_gates, cF_gates, lg, _, rfl, .inl (SqL.of hg), d, (gas.map V.ref).length, rfl, _, rfl, ?_⟩
    rw [List.length_map, lgas]
    refine ite2 (fun c1 => ?_) (fun c1 => ?_)
    · rw [explains_bad (of_decide_eq_true c1)] at k
      exact k.same hC (Same.refl H)
    rw [decide_eq_true_iff] at c1
    rw [explains_ok c1] at k
    refine ⟨_, rfl, p, dx, _, rfl, hp, cF_no (by decide +kernel) (by decide +kernel) (by decide +kernel), _, rfl, X, p, M, s, d, rfl, hC, wf, fun H1 s1 => ⟨_, rfl, ite2 (fun c2 => ?_) (fun c2 => ?_)⟩⟩
    · rw [c2] at k
      exact k.same hC s1
    · rw [Bool.not_eq_true] at c2
      rw [c2] at k
      exact k.same hC s1
end
end FF

set_option Elab.async false
set_option linter.all false
set_option maxRecDepth 100000
set_option maxHeartbeats 4000000
namespace FF
open PySem PySem.Spec PyProof.Rows L2
theorem bI_ne (b : Bool) : (bI b != 0) = b := by cases b <;> rfl
theorem shl_one (k : Nat) : (1 : Int) * 2 ^ ((k : Int)).toNat = ((2 ^ k : Nat) : Int) := by
  have e := shl_nat 1 k
  rw [Nat.one_mul] at e
  exact e
theorem shl_bit (b : Bool) : (1 : Int) * 2 ^ (bI b).toNat = (((if b then 2 else 1) : Nat) : Int) := by cases b <;> rfl
theorem nV_map (l : List Nat) : (l.map fun x : Nat => (x : Int)).map V.int = l.map nV := by rw [List.map_map]; rfl
section
variable {P : Program} {w : World} {K : PySem.W.Frag} {mg : Str → Option Value} {base : Heap} {f : Addr} {fd : FuncData} {A : Adr}
/-! ### gates_of, parts_lacking_one, how_many_gates -/
abbrev s_gates_of : Stmt := top 28
theorem sc_gates_of : FnScope ["bits", "k"] ["bits"] (defScope s_gates_of) := ⟨rfl, rfl, rfl, by decide +kernel, rfl, by decide +kernel, by decide +kernel⟩
def sp_gates_of : Sp := fun vs H Q _ => ∃ m : Nat, vs = [nV m] ∧ ∀ H' l, H l = none → H' l = some (.lst ((gatesOf m).map nV)) → Same H H' → Q (.ref l) H'
theorem ok_gates_of (F : Fun K "gates_of" "gates_of" s_gates_of f fd) (T : Txt K mg A) (B_bit_of : GF P w K mg base 1 "bit_of" ["bits", "k"] sp_bit_of) : FnOk P w K mg base CX0 2 f fd ["bits"] sp_gates_of := by
  refine F.ok sc_gates_of (fun vs H Q E h => ?_) (fun cdv Ar outer s H vs Q E hr h => ?_)
  · obtain ⟨m, rfl, _⟩ := h
    rfl
  · obtain ⟨m, rfl, k⟩ := h
    have nd := sc_gates_of.nd
    refine ⟨_, (pss_one (ps_ret (pe_lc rfl nd (pi_range1 rfl T.no_range (pa_cons (pe_gi rfl T.g_MOST_GATES) pa_nil)) (blkOk_by (N := ["bits", "k"]) (sc := defScope s_gates_of) (own := [("k", 1)]) (by decide +kernel)) (fun _ _ _ _ _ => (pg_name (i := 1) nd rfl (Or.inl rfl))) (fun _ _ _ _ _ => (pts_one (pt_int (pe_gf B_bit_of hr (by decide) rfl (pa_cons (pv 0) (pa_cons (pv 1) pa_nil)))))) (fun _ _ _ _ _ => (pv 1))))), ?_⟩
    refine ⟨_, rfl, (by decide), (by decide), fun D hD => ?_⟩
    refine lc_range (n := 8) (fun i H' => H' = upd H D (.lst (((List.range i).filter (Kcz6.bit m)).map nV))) rfl ?_ ?_
    · rintro i H' hi rfl
      refine ⟨rfl, _, rfl, _, rfl, m, i, (by rw [Int.zero_add]; rfl), _, rfl, ?_⟩
      rw [bI_ne]
      have fl : ((List.range i).filter (Kcz6.bit m)).length ≤ 8 := by
        have := List.length_filter_le (Kcz6.bit m) (List.range i)
        rw [List.length_range] at this
        omega
      refine ite2 (fun h => ?_) (fun h => ?_)
      · refine ⟨_, rfl, _, upd_same, size_lt (by rw [List.length_map]; omega), ?_⟩
        rw [upd_upd, List.range_succ, filter_snoc, if_pos h, List.map_append, Int.zero_add]
        rfl
      · rw [List.range_succ, filter_snoc, if_neg h, List.append_nil]
    · rintro H' rfl
      exact k _ D hD upd_same (Same.upd_new hD)
abbrev s_parts_lacking_one : Stmt := top 29
theorem sc_parts_lacking_one : FnScope ["bits", "k"] ["bits"] (defScope s_parts_lacking_one) := ⟨rfl, rfl, rfl, by decide +kernel, rfl, by decide +kernel, by decide +kernel⟩
def sp_parts_lacking_one : Sp := fun vs H Q _ => ∃ m : Nat, vs = [nV m] ∧ ∀ H' l, H l = none → H' l = some (.lst ((partsOf m).map nV)) → Same H H' → Q (.ref l) H'
theorem ok_parts_lacking_one (F : Fun K "parts_lacking_one" "parts_lacking_one" s_parts_lacking_one f fd) (T : Txt K mg A) (B_gates_of : GF P w K mg base 2 "gates_of" ["bits"] sp_gates_of) : FnOk P w K mg base CX0 3 f fd ["bits"] sp_parts_lacking_one := by
  refine F.ok sc_parts_lacking_one (fun vs H Q E h => ?_) (fun cdv Ar outer s H vs Q E hr h => ?_)
  · obtain ⟨m, rfl, _⟩ := h
    rfl
  · obtain ⟨m, rfl, k⟩ := h
    have nd := sc_parts_lacking_one.nd
    refine ⟨_, (pss_one (ps_ret (pe_lc rfl nd (pi_list (pe_gf B_gates_of hr (by decide) rfl (pa_cons (pv 0) pa_nil))) (blkOk_by (N := ["bits", "k"]) (sc := defScope s_parts_lacking_one) (own := [("k", 1)]) (by decide +kernel)) (fun _ _ _ _ _ => (pg_name (i := 1) nd rfl (Or.inl rfl))) (fun _ _ _ _ _ => pts_nil) (fun _ _ _ _ _ => (pe_op op_xor (pv 0) (pe_op op_shl pe_int (pv 1))))))), ?_⟩
    refine ⟨_, rfl, m, rfl, fun H1 g ng hg s1 => ⟨g, rfl, ⟨_, SqL.of hg⟩, fun D hD => ?_⟩⟩
    have gl : (gatesOf m).length ≤ 8 := ones_le8 m
    refine lc_list (K := K) (a := g) (xs := (gatesOf m).map nV) (fun i H' => H' = upd H1 D (.lst ((((gatesOf m).take i).map fun j => m ^^^ 2 ^ j).map nV))) rfl (fun i H' _ e => by rw [e]; exact SqL.of ((Same.upd_new hD) _ _ hg)) ?_ ?_
    · rintro i u H' hi rfl
      obtain ⟨j, hj, rfl⟩ := map_get hi
      have j8 := (mem_gates.mp (List.mem_of_getElem? hj)).1
      refine ⟨rfl, ?_⟩
      refine ⟨_, rfl, _, rfl, _, _, rfl, rfl, ⟨Int.natCast_nonneg _, (by omega), by decide⟩, _, _, rfl, rfl, _, upd_same, size_lt (by rw [List.length_map, List.length_map, List.length_take]; omega), ?_⟩
      rw [upd_upd, shl_one]
      dsimp only
      rw [xor_nat, take_snoc hj, List.map_append, List.map_append]
      rfl
    · rintro H' rfl
      rw [List.length_map, List.take_length]
      exact k _ D (s1.free hD) upd_same (s1.upd_new' hD)
abbrev s_how_many_gates : Stmt := top 30
theorem sc_how_many_gates : FnScope ["bits"] ["bits"] (defScope s_how_many_gates) := ⟨rfl, rfl, rfl, by decide +kernel, rfl, by decide +kernel, by decide +kernel⟩
def sp_how_many_gates : Sp := fun vs H Q _ => ∃ m : Nat, vs = [nV m] ∧ ∀ H', Same H H' → Q (nV (Kcz6.ones m)) H'
theorem ok_how_many_gates (F : Fun K "how_many_gates" "how_many_gates" s_how_many_gates f fd) (T : Txt K mg A) (B_gates_of : GF P w K mg base 2 "gates_of" ["bits"] sp_gates_of) : FnOk P w K mg base CX0 3 f fd ["bits"] sp_how_many_gates := by
  refine F.ok sc_how_many_gates (fun vs H Q E h => ?_) (fun cdv Ar outer s H vs Q E hr h => ?_)
  · obtain ⟨m, rfl, _⟩ := h
    rfl
  · obtain ⟨m, rfl, k⟩ := h
    refine ⟨_, (pss_one (ps_ret (pe_callB call_len_seq rfl T.no_len PySem.boot_len (pa_cons (pe_gf B_gates_of hr (by decide) rfl (pa_cons (pv 0) pa_nil)) pa_nil)))), ?_⟩
    refine ⟨_, rfl, m, rfl, fun H1 g ng hg s1 => ⟨g, _, rfl, .inl (SqL.of hg), ?_⟩⟩
    rw [List.length_map, ones_gates]
    exact k _ s1
/-! ### least_of -/
theorem sorted_nats {l : List Nat} {ys : List Int} (h : SortedBy (fun z => ((Kcz6.ones z.toNat : Nat) : Int)) (l.map fun x : Nat => (x : Int)) ys) : ys.map V.int = (sortL l).map nV := by
  have e : ys = (ys.map Int.toNat).map fun x : Nat => (x : Int) := by
    rw [List.map_map]
    have : ∀ y ∈ ys, ((fun x : Nat => (x : Int)) ∘ Int.toNat) y = id y := fun y hy => by
      obtain ⟨x, _, rfl⟩ := List.mem_map.mp (h.perm.mem_iff.mp hy)
      show (((x : Int).toNat : Nat) : Int) = (x : Int)
      rw [toNat_cast]
    rw [List.map_congr_left this, List.map_id]
  have e2 : ys.map Int.toNat = sortL l := by
    refine sortL_of ?_ fun n => ?_
    · rw [List.pairwise_map]
      exact h.ord.imp fun {x y} q => by
        have q : ((Kcz6.ones x.toNat : Nat) : Int) ≤ ((Kcz6.ones y.toNat : Nat) : Int) := q
        omega
    · have q := congrArg (List.map Int.toNat) (h.same (n : Int))
      have b : ∀ z : Int, ((((Kcz6.ones z.toNat : Nat) : Int)) == (n : Int)) = (Kcz6.ones z.toNat == n) := fun z => by
        rw [Bool.eq_iff_iff, beq_iff_eq, beq_iff_eq]
        omega
      simp only [b] at q
      rw [List.filter_map (f := Int.toNat)]
      have c1 : ((fun x => Kcz6.ones x == n) ∘ Int.toNat) = fun z : Int => Kcz6.ones z.toNat == n := rfl
      rw [c1, q, List.filter_map, List.map_map]
      have c2 : (Int.toNat ∘ fun x : Nat => (x : Int)) = id := by funext x; exact toNat_cast x
      have c3 : ((fun z : Int => Kcz6.ones z.toNat == n) ∘ fun x : Nat => (x : Int)) = fun x : Nat => Kcz6.ones x == n := by funext x; show (Kcz6.ones ((x : Int)).toNat == n) = _; rw [toNat_cast]
      rw [c2, c3, List.map_id]
  rw [e, nV_map, e2]
abbrev s_least_of : Stmt := top 31
theorem sc_least_of : FnScope ["fitting", "least", "bits", "fits", "part"] ["fitting"] (defScope s_least_of) := ⟨rfl, rfl, rfl, by decide +kernel, rfl, by decide +kernel, by decide +kernel⟩
def sp_least_of : Sp := fun vs H Q _ => ∃ (l : Addr) (fit : List Bool), vs = [.ref l] ∧ H l = some (.lst (fit.map V.bl)) ∧ fit.length ≤ 256 ∧ ∀ H' q, H q = none → H' q = some (.lst ((lessL fit).map nV)) → Same H H' → Q (.ref q) H'
theorem ok_least_of (F : Fun K "least_of" "least_of" s_least_of f fd) (T : Txt K mg A) (B_parts_lacking_one : GF P w K mg base 3 "parts_lacking_one" ["bits"] sp_parts_lacking_one) (B_how_many_gates : GF P w K mg base 3 "how_many_gates" ["bits"] sp_how_many_gates) :
    FnOk P w K mg base CX0 6 f fd ["fitting"] sp_least_of := by
  refine F.ok sc_least_of (fun vs H Q E h => ?_) (fun cdv Ar outer s H vs Q E hr h => ?_)
  · obtain ⟨l, fit, rfl, _⟩ := h
    rfl
  · obtain ⟨l, fit, rfl, hl, h256, k⟩ := h
    have nd := sc_least_of.nd
    refine ⟨_, (pss_cons (ps_set (i := 1) nd rfl (Or.inl rfl) (pe_lst pa_nil))
      (pss_cons (ps_for PassesOwn.never rfl (pi_enum rfl T.no_enumerate (pa_cons (pv 0) pa_nil)) (pg_tup rfl (pgs_cons (pg_name (i := 2) nd rfl (Or.inl rfl)) (pgs_cons (pg_name (i := 3) nd rfl (Or.inl rfl)) pgs_nil)))
      (pss_one (ps_if (PW.pt (pw_and (pt_val (pv 3)) (pw_and1 (pt_not (pt_val (pe_callB (cr_anyK K rfl rfl) rfl T.no_any boot_any (pa_cons (pe_lc rfl nd (pi_list (pe_gf B_parts_lacking_one hr (by decide) rfl (pa_cons (pv 2) pa_nil))) (blkOk_by (N := ["fitting", "least", "bits", "fits", "part"]) (sc := defScope s_least_of) (own := [("part", 4)]) (by decide +kernel)) (fun _ _ _ _ _ => (pg_name (i := 4) nd rfl (Or.inl rfl))) (fun _ _ _ _ _ => pts_nil) (fun _ _ _ _ _ => (pe_ix (ix_listK K rfl) (pv 0) (pv 4) (fun _ _ => rfl)))) pa_nil))))))) (pss_one (ps_expr (pe_bm PySem.F.plainAttrs_list PySem.F.slot_list_append PySem.F.type_list_append mt_append (pv 1) (pa_cons (pv 2) pa_nil)))) pss_nil)))
      (pss_one (ps_ret (pe_sortK B_how_many_gates hr (by decide) rfl T.no_sorted rfl (pv 1)))))), ?_⟩
    refine ⟨Nat.zero_le _, fun L hL => ?_⟩
    have sL : Same H (upd H L (.lst [])) := Same.upd_new hL
    refine ⟨_, rfl, l, _, rfl, SqL.of (sL _ _ hl), ?_⟩
    refine for_enum (K := K) (a := l) (xs := fit.map V.bl) (fun i σ H' => ∃ v2 v3 : Option V, σ = [some (.ref l), some (.ref L), v2, v3, none] ∧ Same H H' ∧ H' L = some (.lst (((List.range i).filter (leastQ fun x => fit.getD x false)).map nV)))
      ⟨none, none, rfl, sL, upd_same⟩ (fun i σ H' _ ⟨_, _, _, sm, _⟩ => SqL.of (sm _ _ hl)) ?_ ?_
    · rintro i u σ H' Tp hi ⟨v2, v3, rfl, sm, hL'⟩ hT
      obtain ⟨b, hb, rfl⟩ := map_get hi
      have hi2 : i < fit.length := (List.getElem?_eq_some_iff.mp hb).1
      have eb : fit.getD i false = b := by rw [List.getD, hb]; rfl
      have sT : Same H' (upd H' Tp (.tup [.int ((i : Nat) : Int), V.bl b])) := Same.upd_new hT
      have fl : ((List.range i).filter (leastQ fun x => fit.getD x false)).length ≤ 256 := by
        have := List.length_filter_le (leastQ fun x => fit.getD x false) (List.range i)
        rw [List.length_range] at this
        omega
      refine ⟨Tp, _, rfl, SqT.of upd_same, rfl, _, _, rfl, _, _, rfl, rfl, ?_⟩
      refine ⟨_, rfl, _, rfl, ite2 (fun c => ?_) (fun c => ?_)⟩
      · refine ⟨_, rfl, i, rfl, fun H1 g ng hg s1 => ⟨g, rfl, ⟨_, SqL.of hg⟩, fun D hD => ?_⟩⟩
        have s01 := (sm.trans sT).trans s1
        have pl : (partsOf i).length ≤ 8 := by unfold partsOf; rw [List.length_map]; exact ones_le8 i
        refine lc_list (K := K) (a := g) (xs := (partsOf i).map nV) (fun j H2 => H2 = upd H1 D (.lst ((((partsOf i).take j).map fun p => fit.getD p false).map V.bl))) rfl (fun j H2 _ e => by rw [e]; exact SqL.of ((Same.upd_new hD) _ _ hg)) ?_ ?_
        · rintro j u H2 hj rfl
          obtain ⟨p, hp, rfl⟩ := map_get hj
          have plt := parts_lt (by omega) (List.mem_of_getElem? hp)
          refine ⟨rfl, ?_⟩
          refine ⟨_, rfl, _, rfl, l, _, _, _, rfl, rfl, SqL.of ((Same.upd_new hD) _ _ (s01 _ _ hl)), at_map (getD_at (by omega)), _, upd_same, size_lt (by rw [List.length_map, List.length_map, List.length_take]; omega), ?_⟩
          rw [upd_upd, take_snoc hp, List.map_append, List.map_append]
          rfl
        · rintro H2 rfl
          rw [List.length_map, List.take_length]
          refine ⟨D, _, rfl, SqL.of upd_same, _, rfl, ?_⟩
          have ea : ((partsOf i).map fun p => fit.getD p false).any id = (partsOf i).any fun p => fit.getD p false := by rw [List.any_map]; rfl
          have sD : Same H1 (upd H1 D (.lst (((partsOf i).map fun p => fit.getD p false).map V.bl))) := Same.upd_new hD
          have s12 := (sT.trans s1).trans sD
          refine ite2 (fun h => ?_) (fun h => ?_)
          · have hq : leastQ (fun x => fit.getD x false) i = true := by
              unfold leastQ
              dsimp only
              rw [eb, c, Bool.true_and, ← ea]
              exact h
            refine ⟨_, rfl, .inl ⟨rfl, _, SqL.of (s12 _ _ hL')⟩, _, rfl, L, _, _, rfl, rfl, s12 _ _ hL', size_lt (by rw [List.length_map]; omega), ?_⟩
            refine ⟨_, _, rfl, (sm.trans s12).upd_own hL, ?_⟩
            rw [upd_same, List.range_succ, filter_snoc, if_pos hq, List.map_append]
            rfl
          · have hq : ¬ leastQ (fun x => fit.getD x false) i = true := by
              unfold leastQ
              dsimp only
              rw [eb, c, Bool.true_and, ← ea]
              exact h
            refine ⟨_, _, rfl, sm.trans s12, ?_⟩
            rw [List.range_succ, filter_snoc, if_neg hq, List.append_nil]
            exact s12 _ _ hL'
      · have hq : ¬ leastQ (fun x => fit.getD x false) i = true := by
          unfold leastQ
          dsimp only
          rw [eb]
          rw [Bool.not_eq_true] at c
          rw [c, Bool.false_and]
          decide
        refine iteF ⟨_, _, rfl, sm.trans sT, ?_⟩
        rw [List.range_succ, filter_snoc, if_neg hq, List.append_nil]
        exact sT _ _ hL'
    · rintro σ H' ⟨v2, v3, rfl, sm, hL'⟩
      rw [List.length_map] at hL'
      refine ⟨_, rfl, L, rfl, ((List.range fit.length).filter (leastQ fun x => fit.getD x false)).map (fun x : Nat => (x : Int)), fun z => ((Kcz6.ones z.toNat : Nat) : Int), ?_, ?_, ?_⟩
      · rw [nV_map]
        exact SqL.of hL'
      · intro H1 n Q1 s1 hn hq
        obtain ⟨x, _, rfl⟩ := List.mem_map.mp hn
        exact ⟨x, rfl, fun H2 s2 => hq H2 s2⟩
      · intro H1 ys p s1 hp h1 sb
        rw [sorted_nats sb] at h1
        exact k H1 p (sm.free hp) h1 (sm.trans s1)
/-! ### could_give, counts_left, greater_count, counted -/
abbrev s_could_give : Stmt := top 32
theorem sc_could_give : FnScope ["ways", "w", "values", "way"] ["ways", "w"] (defScope s_could_give) := ⟨rfl, rfl, rfl, by decide +kernel, rfl, by decide +kernel, by decide +kernel⟩
def sp_could_give (A : Adr) : Sp := fun vs H Q _ => ∃ (l : Addr) (was : List Addr) (ws : List (Nat × List Bool)) (g : Nat), vs = [.ref l, nV g] ∧ H l = some (.lst (was.map V.ref)) ∧ Paired (WayAt A.CW H) was ws ∧ (∀ y ∈ ws, g < y.2.length) ∧ Q (nV (couldG ws g)) H
theorem ok_could_give (F : Fun K "could_give" "could_give" s_could_give f fd) (T : Txt K mg A) : FnOk P w K mg base CX0 1 f fd ["ways", "w"] (sp_could_give A) := by
  refine F.ok sc_could_give (fun vs H Q E h => ?_) (fun cdv Ar outer s H vs Q E hr h => ?_)
  · obtain ⟨l, was, ws, g, rfl, _⟩ := h
    rfl
  · obtain ⟨l, was, ws, g, rfl, hl, pw, hg, k⟩ := h
    have nd := sc_could_give.nd
    refine ⟨_, (pss_cons (ps_set (i := 2) nd rfl (Or.inl rfl) pe_int)
      (pss_cons (ps_for PassesOwn.never rfl (pi_list (pv 0)) (pg_name (i := 3) nd rfl (Or.inl rfl))
      (pss_one (ps_set (i := 2) nd rfl (Or.inl rfl) (pe_op op_or (pv 2) (pe_op op_shl pe_int (pe_ix ix_list (pe_fld (pv 3) rfl) (pv 1) (fun _ _ => rfl)))))))
      (pss_one (ps_ret (pv 2))))), ?_⟩
    refine ⟨_, rfl, l, rfl, ⟨_, SqL.of hl⟩, ?_⟩
    refine for_list (K := K) (a := l) (xs := was.map V.ref) (fun i σ H' => ∃ v3 : Option V, σ = [some (.ref l), some (nV g), some (nV (couldG (ws.take i) g)), v3] ∧ H' = H)
      ⟨none, rfl, rfl⟩ (fun i σ H' _ ⟨_, _, e⟩ => by rw [e]; exact SqL.of hl) ?_ ?_
    · rintro i u σ H' hi ⟨v3, rfl, rfl⟩
      obtain ⟨a, ha, rfl⟩ := map_get hi
      obtain ⟨y, hy, wy⟩ := paired_get pw ha
      obtain ⟨dy, ga, hy1, hy2⟩ := id wy
      refine ⟨_, rfl, _, rfl, a, _, dy, _, _, rfl, hy1, T.cl_Way, T.n_gave, wF_gave, _, rfl, ga, _, _, _, rfl, rfl, SqL.of hy2, at_map (getD_at (hg y (List.mem_of_getElem? hy))), _, _, rfl, rfl, ⟨?_, ?_, by decide⟩, _, _, rfl, rfl, ?_⟩
      · cases y.2.getD g false <;> decide
      · cases y.2.getD g false <;> decide
      · refine ⟨some (.ref a), ?_, rfl⟩
        dsimp only
        rw [shl_bit, or_nat, take_snoc hy, couldG_snoc]
        rfl
    · rintro σ H' ⟨v3, rfl, rfl⟩
      rw [List.length_map, paired_len pw, List.take_length]
      exact ⟨_, rfl, k⟩
/-- a list of lists of ways -/
def WssAt (C : Addr) (H : Hp) (a : Addr) (ws : List (Nat × List Bool)) : Prop := ∃ was : List Addr, H a = some (.lst (was.map V.ref)) ∧ Paired (WayAt C H) was ws
theorem WssAt.same {C : Addr} {H H' : Hp} {a : Addr} {ws : List (Nat × List Bool)} (h : WssAt C H a ws) (s : Same H H') : WssAt C H' a ws := let ⟨was, e, q⟩ := h; ⟨was, s _ _ e, paired_imp q fun _ _ _ z => z.same s⟩
def cnt (wss : List (List (Nat × List Bool))) (g v : Nat) : Nat := ((wss.map fun ws => couldG ws g).filter fun x => Kcz6.bit x v).length
theorem cnt_sum (wss : List (List (Nat × List Bool))) (g v : Nat) : ((wss.map fun ws => couldG ws g).map fun x => bI (Kcz6.bit x v)).sum = ((cnt wss g v : Nat) : Int) := sum_count (fun x => Kcz6.bit x v) _
abbrev s_counts_left : Stmt := top 33
theorem sc_counts_left : FnScope ["ways_of_each", "w", "could", "ways", "v", "values"] ["ways_of_each", "w"] (defScope s_counts_left) := ⟨rfl, rfl, rfl, by decide +kernel, rfl, by decide +kernel, by decide +kernel⟩
def sp_counts_left (A : Adr) : Sp := fun vs H Q _ => ∃ (l : Addr) (ls : List Addr) (wss : List (List (Nat × List Bool))) (g : Nat), vs = [.ref l, nV g] ∧ H l = some (.lst (ls.map V.ref)) ∧ Paired (WssAt A.CW H) ls wss ∧ wss.length ≤ 3000 ∧ (∀ ws ∈ wss, ∀ y ∈ ws, g < y.2.length) ∧
  ∀ H' q, H q = none → H' q = some (.lst [nV (cnt wss g 0), nV (cnt wss g 1)]) → Same H H' → Q (.ref q) H'
/-- the scope of the outer list of counts_left -/
def SC0 : Scope := match (defBody s_counts_left).getD 1 (.Pass ⟨0, 0, 0, 0⟩) with
  | .Return (some (.ListComp _ _ sc _)) _ => sc
  | _ => defScope s_counts_left
theorem ok_counts_left (F : Fun K "counts_left" "counts_left" s_counts_left f fd) (T : Txt K mg A) (B_could_give : GF P w K mg base 1 "could_give" ["ways", "w"] (sp_could_give A)) (B_bit_of : GF P w K mg base 1 "bit_of" ["bits", "k"] sp_bit_of) :
    FnOk P w K mg base CX0 2 f fd ["ways_of_each", "w"] (sp_counts_left A) := by
  refine F.ok sc_counts_left (fun vs H Q E h => ?_) (fun cdv Ar outer s H vs Q E hr h => ?_)
  · obtain ⟨l, ls, wss, g, rfl, _⟩ := h
    rfl
  · obtain ⟨l, ls, wss, g, rfl, hl, pw, h3, hg, k⟩ := h
    have nd := sc_counts_left.nd
    refine ⟨_, (pss_cons (ps_set (i := 2) nd rfl (Or.inr rfl) (pe_lc rfl nd (pi_list (pv 0)) (blkOk_by (N := ["ways_of_each", "w", "could", "ways", "v", "values"]) (sc := defScope s_counts_left) (own := [("ways", 3)]) (by decide +kernel)) (fun _ _ _ _ _ => (pg_name (i := 3) nd rfl (Or.inl rfl))) (fun _ _ _ _ _ => pts_nil) (fun _ _ _ _ _ => (pe_gf B_could_give hr (by decide) rfl (pa_cons (pv 3) (pa_cons (pv 1) pa_nil))))))
      (pss_one (ps_ret (pe_lc rfl nd (pi_range1 rfl T.no_range (pa_cons pe_int pa_nil)) (blkOk_by (N := ["ways_of_each", "w", "could", "ways", "v", "values"]) (sc := defScope s_counts_left) (own := [("v", 4)]) (by decide +kernel)) (fun _ _ _ _ _ => (pg_name (i := 4) nd rfl (Or.inr rfl))) (fun _ _ _ _ _ => pts_nil) (fun _ _ _ _ _ => (pe_callB (cr_sumK K rfl rfl) rfl T.no_sum boot_sum (pa_cons (pe_lc rfl nd (pi_listK K rfl (pv 2)) (blkOk_by (N := ["ways_of_each", "w", "could", "ways", "v", "values"]) (sc := relS SC0 (defScope s_counts_left)) (own := [("values", 5)]) (by decide +kernel)) (fun _ _ _ _ _ => (pg_name (i := 5) nd rfl (Or.inl rfl))) (fun _ _ _ _ _ => pts_nil) (fun _ _ _ _ _ => (pe_gf B_bit_of hr (by decide) rfl (pa_cons (pv 5) (pa_cons (pv 4) pa_nil))))) pa_nil))))))), ?_⟩
    refine ⟨_, rfl, l, rfl, ⟨_, SqL.of hl⟩, fun C hC => ?_⟩
    have lls := paired_len pw
    refine lc_list (K := K) (a := l) (xs := ls.map V.ref) (fun i H' => H' = upd H C (.lst (((wss.take i).map fun ws => couldG ws g).map nV))) rfl (fun i H' _ e => by rw [e]; exact SqL.of ((Same.upd_new hC) _ _ hl)) ?_ ?_
    · rintro i u H' hi rfl
      obtain ⟨a, ha, rfl⟩ := map_get hi
      obtain ⟨ws, hws, wa⟩ := paired_get pw ha
      obtain ⟨was, ea, pa⟩ := wa.same (Same.upd_new (o := .lst (((wss.take i).map fun ws => couldG ws g).map nV)) hC)
      refine ⟨rfl, ?_⟩
      refine ⟨_, rfl, _, rfl, a, was, ws, g, rfl, ea, pa, hg ws (List.mem_of_getElem? hws), _, upd_same, size_lt (by rw [List.length_map, List.length_map, List.length_take]; omega), ?_⟩
      rw [upd_upd, take_snoc hws, List.map_append, List.map_append]
      rfl
    rintro H1 rfl
    rw [List.length_map, lls, List.take_length]
    have sC : Same H (upd H C (.lst ((wss.map fun ws => couldG ws g).map nV))) := Same.upd_new hC
    refine ⟨_, rfl, (by decide), (by decide), fun D hD => ?_⟩
    have hD0 : H D = none := sC.free hD
    have nCD : C ≠ D := fun e => by rw [← e, upd_same] at hD; cases hD
    refine lc_range (n := 2) (fun i H' => Same H H' ∧ H' C = some (.lst ((wss.map fun ws => couldG ws g).map nV)) ∧ H' D = some (.lst (((List.range i).map fun v => cnt wss g v).map nV))) ⟨sC.upd_new' hD, (upd_ne nCD).trans upd_same, upd_same⟩ ?_ ?_
    · rintro i H' hi ⟨sm, hC', hD'⟩
      refine ⟨rfl, ?_⟩
      refine ⟨_, rfl, C, rfl, ⟨_, SqL.of hC'⟩, fun B hB => ?_⟩
      have sB : ∀ o, Same H' (upd H' B o) := fun o => Same.upd_new hB
      refine lc_list (K := K) (a := C) (xs := (wss.map fun ws => couldG ws g).map nV) (fun j H2 => H2 = upd H' B (.lst ((((wss.map fun ws => couldG ws g).take j).map fun x => bI (Kcz6.bit x i)).map V.int))) rfl (fun j H2 _ e => by rw [e]; exact SqL.of (sB _ _ _ hC')) ?_ ?_
      · rintro j u H2 hj rfl
        obtain ⟨x, hx, rfl⟩ := map_get hj
        refine ⟨rfl, ?_⟩
        refine ⟨_, rfl, _, rfl, x, i, (by rw [Int.zero_add]; rfl), _, upd_same, size_lt (by rw [List.length_map, List.length_map, List.length_take, List.length_map]; omega), ?_⟩
        rw [upd_upd, take_snoc hx, List.map_append, List.map_append]
        rfl
      · rintro H2 rfl
        rw [List.length_map, List.take_length]
        refine ⟨B, _, rfl, SqL.of upd_same, ?_⟩
        have nDB : D ≠ B := ne_of_none hD' hB
        refine ⟨_, sB _ _ _ hD', size_lt (by rw [List.length_map, List.length_map, List.length_range]; omega), (sm.trans (sB _)).upd_own hD0, ?_, ?_⟩
        · rw [upd_ne nCD]
          exact sB _ _ _ hC'
        · rw [upd_same, cnt_sum, List.range_succ, List.map_append, List.map_append]
          rfl
    · rintro H' ⟨sm, _, hD'⟩
      exact k H' D hD0 hD' sm
abbrev s_greater_count : Stmt := top 34
theorem sc_greater_count : FnScope ["found"] ["found"] (defScope s_greater_count) := ⟨rfl, rfl, rfl, by decide +kernel, rfl, by decide +kernel, by decide +kernel⟩
def sp_greater_count : Sp := fun vs H Q _ => ∃ (p : Addr) (x : V) (a b : Nat), vs = [.ref p] ∧ H p = some (.lst [x, nV a, nV b]) ∧ Q (nV (max a b)) H
theorem ok_greater_count (F : Fun K "greater_count" "greater_count" s_greater_count f fd) (T : Txt K mg A) : FnOk P w K mg base CX0 1 f fd ["found"] sp_greater_count := by
  refine F.ok sc_greater_count (fun vs H Q E h => ?_) (fun cdv Ar outer s H vs Q E hr h => ?_)
  · obtain ⟨p, x, a, b, rfl, _⟩ := h
    rfl
  · obtain ⟨p, x, a, b, rfl, hp, k⟩ := h
    refine ⟨_, (pss_one (ps_ret (pe_callB (call_max2 rfl) rfl T.no_max boot_max (pa_cons (pe_ix ix_list (pv 0) pe_int (fun _ _ => rfl)) (pa_cons (pe_ix ix_list (pv 0) pe_int (fun _ _ => rfl)) pa_nil))))), ?_⟩
    refine ⟨_, rfl, p, _, _, _, rfl, rfl, SqL.of hp, rfl, _, rfl, p, _, _, _, rfl, rfl, SqL.of hp, rfl, _, _, rfl, ?_⟩
    have e : (if ((b : Nat) : Int) > ((a : Nat) : Int) then ((b : Nat) : Int) else ((a : Nat) : Int)) = ((max a b : Nat) : Int) := by
      by_cases h : ((b : Nat) : Int) > ((a : Nat) : Int)
      · rw [if_pos h]
        omega
      · rw [if_neg h]
        omega
    rw [e]
    exact k
abbrev s_counted : Stmt := top 35
theorem sc_counted : FnScope ["numbers"] ["numbers"] (defScope s_counted) := ⟨rfl, rfl, rfl, by decide +kernel, rfl, by decide +kernel, by decide +kernel⟩
def sp_counted : Sp := fun vs H Q _ => ∃ (l : Addr) (xs : List V), vs = [.ref l] ∧ H l = some (.lst xs) ∧ xs.length ≤ 100000 ∧ ∀ H' q, H q = none → H' q = some (.lst (nV xs.length :: xs)) → Same H H' → Q (.ref q) H'
theorem ok_counted (F : Fun K "counted" "counted" s_counted f fd) (T : Txt K mg A) : FnOk P w K mg base CX0 1 f fd ["numbers"] sp_counted := by
  refine F.ok sc_counted (fun vs H Q E h => ?_) (fun cdv Ar outer s H vs Q E hr h => ?_)
  · obtain ⟨l, xs, rfl, _⟩ := h
    rfl
  · obtain ⟨l, xs, rfl, hl, hx, k⟩ := h
    refine ⟨_, (pss_one (ps_ret (pe_op op_cat (pe_lst (pa_cons (pe_callB call_len_seq rfl T.no_len PySem.boot_len (pa_cons (pv 0) pa_nil)) pa_nil)) (pv 0)))), ?_⟩
    refine ⟨_, rfl, l, _, rfl, .inl (SqL.of hl), (show 1 ≤ sizeLine by decide), fun p hp => ?_⟩
    have sp1 : Same H (upd H p (.lst [nV xs.length])) := Same.upd_new hp
    refine ⟨_, rfl, p, l, _, _, rfl, rfl, upd_same, sp1 _ _ hl, size_ok (by rw [List.length_singleton]; omega), fun q hq => ?_⟩
    exact k _ q (sp1.free hq) upd_same (sp1.upd_new' hq)
end
end FF

set_option Elab.async false
set_option linter.all false
set_option maxRecDepth 100000
set_option maxHeartbeats 4000000
namespace FF
open PySem PySem.Spec PyProof.Rows L2
theorem getN_at {e : List Nat} {i : Nat} (h : i < e.length) : e[i]? = some (e.getD i 0) := by
  rw [List.getD, List.getElem?_eq_getElem h]
  rfl
theorem ix_nat {n j : Nat} (h : j < n) : ixN n (j : Int) = some j := by
  unfold ixN
  rw [if_pos (Int.natCast_nonneg _), if_pos (by omega), toNat_cast]
theorem set_nV (e : List Nat) (i v : Nat) : (e.map nV).set i (nV v) = (e.set i v).map nV := by rw [List.map_set]
theorem rep_zero (n : Nat) : (List.replicate n ([V.int 0] : List V)).flatten = (List.replicate n 0).map nV := by
  induction n with
  | zero => rfl
  | succ n ih => rw [List.replicate_succ, List.flatten_cons, ih, List.replicate_succ]; rfl
theorem pow_sub (n : Nat) : ((2 ^ n : Nat) : Int) - 1 = ((2 ^ n - 1 : Nat) : Int) := by
  have : 0 < 2 ^ n := Nat.pow_pos (by decide)
  omega
theorem dec_nat (x y : Nat) : decide (((x : Nat) : Int) = ((y : Nat) : Int)) = decide (x = y) := by
  rw [Bool.eq_iff_iff, decide_eq_true_iff, decide_eq_true_iff]
  omega
section
variable {P : Program} {w : World} {K : PySem.W.Frag} {mg : Str → Option Value} {base : Heap} {f : Addr} {fd : FuncData} {A : Adr}
abbrev s_Circuit_explaining : Stmt := inClass (top 25) 12
theorem sc_Circuit_explaining : FnScope ["self", "sets", "explained", "t", "test", "way", "broken", "part", "every_test", "tests"] ["self"] (defScope s_Circuit_explaining) := ⟨rfl, rfl, rfl, by decide +kernel, rfl, by decide +kernel, by decide +kernel⟩
def sp_Circuit_explaining (A : Adr) : Sp := fun vs H Q _ => ∃ (X : List Addr) (p : Addr) (M : List Addr) (s : Kcz6.Abs), vs = [.ref p] ∧ CAt A X H p M s ∧ WF s ∧ ∀ H' q, H q = none → H' q = some (.lst ((explL s).map V.bl)) → Same H H' → Q (.ref q) H'
theorem ok_Circuit_explaining (F : Fun K "explaining" "Circuit.explaining" s_Circuit_explaining f fd) (T : Txt K mg A) (B_parts_lacking_one : GF P w K mg base 3 "parts_lacking_one" ["bits"] sp_parts_lacking_one) :
    FnOk P w K mg base CX0 4 f fd ["self"] (sp_Circuit_explaining A) := by
  refine F.ok sc_Circuit_explaining (fun vs H Q E h => ?_) (fun cdv Ar outer s H vs Q E hr h => ?_)
  · obtain ⟨X, p, M, s, rfl, _⟩ := h
    rfl
  · obtain ⟨X, p, M, s, rfl, hC, wf, k⟩ := h
    obtain ⟨dx, lg, lt, gas, ts, eM, h0, h1, h2, hp, hg, ht, pg, pt⟩ := hC.ex
    have lgas := paired_len pg
    have lts := paired_len pt
    have nd := sc_Circuit_explaining.nd
    have w8 := wf.g8
    have w6 := wf.t6
    have p8 := pow_le256 w8
    refine ⟨_, (pss_cons (ps_set (i := 1) nd rfl (Or.inl rfl) (pe_op op_shl pe_int (pe_callB call_len_seq rfl T.no_len PySem.boot_len (pa_cons (pe_fld (pv 0) rfl) pa_nil))))
      (pss_cons (ps_set (i := 2) nd rfl (Or.inl rfl) (pe_op op_rep (pe_lst (pa_cons pe_int pa_nil)) (pv 1)))
      (pss_cons (ps_for PassesOwn.never rfl (pi_enum rfl T.no_enumerate (pa_cons (pe_fld (pv 0) rfl) pa_nil)) (pg_tup rfl (pgs_cons (pg_name (i := 3) nd rfl (Or.inl rfl)) (pgs_cons (pg_name (i := 4) nd rfl (Or.inl rfl)) pgs_nil)))
      (pss_one (ps_for PassesOwn.never rfl (pi_list (pe_fld (pv 4) rfl)) (pg_name (i := 5) nd rfl (Or.inl rfl))
      (pss_one (ps_asg (pe_op op_or (pe_ix ix_list (pv 2) (pe_fld (pv 5) rfl) (fun _ _ => rfl)) (pe_op op_shl pe_int (pv 3))) (pg_sub (pv 2) (pe_fld (pv 5) rfl) set_list))))))
      (pss_cons (ps_for PassesOwn.never rfl (pi_range1 rfl T.no_range (pa_cons (pv 1) pa_nil)) (pg_name (i := 6) nd rfl (Or.inl rfl))
      (pss_one (ps_for PassesOwn.never rfl (pi_list (pe_gf B_parts_lacking_one hr (by decide) rfl (pa_cons (pv 6) pa_nil))) (pg_name (i := 7) nd rfl (Or.inl rfl))
      (pss_one (ps_asg (pe_op op_or (pe_ix ix_list (pv 2) (pv 6) (fun _ _ => rfl)) (pe_ix ix_list (pv 2) (pv 7) (fun _ _ => rfl))) (pg_sub (pv 2) (pv 6) set_list))))))
      (pss_cons (ps_set (i := 8) nd rfl (Or.inr rfl) (pe_op op_sub (pe_op op_shl pe_int (pe_callB call_len_seq rfl T.no_len PySem.boot_len (pa_cons (pe_fld (pv 0) rfl) pa_nil))) pe_int))
      (pss_one (ps_ret (pe_lc rfl nd (pi_list (pv 2)) (blkOk_by (N := ["self", "sets", "explained", "t", "test", "way", "broken", "part", "every_test", "tests"]) (sc := defScope s_Circuit_explaining) (own := [("tests", 9)]) (by decide +kernel)) (fun _ _ _ _ _ => (pg_name (i := 9) nd rfl (Or.inl rfl))) (fun _ _ _ _ _ => pts_nil) (fun _ _ _ _ _ => (pe_cmp (pc_eqI (pv 9) (pv 8)))))))))))), ?_⟩
    -- sets = 1 << len(self.gates)
    have en : (1 : Int) * 2 ^ (((gas.map V.ref).length : Int)).toNat = ((2 ^ s.gates.length : Nat) : Int) := by
      rw [List.length_map, lgas]
      exact shl_one _
    refine ⟨_, rfl, p, _, dx, _, _, rfl, hp, T.cl_Circuit, T.n_gates, cF_gates, lg, _, rfl, .inl (SqL.of hg), _, _, rfl, rfl, ⟨Int.natCast_nonneg _, (by rw [List.length_map]; omega), by decide⟩, ?_⟩
    dsimp only
    rw [en]
    generalize hN : 2 ^ s.gates.length = N at p8 ⊢
    -- explained = [0] * sets
    refine ⟨(show 1 ≤ sizeLine by decide), fun z hz => ?_⟩
    refine ⟨_, rfl, z, _, _, rfl, rfl, upd_same, ?_, ?_, ?_, fun E hE => ?_⟩
    · exact Int.le_trans (by decide) (Int.natCast_nonneg _)
    · exact Int.lt_of_le_of_lt (Int.ofNat_le.mpr p8) (by decide)
    · rw [toNat_cast]
      exact size_ok (by rw [List.length_singleton]; omega)
    have sz : Same H (upd H z (.lst [V.int 0])) := Same.upd_new hz
    have nE : H E = none := sz.free hE
    have sE0 : Same H (upd (upd H z (.lst [V.int 0])) E (.lst (List.replicate ((N : Int)).toNat [V.int 0]).flatten)) := sz.upd_new' hE
    -- for t, test in enumerate(self.tests)
    refine ⟨_, rfl, p, _, dx, _, _, rfl, sE0 _ _ hp, T.cl_Circuit, T.n_tests, cF_tests, lt, _, rfl, SqL.of (sE0 _ _ ht), ?_⟩
    refine for_enum (K := K) (a := lt) (xs := (ts.map Prod.fst).map V.ref) (fun i σ H' => ∃ (v3 v4 v5 : Option V) (e : List Nat), σ = [some (.ref p), some (nV N), some (.ref E), v3, v4, v5, none, none, none, none] ∧ Same H H' ∧ H' E = some (.lst (e.map nV)) ∧ Bits N e (fst1 (wrongs s) i 0))
      ⟨none, none, none, List.replicate N 0, rfl, sE0, ?_, Bits.zero.congr fun m _ t => (fst1_start m t).symm⟩ (fun i σ H' _ ⟨_, _, _, _, _, sm, _⟩ => SqL.of (sm _ _ ht)) ?_ ?_
    · rw [upd_same, toNat_cast, rep_zero]
    · rintro i u σ H' Tp hi ⟨v3, v4, v5, e, rfl, sm, hE', be⟩ hT
      obtain ⟨x, hx, rfl⟩ := map_get hi
      obtain ⟨⟨x', ma⟩, hxm, ex⟩ : ∃ t : Addr × Addr, ts[i]? = some t ∧ t.1 = x := by
        rw [List.getElem?_map] at hx
        cases e : ts[i]? with
        | none => rw [e] at hx; cases hx
        | some t => rw [e] at hx; exact ⟨t, rfl, Option.some.inj hx⟩
      have ex : x' = x := ex
      subst ex
      obtain ⟨τ, hτ, tx⟩ := paired_get pt hxm
      obtain ⟨dt, wa, was, kvs, q1, q2, q3, q4, q5, q6⟩ := tx.ex
      have hi6 : i < s.tests.length := (List.getElem?_eq_some_iff.mp hτ).1
      have ewr : (wrongs s).getD i [] = (pways s.gates τ).map Prod.fst := by
        unfold wrongs
        rw [List.getD, List.getElem?_map, hτ]
        rfl
      have sT := Same.upd_new (o := .tup [.int ((i : Nat) : Int), V.ref x']) hT
      have s1 := sm.trans sT
      refine ⟨Tp, _, rfl, SqT.of upd_same, rfl, _, _, rfl, _, _, rfl, rfl, ?_⟩
      -- for way in test.ways
      refine ⟨_, rfl, x', _, dt, _, _, rfl, s1 _ _ q1, T.cl_Test, T.n_ways, tF_ways, wa, rfl, ⟨_, SqL.of (s1 _ _ (hide_same _ _ q2))⟩, ?_⟩
      refine for_list (K := K) (a := wa) (xs := was.map V.ref) (fun j σ H' => ∃ (v5 : Option V) (e : List Nat), σ = [some (.ref p), some (nV N), some (.ref E), some (nV i), some (.ref x'), v5, none, none, none, none] ∧ Same H H' ∧ H' E = some (.lst (e.map nV)) ∧ Bits N e (fst1 (wrongs s) i j))
        ⟨v5, e, rfl, s1, sT _ _ hE', be⟩ (fun j σ H' _ ⟨_, _, _, sm, _⟩ => SqL.of (sm _ _ (hide_same _ _ q2))) ?_ ?_
      · rintro j u σ H2 hj ⟨v5, e, rfl, sm2, hE2, be2⟩
        obtain ⟨a, ha, rfl⟩ := map_get hj
        obtain ⟨y, hy, wy⟩ := paired_get q3 ha
        obtain ⟨dy, ga, hy1, hy2⟩ := wy.same (hide_same.trans sm2)
        have hyN : y.1 < N := by rw [← hN]; exact (mem_pways.mp (List.mem_of_getElem? hy)).1
        have hye : y.1 < e.length := by rw [be2.1]; exact hyN
        refine ⟨_, rfl, _, rfl, a, _, dy, _, _, rfl, hy1, T.cl_Way, T.n_wrong, wF_wrong, E, _, _, _, rfl, rfl, SqL.of hE2, at_map (getN_at hye), _, rfl, _, _, rfl, rfl, ⟨Int.natCast_nonneg _, (by omega), by decide⟩, _, _, rfl, rfl, ?_⟩
        refine ⟨_, rfl, _, rfl, a, _, dy, _, _, rfl, hy1, T.cl_Way, T.n_wrong, wF_wrong, E, _, _, y.1, rfl, rfl, hE2, ix_nat (by rw [List.length_map]; exact hye), ?_⟩
        refine ⟨_, e.set y.1 (e.getD y.1 0 ||| 2 ^ i), rfl, sm2.upd_own nE, ?_, ?_⟩
        · rw [upd_same]
          dsimp only
          rw [shl_one, or_nat, set_nV]
        · refine (be2.set (v := 2 ^ i) hyN).congr fun m _ t => fst1_next ?_ m t
          rw [ewr, List.getElem?_map, hy]
          rfl
      · rintro σ H2 ⟨v5, e, rfl, sm2, hE2, be2⟩
        refine ⟨_, _, _, e, rfl, sm2, hE2, be2.congr fun m _ t => ?_⟩
        have el : (was.map V.ref).length = ((wrongs s).getD i []).length := by rw [List.length_map, paired_len q3, ewr, List.length_map]
        rw [el]
        exact fst1_turn m t
    rintro σ H' ⟨v3, v4, v5, e, rfl, sm, hE', be⟩
    have be : Bits N e (snd1 (wrongs s) 0 0) := be.congr fun m _ t => by
      rw [snd1_start]
      have el : ((ts.map Prod.fst).map V.ref).length = (wrongs s).length := by unfold wrongs; rw [List.length_map, List.length_map, List.length_map, lts]
      rw [el]
      exact fst1_end m t
    -- for broken in range(sets)
    refine ⟨_, rfl, _, rfl, ?_, ?_, ?_⟩
    · exact Int.le_trans (by decide) (Int.natCast_nonneg _)
    · exact Int.lt_of_le_of_lt (Int.ofNat_le.mpr p8) (by decide)
    rw [toNat_cast]
    refine for_range (n := N) (fun i σ H' => ∃ (v6 v7 : Option V) (e : List Nat), σ = [some (.ref p), some (nV N), some (.ref E), v3, v4, v5, v6, v7, none, none] ∧ Same H H' ∧ H' E = some (.lst (e.map nV)) ∧ Bits N e (snd1 (wrongs s) i 0))
      ⟨none, none, e, rfl, sm, hE', be⟩ ?_ ?_
    · rintro i σ H' hi ⟨v6, v7, e, rfl, sm, hE', be⟩
      refine ⟨_, rfl, i, (by rw [Int.zero_add]; rfl), fun H1 g ng hg s1 => ⟨g, rfl, ⟨_, SqL.of hg⟩, ?_⟩⟩
      have nEg : g ≠ E := fun z => by rw [z, hE'] at ng; cases ng
      refine for_list (K := K) (a := g) (xs := (partsOf i).map nV) (fun j σ H' => ∃ (v7 : Option V) (e : List Nat), σ = [some (.ref p), some (nV N), some (.ref E), v3, v4, v5, some (.int (0 + (i : Int))), v7, none, none] ∧ Same H H' ∧ H' E = some (.lst (e.map nV)) ∧ H' g = some (.lst ((partsOf i).map nV)) ∧ Bits N e (snd1 (wrongs s) i j))
        ⟨v7, e, rfl, sm.trans s1, s1 _ _ hE', hg, be⟩ (fun j σ H' _ ⟨_, _, _, _, _, hg, _⟩ => SqL.of hg) ?_ ?_
      · rintro j u σ H2 hj ⟨v7, e, rfl, sm2, hE2, hg2, be2⟩
        obtain ⟨q, hq, rfl⟩ := map_get hj
        have hlt := parts_lt (by omega) (List.mem_of_getElem? hq)
        have hie : i < e.length := by rw [be2.1]; exact hi
        have hqe : q < e.length := by rw [be2.1]; omega
        refine ⟨_, rfl, _, rfl, E, _, _, _, rfl, rfl, SqL.of hE2, (by rw [Int.zero_add]; exact at_map (getN_at hie)), _, rfl, _, rfl, E, _, _, _, rfl, rfl, SqL.of hE2, at_map (getN_at hqe), _, _, rfl, rfl, ?_⟩
        refine ⟨_, rfl, _, rfl, E, _, _, i, rfl, rfl, hE2, (by rw [Int.zero_add]; exact ix_nat (by rw [List.length_map]; exact hie)), ?_⟩
        refine ⟨_, e.set i (e.getD i 0 ||| e.getD q 0), rfl, sm2.upd_own nE, ?_, (upd_ne nEg).trans hg2, snd1_next be2 hi hq hlt⟩
        rw [upd_same]
        dsimp only
        rw [or_nat, set_nV]
      · rintro σ H2 ⟨v7, e, rfl, sm2, hE2, hg2, be2⟩
        rw [List.length_map] at be2
        exact ⟨_, _, e, rfl, sm2, hE2, snd1_turn be2 p8 (wrongs_lt w8)⟩
    rintro σ H' ⟨v6, v7, e, rfl, sm, hE', be⟩
    have be := snd1_end be
    -- every_test = (1 << len(self.tests)) - 1
    have et : (1 : Int) * 2 ^ ((((ts.map Prod.fst).map V.ref).length : Int)).toNat - 1 = ((2 ^ s.tests.length - 1 : Nat) : Int) := by
      rw [List.length_map, List.length_map, lts, shl_one]
      exact pow_sub _
    refine ⟨_, rfl, p, _, dx, _, _, rfl, sm _ _ hp, T.cl_Circuit, T.n_tests, cF_tests, lt, _, rfl, .inl (SqL.of (sm _ _ ht)), _, _, rfl, rfl, ⟨Int.natCast_nonneg _, (by rw [List.length_map, List.length_map]; omega), by decide⟩, _, _, rfl, rfl, ?_⟩
    dsimp only
    rw [et]
    refine ⟨_, rfl, E, rfl, ⟨_, SqL.of hE'⟩, fun D hD => ?_⟩
    have hel : e.length ≤ 256 := by rw [be.1]; exact p8
    refine lc_list (K := K) (a := E) (xs := e.map nV) (fun j H2 => H2 = upd H' D (.lst (((e.take j).map fun x => decide (x = 2 ^ s.tests.length - 1)).map V.bl))) rfl (fun j H2 _ q => by rw [q]; exact SqL.of ((Same.upd_new hD) _ _ hE')) ?_ ?_
    · rintro j u H2 hj rfl
      obtain ⟨x, hx, rfl⟩ := map_get hj
      refine ⟨rfl, ?_⟩
      refine ⟨_, rfl, _, rfl, _, _, rfl, rfl, _, upd_same, size_lt (by rw [List.length_map, List.length_map, List.length_take]; omega), ?_⟩
      rw [upd_upd]
      dsimp only
      rw [dec_nat, take_snoc hx, List.map_append, List.map_append]
      rfl
    · rintro H2 rfl
      rw [List.length_map, List.take_length]
      subst hN
      rw [expl_of w8 be]
      exact k _ D (sm.free hD) upd_same (sm.upd_new' hD)
end
end FF

set_option Elab.async false
set_option linter.all false
set_option maxRecDepth 100000
set_option maxHeartbeats 4000000
namespace FF
open PySem PySem.Spec PyProof.Rows L2
section
variable {P : Program} {w : World} {K : PySem.W.Frag} {mg : Str → Option Value} {base : Heap} {f : Addr} {fd : FuncData} {A : Adr}
abbrev s_Circuit_least : Stmt := inClass (top 25) 7
theorem sc_Circuit_least : FnScope ["self"] ["self"] (defScope s_Circuit_least) := ⟨rfl, rfl, rfl, by decide +kernel, rfl, by decide +kernel, by decide +kernel⟩
/-- a call that changes nothing and answers a new list -/
def spList (A : Adr) (g : Kcz6.Abs → List V) : Sp := fun vs H Q _ => ∃ (X : List Addr) (p : Addr) (M : List Addr) (s : Kcz6.Abs), vs = [.ref p] ∧ CAt A X H p M s ∧ WF s ∧ ∀ H' q, H q = none → H' q = some (.lst (g s)) → Same H H' → Q (.ref q) H'
def sp_Circuit_least (A : Adr) : Sp := spList A fun s => (Kcz6.diagnoses s).map nV
theorem ok_Circuit_least (F : Fun K "least" "Circuit.least" s_Circuit_least f fd) (T : Txt K mg A) (B_least_of : GF P w K mg base 6 "least_of" ["fitting"] sp_least_of) (B_Circuit_explaining : MF P w K mg base A.CC 4 "explaining" ["self"] (sp_Circuit_explaining A)) :
    FnOk P w K mg base CX0 7 f fd ["self"] (sp_Circuit_least A) := by
  refine F.ok sc_Circuit_least (fun vs H Q E h => ?_) (fun cdv Ar outer s H vs Q E hr h => ?_)
  · obtain ⟨X, p, M, s, rfl, _⟩ := h
    rfl
  · obtain ⟨X, p, M, s, rfl, hC, wf, k⟩ := h
    obtain ⟨dx, lg, lt, gas, ts, eM, h0, h1, h2, hp, _⟩ := hC.ex
    refine ⟨_, (pss_one (ps_ret (pe_gf B_least_of hr (by decide) rfl (pa_cons (pe_mf0 (pv 0) T.cl_Circuit B_Circuit_explaining hr (by decide)) pa_nil)))), ?_⟩
    refine ⟨_, rfl, p, dx, _, rfl, hp, cF_no (by decide +kernel) (by decide +kernel) (by decide +kernel), X, p, M, s, rfl, hC, wf, fun H1 q nq hq s1 => ?_⟩
    refine ⟨q, explL s, rfl, hq, (by rw [explL_len]; exact pow_le256 wf.g8), fun H2 r nr hr2 s2 => ?_⟩
    rw [least_eq wf.g8] at hr2
    exact k H2 r (s1.free nr) hr2 (s1.trans s2)
abbrev s_Circuit_suspects : Stmt := inClass (top 25) 8
theorem sc_Circuit_suspects : FnScope ["self", "explaining", "every", "suspected"] ["self"] (defScope s_Circuit_suspects) := ⟨rfl, rfl, rfl, by decide +kernel, rfl, by decide +kernel, by decide +kernel⟩
def sp_Circuit_suspects (A : Adr) : Sp := spList A fun s => (Kcz6.suspects s).map nV
theorem ok_Circuit_suspects (F : Fun K "suspects" "Circuit.suspects" s_Circuit_suspects f fd) (T : Txt K mg A) (B_least_of : GF P w K mg base 6 "least_of" ["fitting"] sp_least_of) (B_Circuit_explaining : MF P w K mg base A.CC 4 "explaining" ["self"] (sp_Circuit_explaining A)) :
    FnOk P w K mg base CX0 7 f fd ["self"] (sp_Circuit_suspects A) := by
  refine F.ok sc_Circuit_suspects (fun vs H Q E h => ?_) (fun cdv Ar outer s H vs Q E hr h => ?_)
  · obtain ⟨X, p, M, s, rfl, _⟩ := h
    rfl
  · obtain ⟨X, p, M, s, rfl, hC, wf, k⟩ := h
    obtain ⟨dx, lg, lt, gas, ts, eM, h0, h1, h2, hp, _⟩ := hC.ex
    have nd := sc_Circuit_suspects.nd
    have p8 := pow_le256 wf.g8
    refine ⟨_, (pss_cons (ps_set (i := 1) nd rfl (Or.inr rfl) (pe_mf0 (pv 0) T.cl_Circuit B_Circuit_explaining hr (by decide)))
      (pss_cons (ps_set (i := 2) nd rfl (Or.inr rfl) (pe_op op_sub (pe_callB call_len_seq rfl T.no_len PySem.boot_len (pa_cons (pv 1) pa_nil)) pe_int))
      (pss_one (ps_ret (pe_gf B_least_of hr (by decide) rfl (pa_cons (pe_lc rfl nd (pi_range1 rfl T.no_range (pa_cons (pe_callB call_len_seq rfl T.no_len PySem.boot_len (pa_cons (pv 1) pa_nil)) pa_nil)) (blkOk_by (N := ["self", "explaining", "every", "suspected"]) (sc := defScope s_Circuit_suspects) (own := [("suspected", 3)]) (by decide +kernel)) (fun _ _ _ _ _ => (pg_name (i := 3) nd rfl (Or.inl rfl))) (fun _ _ _ _ _ => pts_nil) (fun _ _ _ _ _ => (pe_not (pe_ix (ix_listK K rfl) (pv 1) (pe_op op_xor (pv 2) (pv 3)) (fun _ _ => rfl))))) pa_nil)))))), ?_⟩
    refine ⟨_, rfl, p, dx, _, rfl, hp, cF_no (by decide +kernel) (by decide +kernel) (by decide +kernel), X, p, M, s, rfl, hC, wf, fun H1 q nq hq s1 => ?_⟩
    have el : (((explL s).map V.bl).length : Int) = ((2 ^ s.gates.length : Nat) : Int) := by rw [List.length_map, explL_len]
    refine ⟨_, rfl, q, _, rfl, .inl (SqL.of hq), _, _, rfl, rfl, ?_⟩
    dsimp only
    rw [el, pow_sub]
    refine ⟨_, rfl, q, _, rfl, .inl (SqL.of hq), _, rfl, ?_, ?_, fun D hD => ?_⟩
    · exact Int.le_trans (by decide) (Int.natCast_nonneg _)
    · rw [el]
      exact Int.lt_of_le_of_lt (Int.ofNat_le.mpr p8) (by decide)
    rw [el, toNat_cast]
    have sD : ∀ o, Same H1 (upd H1 D o) := fun o => Same.upd_new hD
    refine lc_range (n := 2 ^ s.gates.length) (fun i H' => H' = upd H1 D (.lst (((List.range i).map fun c => !Kcz6.explains s (Kcz6.others s c)).map V.bl))) rfl ?_ ?_
    · rintro i H' hi rfl
      have ex : Builtin.bitXor ((2 ^ s.gates.length - 1 : Nat) : Int) ((i : Nat) : Int) = ((Kcz6.others s i : Nat) : Int) := by
        rw [xor_nat, xor_others hi]
        rfl
      refine ⟨rfl, ?_⟩
      refine ⟨_, rfl, _, rfl, _, rfl, _, _, rfl, rfl, q, _, _, _, rfl, rfl, SqL.of (sD _ _ _ hq), (by rw [Int.zero_add, ex]; exact at_map (explL_at others_lt)), _, rfl, _, upd_same, size_lt (by rw [List.length_map, List.length_map, List.length_range]; omega), ?_⟩
      rw [upd_upd, List.range_succ, List.map_append, List.map_append]
      rfl
    · rintro H' rfl
      refine ⟨D, suspL s, rfl, upd_same, ?_, fun H2 r nr hr2 s2 => ?_⟩
      · unfold suspL
        rw [List.length_map, List.length_range]
        exact p8
      · rw [suspects_eq wf.g8] at hr2
        exact k H2 r (s1.free ((sD _).free nr)) hr2 ((s1.trans (sD _)).trans s2)
abbrev s_Circuit_sure : Stmt := inClass (top 25) 9
theorem sc_Circuit_sure : FnScope ["self", "every", "in_all", "in_some", "broken"] ["self"] (defScope s_Circuit_sure) := ⟨rfl, rfl, rfl, by decide +kernel, rfl, by decide +kernel, by decide +kernel⟩
def sureL (s : Kcz6.Abs) : List Nat := [0, Kcz6.inAll (Kcz6.diagnoses s) % 2 ^ s.gates.length, Kcz6.others s (Kcz6.inSome (Kcz6.diagnoses s))]
def sp_Circuit_sure (A : Adr) : Sp := spList A fun s => (sureL s).map nV
theorem ok_Circuit_sure (F : Fun K "sure" "Circuit.sure" s_Circuit_sure f fd) (T : Txt K mg A) (B_Circuit_least : MF P w K mg base A.CC 7 "least" ["self"] (sp_Circuit_least A)) :
    FnOk P w K mg base CX0 8 f fd ["self"] (sp_Circuit_sure A) := by
  refine F.ok sc_Circuit_sure (fun vs H Q E h => ?_) (fun cdv Ar outer s H vs Q E hr h => ?_)
  · obtain ⟨X, p, M, s, rfl, _⟩ := h
    rfl
  · obtain ⟨X, p, M, s, rfl, hC, wf, k⟩ := h
    obtain ⟨dx, lg, lt, gas, ts, eM, h0, h1, h2, hp, hg, ht, pg, pt⟩ := hC.ex
    have lgas := paired_len pg
    have nd := sc_Circuit_sure.nd
    have w8 := wf.g8
    refine ⟨_, (pss_cons (ps_set (i := 1) nd rfl (Or.inl rfl) (pe_op op_sub (pe_op op_shl pe_int (pe_callB call_len_seq rfl T.no_len PySem.boot_len (pa_cons (pe_fld (pv 0) rfl) pa_nil))) pe_int))
      (pss_cons (ps_set (i := 2) nd rfl (Or.inl rfl) (pv 1))
      (pss_cons (ps_set (i := 3) nd rfl (Or.inl rfl) pe_int)
      (pss_cons (ps_for PassesOwn.never rfl (pi_list (pe_mf0 (pv 0) T.cl_Circuit B_Circuit_least hr (by decide))) (pg_name (i := 4) nd rfl (Or.inl rfl))
      (pss_cons (ps_set (i := 2) nd rfl (Or.inl rfl) (pe_op op_and (pv 2) (pv 4)))
      (pss_one (ps_set (i := 3) nd rfl (Or.inl rfl) (pe_op op_or (pv 3) (pv 4))))))
      (pss_one (ps_ret (pe_lst (pa_cons pe_int (pa_cons (pv 2) (pa_cons (pe_op op_xor (pv 1) (pv 3)) pa_nil)))))))))), ?_⟩
    have en : (1 : Int) * 2 ^ (((gas.map V.ref).length : Int)).toNat - 1 = ((2 ^ s.gates.length - 1 : Nat) : Int) := by
      rw [List.length_map, lgas, shl_one]
      exact pow_sub _
    refine ⟨_, rfl, p, _, dx, _, _, rfl, hp, T.cl_Circuit, T.n_gates, cF_gates, lg, _, rfl, .inl (SqL.of hg), _, _, rfl, rfl, ⟨Int.natCast_nonneg _, (by rw [List.length_map]; omega), by decide⟩, _, _, rfl, rfl, ?_⟩
    dsimp only
    rw [en]
    generalize hev : 2 ^ s.gates.length - 1 = ev
    refine ⟨_, rfl, ?_⟩
    refine ⟨_, rfl, p, dx, _, rfl, hp, cF_no (by decide +kernel) (by decide +kernel) (by decide +kernel), X, p, M, s, rfl, hC, wf, fun H1 q nq hq s1 => ⟨q, rfl, ⟨_, SqL.of hq⟩, ?_⟩⟩
    refine for_list (K := K) (a := q) (xs := (Kcz6.diagnoses s).map nV) (fun i σ H' => ∃ v4 : Option V, σ = [some (.ref p), some (nV ev), some (nV (((Kcz6.diagnoses s).take i).foldl (fun x y => x &&& y) ev)), some (nV (((Kcz6.diagnoses s).take i).foldl (fun x y => x ||| y) 0)), v4] ∧ H' = H1)
      ⟨none, rfl, rfl⟩ (fun i σ H' _ ⟨_, _, e⟩ => by rw [e]; exact SqL.of hq) ?_ ?_
    · rintro i u σ H' hi ⟨v4, rfl, rfl⟩
      obtain ⟨x, hx, rfl⟩ := map_get hi
      refine ⟨_, rfl, _, rfl, _, _, rfl, rfl, ?_⟩
      refine ⟨_, rfl, _, rfl, _, _, rfl, rfl, ?_⟩
      refine ⟨some (nV x), ?_, rfl⟩
      dsimp only
      rw [and_nat, or_nat, take_snoc hx, List.foldl_append, List.foldl_append]
      rfl
    · rintro σ H' ⟨v4, rfl, rfl⟩
      rw [List.length_map, List.take_length]
      refine ⟨_, rfl, _, rfl, _, rfl, _, _, rfl, rfl, (show 3 ≤ sizeLine by decide), fun r hr2 => ?_⟩
      refine k _ r (s1.free hr2) (upd_same.trans ?_) (s1.upd_new' hr2)
      dsimp only
      subst hev
      rw [xor_nat, inAll_eq w8, none_eq w8]
      rfl
/-! ### may -/
theorem may_no {s : Kcz6.Abs} {d k x : Nat} (h : s.tests[k]? = none) : Kcz6.step s (.may d k x) = (s, .num (-2)) := by
  unfold Kcz6.step
  dsimp only
  rw [h]
theorem may_bad {s : Kcz6.Abs} {d k x : Nat} {t : Kcz6.Test} (h : s.tests[k]? = some t) (h2 : 2 ^ s.gates.length ≤ d ∨ s.gates.length ≤ x) : Kcz6.step s (.may d k x) = (s, .num (-22)) := by
  unfold Kcz6.step
  dsimp only
  rw [h]
  exact if_pos h2
theorem may_not {s : Kcz6.Abs} {d k x : Nat} {t : Kcz6.Test} (h : s.tests[k]? = some t) (h2 : ¬ (2 ^ s.gates.length ≤ d ∨ s.gates.length ≤ x)) (h3 : (Kcz6.waysOf s d t).isEmpty = true) : Kcz6.step s (.may d k x) = (s, .num (-61)) := by
  unfold Kcz6.step
  dsimp only
  rw [h]
  exact (if_neg h2).trans (if_pos h3)
theorem may_ok {s : Kcz6.Abs} {d k x : Nat} {t : Kcz6.Test} (h : s.tests[k]? = some t) (h2 : ¬ (2 ^ s.gates.length ≤ d ∨ s.gates.length ≤ x)) (h3 : ¬ (Kcz6.waysOf s d t).isEmpty = true) : Kcz6.step s (.may d k x) = (s, .num (Kcz6.may s d t x)) := by
  unfold Kcz6.step
  dsimp only
  rw [h]
  exact (if_neg h2).trans (if_neg h3)
abbrev s_Circuit_may : Stmt := inClass (top 25) 10
theorem sc_Circuit_may : FnScope ["self", "broken", "t", "w", "ways"] ["self", "broken", "t", "w"] (defScope s_Circuit_may) := ⟨rfl, rfl, rfl, by decide +kernel, rfl, by decide +kernel, by decide +kernel⟩
def sp_Circuit_may (A : Adr) : Sp := fun vs H Q _ => ∃ (X : List Addr) (p : Addr) (M : List Addr) (s : Kcz6.Abs) (d t x : Nat), vs = [.ref p, nV d, nV t, nV x] ∧ CAt A X H p M s ∧ WF s ∧ Prom A X p M H (Kcz6.step s (.may d t x)).1 Q (ansV (Kcz6.step s (.may d t x)).2)
theorem ok_Circuit_may (F : Fun K "may" "Circuit.may" s_Circuit_may f fd) (T : Txt K mg A) (B_has_bit_from : GF P w K mg base 1 "has_bit_from" ["bits", "k"] sp_has_bit_from) (B_Test_ways_with : MF P w K mg base A.CT 1 "ways_with" ["self", "broken"] (sp_Test_ways_with A))
    (B_could_give : GF P w K mg base 1 "could_give" ["ways", "w"] (sp_could_give A)) : FnOk P w K mg base CX0 2 f fd ["self", "broken", "t", "w"] (sp_Circuit_may A) := by
  refine F.ok sc_Circuit_may (fun vs H Q E h => ?_) (fun cdv Ar outer s H vs Q E hr h => ?_)
  · obtain ⟨X, p, M, s, d, t, x, rfl, _⟩ := h
    rfl
  · obtain ⟨X, p, M, s, d, t, g, rfl, hC, wf, k⟩ := h
    obtain ⟨dx, lg, lt, gas, ts, eM, h0, h1, h2, hp, hg, ht, pg, pt⟩ := hC.ex
    have lts := paired_len pt
    have lgas := paired_len pg
    have nd := sc_Circuit_may.nd
    refine ⟨_, (pss_cons (ps_if (pt_cmp (pc_ge (pv 2) (pe_callB call_len_seq rfl T.no_len PySem.boot_len (pa_cons (pe_fld (pv 0) rfl) pa_nil)))) (pss_one (ps_ret (pe_gi rfl T.g_NOT_THERE))) pss_nil)
      (pss_cons (ps_if (PW.pt (pw_or (pt_val (pe_gf B_has_bit_from hr (by decide) rfl (pa_cons (pv 1) (pa_cons (pe_callB call_len_seq rfl T.no_len PySem.boot_len (pa_cons (pe_fld (pv 0) rfl) pa_nil)) pa_nil)))) (pw_or1 (pt_cmp (pc_ge (pv 3) (pe_callB call_len_seq rfl T.no_len PySem.boot_len (pa_cons (pe_fld (pv 0) rfl) pa_nil))))))) (pss_one (ps_ret (pe_gi rfl T.g_NOT_VALID))) pss_nil)
      (pss_cons (ps_set (i := 4) nd rfl (Or.inl rfl) (pe_mf (pe_ix ix_list (pe_fld (pv 0) rfl) (pv 2) (fun _ _ => rfl)) T.cl_Test B_Test_ways_with hr (by decide) (pa_cons (pv 1) pa_nil)))
      (pss_cons (ps_if (pt_cmp (pc_eqI (pe_callB call_len_seq rfl T.no_len PySem.boot_len (pa_cons (pv 4) pa_nil)) pe_int)) (pss_one (ps_ret (pe_gi rfl T.g_NO_WAY))) pss_nil)
      (pss_one (ps_ret (pe_gf B_could_give hr (by decide) rfl (pa_cons (pv 4) (pa_cons (pv 3) pa_nil))))))))), ?_⟩
    refine ⟨_, rfl, _, rfl, p, _, dx, _, _, rfl, hp, T.cl_Circuit, T.n_tests, cF_tests, lt, _, rfl, .inl (SqL.of ht), _, _, rfl, rfl, _, rfl, ite2 (fun c1 => ?_) (fun c1 => ?_)⟩
    · have c1 := of_decide_eq_true c1
      rw [List.length_map, List.length_map, lts] at c1
      rw [may_no (List.getElem?_eq_none (by omega))] at k
      exact k.same hC (Same.refl H)
    rw [decide_eq_true_iff, List.length_map, List.length_map, lts] at c1
    obtain ⟨τ, hτ⟩ : ∃ τ, s.tests[t]? = some τ := ⟨_, List.getElem?_eq_getElem (by omega)⟩
    refine ⟨_, rfl, _, rfl, p, _, dx, _, _, rfl, hp, T.cl_Circuit, T.n_gates, cF_gates, lg, _, rfl, .inl (SqL.of hg), d, (gas.map V.ref).length, rfl, _, rfl, ?_⟩
    rw [List.length_map, lgas]
    refine ite2 (fun c2 => ?_) (fun c2 => ?_)
    · rw [may_bad hτ (.inl (of_decide_eq_true c2))] at k
      exact iteT (k.same hC (Same.refl H))
    rw [decide_eq_true_iff] at c2
    refine ⟨_, rfl, _, rfl, p, _, dx, _, _, rfl, hp, T.cl_Circuit, T.n_gates, cF_gates, lg, _, rfl, .inl (SqL.of hg), _, _, rfl, rfl, _, rfl, ite2 (fun c3 => ?_) (fun c3 => ?_)⟩
    · have c3 := of_decide_eq_true c3
      rw [List.length_map, lgas] at c3
      rw [may_bad hτ (.inr (by omega))] at k
      exact k.same hC (Same.refl H)
    rw [decide_eq_true_iff, List.length_map, lgas] at c3
    have nb : ¬ (2 ^ s.gates.length ≤ d ∨ s.gates.length ≤ g) := by omega
    obtain ⟨⟨x, ma⟩, hxi, tx⟩ := paired_getR pt hτ
    obtain ⟨dt, wa, was, kvs, q1, q2, q3, q4, q5, q6⟩ := tx.ex
    have hat : atI ((ts.map Prod.fst).map V.ref) ((t : Nat) : Int) = some (V.ref x) := by
      refine at_map (f := V.ref) ?_
      rw [List.getElem?_map, hxi]
      rfl
    have mx : x ∈ M := by rw [eM]; exact mem_Mof.mpr (.inr (.inr (.inr (.inl (List.mem_map.mpr ⟨(x, ma), List.mem_of_getElem? hxi, rfl⟩)))))
    have mma : ma ∈ M := by rw [eM]; exact mem_Mof.mpr (.inr (.inr (.inr (.inr (List.mem_map.mpr ⟨(x, ma), List.mem_of_getElem? hxi, rfl⟩)))))
    have p8 := pow_le256 wf.g8
    have pl := pways_len s.gates τ
    refine ⟨_, rfl, p, _, dx, _, _, rfl, hp, T.cl_Circuit, T.n_tests, cF_tests, _, rfl, lt, _, _, _, rfl, rfl, SqL.of ht, hat, x, dt, _, rfl, q1, tF_no (by decide +kernel) (by decide +kernel), _, rfl, ?_⟩
    refine ⟨x, ma, hide (M ++ X) H, pways s.gates τ, kvs, d, rfl, ⟨hide_same, hide_in (List.mem_append_left _ mx), hide_in (List.mem_append_left _ mma), dt, wa, was, q1, q2, q3, q4⟩, (by omega), ?_⟩
    intro H1 l ws' nl hl pw s1
    have lw := paired_len pw
    refine ⟨_, rfl, l, _, rfl, .inl (SqL.of hl), _, _, rfl, rfl, _, rfl, ?_⟩
    have ec : decide ((((ws'.map V.ref).length : Nat) : Int) = 0) = (Kcz6.waysOf s d τ).isEmpty := by
      rw [waysOf_empty, List.length_map, lw]
      show _ = (pwith s.gates τ d).isEmpty
      unfold pwith
      cases (pways s.gates τ).filter fun y => decide (y.1 ||| d = d) with
      | nil => rfl
      | cons a r =>
        rw [List.length_cons]
        exact decide_eq_false (by omega)
    show if decide ((((ws'.map V.ref).length : Nat) : Int) = 0) = true then _ else _
    rw [ec]
    refine ite2 (fun c4 => ?_) (fun c4 => ?_)
    · rw [may_not hτ nb c4] at k
      exact k.same hC s1
    rw [may_ok hτ nb c4, may_could (wf.tok τ (List.mem_of_getElem? hτ)).1] at k
    refine ⟨_, rfl, _, rfl, l, ws', pwith s.gates τ d, g, rfl, hl, paired_imp pw fun a b _ q => q.same (hide_same.trans s1), fun y hy => ?_, k.same hC s1⟩
    rw [(mem_pways.mp (List.mem_filter.mp hy).1).2.1, gaveOf_len]
    omega
end
end FF

set_option Elab.async false
set_option linter.all false
set_option maxRecDepth 100000
set_option maxHeartbeats 4000000
namespace FF
open PySem PySem.Spec PyProof.Rows L2
theorem next_no {s : Kcz6.Abs} {k : Nat} (h : s.tests[k]? = none) : Kcz6.step s (.next k) = (s, .num (-2)) := by
  unfold Kcz6.step
  dsimp only
  rw [h]
theorem next_all {s : Kcz6.Abs} {k : Nat} {t : Kcz6.Test} (h : s.tests[k]? = some t) (h2 : Kcz6.open_ s t = []) : Kcz6.step s (.next k) = (s, .num (-6)) := by
  unfold Kcz6.step
  dsimp only
  rw [h]
  dsimp only
  rw [h2]
  rfl
theorem next_ok {s : Kcz6.Abs} {k g : Nat} {t : Kcz6.Test} (h : s.tests[k]? = some t) (h2 : Kcz6.best (Kcz6.worst s (Kcz6.diagnoses s) t) (Kcz6.open_ s t) = some g) :
    Kcz6.step s (.next k) = (s, .some_ g [Kcz6.left s (Kcz6.diagnoses s) t g 0, Kcz6.left s (Kcz6.diagnoses s) t g 1]) := by
  unfold Kcz6.step
  dsimp only
  rw [h]
  dsimp only
  rw [h2]
theorem next_same (s : Kcz6.Abs) (k : Nat) : (Kcz6.step s (.next k)).1 = s := by
  unfold Kcz6.step
  dsimp only
  repeat' split
  all_goals rfl
theorem left_cnt {s : Kcz6.Abs} {t : Kcz6.Test} (hl : t.inputs.length = s.inputs) (ds : List Nat) (g v : Nat) : Kcz6.left s ds t g v = cnt (ds.map fun d => pwith s.gates t d) g v := by
  unfold Kcz6.left cnt
  rw [List.map_map, List.filter_map, List.length_map]
  congr 1
  refine List.filter_congr fun d _ => ?_
  rw [may_could hl]
  rfl
theorem some_none (o : Option Bool) : o.isSome = !o.isNone := by cases o <;> rfl
theorem hide1_same {C : Addr} {H : Hp} {o : HO} : Same (hide [C] H) (hide [C] (upd H C o)) := fun b u e => by
  obtain ⟨n, e⟩ := of_hide e
  exact hide_of ((upd_ne fun z => n (by rw [z]; exact List.mem_singleton.mpr rfl)).trans e) n
theorem hide1_of {C : Addr} {H H' : Hp} (s : Same H H') (n : H C = none) : Same H (hide [C] H') := fun b u e =>
  hide_of (s _ _ e) fun z => by rw [List.mem_singleton.mp z, n] at e; cases e
theorem hide1_mono {C : Addr} {H H' : Hp} (s : Same H H') : Same (hide [C] H) (hide [C] H') := fun b u e => by
  obtain ⟨n, e⟩ := of_hide e
  exact hide_of (s _ _ e) n
section
variable {P : Program} {w : World} {K : PySem.W.Frag} {mg : Str → Option Value} {base : Heap} {f : Addr} {fd : FuncData} {A : Adr}
abbrev s_Circuit_measure_next : Stmt := inClass (top 25) 11
theorem sc_Circuit_measure_next : FnScope ["self", "t", "unmeasured", "ways_of_each", "broken", "w"] ["self", "t"] (defScope s_Circuit_measure_next) := ⟨rfl, rfl, rfl, by decide +kernel, rfl, by decide +kernel, by decide +kernel⟩
def sp_Circuit_measure_next (A : Adr) : Sp := fun vs H Q _ => ∃ (X : List Addr) (p : Addr) (M : List Addr) (s : Kcz6.Abs) (t : Nat), vs = [.ref p, nV t] ∧ CAt A X H p M s ∧ WF s ∧
  ∀ H' q, H q = none → H' q = some (.lst ((Kcz6Neutral.tell (Kcz6.step s (.next t)).2).map V.int)) → Same H H' → Q (.ref q) H'
theorem ok_Circuit_measure_next (F : Fun K "measure_next" "Circuit.measure_next" s_Circuit_measure_next f fd) (T : Txt K mg A) (B_Test_unmeasured_of : MF P w K mg base A.CT 1 "unmeasured_of" ["self", "gates"] (sp_Test_unmeasured_of A))
    (B_Circuit_least : MF P w K mg base A.CC 7 "least" ["self"] (sp_Circuit_least A)) (B_Test_ways_with : MF P w K mg base A.CT 1 "ways_with" ["self", "broken"] (sp_Test_ways_with A))
    (B_greater_count : GF P w K mg base 1 "greater_count" ["found"] sp_greater_count) (B_counts_left : GF P w K mg base 2 "counts_left" ["ways_of_each", "w"] (sp_counts_left A)) :
    FnOk P w K mg base CX0 8 f fd ["self", "t"] (sp_Circuit_measure_next A) := by
  refine F.ok sc_Circuit_measure_next (fun vs H Q E h => ?_) (fun cdv Ar outer s H vs Q E hr h => ?_)
  · obtain ⟨X, p, M, s, t, rfl, _⟩ := h
    rfl
  · obtain ⟨X, p, M, s, t, rfl, hC, wf, k⟩ := h
    obtain ⟨dx, lg, lt, gas, ts, eM, h0, h1, h2, hp, hg, ht, pg, pt⟩ := hC.ex
    have lts := paired_len pt
    have lgas := paired_len pg
    have nd := sc_Circuit_measure_next.nd
    have w8 := wf.g8
    have p8 := pow_le256 w8
    refine ⟨_, (pss_cons (ps_if (pt_cmp (pc_ge (pv 1) (pe_callB call_len_seq rfl T.no_len PySem.boot_len (pa_cons (pe_fld (pv 0) rfl) pa_nil)))) (pss_one (ps_ret (pe_lst (pa_cons (pe_gi rfl T.g_NOT_THERE) pa_nil)))) pss_nil)
      (pss_cons (ps_set (i := 2) nd rfl (Or.inl rfl) (pe_mf (pe_ix ix_list (pe_fld (pv 0) rfl) (pv 1) (fun _ _ => rfl)) T.cl_Test B_Test_unmeasured_of hr (by decide) (pa_cons (pe_callB call_len_seq rfl T.no_len PySem.boot_len (pa_cons (pe_fld (pv 0) rfl) pa_nil)) pa_nil)))
      (pss_cons (ps_if (pt_cmp (pc_eqI (pe_callB call_len_seq rfl T.no_len PySem.boot_len (pa_cons (pv 2) pa_nil)) pe_int)) (pss_one (ps_ret (pe_lst (pa_cons (pe_gi rfl T.g_ALL_MEASURED) pa_nil)))) pss_nil)
      (pss_cons (ps_set (i := 3) nd rfl (Or.inr rfl) (pe_lc rfl nd (pi_list (pe_mf0 (pv 0) T.cl_Circuit B_Circuit_least hr (by decide))) (blkOk_by (N := ["self", "t", "unmeasured", "ways_of_each", "broken", "w"]) (sc := defScope s_Circuit_measure_next) (own := [("broken", 4)]) (by decide +kernel)) (fun _ _ _ _ _ => (pg_name (i := 4) nd rfl (Or.inl rfl))) (fun _ _ _ _ _ => pts_nil) (fun _ _ _ _ _ => (pe_mf (pe_ix (ix_listK K rfl) (pe_fldK K rfl (pv 0) rfl) (pv 1) (fun _ _ => rfl)) T.cl_Test B_Test_ways_with hr (by decide) (pa_cons (pv 4) pa_nil)))))
      (pss_one (ps_ret (pe_minK B_greater_count hr (by decide) rfl rfl T.no_min rfl (pe_lc rfl nd (pi_list (pv 2)) (blkOk_by (N := ["self", "t", "unmeasured", "ways_of_each", "broken", "w"]) (sc := defScope s_Circuit_measure_next) (own := [("w", 5)]) (by decide +kernel)) (fun _ _ _ _ _ => (pg_name (i := 5) nd rfl (Or.inl rfl))) (fun _ _ _ _ _ => pts_nil) (fun _ _ _ _ _ => (pe_op op_cat (pe_lst (pa_cons (pv 5) pa_nil)) (pe_gf B_counts_left hr (by decide) rfl (pa_cons (pv 3) (pa_cons (pv 5) pa_nil))))))))))))), ?_⟩
    refine ⟨_, rfl, _, rfl, p, _, dx, _, _, rfl, hp, T.cl_Circuit, T.n_tests, cF_tests, lt, _, rfl, .inl (SqL.of ht), _, _, rfl, rfl, _, rfl, ite2 (fun c1 => ?_) (fun c1 => ?_)⟩
    · have c1 := of_decide_eq_true c1
      rw [List.length_map, List.length_map, lts] at c1
      rw [next_no (List.getElem?_eq_none (by omega))] at k
      exact ⟨(show 1 ≤ sizeLine by decide), fun q hq => k _ q hq upd_same (Same.upd_new hq)⟩
    rw [decide_eq_true_iff, List.length_map, List.length_map, lts] at c1
    obtain ⟨τ, hτ⟩ : ∃ τ, s.tests[t]? = some τ := ⟨_, List.getElem?_eq_getElem (by omega)⟩
    obtain ⟨ti, tsl⟩ := wf.tok τ (List.mem_of_getElem? hτ)
    obtain ⟨⟨x, ma⟩, hxi, tx⟩ := paired_getR pt hτ
    obtain ⟨dt, wa, was, kvs, q1, q2, q3, q4, q5, q6⟩ := tx.ex
    have hat : atI ((ts.map Prod.fst).map V.ref) ((t : Nat) : Int) = some (V.ref x) := by
      refine at_map (f := V.ref) ?_
      rw [List.getElem?_map, hxi]
      rfl
    have mx : x ∈ M := by rw [eM]; exact mem_Mof.mpr (.inr (.inr (.inr (.inl (List.mem_map.mpr ⟨(x, ma), List.mem_of_getElem? hxi, rfl⟩)))))
    have mma : ma ∈ M := by rw [eM]; exact mem_Mof.mpr (.inr (.inr (.inr (.inr (List.mem_map.mpr ⟨(x, ma), List.mem_of_getElem? hxi, rfl⟩)))))
    have pl := pways_len s.gates τ
    -- unmeasured
    refine ⟨_, rfl, p, _, dx, _, _, rfl, hp, T.cl_Circuit, T.n_tests, cF_tests, _, rfl, lt, _, _, _, rfl, rfl, SqL.of ht, hat, x, dt, _, rfl, q1, tF_no (by decide +kernel) (by decide +kernel), ?_⟩
    refine ⟨_, rfl, p, _, dx, _, _, rfl, hp, T.cl_Circuit, T.n_gates, cF_gates, lg, _, rfl, .inl (SqL.of hg), ?_⟩
    refine ⟨x, ma, dt, wa, kvs, (gas.map V.ref).length, fun j => (τ.seen.getD j none).isNone, rfl, q1, q4, (by rw [List.length_map]; omega), fun j => (q5 j).trans (some_none _), fun H1 ul nul hul s1 => ?_⟩
    rw [List.length_map, lgas] at hul
    have hul : H1 ul = some (.lst ((Kcz6.open_ s τ).map nV)) := hul
    have oplen : (Kcz6.open_ s τ).length ≤ 8 := by
      unfold Kcz6.open_
      exact Nat.le_trans (List.length_filter_le _ _) (by rw [List.length_range]; exact w8)
    refine ⟨_, rfl, ul, _, rfl, .inl (SqL.of hul), _, _, rfl, rfl, _, rfl, ite2 (fun c2 => ?_) (fun c2 => ?_)⟩
    · have c2 := of_decide_eq_true c2
      rw [List.length_map] at c2
      have eo : Kcz6.open_ s τ = [] := List.eq_nil_of_length_eq_zero (by omega)
      rw [next_all hτ eo] at k
      exact ⟨(show 1 ≤ sizeLine by decide), fun q hq => k _ q (s1.free hq) upd_same (s1.upd_new' hq)⟩
    rw [decide_eq_true_iff, List.length_map] at c2
    -- ways_of_each
    refine ⟨_, rfl, p, dx, _, rfl, s1 _ _ hp, cF_no (by decide +kernel) (by decide +kernel) (by decide +kernel), X, p, M, s, rfl, hC.same s1, wf, fun H2 dl ndl hdl s2 => ⟨dl, rfl, ⟨_, SqL.of hdl⟩, fun C nC => ?_⟩⟩
    have s02 := s1.trans s2
    have dlen := diagnoses_len (a := s) w8
    refine lc_list (K := K) (a := dl) (xs := (Kcz6.diagnoses s).map nV) (fun i H' => ∃ ls : List Addr, Same H2 H' ∧ H' C = some (.lst (ls.map V.ref)) ∧ Paired (WssAt A.CW (hide [C] H')) ls (((Kcz6.diagnoses s).take i).map fun d => pwith s.gates τ d))
      ⟨[], Same.upd_new nC, upd_same, .nil⟩ (fun i H' _ ⟨_, sm, _⟩ => SqL.of (sm _ _ hdl)) ?_ ?_
    · rintro i u H' hi ⟨ls, sm, hC', ps⟩
      obtain ⟨d, hd, rfl⟩ := map_get hi
      have s0 := s02.trans sm
      have lls := paired_len ps
      rw [List.length_map, List.length_take] at lls
      refine ⟨rfl, ?_⟩
      refine ⟨_, rfl, p, _, dx, _, _, rfl, s0 _ _ hp, T.cl_Circuit, T.n_tests, cF_tests, _, rfl, lt, _, _, _, rfl, rfl, SqL.of (s0 _ _ ht), hat, x, dt, _, rfl, s0 _ _ q1, tF_no (by decide +kernel) (by decide +kernel), _, rfl, ?_⟩
      refine ⟨x, ma, hide (M ++ X) H, pways s.gates τ, kvs, d, rfl, ⟨hide_same.trans s0, hide_in (List.mem_append_left _ mx), hide_in (List.mem_append_left _ mma), dt, wa, was, s0 _ _ q1, q2, q3, s0 _ _ q4⟩, (by omega), ?_⟩
      intro H3 l ws' nl hl pw s3
      have nlC : l ≠ C := fun z => by rw [z, hC'] at nl; cases nl
      refine ⟨_, s3 _ _ hC', size_lt (by rw [List.length_map]; omega), ls ++ [l], (sm.trans s3).upd_own nC, ?_, ?_⟩
      · rw [upd_same, List.map_append]
        rfl
      · rw [take_snoc hd, List.map_append]
        refine paired_snoc (paired_imp ps fun a b _ q => (q.same (hide1_mono s3)).same hide1_same) ⟨ws', hide_of ((upd_ne nlC).trans hl) (fun z => nlC (List.mem_singleton.mp z)), paired_imp pw fun a b _ q => q.same ?_⟩
        exact (hide_same.trans (hide1_of (s0.trans s3) (s02.free nC))).trans hide1_same
    rintro H3 ⟨ls, sm3, hC3, ps⟩
    rw [List.length_map, List.take_length] at ps
    have s03 := s02.trans sm3
    have pwss : Paired (WssAt A.CW H3) ls ((Kcz6.diagnoses s).map fun d => pwith s.gates τ d) := paired_imp ps fun a b _ q => q.same hide_same
    generalize hW : (Kcz6.diagnoses s).map (fun d => pwith s.gates τ d) = wss at pwss
    have wlen : wss.length ≤ 3000 := by rw [← hW, List.length_map]; omega
    -- min
    have hul3 := (s2.trans sm3) _ _ hul
    refine ⟨_, rfl, ul, rfl, ⟨_, SqL.of hul3⟩, fun D nD => ?_⟩
    refine lc_list (K := K) (a := ul) (xs := (Kcz6.open_ s τ).map nV) (fun i H' => ∃ rs : List Addr, Same H3 H' ∧ H' D = some (.lst (rs.map V.ref)) ∧ Paired (fun r g => H r = none ∧ hide [D] H' r = some (.lst [nV g, nV (cnt wss g 0), nV (cnt wss g 1)])) rs ((Kcz6.open_ s τ).take i))
      ⟨[], Same.upd_new nD, upd_same, .nil⟩ (fun i H' _ ⟨_, sm, _⟩ => SqL.of (sm _ _ hul3)) ?_ ?_
    · rintro i u H' hi ⟨rs, sm, hD', pr⟩
      obtain ⟨g, hgi, rfl⟩ := map_get hi
      have lrs := paired_len pr
      rw [List.length_take] at lrs
      have glt : g < s.gates.length := by
        have := (List.mem_filter.mp (List.mem_of_getElem? hgi)).1
        exact List.mem_range.mp this
      refine ⟨rfl, ?_⟩
      refine ⟨_, rfl, (show 1 ≤ sizeLine by decide), fun z nz => ?_⟩
      have sz : Same H' (upd H' z (.lst [nV g])) := Same.upd_new nz
      have sz0 := sm.trans sz
      refine ⟨_, rfl, _, rfl, C, ls, wss, g, rfl, sz0 _ _ hC3, paired_imp pwss fun a b _ q => q.same sz0, wlen, fun ws hws y hy => ?_, fun H4 q nq hq s4 => ?_⟩
      · rw [← hW] at hws
        obtain ⟨d, _, rfl⟩ := List.mem_map.mp hws
        rw [(mem_pways.mp (List.mem_filter.mp hy).1).2.1, gaveOf_len]
        exact glt
      refine ⟨z, q, _, _, rfl, rfl, s4 _ _ upd_same, hq, (show 3 ≤ sizeLine by decide), fun r nr => ?_⟩
      have s5 : Same H' (upd H4 r (.lst ([nV g] ++ [nV (cnt wss g 0), nV (cnt wss g 1)]))) := (sz.trans s4).upd_new' nr
      have hD5 := s5 _ _ hD'
      have nrD : r ≠ D := fun e => by rw [e, (sz.trans s4) _ _ hD'] at nr; cases nr
      refine ⟨_, hD5, size_lt (by rw [List.length_map]; omega), rs ++ [r], (sm.trans s5).upd_own nD, ?_, ?_⟩
      · rw [upd_same, List.map_append]
        rfl
      · rw [take_snoc hgi]
        refine paired_snoc (paired_imp pr fun a b _ q => ⟨q.1, hide1_same _ _ (hide1_mono s5 _ _ q.2)⟩) ⟨s03.free (sm.free ((sz.trans s4).free nr)), hide_of ((upd_ne nrD).trans upd_same) fun e => nrD (List.mem_singleton.mp e)⟩
    rintro H4 ⟨rs, sm4, hD4, pr⟩
    rw [List.length_map, List.take_length] at pr
    have lrs := paired_len pr
    refine ⟨D, rfl, rs.map V.ref, fun i => ((max (cnt wss ((Kcz6.open_ s τ).getD i 0) 0) (cnt wss ((Kcz6.open_ s τ).getD i 0) 1) : Nat) : Int), SqL.of hD4, ?_, ?_, ?_⟩
    · rw [List.length_map, lrs]
      omega
    · intro H5 i u Q5 s5 hi hq
      obtain ⟨r, hr2, rfl⟩ := map_get hi
      obtain ⟨g, hgi, hrn, hr3⟩ := paired_get pr hr2
      have eg : (Kcz6.open_ s τ).getD i 0 = g := by rw [List.getD, hgi]; rfl
      refine ⟨r, nV g, cnt wss g 0, cnt wss g 1, rfl, s5 _ _ (hide_same _ _ hr3), ?_⟩
      have := hq H5 (Same.refl H5)
      dsimp only at this
      rw [eg] at this
      exact this
    · intro H5 i u s5 hi fm
      obtain ⟨r, hr2, rfl⟩ := map_get hi
      obtain ⟨g, hgi, hrn, hr3⟩ := paired_get pr hr2
      have eg : (Kcz6.open_ s τ).getD i 0 = g := by rw [List.getD, hgi]; rfl
      have eb : Kcz6.best (Kcz6.worst s (Kcz6.diagnoses s) τ) (Kcz6.open_ s τ) = some g := by
        refine best_some hgi fun j y hy => ?_
        have ey : (Kcz6.open_ s τ).getD j 0 = y := by rw [List.getD, hy]; rfl
        have hj : j < (rs.map V.ref).length := by rw [List.length_map, lrs]; exact (List.getElem?_eq_some_iff.mp hy).1
        have q := fm j hj
        dsimp only at q
        rw [eg, ey] at q
        unfold Kcz6.worst
        rw [left_cnt ti, left_cnt ti, left_cnt ti, left_cnt ti, hW]
        exact ⟨by omega, fun z => by have := q.2 z; omega⟩
      rw [next_ok hτ eb, left_cnt ti, left_cnt ti, hW] at k
      exact k H5 r hrn (s5 _ _ (hide_same _ _ hr3)) (s03.trans (sm4.trans s5))
end
end FF

set_option Elab.async false
set_option linter.all false
set_option maxRecDepth 100000
set_option maxHeartbeats 4000000
namespace FF
open PySem PySem.Spec PyProof.Rows L2
def isNum : Kcz6.Ans → Bool
  | .num _ => true
  | _ => false
theorem num_tell {y : Kcz6.Ans} (h : isNum y = true) : (Kcz6Neutral.tell y).map V.int = [ansV y] := by
  cases y with
  | num v => rfl
  | some_ v l => cases h
theorem num_begin (s : Kcz6.Abs) (n : Nat) : isNum (Kcz6.step s (.begin_ n)).2 = true := by
  unfold Kcz6.step; dsimp only; split <;> rfl
theorem num_gate (s : Kcz6.Abs) (a b c : Nat) : isNum (Kcz6.step s (.gate a b c)).2 = true := by
  unfold Kcz6.step; dsimp only; repeat' split
  all_goals rfl
theorem num_test (s : Kcz6.Abs) (n : Nat) : isNum (Kcz6.step s (.test n)).2 = true := by
  unfold Kcz6.step; dsimp only; repeat' split
  all_goals rfl
theorem num_seen (s : Kcz6.Abs) (a b c : Nat) : isNum (Kcz6.step s (.seen a b c)).2 = true := by
  unfold Kcz6.step; dsimp only; repeat' split
  all_goals rfl
theorem num_explains (s : Kcz6.Abs) (n : Nat) : isNum (Kcz6.step s (.explains n)).2 = true := by
  unfold Kcz6.step; dsimp only; split <;> rfl
theorem isNum_may (s : Kcz6.Abs) (a b c : Nat) : isNum (Kcz6.step s (.may a b c)).2 = true := by
  unfold Kcz6.step
  dsimp only
  split
  · rfl
  · split
    · rfl
    · split <;> rfl
theorem nil_of {l : List Int} (h : l.length = 0) : l = [] := List.eq_nil_of_length_eq_zero h
theorem ints1 {l : List Int} (h : l.length = 1) (h0 : ∀ z ∈ l, 0 ≤ z) : ∃ a : Nat, l = [(a : Int)] := by
  match l, h with
  | [a], _ => exact ⟨a.toNat, by rw [Int.toNat_of_nonneg (h0 a (by simp))]⟩
theorem ints3 {l : List Int} (h : l.length = 3) (h0 : ∀ z ∈ l, 0 ≤ z) : ∃ a b c : Nat, l = [(a : Int), (b : Int), (c : Int)] := by
  match l, h with
  | [a, b, c], _ => exact ⟨a.toNat, b.toNat, c.toNat, by rw [Int.toNat_of_nonneg (h0 a (by simp)), Int.toNat_of_nonneg (h0 b (by simp)), Int.toNat_of_nonneg (h0 c (by simp))]⟩
section
variable {P : Program} {w : World} {K : PySem.W.Frag} {mg : Str → Option Value} {base : Heap} {f : Addr} {fd : FuncData} {A : Adr}
abbrev s_answer : Stmt := top 36
theorem sc_answer : FnScope ["circuit", "call", "numbers"] ["circuit", "call", "numbers"] (defScope s_answer) := ⟨rfl, rfl, rfl, by decide +kernel, rfl, by decide +kernel, by decide +kernel⟩
/-- what the def answer is to reach -/
def AProm (A : Adr) (X : List Addr) (p : Addr) (M : List Addr) (H : Hp) (y : Kcz6.Abs × List Int) (Q : VK) : Prop :=
  ∀ H' M' q, CAt A X H' p M' y.1 → H' q = some (.lst (y.2.map V.int)) → q ∉ M' → (∀ b o, H b = some o → b ∉ M → b ≠ q) → KeepX M H H' → (∀ b, b ∈ M' → b ∈ M ∨ H b = none) → Q (.ref q) H'
def sp_answer (A : Adr) : Sp := fun vs H Q _ => ∃ (X : List Addr) (p l : Addr) (M : List Addr) (s : Kcz6.Abs) (c : Nat) (nums : List Int), vs = [.ref p, nV c, .ref l] ∧ H l = some (.lst (nums.map V.int)) ∧ CAt A X H p M s ∧ WF s ∧ c ≤ 9 ∧ nums.length = argn c ∧ (∀ z ∈ nums, 0 ≤ z) ∧
  AProm A X p M H (Kcz6Neutral.step s [(c : Int) :: nums]) Q
theorem AProm.one {X : List Addr} {p q : Addr} {M M1 : List Addr} {H H1 : Hp} {s : Kcz6.Abs} {c : Kcz6.Call} {Q : VK} (k : AProm A X p M H ((Kcz6.step s c).1, Kcz6Neutral.tell (Kcz6.step s c).2) Q) (hn : isNum (Kcz6.step s c).2 = true)
    (hC1 : CAt A X H1 p M1 (Kcz6.step s c).1) (kx : KeepX M H H1) (fr : ∀ b, b ∈ M1 → b ∈ M ∨ H b = none) (hq : H1 q = none) : Q (.ref q) (upd H1 q (.lst [ansV (Kcz6.step s c).2])) := by
  refine k _ M1 q (hC1.same (Same.upd_new hq)) (upd_same.trans ?_) (hC1.notin hq) (fun b o e hb z => ?_) (fun b o e hb => (Same.upd_new hq) _ _ (kx b o e hb)) fr
  · show some (HO.lst [ansV (Kcz6.step s c).2]) = some (HO.lst ((Kcz6Neutral.tell (Kcz6.step s c).2).map V.int))
    rw [num_tell hn]
  · rw [← z, kx b o e hb] at hq
    cases hq
theorem AProm.new {X : List Addr} {p q : Addr} {M : List Addr} {H H1 : Hp} {s : Kcz6.Abs} {y : Kcz6.Abs × List Int} {Q : VK} (k : AProm A X p M H y Q) (e : y.1 = s) (hC : CAt A X H p M s) (hq : H q = none) (h1 : H1 q = some (.lst (y.2.map V.int))) (sm : Same H H1) : Q (.ref q) H1 := by
  subst e
  refine k _ M q (hC.same sm) h1 (hC.notin hq) (fun b o e hb z => ?_) (KeepX.of_same sm) fun b hb => .inl hb
  rw [z, hq] at e
  cases e
theorem tell_some (v : Nat) (l : List Nat) : (Kcz6Neutral.tell (.some_ (v : Int) l)).map V.int = nV v :: l.map nV := by
  show nV v :: (l.map fun (x : Nat) => (x : Int)).map V.int = _
  rw [nV_map]
theorem ok_answer (F : Fun K "answer" "answer" s_answer f fd) (T : Txt K mg A) (B_Circuit_begin : MF P w K mg base A.CC 1 "begin" ["self", "inputs"] (sp_Circuit_begin A)) (B_Circuit_gate : MF P w K mg base A.CC 3 "gate" ["self", "kind", "a", "b"] (sp_Circuit_gate A))
    (B_Circuit_test : MF P w K mg base A.CC 5 "test" ["self", "inputs"] (sp_Circuit_test A)) (B_Circuit_seen : MF P w K mg base A.CC 2 "seen" ["self", "t", "w", "v"] (sp_Circuit_seen A)) (B_Circuit_explains : MF P w K mg base A.CC 4 "explains" ["self", "broken"] (sp_Circuit_explains A))
    (B_counted : GF P w K mg base 1 "counted" ["numbers"] sp_counted) (B_Circuit_least : MF P w K mg base A.CC 7 "least" ["self"] (sp_Circuit_least A)) (B_Circuit_suspects : MF P w K mg base A.CC 7 "suspects" ["self"] (sp_Circuit_suspects A))
    (B_Circuit_sure : MF P w K mg base A.CC 8 "sure" ["self"] (sp_Circuit_sure A)) (B_Circuit_may : MF P w K mg base A.CC 2 "may" ["self", "broken", "t", "w"] (sp_Circuit_may A)) (B_Circuit_measure_next : MF P w K mg base A.CC 8 "measure_next" ["self", "t"] (sp_Circuit_measure_next A)) :
    FnOk P w K mg base CX0 9 f fd ["circuit", "call", "numbers"] (sp_answer A) := by
  refine F.ok sc_answer (fun vs H Q E h => ?_) (fun cdv Ar outer s H vs Q E hr h => ?_)
  · obtain ⟨X, p, l, M, s, c, nums, rfl, _⟩ := h
    rfl
  · obtain ⟨X, p, l, M, s, c, nums, rfl, hl, hC, wf, hc, hn, h0, k⟩ := h
    obtain ⟨dx, lg, lt, gas, ts, eM, _, _, _, hp, _⟩ := hC.ex
    refine ⟨_, (pss_cons (ps_if (pt_cmp (pc_eqI (pv 1) (pe_gi rfl T.g_BEGIN))) (pss_one (ps_ret (pe_lst (pa_cons (pe_mf (pv 0) T.cl_Circuit B_Circuit_begin hr (by decide) (pa_cons (pe_ix ix_list (pv 2) pe_int (fun _ _ => rfl)) pa_nil)) pa_nil)))) pss_nil)
      (pss_cons (ps_if (pt_cmp (pc_eqI (pv 1) (pe_gi rfl T.g_GATE))) (pss_one (ps_ret (pe_lst (pa_cons (pe_mf (pv 0) T.cl_Circuit B_Circuit_gate hr (by decide) (pa_cons (pe_ix ix_list (pv 2) pe_int (fun _ _ => rfl)) (pa_cons (pe_ix ix_list (pv 2) pe_int (fun _ _ => rfl)) (pa_cons (pe_ix ix_list (pv 2) pe_int (fun _ _ => rfl)) pa_nil)))) pa_nil)))) pss_nil)
      (pss_cons (ps_if (pt_cmp (pc_eqI (pv 1) (pe_gi rfl T.g_TEST))) (pss_one (ps_ret (pe_lst (pa_cons (pe_mf (pv 0) T.cl_Circuit B_Circuit_test hr (by decide) (pa_cons (pe_ix ix_list (pv 2) pe_int (fun _ _ => rfl)) pa_nil)) pa_nil)))) pss_nil)
      (pss_cons (ps_if (pt_cmp (pc_eqI (pv 1) (pe_gi rfl T.g_SEEN))) (pss_one (ps_ret (pe_lst (pa_cons (pe_mf (pv 0) T.cl_Circuit B_Circuit_seen hr (by decide) (pa_cons (pe_ix ix_list (pv 2) pe_int (fun _ _ => rfl)) (pa_cons (pe_ix ix_list (pv 2) pe_int (fun _ _ => rfl)) (pa_cons (pe_ix ix_list (pv 2) pe_int (fun _ _ => rfl)) pa_nil)))) pa_nil)))) pss_nil)
      (pss_cons (ps_if (pt_cmp (pc_eqI (pv 1) (pe_gi rfl T.g_EXPLAINS))) (pss_one (ps_ret (pe_lst (pa_cons (pe_mf (pv 0) T.cl_Circuit B_Circuit_explains hr (by decide) (pa_cons (pe_ix ix_list (pv 2) pe_int (fun _ _ => rfl)) pa_nil)) pa_nil)))) pss_nil)
      (pss_cons (ps_if (pt_cmp (pc_eqI (pv 1) (pe_gi rfl T.g_LEAST))) (pss_one (ps_ret (pe_gf B_counted hr (by decide) rfl (pa_cons (pe_mf0 (pv 0) T.cl_Circuit B_Circuit_least hr (by decide)) pa_nil)))) pss_nil)
      (pss_cons (ps_if (pt_cmp (pc_eqI (pv 1) (pe_gi rfl T.g_SUSPECTS))) (pss_one (ps_ret (pe_gf B_counted hr (by decide) rfl (pa_cons (pe_mf0 (pv 0) T.cl_Circuit B_Circuit_suspects hr (by decide)) pa_nil)))) pss_nil)
      (pss_cons (ps_if (pt_cmp (pc_eqI (pv 1) (pe_gi rfl T.g_SURE))) (pss_one (ps_ret (pe_mf0 (pv 0) T.cl_Circuit B_Circuit_sure hr (by decide)))) pss_nil)
      (pss_cons (ps_if (pt_cmp (pc_eqI (pv 1) (pe_gi rfl T.g_MAY))) (pss_one (ps_ret (pe_lst (pa_cons (pe_mf (pv 0) T.cl_Circuit B_Circuit_may hr (by decide) (pa_cons (pe_ix ix_list (pv 2) pe_int (fun _ _ => rfl)) (pa_cons (pe_ix ix_list (pv 2) pe_int (fun _ _ => rfl)) (pa_cons (pe_ix ix_list (pv 2) pe_int (fun _ _ => rfl)) pa_nil)))) pa_nil)))) pss_nil)
      (pss_one (ps_ret (pe_mf (pv 0) T.cl_Circuit B_Circuit_measure_next hr (by decide) (pa_cons (pe_ix ix_list (pv 2) pe_int (fun _ _ => rfl)) pa_nil))))))))))))), ?_⟩
    have no : ∀ m : Str, ¬ m = "inputs" → ¬ m = "gates" → ¬ m = "tests" → (cF s.inputs lg lt).lookup m = none := fun m a b c => cF_no a b c
    refine ⟨_, rfl, _, _, rfl, rfl, _, rfl, ite2 (fun c1 => ?_) (fun c1 => ?_)⟩
    · have c1 := of_decide_eq_true c1
      have e : c = 0 := by omega
      subst e
      obtain ⟨a, rfl⟩ := ints1 hn h0
      refine ⟨_, rfl, p, dx, _, rfl, hp, no _ (by decide +kernel) (by decide +kernel) (by decide +kernel), _, rfl, l, _, _, _, rfl, rfl, SqL.of hl, rfl, X, p, M, s, a, rfl, hC, fun H1 M1 hC1 kx fr => ?_⟩
      exact ⟨(show 1 ≤ sizeLine by decide), fun q hq => AProm.one k (num_begin s a) hC1 kx fr hq⟩
    rw [decide_eq_true_iff] at c1
    refine ⟨_, rfl, _, _, rfl, rfl, _, rfl, ite2 (fun c2 => ?_) (fun c2 => ?_)⟩
    · have c2 := of_decide_eq_true c2
      have e : c = 1 := by omega
      subst e
      obtain ⟨a, b, d, rfl⟩ := ints3 hn h0
      refine ⟨_, rfl, p, dx, _, rfl, hp, no _ (by decide +kernel) (by decide +kernel) (by decide +kernel), _, rfl, l, _, _, _, rfl, rfl, SqL.of hl, rfl, _, rfl, l, _, _, _, rfl, rfl, SqL.of hl, rfl, _, rfl, l, _, _, _, rfl, rfl, SqL.of hl, rfl, X, p, M, s, ⟨a, b, d⟩, rfl, hC, wf, fun H1 M1 hC1 kx fr => ?_⟩
      exact ⟨(show 1 ≤ sizeLine by decide), fun q hq => AProm.one k (num_gate s a b d) hC1 kx fr hq⟩
    rw [decide_eq_true_iff] at c2
    refine ⟨_, rfl, _, _, rfl, rfl, _, rfl, ite2 (fun c3 => ?_) (fun c3 => ?_)⟩
    · have c3 := of_decide_eq_true c3
      have e : c = 2 := by omega
      subst e
      obtain ⟨a, rfl⟩ := ints1 hn h0
      refine ⟨_, rfl, p, dx, _, rfl, hp, no _ (by decide +kernel) (by decide +kernel) (by decide +kernel), _, rfl, l, _, _, _, rfl, rfl, SqL.of hl, rfl, X, p, M, s, a, rfl, hC, wf, fun H1 M1 hC1 kx fr => ?_⟩
      exact ⟨(show 1 ≤ sizeLine by decide), fun q hq => AProm.one k (num_test s a) hC1 kx fr hq⟩
    rw [decide_eq_true_iff] at c3
    refine ⟨_, rfl, _, _, rfl, rfl, _, rfl, ite2 (fun c4 => ?_) (fun c4 => ?_)⟩
    · have c4 := of_decide_eq_true c4
      have e : c = 3 := by omega
      subst e
      obtain ⟨a, b, d, rfl⟩ := ints3 hn h0
      refine ⟨_, rfl, p, dx, _, rfl, hp, no _ (by decide +kernel) (by decide +kernel) (by decide +kernel), _, rfl, l, _, _, _, rfl, rfl, SqL.of hl, rfl, _, rfl, l, _, _, _, rfl, rfl, SqL.of hl, rfl, _, rfl, l, _, _, _, rfl, rfl, SqL.of hl, rfl, X, p, M, s, a, b, d, rfl, hC, wf, fun H1 M1 hC1 kx fr => ?_⟩
      exact ⟨(show 1 ≤ sizeLine by decide), fun q hq => AProm.one k (num_seen s a b d) hC1 kx fr hq⟩
    rw [decide_eq_true_iff] at c4
    refine ⟨_, rfl, _, _, rfl, rfl, _, rfl, ite2 (fun c5 => ?_) (fun c5 => ?_)⟩
    · have c5 := of_decide_eq_true c5
      have e : c = 4 := by omega
      subst e
      obtain ⟨a, rfl⟩ := ints1 hn h0
      refine ⟨_, rfl, p, dx, _, rfl, hp, no _ (by decide +kernel) (by decide +kernel) (by decide +kernel), _, rfl, l, _, _, _, rfl, rfl, SqL.of hl, rfl, X, p, M, s, a, rfl, hC, wf, fun H1 M1 hC1 kx fr => ?_⟩
      exact ⟨(show 1 ≤ sizeLine by decide), fun q hq => AProm.one k (num_explains s a) hC1 kx fr hq⟩
    rw [decide_eq_true_iff] at c5
    refine ⟨_, rfl, _, _, rfl, rfl, _, rfl, ite2 (fun c6 => ?_) (fun c6 => ?_)⟩
    · have c6 := of_decide_eq_true c6
      have e : c = 5 := by omega
      subst e
      obtain rfl := nil_of hn
      have hlen : (Kcz6.diagnoses s).length ≤ 2304 := order_len wf _
      refine ⟨_, rfl, p, dx, _, rfl, hp, no _ (by decide +kernel) (by decide +kernel) (by decide +kernel), X, p, M, s, rfl, hC, wf, fun H1 q nq hq s1 => ⟨q, _, rfl, hq, (by rw [List.length_map]; omega), fun H2 r nr hr2 s2 => ?_⟩⟩
      refine AProm.new k rfl hC (s1.free nr) (hr2.trans ?_) (s1.trans s2)
      rw [List.length_map]
      exact congrArg (fun z => some (HO.lst z)) (tell_some (Kcz6.diagnoses s).length (Kcz6.diagnoses s)).symm
    rw [decide_eq_true_iff] at c6
    refine ⟨_, rfl, _, _, rfl, rfl, _, rfl, ite2 (fun c7 => ?_) (fun c7 => ?_)⟩
    · have c7 := of_decide_eq_true c7
      have e : c = 6 := by omega
      subst e
      obtain rfl := nil_of hn
      have hlen : (Kcz6.suspects s).length ≤ 2304 := order_len wf _
      refine ⟨_, rfl, p, dx, _, rfl, hp, no _ (by decide +kernel) (by decide +kernel) (by decide +kernel), X, p, M, s, rfl, hC, wf, fun H1 q nq hq s1 => ⟨q, _, rfl, hq, (by rw [List.length_map]; omega), fun H2 r nr hr2 s2 => ?_⟩⟩
      refine AProm.new k rfl hC (s1.free nr) (hr2.trans ?_) (s1.trans s2)
      rw [List.length_map]
      exact congrArg (fun z => some (HO.lst z)) (tell_some (Kcz6.suspects s).length (Kcz6.suspects s)).symm
    rw [decide_eq_true_iff] at c7
    refine ⟨_, rfl, _, _, rfl, rfl, _, rfl, ite2 (fun c8 => ?_) (fun c8 => ?_)⟩
    · have c8 := of_decide_eq_true c8
      have e : c = 7 := by omega
      subst e
      obtain rfl := nil_of hn
      refine ⟨_, rfl, p, dx, _, rfl, hp, no _ (by decide +kernel) (by decide +kernel) (by decide +kernel), X, p, M, s, rfl, hC, wf, fun H1 q nq hq s1 => ?_⟩
      refine AProm.new k rfl hC nq (hq.trans ?_) s1
      exact congrArg (fun z => some (HO.lst z)) (tell_some 0 [Kcz6.inAll (Kcz6.diagnoses s) % 2 ^ s.gates.length, Kcz6.others s (Kcz6.inSome (Kcz6.diagnoses s))]).symm
    rw [decide_eq_true_iff] at c8
    refine ⟨_, rfl, _, _, rfl, rfl, _, rfl, ite2 (fun c9 => ?_) (fun c9 => ?_)⟩
    · have c9 := of_decide_eq_true c9
      have e : c = 8 := by omega
      subst e
      obtain ⟨a, b, d, rfl⟩ := ints3 hn h0
      refine ⟨_, rfl, p, dx, _, rfl, hp, no _ (by decide +kernel) (by decide +kernel) (by decide +kernel), _, rfl, l, _, _, _, rfl, rfl, SqL.of hl, rfl, _, rfl, l, _, _, _, rfl, rfl, SqL.of hl, rfl, _, rfl, l, _, _, _, rfl, rfl, SqL.of hl, rfl, X, p, M, s, a, b, d, rfl, hC, wf, fun H1 M1 hC1 kx fr => ?_⟩
      exact ⟨(show 1 ≤ sizeLine by decide), fun q hq => AProm.one k (isNum_may s a b d) hC1 kx fr hq⟩
    rw [decide_eq_true_iff] at c9
    have e : c = 9 := by omega
    subst e
    obtain ⟨a, rfl⟩ := ints1 hn h0
    refine ⟨_, rfl, p, dx, _, rfl, hp, no _ (by decide +kernel) (by decide +kernel) (by decide +kernel), _, rfl, l, _, _, _, rfl, rfl, SqL.of hl, rfl, X, p, M, s, a, rfl, hC, wf, fun H1 q nq hq s1 => ?_⟩
    exact AProm.new k (next_same s a) hC nq hq s1
end
end FF

set_option Elab.async false
set_option linter.all false
set_option maxRecDepth 100000
set_option maxHeartbeats 4000000
namespace FF
open PySem PySem.Spec PyProof.Rows L2
/-- the request's list: an object of the module, or one that is no other thing's -/
def ReqAt (K : PySem.W.Frag) (H : Hp) (a : Addr) (xs : List V) (M : List Addr) (gb : Addr) : Prop :=
  (∀ H', SqL K H' a xs) ∨ (Rd H a (.lst xs) ∧ a ∉ M ∧ a ≠ gb)
theorem ReqAt.sq {K : PySem.W.Frag} {H : Hp} {a : Addr} {xs : List V} {M : List Addr} {gb : Addr} (r : ReqAt K H a xs M gb) : SqL K H a xs := by
  rcases r with r | ⟨r, _⟩
  · exact r H
  · exact .inl r
theorem ReqAt.mk {K : PySem.W.Frag} {H : Hp} {a : Addr} {xs : List V} {M : List Addr} {gb : Addr} (h : SqL K H a xs) (n : ∀ o, H a = some o → a ∉ M ∧ a ≠ gb) : ReqAt K H a xs M gb := by
  rcases h with h | h
  · refine .inr ⟨h, ?_⟩
    rcases h with h | ⟨o, h⟩
    · exact n _ h
    · exact n _ h
  · exact .inl fun _ => .inr h
theorem ReqAt.move {K : PySem.W.Frag} {H H' : Hp} {a : Addr} {xs : List V} {M M' : List Addr} {gb : Addr} (r : ReqAt K H a xs M gb) (h : ∀ o, H a = some o → a ∉ M → a ≠ gb → H' a = some o) (f : ∀ b, b ∈ M' → b ∈ M ∨ H b = none) : ReqAt K H' a xs M' gb := by
  rcases r with r | ⟨r, n1, n2⟩
  · exact .inl r
  · have nm : ∀ o, H a = some o → a ∉ M' := fun o e hm => by
      rcases f a hm with z | z
      · exact n1 z
      · rw [e] at z; cases z
    rcases r with r | ⟨o, r⟩
    · exact .inr ⟨.inl (h _ r n1 n2), nm _ r, n2⟩
    · exact .inr ⟨.inr ⟨o, h _ r n1 n2⟩, nm _ r, n2⟩
def mAt (n : Nat) (σ : L2.St) : Nat := match σ[3]? with
  | some (some (V.int i)) => n - i.toNat
  | _ => 0
theorem handed_at {c : Nat} (h : c ≤ 9) : (([1, 3, 1, 3, 1, 0, 0, 0, 3, 1] : List Int))[c]? = some ((argn c : Nat) : Int) := by
  have : c = 0 ∨ c = 1 ∨ c = 2 ∨ c = 3 ∨ c = 4 ∨ c = 5 ∨ c = 6 ∨ c = 7 ∨ c = 8 ∨ c = 9 := by omega
  rcases this with e | e | e | e | e | e | e | e | e | e <;> subst e <;> rfl
section
variable {P : Program} {w : World} {K : PySem.W.Frag} {mg : Str → Option Value} {base : Heap} {f : Addr} {fd : FuncData} {A : Adr}
abbrev s_answers : Stmt := top 37
theorem sc_answers : FnScope ["calls", "circuit", "given_back", "at", "call", "end", "answered"] ["calls"] (defScope s_answers) := ⟨rfl, rfl, rfl, by decide +kernel, rfl, by decide +kernel, by decide +kernel⟩
def sp_answers (K : PySem.W.Frag) : Sp := fun vs H Q _ => ∃ (a : Addr) (ns : List Int), vs = [.ref a] ∧ SqL K H a (ns.map V.int) ∧ PyKcz6.answers_asked ns = true ∧ (∀ z ∈ ns, 0 ≤ z) ∧
  ∀ (H' : Hp) (q : Addr), H' q = some (.lst ((PyKcz6.answers ns).map V.int)) → Q (.ref q) H'
theorem ok_answers (F : Fun K "answers" "answers" s_answers f fd) (T : Txt K mg A) (B_Circuit : CF P w K mg base A.CC 1 "Circuit" ["self"] (sp_Circuit_init A)) (B_answer : GF P w K mg base 9 "answer" ["circuit", "call", "numbers"] (sp_answer A)) :
    FnOk P w K mg base CX0 10 f fd ["calls"] (sp_answers K) := by
  refine F.ok sc_answers (fun vs H Q E h => ?_) (fun cdv Ar outer s H vs Q E hr h => ?_)
  · obtain ⟨a, ns, rfl, _⟩ := h
    rfl
  · obtain ⟨a, ns, rfl, hS, hask, h0, k⟩ := h
    have nd := sc_answers.nd
    refine ⟨_, (pss_cons (ps_set (i := 1) nd rfl (Or.inl rfl) (pe_cf0 B_Circuit hr (by decide) rfl))
      (pss_cons (ps_set (i := 2) nd rfl (Or.inl rfl) (pe_lst pa_nil))
      (pss_cons (ps_set (i := 3) nd rfl (Or.inl rfl) pe_int)
      (pss_cons (ps_while PassesOwn.never (pt_cmp (pc_lt (pv 3) (pe_callB call_len_seq rfl T.no_len PySem.boot_len (pa_cons (pv 0) pa_nil)))) (pss_cons (ps_set (i := 4) nd rfl (Or.inl rfl) (pe_ix ix_list (pv 0) (pv 3) (fun _ _ => rfl)))
      (pss_cons (ps_set (i := 5) nd rfl (Or.inl rfl) (pe_op op_add (pe_op op_add (pv 3) pe_int) (pe_ix ix_tup (pe_gr rfl T.g_HANDED_OVER) (pv 4) (fun _ _ => rfl))))
      (pss_cons (ps_set (i := 6) nd rfl (Or.inl rfl) (pe_gf B_answer hr (by decide) rfl (pa_cons (pv 1) (pa_cons (pv 4) (pa_cons (pe_slice sl_list (pv 0) (po_some (pe_op op_add (pv 3) pe_int)) (po_some (pv 5))) pa_nil)))))
      (pss_cons (ps_expr (pe_bm PySem.F.plainAttrs_list PySem.F.slot_list_append PySem.F.type_list_append mt_append (pv 2) (pa_cons (pe_callB call_len_seq rfl T.no_len PySem.boot_len (pa_cons (pv 6) pa_nil)) pa_nil)))
      (pss_cons (ps_expr (pe_bm PySem.F.plainAttrs_list PySem.F.slot_list_extend PySem.F.type_list_extend mt_extend (pv 2) (pa_cons (pv 6) pa_nil)))
      (pss_one (ps_set (i := 3) nd rfl (Or.inl rfl) (pv 5)))))))))
      (pss_one (ps_ret (pv 2))))))), ?_⟩
    intro p dp np ndp ne
    refine ⟨p, dp, rfl, upd_same, fun H1 M hC kp fr => ⟨rfl, ?_⟩⟩
    have s1 : Same H H1 := Same.made np ndp kp
    have fr1 : ∀ b, b ∈ M → H b = none := fun b hb => by
      rcases fr b hb with z | z
      · rw [z]; exact np
      · by_cases e1 : b = p
        · rw [e1]; exact np
        · by_cases e2 : b = dp
          · rw [e2]; exact ndp
          · rw [upd_ne e1, upd_ne e2] at z; exact z
    refine ⟨Nat.zero_le _, fun gb hgb => ?_⟩
    have sg : Same H1 (upd H1 gb (.lst [])) := Same.upd_new hgb
    have rq0 : ReqAt K H a (ns.map V.int) M gb := ReqAt.mk hS fun o e => ⟨fun hm => (by rw [fr1 a hm] at e; cases e), fun z => (by rw [z, s1.free hgb] at e; cases e)⟩
    have rq : ReqAt K (upd H1 gb (.lst [])) a (ns.map V.int) M gb := rq0.move (fun o e _ _ => sg _ _ (s1 _ _ e)) fun b hb => .inl hb
    refine while_by (fun σ H' => ∃ (at_ : Nat) (s : Kcz6.Abs) (out : List Int) (M : List Addr) (v4 v5 v6 : Option V), σ = [some (.ref a), some (.ref p), some (.ref gb), some (nV at_), v4, v5, v6] ∧ Go ns at_ s out ∧ CAt A [gb] H' p M s ∧ H' gb = some (.lst (out.map V.int)) ∧ ReqAt K H' a (ns.map V.int) M gb)
      (fun σ _ => mAt ns.length σ) ⟨0, Kcz6.first, [], M, none, none, none, rfl, Go.start hask, hC.more hgb, upd_same, rq⟩ ?_ ?_
    · rintro σ H' ⟨at_, s, out, M, v4, v5, v6, rfl, go, hC, hgb', rq⟩
      have ngb := (hC.xs gb (List.mem_singleton.mpr rfl)).1
      refine ⟨_, rfl, _, rfl, a, _, rfl, .inl rq.sq, _, _, rfl, rfl, _, rfl, ite2 (fun c => ?_) (fun c => ?_)⟩
      · have c := of_decide_eq_true c
        rw [List.length_map] at c
        obtain ⟨z, hz, hz0, hz9, hend, go'⟩ := go.turn (by omega)
        obtain ⟨cn, rfl⟩ : ∃ cn : Nat, z = (cn : Int) := ⟨z.toNat, by omega⟩
        have hc4 : cn ≤ 9 := by omega
        refine ⟨_, rfl, _, rfl, a, _, _, _, rfl, rfl, rq.sq, at_map hz, ?_⟩
        refine ⟨_, rfl, _, _, rfl, rfl, _, rfl, A.aHO, _, _, _, rfl, rfl, T.handed H', at_map (handed_at hc4), _, _, rfl, rfl, ?_⟩
        have e1 : ((at_ : Nat) : Int) + 1 = ((at_ + 1 : Nat) : Int) := by omega
        have e2 : ((at_ : Nat) : Int) + 1 + ((argn cn : Nat) : Int) = ((at_ + 1 + argn cn : Nat) : Int) := by omega
        have ecut : cutV (ns.map V.int) (some (((at_ : Nat) : Int) + 1)) (some (((at_ : Nat) : Int) + 1 + ((argn cn : Nat) : Int))) = ((ns.drop (at_ + 1)).take (argn cn)).map V.int := by
          rw [e1, show ((at_ + 1 : Nat) : Int) + ((argn cn : Nat) : Int) = ((at_ + 1 + argn cn : Nat) : Int) by omega, cut_mid (by omega) (by rw [List.length_map]; exact hend), ← List.map_drop, ← List.map_take, Nat.add_sub_cancel_left]
        refine ⟨_, rfl, _, rfl, _, rfl, _, rfl, _, _, rfl, rfl, _, rfl, _, rfl, _, rfl, a, _, rfl, rq.sq, fun l hl => ?_⟩
        rw [ecut]
        have sl : Same H' (upd H' l (.lst (((ns.drop (at_ + 1)).take (argn cn)).map V.int))) := Same.upd_new hl
        refine ⟨[gb], p, l, M, s, cn, (ns.drop (at_ + 1)).take (argn cn), rfl, upd_same, hC.same sl, go.wf, hc4, ?_, fun z hz => h0 z (List.mem_of_mem_drop (List.mem_of_mem_take hz)), ?_⟩
        · rw [List.length_take, List.length_drop]
          omega
        intro H2 M2 q hC2 hq nq bq kx fr
        have hgb2 := kx gb _ (sl _ _ hgb') ngb
        have nqg : gb ≠ q := bq gb _ (sl _ _ hgb') ngb
        have room := go'.room
        rw [List.length_append, List.length_cons] at room
        refine ⟨_, rfl, .inl ⟨rfl, _, SqL.of hgb2⟩, _, rfl, q, _, rfl, .inl (SqL.of hq), gb, _, _, rfl, rfl, hgb2, size_lt (by rw [List.length_map]; omega), ?_⟩
        refine ⟨_, rfl, .inl ⟨rfl, _, SqL.of upd_same⟩, _, rfl, gb, q, _, _, rfl, rfl, upd_same, (upd_ne nqg.symm).trans hq, size_ok (by rw [List.length_append, List.length_map, List.length_map, List.length_singleton]; omega), ?_⟩
        refine ⟨_, rfl, ⟨at_ + 1 + argn cn, _, _, M2, _, _, _, congrArg (fun z => [some (V.ref a), some (V.ref p), some (V.ref gb), some (V.int z), some (V.int (cn : Int)), some (V.int (((at_ : Nat) : Int) + 1 + ((argn cn : Nat) : Int))), some (V.ref q)]) e2, go', (hC2.poke (List.mem_singleton.mpr rfl)).poke (List.mem_singleton.mpr rfl), ?_, ?_⟩, ?_⟩
        · rw [upd_same, List.length_map, List.map_append, List.map_cons, List.append_assoc]
          rfl
        · refine (rq.move (H' := upd H' l _) (fun o e _ _ => sl _ _ e) fun b hb => .inl hb).move (fun o e n1 n2 => ?_) fr
          rw [upd_ne n2, upd_ne n2]
          exact kx _ _ e n1
        · show ns.length - (((at_ : Nat) : Int) + 1 + ((argn cn : Nat) : Int)).toNat < ns.length - (((at_ : Nat) : Int)).toNat
          rw [e2, toNat_cast, toNat_cast]
          omega
      · rw [decide_eq_true_iff, List.length_map] at c
        have e : at_ = ns.length := by have := go.le; omega
        subst e
        refine ⟨_, rfl, k H' gb ?_⟩
        rw [go.fin]
        exact hgb'
    · rintro σ H' Q1 Q2 hq ⟨v, e1, v2, e2, b, ys, e3, e4, i, j, e5, e6, c, e7, q⟩
      exact ⟨v, e1, v2, e2, b, ys, e3, e4, i, j, e5, e6, c, e7, hq _ _ q⟩
end
end FF

set_option Elab.async false
set_option linter.all false
set_option maxRecDepth 100000
set_option maxHeartbeats 4000000
namespace FF
open PySem PySem.Spec PyProof.Rows L2
def X_BEGIN (K : PySem.W.Frag) : Prop := ∃ t, PySem.W.nsIn K mainGlobals "BEGIN" = some (some (.int (0) t))
theorem mk_BEGIN {K : PySem.W.Frag} {t : Tok} (a : PySem.W.nsIn K mainGlobals "BEGIN" = some (some (.int (0) t))) : X_BEGIN K := ⟨t, a⟩
def X_GATE (K : PySem.W.Frag) : Prop := ∃ t, PySem.W.nsIn K mainGlobals "GATE" = some (some (.int (1) t))
theorem mk_GATE {K : PySem.W.Frag} {t : Tok} (a : PySem.W.nsIn K mainGlobals "GATE" = some (some (.int (1) t))) : X_GATE K := ⟨t, a⟩
def X_TEST (K : PySem.W.Frag) : Prop := ∃ t, PySem.W.nsIn K mainGlobals "TEST" = some (some (.int (2) t))
theorem mk_TEST {K : PySem.W.Frag} {t : Tok} (a : PySem.W.nsIn K mainGlobals "TEST" = some (some (.int (2) t))) : X_TEST K := ⟨t, a⟩
def X_SEEN (K : PySem.W.Frag) : Prop := ∃ t, PySem.W.nsIn K mainGlobals "SEEN" = some (some (.int (3) t))
theorem mk_SEEN {K : PySem.W.Frag} {t : Tok} (a : PySem.W.nsIn K mainGlobals "SEEN" = some (some (.int (3) t))) : X_SEEN K := ⟨t, a⟩
def X_EXPLAINS (K : PySem.W.Frag) : Prop := ∃ t, PySem.W.nsIn K mainGlobals "EXPLAINS" = some (some (.int (4) t))
theorem mk_EXPLAINS {K : PySem.W.Frag} {t : Tok} (a : PySem.W.nsIn K mainGlobals "EXPLAINS" = some (some (.int (4) t))) : X_EXPLAINS K := ⟨t, a⟩
def X_LEAST (K : PySem.W.Frag) : Prop := ∃ t, PySem.W.nsIn K mainGlobals "LEAST" = some (some (.int (5) t))
theorem mk_LEAST {K : PySem.W.Frag} {t : Tok} (a : PySem.W.nsIn K mainGlobals "LEAST" = some (some (.int (5) t))) : X_LEAST K := ⟨t, a⟩
def X_SUSPECTS (K : PySem.W.Frag) : Prop := ∃ t, PySem.W.nsIn K mainGlobals "SUSPECTS" = some (some (.int (6) t))
theorem mk_SUSPECTS {K : PySem.W.Frag} {t : Tok} (a : PySem.W.nsIn K mainGlobals "SUSPECTS" = some (some (.int (6) t))) : X_SUSPECTS K := ⟨t, a⟩
def X_SURE (K : PySem.W.Frag) : Prop := ∃ t, PySem.W.nsIn K mainGlobals "SURE" = some (some (.int (7) t))
theorem mk_SURE {K : PySem.W.Frag} {t : Tok} (a : PySem.W.nsIn K mainGlobals "SURE" = some (some (.int (7) t))) : X_SURE K := ⟨t, a⟩
def X_MAY (K : PySem.W.Frag) : Prop := ∃ t, PySem.W.nsIn K mainGlobals "MAY" = some (some (.int (8) t))
theorem mk_MAY {K : PySem.W.Frag} {t : Tok} (a : PySem.W.nsIn K mainGlobals "MAY" = some (some (.int (8) t))) : X_MAY K := ⟨t, a⟩
def X_HANDED_OVER (K : PySem.W.Frag) : Prop := ∃ a, PySem.W.nsIn K mainGlobals "HANDED_OVER" = some (some (.ref a)) ∧ ∀ H, SqT K H a (([1, 3, 1, 3, 1, 0, 0, 0, 3, 1] : List Int).map V.int)
theorem mk_HANDED_OVER {K : PySem.W.Frag} {a : Addr} {t0 t1 t2 t3 t4 t5 t6 t7 t8 t9 : Tok} {n : Nat} {od : Option Addr} {sl : Array (Option Value)} (a0 : PySem.W.nsIn K mainGlobals "HANDED_OVER" = some (some (.ref a))) (l0 : K.lookup a = some ⟨.type "tuple", od, .seq #[.int (1) t0, .int (3) t1, .int (1) t2, .int (3) t3, .int (1) t4, .int (0) t5, .int (0) t6, .int (0) t7, .int (3) t8, .int (1) t9] n, sl⟩) : X_HANDED_OVER K :=
  ⟨a, a0, fun H => .inr ⟨_, _, _, l0, rfl, rfl, (show 10 ≤ sizeLine by decide), .cons ⟨_, rfl⟩ (.cons ⟨_, rfl⟩ (.cons ⟨_, rfl⟩ (.cons ⟨_, rfl⟩ (.cons ⟨_, rfl⟩ (.cons ⟨_, rfl⟩ (.cons ⟨_, rfl⟩ (.cons ⟨_, rfl⟩ (.cons ⟨_, rfl⟩ (.cons ⟨_, rfl⟩ (.nil))))))))))⟩⟩
def X_NOT_THERE (K : PySem.W.Frag) : Prop := ∃ t, PySem.W.nsIn K mainGlobals "NOT_THERE" = some (some (.int (-2) t))
theorem mk_NOT_THERE {K : PySem.W.Frag} {t : Tok} (a : PySem.W.nsIn K mainGlobals "NOT_THERE" = some (some (.int (-2) t))) : X_NOT_THERE K := ⟨t, a⟩
def X_ALL_MEASURED (K : PySem.W.Frag) : Prop := ∃ t, PySem.W.nsIn K mainGlobals "ALL_MEASURED" = some (some (.int (-6) t))
theorem mk_ALL_MEASURED {K : PySem.W.Frag} {t : Tok} (a : PySem.W.nsIn K mainGlobals "ALL_MEASURED" = some (some (.int (-6) t))) : X_ALL_MEASURED K := ⟨t, a⟩
def X_BUSY (K : PySem.W.Frag) : Prop := ∃ t, PySem.W.nsIn K mainGlobals "BUSY" = some (some (.int (-16) t))
theorem mk_BUSY {K : PySem.W.Frag} {t : Tok} (a : PySem.W.nsIn K mainGlobals "BUSY" = some (some (.int (-16) t))) : X_BUSY K := ⟨t, a⟩
def X_MEASURED_ALREADY (K : PySem.W.Frag) : Prop := ∃ t, PySem.W.nsIn K mainGlobals "MEASURED_ALREADY" = some (some (.int (-17) t))
theorem mk_MEASURED_ALREADY {K : PySem.W.Frag} {t : Tok} (a : PySem.W.nsIn K mainGlobals "MEASURED_ALREADY" = some (some (.int (-17) t))) : X_MEASURED_ALREADY K := ⟨t, a⟩
def X_NOT_VALID (K : PySem.W.Frag) : Prop := ∃ t, PySem.W.nsIn K mainGlobals "NOT_VALID" = some (some (.int (-22) t))
theorem mk_NOT_VALID {K : PySem.W.Frag} {t : Tok} (a : PySem.W.nsIn K mainGlobals "NOT_VALID" = some (some (.int (-22) t))) : X_NOT_VALID K := ⟨t, a⟩
def X_FULL (K : PySem.W.Frag) : Prop := ∃ t, PySem.W.nsIn K mainGlobals "FULL" = some (some (.int (-28) t))
theorem mk_FULL {K : PySem.W.Frag} {t : Tok} (a : PySem.W.nsIn K mainGlobals "FULL" = some (some (.int (-28) t))) : X_FULL K := ⟨t, a⟩
def X_NO_WAY (K : PySem.W.Frag) : Prop := ∃ t, PySem.W.nsIn K mainGlobals "NO_WAY" = some (some (.int (-61) t))
theorem mk_NO_WAY {K : PySem.W.Frag} {t : Tok} (a : PySem.W.nsIn K mainGlobals "NO_WAY" = some (some (.int (-61) t))) : X_NO_WAY K := ⟨t, a⟩
def X_MOST_INPUTS (K : PySem.W.Frag) : Prop := ∃ t, PySem.W.nsIn K mainGlobals "MOST_INPUTS" = some (some (.int (4) t))
theorem mk_MOST_INPUTS {K : PySem.W.Frag} {t : Tok} (a : PySem.W.nsIn K mainGlobals "MOST_INPUTS" = some (some (.int (4) t))) : X_MOST_INPUTS K := ⟨t, a⟩
def X_MOST_GATES (K : PySem.W.Frag) : Prop := ∃ t, PySem.W.nsIn K mainGlobals "MOST_GATES" = some (some (.int (8) t))
theorem mk_MOST_GATES {K : PySem.W.Frag} {t : Tok} (a : PySem.W.nsIn K mainGlobals "MOST_GATES" = some (some (.int (8) t))) : X_MOST_GATES K := ⟨t, a⟩
def X_MOST_TESTS (K : PySem.W.Frag) : Prop := ∃ t, PySem.W.nsIn K mainGlobals "MOST_TESTS" = some (some (.int (6) t))
theorem mk_MOST_TESTS {K : PySem.W.Frag} {t : Tok} (a : PySem.W.nsIn K mainGlobals "MOST_TESTS" = some (some (.int (6) t))) : X_MOST_TESTS K := ⟨t, a⟩
def X_GIVES (K : PySem.W.Frag) : Prop := ∃ a r0 r1 r2 r3 r4, PySem.W.nsIn K mainGlobals "GIVES" = some (some (.ref a)) ∧ (∀ H, SqT K H a [V.ref r0, V.ref r1, V.ref r2, V.ref r3, V.ref r4]) ∧ (∀ H, SqT K H r0 (([0, 0, 1] : List Int).map V.int)) ∧ (∀ H, SqT K H r1 (([0, 1, 1] : List Int).map V.int)) ∧ (∀ H, SqT K H r2 (([0, 1, 0] : List Int).map V.int)) ∧ (∀ H, SqT K H r3 (([1, 1, 0] : List Int).map V.int)) ∧ (∀ H, SqT K H r4 (([1, 0, 0] : List Int).map V.int))
theorem mk_GIVES {K : PySem.W.Frag} {a r0 r1 r2 r3 r4 : Addr} {t0_0 t0_1 t0_2 t1_0 t1_1 t1_2 t2_0 t2_1 t2_2 t3_0 t3_1 t3_2 t4_0 t4_1 t4_2 : Tok} {na n0 n1 n2 n3 n4 : Nat} {oda od0 od1 od2 od3 od4 : Option Addr} {sla sl0 sl1 sl2 sl3 sl4 : Array (Option Value)} (a0 : PySem.W.nsIn K mainGlobals "GIVES" = some (some (.ref a))) (la : K.lookup a = some ⟨.type "tuple", oda, .seq #[.ref r0, .ref r1, .ref r2, .ref r3, .ref r4] na, sla⟩) (l0 : K.lookup r0 = some ⟨.type "tuple", od0, .seq #[.int (0) t0_0, .int (0) t0_1, .int (1) t0_2] n0, sl0⟩) (l1 : K.lookup r1 = some ⟨.type "tuple", od1, .seq #[.int (0) t1_0, .int (1) t1_1, .int (1) t1_2] n1, sl1⟩) (l2 : K.lookup r2 = some ⟨.type "tuple", od2, .seq #[.int (0) t2_0, .int (1) t2_1, .int (0) t2_2] n2, sl2⟩) (l3 : K.lookup r3 = some ⟨.type "tuple", od3, .seq #[.int (1) t3_0, .int (1) t3_1, .int (0) t3_2] n3, sl3⟩) (l4 : K.lookup r4 = some ⟨.type "tuple", od4, .seq #[.int (1) t4_0, .int (0) t4_1, .int (0) t4_2] n4, sl4⟩) : X_GIVES K :=
  ⟨a, r0, r1, r2, r3, r4, a0, fun H => .inr ⟨_, _, _, la, rfl, rfl, (show 5 ≤ sizeLine by decide), .cons rfl (.cons rfl (.cons rfl (.cons rfl (.cons rfl (.nil)))))⟩, fun H => .inr ⟨_, _, _, l0, rfl, rfl, (show 3 ≤ sizeLine by decide), .cons ⟨_, rfl⟩ (.cons ⟨_, rfl⟩ (.cons ⟨_, rfl⟩ (.nil)))⟩, fun H => .inr ⟨_, _, _, l1, rfl, rfl, (show 3 ≤ sizeLine by decide), .cons ⟨_, rfl⟩ (.cons ⟨_, rfl⟩ (.cons ⟨_, rfl⟩ (.nil)))⟩, fun H => .inr ⟨_, _, _, l2, rfl, rfl, (show 3 ≤ sizeLine by decide), .cons ⟨_, rfl⟩ (.cons ⟨_, rfl⟩ (.cons ⟨_, rfl⟩ (.nil)))⟩, fun H => .inr ⟨_, _, _, l3, rfl, rfl, (show 3 ≤ sizeLine by decide), .cons ⟨_, rfl⟩ (.cons ⟨_, rfl⟩ (.cons ⟨_, rfl⟩ (.nil)))⟩, fun H => .inr ⟨_, _, _, l4, rfl, rfl, (show 3 ≤ sizeLine by decide), .cons ⟨_, rfl⟩ (.cons ⟨_, rfl⟩ (.cons ⟨_, rfl⟩ (.nil)))⟩⟩
def X_Gate (K : PySem.W.Frag) : Prop := ∃ C f0 fd0 f1 fd1, PySem.W.nsIn K mainGlobals "Gate" = some (some (.ref C)) ∧ Cls K C ∧ Mk K C f0 ∧ Fun K "__init__" "Gate.__init__" s_Gate_init f0 fd0 ∧ Fun K "should_give" "Gate.should_give" s_Gate_should_give f1 fd1 ∧ Meth K C "should_give" f1 ∧ NoAttr K C "kind" ∧ NoAttr K C "a" ∧ NoAttr K C "b"
theorem mk_Gate {K : PySem.W.Frag} {C f0 f1 : Addr} {oc0 kV0 dc0 pm0 cd0 ct0 : Value} {od0 an0 : Option Addr} {sl0 : Array (Option Value)} {oc1 kV1 dc1 pm1 cd1 ct1 : Value} {od1 an1 : Option Addr} {sl1 : Array (Option Value)}
    (aC : PySem.W.nsIn K mainGlobals "Gate" = some (some (.ref C)))
    (a0 : PySem.W.findIn K (.ref C) "__init__" = some (some (.ref f0))) (i0 : PySem.W.isFn K (.ref f0) = true) (l0 : K.lookup f0 = some ⟨oc0, od0, .func (PySem.W.fnOf "__init__" "Gate.__init__" (defArgs s_Gate_init) (defBody s_Gate_init) (defScope s_Gate_init) .none kV0 dc0 pm0 an0 cd0 ct0), sl0⟩) (c0 : PySem.W.codeIn K cd0 "Gate.__init__" = true) (k0 : PySem.W.keepIn K (.ref f0) = true)
    (a1 : PySem.W.findIn K (.ref C) "should_give" = some (some (.ref f1))) (i1 : PySem.W.isFn K (.ref f1) = true) (l1 : K.lookup f1 = some ⟨oc1, od1, .func (PySem.W.fnOf "should_give" "Gate.should_give" (defArgs s_Gate_should_give) (defBody s_Gate_should_give) (defScope s_Gate_should_give) .none kV1 dc1 pm1 an1 cd1 ct1), sl1⟩) (c1 : PySem.W.codeIn K cd1 "Gate.should_give" = true) (k1 : PySem.W.keepIn K (.ref f1) = true)
    (pg : PySem.W.plainGet K C Str.empty = true) (hd : PySem.W.hasDictIn K C = true) (po : PySem.W.plainOver K C = true) (sa : PySem.W.findIn K (.ref C) "__setattr__" = some (some (.builtin "object.__setattr__"))) (mk : PySem.W.makesIn K C = true) (kc : PySem.W.keepIn K (.ref C) = true)
    (n_kind : PySem.W.findIn K (.ref C) "kind" = some none)
    (n_a : PySem.W.findIn K (.ref C) "a" = some none)
    (n_b : PySem.W.findIn K (.ref C) "b" = some none) : X_Gate K :=
  ⟨C, f0, _, f1, _, aC, ⟨pg, hd, po, sa⟩, ⟨mk, a0, i0, kc⟩, fun_mk (st := s_Gate_init) l0 c0 k0, fun_mk (st := s_Gate_should_give) l1 c1 k1, ⟨a1, i1, k1⟩, n_kind, n_a, n_b⟩
def X_Way (K : PySem.W.Frag) : Prop := ∃ C f0 fd0, PySem.W.nsIn K mainGlobals "Way" = some (some (.ref C)) ∧ Cls K C ∧ Mk K C f0 ∧ Fun K "__init__" "Way.__init__" s_Way_init f0 fd0 ∧ NoAttr K C "wrong" ∧ NoAttr K C "gave"
theorem mk_Way {K : PySem.W.Frag} {C f0 : Addr} {oc0 kV0 dc0 pm0 cd0 ct0 : Value} {od0 an0 : Option Addr} {sl0 : Array (Option Value)}
    (aC : PySem.W.nsIn K mainGlobals "Way" = some (some (.ref C)))
    (a0 : PySem.W.findIn K (.ref C) "__init__" = some (some (.ref f0))) (i0 : PySem.W.isFn K (.ref f0) = true) (l0 : K.lookup f0 = some ⟨oc0, od0, .func (PySem.W.fnOf "__init__" "Way.__init__" (defArgs s_Way_init) (defBody s_Way_init) (defScope s_Way_init) .none kV0 dc0 pm0 an0 cd0 ct0), sl0⟩) (c0 : PySem.W.codeIn K cd0 "Way.__init__" = true) (k0 : PySem.W.keepIn K (.ref f0) = true)
    (pg : PySem.W.plainGet K C Str.empty = true) (hd : PySem.W.hasDictIn K C = true) (po : PySem.W.plainOver K C = true) (sa : PySem.W.findIn K (.ref C) "__setattr__" = some (some (.builtin "object.__setattr__"))) (mk : PySem.W.makesIn K C = true) (kc : PySem.W.keepIn K (.ref C) = true)
    (n_wrong : PySem.W.findIn K (.ref C) "wrong" = some none)
    (n_gave : PySem.W.findIn K (.ref C) "gave" = some none) : X_Way K :=
  ⟨C, f0, _, aC, ⟨pg, hd, po, sa⟩, ⟨mk, a0, i0, kc⟩, fun_mk (st := s_Way_init) l0 c0 k0, n_wrong, n_gave⟩
def X_Test (K : PySem.W.Frag) : Prop := ∃ C f0 fd0 f1 fd1 f2 fd2 f3 fd3, PySem.W.nsIn K mainGlobals "Test" = some (some (.ref C)) ∧ Cls K C ∧ Mk K C f0 ∧ Fun K "__init__" "Test.__init__" s_Test_init f0 fd0 ∧ Fun K "measure" "Test.measure" s_Test_measure f1 fd1 ∧ Meth K C "measure" f1 ∧ Fun K "ways_with" "Test.ways_with" s_Test_ways_with f2 fd2 ∧ Meth K C "ways_with" f2 ∧ Fun K "unmeasured_of" "Test.unmeasured_of" s_Test_unmeasured_of f3 fd3 ∧ Meth K C "unmeasured_of" f3 ∧ NoAttr K C "ways" ∧ NoAttr K C "measured"
theorem mk_Test {K : PySem.W.Frag} {C f0 f1 f2 f3 : Addr} {oc0 kV0 dc0 pm0 cd0 ct0 : Value} {od0 an0 : Option Addr} {sl0 : Array (Option Value)} {oc1 kV1 dc1 pm1 cd1 ct1 : Value} {od1 an1 : Option Addr} {sl1 : Array (Option Value)} {oc2 kV2 dc2 pm2 cd2 ct2 : Value} {od2 an2 : Option Addr} {sl2 : Array (Option Value)} {oc3 kV3 dc3 pm3 cd3 ct3 : Value} {od3 an3 : Option Addr} {sl3 : Array (Option Value)}
    (aC : PySem.W.nsIn K mainGlobals "Test" = some (some (.ref C)))
    (a0 : PySem.W.findIn K (.ref C) "__init__" = some (some (.ref f0))) (i0 : PySem.W.isFn K (.ref f0) = true) (l0 : K.lookup f0 = some ⟨oc0, od0, .func (PySem.W.fnOf "__init__" "Test.__init__" (defArgs s_Test_init) (defBody s_Test_init) (defScope s_Test_init) .none kV0 dc0 pm0 an0 cd0 ct0), sl0⟩) (c0 : PySem.W.codeIn K cd0 "Test.__init__" = true) (k0 : PySem.W.keepIn K (.ref f0) = true)
    (a1 : PySem.W.findIn K (.ref C) "measure" = some (some (.ref f1))) (i1 : PySem.W.isFn K (.ref f1) = true) (l1 : K.lookup f1 = some ⟨oc1, od1, .func (PySem.W.fnOf "measure" "Test.measure" (defArgs s_Test_measure) (defBody s_Test_measure) (defScope s_Test_measure) .none kV1 dc1 pm1 an1 cd1 ct1), sl1⟩) (c1 : PySem.W.codeIn K cd1 "Test.measure" = true) (k1 : PySem.W.keepIn K (.ref f1) = true)
    (a2 : PySem.W.findIn K (.ref C) "ways_with" = some (some (.ref f2))) (i2 : PySem.W.isFn K (.ref f2) = true) (l2 : K.lookup f2 = some ⟨oc2, od2, .func (PySem.W.fnOf "ways_with" "Test.ways_with" (defArgs s_Test_ways_with) (defBody s_Test_ways_with) (defScope s_Test_ways_with) .none kV2 dc2 pm2 an2 cd2 ct2), sl2⟩) (c2 : PySem.W.codeIn K cd2 "Test.ways_with" = true) (k2 : PySem.W.keepIn K (.ref f2) = true)
    (a3 : PySem.W.findIn K (.ref C) "unmeasured_of" = some (some (.ref f3))) (i3 : PySem.W.isFn K (.ref f3) = true) (l3 : K.lookup f3 = some ⟨oc3, od3, .func (PySem.W.fnOf "unmeasured_of" "Test.unmeasured_of" (defArgs s_Test_unmeasured_of) (defBody s_Test_unmeasured_of) (defScope s_Test_unmeasured_of) .none kV3 dc3 pm3 an3 cd3 ct3), sl3⟩) (c3 : PySem.W.codeIn K cd3 "Test.unmeasured_of" = true) (k3 : PySem.W.keepIn K (.ref f3) = true)
    (pg : PySem.W.plainGet K C Str.empty = true) (hd : PySem.W.hasDictIn K C = true) (po : PySem.W.plainOver K C = true) (sa : PySem.W.findIn K (.ref C) "__setattr__" = some (some (.builtin "object.__setattr__"))) (mk : PySem.W.makesIn K C = true) (kc : PySem.W.keepIn K (.ref C) = true)
    (n_ways : PySem.W.findIn K (.ref C) "ways" = some none)
    (n_measured : PySem.W.findIn K (.ref C) "measured" = some none) : X_Test K :=
  ⟨C, f0, _, f1, _, f2, _, f3, _, aC, ⟨pg, hd, po, sa⟩, ⟨mk, a0, i0, kc⟩, fun_mk (st := s_Test_init) l0 c0 k0, fun_mk (st := s_Test_measure) l1 c1 k1, ⟨a1, i1, k1⟩, fun_mk (st := s_Test_ways_with) l2 c2 k2, ⟨a2, i2, k2⟩, fun_mk (st := s_Test_unmeasured_of) l3 c3 k3, ⟨a3, i3, k3⟩, n_ways, n_measured⟩
def X_Circuit (K : PySem.W.Frag) : Prop := ∃ C f0 fd0 f1 fd1 f2 fd2 f3 fd3 f4 fd4 f5 fd5 f6 fd6 f7 fd7 f8 fd8 f9 fd9 f10 fd10 f11 fd11 f12 fd12 f13 fd13 f14 fd14, PySem.W.nsIn K mainGlobals "Circuit" = some (some (.ref C)) ∧ Cls K C ∧ Mk K C f0 ∧ Fun K "__init__" "Circuit.__init__" s_Circuit_init f0 fd0 ∧ Fun K "begin" "Circuit.begin" s_Circuit_begin f1 fd1 ∧ Meth K C "begin" f1 ∧ Fun K "gate" "Circuit.gate" s_Circuit_gate f2 fd2 ∧ Meth K C "gate" f2 ∧ Fun K "test" "Circuit.test" s_Circuit_test f3 fd3 ∧ Meth K C "test" f3 ∧ Fun K "seen" "Circuit.seen" s_Circuit_seen f4 fd4 ∧ Meth K C "seen" f4 ∧ Fun K "explains" "Circuit.explains" s_Circuit_explains f5 fd5 ∧ Meth K C "explains" f5 ∧ Fun K "explains_all" "Circuit.explains_all" s_Circuit_explains_all f6 fd6 ∧ Meth K C "explains_all" f6 ∧ Fun K "least" "Circuit.least" s_Circuit_least f7 fd7 ∧ Meth K C "least" f7 ∧ Fun K "suspects" "Circuit.suspects" s_Circuit_suspects f8 fd8 ∧ Meth K C "suspects" f8 ∧ Fun K "sure" "Circuit.sure" s_Circuit_sure f9 fd9 ∧ Meth K C "sure" f9 ∧ Fun K "may" "Circuit.may" s_Circuit_may f10 fd10 ∧ Meth K C "may" f10 ∧ Fun K "measure_next" "Circuit.measure_next" s_Circuit_measure_next f11 fd11 ∧ Meth K C "measure_next" f11 ∧ Fun K "explaining" "Circuit.explaining" s_Circuit_explaining f12 fd12 ∧ Meth K C "explaining" f12 ∧ Fun K "all_ways" "Circuit.all_ways" s_Circuit_all_ways f13 fd13 ∧ Meth K C "all_ways" f13 ∧ Fun K "way" "Circuit.way" s_Circuit_way f14 fd14 ∧ Meth K C "way" f14 ∧ NoAttr K C "inputs" ∧ NoAttr K C "gates" ∧ NoAttr K C "tests"
theorem mk_Circuit {K : PySem.W.Frag} {C f0 f1 f2 f3 f4 f5 f6 f7 f8 f9 f10 f11 f12 f13 f14 : Addr} {oc0 kV0 dc0 pm0 cd0 ct0 : Value} {od0 an0 : Option Addr} {sl0 : Array (Option Value)} {oc1 kV1 dc1 pm1 cd1 ct1 : Value} {od1 an1 : Option Addr} {sl1 : Array (Option Value)} {oc2 kV2 dc2 pm2 cd2 ct2 : Value} {od2 an2 : Option Addr} {sl2 : Array (Option Value)} {oc3 kV3 dc3 pm3 cd3 ct3 : Value} {od3 an3 : Option Addr} {sl3 : Array (Option Value)} {oc4 kV4 dc4 pm4 cd4 ct4 : Value} {od4 an4 : Option Addr} {sl4 : Array (Option Value)} {oc5 kV5 dc5 pm5 cd5 ct5 : Value} {od5 an5 : Option Addr} {sl5 : Array (Option Value)} {oc6 kV6 dc6 pm6 cd6 ct6 : Value} {od6 an6 : Option Addr} {sl6 : Array (Option Value)} {oc7 kV7 dc7 pm7 cd7 ct7 : Value} {od7 an7 : Option Addr} {sl7 : Array (Option Value)} {oc8 kV8 dc8 pm8 cd8 ct8 : Value} {od8 an8 : Option Addr} {sl8 : Array (Option Value)} {oc9 kV9 dc9 pm9 cd9 ct9 : Value} {od9 an9 : Option Addr} {sl9 : Array (Option Value)} {oc10 kV10 dc10 pm10 cd10 ct10 : Value} {od10 an10 : Option Addr} {sl10 : Array (Option Value)} {oc11 kV11 dc11 pm11 cd11 ct11 : Value} {od11 an11 : Option Addr} {sl11 : Array (Option Value)} {oc12 kV12 dc12 pm12 cd12 ct12 : Value} {od12 an12 : Option Addr} {sl12 : Array (Option Value)} {oc13 kV13 dc13 pm13 cd13 ct13 : Value} {od13 an13 : Option Addr} {sl13 : Array (Option Value)} {oc14 kV14 dc14 pm14 cd14 ct14 : Value} {od14 an14 : Option Addr} {sl14 : Array (Option Value)}
    (aC : PySem.W.nsIn K mainGlobals "Circuit" = some (some (.ref C)))
    (a0 : PySem.W.findIn K (.ref C) "__init__" = some (some (.ref f0))) (i0 : PySem.W.isFn K (.ref f0) = true) (l0 : K.lookup f0 = some ⟨oc0, od0, .func (PySem.W.fnOf "__init__" "Circuit.__init__" (defArgs s_Circuit_init) (defBody s_Circuit_init) (defScope s_Circuit_init) .none kV0 dc0 pm0 an0 cd0 ct0), sl0⟩) (c0 : PySem.W.codeIn K cd0 "Circuit.__init__" = true) (k0 : PySem.W.keepIn K (.ref f0) = true)
    (a1 : PySem.W.findIn K (.ref C) "begin" = some (some (.ref f1))) (i1 : PySem.W.isFn K (.ref f1) = true) (l1 : K.lookup f1 = some ⟨oc1, od1, .func (PySem.W.fnOf "begin" "Circuit.begin" (defArgs s_Circuit_begin) (defBody s_Circuit_begin) (defScope s_Circuit_begin) .none kV1 dc1 pm1 an1 cd1 ct1), sl1⟩) (c1 : PySem.W.codeIn K cd1 "Circuit.begin" = true) (k1 : PySem.W.keepIn K (.ref f1) = true)
    (a2 : PySem.W.findIn K (.ref C) "gate" = some (some (.ref f2))) (i2 : PySem.W.isFn K (.ref f2) = true) (l2 : K.lookup f2 = some ⟨oc2, od2, .func (PySem.W.fnOf "gate" "Circuit.gate" (defArgs s_Circuit_gate) (defBody s_Circuit_gate) (defScope s_Circuit_gate) .none kV2 dc2 pm2 an2 cd2 ct2), sl2⟩) (c2 : PySem.W.codeIn K cd2 "Circuit.gate" = true) (k2 : PySem.W.keepIn K (.ref f2) = true)
    (a3 : PySem.W.findIn K (.ref C) "test" = some (some (.ref f3))) (i3 : PySem.W.isFn K (.ref f3) = true) (l3 : K.lookup f3 = some ⟨oc3, od3, .func (PySem.W.fnOf "test" "Circuit.test" (defArgs s_Circuit_test) (defBody s_Circuit_test) (defScope s_Circuit_test) .none kV3 dc3 pm3 an3 cd3 ct3), sl3⟩) (c3 : PySem.W.codeIn K cd3 "Circuit.test" = true) (k3 : PySem.W.keepIn K (.ref f3) = true)
    (a4 : PySem.W.findIn K (.ref C) "seen" = some (some (.ref f4))) (i4 : PySem.W.isFn K (.ref f4) = true) (l4 : K.lookup f4 = some ⟨oc4, od4, .func (PySem.W.fnOf "seen" "Circuit.seen" (defArgs s_Circuit_seen) (defBody s_Circuit_seen) (defScope s_Circuit_seen) .none kV4 dc4 pm4 an4 cd4 ct4), sl4⟩) (c4 : PySem.W.codeIn K cd4 "Circuit.seen" = true) (k4 : PySem.W.keepIn K (.ref f4) = true)
    (a5 : PySem.W.findIn K (.ref C) "explains" = some (some (.ref f5))) (i5 : PySem.W.isFn K (.ref f5) = true) (l5 : K.lookup f5 = some ⟨oc5, od5, .func (PySem.W.fnOf "explains" "Circuit.explains" (defArgs s_Circuit_explains) (defBody s_Circuit_explains) (defScope s_Circuit_explains) .none kV5 dc5 pm5 an5 cd5 ct5), sl5⟩) (c5 : PySem.W.codeIn K cd5 "Circuit.explains" = true) (k5 : PySem.W.keepIn K (.ref f5) = true)
    (a6 : PySem.W.findIn K (.ref C) "explains_all" = some (some (.ref f6))) (i6 : PySem.W.isFn K (.ref f6) = true) (l6 : K.lookup f6 = some ⟨oc6, od6, .func (PySem.W.fnOf "explains_all" "Circuit.explains_all" (defArgs s_Circuit_explains_all) (defBody s_Circuit_explains_all) (defScope s_Circuit_explains_all) .none kV6 dc6 pm6 an6 cd6 ct6), sl6⟩) (c6 : PySem.W.codeIn K cd6 "Circuit.explains_all" = true) (k6 : PySem.W.keepIn K (.ref f6) = true)
    (a7 : PySem.W.findIn K (.ref C) "least" = some (some (.ref f7))) (i7 : PySem.W.isFn K (.ref f7) = true) (l7 : K.lookup f7 = some ⟨oc7, od7, .func (PySem.W.fnOf "least" "Circuit.least" (defArgs s_Circuit_least) (defBody s_Circuit_least) (defScope s_Circuit_least) .none kV7 dc7 pm7 an7 cd7 ct7), sl7⟩) (c7 : PySem.W.codeIn K cd7 "Circuit.least" = true) (k7 : PySem.W.keepIn K (.ref f7) = true)
    (a8 : PySem.W.findIn K (.ref C) "suspects" = some (some (.ref f8))) (i8 : PySem.W.isFn K (.ref f8) = true) (l8 : K.lookup f8 = some ⟨oc8, od8, .func (PySem.W.fnOf "suspects" "Circuit.suspects" (defArgs s_Circuit_suspects) (defBody s_Circuit_suspects) (defScope s_Circuit_suspects) .none kV8 dc8 pm8 an8 cd8 ct8), sl8⟩) (c8 : PySem.W.codeIn K cd8 "Circuit.suspects" = true) (k8 : PySem.W.keepIn K (.ref f8) = true)
    (a9 : PySem.W.findIn K (.ref C) "sure" = some (some (.ref f9))) (i9 : PySem.W.isFn K (.ref f9) = true) (l9 : K.lookup f9 = some ⟨oc9, od9, .func (PySem.W.fnOf "sure" "Circuit.sure" (defArgs s_Circuit_sure) (defBody s_Circuit_sure) (defScope s_Circuit_sure) .none kV9 dc9 pm9 an9 cd9 ct9), sl9⟩) (c9 : PySem.W.codeIn K cd9 "Circuit.sure" = true) (k9 : PySem.W.keepIn K (.ref f9) = true)
    (a10 : PySem.W.findIn K (.ref C) "may" = some (some (.ref f10))) (i10 : PySem.W.isFn K (.ref f10) = true) (l10 : K.lookup f10 = some ⟨oc10, od10, .func (PySem.W.fnOf "may" "Circuit.may" (defArgs s_Circuit_may) (defBody s_Circuit_may) (defScope s_Circuit_may) .none kV10 dc10 pm10 an10 cd10 ct10), sl10⟩) (c10 : PySem.W.codeIn K cd10 "Circuit.may" = true) (k10 : PySem.W.keepIn K (.ref f10) = true)
    (a11 : PySem.W.findIn K (.ref C) "measure_next" = some (some (.ref f11))) (i11 : PySem.W.isFn K (.ref f11) = true) (l11 : K.lookup f11 = some ⟨oc11, od11, .func (PySem.W.fnOf "measure_next" "Circuit.measure_next" (defArgs s_Circuit_measure_next) (defBody s_Circuit_measure_next) (defScope s_Circuit_measure_next) .none kV11 dc11 pm11 an11 cd11 ct11), sl11⟩) (c11 : PySem.W.codeIn K cd11 "Circuit.measure_next" = true) (k11 : PySem.W.keepIn K (.ref f11) = true)
    (a12 : PySem.W.findIn K (.ref C) "explaining" = some (some (.ref f12))) (i12 : PySem.W.isFn K (.ref f12) = true) (l12 : K.lookup f12 = some ⟨oc12, od12, .func (PySem.W.fnOf "explaining" "Circuit.explaining" (defArgs s_Circuit_explaining) (defBody s_Circuit_explaining) (defScope s_Circuit_explaining) .none kV12 dc12 pm12 an12 cd12 ct12), sl12⟩) (c12 : PySem.W.codeIn K cd12 "Circuit.explaining" = true) (k12 : PySem.W.keepIn K (.ref f12) = true)
    (a13 : PySem.W.findIn K (.ref C) "all_ways" = some (some (.ref f13))) (i13 : PySem.W.isFn K (.ref f13) = true) (l13 : K.lookup f13 = some ⟨oc13, od13, .func (PySem.W.fnOf "all_ways" "Circuit.all_ways" (defArgs s_Circuit_all_ways) (defBody s_Circuit_all_ways) (defScope s_Circuit_all_ways) .none kV13 dc13 pm13 an13 cd13 ct13), sl13⟩) (c13 : PySem.W.codeIn K cd13 "Circuit.all_ways" = true) (k13 : PySem.W.keepIn K (.ref f13) = true)
    (a14 : PySem.W.findIn K (.ref C) "way" = some (some (.ref f14))) (i14 : PySem.W.isFn K (.ref f14) = true) (l14 : K.lookup f14 = some ⟨oc14, od14, .func (PySem.W.fnOf "way" "Circuit.way" (defArgs s_Circuit_way) (defBody s_Circuit_way) (defScope s_Circuit_way) .none kV14 dc14 pm14 an14 cd14 ct14), sl14⟩) (c14 : PySem.W.codeIn K cd14 "Circuit.way" = true) (k14 : PySem.W.keepIn K (.ref f14) = true)
    (pg : PySem.W.plainGet K C Str.empty = true) (hd : PySem.W.hasDictIn K C = true) (po : PySem.W.plainOver K C = true) (sa : PySem.W.findIn K (.ref C) "__setattr__" = some (some (.builtin "object.__setattr__"))) (mk : PySem.W.makesIn K C = true) (kc : PySem.W.keepIn K (.ref C) = true)
    (n_inputs : PySem.W.findIn K (.ref C) "inputs" = some none)
    (n_gates : PySem.W.findIn K (.ref C) "gates" = some none)
    (n_tests : PySem.W.findIn K (.ref C) "tests" = some none) : X_Circuit K :=
  ⟨C, f0, _, f1, _, f2, _, f3, _, f4, _, f5, _, f6, _, f7, _, f8, _, f9, _, f10, _, f11, _, f12, _, f13, _, f14, _, aC, ⟨pg, hd, po, sa⟩, ⟨mk, a0, i0, kc⟩, fun_mk (st := s_Circuit_init) l0 c0 k0, fun_mk (st := s_Circuit_begin) l1 c1 k1, ⟨a1, i1, k1⟩, fun_mk (st := s_Circuit_gate) l2 c2 k2, ⟨a2, i2, k2⟩, fun_mk (st := s_Circuit_test) l3 c3 k3, ⟨a3, i3, k3⟩, fun_mk (st := s_Circuit_seen) l4 c4 k4, ⟨a4, i4, k4⟩, fun_mk (st := s_Circuit_explains) l5 c5 k5, ⟨a5, i5, k5⟩, fun_mk (st := s_Circuit_explains_all) l6 c6 k6, ⟨a6, i6, k6⟩, fun_mk (st := s_Circuit_least) l7 c7 k7, ⟨a7, i7, k7⟩, fun_mk (st := s_Circuit_suspects) l8 c8 k8, ⟨a8, i8, k8⟩, fun_mk (st := s_Circuit_sure) l9 c9 k9, ⟨a9, i9, k9⟩, fun_mk (st := s_Circuit_may) l10 c10 k10, ⟨a10, i10, k10⟩, fun_mk (st := s_Circuit_measure_next) l11 c11 k11, ⟨a11, i11, k11⟩, fun_mk (st := s_Circuit_explaining) l12 c12 k12, ⟨a12, i12, k12⟩, fun_mk (st := s_Circuit_all_ways) l13 c13 k13, ⟨a13, i13, k13⟩, fun_mk (st := s_Circuit_way) l14 c14 k14, ⟨a14, i14, k14⟩, n_inputs, n_gates, n_tests⟩
def X_bit_of (K : PySem.W.Frag) : Prop := ∃ f fd, PySem.W.nsIn K mainGlobals "bit_of" = some (some (.ref f)) ∧ Fun K "bit_of" "bit_of" s_bit_of f fd
theorem mk_bit_of {K : PySem.W.Frag} {f0 : Addr} {oc0 kV0 dc0 pm0 cd0 ct0 : Value} {od0 an0 : Option Addr} {sl0 : Array (Option Value)} (a0 : PySem.W.nsIn K mainGlobals "bit_of" = some (some (.ref f0))) (l0 : K.lookup f0 = some ⟨oc0, od0, .func (PySem.W.fnOf "bit_of" "bit_of" (defArgs s_bit_of) (defBody s_bit_of) (defScope s_bit_of) .none kV0 dc0 pm0 an0 cd0 ct0), sl0⟩) (c0 : PySem.W.codeIn K cd0 "bit_of" = true) (k0 : PySem.W.keepIn K (.ref f0) = true) : X_bit_of K :=
  ⟨f0, _, a0, fun_mk (st := s_bit_of) l0 c0 k0⟩
def X_has_bit_from (K : PySem.W.Frag) : Prop := ∃ f fd, PySem.W.nsIn K mainGlobals "has_bit_from" = some (some (.ref f)) ∧ Fun K "has_bit_from" "has_bit_from" s_has_bit_from f fd
theorem mk_has_bit_from {K : PySem.W.Frag} {f0 : Addr} {oc0 kV0 dc0 pm0 cd0 ct0 : Value} {od0 an0 : Option Addr} {sl0 : Array (Option Value)} (a0 : PySem.W.nsIn K mainGlobals "has_bit_from" = some (some (.ref f0))) (l0 : K.lookup f0 = some ⟨oc0, od0, .func (PySem.W.fnOf "has_bit_from" "has_bit_from" (defArgs s_has_bit_from) (defBody s_has_bit_from) (defScope s_has_bit_from) .none kV0 dc0 pm0 an0 cd0 ct0), sl0⟩) (c0 : PySem.W.codeIn K cd0 "has_bit_from" = true) (k0 : PySem.W.keepIn K (.ref f0) = true) : X_has_bit_from K :=
  ⟨f0, _, a0, fun_mk (st := s_has_bit_from) l0 c0 k0⟩
def X_gates_of (K : PySem.W.Frag) : Prop := ∃ f fd, PySem.W.nsIn K mainGlobals "gates_of" = some (some (.ref f)) ∧ Fun K "gates_of" "gates_of" s_gates_of f fd
theorem mk_gates_of {K : PySem.W.Frag} {f0 : Addr} {oc0 kV0 dc0 pm0 cd0 ct0 : Value} {od0 an0 : Option Addr} {sl0 : Array (Option Value)} (a0 : PySem.W.nsIn K mainGlobals "gates_of" = some (some (.ref f0))) (l0 : K.lookup f0 = some ⟨oc0, od0, .func (PySem.W.fnOf "gates_of" "gates_of" (defArgs s_gates_of) (defBody s_gates_of) (defScope s_gates_of) .none kV0 dc0 pm0 an0 cd0 ct0), sl0⟩) (c0 : PySem.W.codeIn K cd0 "gates_of" = true) (k0 : PySem.W.keepIn K (.ref f0) = true) : X_gates_of K :=
  ⟨f0, _, a0, fun_mk (st := s_gates_of) l0 c0 k0⟩
def X_parts_lacking_one (K : PySem.W.Frag) : Prop := ∃ f fd, PySem.W.nsIn K mainGlobals "parts_lacking_one" = some (some (.ref f)) ∧ Fun K "parts_lacking_one" "parts_lacking_one" s_parts_lacking_one f fd
theorem mk_parts_lacking_one {K : PySem.W.Frag} {f0 : Addr} {oc0 kV0 dc0 pm0 cd0 ct0 : Value} {od0 an0 : Option Addr} {sl0 : Array (Option Value)} (a0 : PySem.W.nsIn K mainGlobals "parts_lacking_one" = some (some (.ref f0))) (l0 : K.lookup f0 = some ⟨oc0, od0, .func (PySem.W.fnOf "parts_lacking_one" "parts_lacking_one" (defArgs s_parts_lacking_one) (defBody s_parts_lacking_one) (defScope s_parts_lacking_one) .none kV0 dc0 pm0 an0 cd0 ct0), sl0⟩) (c0 : PySem.W.codeIn K cd0 "parts_lacking_one" = true) (k0 : PySem.W.keepIn K (.ref f0) = true) : X_parts_lacking_one K :=
  ⟨f0, _, a0, fun_mk (st := s_parts_lacking_one) l0 c0 k0⟩
def X_how_many_gates (K : PySem.W.Frag) : Prop := ∃ f fd, PySem.W.nsIn K mainGlobals "how_many_gates" = some (some (.ref f)) ∧ Fun K "how_many_gates" "how_many_gates" s_how_many_gates f fd
theorem mk_how_many_gates {K : PySem.W.Frag} {f0 : Addr} {oc0 kV0 dc0 pm0 cd0 ct0 : Value} {od0 an0 : Option Addr} {sl0 : Array (Option Value)} (a0 : PySem.W.nsIn K mainGlobals "how_many_gates" = some (some (.ref f0))) (l0 : K.lookup f0 = some ⟨oc0, od0, .func (PySem.W.fnOf "how_many_gates" "how_many_gates" (defArgs s_how_many_gates) (defBody s_how_many_gates) (defScope s_how_many_gates) .none kV0 dc0 pm0 an0 cd0 ct0), sl0⟩) (c0 : PySem.W.codeIn K cd0 "how_many_gates" = true) (k0 : PySem.W.keepIn K (.ref f0) = true) : X_how_many_gates K :=
  ⟨f0, _, a0, fun_mk (st := s_how_many_gates) l0 c0 k0⟩
def X_least_of (K : PySem.W.Frag) : Prop := ∃ f fd, PySem.W.nsIn K mainGlobals "least_of" = some (some (.ref f)) ∧ Fun K "least_of" "least_of" s_least_of f fd
theorem mk_least_of {K : PySem.W.Frag} {f0 : Addr} {oc0 kV0 dc0 pm0 cd0 ct0 : Value} {od0 an0 : Option Addr} {sl0 : Array (Option Value)} (a0 : PySem.W.nsIn K mainGlobals "least_of" = some (some (.ref f0))) (l0 : K.lookup f0 = some ⟨oc0, od0, .func (PySem.W.fnOf "least_of" "least_of" (defArgs s_least_of) (defBody s_least_of) (defScope s_least_of) .none kV0 dc0 pm0 an0 cd0 ct0), sl0⟩) (c0 : PySem.W.codeIn K cd0 "least_of" = true) (k0 : PySem.W.keepIn K (.ref f0) = true) : X_least_of K :=
  ⟨f0, _, a0, fun_mk (st := s_least_of) l0 c0 k0⟩
def X_could_give (K : PySem.W.Frag) : Prop := ∃ f fd, PySem.W.nsIn K mainGlobals "could_give" = some (some (.ref f)) ∧ Fun K "could_give" "could_give" s_could_give f fd
theorem mk_could_give {K : PySem.W.Frag} {f0 : Addr} {oc0 kV0 dc0 pm0 cd0 ct0 : Value} {od0 an0 : Option Addr} {sl0 : Array (Option Value)} (a0 : PySem.W.nsIn K mainGlobals "could_give" = some (some (.ref f0))) (l0 : K.lookup f0 = some ⟨oc0, od0, .func (PySem.W.fnOf "could_give" "could_give" (defArgs s_could_give) (defBody s_could_give) (defScope s_could_give) .none kV0 dc0 pm0 an0 cd0 ct0), sl0⟩) (c0 : PySem.W.codeIn K cd0 "could_give" = true) (k0 : PySem.W.keepIn K (.ref f0) = true) : X_could_give K :=
  ⟨f0, _, a0, fun_mk (st := s_could_give) l0 c0 k0⟩
def X_counts_left (K : PySem.W.Frag) : Prop := ∃ f fd, PySem.W.nsIn K mainGlobals "counts_left" = some (some (.ref f)) ∧ Fun K "counts_left" "counts_left" s_counts_left f fd
theorem mk_counts_left {K : PySem.W.Frag} {f0 : Addr} {oc0 kV0 dc0 pm0 cd0 ct0 : Value} {od0 an0 : Option Addr} {sl0 : Array (Option Value)} (a0 : PySem.W.nsIn K mainGlobals "counts_left" = some (some (.ref f0))) (l0 : K.lookup f0 = some ⟨oc0, od0, .func (PySem.W.fnOf "counts_left" "counts_left" (defArgs s_counts_left) (defBody s_counts_left) (defScope s_counts_left) .none kV0 dc0 pm0 an0 cd0 ct0), sl0⟩) (c0 : PySem.W.codeIn K cd0 "counts_left" = true) (k0 : PySem.W.keepIn K (.ref f0) = true) : X_counts_left K :=
  ⟨f0, _, a0, fun_mk (st := s_counts_left) l0 c0 k0⟩
def X_greater_count (K : PySem.W.Frag) : Prop := ∃ f fd, PySem.W.nsIn K mainGlobals "greater_count" = some (some (.ref f)) ∧ Fun K "greater_count" "greater_count" s_greater_count f fd
theorem mk_greater_count {K : PySem.W.Frag} {f0 : Addr} {oc0 kV0 dc0 pm0 cd0 ct0 : Value} {od0 an0 : Option Addr} {sl0 : Array (Option Value)} (a0 : PySem.W.nsIn K mainGlobals "greater_count" = some (some (.ref f0))) (l0 : K.lookup f0 = some ⟨oc0, od0, .func (PySem.W.fnOf "greater_count" "greater_count" (defArgs s_greater_count) (defBody s_greater_count) (defScope s_greater_count) .none kV0 dc0 pm0 an0 cd0 ct0), sl0⟩) (c0 : PySem.W.codeIn K cd0 "greater_count" = true) (k0 : PySem.W.keepIn K (.ref f0) = true) : X_greater_count K :=
  ⟨f0, _, a0, fun_mk (st := s_greater_count) l0 c0 k0⟩
def X_counted (K : PySem.W.Frag) : Prop := ∃ f fd, PySem.W.nsIn K mainGlobals "counted" = some (some (.ref f)) ∧ Fun K "counted" "counted" s_counted f fd
theorem mk_counted {K : PySem.W.Frag} {f0 : Addr} {oc0 kV0 dc0 pm0 cd0 ct0 : Value} {od0 an0 : Option Addr} {sl0 : Array (Option Value)} (a0 : PySem.W.nsIn K mainGlobals "counted" = some (some (.ref f0))) (l0 : K.lookup f0 = some ⟨oc0, od0, .func (PySem.W.fnOf "counted" "counted" (defArgs s_counted) (defBody s_counted) (defScope s_counted) .none kV0 dc0 pm0 an0 cd0 ct0), sl0⟩) (c0 : PySem.W.codeIn K cd0 "counted" = true) (k0 : PySem.W.keepIn K (.ref f0) = true) : X_counted K :=
  ⟨f0, _, a0, fun_mk (st := s_counted) l0 c0 k0⟩
def X_answer (K : PySem.W.Frag) : Prop := ∃ f fd, PySem.W.nsIn K mainGlobals "answer" = some (some (.ref f)) ∧ Fun K "answer" "answer" s_answer f fd
theorem mk_answer {K : PySem.W.Frag} {f0 : Addr} {oc0 kV0 dc0 pm0 cd0 ct0 : Value} {od0 an0 : Option Addr} {sl0 : Array (Option Value)} (a0 : PySem.W.nsIn K mainGlobals "answer" = some (some (.ref f0))) (l0 : K.lookup f0 = some ⟨oc0, od0, .func (PySem.W.fnOf "answer" "answer" (defArgs s_answer) (defBody s_answer) (defScope s_answer) .none kV0 dc0 pm0 an0 cd0 ct0), sl0⟩) (c0 : PySem.W.codeIn K cd0 "answer" = true) (k0 : PySem.W.keepIn K (.ref f0) = true) : X_answer K :=
  ⟨f0, _, a0, fun_mk (st := s_answer) l0 c0 k0⟩
def X_answers (K : PySem.W.Frag) : Prop := ∃ f fd, PySem.W.nsIn K mainGlobals "answers" = some (some (.ref f)) ∧ Fun K "answers" "answers" s_answers f fd
theorem mk_answers {K : PySem.W.Frag} {f0 : Addr} {oc0 kV0 dc0 pm0 cd0 ct0 : Value} {od0 an0 : Option Addr} {sl0 : Array (Option Value)} (a0 : PySem.W.nsIn K mainGlobals "answers" = some (some (.ref f0))) (l0 : K.lookup f0 = some ⟨oc0, od0, .func (PySem.W.fnOf "answers" "answers" (defArgs s_answers) (defBody s_answers) (defScope s_answers) .none kV0 dc0 pm0 an0 cd0 ct0), sl0⟩) (c0 : PySem.W.codeIn K cd0 "answers" = true) (k0 : PySem.W.keepIn K (.ref f0) = true) : X_answers K :=
  ⟨f0, _, a0, fun_mk (st := s_answers) l0 c0 k0⟩
def X_none (K : PySem.W.Frag) : Prop := PySem.W.nsIn K mainGlobals "len" = some none ∧ PySem.W.nsIn K mainGlobals "range" = some none ∧ PySem.W.nsIn K mainGlobals "enumerate" = some none ∧ PySem.W.nsIn K mainGlobals "any" = some none ∧ PySem.W.nsIn K mainGlobals "sum" = some none ∧ PySem.W.nsIn K mainGlobals "max" = some none ∧ PySem.W.nsIn K mainGlobals "min" = some none ∧ PySem.W.nsIn K mainGlobals "sorted" = some none
section
variable {P : Program} {w : World} {K : PySem.W.Frag} {mg : Str → Option Value} {h : Heap} {fa : Addr}
theorem all_ok (X : K.In h) (G : h.Ns mainGlobals mg) (hfa : mg "answers" = some (.ref fa)) (h_BEGIN : X_BEGIN K) (h_GATE : X_GATE K) (h_TEST : X_TEST K) (h_SEEN : X_SEEN K) (h_EXPLAINS : X_EXPLAINS K) (h_LEAST : X_LEAST K) (h_SUSPECTS : X_SUSPECTS K) (h_SURE : X_SURE K) (h_MAY : X_MAY K) (h_HANDED_OVER : X_HANDED_OVER K) (h_NOT_THERE : X_NOT_THERE K) (h_ALL_MEASURED : X_ALL_MEASURED K) (h_BUSY : X_BUSY K) (h_MEASURED_ALREADY : X_MEASURED_ALREADY K) (h_NOT_VALID : X_NOT_VALID K) (h_FULL : X_FULL K) (h_NO_WAY : X_NO_WAY K) (h_MOST_INPUTS : X_MOST_INPUTS K) (h_MOST_GATES : X_MOST_GATES K) (h_MOST_TESTS : X_MOST_TESTS K) (h_GIVES : X_GIVES K) (h_Gate : X_Gate K) (h_Way : X_Way K) (h_Test : X_Test K) (h_Circuit : X_Circuit K) (h_bit_of : X_bit_of K) (h_has_bit_from : X_has_bit_from K) (h_gates_of : X_gates_of K) (h_parts_lacking_one : X_parts_lacking_one K) (h_how_many_gates : X_how_many_gates K) (h_least_of : X_least_of K) (h_could_give : X_could_give K) (h_counts_left : X_counts_left K) (h_greater_count : X_greater_count K) (h_counted : X_counted K) (h_answer : X_answer K) (h_answers : X_answers K) (h_none : X_none K) :
    ∃ fd : FuncData, (∀ (s : Shared) (us : List Value), us.length = (["calls"] : List Str).length → BindsTo s fd ⟨us, []⟩ ((["calls"] : List Str).zip us)) ∧ ∀ base : Heap, K.In base → base.Ns mainGlobals mg → FnOk P w K mg base CX0 10 fa fd ["calls"] (sp_answers K) := by
  have gi : ∀ {x : Str} {i : Int}, (∃ t, PySem.W.nsIn K mainGlobals x = some (some (.int i t))) → ∃ t, mg x = some (.int i t) := fun ⟨t, e⟩ => ⟨t, PySem.W.mg_of X G e⟩
  obtain ⟨CGate, g0, gd0, g1, gd1, gG, gcl, gmk, gF0, gF1, gM1, gn0, gn1, gn2⟩ := h_Gate
  obtain ⟨CWay, w0, wd0, wG, wcl, wmk, wF0, wn0, wn1⟩ := h_Way
  obtain ⟨CTest, t0, td0, t1, td1, t2, td2, t3, td3, tG, tcl, tmk, tF0, tF1, tM1, tF2, tM2, tF3, tM3, tn0, tn1⟩ := h_Test
  obtain ⟨CCircuit, c0, cd0, c1, cd1, c2, cd2, c3, cd3, c4, cd4, c5, cd5, c6, cd6, c7, cd7, c8, cd8, c9, cd9, c10, cd10, c11, cd11, c12, cd12, c13, cd13, c14, cd14, cG, ccl, cmk, cF0, cF1, cM1, cF2, cM2, cF3, cM3, cF4, cM4, cF5, cM5, cF6, cM6, cF7, cM7, cF8, cM8, cF9, cM9, cF10, cM10, cF11, cM11, cF12, cM12, cF13, cM13, cF14, cM14, cn0, cn1, cn2⟩ := h_Circuit
  obtain ⟨aGV, r0, r1, r2, r3, r4, vG, vS, v0, v1, v2, v3, v4⟩ := h_GIVES
  obtain ⟨aHO, oG, oS⟩ := h_HANDED_OVER
  obtain ⟨f_bit_of, d_bit_of, G_bit_of, F_bit_of⟩ := h_bit_of
  obtain ⟨f_has_bit_from, d_has_bit_from, G_has_bit_from, F_has_bit_from⟩ := h_has_bit_from
  obtain ⟨f_gates_of, d_gates_of, G_gates_of, F_gates_of⟩ := h_gates_of
  obtain ⟨f_parts_lacking_one, d_parts_lacking_one, G_parts_lacking_one, F_parts_lacking_one⟩ := h_parts_lacking_one
  obtain ⟨f_how_many_gates, d_how_many_gates, G_how_many_gates, F_how_many_gates⟩ := h_how_many_gates
  obtain ⟨f_least_of, d_least_of, G_least_of, F_least_of⟩ := h_least_of
  obtain ⟨f_could_give, d_could_give, G_could_give, F_could_give⟩ := h_could_give
  obtain ⟨f_counts_left, d_counts_left, G_counts_left, F_counts_left⟩ := h_counts_left
  obtain ⟨f_greater_count, d_greater_count, G_greater_count, F_greater_count⟩ := h_greater_count
  obtain ⟨f_counted, d_counted, G_counted, F_counted⟩ := h_counted
  obtain ⟨f_answer, d_answer, G_answer, F_answer⟩ := h_answer
  obtain ⟨f_answers, d_answers, G_answers, F_answers⟩ := h_answers
  have e := hfa.symm.trans (PySem.W.mg_of X G G_answers)
  cases e
  have T : Txt K mg ⟨CGate, CWay, CTest, CCircuit, aGV, aHO⟩ := ⟨gcl, wcl, tcl, ccl, gn0, gn1, gn2, wn0, wn1, tn0, tn1, cn0, cn1, cn2, gi h_BEGIN, gi h_GATE, gi h_TEST, gi h_SEEN, gi h_EXPLAINS, gi h_LEAST, gi h_SUSPECTS, gi h_SURE, gi h_MAY, gi h_NOT_THERE, gi h_ALL_MEASURED, gi h_NO_WAY, gi h_BUSY, gi h_MEASURED_ALREADY, gi h_NOT_VALID, gi h_FULL, gi h_MOST_INPUTS, gi h_MOST_GATES, gi h_MOST_TESTS,
    PySem.W.mg_of X G vG, PySem.W.mg_of X G oG, ⟨[r0, r1, r2, r3, r4], rfl, vS, fun k r e => match k, e with
      | 0, e => by cases e; exact v0
      | 1, e => by cases e; exact v1
      | 2, e => by cases e; exact v2
      | 3, e => by cases e; exact v3
      | 4, e => by cases e; exact v4
      | k + 5, e => by simp at e⟩, oS, PySem.W.mg_none_of X G h_none.1, PySem.W.mg_none_of X G h_none.2.1, PySem.W.mg_none_of X G h_none.2.2.1, PySem.W.mg_none_of X G h_none.2.2.2.1, PySem.W.mg_none_of X G h_none.2.2.2.2.1, PySem.W.mg_none_of X G h_none.2.2.2.2.2.1, PySem.W.mg_none_of X G h_none.2.2.2.2.2.2.1, PySem.W.mg_none_of X G h_none.2.2.2.2.2.2.2⟩
  have gb0 := gF0.binds (ps := ["self", "kind", "a", "b"]) fun _ _ _ _ _ _ us hl => match us, hl with | [_, _, _, _], _ => rfl
  have gb1 := gF1.binds (ps := ["self", "wires"]) fun _ _ _ _ _ _ us hl => match us, hl with | [_, _], _ => rfl
  have wb0 := wF0.binds (ps := ["self", "wrong", "gave"]) fun _ _ _ _ _ _ us hl => match us, hl with | [_, _, _], _ => rfl
  have tb0 := tF0.binds (ps := ["self", "ways"]) fun _ _ _ _ _ _ us hl => match us, hl with | [_, _], _ => rfl
  have tb1 := tF1.binds (ps := ["self", "gate", "value"]) fun _ _ _ _ _ _ us hl => match us, hl with | [_, _, _], _ => rfl
  have tb2 := tF2.binds (ps := ["self", "broken"]) fun _ _ _ _ _ _ us hl => match us, hl with | [_, _], _ => rfl
  have tb3 := tF3.binds (ps := ["self", "gates"]) fun _ _ _ _ _ _ us hl => match us, hl with | [_, _], _ => rfl
  have cb0 := cF0.binds (ps := ["self"]) fun _ _ _ _ _ _ us hl => match us, hl with | [_], _ => rfl
  have cb1 := cF1.binds (ps := ["self", "inputs"]) fun _ _ _ _ _ _ us hl => match us, hl with | [_, _], _ => rfl
  have cb2 := cF2.binds (ps := ["self", "kind", "a", "b"]) fun _ _ _ _ _ _ us hl => match us, hl with | [_, _, _, _], _ => rfl
  have cb3 := cF3.binds (ps := ["self", "inputs"]) fun _ _ _ _ _ _ us hl => match us, hl with | [_, _], _ => rfl
  have cb4 := cF4.binds (ps := ["self", "t", "w", "v"]) fun _ _ _ _ _ _ us hl => match us, hl with | [_, _, _, _], _ => rfl
  have cb5 := cF5.binds (ps := ["self", "broken"]) fun _ _ _ _ _ _ us hl => match us, hl with | [_, _], _ => rfl
  have cb6 := cF6.binds (ps := ["self", "broken"]) fun _ _ _ _ _ _ us hl => match us, hl with | [_, _], _ => rfl
  have cb7 := cF7.binds (ps := ["self"]) fun _ _ _ _ _ _ us hl => match us, hl with | [_], _ => rfl
  have cb8 := cF8.binds (ps := ["self"]) fun _ _ _ _ _ _ us hl => match us, hl with | [_], _ => rfl
  have cb9 := cF9.binds (ps := ["self"]) fun _ _ _ _ _ _ us hl => match us, hl with | [_], _ => rfl
  have cb10 := cF10.binds (ps := ["self", "broken", "t", "w"]) fun _ _ _ _ _ _ us hl => match us, hl with | [_, _, _, _], _ => rfl
  have cb11 := cF11.binds (ps := ["self", "t"]) fun _ _ _ _ _ _ us hl => match us, hl with | [_, _], _ => rfl
  have cb12 := cF12.binds (ps := ["self"]) fun _ _ _ _ _ _ us hl => match us, hl with | [_], _ => rfl
  have cb13 := cF13.binds (ps := ["self", "inputs"]) fun _ _ _ _ _ _ us hl => match us, hl with | [_, _], _ => rfl
  have cb14 := cF14.binds (ps := ["self", "inputs", "wrong"]) fun _ _ _ _ _ _ us hl => match us, hl with | [_, _, _], _ => rfl
  have b_bit_of := F_bit_of.binds (ps := ["bits", "k"]) fun _ _ _ _ _ _ us hl => match us, hl with | [_, _], _ => rfl
  have b_has_bit_from := F_has_bit_from.binds (ps := ["bits", "k"]) fun _ _ _ _ _ _ us hl => match us, hl with | [_, _], _ => rfl
  have b_gates_of := F_gates_of.binds (ps := ["bits"]) fun _ _ _ _ _ _ us hl => match us, hl with | [_], _ => rfl
  have b_parts_lacking_one := F_parts_lacking_one.binds (ps := ["bits"]) fun _ _ _ _ _ _ us hl => match us, hl with | [_], _ => rfl
  have b_how_many_gates := F_how_many_gates.binds (ps := ["bits"]) fun _ _ _ _ _ _ us hl => match us, hl with | [_], _ => rfl
  have b_least_of := F_least_of.binds (ps := ["fitting"]) fun _ _ _ _ _ _ us hl => match us, hl with | [_], _ => rfl
  have b_could_give := F_could_give.binds (ps := ["ways", "w"]) fun _ _ _ _ _ _ us hl => match us, hl with | [_, _], _ => rfl
  have b_counts_left := F_counts_left.binds (ps := ["ways_of_each", "w"]) fun _ _ _ _ _ _ us hl => match us, hl with | [_, _], _ => rfl
  have b_greater_count := F_greater_count.binds (ps := ["found"]) fun _ _ _ _ _ _ us hl => match us, hl with | [_], _ => rfl
  have b_counted := F_counted.binds (ps := ["numbers"]) fun _ _ _ _ _ _ us hl => match us, hl with | [_], _ => rfl
  have b_answer := F_answer.binds (ps := ["circuit", "call", "numbers"]) fun _ _ _ _ _ _ us hl => match us, hl with | [_, _, _], _ => rfl
  have b_answers := F_answers.binds (ps := ["calls"]) fun _ _ _ _ _ _ us hl => match us, hl with | [_], _ => rfl
  refine ⟨d_answers, fun s us hu => ?_, fun base kb _ => ?_⟩
  · obtain ⟨oc, od, kV, doc, pm, an, cdv, ct, osl, rfl, _, _⟩ := F_answers.ex
    exact match us, hu with | [_], _ => .of_eq rfl
  · have B_bit_of : GF P w K mg base 1 "bit_of" _ _ := ⟨f_bit_of, d_bit_of, ok_bit_of F_bit_of , b_bit_of, F_bit_of.kp, PySem.W.mg_of X G G_bit_of⟩
    have B_has_bit_from : GF P w K mg base 1 "has_bit_from" _ _ := ⟨f_has_bit_from, d_has_bit_from, ok_has_bit_from F_has_bit_from , b_has_bit_from, F_has_bit_from.kp, PySem.W.mg_of X G G_has_bit_from⟩
    have B_gates_of : GF P w K mg base 2 "gates_of" _ _ := ⟨f_gates_of, d_gates_of, ok_gates_of F_gates_of T B_bit_of, b_gates_of, F_gates_of.kp, PySem.W.mg_of X G G_gates_of⟩
    have B_parts_lacking_one : GF P w K mg base 3 "parts_lacking_one" _ _ := ⟨f_parts_lacking_one, d_parts_lacking_one, ok_parts_lacking_one F_parts_lacking_one T B_gates_of, b_parts_lacking_one, F_parts_lacking_one.kp, PySem.W.mg_of X G G_parts_lacking_one⟩
    have B_how_many_gates : GF P w K mg base 3 "how_many_gates" _ _ := ⟨f_how_many_gates, d_how_many_gates, ok_how_many_gates F_how_many_gates T B_gates_of, b_how_many_gates, F_how_many_gates.kp, PySem.W.mg_of X G G_how_many_gates⟩
    have B_least_of : GF P w K mg base 6 "least_of" _ _ := ⟨f_least_of, d_least_of, ok_least_of F_least_of T B_parts_lacking_one B_how_many_gates, b_least_of, F_least_of.kp, PySem.W.mg_of X G G_least_of⟩
    have B_could_give : GF P w K mg base 1 "could_give" _ _ := ⟨f_could_give, d_could_give, ok_could_give F_could_give T, b_could_give, F_could_give.kp, PySem.W.mg_of X G G_could_give⟩
    have B_counts_left : GF P w K mg base 2 "counts_left" _ _ := ⟨f_counts_left, d_counts_left, ok_counts_left F_counts_left T B_could_give B_bit_of, b_counts_left, F_counts_left.kp, PySem.W.mg_of X G G_counts_left⟩
    have B_greater_count : GF P w K mg base 1 "greater_count" _ _ := ⟨f_greater_count, d_greater_count, ok_greater_count F_greater_count T, b_greater_count, F_greater_count.kp, PySem.W.mg_of X G G_greater_count⟩
    have B_counted : GF P w K mg base 1 "counted" _ _ := ⟨f_counted, d_counted, ok_counted F_counted T, b_counted, F_counted.kp, PySem.W.mg_of X G G_counted⟩
    have B_Gate : CF P w K mg base CGate 1 "Gate" _ _ := ⟨g0, gd0, ok_Gate_init gF0 T, gb0, gmk, PySem.W.mg_of X G gG⟩
    have B_Gate_should_give : MF P w K mg base CGate 1 "should_give" _ _ := ⟨g1, gd1, ok_Gate_should_give gF1 T, gb1, gM1⟩
    have B_Way : CF P w K mg base CWay 1 "Way" _ _ := ⟨w0, wd0, ok_Way_init wF0 T, wb0, wmk, PySem.W.mg_of X G wG⟩
    have B_Test : CF P w K mg base CTest 1 "Test" _ _ := ⟨t0, td0, ok_Test_init tF0 T, tb0, tmk, PySem.W.mg_of X G tG⟩
    have B_Test_measure : MF P w K mg base CTest 1 "measure" _ _ := ⟨t1, td1, ok_Test_measure tF1 T, tb1, tM1⟩
    have B_Test_ways_with : MF P w K mg base CTest 1 "ways_with" _ _ := ⟨t2, td2, ok_Test_ways_with tF2 T, tb2, tM2⟩
    have B_Test_unmeasured_of : MF P w K mg base CTest 1 "unmeasured_of" _ _ := ⟨t3, td3, ok_Test_unmeasured_of tF3 T, tb3, tM3⟩
    have B_Circuit : CF P w K mg base CCircuit 1 "Circuit" _ _ := ⟨c0, cd0, ok_Circuit_init cF0 T, cb0, cmk, PySem.W.mg_of X G cG⟩
    have B_Circuit_begin : MF P w K mg base CCircuit 1 "begin" _ _ := ⟨c1, cd1, ok_Circuit_begin cF1 T, cb1, cM1⟩
    have B_Circuit_gate : MF P w K mg base CCircuit 3 "gate" _ _ := ⟨c2, cd2, ok_Circuit_gate cF2 T B_Gate, cb2, cM2⟩
    have B_Circuit_way : MF P w K mg base CCircuit 3 "way" _ _ := ⟨c14, cd14, ok_Circuit_way cF14 T B_bit_of B_Gate_should_give B_Way, cb14, cM14⟩
    have B_Circuit_all_ways : MF P w K mg base CCircuit 4 "all_ways" _ _ := ⟨c13, cd13, ok_Circuit_all_ways cF13 T B_Circuit_way, cb13, cM13⟩
    have B_Circuit_test : MF P w K mg base CCircuit 5 "test" _ _ := ⟨c3, cd3, ok_Circuit_test cF3 T B_has_bit_from B_Circuit_all_ways B_Test, cb3, cM3⟩
    have B_Circuit_seen : MF P w K mg base CCircuit 2 "seen" _ _ := ⟨c4, cd4, ok_Circuit_seen cF4 T B_Test_measure, cb4, cM4⟩
    have B_Circuit_explains_all : MF P w K mg base CCircuit 3 "explains_all" _ _ := ⟨c6, cd6, ok_Circuit_explains_all cF6 T B_Test_ways_with, cb6, cM6⟩
    have B_Circuit_explains : MF P w K mg base CCircuit 4 "explains" _ _ := ⟨c5, cd5, ok_Circuit_explains cF5 T B_has_bit_from B_Circuit_explains_all, cb5, cM5⟩
    have B_Circuit_explaining : MF P w K mg base CCircuit 4 "explaining" _ _ := ⟨c12, cd12, ok_Circuit_explaining cF12 T B_parts_lacking_one, cb12, cM12⟩
    have B_Circuit_least : MF P w K mg base CCircuit 7 "least" _ _ := ⟨c7, cd7, ok_Circuit_least cF7 T B_least_of B_Circuit_explaining, cb7, cM7⟩
    have B_Circuit_suspects : MF P w K mg base CCircuit 7 "suspects" _ _ := ⟨c8, cd8, ok_Circuit_suspects cF8 T B_least_of B_Circuit_explaining, cb8, cM8⟩
    have B_Circuit_sure : MF P w K mg base CCircuit 8 "sure" _ _ := ⟨c9, cd9, ok_Circuit_sure cF9 T B_Circuit_least, cb9, cM9⟩
    have B_Circuit_may : MF P w K mg base CCircuit 2 "may" _ _ := ⟨c10, cd10, ok_Circuit_may cF10 T B_has_bit_from B_Test_ways_with B_could_give, cb10, cM10⟩
    have B_Circuit_measure_next : MF P w K mg base CCircuit 8 "measure_next" _ _ := ⟨c11, cd11, ok_Circuit_measure_next cF11 T B_Test_unmeasured_of B_Circuit_least B_Test_ways_with B_greater_count B_counts_left, cb11, cM11⟩
    have B_answer : GF P w K mg base 9 "answer" _ _ := ⟨f_answer, d_answer, ok_answer F_answer T B_Circuit_begin B_Circuit_gate B_Circuit_test B_Circuit_seen B_Circuit_explains B_counted B_Circuit_least B_Circuit_suspects B_Circuit_sure B_Circuit_may B_Circuit_measure_next, b_answer, F_answer.kp, PySem.W.mg_of X G G_answer⟩
    exact ok_answers F_answers T B_Circuit B_answer
end
end FF

set_option Elab.async false
open PySem PySem.W PyProof.Rows
set_option maxRecDepth 100000 in
set_option maxHeartbeats 0 in
theorem PySem.Challenge.cw_faultfinder_s01_answers_holds : PySem.Challenge.rw_faultfinder_s01_answers.Holds := by
  w_on; k_headS; (case hw => exact ⟨[.list [.int 0, .int 0]], by decide +kernel, by decide +kernel⟩)
  k_fillS
  refine L2.walk_specK (r := PySem.Challenge.rw_faultfinder_s01_answers) (k := 10) (CX := L2.CX0) (ps := ["calls"]) (sp := FF.sp_answers) (by decide +kernel) rfl rfl ⟨rfl, by decide, by decide⟩ (fun w h Y => PySem.W.kIn_of Y) ?F ?S (fun _ _ _ _ z => z)
  case F =>
    intro w mg fa h Y KX G hmg
    have h_BEGIN : FF.X_BEGIN (L2.KOf KX) := by
      dsimp only [L2.KOf]
      refine' FF.mk_BEGIN ?a
      (case a => k_is)
    have h_GATE : FF.X_GATE (L2.KOf KX) := by
      dsimp only [L2.KOf]
      refine' FF.mk_GATE ?a
      (case a => k_is)
    have h_TEST : FF.X_TEST (L2.KOf KX) := by
      dsimp only [L2.KOf]
      refine' FF.mk_TEST ?a
      (case a => k_is)
    have h_SEEN : FF.X_SEEN (L2.KOf KX) := by
      dsimp only [L2.KOf]
      refine' FF.mk_SEEN ?a
      (case a => k_is)
    have h_EXPLAINS : FF.X_EXPLAINS (L2.KOf KX) := by
      dsimp only [L2.KOf]
      refine' FF.mk_EXPLAINS ?a
      (case a => k_is)
    have h_LEAST : FF.X_LEAST (L2.KOf KX) := by
      dsimp only [L2.KOf]
      refine' FF.mk_LEAST ?a
      (case a => k_is)
    have h_SUSPECTS : FF.X_SUSPECTS (L2.KOf KX) := by
      dsimp only [L2.KOf]
      refine' FF.mk_SUSPECTS ?a
      (case a => k_is)
    have h_SURE : FF.X_SURE (L2.KOf KX) := by
      dsimp only [L2.KOf]
      refine' FF.mk_SURE ?a
      (case a => k_is)
    have h_MAY : FF.X_MAY (L2.KOf KX) := by
      dsimp only [L2.KOf]
      refine' FF.mk_MAY ?a
      (case a => k_is)
    have h_HANDED_OVER : FF.X_HANDED_OVER (L2.KOf KX) := by
      dsimp only [L2.KOf]
      refine' FF.mk_HANDED_OVER ?a0 ?l0
      (case a0 => k_is); (case l0 => k_is)
    have h_NOT_THERE : FF.X_NOT_THERE (L2.KOf KX) := by
      dsimp only [L2.KOf]
      refine' FF.mk_NOT_THERE ?a
      (case a => k_is)
    have h_ALL_MEASURED : FF.X_ALL_MEASURED (L2.KOf KX) := by
      dsimp only [L2.KOf]
      refine' FF.mk_ALL_MEASURED ?a
      (case a => k_is)
    have h_BUSY : FF.X_BUSY (L2.KOf KX) := by
      dsimp only [L2.KOf]
      refine' FF.mk_BUSY ?a
      (case a => k_is)
    have h_MEASURED_ALREADY : FF.X_MEASURED_ALREADY (L2.KOf KX) := by
      dsimp only [L2.KOf]
      refine' FF.mk_MEASURED_ALREADY ?a
      (case a => k_is)
    have h_NOT_VALID : FF.X_NOT_VALID (L2.KOf KX) := by
      dsimp only [L2.KOf]
      refine' FF.mk_NOT_VALID ?a
      (case a => k_is)
    have h_FULL : FF.X_FULL (L2.KOf KX) := by
      dsimp only [L2.KOf]
      refine' FF.mk_FULL ?a
      (case a => k_is)
    have h_NO_WAY : FF.X_NO_WAY (L2.KOf KX) := by
      dsimp only [L2.KOf]
      refine' FF.mk_NO_WAY ?a
      (case a => k_is)
    have h_MOST_INPUTS : FF.X_MOST_INPUTS (L2.KOf KX) := by
      dsimp only [L2.KOf]
      refine' FF.mk_MOST_INPUTS ?a
      (case a => k_is)
    have h_MOST_GATES : FF.X_MOST_GATES (L2.KOf KX) := by
      dsimp only [L2.KOf]
      refine' FF.mk_MOST_GATES ?a
      (case a => k_is)
    have h_MOST_TESTS : FF.X_MOST_TESTS (L2.KOf KX) := by
      dsimp only [L2.KOf]
      refine' FF.mk_MOST_TESTS ?a
      (case a => k_is)
    have h_GIVES : FF.X_GIVES (L2.KOf KX) := by
      dsimp only [L2.KOf]
      refine' FF.mk_GIVES ?a0 ?la ?l0 ?l1 ?l2 ?l3 ?l4
      (case a0 => k_is); (case la => k_is); (case l0 => k_is); (case l1 => k_is); (case l2 => k_is); (case l3 => k_is); (case l4 => k_is)
    have h_Gate : FF.X_Gate (L2.KOf KX) := by
      dsimp only [L2.KOf]
      refine' FF.mk_Gate ?aC ?a0 ?i0 ?l0 ?c0 ?k0 ?a1 ?i1 ?l1 ?c1 ?k1 ?pg ?hd ?po ?sa ?mk ?kc ?n_kind ?n_a ?n_b
      (case aC => k_is); (case a0 => k_is); (case i0 => k_is); (case l0 => k_is); (case c0 => k_is); (case k0 => k_is); (case a1 => k_is); (case i1 => k_is); (case l1 => k_is); (case c1 => k_is); (case k1 => k_is); (case pg => k_is); (case hd => k_is); (case po => k_is); (case sa => k_is); (case mk => k_is); (case kc => k_is); (case n_kind => k_is); (case n_a => k_is); (case n_b => k_is)
    have h_Way : FF.X_Way (L2.KOf KX) := by
      dsimp only [L2.KOf]
      refine' FF.mk_Way ?aC ?a0 ?i0 ?l0 ?c0 ?k0 ?pg ?hd ?po ?sa ?mk ?kc ?n_wrong ?n_gave
      (case aC => k_is); (case a0 => k_is); (case i0 => k_is); (case l0 => k_is); (case c0 => k_is); (case k0 => k_is); (case pg => k_is); (case hd => k_is); (case po => k_is); (case sa => k_is); (case mk => k_is); (case kc => k_is); (case n_wrong => k_is); (case n_gave => k_is)
    have h_Test : FF.X_Test (L2.KOf KX) := by
      dsimp only [L2.KOf]
      refine' FF.mk_Test ?aC ?a0 ?i0 ?l0 ?c0 ?k0 ?a1 ?i1 ?l1 ?c1 ?k1 ?a2 ?i2 ?l2 ?c2 ?k2 ?a3 ?i3 ?l3 ?c3 ?k3 ?pg ?hd ?po ?sa ?mk ?kc ?n_ways ?n_measured
      (case aC => k_is); (case a0 => k_is); (case i0 => k_is); (case l0 => k_is); (case c0 => k_is); (case k0 => k_is); (case a1 => k_is); (case i1 => k_is); (case l1 => k_is); (case c1 => k_is); (case k1 => k_is); (case a2 => k_is); (case i2 => k_is); (case l2 => k_is); (case c2 => k_is); (case k2 => k_is); (case a3 => k_is); (case i3 => k_is); (case l3 => k_is); (case c3 => k_is); (case k3 => k_is); (case pg => k_is); (case hd => k_is); (case po => k_is); (case sa => k_is); (case mk => k_is); (case kc => k_is); (case n_ways => k_is); (case n_measured => k_is)
    have h_Circuit : FF.X_Circuit (L2.KOf KX) := by
      dsimp only [L2.KOf]
      refine' FF.mk_Circuit ?aC ?a0 ?i0 ?l0 ?c0 ?k0 ?a1 ?i1 ?l1 ?c1 ?k1 ?a2 ?i2 ?l2 ?c2 ?k2 ?a3 ?i3 ?l3 ?c3 ?k3 ?a4 ?i4 ?l4 ?c4 ?k4 ?a5 ?i5 ?l5 ?c5 ?k5 ?a6 ?i6 ?l6 ?c6 ?k6 ?a7 ?i7 ?l7 ?c7 ?k7 ?a8 ?i8 ?l8 ?c8 ?k8 ?a9 ?i9 ?l9 ?c9 ?k9 ?a10 ?i10 ?l10 ?c10 ?k10 ?a11 ?i11 ?l11 ?c11 ?k11 ?a12 ?i12 ?l12 ?c12 ?k12 ?a13 ?i13 ?l13 ?c13 ?k13 ?a14 ?i14 ?l14 ?c14 ?k14 ?pg ?hd ?po ?sa ?mk ?kc ?n_inputs ?n_gates ?n_tests
      (case aC => k_is); (case a0 => k_is); (case i0 => k_is); (case l0 => k_is); (case c0 => k_is); (case k0 => k_is); (case a1 => k_is); (case i1 => k_is); (case l1 => k_is); (case c1 => k_is); (case k1 => k_is); (case a2 => k_is); (case i2 => k_is); (case l2 => k_is); (case c2 => k_is); (case k2 => k_is); (case a3 => k_is); (case i3 => k_is); (case l3 => k_is); (case c3 => k_is); (case k3 => k_is); (case a4 => k_is); (case i4 => k_is); (case l4 => k_is); (case c4 => k_is); (case k4 => k_is); (case a5 => k_is); (case i5 => k_is); (case l5 => k_is); (case c5 => k_is); (case k5 => k_is); (case a6 => k_is); (case i6 => k_is); (case l6 => k_is); (case c6 => k_is); (case k6 => k_is); (case a7 => k_is); (case i7 => k_is); (case l7 => k_is); (case c7 => k_is); (case k7 => k_is); (case a8 => k_is); (case i8 => k_is); (case l8 => k_is); (case c8 => k_is); (case k8 => k_is); (case a9 => k_is); (case i9 => k_is); (case l9 => k_is); (case c9 => k_is); (case k9 => k_is); (case a10 => k_is); (case i10 => k_is); (case l10 => k_is); (case c10 => k_is); (case k10 => k_is); (case a11 => k_is); (case i11 => k_is); (case l11 => k_is); (case c11 => k_is); (case k11 => k_is); (case a12 => k_is); (case i12 => k_is); (case l12 => k_is); (case c12 => k_is); (case k12 => k_is); (case a13 => k_is); (case i13 => k_is); (case l13 => k_is); (case c13 => k_is); (case k13 => k_is); (case a14 => k_is); (case i14 => k_is); (case l14 => k_is); (case c14 => k_is); (case k14 => k_is); (case pg => k_is); (case hd => k_is); (case po => k_is); (case sa => k_is); (case mk => k_is); (case kc => k_is); (case n_inputs => k_is); (case n_gates => k_is); (case n_tests => k_is)
    have h_bit_of : FF.X_bit_of (L2.KOf KX) := by
      dsimp only [L2.KOf]
      refine' FF.mk_bit_of ?a0 ?l0 ?c0 ?k0
      (case a0 => k_is); (case l0 => k_is); (case c0 => k_is); (case k0 => k_is)
    have h_has_bit_from : FF.X_has_bit_from (L2.KOf KX) := by
      dsimp only [L2.KOf]
      refine' FF.mk_has_bit_from ?a0 ?l0 ?c0 ?k0
      (case a0 => k_is); (case l0 => k_is); (case c0 => k_is); (case k0 => k_is)
    have h_gates_of : FF.X_gates_of (L2.KOf KX) := by
      dsimp only [L2.KOf]
      refine' FF.mk_gates_of ?a0 ?l0 ?c0 ?k0
      (case a0 => k_is); (case l0 => k_is); (case c0 => k_is); (case k0 => k_is)
    have h_parts_lacking_one : FF.X_parts_lacking_one (L2.KOf KX) := by
      dsimp only [L2.KOf]
      refine' FF.mk_parts_lacking_one ?a0 ?l0 ?c0 ?k0
      (case a0 => k_is); (case l0 => k_is); (case c0 => k_is); (case k0 => k_is)
    have h_how_many_gates : FF.X_how_many_gates (L2.KOf KX) := by
      dsimp only [L2.KOf]
      refine' FF.mk_how_many_gates ?a0 ?l0 ?c0 ?k0
      (case a0 => k_is); (case l0 => k_is); (case c0 => k_is); (case k0 => k_is)
    have h_least_of : FF.X_least_of (L2.KOf KX) := by
      dsimp only [L2.KOf]
      refine' FF.mk_least_of ?a0 ?l0 ?c0 ?k0
      (case a0 => k_is); (case l0 => k_is); (case c0 => k_is); (case k0 => k_is)
    have h_could_give : FF.X_could_give (L2.KOf KX) := by
      dsimp only [L2.KOf]
      refine' FF.mk_could_give ?a0 ?l0 ?c0 ?k0
      (case a0 => k_is); (case l0 => k_is); (case c0 => k_is); (case k0 => k_is)
    have h_counts_left : FF.X_counts_left (L2.KOf KX) := by
      dsimp only [L2.KOf]
      refine' FF.mk_counts_left ?a0 ?l0 ?c0 ?k0
      (case a0 => k_is); (case l0 => k_is); (case c0 => k_is); (case k0 => k_is)
    have h_greater_count : FF.X_greater_count (L2.KOf KX) := by
      dsimp only [L2.KOf]
      refine' FF.mk_greater_count ?a0 ?l0 ?c0 ?k0
      (case a0 => k_is); (case l0 => k_is); (case c0 => k_is); (case k0 => k_is)
    have h_counted : FF.X_counted (L2.KOf KX) := by
      dsimp only [L2.KOf]
      refine' FF.mk_counted ?a0 ?l0 ?c0 ?k0
      (case a0 => k_is); (case l0 => k_is); (case c0 => k_is); (case k0 => k_is)
    have h_answer : FF.X_answer (L2.KOf KX) := by
      dsimp only [L2.KOf]
      refine' FF.mk_answer ?a0 ?l0 ?c0 ?k0
      (case a0 => k_is); (case l0 => k_is); (case c0 => k_is); (case k0 => k_is)
    have h_answers : FF.X_answers (L2.KOf KX) := by
      dsimp only [L2.KOf]
      refine' FF.mk_answers ?a0 ?l0 ?c0 ?k0
      (case a0 => k_is); (case l0 => k_is); (case c0 => k_is); (case k0 => k_is)
    have h_none : FF.X_none (L2.KOf KX) := by
      dsimp only [L2.KOf]
      refine' ⟨?z0, ?z1, ?z2, ?z3, ?z4, ?z5, ?z6, ?z7⟩
      (case z0 => k_is); (case z1 => k_is); (case z2 => k_is); (case z3 => k_is); (case z4 => k_is); (case z5 => k_is); (case z6 => k_is); (case z7 => k_is)
    exact FF.all_ok KX G hmg h_BEGIN h_GATE h_TEST h_SEEN h_EXPLAINS h_LEAST h_SUSPECTS h_SURE h_MAY h_HANDED_OVER h_NOT_THERE h_ALL_MEASURED h_BUSY h_MEASURED_ALREADY h_NOT_VALID h_FULL h_NO_WAY h_MOST_INPUTS h_MOST_GATES h_MOST_TESTS h_GIVES h_Gate h_Way h_Test h_Circuit h_bit_of h_has_bit_from h_gates_of h_parts_lacking_one h_how_many_gates h_least_of h_could_give h_counts_left h_greater_count h_counted h_answer h_answers h_none
  case S =>
    intro K H xs a hO hwi hask hx
    cases hx with
    | cons h1 h2 =>
      cases h2
      cases h1 with
      | lst hs ha =>
        have e := L2.ints_dw a.1 _ ha
        subst e
        have q : ((Codec.inLen 0 30000 a.1 && a.1.all (Codec.inInt 0 4294967295)) && true) = true := hwi
        rw [Bool.and_eq_true, Bool.and_eq_true] at q
        refine ⟨_, a.1, rfl, hs, hask, fun z hz => ?_, fun H' p hp => .lst (L2.SqL.of hp) (L2.dw_ints _)⟩
        have q2 := List.all_eq_true.mp q.1.2 z hz
        exact (Codec.inInt_iff.mp q2).1
#print axioms PySem.Challenge.cw_faultfinder_s01_answers_holds
