import PyProof.Rows.All
import Wide.All
import OpenK.AllK
import Wide.FinOn
import PyProof.EqAt
import PyProof.EqKinds
import PyProof.TupleCall
import KE.BitLaws
import KE.KDictSum
import PyProof.Rows.SortShellAny
import PyProof.Rows.SetFrom
import PyProof.Rows.InDataRows
import KE.OsGo
import Open.SpecLaws
import PySem.Challenge.RW_judgebench_s02_judge
set_option Elab.async false
set_option linter.all false
set_option maxRecDepth 100000
section J0_
namespace L2
open PySem PySem.Spec PyProof.Rows
abbrev Key := Sum Int Str
def keyIs : Key → Value → Bool
  | .inl k, v => Value.isInt k v
  | .inr x, v => Value.isStrOf x v
def keyH (w : World) : Key → Int
  | .inl k => hashInt k
  | .inr x => hashStr w x
theorem keyIs_shape : ∀ {k : Key} {v : Value}, keyIs k v = true → (∃ i t, k = Sum.inl i ∧ v = Value.int i t) ∨ (∃ x t, k = Sum.inr x ∧ v = Value.str x t)
  | .inl i, v, h => by
    obtain ⟨t, e⟩ := Value.isInt_shape (k := i) (v := v) h
    exact .inl ⟨i, t, rfl, e⟩
  | .inr x, v, h => by
    obtain ⟨t, e⟩ := Value.isStrOf_shape (x := x) (v := v) h
    exact .inr ⟨x, t, rfl, e⟩
theorem keyIs_int (i : Int) (t : Tok) : keyIs (.inl i) (.int i t) = true := by simp [keyIs, Value.isInt]
theorem keyIs_str (x : Str) (t : Tok) : keyIs (.inr x) (.str x t) = true := by simp [keyIs, Value.isStrOf]
theorem key_ll (a b : Int) : decide ((Sum.inl a : Key) = Sum.inl b) = (a == b) := by
  by_cases e : a = b
  · subst e; simp
  · have h : ¬ (Sum.inl a : Key) = Sum.inl b := fun q => e (Sum.inl.inj q)
    rw [decide_eq_false h]
    exact (beq_eq_false_iff_ne.mpr e).symm
theorem key_rr (a b : Str) : decide ((Sum.inr a : Key) = Sum.inr b) = decide (a = b) := by
  by_cases e : a = b
  · subst e; simp
  · have h : ¬ (Sum.inr a : Key) = Sum.inr b := fun q => e (Sum.inr.inj q)
    rw [decide_eq_false h, decide_eq_false e]
theorem key_lr (a : Int) (b : Str) : decide ((Sum.inl a : Key) = Sum.inr b) = false := decide_eq_false (fun q => nomatch q)
theorem key_rl (a : Str) (b : Int) : decide ((Sum.inr a : Key) = Sum.inl b) = false := decide_eq_false (fun q => nomatch q)
def mixKind (prog : Program) (w : World) : PySem.KeyKind prog w Key where
  is := keyIs
  hash := keyH w
  inj := fun v a b ha hb => by
    rcases keyIs_shape ha with ⟨i, t, rfl, rfl⟩ | ⟨x, t, rfl, rfl⟩
    · rcases keyIs_shape hb with ⟨j, u, rfl, e⟩ | ⟨y, u, rfl, e⟩
      · injection e with e1 _; rw [e1]
      · exact nomatch e
    · rcases keyIs_shape hb with ⟨j, u, rfl, e⟩ | ⟨y, u, rfl, e⟩
      · exact nomatch e
      · injection e with e1 _; rw [e1]
  byValue := fun k v h => by
    rcases keyIs_shape h with ⟨i, t, rfl, rfl⟩ | ⟨x, t, rfl, rfl⟩ <;> rfl
  pyHash := fun hv h => by
    rcases keyIs_shape hv with ⟨i, t, rfl, rfl⟩ | ⟨x, t, rfl, rfl⟩
    · exact wpAny_pyHash_int h
    · exact wpAny_pyHash_str h
  eqBool := fun hu hv h => by
    rcases keyIs_shape hu with ⟨i, t, rfl, rfl⟩ | ⟨x, t, rfl, rfl⟩
    · rcases keyIs_shape hv with ⟨j, u, rfl, rfl⟩ | ⟨y, u, rfl, rfl⟩
      · rw [key_ll] at h; exact wpAny_eqBool_int h
      · rw [key_lr] at h; exact SeqAt.EqAt.int_str i t y u _ _ _ _ h
    · rcases keyIs_shape hv with ⟨j, u, rfl, rfl⟩ | ⟨y, u, rfl, rfl⟩
      · rw [key_rl] at h; exact SeqAt.EqAt.str_int x t j u _ _ _ _ h
      · rw [key_rr] at h; exact wpAny_eqBool_str h
  «strs» := fun k x t v h => by
    rcases keyIs_shape h with ⟨i, u, rfl, e⟩ | ⟨y, u, rfl, e⟩
    · exact nomatch e
    · injection e with e1 _
      subst e1
      cases v <;> rfl
theorem mixKind_int (prog : Program) (w : World) (i : Int) (t : Tok) : (mixKind prog w).is (.inl i) (.int i t) = true := keyIs_int i t
theorem mixKind_str (prog : Program) (w : World) (x : Str) (t : Tok) : (mixKind prog w).is (.inr x) (.str x t) = true := keyIs_str x t
end L2
namespace L2
open PySem PySem.Spec PyProof.Rows
inductive V where
  | non | bl (b : Bool) | int (i : Int) | str (x : Str) | byt (b : Array UInt8) | flt (b : UInt64) | ref (a : Addr) | ty (n : String)
  deriving DecidableEq
def RelV : V → Value → Prop
  | .non, u => u = Value.none
  | .bl b, u => u = Value.bool b
  | .int i, u => ∃ t, u = Value.int i t
  | .str x, u => ∃ t, u = Value.str x t
  | .byt b, u => ∃ t, u = Value.bytes b t
  | .flt b, u => ∃ t, u = Value.float b t
  | .ref a, u => u = Value.ref a
  | .ty n, u => u = Value.type n
abbrev Vals : List V → List Value → Prop := Paired RelV
theorem Vals.length {xs : List V} {us : List Value} (r : Vals xs us) : xs.length = us.length := Paired.length r
theorem Vals.get : ∀ {xs : List V} {us : List Value} {i : Nat} {x : V}, Vals xs us → xs[i]? = some x → ∃ u, us[i]? = some u ∧ RelV x u
  | _, _, _, _, .nil, e => by simp at e
  | _, _, 0, _, .cons r _, e => by simp at e; subst e; exact ⟨_, rfl, r⟩
  | _, _, i + 1, x, .cons _ t, e => by
    obtain ⟨u, h1, h2⟩ := Vals.get (i := i) (x := x) t (by simpa using e)
    exact ⟨u, by simpa using h1, h2⟩
theorem Vals.set {x : V} {u : Value} (r : RelV x u) : ∀ {xs : List V} {us : List Value} (i : Nat), Vals xs us → Vals (xs.set i x) (us.set i u)
  | _, _, _, .nil => .nil
  | _, _, 0, .cons _ t => .cons r t
  | _, _, i + 1, .cons q t => .cons q (Vals.set r i t)
theorem Vals.append : ∀ {xs ys : List V} {us ws : List Value}, Vals xs us → Vals ys ws → Vals (xs ++ ys) (us ++ ws)
  | _, _, _, _, .nil, s => s
  | _, _, _, _, .cons r t, s => .cons r (Vals.append t s)
theorem Vals.take : ∀ {xs : List V} {us : List Value} (n : Nat), Vals xs us → Vals (xs.take n) (us.take n)
  | _, _, 0, _ => .nil
  | _, _, _ + 1, .nil => .nil
  | _, _, n + 1, .cons r t => .cons r (Vals.take n t)
theorem Vals.drop : ∀ {xs : List V} {us : List Value} (n : Nat), Vals xs us → Vals (xs.drop n) (us.drop n)
  | _, _, 0, r => r
  | _, _, _ + 1, .nil => .nil
  | _, _, n + 1, .cons _ t => Vals.drop n t
def RelO : Option V → Option Value → Prop
  | some v, some u => RelV v u
  | none, none => True
  | _, _ => False
def KV {κ : Type} : List (κ × V) → List (κ × Value) → Prop := Paired fun (p : κ × V) (q : κ × Value) => p.1 = q.1 ∧ RelV p.2 q.2
def kV : Key → V
  | .inl i => .int i
  | .inr x => .str x
inductive HO where
  /-- a list -/
  | lst (xs : List V)
  /-- a tuple (never changes) -/
  | tup (xs : List V)
  /-- a dict whose keys are ints and texts; one whose keys are tuples of ints and texts (the empty one is both) -/
  | dK (kvs : List (Key × V)) | dT (kvs : List (List Key × V))
  /-- a set of ints: its members, its size -/
  | set (S : Int → Bool) (n : Nat)
  /-- an instance of the class at C, its dict at dx, its attributes -/
  | ins (C dx : Addr) (fs : List (Str × V))
  /-- the dict of the instance at x -/
  | own (x : Addr)
  /-- the dict of an exception -/
  | xd (fs : List (Str × V))
  /-- a bound method, f of x -/
  | met (f x : Addr)
  /-- a range object lo, lo + 1, .. below hi -/
  | rng (lo hi : Int)
  /-- a thing that is known to the object (the script; a dict while a loop walks it): read, never written while it is so -/
  | frz (o : Obj) (u : HO)
  /-- a code object's table -/
  | tbl (ps : Array Value)
  /-- any other thing, by what is true of its one object (a def of one's own: SetO a S n := HO.ext fun h => ..) -/
  | ext (φ : Heap → Prop)
abbrev Hp := Addr → Option HO
def upd (H : Hp) (a : Addr) (o : HO) : Hp := fun b => if b = a then some o else H b
theorem upd_same {H : Hp} {a : Addr} {o : HO} : upd H a o a = some o := by unfold upd; rw [if_pos rfl]
theorem upd_ne {H : Hp} {a b : Addr} {o : HO} (h : b ≠ a) : upd H a o b = H b := by unfold upd; rw [if_neg h]
theorem upd_upd {H : Hp} {a : Addr} {o u : HO} : upd (upd H a o) a u = upd H a u := by
  funext b; unfold upd; split <;> rfl
theorem ne_of {H : Hp} {a b : Addr} {o u : HO} (h : H a = some o) (h' : H b = some u) (d : o ≠ u) : a ≠ b := by
  intro e; subst e; rw [h] at h'; exact d (Option.some.inj h')
theorem ne_of_none {H : Hp} {a b : Addr} {o : HO} (h : H a = some o) (h' : H b = none) : a ≠ b := by
  intro e; subst e; rw [h] at h'; cases h'
section
variable (P : Program) (w : World)
def ObjOk (H : Hp) (h : Heap) (a : Addr) : HO → Prop
  | .lst xs => xs.length ≤ sizeLine ∧ ∃ (its : List Value) (n : Nat), Vals xs its ∧ h.get? a = some { cls := .type "list", data := .seq its.toArray n }
  | .tup xs => xs.length ≤ sizeLine ∧ ∃ its : List Value, Vals xs its ∧ IsTup h a its.toArray
  | .dK kvs => kvs.length ≤ sizeLine ∧ (a == sysModules) = false ∧ ∃ vs, KV kvs vs ∧ h.DictOf (mixKind P w) a vs
  | .dT kvs => kvs.length ≤ sizeLine ∧ (a == sysModules) = false ∧ ∃ xs : List (List Key × Addr × Value),
      Paired (fun (p : List Key × V) (q : List Key × Addr × Value) => p.1 = q.1 ∧ H q.2.1 = some (.tup (p.1.map kV)) ∧ RelV p.2 q.2.2) kvs xs ∧
      ∃ o es ep, h.get? a = some o ∧ o.ExactDict ∧ o.data = .dict es ep ∧ es.toList = xs.map (entryOfKey (tupleKind (mixKind P w))) ∧ (xs.map (·.1)).Nodup
  | .set S n => h.SetOf (intKind P w) a S n
  | .ins C dx fs => H dx = some (.own a) ∧ fs.length ≤ 1000 ∧ dx ≠ a ∧ h.get? a = some (PySem.W.instObj C dx) ∧
      ∃ mA, h.Ns1 dx mA ∧ (∀ f, RelO (fs.lookup f) (mA f)) ∧ PySem.Within mA (fs.map (·.1))
  | .own _ => ∃ o, h.get? a = some o
  | .xd fs => ∃ mA, h.Ns1 a mA ∧ ∀ f, RelO (fs.lookup f) (mA f)
  | .rng lo hi => ∃ t u v, h.get? a = some { cls := .type "range", data := .fields #[.int lo t, .int hi u, .int 1 v] }
  | .frz o u => h.get? a = some o ∧ ObjOk H h a u
  | .tbl ps => h.get? a = some { cls := .none, data := .fields ps }
  | .met f x => h.get? a = some (PySem.W.methodObj (.ref f) (.ref x))
  | .ext φ => φ h ∧ (∃ o, h.get? a = some o) ∧ ∀ h1 h2 : Heap, φ h1 → (∀ o, h1.get? a = some o → h2.get? a = some o) → φ h2
def HOk (H : Hp) (h : Heap) : Prop := ∀ a o, H a = some o → ObjOk P w H h a o
end
section
variable {P : Program} {w : World} {H H' : Hp} {h h' : Heap} {a : Addr} {o : HO}
theorem ObjOk.lt (x : ObjOk P w H h a o) : a < h.objs.size := by
  cases o with
  | lst xs => obtain ⟨_, _, _, _, e⟩ := x; exact Heap.lt_size e
  | tup xs => obtain ⟨_, _, _, p⟩ := x; exact p.lt
  | dK kvs => obtain ⟨_, _, _, _, o, _, _, e, _⟩ := x; exact Heap.lt_size e
  | dT kvs => obtain ⟨_, _, _, _, o, _, _, e, _⟩ := x; exact Heap.lt_size e
  | set S n => obtain ⟨o, _, _, _, e, _⟩ := x; exact Heap.lt_size e
  | ins C dx fs => obtain ⟨_, _, _, e, _⟩ := x; exact Heap.lt_size e
  | own y => obtain ⟨_, e⟩ := x; exact Heap.lt_size e
  | xd fs => obtain ⟨_, ⟨_, _, _, e, _⟩, _⟩ := x; exact Heap.lt_size e
  | rng lo hi => obtain ⟨_, _, _, e⟩ := x; exact Heap.lt_size e
  | frz ob u => obtain ⟨e, _⟩ := x; exact Heap.lt_size e
  | tbl ps => exact Heap.lt_size (show h.get? a = some _ from x)
  | met f y => exact Heap.lt_size (show h.get? a = some _ from x)
  | ext φ => obtain ⟨_, ⟨_, e⟩, _⟩ := x; exact Heap.lt_size e
theorem Paired.mapP {α β : Type} {F G : α → β → Prop} : ∀ {l₁ : List α} {l₂ : List β}, Paired F l₁ l₂ → (∀ a b, F a b → G a b) → Paired G l₁ l₂
  | _, _, .nil, _ => .nil
  | _, _, .cons r t, f => .cons (f _ _ r) (Paired.mapP t f)
theorem ObjOk.stay (x : ObjOk P w H h a o) (k : ∀ b u, (b = a ∨ H b = some (.own a)) → h.get? b = some u → h'.get? b = some u)
    (ho : ∀ b, H b = some (.own a) → H' b = some (.own a)) (ht : ∀ b xs, H b = some (.tup xs) → H' b = some (.tup xs)) : ObjOk P w H' h' a o := by
  induction o with
  | lst xs => obtain ⟨z, its, n, r, e⟩ := x; exact ⟨z, its, n, r, k _ _ (.inl rfl) e⟩
  | tup xs => obtain ⟨z, its, r, ob, e, c⟩ := x; exact ⟨z, its, r, ob, k _ _ (.inl rfl) e, c⟩
  | dK kvs => obtain ⟨z, y, vs, r, ob, es, ep, e, c⟩ := x; exact ⟨z, y, vs, r, ob, es, ep, k _ _ (.inl rfl) e, c⟩
  | dT kvs =>
    obtain ⟨z, y, xs, r, ob, es, ep, e, c⟩ := x
    exact ⟨z, y, xs, Paired.mapP r fun p q z => ⟨z.1, ht _ _ z.2.1, z.2.2⟩, ob, es, ep, k _ _ (.inl rfl) e, c⟩
  | set S n => obtain ⟨ob, es, ep, t, e, c⟩ := x; exact ⟨ob, es, ep, t, k _ _ (.inl rfl) e, c⟩
  | ins C dx fs =>
    obtain ⟨d, z, ne, e, mA, ⟨od, es, ep, e2, c⟩, r⟩ := x
    exact ⟨ho _ d, z, ne, k _ _ (.inl rfl) e, mA, ⟨od, es, ep, k _ _ (.inr d) e2, c⟩, r⟩
  | own y => obtain ⟨ob, e⟩ := x; exact ⟨ob, k _ _ (.inl rfl) e⟩
  | xd fs => obtain ⟨mA, ⟨od, es, ep, e, c⟩, r⟩ := x; exact ⟨mA, ⟨od, es, ep, k _ _ (.inl rfl) e, c⟩, r⟩
  | rng lo hi => obtain ⟨t, u, v, e⟩ := x; exact ⟨t, u, v, k _ _ (.inl rfl) e⟩
  | frz ob u ih => obtain ⟨e, q⟩ := x; exact ⟨k _ _ (.inl rfl) e, ih q⟩
  | tbl ps =>
    have e : h.get? a = some { cls := .none, data := .fields ps } := x
    show h'.get? a = some { cls := .none, data := .fields ps }
    exact k a _ (.inl rfl) e
  | met f y =>
    have e : h.get? a = some (PySem.W.methodObj (.ref f) (.ref y)) := x
    show h'.get? a = some (PySem.W.methodObj (.ref f) (.ref y))
    exact k a _ (.inl rfl) e
  | ext φ => obtain ⟨p, ⟨o, e⟩, st⟩ := x; exact ⟨st _ _ p fun o q => k _ _ (.inl rfl) q, ⟨o, k _ _ (.inl rfl) e⟩, st⟩
theorem HOk.lt (x : HOk P w H h) (e : H a = some o) : a < h.objs.size := (x a o e).lt
theorem HOk.fresh (x : HOk P w H h) (e : h.objs.size ≤ a) : H a = none := by
  cases q : H a with
  | none => rfl
  | some u => exact absurd (Nat.lt_of_lt_of_le (x.lt q) e) (Nat.lt_irrefl _)
theorem HOk.kept (x : HOk P w H h) (k : ∀ b u, h.get? b = some u → h'.get? b = some u) : HOk P w H h' := fun a o e =>
  (x a o e).stay (fun b u _ q => k b u q) (fun _ q => q) fun _ _ q => q
theorem HOk.laid (x : HOk P w H h) (k : ∀ b u, h.get? b = some u → h'.get? b = some u) (hp : h.objs.size ≤ a) (new : ObjOk P w (upd H a o) h' a o) : HOk P w (upd H a o) h' := fun b u e => by
  have hn := x.fresh hp
  by_cases hb : b = a
  · subst hb; rw [upd_same] at e; cases e; exact new
  · rw [upd_ne hb] at e
    exact (x b u e).stay (fun c v _ q => k c v q) (fun c q => by rw [upd_ne (ne_of_none q hn)]; exact q) fun c xs q => by rw [upd_ne (ne_of_none q hn)]; exact q
end
def Rd (H : Hp) (a : Addr) (u : HO) : Prop := H a = some u ∨ ∃ o, H a = some (.frz o u)
theorem Rd.ok {P : Program} {w : World} {H : Hp} {h : Heap} {a : Addr} {u : HO} (r : Rd H a u) (x : HOk P w H h) : ObjOk P w H h a u := by
  rcases r with r | ⟨o, r⟩
  · exact x a u r
  · obtain ⟨_, q⟩ := x a _ r
    exact q
def Mut : Option HO → Prop
  | some (.lst _) => True
  | some (.dK _) => True
  | some (.dT _) => True
  | some (.set _ _) => True
  | some (.ins _ _ _) => True
  | some (.ext _) => True
  | _ => False
section
variable {P : Program} {w : World} {H : Hp} {h h' : Heap} {x e : Addr} {o' : HO}
theorem HOk.write (ok : HOk P w H h) (mu : Mut (H x)) (he : e = x ∨ H e = some (.own x)) (k : ∀ b u, b ≠ e → h.get? b = some u → h'.get? b = some u) (heo : ∃ u, h'.get? e = some u)
    (new : ObjOk P w (upd H x o') h' x o') : HOk P w (upd H x o') h' := fun b u q => by
  have nown : ∀ c y, H c = some (.own y) → c ≠ x := fun c y r z => by subst z; rw [r] at mu; exact mu
  have ntup : ∀ c xs, H c = some (.tup xs) → c ≠ x := fun c xs r z => by subst z; rw [r] at mu; exact mu
  by_cases hb : b = x
  · subst hb; rw [upd_same] at q; cases q; exact new
  · rw [upd_ne hb] at q
    by_cases hbe : b = e
    · have q' : H b = some (.own x) := by
        rcases he with z | z
        · exact absurd (hbe.trans z) hb
        · rw [hbe]; exact z
      rw [q] at q'; cases q'
      obtain ⟨v, hv⟩ := heo
      exact ⟨v, by rw [hbe]; exact hv⟩
    · refine (ok b u q).stay (fun c v hc r => k c v ?_ r) (fun c r => by rw [upd_ne (nown c b r)]; exact r) fun c xs r => by rw [upd_ne (ntup c xs r)]; exact r
      rcases hc with rfl | hc
      · exact hbe
      · rintro rfl
        rcases he with z | z
        · exact nown c b hc z
        · rw [hc] at z; cases z; exact hb rfl
end
structure Un (fs ex : List Addr) (H H' : Hp) (h h' : Heap) : Prop where
  keep : ∀ b o, h.get? b = some o → H b = none → b ∉ fs → b ∉ ex → h'.get? b = some o
  slot : ∀ b o, h.get? b = some o → H b = none → b ∈ fs → b ∉ ex → ∃ sl, h'.get? b = some { o with slots := sl }
  free : ∀ b o, h.get? b = some o → H b = none → b ∉ ex → H' b = none
  there : ∀ b o, h.get? b = some o → b ∉ ex → ∃ o', h'.get? b = some o'
  tups : ∀ b xs, H b = some (.tup xs) → H' b = some (.tup xs)
  frzs : ∀ b o u, H b = some (.frz o u) → H' b = some (.frz o u)
  tbls : ∀ b ps, H b = some (.tbl ps) → ∃ more, H' b = some (.tbl (ps ++ more))
section
variable {fs fs' ex ex' : List Addr} {H H1 H2 : Hp} {h h1 h2 h' : Heap} {a x e : Addr} {o : HO}
theorem Un.any (u : Un fs ex H H1 h h1) {b : Addr} {ob : Obj} (q : h.get? b = some ob) (n : H b = none) (hx : b ∉ ex) : ∃ sl, h1.get? b = some { ob with slots := sl } := by
  by_cases hb : b ∈ fs
  · exact u.slot b ob q n hb hx
  · exact ⟨ob.slots, u.keep b ob q n hb hx⟩
theorem Un.kept (k : ∀ b u, h.get? b = some u → h'.get? b = some u) : Un fs ex H H h h' :=
  ⟨fun b ob q _ _ _ => k b ob q, fun b ob q _ _ _ => ⟨ob.slots, k b ob q⟩, fun _ _ _ n _ => n, fun b ob q _ => ⟨ob, k b ob q⟩, fun _ _ q => q, fun _ _ _ q => q, fun _ ps q => ⟨#[], by rw [q]; simp⟩⟩
theorem Un.refl : Un fs ex H H h h := Un.kept fun _ _ q => q
theorem Un.laid (k : ∀ b u, h.get? b = some u → h'.get? b = some u) (hp : h.objs.size ≤ a) (hn : H a = none) : Un fs ex H (upd H a o) h h' where
  keep := fun b u q _ _ _ => k b u q
  slot := fun b u q _ _ _ => ⟨u.slots, k b u q⟩
  free := fun b u q n _ => by rw [upd_ne (Nat.ne_of_lt (Nat.lt_of_lt_of_le (Heap.lt_size q) hp))]; exact n
  there := fun b u q _ => ⟨u, k b u q⟩
  tups := fun b xs q => by rw [upd_ne (ne_of_none q hn)]; exact q
  frzs := fun b u xs q => by rw [upd_ne (ne_of_none q hn)]; exact q
  tbls := fun b ps q => ⟨#[], by rw [upd_ne (ne_of_none q hn), q]; simp⟩
theorem Un.write (mu : Mut (H x)) (he : e = x ∨ H e = some (.own x)) (k : ∀ b u, b ≠ e → h.get? b = some u → h'.get? b = some u) (heo : ∃ u, h'.get? e = some u) : Un fs ex H (upd H x o) h h' := by
  have hx : ∀ b, H b = none → b ≠ x := fun b n z => by subst z; rw [n] at mu; exact mu
  have hb : ∀ b, H b = none → b ≠ e := fun b n z => by
    subst z
    rcases he with r | r
    · exact hx b n r
    · rw [n] at r; cases r
  have hm : ∀ b u, H b = some u → ¬ Mut (some u) → b ≠ x := fun b u q nm z => by subst z; rw [q] at mu; exact nm mu
  refine ⟨fun b u q n _ _ => k b u (hb b n) q, fun b u q n _ _ => ⟨u.slots, k b u (hb b n) q⟩, fun b u q n _ => by rw [upd_ne (hx b n)]; exact n, fun b u q _ => ?_,
    fun b xs q => by rw [upd_ne (hm b _ q fun z => z)]; exact q, fun b u xs q => by rw [upd_ne (hm b _ q fun z => z)]; exact q, fun b ps q => ⟨#[], by rw [upd_ne (hm b _ q fun z => z), q]; simp⟩⟩
  by_cases hbe : b = e
  · subst hbe; exact heo
  · exact ⟨u, k b u hbe q⟩
end
def trk (h : Heap) (H : Hp) : List Addr := (List.range h.objs.size).filter fun a => (H a).isSome
def hidT (h : Heap) (H : Hp) : Heap := PySem.W.hideAll h (trk h H)
theorem hidT_size (h : Heap) (H : Hp) : (hidT h H).objs.size = h.objs.size := PySem.W.hideAll_size _ _
theorem hidT_get {h : Heap} {H : Hp} {b : Addr} {o : Obj} (e : h.get? b = some o) (n : H b = none) : (hidT h H).get? b = some o :=
  PySem.W.hideAll_get _ e fun hm => by
    have q : (H b).isSome = true := (List.mem_filter.mp hm).2
    rw [n] at q; simp at q
theorem of_hidT {h : Heap} {H : Hp} {b : Addr} {o : Obj} (e : (hidT h H).get? b = some o) : h.get? b = some o ∧ H b = none := by
  have e' : h.get? b = some o := PySem.W.of_hideAll (trk h H) e
  refine ⟨e', ?_⟩
  cases q : H b with
  | none => rfl
  | some x =>
    have hm : b ∈ trk h H := List.mem_filter.mpr ⟨List.mem_range.mpr (Heap.lt_size e'), by simp [q]⟩
    have z : (hidT h H).get? b = none := PySem.W.hideAll_none (trk h H) hm
    rw [z] at e; cases e
end L2
namespace L2
open PySem PySem.Spec PyProof.Rows
structure Mod (K : PySem.W.Frag) (mg : Str → Option Value) (base : Heap) : Prop where
  kin : K.In base
  glob : base.Ns mainGlobals mg
  blt : ∃ mb, base.Ns builtinsNs mb ∧ ∀ x : Str, x ≠ "__name__" → mb x = bootBuiltins x
  nolimit : base.NoLimit
/-- the context: a def's body (or a comprehension's block) running. base: fixed through the whole law; s₀, H₀: the entry; outer: the frames whose slots others may change (a def's callers); stack: all frames that run;
   ex: iterators that were made ahead of the entry and are walked here (a comprehension's); fn: the names whose cells were made at the entry (a def: all; a comprehension's block: its own); calm: not within an except suite; pn: pins that every state bears; xe: what is wanted of an exception that leaves the code -/
structure Cx where
  prog : Program
  w : World
  K : PySem.W.Frag
  mg : Str → Option Value
  base : Heap
  A : Around
  N : List Str
  s_0 : Shared
  H_0 : Hp
  env : Env
  outer : List Env
  stack : List Env
  ex : List Addr
  fn : Str → Bool
  calm : Bool
  pn : List (Addr × Obj)
  xe : Value → Shared → Prop
def frs (l : List Env) : List Addr := l.filterMap (·.frame)
abbrev Cx.fs (X : Cx) : List Addr := frs X.outer
def Vis (sc : Scope) (x : Str) : Prop := sc.names.lookup x = some .local ∨ sc.names.lookup x = some .cell ∨ sc.names.lookup x = some .free
def Loc (sc : Scope) (x : Str) : Prop := sc.names.lookup x = some .local ∨ sc.names.lookup x = some .cell
def Look (env : Env) (h : Heap) (m : Str → Option Value) (x : Str) (u : Value) : Prop :=
  (env.kindOf x = some .local ∧ m x = some u) ∨ ((env.kindOf x = some .cell ∨ env.kindOf x = some .free) ∧ ∃ c, env.cells.lookup x = some c ∧ h.IsCell c (some u))
structure Cx.Ok (X : Cx) : Prop where
  mod : Mod X.K X.mg X.base
  kind : X.env.scope.kind = .function
  glob : X.env.globals = mainGlobals
  blt : X.env.builtins = builtinsNs
  above : X.s_0.heap.objs.size ≤ X.env.locals
  inj : ∀ x y c, X.env.cells.lookup x = some c → X.env.cells.lookup y = some c → x = y
  has : ∀ x, (X.env.kindOf x = some .cell ∨ X.env.kindOf x = some .free) → ∃ c, X.env.cells.lookup x = some c
  cab : ∀ x c, X.fn x = true → X.env.cells.lookup x = some c → X.s_0.heap.objs.size ≤ c
  hd : X.calm = true → X.A.handled = none
  frames : X.A.frames = some X.stack
  stk : X.stack = X.outer ∨ (X.stack = X.env :: X.outer ∧ X.env.frame = some X.env.locals)
  exf : ∀ b ∈ X.ex, b ≠ X.env.locals ∧ ∀ x c, X.env.cells.lookup x = some c → c ≠ b
  bs : ∀ b o, X.base.get? b = some o → X.s_0.heap.get? b = some o ∧ X.H_0 b = none
  bsz : X.base.objs.size ≤ X.s_0.heap.objs.size
  noex : ∀ b o, X.base.get? b = some o → b ∉ X.ex
  exfs : ∀ b ∈ X.ex, b ∉ X.fs
  funs : X.s_0.heap.FunFrames X.base X.outer
  frf : ∀ b ∈ X.fs, X.H_0 b = none
structure Inv (X : Cx) (pins : List (Addr × Obj)) (σ : List (Option V)) (H : Hp) (s : Shared) : Prop where
  ok : X.Ok
  os : s.os = X.s_0.os
  bare : AllBare s.gens
  base : Un X.fs X.ex X.H_0 H X.s_0.heap s.heap
  loc : ∃ m, s.heap.Ns X.env.locals m ∧ ∀ (i : Nat) (x : Str) (v : V), X.N[i]? = some x → σ[i]? = some (some v) → Vis X.env.scope x → ∃ u, RelV v u ∧ Look X.env s.heap m x u
  cell : ∀ x c, X.env.cells.lookup x = some c → ∃ v, s.heap.IsCell c v
  free : H X.env.locals = none
  freeC : ∀ x c, X.env.cells.lookup x = some c → H c = none
  pin : ∀ p ∈ X.pn ++ pins, s.heap.get? p.1 = some p.2 ∧ H p.1 = none ∧ p.1 ≠ X.env.locals ∧ p.1 ∉ X.fs ∧ ∀ v, p.2.data ≠ .cell v
  hok : HOk X.prog X.w H s.heap
  len : σ.length = X.N.length
section
variable {X : Cx} {pins : List (Addr × Obj)} {σ : List (Option V)} {H H' : Hp} {s : Shared} {h' : Heap}
theorem Cx.Ok.nofr (ok : X.Ok) {b : Addr} {o : Obj} (e : X.base.get? b = some o) : b ∉ X.fs := fun hb => by
  have := (ok.funs.mem hb).1
  rw [e] at this; cases this
theorem Inv.bs (I : Inv X pins σ H s) : ∀ b o, X.base.get? b = some o → s.heap.get? b = some o ∧ H b = none := fun b o e =>
  ⟨I.base.keep b o (I.ok.bs b o e).1 (I.ok.bs b o e).2 (I.ok.nofr e) (I.ok.noex b o e), I.base.free b o (I.ok.bs b o e).1 (I.ok.bs b o e).2 (I.ok.noex b o e)⟩
theorem Inv.bk (I : Inv X pins σ H s) : ∀ b o, X.base.get? b = some o → s.heap.get? b = some o := fun b o e => (I.bs b o e).1
theorem Inv.mod (I : Inv X pins σ H s) : Mod X.K X.mg X.base := I.ok.mod
theorem Inv.kIn (I : Inv X pins σ H s) : X.K.In s.heap := I.ok.mod.kin.keeps I.bk
theorem Inv.lt (I : Inv X pins σ H s) : X.env.locals < s.heap.objs.size := let ⟨_, hn, _⟩ := I.loc; hn.lt
theorem Inv.sz (I : Inv X pins σ H s) : X.s_0.heap.objs.size ≤ s.heap.objs.size := Nat.le_trans I.ok.above (Nat.le_of_lt I.lt)
theorem Inv.nofs (I : Inv X pins σ H s) {a : Addr} (h : s.heap.objs.size ≤ a) : a ∉ X.fs := fun hb => by
  obtain ⟨_, o, ho, _⟩ := I.ok.funs.mem hb
  exact absurd (Nat.lt_of_lt_of_le (Heap.lt_size ho) (Nat.le_trans I.sz h)) (Nat.lt_irrefl _)
theorem Inv.cne (I : Inv X pins σ H s) : ∀ x c, X.env.cells.lookup x = some c → c ≠ X.env.locals := fun x c e z => by
  obtain ⟨v, o, ho, hd⟩ := I.cell x c e
  obtain ⟨m, ⟨o', es, ep, ho', hd', _⟩, _⟩ := I.loc
  rw [z, ho'] at ho; cases ho; rw [hd'] at hd; cases hd
theorem Inv.funs (I : Inv X pins σ H s) : s.heap.FunFrames X.base X.outer := by
  have all : ∀ (l : List Env), (∀ b ∈ frs l, b ∈ X.fs) → X.s_0.heap.FunFrames X.base l → s.heap.FunFrames X.base l := by
    intro l
    induction l with
    | nil => intro _ _; trivial
    | cons env r ih =>
      intro hs hl
      obtain ⟨hk, ⟨L, o, hf, hn, ho, hd⟩, hr⟩ := hl
      have hL : L ∈ X.fs := hs L (by unfold frs; rw [List.filterMap_cons, hf]; exact List.mem_cons_self)
      obtain ⟨sl, e⟩ := I.base.slot L o ho (I.ok.frf L hL) hL fun z => I.ok.exfs L z hL
      exact ⟨hk, ⟨L, _, hf, hn, e, hd⟩, ih (fun b hb => hs b (by unfold frs; rw [List.filterMap_cons, hf]; exact List.mem_cons_of_mem _ hb)) hr⟩
  exact all X.outer (fun _ hb => hb) I.ok.funs
theorem Inv.stack (I : Inv X pins σ H s) : s.heap.FunFrames X.base X.stack := by
  rcases I.ok.stk with e | ⟨e, hf⟩
  · rw [e]; exact I.funs
  · rw [e]
    obtain ⟨m, hn, _⟩ := I.loc
    refine .cons (by rw [I.ok.kind]; decide) hf hn ?_ I.funs
    exact Heap.get?_none_of_le (Nat.le_trans I.ok.bsz I.ok.above)
theorem Inv.stkSub (I : Inv X pins σ H s) : ∀ b ∈ frs X.stack, b ∈ X.env.locals :: X.fs := fun b hb => by
  rcases I.ok.stk with e | ⟨e, hf⟩
  · rw [e] at hb; exact List.mem_cons_of_mem _ hb
  · rw [e] at hb
    unfold frs at hb
    rw [List.filterMap_cons, hf] at hb
    exact hb
theorem Inv.stkFree (I : Inv X pins σ H s) : ∀ b ∈ frs X.stack, H b = none := fun b hb => by
  rcases List.mem_cons.mp (I.stkSub b hb) with e | hb
  · rw [e]; exact I.free
  · obtain ⟨_, o, ho, _⟩ := I.ok.funs.mem hb
    exact I.base.free b o ho (I.ok.frf b hb) fun z => I.ok.exfs b z hb
theorem Inv.step {g' : Array GenState} {t' : Nat} {d' : Drawn} {ch : List Addr} (I : Inv X pins σ H s)
    (hch : ∀ b ∈ ch, (b ∈ X.ex ∨ X.s_0.heap.objs.size ≤ b) ∧ b ≠ X.env.locals ∧ (∀ x c, X.env.cells.lookup x = some c → c ≠ b) ∧ ∀ p ∈ X.pn ++ pins, p.1 ≠ b)
    (keep : ∀ b o, b ≠ X.env.locals → b ∉ X.fs → b ∉ ch → s.heap.get? b = some o → H b = none → h'.get? b = some o)
    (slot : ∀ b o, b ≠ X.env.locals → b ∈ X.fs → b ∉ ch → s.heap.get? b = some o → H b = none → ∃ sl, h'.get? b = some { o with slots := sl }) (free : ∀ b o, b ∉ ch → s.heap.get? b = some o → H b = none → H' b = none)
    (there : ∀ b o, b ∉ ch → s.heap.get? b = some o → ∃ o', h'.get? b = some o')
    (tups : ∀ b xs, H b = some (.tup xs) → H' b = some (.tup xs)) (frzs : ∀ b o u, H b = some (.frz o u) → H' b = some (.frz o u)) (tbls : ∀ b ps, H b = some (.tbl ps) → ∃ more, H' b = some (.tbl (ps ++ more)))
    (ns : ∀ m, s.heap.Ns X.env.locals m → h'.Ns X.env.locals m) (hok : HOk X.prog X.w H' h') (hg : AllBare g') :
    Inv X pins σ H' { s with heap := h', gens := g', drawn := d', toks := t' } := by
  have neL : ∀ b o, X.s_0.heap.get? b = some o → b ≠ X.env.locals := fun b o e => Nat.ne_of_lt (Nat.lt_of_lt_of_le (Heap.lt_size e) I.ok.above)
  have neC : ∀ b o, X.s_0.heap.get? b = some o → b ∉ X.ex → b ∉ ch := fun b o e hx hb => by
    rcases (hch b hb).1 with z | z
    · exact hx z
    · exact absurd (Nat.lt_of_lt_of_le (Heap.lt_size e) z) (Nat.lt_irrefl _)
  have cellK : ∀ x c, X.env.cells.lookup x = some c → ∀ v, s.heap.IsCell c v → h'.IsCell c v := fun x c e v ⟨o, ho, hd⟩ => by
    have nch : c ∉ ch := fun z => (hch c z).2.2.1 x c e rfl
    by_cases hc : c ∈ X.fs
    · obtain ⟨sl, q⟩ := slot c o (I.cne x c e) hc nch ho (I.freeC x c e)
      exact ⟨_, q, hd⟩
    · exact ⟨o, keep c o (I.cne x c e) hc nch ho (I.freeC x c e), hd⟩
  refine ⟨I.ok, I.os, hg, ⟨fun b o e n hb hx => ?_, fun b o e n hb hx => ?_, fun b o e n hx => ?_, fun b o e hx => ?_, fun b xs e => tups b xs (I.base.tups b xs e), fun b o xs e => frzs b o xs (I.base.frzs b o xs e), fun b ps e => ?_⟩, ?_, fun x c e => ?_, ?_, fun x c e => ?_, fun p hp => ?_, hok, I.len⟩
  · exact keep b o (neL b o e) hb (neC b o e hx) (I.base.keep b o e n hb hx) (I.base.free b o e n hx)
  · obtain ⟨sl, e1⟩ := I.base.slot b o e n hb hx
    obtain ⟨sl', e2⟩ := slot b _ (neL b o e) hb (neC b o e hx) e1 (I.base.free b o e n hx)
    exact ⟨sl', e2⟩
  · obtain ⟨o', e1⟩ := I.base.there b o e hx
    exact free b o' (neC b o e hx) e1 (I.base.free b o e n hx)
  · obtain ⟨o', e1⟩ := I.base.there b o e hx
    exact there b o' (neC b o e hx) e1
  · obtain ⟨m1, e1⟩ := I.base.tbls b ps e
    obtain ⟨m2, e2⟩ := tbls b _ e1
    exact ⟨m1 ++ m2, by rw [e2, Array.append_assoc]⟩
  · obtain ⟨m, hn, hl⟩ := I.loc
    refine ⟨m, ns m hn, fun i x v e1 e2 e3 => ?_⟩
    obtain ⟨u, r, l⟩ := hl i x v e1 e2 e3
    refine ⟨u, r, ?_⟩
    rcases l with l | ⟨k, c, e, z⟩
    · exact .inl l
    · exact .inr ⟨k, c, e, cellK x c e _ z⟩
  · obtain ⟨v, z⟩ := I.cell x c e
    exact ⟨v, cellK x c e v z⟩
  · obtain ⟨m, ⟨o, _, _, ho, _⟩, _⟩ := I.loc
    exact free _ o (fun z => (hch _ z).2.1 rfl) ho I.free
  · obtain ⟨v, o, ho, hd⟩ := I.cell x c e
    exact free c o (fun z => (hch c z).2.2.1 x c e rfl) ho (I.freeC x c e)
  · obtain ⟨e, n, ne, nf, d⟩ := I.pin p hp
    have nch : p.1 ∉ ch := fun z => (hch p.1 z).2.2.2 p hp rfl
    exact ⟨keep p.1 p.2 ne nf nch e n, free p.1 p.2 nch e n, ne, nf, d⟩
theorem Inv.un {t' : Nat} (I : Inv X pins σ H s) (u : Un X.fs [] H H' s.heap h') (hok : HOk X.prog X.w H' h') : Inv X pins σ H' { s with heap := h', toks := t' } := by
  obtain ⟨m, ⟨o, es, ep, ho, r⟩, _⟩ := id I.loc
  obtain ⟨sl, hL⟩ := u.any ho I.free (by simp)
  exact I.step (g' := s.gens) (d' := s.drawn) (ch := []) (fun _ z => nomatch z) (fun b o _ hb _ e n => u.keep b o e n hb (by simp)) (fun b o _ hb _ e n => u.slot b o e n hb (by simp)) (fun b o _ e n => u.free b o e n (by simp)) (fun b o _ e => u.there b o e (by simp)) u.tups u.frzs u.tbls (fun m' hm => by
    obtain ⟨o', es', ep', ho', r'⟩ := hm
    rw [ho] at ho'; cases ho'
    exact ⟨_, es', ep', hL, r'⟩) hok I.bare
theorem Inv.call {g' : Array GenState} {t' : Nat} {d' : Drawn} {ch : List Addr} (I : Inv X pins σ H s) (u : Un (frs X.stack) ch H H' s.heap h') (hok : HOk X.prog X.w H' h') (hg : AllBare g')
    (hch : ∀ b ∈ ch, (b ∈ X.ex ∨ X.s_0.heap.objs.size ≤ b) ∧ b ≠ X.env.locals ∧ (∀ x c, X.env.cells.lookup x = some c → c ≠ b) ∧ ∀ p ∈ X.pn ++ pins, p.1 ≠ b) :
    Inv X pins σ H' { s with heap := h', gens := g', drawn := d', toks := t' } := by
  obtain ⟨m, ⟨o, es, ep, ho, r⟩, _⟩ := id I.loc
  obtain ⟨sl, hL⟩ := u.any ho I.free fun z => (hch _ z).2.1 rfl
  exact I.step (ch := ch) hch (fun b o hL hb hc e n => u.keep b o e n (fun z => (List.mem_cons.mp (I.stkSub b z)).elim hL hb) hc) (fun b o _ _ hc e n => u.any e n hc) (fun b o hc e n => u.free b o e n hc) (fun b o hc e => u.there b o e hc) u.tups u.frzs u.tbls (fun m' hm => by
    obtain ⟨o', es', ep', ho', r'⟩ := hm
    rw [ho] at ho'; cases ho'
    exact ⟨_, es', ep', hL, r'⟩) hok hg
theorem Inv.turned {t' : Nat} {it : Addr} (I : Inv X pins σ H s) (k : ∀ b o, b ≠ it → s.heap.get? b = some o → h'.get? b = some o) (hn : H it = none) (hL : it ≠ X.env.locals)
    (h1 : it ∈ X.ex ∨ X.s_0.heap.objs.size ≤ it) (h2 : ∀ x c, X.env.cells.lookup x = some c → c ≠ it) (h3 : ∀ p ∈ X.pn ++ pins, p.1 ≠ it) : Inv X pins σ H { s with heap := h', toks := t' } := by
  have nit : ∀ b u, H b = some u → b ≠ it := fun b u e z => by rw [z, hn] at e; cases e
  refine I.step (g' := s.gens) (d' := s.drawn) (ch := [it]) (fun b hb => ?_) (fun b o _ _ hc e _ => k b o (fun z => hc (by simp [z])) e) (fun b o _ _ hc e _ => ⟨o.slots, k b o (fun z => hc (by simp [z])) e⟩) (fun _ _ _ _ n => n)
    (fun b o hc e => ⟨o, k b o (fun z => hc (by simp [z])) e⟩) (fun _ _ e => e) (fun _ _ _ e => e) (fun b ps e => ⟨#[], by rw [e]; simp⟩) (fun m hm => ?_) (fun b u e => ?_) I.bare
  · have e : b = it := by simpa using hb
    subst e
    exact ⟨h1, hL, h2, h3⟩
  · obtain ⟨o, es, ep, ho, r⟩ := hm
    exact ⟨o, es, ep, k _ o (Ne.symm hL) ho, r⟩
  · refine (I.hok b u e).stay (fun c v hc q => k c v ?_ q) (fun _ q => q) fun _ _ q => q
    rcases hc with z | z
    · rw [z]; exact nit b u e
    · exact nit c _ z
theorem Inv.tok (I : Inv X pins σ H s) (t : Nat) : Inv X pins σ H { s with toks := t } := I.un (h' := s.heap) (t' := t) Un.refl I.hok
theorem Inv.kept {t' : Nat} (I : Inv X pins σ H s) (k : ∀ b u, s.heap.get? b = some u → h'.get? b = some u) : Inv X pins σ H { s with heap := h', toks := t' } := I.un (Un.kept k) (I.hok.kept k)
theorem Inv.laid {a : Addr} {o : HO} {t' : Nat} (I : Inv X pins σ H s) (k : ∀ b u, s.heap.get? b = some u → h'.get? b = some u) (hp : s.heap.objs.size ≤ a) (new : ObjOk X.prog X.w (upd H a o) h' a o) :
    Inv X pins σ (upd H a o) { s with heap := h', toks := t' } := I.un (Un.laid k hp (I.hok.fresh hp)) (I.hok.laid k hp new)
theorem Inv.write {x e : Addr} {o : HO} {t' : Nat} (I : Inv X pins σ H s) (mu : Mut (H x)) (he : e = x ∨ H e = some (.own x)) (k : ∀ b u, b ≠ e → s.heap.get? b = some u → h'.get? b = some u) (heo : ∃ u, h'.get? e = some u)
    (new : ObjOk X.prog X.w (upd H x o) h' x o) : Inv X pins σ (upd H x o) { s with heap := h', toks := t' } := I.un (Un.write mu he k heo) (I.hok.write mu he k heo new)
theorem Inv.weak {σ' : List (Option V)} (I : Inv X pins σ H s) (hl : σ'.length = σ.length) (w : ∀ (i : Nat) v, σ'[i]? = some (some v) → σ[i]? = some (some v)) : Inv X pins σ' H s :=
  ⟨I.ok, I.os, I.bare, I.base, let ⟨m, hn, hl'⟩ := I.loc; ⟨m, hn, fun i x v e1 e2 e3 => hl' i x v e1 (w i v e2) e3⟩, I.cell, I.free, I.freeC, I.pin, I.hok, hl.trans I.len⟩
theorem Inv.pins_of {pins' : List (Addr × Obj)} (I : Inv X pins σ H s) (h : ∀ p ∈ pins', s.heap.get? p.1 = some p.2 ∧ H p.1 = none ∧ p.1 ≠ X.env.locals ∧ p.1 ∉ X.fs ∧ ∀ v, p.2.data ≠ .cell v) : Inv X pins' σ H s :=
  ⟨I.ok, I.os, I.bare, I.base, I.loc, I.cell, I.free, I.freeC, fun p hp => (List.mem_append.mp hp).elim (fun z => I.pin p (List.mem_append_left _ z)) (h p), I.hok, I.len⟩
theorem nodup_ix {N : List Str} (hN : N.Nodup) {i j : Nat} {x : Str} (a : N[i]? = some x) (b : N[j]? = some x) : i = j := by
  obtain ⟨h1, e1⟩ := List.getElem?_eq_some_iff.mp a
  obtain ⟨h2, e2⟩ := List.getElem?_eq_some_iff.mp b
  exact (List.getElem_inj hN).mp (e1.trans e2.symm)
theorem store_ok2 {M : Model} {A : Around} {E : Value → Shared → Prop} {i : Nat} {x : Str} {v : V} {u : Value} {Q : Unit → Shared → Prop} (I : Inv X pins σ H s) (hN : X.N.Nodup) (hi : X.N[i]? = some x) (hx : Loc X.env.scope x) (r : RelV v u)
    (h : ∀ s', Inv X pins (σ.set i (some v)) H s' → (∃ a, Heap.SameBut a s.heap s'.heap ∧ (a = X.env.locals ∨ X.env.cells.lookup x = some a)) → Q () s') (hf : X.fn x = true ∨ X.env.scope.names.lookup x = some .local := by first | exact .inl rfl | exact .inr rfl | assumption) : wpAny M A (storeName X.env x u) Q E s := by
  obtain ⟨m, hn, hl⟩ := id I.loc
  have hcls : (X.env.scope.kind == .class || (X.env.scope.kind == .module && X.env.locals != X.env.globals)) = false := by rw [I.ok.kind]; rfl
  have hiσ : i < σ.length := by rw [I.len]; exact (List.getElem?_eq_some_iff.mp hi).1
  have cne := I.cne
  have tracked : ∀ {a : Addr} {h' : Heap}, (∃ o, s.heap.get? a = some o ∧ H a = none) → Heap.SameBut a s.heap h' → HOk X.prog X.w H h' := fun {a h'} ha hs b ob e => by
    obtain ⟨_, _, hfree⟩ := ha
    refine (I.hok b ob e).stay (fun c w' hc q => (hs.2 c ?_).trans q) (fun _ q => q) fun _ _ q => q
    rintro rfl
    rcases hc with rfl | hc
    · rw [hfree] at e; cases e
    · rw [hfree] at hc; cases hc
  rcases hx with hk | hk
  · refine wpAny_storeName_local hk hn (fun h' hn' hs => ?_) hcls
    obtain ⟨oL, _, _, hoL, _⟩ := id hn
    refine h _ ⟨I.ok, I.os, I.bare, ⟨fun b o e n hb hx => ?_, fun b o e n hb hx => ?_, I.base.free, fun b o e hx => ?_, I.base.tups, I.base.frzs, I.base.tbls⟩, ⟨_, hn', fun j y v' e1 e2 e3 => ?_⟩, fun y c e => ?_, I.free, I.freeC, fun p hp => ?_, tracked ⟨oL, hoL, I.free⟩ hs, by simpa using I.len⟩ ⟨_, hs, .inl rfl⟩
    · exact (hs.2 b (Nat.ne_of_lt (Nat.lt_of_lt_of_le (Heap.lt_size e) I.ok.above))).trans (I.base.keep b o e n hb hx)
    · obtain ⟨sl, e1⟩ := I.base.slot b o e n hb hx
      exact ⟨sl, (hs.2 b (Nat.ne_of_lt (Nat.lt_of_lt_of_le (Heap.lt_size e) I.ok.above))).trans e1⟩
    · obtain ⟨o', e1⟩ := I.base.there b o e hx
      exact ⟨o', (hs.2 b (Nat.ne_of_lt (Nat.lt_of_lt_of_le (Heap.lt_size e) I.ok.above))).trans e1⟩
    · by_cases hj : j = i
      · subst hj
        rw [hi] at e1; cases e1
        rw [List.getElem?_set_self hiσ] at e2
        cases e2
        exact ⟨u, r, .inl ⟨hk, by simp⟩⟩
      · rw [List.getElem?_set_ne (Ne.symm hj)] at e2
        obtain ⟨u', r', q⟩ := hl j y v' e1 e2 e3
        refine ⟨u', r', ?_⟩
        rcases q with ⟨k, e⟩ | ⟨k, c, e, z⟩
        · refine .inl ⟨k, ?_⟩
          have : y ≠ x := fun e => hj (nodup_ix hN e1 (e ▸ hi))
          simp [this, e]
        · exact .inr ⟨k, c, e, z.sameBut hs (cne y c e)⟩
    · obtain ⟨w', z⟩ := I.cell y c e
      exact ⟨w', z.sameBut hs (cne y c e)⟩
    · obtain ⟨e, n, ne, nf, d⟩ := I.pin p hp
      exact ⟨(hs.2 p.1 ne).trans e, n, ne, nf, d⟩
  · have hfn : X.fn x = true := by
      rcases hf with z | z
      · exact z
      · rw [z] at hk; cases hk
    obtain ⟨c, hc⟩ := I.ok.has x (.inl hk)
    obtain ⟨w', z⟩ := I.cell x c hc
    refine wpAny_storeName_cell I.ok.kind hk hc z (fun h' hc' hs => ?_)
    obtain ⟨oc, hoc, hocd⟩ := id z
    refine h { s with heap := h' } ⟨I.ok, I.os, I.bare, ⟨fun b o e n hb hx => ?_, fun b o e n hb hx => ?_, I.base.free, fun b o e hx => ?_, I.base.tups, I.base.frzs, I.base.tbls⟩, ⟨m, hn.sameBut hs (Ne.symm (cne x c hc)), fun j y v' e1 e2 e3 => ?_⟩, fun y c' e => ?_, I.free, I.freeC, fun p hp => ?_, tracked ⟨oc, hoc, I.freeC x c hc⟩ hs, by simpa using I.len⟩ ⟨c, hs, .inr hc⟩
    · exact (hs.2 b (Nat.ne_of_lt (Nat.lt_of_lt_of_le (Heap.lt_size e) (I.ok.cab x c hfn hc)))).trans (I.base.keep b o e n hb hx)
    · obtain ⟨sl, e1⟩ := I.base.slot b o e n hb hx
      exact ⟨sl, (hs.2 b (Nat.ne_of_lt (Nat.lt_of_lt_of_le (Heap.lt_size e) (I.ok.cab x c hfn hc)))).trans e1⟩
    · obtain ⟨o', e1⟩ := I.base.there b o e hx
      exact ⟨o', (hs.2 b (Nat.ne_of_lt (Nat.lt_of_lt_of_le (Heap.lt_size e) (I.ok.cab x c hfn hc)))).trans e1⟩
    · by_cases hj : j = i
      · subst hj
        rw [hi] at e1; cases e1
        rw [List.getElem?_set_self hiσ] at e2
        cases e2
        exact ⟨u, r, .inr ⟨.inl hk, c, hc, hc'⟩⟩
      · rw [List.getElem?_set_ne (Ne.symm hj)] at e2
        obtain ⟨u', r', q⟩ := hl j y v' e1 e2 e3
        refine ⟨u', r', ?_⟩
        rcases q with q | ⟨k, c', e, z'⟩
        · exact .inl q
        · refine .inr ⟨k, c', e, z'.sameBut hs ?_⟩
          rintro rfl
          exact hj (nodup_ix hN e1 (I.ok.inj _ _ _ e hc ▸ hi))
    · by_cases hcc : c' = c
      · subst hcc; exact ⟨_, hc'⟩
      · obtain ⟨w2, z2⟩ := I.cell y c' e
        exact ⟨w2, z2.sameBut hs hcc⟩
    · obtain ⟨e, n, ne, nf, d⟩ := I.pin p hp
      refine ⟨(hs.2 p.1 ?_).trans e, n, ne, nf, d⟩
      intro q
      rw [q, hoc] at e
      have q' : oc = p.2 := Option.some.inj e
      exact d w' (by rw [← q']; exact hocd)
theorem store_ok {M : Model} {A : Around} {E : Value → Shared → Prop} {i : Nat} {x : Str} {v : V} {u : Value} {Q : Unit → Shared → Prop} (I : Inv X pins σ H s) (hN : X.N.Nodup) (hi : X.N[i]? = some x) (hx : Loc X.env.scope x) (r : RelV v u)
    (h : ∀ s', Inv X pins (σ.set i (some v)) H s' → Q () s') (hf : X.fn x = true ∨ X.env.scope.names.lookup x = some .local := by first | exact .inl rfl | exact .inr rfl | assumption) : wpAny M A (storeName X.env x u) Q E s :=
  store_ok2 I hN hi hx r (fun s' I' _ => h s' I') hf
theorem Inv.call' {s' : Shared} {ch : List Addr} (I : Inv X pins σ H s) (ho : s'.os = s.os) (u : Un (frs X.stack) ch H H' s.heap s'.heap) (hok : HOk X.prog X.w H' s'.heap) (hg : AllBare s'.gens)
    (hch : ∀ b ∈ ch, (b ∈ X.ex ∨ X.s_0.heap.objs.size ≤ b) ∧ b ≠ X.env.locals ∧ (∀ x c, X.env.cells.lookup x = some c → c ≠ b) ∧ ∀ p ∈ X.pn ++ pins, p.1 ≠ b) : Inv X pins σ H' s' := by
  obtain ⟨h', g', d', t', o'⟩ := s'
  have e : o' = s.os := ho
  subst e
  exact I.call (g' := g') (t' := t') (d' := d') u hok hg hch
end
abbrev XK := Value → Option Addr → Hp → Prop
abbrev St := List (Option V)
abbrev VK := V → Hp → Prop
abbrev TE := St → Hp → VK → Prop
abbrev TT := St → Hp → (Bool → Hp → Prop) → Prop
abbrev TA := St → Hp → (List V → Hp → Prop) → Prop
structure Ends where
  nx : St → Hp → Prop
  rt : VK
  bk : St → Hp → Prop := fun _ _ => False
  ct : St → Hp → Prop := fun _ _ => False
abbrev TS := Ends → St → Hp → Prop
def EP (X : Cx) (pins : List (Addr × Obj)) (σ : St) (Q : VK) (u : Value) (s' : Shared) : Prop := ∃ v H', Inv X pins σ H' s' ∧ RelV v u ∧ Q v H'
def TP (X : Cx) (pins : List (Addr × Obj)) (σ : St) (Q : Bool → Hp → Prop) (b : Bool) (s' : Shared) : Prop := ∃ H', Inv X pins σ H' s' ∧ Q b H'
def AP (X : Cx) (pins : List (Addr × Obj)) (σ : St) (Q : List V → Hp → Prop) (us : List Value) (s' : Shared) : Prop := ∃ vs H', Inv X pins σ H' s' ∧ Vals vs us ∧ Q vs H'
def SP (X : Cx) (pins : List (Addr × Obj)) (D : Ends) (f : Flow) (s' : Shared) : Prop :=
  match f with
  | .next => ∃ σ' H', Inv X pins σ' H' s' ∧ D.nx σ' H'
  | .brk => ∃ σ' H', Inv X pins σ' H' s' ∧ D.bk σ' H'
  | .cont => ∃ σ' H', Inv X pins σ' H' s' ∧ D.ct σ' H'
  | .ret u => ∃ v σ' H', Inv X pins σ' H' s' ∧ RelV v u ∧ D.rt v H'
def PE (X : Cx) (e : Expr) (t : TE) : Prop :=
  ∀ (pins : List (Addr × Obj)) (s : Shared) (σ : St) (H : Hp) (Q : VK), Inv X pins σ H s → t σ H Q → wpAny (model X.prog X.w) X.A (eval e X.env) (EP X pins σ Q) X.xe s
def PT (X : Cx) (e : Expr) (t : TT) : Prop :=
  ∀ (pins : List (Addr × Obj)) (s : Shared) (σ : St) (H : Hp) (Q : Bool → Hp → Prop), Inv X pins σ H s → t σ H Q → wpAny (model X.prog X.w) X.A (isTrue e X.env (eval e X.env)) (TP X pins σ Q) X.xe s
def PW (X : Cx) (e : Expr) (t : TT) : Prop :=
  ∀ (whole : Sem Value) (pins : List (Addr × Obj)) (s : Shared) (σ : St) (H : Hp) (Q : Bool → Hp → Prop), Inv X pins σ H s → t σ H Q → wpAny (model X.prog X.w) X.A (isTrue e X.env whole) (TP X pins σ Q) X.xe s
theorem PW.pt {X : Cx} {e : Expr} {t : TT} (h : PW X e t) : PT X e t := h _
def PA (X : Cx) (es : List Expr) (t : TA) : Prop :=
  ∀ (pos : Pos) (pins : List (Addr × Obj)) (s : Shared) (σ : St) (H : Hp) (Q : List V → Hp → Prop), Inv X pins σ H s → t σ H Q → wpAny (model X.prog X.w) X.A (spliced (backTo pos (starEach es X.env))) (AP X pins σ Q) X.xe s
def PS (X : Cx) (st : Stmt) (t : TS) : Prop :=
  ∀ (pins : List (Addr × Obj)) (s : Shared) (σ : St) (H : Hp) (D : Ends), Inv X pins σ H s → t D σ H → wpAny (model X.prog X.w) X.A (exec st X.env) (SP X pins D) X.xe s
def PSs (X : Cx) (st : List Stmt) (t : TS) : Prop :=
  ∀ (pins : List (Addr × Obj)) (s : Shared) (σ : St) (H : Hp) (D : Ends), Inv X pins σ H s → t D σ H → wpAny (model X.prog X.w) X.A (execs st X.env) (SP X pins D) X.xe s
theorem thn {α : Type} {t : Sem α} {Q Q' : α → Shared → Prop} {M : Model} {A : Around} {E : Value → Shared → Prop} {s : Shared} (h : wpAny M A t Q E s) (hQ : ∀ a s, Q a s → Q' a s) : wpAny M A t Q' E s := wpAny_mono h hQ fun _ _ x => x
end L2
namespace L2
open PySem PySem.Spec PyProof.Rows
section
variable {X : Cx}
def tVar (i : Nat) : TE := fun σ H Q => ∃ v, σ[i]? = some (some v) ∧ Q v H
def tC (v : V) : TE := fun _ H Q => Q v H
theorem pe_var {i : Nat} {x : Str} {pos : Pos} (hN : X.N[i]? = some x) (hv : Vis X.env.scope x) (hd : (x == ("__debug__" : Str)) = false := by decide) (hcd : (x == ("__classdict__" : Str)) = false := by decide) : PE X (.Name x pos) (tVar i) := by
  intro pins s σ H Q I h
  obtain ⟨v, e, h⟩ := h
  obtain ⟨m, hn, hl⟩ := I.loc
  obtain ⟨u, r, l⟩ := hl i x v hN e hv
  have fin : EP X pins σ Q u s := ⟨v, H, I, r, h⟩
  rcases l with ⟨hk, hm⟩ | ⟨hk, c, hc, hcell⟩
  · exact wpAny_Name (wpAny_loadName_local I.ok.kind hk hn hm fin) hd
  · rcases hk with hk | hk
    · exact wpAny_Name (wpAny_loadName_cell I.ok.kind hk hc hcell fin) hd
    · exact wpAny_Name (wpAny_loadName_free I.ok.kind hk hc hcell fin hcd) hd
theorem pe_int {i j pos} : PE X (.Constant (.int i) j pos) (tC (.int i)) := fun _ _ _ H _ I h => wpAny_Constant_int ⟨.int i, H, I.tok _, ⟨_, rfl⟩, h⟩
theorem pe_bl {b j pos} : PE X (.Constant (.bool b) j pos) (tC (.bl b)) := fun _ _ _ H _ I h => Constant_bool ⟨.bl b, H, I, rfl, h⟩
theorem pe_non {j pos} : PE X (.Constant .none j pos) (tC .non) := fun _ _ _ H _ I h => Constant_none ⟨.non, H, I, rfl, h⟩
theorem pe_str {x j pos} : PE X (.Constant (.str x) j pos) (tC (.str x)) := fun _ _ _ H _ I h => Calls.Constant_str ⟨.str x, H, I.tok _, ⟨_, rfl⟩, h⟩
def Gl (X : Cx) (x : Str) : Prop := X.env.kindOf x = some .globalImplicit
theorem ld_glob {E : Value → Shared → Prop} {pins : List (Addr × Obj)} {s : Shared} {σ : St} {H : Hp} {x : Str} {u : Value} {pos : Pos} {Q : Value → Shared → Prop} (I : Inv X pins σ H s) (hg : Gl X x) (hm : X.mg x = some u) (h : Q u s)
    (hd : (x == ("__debug__" : Str)) = false := by decide) : wpAny (model X.prog X.w) X.A (eval (.Name x pos) X.env) Q E s :=
  Calls.Name_function_global I.ok.kind hg (Calls.loadGlobal_global (by rw [I.ok.glob]; exact I.mod.glob.keeps I.bk) hm h) hd
theorem ld_blt {E : Value → Shared → Prop} {pins : List (Addr × Obj)} {s : Shared} {σ : St} {H : Hp} {x : Str} {u : Value} {pos : Pos} {Q : Value → Shared → Prop} (I : Inv X pins σ H s) (hg : Gl X x) (hm : X.mg x = none) (hv : bootBuiltins x = some u) (h : Q u s)
    (hn : x ≠ "__name__" := by decide) (hd : (x == ("__debug__" : Str)) = false := by decide) : wpAny (model X.prog X.w) X.A (eval (.Name x pos) X.env) Q E s := by
  obtain ⟨mb, h1, h2⟩ := I.mod.blt
  exact Calls.Name_function_global I.ok.kind hg (Calls.loadGlobal_builtin (by rw [I.ok.glob]; exact I.mod.glob.keeps I.bk) hm (by rw [I.ok.blt]; exact h1.keeps I.bk) ((h2 x hn).trans hv) h) hd
theorem pe_glob {x : Str} {v : V} {u : Value} {pos : Pos} (hg : Gl X x) (hm : X.mg x = some u) (r : RelV v u) (hd : (x == ("__debug__" : Str)) = false := by decide) : PE X (.Name x pos) (tC v) :=
  fun _ _ _ H _ I h => ld_glob I hg hm ⟨v, H, I, r, h⟩ hd
variable {a b : Expr} {ta tb : TE} {pos : Pos}
def PC (X : Cx) (op : CmpOp) (a b : Expr) (t : TE) : Prop :=
  ∀ (pins : List (Addr × Obj)) (s : Shared) (σ : St) (H : Hp) (Q : VK), Inv X pins σ H s → t σ H Q →
    wpAny (model X.prog X.w) X.A (eval a X.env) (fun v s₁ => wpAny (model X.prog X.w) X.A (eval b X.env) (fun u s₂ => wpAny (model X.prog X.w) X.A (compareOp op v u) (EP X pins σ Q) X.xe s₂) X.xe s₁) X.xe s
theorem nobehind (b : Expr) {op : CmpOp} (h : op ≠ .In) (h2 : op ≠ .NotIn) : behindInMarks op b = false := by
  have e1 : (op == CmpOp.In) = false := by cases op <;> first | rfl | exact absurd rfl h
  have e2 : (op == CmpOp.NotIn) = false := by cases op <;> first | rfl | exact absurd rfl h2
  cases b <;> simp [behindInMarks, e1, e2]
def tIsN (ta : TE) : TE := fun σ H Q => ta σ H fun x H1 => Q (.bl (decide (x = .non))) H1
theorem RelV.none_iff {x : V} {v : Value} (r : RelV x v) : (v == Value.none) = decide (x = .non) := by
  cases x with
  | non => cases r; rfl
  | bl _ => cases r; rfl
  | int _ => obtain ⟨t, rfl⟩ := r; rfl
  | str _ => obtain ⟨t, rfl⟩ := r; rfl
  | byt _ => obtain ⟨t, rfl⟩ := r; rfl
  | flt _ => obtain ⟨t, rfl⟩ := r; rfl
  | ref _ => cases r; rfl
  | ty _ => cases r; rfl
theorem pc_isN {j pos'} (ha : PE X a ta) : PC X .Is a (.Constant .none j pos') (tIsN ta) := by
  intro pins s σ H Q I h
  refine thn (ha pins s σ H _ I h) fun v s1 ⟨x, H1, I1, r1, q1⟩ => ?_
  exact Constant_none (is_none_gen ⟨.bl _, H1, I1, by rw [r1.none_iff]; rfl, q1⟩)
def tB (t : TE) : TT := fun σ H Q => t σ H fun x H1 => ∃ c, x = .bl c ∧ Q c H1
theorem pt_cmp {op : CmpOp} {t : TE} (h : PC X op a b t) (h1 : behindInMarks op b = false := by first | exact nobehind _ (by decide) (by decide) | rfl) : PT X (.Compare a [op] [b] pos) (tB t) := by
  intro pins s σ H Q I hw
  refine wpAny_isTrue_Compare1 (thn (h pins s σ H _ I hw) fun v s1 h1 => thn h1 fun u s2 h2 => thn h2 fun c s3 ⟨x, H1, I1, r1, q1⟩ => ?_) h1
  obtain ⟨d, rfl, q⟩ := q1
  cases r1
  exact wpAny_truthy_bool ⟨H1, I1, q⟩
theorem pt_val {e : Expr} {t : TE} (h : PE X e t) (he : ∀ whole, isTrue e X.env whole = (do let v ← whole; standAt e.pos; holding [v] (truthy v)) := by intro _; rfl) : PT X e (tB t) := by
  intro pins s σ H Q I hw
  refine isTrue_plain (thn (h pins s σ H _ I hw) fun v s1 ⟨x, H1, I1, r1, q1⟩ => ?_) (he _)
  obtain ⟨d, rfl, q⟩ := q1
  cases r1
  exact wpAny_truthy_bool ⟨H1, I1, q⟩
variable {tA tB' : TT} {rest : List Expr}
def tOr (t u : TT) : TT := fun σ H Q => t σ H fun c H1 => if c = true then Q true H1 else u σ H1 Q
def tNot (t : TT) : TT := fun σ H Q => t σ H fun c H1 => Q (!c) H1
theorem pw_or1 (ha : PT X a tA) : PW X (.BoolOp .Or [a] pos) tA := by
  intro wh pins s σ H Q I h
  refine isTrue_or (thn (ha pins s σ H Q I h) fun c s1 e => ?_)
  cases c with
  | false => exact isTrue_or_nil e
  | true => exact e
theorem pw_or (ha : PT X a tA) (hb : PW X (.BoolOp .Or (b :: rest) pos) tB') : PW X (.BoolOp .Or (a :: b :: rest) pos) (tOr tA tB') := by
  intro wh pins s σ H Q I h
  refine isTrue_or (thn (ha pins s σ H _ I h) fun c s1 ⟨H1, I1, q1⟩ => ?_)
  cases c with
  | true => exact ⟨H1, I1, q1⟩
  | false => exact hb wh pins s1 σ H1 Q I1 q1
theorem pt_not (ha : PT X a tA) : PT X (.UnaryOp .Not a pos) (tNot tA) := by
  intro pins s σ H Q I h
  exact isTrue_not (ha pins s σ H (fun c H1 => Q (!c) H1) I h)
def tIf (t : TT) (ta tb : TE) : TE := fun σ H Q => t σ H fun c H1 => if c = true then ta σ H1 Q else tb σ H1 Q
theorem pe_ifExp {c : Expr} (hc : PT X c tA) (ha : PE X a ta) (hb : PE X b tb) : PE X (.IfExp c a b pos) (tIf tA ta tb) := by
  intro pins s σ H Q I h
  refine wpAny_IfExp (thn (hc pins s σ H _ I h) fun d s1 ⟨H1, I1, q1⟩ => ?_)
  cases d with
  | true => exact ha pins s1 σ H1 Q I1 q1
  | false => exact hb pins s1 σ H1 Q I1 q1
end
end L2
namespace L2
open PySem PySem.Spec PyProof.Rows
def SqL (K : PySem.W.Frag) (H : Hp) (a : Addr) (xs : List V) : Prop :=
  Rd H a (.lst xs) ∨
    ∃ (o : Obj) (its : Array Value) (n : Nat), K.lookup a = some o ∧ o.cls = .type "list" ∧ o.dict = none ∧ o.data = .seq its n ∧ its.size ≤ sizeLine ∧ Vals xs its.toList
def SqT (K : PySem.W.Frag) (H : Hp) (a : Addr) (xs : List V) : Prop :=
  Rd H a (.tup xs) ∨
    ∃ (o : Obj) (its : Array Value) (n : Nat), K.lookup a = some o ∧ o.cls = .type "tuple" ∧ o.data = .seq its n ∧ its.size ≤ sizeLine ∧ Vals xs its.toList
def absV : Value → Option V
  | .none => some .non
  | .bool b => some (.bl b)
  | .int i _ => some (.int i)
  | .str x _ => some (.str x)
  | .bytes b _ => some (.byt b)
  | .float b _ => some (.flt b)
  | .ref a => some (.ref a)
  | .type n => some (.ty n)
  | _ => none
theorem RelV.abs {x : V} {u : Value} (r : RelV x u) : absV u = some x := by
  cases x with
  | non => cases r; rfl
  | bl _ => cases r; rfl
  | int _ => obtain ⟨t, rfl⟩ := r; rfl
  | str _ => obtain ⟨t, rfl⟩ := r; rfl
  | byt _ => obtain ⟨t, rfl⟩ := r; rfl
  | flt _ => obtain ⟨t, rfl⟩ := r; rfl
  | ref _ => cases r; rfl
  | ty _ => cases r; rfl
theorem RelV.inj {x y : V} {u : Value} (r : RelV x u) (q : RelV y u) : x = y := Option.some.inj (r.abs.symm.trans q.abs)
theorem Vals.inj : ∀ {xs ys : List V} {us : List Value}, Vals xs us → Vals ys us → xs = ys
  | _, _, _, .nil, .nil => rfl
  | _, _, _, .cons r t, .cons r' t' => by rw [r.inj r', Vals.inj t t']
section
variable {X : Cx} {pins : List (Addr × Obj)} {σ : St} {H : Hp} {s : Shared} {a : Addr} {xs ys : List V}
theorem SqL.of {K : PySem.W.Frag} (h : H a = some (.lst xs)) : SqL K H a xs := .inl (.inl h)
theorem SqT.of {K : PySem.W.Frag} (h : H a = some (.tup xs)) : SqT K H a xs := .inl (.inl h)
theorem Inv.list (I : Inv X pins σ H s) (h : SqL X.K H a xs) : ∃ its : List Value, Vals xs its ∧ PlainL s.heap a its.toArray ∧ xs.length ≤ sizeLine := by
  rcases h with h | ⟨o, its, n, hk, hc, hd, hs, hz, r⟩
  · obtain ⟨z, its, n, r, e⟩ := h.ok I.hok
    exact ⟨its, r, ⟨_, n, e, rfl, rfl, rfl⟩, z⟩
  · refine ⟨its.toList, r, ⟨o, n, I.kIn a o hk, hc, hd, by simpa using hs⟩, ?_⟩
    have e := r.length
    simp only [Array.length_toList] at e
    omega
theorem Inv.tuple (I : Inv X pins σ H s) (h : SqT X.K H a xs) : ∃ its : List Value, Vals xs its ∧ IsTup s.heap a its.toArray ∧ xs.length ≤ sizeLine := by
  rcases h with h | ⟨o, its, n, hk, hc, hs, hz, r⟩
  · obtain ⟨z, its, r, p⟩ := h.ok I.hok
    exact ⟨its, r, p, z⟩
  · refine ⟨its.toList, r, ⟨o, I.kIn a o hk, hc, n, by simpa using hs⟩, ?_⟩
    have e := r.length
    simp only [Array.length_toList] at e
    omega
theorem Inv.list_inj (I : Inv X pins σ H s) (h : SqL X.K H a xs) (h' : SqL X.K H a ys) : xs = ys := by
  obtain ⟨its, r, ⟨o, n, e, _, _, d⟩, _⟩ := I.list h
  obtain ⟨its', r', ⟨o', n', e', _, _, d'⟩, _⟩ := I.list h'
  rw [e] at e'; cases e'
  rw [d] at d'
  injection d' with d1 _
  have : its = its' := by simpa using congrArg Array.toList d1
  subst this
  exact r.inj r'
theorem Inv.tuple_inj (I : Inv X pins σ H s) (h : SqT X.K H a xs) (h' : SqT X.K H a ys) : xs = ys := by
  obtain ⟨its, r, ⟨o, e, _, n, d⟩, _⟩ := I.tuple h
  obtain ⟨its', r', ⟨o', e', _, n', d'⟩, _⟩ := I.tuple h'
  rw [e] at e'; cases e'
  rw [d] at d'
  injection d' with d1 _
  have : its = its' := by simpa using congrArg Array.toList d1
  subst this
  exact r.inj r'
end
abbrev Cx.wish (X : Cx) (E : Value → Shared → Prop) : Cx := { X with xe := E }
abbrev Cx.nox (X : Cx) : Cx := X.wish fun _ _ => False
theorem Cx.Ok.wish {X : Cx} (ok : X.Ok) (E : Value → Shared → Prop) : (X.wish E).Ok :=
  ⟨ok.mod, ok.kind, ok.glob, ok.blt, ok.above, ok.inj, ok.has, ok.cab, ok.hd, ok.frames, ok.stk, ok.exf, ok.bs, ok.bsz, ok.noex, ok.exfs, ok.funs, ok.frf⟩
theorem Cx.Ok.unwish {X : Cx} {E : Value → Shared → Prop} (ok : (X.wish E).Ok) : X.Ok :=
  ⟨ok.mod, ok.kind, ok.glob, ok.blt, ok.above, ok.inj, ok.has, ok.cab, ok.hd, ok.frames, ok.stk, ok.exf, ok.bs, ok.bsz, ok.noex, ok.exfs, ok.funs, ok.frf⟩
section
variable {X : Cx} {pins : List (Addr × Obj)} {σ : St} {H : Hp} {s : Shared} {E : Value → Shared → Prop}
theorem Inv.wish (I : Inv X pins σ H s) (E : Value → Shared → Prop) : Inv (X.wish E) pins σ H s := ⟨I.ok.wish E, I.os, I.bare, I.base, I.loc, I.cell, I.free, I.freeC, I.pin, I.hok, I.len⟩
theorem Inv.unwish (I : Inv (X.wish E) pins σ H s) : Inv X pins σ H s := ⟨I.ok.unwish, I.os, I.bare, I.base, I.loc, I.cell, I.free, I.freeC, I.pin, I.hok, I.len⟩
theorem SP.unwish {D : Ends} {f : Flow} {s' : Shared} (h : SP (X.wish E) pins D f s') : SP X pins D f s' := by
  cases f with
  | next => obtain ⟨σ', H', I, q⟩ := h; exact ⟨σ', H', I.unwish, q⟩
  | brk => obtain ⟨σ', H', I, q⟩ := h; exact ⟨σ', H', I.unwish, q⟩
  | cont => obtain ⟨σ', H', I, q⟩ := h; exact ⟨σ', H', I.unwish, q⟩
  | ret u => obtain ⟨v, σ', H', I, r, q⟩ := h; exact ⟨v, σ', H', I.unwish, r, q⟩
theorem PSs.nox {st : List Stmt} {t : TS} (h : PSs X.nox st t) : PSs X st t := fun pins s σ H D I hw =>
  wpAny_mono (h pins s σ H D (I.wish _) hw) (fun _ _ q => q.unwish) fun _ _ z => False.elim z
end
section
variable {X : Cx} {st : Stmt} {rest : List Stmt} {t u : TS} {e : Expr} {te : TE} {pos : Pos}
def tNext : TS := fun D σ H => D.nx σ H
def tSeq (t u : TS) : TS := fun D σ H => t { D with nx := u D } σ H
theorem pss_nil : PSs X [] tNext := fun _ _ σ H _ I h => wpAny_execs_nil ⟨σ, H, I, h⟩
theorem pss_cons (h1 : PS X st t) (h2 : PSs X rest u) : PSs X (st :: rest) (tSeq t u) := by
  intro pins s σ H D I h
  refine wpAny_execs_cons (thn (h1 pins s σ H { D with nx := u D } I h) fun f s1 q => ?_)
  cases f with
  | next =>
    obtain ⟨σ', H', I', q⟩ := q
    exact h2 pins s1 σ' H' D I' q
  | ret v => exact q
  | brk => exact q
  | cont => exact q
theorem pss_one (h1 : PS X st t) : PSs X [st] t := by
  intro pins s σ H D I h
  refine wpAny_execs_cons (thn (h1 pins s σ H D I h) fun f s1 q => ?_)
  cases f with
  | next => exact wpAny_execs_nil q
  | ret v => exact q
  | brk => exact q
  | cont => exact q
theorem Inv.quiet {pins : List (Addr × Obj)} {σ : St} {H : Hp} {s : Shared} (I : Inv X pins σ H s) : interactive X.env = false := by simp [interactive, I.ok.kind]
def tDrop (te : TE) : TS := fun D σ H => te σ H fun _ H1 => D.nx σ H1
theorem ps_expr (he : PE X e te) (hs : swapsWith e none pos.line X.env = pure false := by rfl) : PS X (.Expr e pos) (tDrop te) := by
  intro pins s σ H D I h
  exact wpAny_Expr_any (thn (he pins s σ H _ I h) fun v s1 ⟨x, H1, I1, r1, q1⟩ => ⟨σ, H1, I1, q1⟩) I.quiet hs
def tRet (te : TE) : TS := fun D σ H => te σ H D.rt
theorem ps_ret (he : PE X e te) : PS X (.Return (some e) pos) (tRet te) := by
  intro pins s σ H D I h
  exact wpAny_Return_some (thn (he pins s σ H _ I h) fun v s1 ⟨x, H1, I1, r1, q1⟩ => ⟨x, σ, H1, I1, r1, q1⟩)
def tIfS (c : TT) (t u : TS) : TS := fun D σ H => c σ H fun b H1 => if b = true then t D σ H1 else u D σ H1
theorem ps_if {c : Expr} {a b : List Stmt} {tc : TT} (hc : PT X c tc) (ha : PSs X a t) (hb : PSs X b u) : PS X (.If c a b pos) (tIfS tc t u) := by
  intro pins s σ H D I h
  refine wpAny_If (thn (hc pins s σ H _ I h) fun d s1 ⟨H1, I1, q1⟩ => ?_)
  cases d with
  | true => exact ha pins s1 σ H1 D I1 q1
  | false => exact hb pins s1 σ H1 D I1 q1
end
abbrev TG := V → St → Hp → (St → Hp → Prop) → Prop
abbrev TGs := List V → St → Hp → (St → Hp → Prop) → Prop
def PG (X : Cx) (target : Expr) (t : TG) : Prop :=
  ∀ (pins : List (Addr × Obj)) (s : Shared) (σ : St) (H : Hp) (v : V) (u : Value) (Q : St → Hp → Prop), Inv X pins σ H s → RelV v u → t v σ H Q →
    wpAny (model X.prog X.w) X.A (assign target X.env u) (fun _ s' => ∃ σ' H', Inv X pins σ' H' s' ∧ Q σ' H') X.xe s
def PGs (X : Cx) (ts : List Expr) (t : TGs) : Prop :=
  ∀ (pins : List (Addr × Obj)) (s : Shared) (σ : St) (H : Hp) (vs : List V) (us : List Value) (Q : St → Hp → Prop), Inv X pins σ H s → Vals vs us → t vs σ H Q →
    wpAny (model X.prog X.w) X.A (assignInOrder ((assignEach ts X.env).map (·.2)) us) (fun _ s' => ∃ σ' H', Inv X pins σ' H' s' ∧ Q σ' H') X.xe s
abbrev TSet := V → V → V → Hp → (Hp → Prop) → Prop
def PSet (X : Cx) (t : TSet) : Prop :=
  ∀ (pins : List (Addr × Obj)) (s : Shared) (σ : St) (H : Hp) (o i v : V) (ov iv u : Value) (Q : Hp → Prop), Inv X pins σ H s → RelV o ov → RelV i iv → RelV v u → t o i v H Q →
    wpAny (model X.prog X.w) X.A (setItem ov iv u) (fun _ s' => ∃ H', Inv X pins σ H' s' ∧ Q H') X.xe s
abbrev TIp := V → V → Hp → VK → Prop
def PIp (X : Cx) (op : Operator) (t : TIp) : Prop :=
  ∀ (pins : List (Addr × Obj)) (s : Shared) (σ : St) (H : Hp) (x y : V) (v u : Value) (Q : VK), Inv X pins σ H s → RelV x v → RelV y u → t x y H Q →
    wpAny (model X.prog X.w) X.A (inplaceOp op v u) (EP X pins σ Q) X.xe s
section
variable {X : Cx} {pos : Pos}
def gName (i : Nat) : TG := fun v σ H Q => Q (σ.set i (some v)) H
theorem pg_name {i : Nat} {x : Str} (hN : X.N.Nodup) (hi : X.N[i]? = some x) (hx : Loc X.env.scope x) (hf : X.fn x = true ∨ X.env.scope.names.lookup x = some .local := by first | exact .inl rfl | exact .inr rfl | assumption) : PG X (.Name x pos) (gName i) := by
  intro pins s σ H v u Q I r h
  exact wpAny_assign_Name (store_ok I hN hi hx r (fun s' I' => ⟨_, H, I', h⟩) hf)
def gNil : TGs := fun vs σ H Q => vs = [] ∧ Q σ H
def gCons (t : TG) (u : TGs) : TGs := fun vs σ H Q => ∃ v r, vs = v :: r ∧ t v σ H fun σ' H' => u r σ' H' Q
theorem pgs_nil : PGs X [] gNil := by
  intro pins s σ H vs us Q I r h
  obtain ⟨e, h⟩ := h
  subst e
  cases r
  exact assignInOrder_nil ⟨σ, H, I, h⟩
theorem pgs_cons {e : Expr} {es : List Expr} {t : TG} {u : TGs} (h1 : PG X e t) (h2 : PGs X es u)
    (hs : (assignEach (e :: es) X.env).map (·.2) = assign e X.env :: (assignEach es X.env).map (·.2) := by rfl) : PGs X (e :: es) (gCons t u) := by
  intro pins s σ H vs us Q I r h
  obtain ⟨v, vr, e1, h⟩ := h
  subst e1
  cases r with
  | cons r rr =>
    rw [hs]
    refine assignInOrder_cons (thn (h1 pins s σ H _ _ _ I r h) fun _ s1 ⟨σ1, H1, I1, q1⟩ => ?_)
    exact h2 pins s1 σ1 H1 _ _ Q I1 rr q1
def gTup (K : PySem.W.Frag) (n : Nat) (t : TGs) : TG := fun v σ H Q => ∃ a xs, v = .ref a ∧ SqT K H a xs ∧ xs.length = n ∧ t xs σ H Q
theorem pg_tup {es : List Expr} {k : Nat} {t : TGs} {n : Nat} (hc : X.calm = true) (h : PGs X es t)
    (hn : (assignEach es X.env).length = n := by rfl) (hst : (assignEach es X.env).findIdx? (·.1) = none := by rfl) : PG X (.Tuple es k pos) (gTup X.K n t) := by
  intro pins s σ H v u Q I r hw
  obtain ⟨a, xs, e1, hq, hl, hw⟩ := hw
  subst e1
  cases r
  obtain ⟨its, rv, ht, hz⟩ := I.tuple hq
  refine assign_Tuple_tuple (I.ok.hd hc) ht (by simp [hn, ← hl, rv.length]) hst fun h' hx => ?_
  have I1 : Inv X pins σ H { s with heap := h' } := I.kept (t' := s.toks) fun b o e => hx b o (Nat.ne_of_lt (Heap.lt_size e)) e
  exact h pins _ σ H xs _ Q I1 (by simpa using rv) hw
def tAsg (te : TE) (g : TG) : TS := fun D σ H => te σ H fun x H1 => g x σ H1 D.nx
theorem ps_set {i : Nat} {x : Str} {e : Expr} {te : TE} {pos' : Pos} (hN : X.N.Nodup) (hi : X.N[i]? = some x) (hx : Loc X.env.scope x) (he : PE X e te) (hs : swapsWith e (some (.Name x pos')) pos.line X.env = pure false := by rfl) (hf : X.fn x = true ∨ X.env.scope.names.lookup x = some .local := by first | exact .inl rfl | exact .inr rfl | assumption) :
    PS X (.Assign [.Name x pos'] e pos) (tAsg te (gName i)) := by
  intro pins s σ H D I h
  refine wpAny_Assign_Name (thn (he pins s σ H _ I h) fun v s1 ⟨y, H1, I1, r1, q1⟩ => ?_) hs
  exact store_ok I1 hN hi hx r1 (fun s2 I2 => ⟨_, H1, I2, q1⟩) hf
def tAug (i : Nat) (te : TE) (ti : TIp) : TS := fun D σ H => ∃ x, σ[i]? = some (some x) ∧ te σ H fun y H1 => ti x y H1 fun z H2 => D.nx (σ.set i (some z)) H2
theorem ps_aug {i : Nat} {x : Str} {e : Expr} {te : TE} {op : Operator} {ti : TIp} {pos' : Pos} (hN : X.N.Nodup) (hi : X.N[i]? = some x) (hx : Loc X.env.scope x) (he : PE X e te) (ho : PIp X op ti) (hf : X.fn x = true ∨ X.env.scope.names.lookup x = some .local := by first | exact .inl rfl | exact .inr rfl | assumption) :
    PS X (.AugAssign (.Name x pos') op e pos) (tAug i te ti) := by
  intro pins s σ H D I h
  obtain ⟨v, e1, h⟩ := h
  obtain ⟨m, hn, hl⟩ := I.loc
  have vis : Vis X.env.scope x := by rcases hx with k | k; exact .inl k; exact .inr (.inl k)
  obtain ⟨u, r, l⟩ := hl i x v hi e1 vis
  refine wpAny_AugAssign_Name ?_
  have go : wpAny (model X.prog X.w) X.A (eval e X.env) (fun w s₂ => wpAny (model X.prog X.w) X.A (inplaceOp op u w) (fun r s₃ => wpAny (model X.prog X.w) X.A (storeName X.env x r) (fun _ => SP X pins D .next) X.xe s₃) X.xe s₂) X.xe s := by
    refine thn (he pins s σ H _ I h) fun w s1 ⟨y, H1, I1, r1, q1⟩ => ?_
    refine thn (ho pins s1 σ H1 v y u w _ I1 r r1 q1) fun z s2 ⟨zv, H2, I2, r2, q2⟩ => ?_
    exact store_ok I2 hN hi hx r2 (fun s3 I3 => ⟨_, H2, I3, q2⟩) hf
  rcases l with ⟨hk, hm⟩ | ⟨hk, c, hc, hcell⟩
  · exact wpAny_loadName_local I.ok.kind hk hn hm go
  · rcases hk with hk | hk
    · exact wpAny_loadName_cell I.ok.kind hk hc hcell go
    · rcases hx with k | k
      · have : X.env.scope.names.lookup x = some .free := hk
        rw [k] at this; cases this
      · have : X.env.scope.names.lookup x = some .free := hk
        rw [k] at this; cases this
def tAugS (to ti te : TE) (tget : V → V → Hp → VK → Prop) (tip : TIp) (tset : TSet) : TS := fun D σ H => to σ H fun o H1 => ti σ H1 fun i H2 => tget o i H2 fun x H3 => te σ H3 fun y H4 => tip x y H4 fun z H5 => tset o i z H5 fun H6 => D.nx σ H6
def PGet (X : Cx) (t : V → V → Hp → VK → Prop) : Prop :=
  ∀ (pins : List (Addr × Obj)) (s : Shared) (σ : St) (H : Hp) (o i : V) (ov iv : Value) (Q : VK), Inv X pins σ H s → RelV o ov → RelV i iv → t o i H Q →
    wpAny (model X.prog X.w) X.A (getItem ov iv) (EP X pins σ Q) X.xe s
theorem ps_augS {o i e : Expr} {to ti te : TE} {tget : V → V → Hp → VK → Prop} {tip : TIp} {tset : TSet} {op : Operator} {tpos : Pos} (ho : PE X o to) (hi : PE X i ti) (hg : PGet X tget) (he : PE X e te) (hp : PIp X op tip) (hs : PSet X tset)
    (ha : ∀ ov iv new, augStore i ov iv new = (do holding [new, ov, iv] (setItem ov iv new); release [new, ov, iv] []; pure .next) := by intros; rfl) : PS X (.AugAssign (.Subscript o i tpos) op e pos) (tAugS to ti te tget tip tset) := by
  intro pins s σ H D I h
  refine wpAny_AugAssign_SubscriptAny (thn (ho pins s σ H _ I h) fun ov s1 ⟨x1, H1, I1, r1, q1⟩ => ?_) ha
  refine thn (hi pins s1 σ H1 _ I1 q1) fun iv s2 ⟨x2, H2, I2, r2, q2⟩ => ?_
  refine thn (hg pins s2 σ H2 x1 x2 ov iv _ I2 r1 r2 q2) fun old s3 ⟨x3, H3, I3, r3, q3⟩ => ?_
  refine thn (he pins s3 σ H3 _ I3 q3) fun v s4 ⟨x4, H4, I4, r4, q4⟩ => ?_
  refine thn (hp pins s4 σ H4 x3 x4 old v _ I4 r3 r4 q4) fun new s5 ⟨x5, H5, I5, r5, q5⟩ => ?_
  exact thn (hs pins s5 σ H5 x1 x2 x5 ov iv new _ I5 r1 r2 r5 q5) fun _ s6 ⟨H6, I6, q6⟩ => ⟨σ, H6, I6, q6⟩
end
section
variable {X : Cx} {pos : Pos}
def tWhile (c : TT) (tb : TS) : TS := fun D σ H => ∃ W : Nat → St → Hp → Prop, (∃ m, W m σ H) ∧ ∀ m σ H, W m σ H →
  c σ H fun b H1 => if b = true then ∃ N : St → Hp → Prop, (∀ σ' H', N σ' H' → ∃ m', m' < m ∧ W m' σ' H') ∧ tb { D with nx := N, ct := N, bk := D.nx } σ H1 else D.nx σ H1
theorem ps_while {c : Expr} {body : List Stmt} {tc : TT} {tb : TS} (hp : PassesOwn (model X.prog X.w) X.A X.env X.xe) (hc : PT X c tc) (hb : PSs X body tb) : PS X (.While c body [] pos) (tWhile tc tb) := by
  intro pins s σ H D I h
  obtain ⟨W, ⟨m0, w0⟩, turn⟩ := h
  refine wpAny_While (codeAny_whileLoop (fun n s' => ∃ σ' H', Inv X pins σ' H' s' ∧ W n σ' H') ?_ m0 ⟨σ, H, I, w0⟩)
  rintro n s1 ⟨σ1, H1, I1, w1⟩
  refine wpAny_passesOwn hp (thn (hc pins s1 σ1 H1 _ I1 (turn n σ1 H1 w1)) fun b s2 ⟨H2, I2, q2⟩ => ?_)
  cases b with
  | true =>
    obtain ⟨N, hN, q2⟩ := q2
    rw [if_pos rfl]
    refine wpAny_passesOwn hp (thn (hb pins s2 σ1 H2 _ I2 q2) fun f s3 q3 => ?_)
    cases f with
    | next =>
      obtain ⟨σ3, H3, I3, n3⟩ := q3
      obtain ⟨m', hm, w3⟩ := hN σ3 H3 n3
      exact ⟨m', hm, σ3, H3, I3, w3⟩
    | cont =>
      obtain ⟨σ3, H3, I3, n3⟩ := q3
      obtain ⟨m', hm, w3⟩ := hN σ3 H3 n3
      exact ⟨m', hm, σ3, H3, I3, w3⟩
    | brk => exact q3
    | ret v => exact q3
  | false =>
    rw [if_neg Bool.false_ne_true]
    exact wpAny_execs_nil ⟨σ1, H2, I2, q2⟩
end
structure It where
  go : Nat → Hp → Prop
  yld : Nat → Hp → V → Hp → Prop
  stop : Nat → Hp → Prop
def FpOk (X : Cx) (pins : List (Addr × Obj)) (H : Hp) (b : Addr) : Prop :=
  H b = none ∧ b ≠ X.env.locals ∧ b ∉ X.fs ∧ (b ∈ X.ex ∨ X.s_0.heap.objs.size ≤ b) ∧ (∀ x c, X.env.cells.lookup x = some c → c ≠ b) ∧ ∀ p ∈ X.pn ++ pins, p.1 ≠ b
theorem Inv.fpOk {X : Cx} {pins : List (Addr × Obj)} {σ : St} {H H' : Hp} {s : Shared} {b : Addr} (I : Inv X pins σ H s) (hb : s.heap.objs.size ≤ b) (hn : H' b = none) : FpOk X pins H' b := by
  refine ⟨hn, Nat.ne_of_gt (Nat.lt_of_lt_of_le I.lt hb), I.nofs hb, .inr (Nat.le_trans I.sz hb), fun x c e z => ?_, fun p hp z => ?_⟩
  · obtain ⟨v, q⟩ := I.cell x c e
    exact absurd (Nat.lt_of_lt_of_le q.lt (by rw [z]; exact hb)) (Nat.lt_irrefl _)
  · exact absurd (Nat.lt_of_lt_of_le (Heap.lt_size (I.pin p hp).1) (by rw [z]; exact hb)) (Nat.lt_irrefl _)
structure Turn (P : Program) (w : World) (K : PySem.W.Frag) (tg : Expr) (J : It) (fp : List Addr) (it : Addr) (tn : Nat → Heap → Prop) : Prop where
  mem : it ∈ fp
  obj : ∀ i h, tn i h → ∀ b ∈ fp, ∃ o, h.get? b = some o ∧ ∀ v, o.data ≠ .cell v
  keep : ∀ i h h', tn i h → (∀ b ∈ fp, ∀ o, h.get? b = some o → h'.get? b = some o) → tn i h'
  item : ∀ (X : Cx), X.prog = P → X.w = w → X.K = K → X.calm = true → ∀ (i : Nat) (pins : List (Addr × Obj)) (s : Shared) (σ : St) (H : Hp) (E : Value → Shared → Prop), Inv X pins σ H s → (∀ b ∈ fp, FpOk X pins H b) → tn i s.heap → J.go i H →
    wpAny (model P w) X.A (pyNext (.ref it)) (fun r s1 => ∃ u, r = some u ∧
      wpAny (model P w) X.A (letOwnedTupleGo tg (.ref it) u) (fun _ s2 => ∃ x H', Inv X pins σ H' s2 ∧ RelV x u ∧ J.yld i H x H' ∧ tn (i + 1) s2.heap ∧ ∀ b ∈ fp, H' b = none) E s1) E s
  done : ∀ (X : Cx), X.prog = P → X.w = w → X.K = K → X.calm = true → ∀ (i : Nat) (pins : List (Addr × Obj)) (s : Shared) (σ : St) (H : Hp) (E : Value → Shared → Prop), Inv X pins σ H s → (∀ b ∈ fp, FpOk X pins H b) → tn i s.heap → J.stop i H →
    wpAny (model P w) X.A (pyNext (.ref it)) (fun r s1 => r = none ∧ Inv X pins σ H s1) E s
  self : ∀ (A : Around) (i : Nat) (s : Shared) (Q : Value → Shared → Prop) (E : Value → Shared → Prop), tn i s.heap → Q (.ref it) s → wpAny (model P w) A (pyIter (.ref it)) Q E s
abbrev TI := St → Hp → (It → Hp → Prop) → Prop
def PIE (X : Cx) (pins : List (Addr × Obj)) (σ : St) (tg : Expr) (R : It → Hp → Prop) (itv : Value) (s2 : Shared) : Prop :=
  ∃ (it : Addr) (fp : List Addr) (tn : Nat → Heap → Prop) (J : It) (H' : Hp), itv = .ref it ∧ Inv X pins σ H' s2 ∧ Turn X.prog X.w X.K tg J fp it tn ∧ tn 0 s2.heap ∧ (∀ b ∈ fp, FpOk X pins H' b) ∧ R J H'
def PI (X : Cx) (tg iter : Expr) (wi : TI) : Prop :=
  ∀ (pins : List (Addr × Obj)) (s : Shared) (σ : St) (H : Hp) (R : It → Hp → Prop), Inv X pins σ H s → wi σ H R →
    wpAny (model X.prog X.w) X.A (eval iter X.env) (fun v s1 => wpAny (model X.prog X.w) X.A (pyIter v) (PIE X pins σ tg R) X.xe s1) X.xe s
theorem go_of {M : Model} {A : Around} {E : Value → Shared → Prop} {s : Shared} {tg : Expr} {it : Addr} {u : Value} {o : Obj} {n : String} {vs : Array Value} {Q : Unit → Shared → Prop} (ho : s.heap.get? it = some o) (hc : o.cls = .type n) (hd : o.data = .fields vs)
    (hn : ["enumerate", "zip", "dict_itemiterator", "dict_reverseitemiterator", "odict_iterator", "itertools.zip_longest", "itertools.pairwise"].contains n = false) (hQ : Q () s) : wpAny M A (letOwnedTupleGo tg (.ref it) u) Q E s := by
  unfold letOwnedTupleGo
  cases tg <;> first
    | exact wpAny_pure hQ
    | (cases u <;> first
        | exact wpAny_pure hQ
        | (refine wpAny_bind (wpAny_load ho ?_)
           rw [hc, hd]
           show wpAny M A (if (["enumerate", "zip", "dict_itemiterator", "dict_reverseitemiterator", "odict_iterator", "itertools.zip_longest", "itertools.pairwise"].contains n && vs[0]? == some (rawInt _)) = true then _ else _) Q E s
           rw [if_neg (by intro h; rw [hn, Bool.false_and] at h; cases h)]
           exact wpAny_pure hQ))
def Itl (K : PySem.W.Frag) (a : Addr) : It :=
  ⟨fun i H => ∃ xs x, SqL K H a xs ∧ xs[i]? = some x, fun i H x H' => H' = H ∧ ∀ xs, SqL K H a xs → xs[i]? = some x, fun i H => ∃ xs, SqL K H a xs ∧ xs.length ≤ i⟩
def Itt (K : PySem.W.Frag) (a : Addr) : It :=
  ⟨fun i H => ∃ xs x, SqT K H a xs ∧ xs[i]? = some x, fun i H x H' => H' = H ∧ ∀ xs, SqT K H a xs → xs[i]? = some x, fun i H => ∃ xs, SqT K H a xs ∧ xs.length ≤ i⟩
def Itr (lo : Int) (n : Nat) : It := ⟨fun i _ => i < n, fun i H x H' => H' = H ∧ x = .int (lo + i), fun i _ => n ≤ i⟩
theorem turn_list {P : Program} {w : World} {K : PySem.W.Frag} {tg : Expr} (a it : Addr) : Turn P w K tg (Itl K a) [it] it (fun i h => h.IsListIter it a i) where
  mem := by simp
  obj := fun i h st b hb => by
    have e : b = it := by simpa using hb
    subst e
    obtain ⟨o, e, c, d⟩ := st
    exact ⟨o, e, fun v z => by rw [d] at z; cases z⟩
  keep := fun i h h' st k => st.at fun o e => k it (by simp) o e
  item := by
    intro X hP hw hK hc i pins s σ H E I hf st hg
    subst hP hw hK
    obtain ⟨xs, x, hq, hx⟩ := hg
    obtain ⟨its, rv, p, hz⟩ := I.list hq
    obtain ⟨u, hu, ru⟩ := rv.get hx
    obtain ⟨f0, f1, f2, f3, f4, f5⟩ := hf it (by simp)
    refine wpAny_pyNext_list_item st p.isList (x := u) (by simpa using hu) fun h' st' sb => ?_
    have I1 : Inv X pins σ H { s with heap := h' } := I.turned (t' := s.toks) (fun b o hb e => (sb.2 b hb).trans e) f0 f1 f3 f4 f5
    obtain ⟨o, e, c, d⟩ := id st'
    exact ⟨u, rfl, go_of (s := { s with heap := h' }) e c d (by decide) ⟨x, H, I1, ru, ⟨rfl, fun ys hy => by rw [I.list_inj hy hq]; exact hx⟩, st', fun b hb => (hf b hb).1⟩⟩
  done := by
    intro X hP hw hK hc i pins s σ H E I hf st hg
    subst hP hw hK
    obtain ⟨xs, hq, hx⟩ := hg
    obtain ⟨its, rv, p, hz⟩ := I.list hq
    obtain ⟨f0, f1, f2, f3, f4, f5⟩ := hf it (by simp)
    have hl := rv.length
    exact wpAny_pyNext_list_end (I.ok.hd hc) st p.isList (by simp; omega) fun h' eb => ⟨rfl, I.turned (t' := s.toks) (fun b o hb e => eb b o hb e) f0 f1 f3 f4 f5⟩
  self := fun _ _ _ _ _ st h => wpAny_pyIter_listiter st h
theorem turn_tuple {P : Program} {w : World} {K : PySem.W.Frag} {tg : Expr} (a it : Addr) : Turn P w K tg (Itt K a) [it] it (fun i h => h.IsTupleIter it a i) where
  mem := by simp
  obj := fun i h st b hb => by
    have e : b = it := by simpa using hb
    subst e
    obtain ⟨o, e, c, d⟩ := st
    exact ⟨o, e, fun v z => by rw [d] at z; cases z⟩
  keep := fun i h h' st k => st.at fun o e => k it (by simp) o e
  item := by
    intro X hP hw hK hc i pins s σ H E I hf st hg
    subst hP hw hK
    obtain ⟨xs, x, hq, hx⟩ := hg
    obtain ⟨its, rv, p, hz⟩ := I.tuple hq
    obtain ⟨u, hu, ru⟩ := rv.get hx
    obtain ⟨f0, f1, f2, f3, f4, f5⟩ := hf it (by simp)
    refine wpAny_pyNext_tuple_item st (show s.heap.IsTuple a its.toArray from p) (x := u) (by simpa using hu) fun h' st' sb => ?_
    have I1 : Inv X pins σ H { s with heap := h' } := I.turned (t' := s.toks) (fun b o hb e => (sb.2 b hb).trans e) f0 f1 f3 f4 f5
    obtain ⟨o, e, c, d⟩ := id st'
    exact ⟨u, rfl, go_of (s := { s with heap := h' }) e c d (by decide) ⟨x, H, I1, ru, ⟨rfl, fun ys hy => by rw [I.tuple_inj hy hq]; exact hx⟩, st', fun b hb => (hf b hb).1⟩⟩
  done := by
    intro X hP hw hK hc i pins s σ H E I hf st hg
    subst hP hw hK
    obtain ⟨xs, hq, hx⟩ := hg
    obtain ⟨its, rv, p, hz⟩ := I.tuple hq
    obtain ⟨f0, f1, f2, f3, f4, f5⟩ := hf it (by simp)
    have hl := rv.length
    exact wpAny_pyNext_tuple_end (I.ok.hd hc) st (show s.heap.IsTuple a its.toArray from p) (by simp; omega) fun h' eb => ⟨rfl, I.turned (t' := s.toks) (fun b o hb e => eb b o hb e) f0 f1 f3 f4 f5⟩
  self := fun _ _ _ _ _ st h => wpAny_pyIter_tupleiter st h
theorem turn_range {P : Program} {w : World} {K : PySem.W.Frag} {tg : Expr} (it : Addr) (lo : Int) (n : Nat) : Turn P w K tg (Itr lo n) [it] it (fun i h => IsRangeIter h it (lo + (i : Nat) * 1) ((n : Int) - (i : Nat)) 1) where
  mem := by simp
  obj := fun i h st b hb => by
    have e : b = it := by simpa using hb
    subst e
    exact ⟨_, st, fun v z => by
      have z' : Data.fields _ = Data.cell v := z
      cases z'⟩
  keep := fun i h h' st k => k it (by simp) _ st
  item := by
    intro X hP hw hK hc i pins s σ H E I hf st hg
    subst hP hw hK
    obtain ⟨f0, f1, f2, f3, f4, f5⟩ := hf it (by simp)
    have W := Walks.range (prog := X.prog) (w := X.w) (I.ok.hd hc) it lo 1 n
    refine W.item i s _ _ hg st fun v h' tk hv st' kk => ?_
    obtain ⟨t, rfl⟩ := hv
    have I1 : Inv X pins σ H { s with heap := h', toks := tk } := I.turned (fun b o hb e => kk b o (by simpa using hb) e) f0 f1 f3 f4 f5
    refine ⟨_, rfl, go_of (s := { s with heap := h', toks := tk }) (n := "range_iterator") st' rfl rfl (by decide) ⟨.int (lo + i), H, I1, ⟨t, ?_⟩, ⟨rfl, rfl⟩, st', fun b hb => (hf b hb).1⟩⟩
    rw [Int.mul_one]
  done := by
    intro X hP hw hK hc i pins s σ H E I hf st hg
    subst hP hw hK
    obtain ⟨f0, f1, f2, f3, f4, f5⟩ := hf it (by simp)
    exact wpAny_pyNext_range_end (I.ok.hd hc) st (by have : n ≤ i := hg; omega) fun h' eb => ⟨rfl, I.turned (t' := s.toks) (fun b o hb e => eb b o hb e) f0 f1 f3 f4 f5⟩
  self := fun _ _ _ _ _ st h => wpAny_pyIter_rangeiter st h
end L2
namespace L2
open PySem PySem.Spec PyProof.Rows
section
variable {X : Cx} {tg : Expr}
def iList (K : PySem.W.Frag) (tl : TE) : TI := fun σ H R => tl σ H fun x H1 => ∃ a, x = .ref a ∧ (∃ xs, SqL K H1 a xs) ∧ R (Itl K a) H1
def iTup (K : PySem.W.Frag) (tl : TE) : TI := fun σ H R => tl σ H fun x H1 => ∃ a, x = .ref a ∧ (∃ xs, SqT K H1 a xs) ∧ R (Itt K a) H1
theorem pi_list {l : Expr} {tl : TE} (hl : PE X l tl) : PI X tg l (iList X.K tl) := by
  intro pins s σ H R I h
  refine thn (hl pins s σ H _ I h) fun v s1 ⟨x, H1, I1, r1, q1⟩ => ?_
  obtain ⟨a, e, ⟨xs, hq⟩, q⟩ := q1
  subst e
  cases r1
  obtain ⟨its, rv, p, hz⟩ := I1.list hq
  refine wpAny_pyIter_list p.isList ?_
  refine ⟨s1.heap.objs.size, [s1.heap.objs.size], _, _, H1, rfl, I1.kept (t' := s1.toks) fun b o e => Heap.get?_push_of_some _ e, turn_list a _, ⟨_, Heap.get?_push_size _ rfl, rfl, rfl⟩, fun b hb => ?_, q⟩
  have e : b = s1.heap.objs.size := by simpa using hb
  subst e
  exact I1.fpOk (Nat.le_refl _) (I1.hok.fresh (Nat.le_refl _))
theorem pi_tup {l : Expr} {tl : TE} (hl : PE X l tl) : PI X tg l (iTup X.K tl) := by
  intro pins s σ H R I h
  refine thn (hl pins s σ H _ I h) fun v s1 ⟨x, H1, I1, r1, q1⟩ => ?_
  obtain ⟨a, e, ⟨xs, hq⟩, q⟩ := q1
  subst e
  cases r1
  obtain ⟨its, rv, p, hz⟩ := I1.tuple hq
  refine wpAny_pyIter_tuple (show s1.heap.IsTuple a its.toArray from p) ?_
  refine ⟨s1.heap.objs.size, [s1.heap.objs.size], _, _, H1, rfl, I1.kept (t' := s1.toks) fun b o e => Heap.get?_push_of_some _ e, turn_tuple a _, ⟨_, Heap.get?_push_size _ rfl, rfl, rfl⟩, fun b hb => ?_, q⟩
  have e : b = s1.heap.objs.size := by simpa using hb
  subst e
  exact I1.fpOk (Nat.le_refl _) (I1.hok.fresh (Nat.le_refl _))
theorem range_it {pins : List (Addr × Obj)} {σ : St} {H : Hp} {s : Shared} {R : It → Hp → Prop} {E : Value → Shared → Prop} {lo hi : Int} {t u v : Tok} {tk : Nat} (I : Inv X pins σ H s) (h1 : -(2 ^ 62) ≤ lo) (h2 : lo < 2 ^ 62) (h3 : -(2 ^ 62) ≤ hi) (h4 : hi < 2 ^ 62)
    (q : R (Itr lo (hi - lo).toNat) H) : wpAny (model X.prog X.w) X.A (pyIter (.ref s.heap.objs.size)) (PIE X pins σ tg R) E { s with heap := s.heap.push { cls := .type "range", data := .fields #[.int lo t, .int hi u, .int 1 v] }, toks := tk } := by
  refine wpAny_pyIter_range (IsRange.new ..) (small_one h1 h2 h3 h4) ?_
  have I1 : Inv X pins σ H { s with heap := s.heap.push { cls := .type "range", data := .fields #[.int lo t, .int hi u, .int 1 v] }, toks := tk } := I.kept fun b o e => Heap.get?_push_of_some _ e
  refine ⟨(s.heap.push { cls := .type "range", data := .fields #[.int lo t, .int hi u, .int 1 v] }).objs.size, [(s.heap.push { cls := .type "range", data := .fields #[.int lo t, .int hi u, .int 1 v] }).objs.size], _, _, H, rfl,
    I1.kept (t' := tk) fun b o e => Heap.get?_push_of_some _ e, turn_range _ lo (hi - lo).toNat, ?_, fun b hb => ?_, q⟩
  · have e1 : lo + ((0 : Nat) : Int) * 1 = lo := by simp
    have e2 : (((hi - lo).toNat : Nat) : Int) - ((0 : Nat) : Int) = Builtin.Range.rangeSize lo hi 1 := by rw [rangeSize_one]; split <;> omega
    show IsRangeIter _ _ (lo + ((0 : Nat) : Int) * 1) ((((hi - lo).toNat : Nat) : Int) - ((0 : Nat) : Int)) 1
    rw [e1, e2]
    exact Heap.get?_push_size _ rfl
  · have e : b = (s.heap.push { cls := .type "range", data := .fields #[.int lo t, .int hi u, .int 1 v] }).objs.size := by simpa using hb
    subst e
    exact I1.fpOk (Nat.le_refl _) (I1.hok.fresh (Nat.le_refl _))
def iRng1 (ta : TA) : TI := fun σ H R => ta σ H fun vs H1 => ∃ j : Int, vs = [.int j] ∧ -(2 ^ 62) ≤ j ∧ j < 2 ^ 62 ∧ R (Itr 0 j.toNat) H1
theorem pi_range1 {a : Expr} {ta : TA} {p pos : Pos} (hg : Gl X "range") (hm : X.mg "range" = none) (ha : PA X [a] ta) (hs : starEach [a] X.env = [(false, eval a X.env)] := by rfl) : PI X tg (.Call (.Name "range" p) [a] [] pos) (iRng1 ta) := by
  intro pins s σ H R I h
  refine Call_ (ld_blt I hg hm boot_range (PyProof.Rows.callWith_type1 (thn (ha pos pins s σ H _ I h) fun us s1 ⟨vs, H1, I1, r1, q1⟩ => ?_) hs rfl))
  obtain ⟨j, e, q1, q2, q⟩ := q1
  subst e
  cases r1 with
  | cons r rr =>
    cases rr
    obtain ⟨t, rfl⟩ := r
    exact call_range_1 (range_it I1 (by omega) (by omega) q1 q2 (by simpa using q))
def tFor (wi : TI) (g : TG) (tb : TS) : TS := fun D σ H => wi σ H fun J H1 => ∃ W : Nat → Nat → St → Hp → Prop, (∃ m, W 0 m σ H1) ∧ ∀ i m σ H, W i m σ H →
  (J.stop i H ∧ D.nx σ H) ∨ (J.go i H ∧ ∃ N : St → Hp → Prop, (∀ σ' H', N σ' H' → ∃ m', m' < m ∧ W (i + 1) m' σ' H') ∧ ∀ x H', J.yld i H x H' → g x σ H' fun σ2 H2 => tb { D with nx := N, ct := N, bk := D.nx } σ2 H2)
def pinsAt (fp : List Addr) (h : Heap) : List (Addr × Obj) := fp.filterMap fun b => (h.get? b).map fun o => (b, o)
theorem mem_pinsAt {fp : List Addr} {h : Heap} {b : Addr} {o : Obj} (hb : b ∈ fp) (e : h.get? b = some o) : (b, o) ∈ pinsAt fp h := List.mem_filterMap.mpr ⟨b, hb, by rw [e]; rfl⟩
theorem of_pinsAt {fp : List Addr} {h : Heap} {p : Addr × Obj} (hp : p ∈ pinsAt fp h) : p.1 ∈ fp ∧ h.get? p.1 = some p.2 := by
  obtain ⟨b, hb, e⟩ := List.mem_filterMap.mp hp
  cases q : h.get? b with
  | none => rw [q] at e; cases e
  | some o =>
    rw [q] at e
    have e' : (b, o) = p := Option.some.inj e
    subst e'
    exact ⟨hb, q⟩
theorem Inv.pinned {pins : List (Addr × Obj)} {σ : St} {H : Hp} {s : Shared} {fp : List Addr} (I : Inv X pins σ H s) (hf : ∀ b ∈ fp, FpOk X pins H b) (ho : ∀ b ∈ fp, ∃ o, s.heap.get? b = some o ∧ ∀ v, o.data ≠ .cell v) : Inv X (pins ++ pinsAt fp s.heap) σ H s :=
  I.pins_of fun p hp => (List.mem_append.mp hp).elim (fun z => I.pin p (List.mem_append_right _ z)) fun z => by
    obtain ⟨hb, e⟩ := of_pinsAt z
    obtain ⟨f0, f1, f2, _⟩ := hf p.1 hb
    obtain ⟨o, e', d⟩ := ho p.1 hb
    rw [e] at e'; cases e'
    exact ⟨e, f0, f1, f2, d⟩
theorem Inv.unpinned {pins pl : List (Addr × Obj)} {σ : St} {H : Hp} {s : Shared} (I : Inv X (pins ++ pl) σ H s) : Inv X pins σ H s := I.pins_of fun p hp => I.pin p (List.mem_append_right _ (List.mem_append_left _ hp))
theorem ps_for {iter : Expr} {body : List Stmt} {wi : TI} {g : TG} {tb : TS} {pos : Pos} (hp : PassesOwn (model X.prog X.w) X.A X.env X.xe) (hc : X.calm = true) (hi : PI X tg iter wi) (hg : PG X tg g) (hb : PSs X body tb)
    (hs : ∀ x, foldedSetIterable iter X.env x = pure x := by intro _; rfl) : PS X (.For tg iter body [] pos) (tFor wi g tb) := by
  intro pins s σ H D I h
  refine wpAny_For (thn (hi pins s σ H _ I h) fun v s1 h1 => thn h1 fun itv s2 h2 => ?_) hs
  obtain ⟨it, fp, tn, J, H2, e, I2, T, st2, f2, W, ⟨m0, w0⟩, turn⟩ := h2
  subst e
  -- what stays true of the iterator's objects through the loop
  have stat : ∀ {H' : Hp}, (∀ b ∈ fp, H' b = none) → ∀ b ∈ fp, FpOk X pins H' b := fun hn b hb => ⟨hn b hb, (f2 b hb).2⟩
  refine codeAny_forLoop_any (fun n s' => ∃ i σ' H', Inv X pins σ' H' s' ∧ tn i s'.heap ∧ (∀ b ∈ fp, H' b = none) ∧ W i n σ' H') ?_ m0 ⟨0, σ, H2, I2, st2, fun b hb => (f2 b hb).1, w0⟩
  rintro n s3 ⟨i, σ3, H3, I3, st3, fr3, w3⟩
  rcases turn i n σ3 H3 w3 with ⟨stop, qn⟩ | ⟨go, N, hN, step⟩
  · refine wpAny_passesOwn hp (thn (T.done X rfl rfl rfl hc i pins s3 σ3 H3 X.xe I3 (stat fr3) st3 stop) fun r s4 ⟨hr, I4⟩ => ?_)
    subst hr
    exact wpAny_execs_nil ⟨σ3, H3, I4, qn⟩
  · refine wpAny_passesOwn hp (thn (T.item X rfl rfl rfl hc i pins s3 σ3 H3 X.xe I3 (stat fr3) st3 go) fun r s4 ⟨u, hr, h4⟩ => ?_)
    subst hr
    refine wpAny_passesOwn hp (thn h4 fun _ s5 ⟨x, H5, I5, r5, y5, st5, fr5⟩ => ?_)
    have I5' := I5.pinned (stat fr5) (T.obj _ _ st5)
    refine wpAny_passesOwn hp (thn (hg _ s5 σ3 H5 x u _ I5' r5 (step x H5 y5)) fun _ s6 ⟨σ6, H6, I6, q6⟩ => ?_)
    refine wpAny_passesOwn hp (thn (hb _ s6 σ6 H6 _ I6 q6) fun f s7 q7 => ?_)
    have again : ∀ {σ7 : St} {H7 : Hp}, Inv X (pins ++ pinsAt fp s5.heap) σ7 H7 s7 → N σ7 H7 → ∃ m, m < n ∧ ∃ i σ' H', Inv X pins σ' H' s7 ∧ tn i s7.heap ∧ (∀ b ∈ fp, H' b = none) ∧ W i m σ' H' := fun {σ7 H7} I7 n7 => by
      obtain ⟨m', hm, w7⟩ := hN σ7 H7 n7
      refine ⟨m', hm, i + 1, σ7, H7, I7.unpinned, T.keep _ _ _ st5 fun b hb o e => (I7.pin (b, o) (List.mem_append_right _ (List.mem_append_right _ (mem_pinsAt hb e)))).1, fun b hb => ?_, w7⟩
      obtain ⟨o, e, d⟩ := T.obj _ _ st5 b hb
      exact (I7.pin (b, o) (List.mem_append_right _ (List.mem_append_right _ (mem_pinsAt hb e)))).2.1
    cases f with
    | next => obtain ⟨σ7, H7, I7, n7⟩ := q7; exact again I7 n7
    | cont => obtain ⟨σ7, H7, I7, n7⟩ := q7; exact again I7 n7
    | brk => obtain ⟨σ7, H7, I7, q7⟩ := q7; exact ⟨σ7, H7, I7.unpinned, q7⟩
    | ret v => obtain ⟨x7, σ7, H7, I7, r7, q7⟩ := q7; exact ⟨x7, σ7, H7, I7.unpinned, r7, q7⟩
end
theorem for_list {K : PySem.W.Frag} {a : Addr} {xs : List V} {g : TG} {tb : TS} {D : Ends} {σ : St} {H : Hp} (Pv : Nat → St → Hp → Prop) (h0 : Pv 0 σ H) (hl : ∀ i σ H, i ≤ xs.length → Pv i σ H → SqL K H a xs)
    (hs : ∀ i x σ H, xs[i]? = some x → Pv i σ H → g x σ H fun σ2 H2 => tb { D with nx := Pv (i + 1), ct := Pv (i + 1), bk := D.nx } σ2 H2) (hd : ∀ σ H, Pv xs.length σ H → D.nx σ H) :
    ∃ W : Nat → Nat → St → Hp → Prop, (∃ m, W 0 m σ H) ∧ ∀ i m σ H, W i m σ H →
      ((Itl K a).stop i H ∧ D.nx σ H) ∨ ((Itl K a).go i H ∧ ∃ N : St → Hp → Prop, (∀ σ' H', N σ' H' → ∃ m', m' < m ∧ W (i + 1) m' σ' H') ∧ ∀ x H', (Itl K a).yld i H x H' → g x σ H' fun σ2 H2 => tb { D with nx := N, ct := N, bk := D.nx } σ2 H2) := by
  refine ⟨fun i m σ H => m = xs.length - i ∧ i ≤ xs.length ∧ Pv i σ H, ⟨xs.length, by simp, Nat.zero_le _, h0⟩, ?_⟩
  rintro i m σ H ⟨rfl, hi, p⟩
  have q := hl i σ H hi p
  by_cases hlt : i < xs.length
  · refine .inr ⟨⟨xs, xs[i], q, by simp [hlt]⟩, Pv (i + 1), fun σ' H' p' => ⟨xs.length - (i + 1), by omega, rfl, hlt, p'⟩, fun x H' y => ?_⟩
    obtain ⟨e, y⟩ := y
    subst e
    exact hs i x σ _ (y xs q) p
  · have e : i = xs.length := by omega
    subst e
    exact .inl ⟨⟨xs, q, Nat.le_refl _⟩, hd σ H p⟩
theorem for_tup {K : PySem.W.Frag} {a : Addr} {xs : List V} {g : TG} {tb : TS} {D : Ends} {σ : St} {H : Hp} (Pv : Nat → St → Hp → Prop) (h0 : Pv 0 σ H) (hl : ∀ i σ H, i ≤ xs.length → Pv i σ H → SqT K H a xs)
    (hs : ∀ i x σ H, xs[i]? = some x → Pv i σ H → g x σ H fun σ2 H2 => tb { D with nx := Pv (i + 1), ct := Pv (i + 1), bk := D.nx } σ2 H2) (hd : ∀ σ H, Pv xs.length σ H → D.nx σ H) :
    ∃ W : Nat → Nat → St → Hp → Prop, (∃ m, W 0 m σ H) ∧ ∀ i m σ H, W i m σ H →
      ((Itt K a).stop i H ∧ D.nx σ H) ∨ ((Itt K a).go i H ∧ ∃ N : St → Hp → Prop, (∀ σ' H', N σ' H' → ∃ m', m' < m ∧ W (i + 1) m' σ' H') ∧ ∀ x H', (Itt K a).yld i H x H' → g x σ H' fun σ2 H2 => tb { D with nx := N, ct := N, bk := D.nx } σ2 H2) := by
  refine ⟨fun i m σ H => m = xs.length - i ∧ i ≤ xs.length ∧ Pv i σ H, ⟨xs.length, by simp, Nat.zero_le _, h0⟩, ?_⟩
  rintro i m σ H ⟨rfl, hi, p⟩
  have q := hl i σ H hi p
  by_cases hlt : i < xs.length
  · refine .inr ⟨⟨xs, xs[i], q, by simp [hlt]⟩, Pv (i + 1), fun σ' H' p' => ⟨xs.length - (i + 1), by omega, rfl, hlt, p'⟩, fun x H' y => ?_⟩
    obtain ⟨e, y⟩ := y
    subst e
    exact hs i x σ _ (y xs q) p
  · have e : i = xs.length := by omega
    subst e
    exact .inl ⟨⟨xs, q, Nat.le_refl _⟩, hd σ H p⟩
theorem for_range {lo : Int} {n : Nat} {g : TG} {tb : TS} {D : Ends} {σ : St} {H : Hp} (Pv : Nat → St → Hp → Prop) (h0 : Pv 0 σ H)
    (hs : ∀ i σ H, i < n → Pv i σ H → g (.int (lo + i)) σ H fun σ2 H2 => tb { D with nx := Pv (i + 1), ct := Pv (i + 1), bk := D.nx } σ2 H2) (hd : ∀ σ H, Pv n σ H → D.nx σ H) :
    ∃ W : Nat → Nat → St → Hp → Prop, (∃ m, W 0 m σ H) ∧ ∀ i m σ H, W i m σ H →
      ((Itr lo n).stop i H ∧ D.nx σ H) ∨ ((Itr lo n).go i H ∧ ∃ N : St → Hp → Prop, (∀ σ' H', N σ' H' → ∃ m', m' < m ∧ W (i + 1) m' σ' H') ∧ ∀ x H', (Itr lo n).yld i H x H' → g x σ H' fun σ2 H2 => tb { D with nx := N, ct := N, bk := D.nx } σ2 H2) := by
  refine ⟨fun i m σ H => m = n - i ∧ i ≤ n ∧ Pv i σ H, ⟨n, by simp, Nat.zero_le _, h0⟩, ?_⟩
  rintro i m σ H ⟨rfl, hi, p⟩
  by_cases hlt : i < n
  · refine .inr ⟨hlt, Pv (i + 1), fun σ' H' p' => ⟨n - (i + 1), by omega, rfl, hlt, p'⟩, fun x H' y => ?_⟩
    obtain ⟨e, y⟩ := y
    subst e y
    exact hs i σ _ hlt p
  · have e : i = n := by omega
    subst e
    exact .inl ⟨Nat.le_refl _, hd σ H p⟩
end L2
namespace L2
open PySem PySem.Spec PyProof.Rows
abbrev R2 := V → V → Hp → VK → Prop
def OpR (X : Cx) (f : Value → Value → Sem Value) (r : R2) : Prop :=
  ∀ (pins : List (Addr × Obj)) (s : Shared) (σ : St) (H : Hp) (x y : V) (v u : Value) (Q : VK), Inv X pins σ H s → RelV x v → RelV y u → r x y H Q →
    wpAny (model X.prog X.w) X.A (f v u) (EP X pins σ Q) X.xe s
def UnR (X : Cx) (f : Value → Sem Value) (r : V → Hp → VK → Prop) : Prop :=
  ∀ (pins : List (Addr × Obj)) (s : Shared) (σ : St) (H : Hp) (x : V) (v : Value) (Q : VK), Inv X pins σ H s → RelV x v → r x H Q →
    wpAny (model X.prog X.w) X.A (f v) (EP X pins σ Q) X.xe s
def CallR (X : Cx) (f : Value) (r : List V → Hp → VK → Prop) : Prop :=
  ∀ (pins : List (Addr × Obj)) (s : Shared) (σ : St) (H : Hp) (xs : List V) (us : List Value) (Q : VK), Inv X pins σ H s → Vals xs us → r xs H Q →
    wpAny (model X.prog X.w) X.A (call f us) (EP X pins σ Q) X.xe s
def tOp (r : R2) (ta tb : TE) : TE := fun σ H Q => ta σ H fun x H1 => tb σ H1 fun y H2 => r x y H2 Q
def tUn (r : V → Hp → VK → Prop) (ta : TE) : TE := fun σ H Q => ta σ H fun x H1 => r x H1 Q
def rI (C : Int → Int → Prop) (g : Int → Int → V) : R2 := fun x y H Q => ∃ i j, x = .int i ∧ y = .int j ∧ C i j ∧ Q (g i j) H
def rI0 (g : Int → Int → V) : R2 := fun x y H Q => ∃ i j, x = .int i ∧ y = .int j ∧ Q (g i j) H
def rU (g : Int → V) : V → Hp → VK → Prop := fun x H Q => ∃ i, x = .int i ∧ Q (g i) H
section
variable {X : Cx} {a b c : Expr} {ta tb tc : TE} {pos : Pos}
theorem binT (ha : PE X a ta) (hb : PE X b tb) {pins : List (Addr × Obj)} {s : Shared} {σ : St} {H : Hp} {R : V → V → Hp → Prop} (I : Inv X pins σ H s)
    (h : ta σ H fun x H1 => tb σ H1 fun y H2 => R x y H2) {Q : Value → Shared → Prop} {f : Value → Value → Sem Value}
    (hf : ∀ v u s2 x y H2, Inv X pins σ H2 s2 → RelV x v → RelV y u → R x y H2 → wpAny (model X.prog X.w) X.A (f v u) Q X.xe s2) :
    wpAny (model X.prog X.w) X.A (eval a X.env) (fun v s₁ => wpAny (model X.prog X.w) X.A (eval b X.env) (fun u s₂ => wpAny (model X.prog X.w) X.A (f v u) Q X.xe s₂) X.xe s₁) X.xe s := by
  refine thn (ha pins s σ H _ I h) fun v s1 ⟨x, H1, I1, r1, q1⟩ => ?_
  refine thn (hb pins s1 σ H1 _ I1 q1) fun u s2 ⟨y, H2, I2, r2, q2⟩ => ?_
  exact hf v u s2 x y H2 I2 r1 r2 q2
theorem pe_op {op : Operator} {r : R2} (ho : OpR X (binaryOp op) r) (ha : PE X a ta) (hb : PE X b tb) : PE X (.BinOp a op b pos) (tOp r ta tb) := by
  intro pins s σ H Q I h
  exact wpAny_BinOp (binT ha hb I h fun v u s2 x y H2 I2 rx ry q => ho pins s2 σ H2 x y v u Q I2 rx ry q)
theorem pe_un {op : UnaryOp} {r : V → Hp → VK → Prop} (ho : UnR X (unaryOp op) r) (ha : PE X a ta) : PE X (.UnaryOp op a pos) (tUn r ta) := by
  intro pins s σ H Q I h
  exact UnaryOp_ (thn (ha pins s σ H _ I h) fun v s1 ⟨x, H1, I1, r1, q1⟩ => ho pins s1 σ H1 x v Q I1 r1 q1)
theorem opI {f : Value → Value → Sem Value} {C : Int → Int → Prop} {g : Int → Int → Int}
    (rule : ∀ (i j : Int) (t u : Tok) (s : Shared) (Q : Value → Shared → Prop) (E : Value → Shared → Prop), C i j → Q (.int (g i j) s.toks) { s with toks := s.toks + 1 } → wpAny (model X.prog X.w) X.A (f (.int i t) (.int j u)) Q E s) :
    OpR X f (rI C fun i j => .int (g i j)) := by
  intro pins s σ H x y v u Q I rx ry h
  obtain ⟨i, j, rfl, rfl, hc, q⟩ := h
  obtain ⟨t, rfl⟩ := rx
  obtain ⟨t', rfl⟩ := ry
  exact rule i j t t' s _ _ hc ⟨.int (g i j), H, I.tok _, ⟨_, rfl⟩, q⟩
theorem opI0 {f : Value → Value → Sem Value} {g : Int → Int → Int}
    (rule : ∀ (i j : Int) (t u : Tok) (s : Shared) (Q : Value → Shared → Prop) (E : Value → Shared → Prop), Q (.int (g i j) s.toks) { s with toks := s.toks + 1 } → wpAny (model X.prog X.w) X.A (f (.int i t) (.int j u)) Q E s) :
    OpR X f (rI0 fun i j => .int (g i j)) := by
  intro pins s σ H x y v u Q I rx ry h
  obtain ⟨i, j, rfl, rfl, q⟩ := h
  obtain ⟨t, rfl⟩ := rx
  obtain ⟨t', rfl⟩ := ry
  exact rule i j t t' s _ _ ⟨.int (g i j), H, I.tok _, ⟨_, rfl⟩, q⟩
theorem opB0 {f : Value → Value → Sem Value} {g : Int → Int → Bool}
    (rule : ∀ (i j : Int) (t u : Tok) (s : Shared) (Q : Value → Shared → Prop) (E : Value → Shared → Prop), Q (.bool (g i j)) s → wpAny (model X.prog X.w) X.A (f (.int i t) (.int j u)) Q E s) :
    OpR X f (rI0 fun i j => .bl (g i j)) := by
  intro pins s σ H x y v u Q I rx ry h
  obtain ⟨i, j, rfl, rfl, q⟩ := h
  obtain ⟨t, rfl⟩ := rx
  obtain ⟨t', rfl⟩ := ry
  exact rule i j t t' s _ _ ⟨.bl (g i j), H, I, rfl, q⟩
def CDiv (i j : Int) : Prop := 0 < j ∧ j < 1073741824
def CPow (i j : Int) : Prop := 0 ≤ j ∧ j ≤ 1000000 ∧ i.natAbs < 2 ^ 64
def CMul (i j : Int) : Prop := (-(2 ^ 64) < i ∧ i < 2 ^ 64) ∨ (-(2 ^ 64) < j ∧ j < 2 ^ 64)
theorem CMul.ok {i j : Int} (h : CMul i j) : IntMulOk i j := by
  rcases h with ⟨h1, h2⟩ | ⟨h1, h2⟩
  · exact .of_left (intBits_le_64 h1 h2)
  · exact .of_right (intBits_le_64 h1 h2)
theorem two_pow_nn (k : Nat) : (0 : Int) ≤ 2 ^ k := by
  rw [two_pow_cast]
  exact Int.natCast_nonneg _
theorem op_add : OpR X (binaryOp .Add) (rI0 fun i j => .int (i + j)) := opI0 fun _ _ _ _ _ _ _ q => add_int q
theorem op_sub : OpR X (binaryOp .Sub) (rI0 fun i j => .int (i - j)) := opI0 fun _ _ _ _ _ _ _ q => sub_int q
theorem op_mul : OpR X (binaryOp .Mult) (rI CMul fun i j => .int (i * j)) := opI fun _ _ _ _ _ _ _ hc q => mul_int q hc.ok
theorem op_fdiv : OpR X (binaryOp .FloorDiv) (rI CDiv fun i j => .int (i / j)) := opI fun i j _ _ _ _ _ hc q => by
  have h1 : (0 : Int) < j := hc.1
  have h2 : j < 1073741824 := hc.2
  exact floordiv_int (by omega) (by rw [Int.fdiv_eq_ediv_of_nonneg i (by omega)]; exact q) (.inl (PyProof.noPylong_small (by omega)))
theorem op_mod : OpR X (binaryOp .Mod) (rI (fun _ j => 0 < j) fun i j => .int (i % j)) := opI fun i j _ _ _ _ _ hc q => by
  have h1 : (0 : Int) < j := hc
  exact mod_int' (by omega) (by rw [Int.fmod_eq_emod_of_nonneg i (by omega)]; exact q)
theorem op_shl : OpR X (binaryOp .LShift) (rI CPow fun i j => .int (i * 2 ^ j.toNat)) := opI fun _ _ _ _ _ _ _ hc q => lshift_int_small hc.1 hc.2.1 hc.2.2 q
theorem op_shr : OpR X (binaryOp .RShift) (rI (fun _ j => 0 ≤ j) fun i j => .int (i / 2 ^ j.toNat)) := opI fun i j _ _ _ _ _ hc q =>
  rshift_int hc (by rw [Int.fdiv_eq_ediv_of_nonneg i (two_pow_nn _)]; exact q)
theorem op_and : OpR X (binaryOp .BitAnd) (rI0 fun i j => .int (Builtin.bitAnd i j)) := opI0 fun _ _ _ _ _ _ _ q => and_int q
theorem op_or : OpR X (binaryOp .BitOr) (rI0 fun i j => .int (Builtin.bitOr i j)) := opI0 fun _ _ _ _ _ _ _ q => or_int q
theorem iop_add : OpR X (inplaceOp .Add) (rI0 fun i j => .int (i + j)) := opI0 fun _ _ _ _ _ _ _ q => iadd_int q
theorem iop_or : OpR X (inplaceOp .BitOr) (rI0 fun i j => .int (Builtin.bitOr i j)) := opI0 fun _ _ _ _ _ _ _ q => ior_int q
theorem unI {f : Value → Sem Value} {g : Int → Int}
    (rule : ∀ (i : Int) (t : Tok) (s : Shared) (Q : Value → Shared → Prop) (E : Value → Shared → Prop), Q (.int (g i) s.toks) { s with toks := s.toks + 1 } → wpAny (model X.prog X.w) X.A (f (.int i t)) Q E s) :
    UnR X f (rU fun i => .int (g i)) := by
  intro pins s σ H x v Q I rx h
  obtain ⟨i, rfl, q⟩ := h
  obtain ⟨t, rfl⟩ := rx
  exact rule i t s _ _ ⟨.int (g i), H, I.tok _, ⟨_, rfl⟩, q⟩
theorem un_neg : UnR X (unaryOp .USub) (rU fun i => .int (-i)) := unI fun _ _ _ _ _ q => neg_int q
end
def scal : V → V → Bool
  | .non, .non => true | .non, .int _ => true | .int _, .non => true | .non, .bl _ => true | .bl _, .non => true | .non, .str _ => true | .str _, .non => true
  | .int _, .int _ => true | .bl _, .bl _ => true | .str _, .str _ => true | .byt _, .byt _ => true
  | .int _, .str _ => true | .str _, .int _ => true | .bl _, .str _ => true | .str _, .bl _ => true
  | _, _ => false
def rEq : R2 := fun x y H Q => scal x y = true ∧ Q (.bl (decide (x = y))) H
def rNe : R2 := fun x y H Q => scal x y = true ∧ Q (.bl (!decide (x = y))) H
theorem dec_int {i j : Int} : decide (V.int i = V.int j) = (i == j) := by
  rw [Bool.eq_iff_iff]
  simp
theorem dec_bl {i j : Bool} : decide (V.bl i = V.bl j) = (i == j) := by
  rw [Bool.eq_iff_iff]
  simp
theorem dec_str {i j : Str} : decide (V.str i = V.str j) = (i == j) := by
  rw [Bool.eq_iff_iff]
  simp
theorem dec_byt {i j : Array UInt8} : decide (V.byt i = V.byt j) = (i.toList == j.toList) := by
  rw [Bool.eq_iff_iff]
  cases i
  cases j
  simp
section
variable {X : Cx} {a b c : Expr} {ta tb tc : TE} {pos : Pos}
theorem fin_bl {pins : List (Addr × Obj)} {σ : St} {H : Hp} {s : Shared} {Q : VK} {k k' : Bool} (I : Inv X pins σ H s) (q : Q (.bl k) H) (e : k = k') : EP X pins σ Q (.bool k') s := by
  subst e
  exact ⟨.bl k, H, I, rfl, q⟩
theorem op_eq : OpR X (compareOp .Eq) rEq := by
  intro pins s σ H x y v u Q I rx ry h
  obtain ⟨hs, q⟩ := h
  cases x with
  | non =>
    cases rx
    cases y with
    | non => cases ry; exact PySem.EqNone.eq_none_none (fin_bl I q (by simp))
    | bl j => cases ry; exact PySem.EqNone.eq_none_bool (fin_bl I q (by simp))
    | int j => obtain ⟨t', rfl⟩ := ry; exact PySem.EqNone.eq_none_int (fin_bl I q (by simp))
    | str j => obtain ⟨t', rfl⟩ := ry; exact PySem.EqNone.eq_none_str (fin_bl I q (by simp))
    | _ => exact absurd (show false = true from hs) Bool.false_ne_true
  | bl i =>
    cases rx
    cases y with
    | non => cases ry; exact PySem.EqNone.eq_bool_none (fin_bl I q (by simp))
    | bl j => cases ry; exact eq_bool (fin_bl I q dec_bl)
    | str j => obtain ⟨t', rfl⟩ := ry; exact PySem.EqMixed.eq_bool_str (fin_bl I q (by simp))
    | _ => exact absurd (show false = true from hs) Bool.false_ne_true
  | int i =>
    obtain ⟨t, rfl⟩ := rx
    cases y with
    | non => cases ry; exact PySem.EqNone.eq_int_none (fin_bl I q (by simp))
    | int j => obtain ⟨t', rfl⟩ := ry; exact eq_int (fin_bl I q dec_int)
    | str j => obtain ⟨t', rfl⟩ := ry; exact PySem.EqMixed.eq_int_str (fin_bl I q (by simp))
    | _ => exact absurd (show false = true from hs) Bool.false_ne_true
  | str i =>
    obtain ⟨t, rfl⟩ := rx
    cases y with
    | non => cases ry; exact PySem.EqNone.eq_str_none (fin_bl I q (by simp))
    | bl j => cases ry; exact PySem.EqMixed.eq_str_bool (fin_bl I q (by simp))
    | int j => obtain ⟨t', rfl⟩ := ry; exact PySem.EqMixed.eq_str_int (fin_bl I q (by simp))
    | str j => obtain ⟨t', rfl⟩ := ry; exact eq_str (fin_bl I q dec_str)
    | _ => exact absurd (show false = true from hs) Bool.false_ne_true
  | byt i =>
    obtain ⟨t, rfl⟩ := rx
    cases y with
    | byt j => obtain ⟨t', rfl⟩ := ry; exact PySem.W.eq_bytes (fin_bl I q dec_byt)
    | _ => exact absurd (show false = true from hs) Bool.false_ne_true
  | _ => cases y <;> exact absurd (show false = true from hs) Bool.false_ne_true
theorem op_ne : OpR X (compareOp .NotEq) rNe := by
  intro pins s σ H x y v u Q I rx ry h
  obtain ⟨hs, q⟩ := h
  cases x with
  | non =>
    cases rx
    cases y with
    | non => cases ry; exact PySem.EqNone.ne_none_none (fin_bl I q (by simp))
    | bl j => cases ry; exact PySem.EqNone.ne_none_bool (fin_bl I q (by simp))
    | int j => obtain ⟨t', rfl⟩ := ry; exact PySem.EqNone.ne_none_int (fin_bl I q (by simp))
    | str j => obtain ⟨t', rfl⟩ := ry; exact PySem.EqNone.ne_none_str (fin_bl I q (by simp))
    | _ => exact absurd (show false = true from hs) Bool.false_ne_true
  | bl i =>
    cases rx
    cases y with
    | non => cases ry; exact PySem.EqNone.ne_bool_none (fin_bl I q (by simp))
    | bl j => cases ry; exact ne_bool (fin_bl I q (congrArg not dec_bl))
    | str j => obtain ⟨t', rfl⟩ := ry; exact PySem.EqMixed.ne_bool_str (fin_bl I q (by simp))
    | _ => exact absurd (show false = true from hs) Bool.false_ne_true
  | int i =>
    obtain ⟨t, rfl⟩ := rx
    cases y with
    | non => cases ry; exact PySem.EqNone.ne_int_none (fin_bl I q (by simp))
    | int j => obtain ⟨t', rfl⟩ := ry; exact ne_int (fin_bl I q (congrArg not dec_int))
    | str j => obtain ⟨t', rfl⟩ := ry; exact PySem.EqMixed.ne_int_str (fin_bl I q (by simp))
    | _ => exact absurd (show false = true from hs) Bool.false_ne_true
  | str i =>
    obtain ⟨t, rfl⟩ := rx
    cases y with
    | non => cases ry; exact PySem.EqNone.ne_str_none (fin_bl I q (by simp))
    | bl j => cases ry; exact PySem.EqMixed.ne_str_bool (fin_bl I q (by simp))
    | int j => obtain ⟨t', rfl⟩ := ry; exact PySem.EqMixed.ne_str_int (fin_bl I q (by simp))
    | str j => obtain ⟨t', rfl⟩ := ry; exact ne_str (fin_bl I q (congrArg not dec_str))
    | _ => exact absurd (show false = true from hs) Bool.false_ne_true
  | byt i =>
    obtain ⟨t, rfl⟩ := rx
    cases y with
    | byt j => obtain ⟨t', rfl⟩ := ry; exact PySem.W.ne_bytes (fin_bl I q (congrArg not dec_byt))
    | _ => exact absurd (show false = true from hs) Bool.false_ne_true
  | _ => cases y <;> exact absurd (show false = true from hs) Bool.false_ne_true
theorem op_lt : OpR X (compareOp .Lt) (rI0 fun i j => .bl (decide (i < j))) := opB0 fun _ _ _ _ _ _ _ q => lt_int q
theorem op_gt : OpR X (compareOp .Gt) (rI0 fun i j => .bl (decide (j < i))) := opB0 fun _ _ _ _ _ _ _ q => gt_int q
theorem nomark (b : Expr) {op : CmpOp} (h : op ≠ .In := by decide) (h2 : op ≠ .NotIn := by decide) : behindInMarks op b = false := by
  have e1 : (op == CmpOp.In) = false := by cases op <;> first | rfl | exact absurd rfl h
  have e2 : (op == CmpOp.NotIn) = false := by cases op <;> first | rfl | exact absurd rfl h2
  cases b <;> simp [behindInMarks, e1, e2]
theorem pe_cmpR {op : CmpOp} {r : R2} (ho : OpR X (compareOp op) r) (ha : PE X a ta) (hb : PE X b tb) (hm : behindInMarks op b = false) : PE X (.Compare a [op] [b] pos) (tOp r ta tb) := by
  intro pins s σ H Q I h
  exact wpAny_Compare1 (binT ha hb I h fun v u s2 x y H2 I2 rx ry q => ho pins s2 σ H2 x y v u Q I2 rx ry q) hm
def tTest (t : TE) : TT := fun σ H Q => t σ H fun x H' => ∃ k, x = .bl k ∧ Q k H'
theorem pt_cmpR {op : CmpOp} {r : R2} (ho : OpR X (compareOp op) r) (ha : PE X a ta) (hb : PE X b tb) (hm : behindInMarks op b = false) : PT X (.Compare a [op] [b] pos) (tTest (tOp r ta tb)) := by
  intro pins s σ H Q I h
  refine wpAny_isTrue_Compare1 (thn (ha pins s σ H _ I h) fun v s1 ⟨x, H1, I1, r1, q1⟩ => thn (hb pins s1 σ H1 _ I1 q1) fun u s2 ⟨y, H2, I2, r2, q2⟩ =>
    thn (ho pins s2 σ H2 x y v u _ I2 r1 r2 q2) fun c s3 ⟨z, H3, I3, r3, k, e, q3⟩ => ?_) hm
  subst e
  cases r3
  exact wpAny_truthy_bool ⟨H3, I3, q3⟩
theorem line63 : (sizeLine : Nat) < 2 ^ 63 := by rw [sizeLine_eq]; decide
theorem vals1 {x : V} {us : List Value} (r : Vals [x] us) : ∃ u, us = [u] ∧ RelV x u := by
  cases r with
  | cons r1 r2 => cases r2; exact ⟨_, rfl, r1⟩
theorem call_ord : CallR X (.builtin "ord") (fun xs H Q => ∃ x, xs = [.str x] ∧ x.length = 1 ∧ Q (.int (x.cps.getD 0 0 : Nat)) H) := by
  intro pins s σ H xs us Q I r h
  obtain ⟨x, rfl, hz, q⟩ := h
  obtain ⟨u, rfl, t, rfl⟩ := vals1 r
  exact ord_of_one hz ⟨.int _, H, I.tok _, ⟨_, rfl⟩, q⟩
end
end L2
namespace L2
open PySem PySem.Spec PyProof.Rows
structure ObjM (h : Heap) (x dx C : Addr) (mA : Str → Option Value) : Prop where
  obj : h.get? x = some (PySem.W.instObj C dx)
  ns : h.Ns1 dx mA
  ne : dx ≠ x
theorem lookIn_ns {h : Heap} {dx : Addr} {mA : Str → Option Value} (n : h.Ns1 dx mA) : ∃ od, h.get? dx = some od ∧ ∀ name, PySem.W.lookIn name od = some (mA name) := by
  obtain ⟨o, es, ep, ho, hd, hk, _, hm⟩ := n
  refine ⟨o, ho, fun name => ?_⟩
  have e := hm name
  unfold nsFind findBy at e
  rw [← Array.find?_toList] at e
  unfold PySem.W.lookIn
  rw [hd]
  dsimp only
  split
  · rename_i y q
    rw [q] at e
    exact congrArg some e
  · rename_i q
    rw [q] at e
    have a : es.toList.any (·.refKey) = false := by
      rw [List.any_eq_false]
      intro y hy
      obtain ⟨z, t, hkey⟩ := hk y (Array.mem_toList_iff.mp hy)
      simp [DictEntry.refKey, hkey]
    have a' : ¬ es.toList.any (·.refKey) = true := by rw [a]; exact Bool.false_ne_true
    rw [if_neg a']
    exact congrArg some e
theorem ObjM.look {h : Heap} {x dx C : Addr} {mA : Str → Option Value} (I : ObjM h x dx C mA) : ∃ od, PySem.W.InstAt h x (PySem.W.instObj C dx) C (some od) ∧ ∀ name, PySem.W.lookIn name od = some (mA name) :=
  let ⟨od, ho, hl⟩ := lookIn_ns I.ns
  ⟨od, ⟨I.obj, rfl, rfl, ho⟩, hl⟩
section
variable {prog : Program} {w : World} {A : Around} {E : Value → Shared → Prop} {s : Shared} {K : PySem.W.Frag} {x dx C f : Addr} {mA : Str → Option Value} {name : Str} {v : Value}
theorem get_map {expr : Bool} {Q : Value → Shared → Prop} (X : K.In s.heap) (I : ObjM s.heap x dx C mA) (hg : PySem.W.plainGet K C name = true) (hh : PySem.W.hasDictIn K C = true)
    (ha : PySem.W.findIn K (.ref C) name = some none) (hv : mA name = some v) (hv' : PySem.W.handedIn v = true) (h : Q v { s with toks := s.toks + 1 }) :
    wpAny (model prog w) A (getAttr (.ref x) name expr) Q E s := by
  obtain ⟨od, J, hl⟩ := I.look
  exact PySem.W.get_value X J (PySem.W.plainGet_of hg).1 (PySem.W.findObj_own hh ha rfl (by rw [hl, hv])) hv' h
theorem set_map {ns : List Str} {Q : Unit → Shared → Prop} (X : K.In s.heap) (I : ObjM s.heap x dx C mA)
    (hs : PySem.W.findIn K (.ref C) "__setattr__" = some (some (.builtin "object.__setattr__"))) (hp : PySem.W.plainOver K C = true) (ht : PySem.W.takerIn K C name = some none) (hh : PySem.W.hasDictIn K C = true)
    (hw : PySem.Within mA ns) (hsz : ns.length ≤ sizeLine)
    (h : ∀ h', ObjM h' x dx C (fun y => if y = name then some v else mA y) → Heap.SameBut dx s.heap h' → Q () { s with heap := h', toks := s.toks + 2 }) :
    wpAny (model prog w) A (setAttr (.ref x) name v) Q E s := by
  obtain ⟨od, J, hl⟩ := I.look
  refine PySem.W.set_plain X J hs (PySem.W.osa_open (s := { s with toks := s.toks + 1 }) (r := none) X J hp ht fun b => ?_)
  obtain ⟨cd, hc, hd'⟩ := PySem.W.any_some hh
  have hx : s.heap.get? x = some ⟨.ref C, some dx, .plain, #[]⟩ := I.obj
  refine wpAny_bind (wpAny_pure (wpAny_bind (wpAny_bind (wpAny_loadPart hx (wpAny_bind (PySem.W.Looks.here (s := { s with toks := s.toks + 1 }) (PySem.W.looks_clsIn X hc) ?_))))))
  rw [hd']
  refine wpAny_pure (a := some dx) (wpAny_bind (wpAny_pure (wpAny_bind ?_)))
  refine wpAny_nsSet1 (s := { s with toks := s.toks + 1 }) I.ns fun h' hn2 hs2 => ?_
  obtain ⟨oD, esD, epD, hoD, hdD, hcD⟩ := hn2.count (PySem.Within.cons name v hw)
  refine wpAny_bind (wpAny_lookBehind hoD (by rw [hdD]; exact pastItsLine_dict (Nat.le_trans hcD (by rw [List.length_cons]; omega))) ?_)
  exact wpAny_pure (h _ ⟨(hs2.2 _ (Ne.symm I.ne)).trans I.obj, hn2, I.ne⟩ hs2)
theorem make_map {R : Result → Shared → Prop} {vs : List Value} {kw : List (Str × Value)} (X : K.In s.heap) (hm : PySem.W.makesIn K C = true)
    (hi : PySem.W.findIn K (.ref C) "__init__" = some (some (.ref f))) (hf : PySem.W.typeIn K (.ref f) = some (.type "function"))
    (h : codeAny (model prog w) (A.under (.builtin "type.__call__" ⟨.ref C :: vs, kw⟩)) (.call (.ref f) ⟨.ref (s.heap.objs.size + 1) :: vs, kw⟩) (PySem.W.InitBack (s.heap.objs.size + 1) R)
      { s with heap := (s.heap.push PySem.W.emptyDict).push (PySem.W.instObj C s.heap.objs.size) }) :
    codeAny (model prog w) A (.call (.ref C) ⟨vs, kw⟩) R s := by
  obtain ⟨hh, g, d, t, os⟩ := s
  exact PySem.W.make_core (PySem.W.makes_of X hm) (PySem.W.looks_findIn X hi) (fun self => PySem.W.bind_fn X self hf) (.inl rfl) h
end
def putF (f : Str) (v : V) : List (Str × V) → List (Str × V)
  | [] => [(f, v)]
  | (g, x) :: r => if g = f then (g, v) :: r else (g, x) :: putF f v r
theorem lookup_putF (f g : Str) (v : V) : ∀ fs : List (Str × V), (putF f v fs).lookup g = if g = f then some v else fs.lookup g
  | [] => by
    show List.lookup g [(f, v)] = _
    by_cases h : g = f
    · have hb : (g == f) = true := beq_iff_eq.mpr h
      simp only [List.lookup, hb, if_pos h]
    · have hb : (g == f) = false := beq_eq_false_iff_ne.mpr h
      simp only [List.lookup, hb, if_neg h]
  | (k, x) :: r => by
    have ih := lookup_putF f g v r
    rw [show putF f v ((k, x) :: r) = (if k = f then (k, v) :: r else (k, x) :: putF f v r) from rfl]
    by_cases hk : k = f
    · rw [if_pos hk]
      by_cases h : g = k
      · have hb : (g == k) = true := beq_iff_eq.mpr h
        simp only [List.lookup, hb, if_pos (h.trans hk)]
      · have hb : (g == k) = false := beq_eq_false_iff_ne.mpr h
        simp only [List.lookup, hb, if_neg (fun e : g = f => h (e.trans hk.symm))]
    · rw [if_neg hk]
      by_cases h : g = k
      · have hb : (g == k) = true := beq_iff_eq.mpr h
        simp only [List.lookup, hb, if_neg (fun e : g = f => hk (h.symm.trans e))]
      · have hb : (g == k) = false := beq_eq_false_iff_ne.mpr h
        simp only [List.lookup, hb]
        exact ih
theorem keys_putF (f : Str) (v : V) : ∀ fs : List (Str × V), f ∈ (putF f v fs).map (·.1) ∧ ∀ g, g ∈ fs.map (·.1) → g ∈ (putF f v fs).map (·.1)
  | [] => ⟨by simp [putF], fun g h => by simp at h⟩
  | (k, x) :: r => by
    obtain ⟨i1, i2⟩ := keys_putF f v r
    rw [show putF f v ((k, x) :: r) = (if k = f then (k, v) :: r else (k, x) :: putF f v r) from rfl]
    by_cases hk : k = f
    · rw [if_pos hk]
      subst hk
      exact ⟨by simp, fun g h => by simpa using h⟩
    · rw [if_neg hk]
      refine ⟨?_, fun g h => ?_⟩
      · rw [List.map_cons]
        exact List.mem_cons_of_mem _ i1
      · rw [List.map_cons] at h ⊢
        rcases List.mem_cons.mp h with e | e
        · exact List.mem_cons.mpr (.inl e)
        · exact List.mem_cons_of_mem _ (i2 g e)
theorem length_putF (f : Str) (v : V) : ∀ fs : List (Str × V), (putF f v fs).length ≤ fs.length + 1
  | [] => by simp [putF]
  | (k, x) :: r => by
    have ih := length_putF f v r
    rw [show putF f v ((k, x) :: r) = (if k = f then (k, v) :: r else (k, x) :: putF f v r) from rfl]
    by_cases hk : k = f
    · rw [if_pos hk, List.length_cons, List.length_cons]; omega
    · rw [if_neg hk, List.length_cons, List.length_cons]; omega
theorem RelO.some_of {v : V} {o : Option Value} (r : RelO (some v) o) : ∃ u, o = some u ∧ RelV v u := by
  cases o with
  | none => exact (show False from r).elim
  | some u => exact ⟨u, rfl, r⟩
theorem handed_of {v : V} {u : Value} (r : RelV v u) : PySem.W.handedIn u = true := by
  cases v with
  | non => cases (show u = Value.none from r); rfl
  | bl b => cases (show u = Value.bool b from r); rfl
  | int i => obtain ⟨t, e⟩ := (show ∃ t, u = Value.int i t from r); cases e; rfl
  | str x => obtain ⟨t, e⟩ := (show ∃ t, u = Value.str x t from r); cases e; rfl
  | byt b => obtain ⟨t, e⟩ := (show ∃ t, u = Value.bytes b t from r); cases e; rfl
  | flt b => obtain ⟨t, e⟩ := (show ∃ t, u = Value.float b t from r); cases e; rfl
  | ref a => cases (show u = Value.ref a from r); rfl
  | ty n => cases (show u = Value.type n from r); rfl
section
variable {P : Program} {w : World} {H H' : Hp} {h h' : Heap} {a C dx : Addr} {fs fs' : List (Str × V)}
theorem ins_get (hok : HOk P w H h) (e : H a = some (.ins C dx fs)) : ∃ mA, ObjM h a dx C mA ∧ (∀ f, RelO (fs.lookup f) (mA f)) ∧ PySem.Within mA (fs.map (·.1)) ∧ fs.length ≤ 1000 ∧ H dx = some (.own a) := by
  obtain ⟨d, z, ne, ob, mA, n, r, q⟩ := (show ObjOk P w H h a (.ins C dx fs) from hok a _ e)
  exact ⟨mA, ⟨ob, n, ne⟩, r, q, z, d⟩
end
structure Cls (K : PySem.W.Frag) (C : Addr) : Prop where
  pg : PySem.W.plainGet K C Str.empty = true
  hd : PySem.W.hasDictIn K C = true
  po : PySem.W.plainOver K C = true
  sa : PySem.W.findIn K (.ref C) "__setattr__" = some (some (.builtin "object.__setattr__"))
theorem Cls.get {K : PySem.W.Frag} {C : Addr} (c : Cls K C) (f : Str) : PySem.W.plainGet K C f = true := c.pg
def NoAttr (K : PySem.W.Frag) (C : Addr) (f : Str) : Prop := PySem.W.findIn K (.ref C) f = some none
theorem NoAttr.taker {K : PySem.W.Frag} {C : Addr} {f : Str} (n : NoAttr K C f) : PySem.W.takerIn K C f = some none := by
  unfold PySem.W.takerIn
  rw [show PySem.W.findIn K (.ref C) f = some none from n]
  rfl
section
variable {X : Cx} {pins : List (Addr × Obj)} {σ : St} {H : Hp} {s : Shared} {a C dx : Addr} {fs : List (Str × V)} {f : Str} {v : V} {A : Around} {E : Value → Shared → Prop}
theorem getattr_ok {b : Bool} {Q : Value → Shared → Prop} (I : Inv X pins σ H s) (e : H a = some (.ins C dx fs)) (c : Cls X.K C) (n : NoAttr X.K C f) (l : fs.lookup f = some v)
    (h : ∀ u s', Inv X pins σ H s' → RelV v u → Q u s') : wpAny (model X.prog X.w) A (getAttr (.ref a) f b) Q E s := by
  obtain ⟨mA, O, r, _, _, _⟩ := ins_get I.hok e
  obtain ⟨u, hu, ru⟩ := RelO.some_of (v := v) (o := mA f) (by rw [← l]; exact r f)
  exact get_map I.kIn O (c.get f) c.hd n hu (handed_of ru) (h u _ (I.tok _) ru)
theorem setattr_ok {y : V} {u : Value} {Q : Unit → Shared → Prop} (I : Inv X pins σ H s) (e : H a = some (.ins C dx fs)) (c : Cls X.K C) (n : NoAttr X.K C f) (hl : fs.length < 1000) (ry : RelV y u)
    (h : ∀ s', Inv X pins σ (upd H a (.ins C dx (putF f y fs))) s' → Q () s') : wpAny (model X.prog X.w) A (setAttr (.ref a) f u) Q E s := by
  obtain ⟨mA, O, r, wi, _, ho⟩ := ins_get I.hok e
  have hz : (fs.map (·.1)).length ≤ sizeLine := by rw [List.length_map, sizeLine_eq]; omega
  refine set_map I.kIn O c.sa c.po n.taker c.hd wi hz fun h' O' sb => h _ ?_
  have hd : ∃ o, h'.get? dx = some o := let ⟨o, _, _, e', _⟩ := O'.ns; ⟨o, e'⟩
  refine I.write (x := a) (e := dx) (by rw [e]; exact True.intro) (.inr ho) (fun b q hb z => (sb.2 b hb).trans z) hd ?_
  refine ⟨by rw [upd_ne O.ne]; exact ho, ?_, O.ne, O'.obj, _, O'.ns, fun g => ?_, fun g hg => ?_⟩
  · have := length_putF f y fs; omega
  · show RelO ((putF f y fs).lookup g) (if g = f then some u else mA g)
    rw [lookup_putF]
    by_cases q : g = f
    · rw [if_pos q, if_pos q]; exact ry
    · rw [if_neg q, if_neg q]; exact r g
  · by_cases q : g = f
    · rw [q]; exact (keys_putF f y fs).1
    · refine (keys_putF f y fs).2 g (wi g fun z => hg ?_)
      show (if g = f then some u else mA g) = none
      rw [if_neg q]; exact z
theorem Inv.made (I : Inv X pins σ H s) : Inv X pins σ (upd (upd H s.heap.objs.size (.own (s.heap.objs.size + 1))) (s.heap.objs.size + 1) (.ins C s.heap.objs.size []))
    { s with heap := (s.heap.push PySem.W.emptyDict).push (PySem.W.instObj C s.heap.objs.size) } := by
  have e1 : (s.heap.push PySem.W.emptyDict).get? s.heap.objs.size = some PySem.W.emptyDict := Heap.get?_push_size s.heap rfl
  have e2 : ((s.heap.push PySem.W.emptyDict).push (PySem.W.instObj C s.heap.objs.size)).get? (s.heap.objs.size + 1) = some (PySem.W.instObj C s.heap.objs.size) := by
    have := Heap.get?_push_size (s.heap.push PySem.W.emptyDict) (o := PySem.W.instObj C s.heap.objs.size) rfl
    rwa [Heap.size_push] at this
  have e3 : (s.heap.push PySem.W.emptyDict).Ns s.heap.objs.size (fun _ => none) := ⟨PySem.W.emptyDict, #[], _, e1, rfl, (fun e he => absurd he (by simp)), fun _ => rfl⟩
  have I1 := I.laid (a := s.heap.objs.size) (o := .own (s.heap.objs.size + 1)) (h' := s.heap.push PySem.W.emptyDict) (t' := s.toks) (fun b u q => Heap.get?_push_of_some _ q) (Nat.le_refl _) ⟨_, e1⟩
  refine I1.laid (a := s.heap.objs.size + 1) (o := .ins C s.heap.objs.size []) (t' := s.toks) (fun b u q => Heap.get?_push_of_some _ q) (Nat.le_of_eq (Heap.size_push _ _)) ?_
  have ne : s.heap.objs.size ≠ s.heap.objs.size + 1 := Nat.ne_of_lt (Nat.lt_succ_self _)
  refine ⟨by rw [upd_ne ne, upd_same], Nat.zero_le _, ne, e2, fun _ => none, (Heap.Ns1.of_empty e3).at fun o q => Heap.get?_push_of_some _ q, fun _ => True.intro, fun y hy => absurd rfl hy⟩
theorem attr_of {prog : Program} {w : World} {env : Env} {e : Expr} {f : Str} {pos : Pos} {s : Shared} {Q : Value → Shared → Prop} (hb : attributeBase e f env (eval e env) = eval e env)
    (h : wpAny (model prog w) A (eval e env) (fun o s₁ => wpAny (model prog w) A (getAttr o f true) Q E s₁) E s) : wpAny (model prog w) A (eval (.Attribute e f pos) env) Q E s :=
  Attribute_any_ h (by rw [arm_eval_Attribute, hb])
end
def tFld (K : PySem.W.Frag) (ta : TE) (f : Str) : TE := fun σ H Q => ta σ H fun x H1 => ∃ a C dx fs v, x = .ref a ∧ H1 a = some (.ins C dx fs) ∧ Cls K C ∧ NoAttr K C f ∧ fs.lookup f = some v ∧ Q v H1
def sFld (K : PySem.W.Frag) (ta tv : TE) (f : Str) : TS := fun D σ H => tv σ H fun y H1 => ta σ H1 fun x H2 => ∃ a C dx fs, x = .ref a ∧ H2 a = some (.ins C dx fs) ∧ Cls K C ∧ NoAttr K C f ∧ fs.length < 1000 ∧
  D.nx σ (upd H2 a (.ins C dx (putF f y fs)))
section
variable {X : Cx} {o e value : Expr} {f : Str} {pos pos' tpos : Pos} {ta tv : TE}
theorem pe_fld (he : PE X e ta) (hb : attributeBase e f X.env (eval e X.env) = eval e X.env) : PE X (.Attribute e f pos) (tFld X.K ta f) := by
  intro pins s σ H Q I h
  refine attr_of hb (thn (he pins s σ H _ I h) fun u s1 ⟨x, H1, I1, rx, a, C, dx, fs, v, ex, ea, c, n, l, q⟩ => ?_)
  subst ex
  obtain rfl : u = Value.ref a := rx
  exact getattr_ok I1 ea c n l fun u' s2 I2 ru => ⟨v, H1, I2, ru, q⟩
theorem ps_fld (ha : PE X o ta) (hv : PE X value tv) (hs : swapsWith value (some (.Attribute o f pos')) pos.line X.env = pure false) : PS X (.Assign [.Attribute o f pos'] value pos) (sFld X.K ta tv f) := by
  intro pins s σ H D I h
  refine plainObj_wpAny_Assign_Attribute (thn (hv pins s σ H _ I h) fun u s1 ⟨y, H1, I1, ry, q⟩ => thn (ha pins s1 σ H1 _ I1 q) fun ov s2 ⟨x, H2, I2, rx, a, C, dx, fs, ex, ea, c, n, l, q2⟩ => ?_) hs
  subst ex
  obtain rfl : ov = Value.ref a := rx
  exact setattr_ok I2 ea c n l ry fun s3 I3 => ⟨σ, _, I3, q2⟩
end
section
variable {X : Cx} {pins : List (Addr × Obj)} {σ : St} {H : Hp} {s : Shared} {A : Around} {E : Value → Shared → Prop} {Q : Value → Shared → Prop} {c : Value} {b : Bool}
end
end L2
namespace L2
open PySem PySem.Spec PyProof.Rows
structure Room (k : Nat) (A : Around) : Prop where
  hd : A.handled = none
  dp : A.depth + 3 * k + 5 < recursionLimit
  un : A.units + 16 * k + 200 < cLine
theorem Room.mono {j k : Nat} {A : Around} (r : Room k A) (h : j ≤ k) : Room j A := ⟨r.hd, by have := r.dp; omega, by have := r.un; omega⟩
theorem Room.deeper {k : Nat} {A : Around} (r : Room (k + 1) A) (env : Env) : Room k (A.deeper env) :=
  ⟨r.hd, by have := r.dp; show A.depth + 1 + 3 * k + 5 < _; omega, by have := r.un; show A.units + 3 + 16 * k + 200 < _; omega⟩
theorem make_depth {A : Around} {C : Addr} {us : List Value} {kw : List (Str × Value)} : (A.under (.builtin "type.__call__" ⟨.ref C :: us, kw⟩)).depth = A.depth + 1 := by
  first | rfl | simp [Around.under, Code.weight, Code.isCreation, Code.isGuard, Code.isCaller, Code.frames, Code.isFrame, guardIds]
theorem make_units {A : Around} {C : Addr} {us : List Value} {kw : List (Str × Value)} : (A.under (.builtin "type.__call__" ⟨.ref C :: us, kw⟩)).units = A.units + 1 := by
  first | rfl | simp [Around.under, Code.cUnits, Code.frames, Code.isFrame]
theorem Room.make {k : Nat} {A : Around} (r : Room (k + 1) A) (C : Addr) (us : List Value) (kw : List (Str × Value)) : Room k (A.under (.builtin "type.__call__" ⟨.ref C :: us, kw⟩)) :=
  ⟨r.hd, by have := r.dp; rw [make_depth]; omega, by have := r.un; rw [make_units]; omega⟩
theorem Room.depth {k : Nat} {A : Around} (r : Room k A) : A.depth < recursionLimit := by have := r.dp; omega
theorem Room.units {k : Nat} {A : Around} (r : Room k A) : A.units + 64 < cLine := by have := r.un; omega
def tNil : TA := fun _ H Q => Q [] H
def tCons (ta : TE) (tr : TA) : TA := fun σ H Q => ta σ H fun x H1 => tr σ H1 fun xs H2 => Q (x :: xs) H2
section
variable {X : Cx} {e : Expr} {es : List Expr} {te : TE} {t : TA} {pos : Pos}
theorem pa_nil : PA X [] tNil := fun _ _ _ _ H Q I h => Calls.spliced_nil ⟨[], H, I, .nil, h⟩
theorem pa_cons (ha : PE X e te) (hr : PA X es t) (hs : starEach (e :: es) X.env = (false, eval e X.env) :: starEach es X.env := by rfl) : PA X (e :: es) (tCons te t) := by
  intro pos pins s σ H Q I h
  rw [hs]
  show wpAny _ _ (spliced ((false, eval e X.env) :: backTo pos (starEach es X.env))) _ _ s
  refine Calls.spliced_cons (thn (ha pins s σ H _ I h) fun u s1 ⟨x, H1, I1, r1, q1⟩ => ?_)
  exact thn (hr pos pins s1 σ H1 _ I1 q1) fun us s2 ⟨xs, H2, I2, r2, q2⟩ => ⟨x :: xs, H2, I2, .cons r1 r2, q2⟩
def tTup (t : TA) : TE := fun σ H Q => t σ H fun xs H1 => xs.length ≤ sizeLine ∧ ∀ p, H1 p = none → Q (.ref p) (upd H1 p (.tup xs))
def tLst (t : TA) : TE := fun σ H Q => t σ H fun xs H1 => xs.length ≤ sizeLine ∧ ∀ p, H1 p = none → Q (.ref p) (upd H1 p (.lst xs))
theorem pe_tup {x1} (h : PA X es t) : PE X (.Tuple es x1 pos) (tTup t) := by
  intro pins s σ H Q I hq
  refine wpAny_Tuple_spliced (thn (h pos pins s σ H _ I hq) fun us s1 ⟨xs, H1, I1, r, z, q⟩ => ⟨by rw [← r.length]; exact z, ?_⟩)
  have hf : H1 s1.heap.objs.size = none := I1.hok.fresh (Nat.le_refl _)
  refine ⟨.ref s1.heap.objs.size, upd H1 s1.heap.objs.size (.tup xs), I1.laid (t' := s1.toks) (fun b u e => Heap.get?_push_of_some _ e) (Nat.le_refl _) ?_, rfl, q _ hf⟩
  exact ⟨z, us, r, ⟨_, Heap.get?_push_size _ rfl, rfl, _, rfl⟩⟩
theorem pe_lst (h : PA X es t) : PE X (.List es pos) (tLst t) := by
  intro pins s σ H Q I hq
  refine wpAny_List_spliced (thn (h pos pins s σ H _ I hq) fun us s1 ⟨xs, H1, I1, r, z, q⟩ => ⟨by rw [← r.length]; exact z, ?_⟩)
  have hf : H1 s1.heap.objs.size = none := I1.hok.fresh (Nat.le_refl _)
  refine ⟨.ref s1.heap.objs.size, upd H1 s1.heap.objs.size (.lst xs), I1.laid (t' := s1.toks) (fun b u e => Heap.get?_push_of_some _ e) (Nat.le_refl _) ?_, rfl, q _ hf⟩
  exact ⟨z, us, 0, r, Heap.get?_push_size _ rfl⟩
end
abbrev Sp := List V → Hp → VK → XK → Prop
abbrev CXT := List Env → Hp → Shared → XK → Value → Shared → Prop
structure Env0 (P : Program) (w : World) (K : PySem.W.Frag) (mg : Str → Option Value) (base : Heap) (A : Around) (outer : List Env) (s : Shared) (H : Hp) : Prop where
  frames : A.frames = some outer
  mod : Mod K mg base
  bs : ∀ b o, base.get? b = some o → s.heap.get? b = some o ∧ H b = none
  bsz : base.objs.size ≤ s.heap.objs.size
  funs : s.heap.FunFrames base outer
  frf : ∀ b ∈ frs outer, H b = none
  hok : HOk P w H s.heap
  bare : AllBare s.gens
def CE (outer : List Env) (P : Program) (w : World) (H : Hp) (s : Shared) (Q : VK) (u : Value) (s' : Shared) : Prop :=
  ∃ v H', s'.os = s.os ∧ AllBare s'.gens ∧ Un (frs outer) [] H H' s.heap s'.heap ∧ HOk P w H' s'.heap ∧ RelV v u ∧ Q v H'
def CR (CX : CXT) (outer : List Env) (P : Program) (w : World) (H : Hp) (s : Shared) (Q : VK) (E : XK) (r : Result) (s' : Shared) : Prop :=
  match r with
  | .ok (.ret u) => CE outer P w H s Q u s'
  | .ok _ => False
  | .error e => CX outer H s E e s'
structure FnOk (P : Program) (w : World) (K : PySem.W.Frag) (mg : Str → Option Value) (base : Heap) (CX : CXT) (k : Nat) (f : Addr) (fd : FuncData) (ps : List Str) (sp : Sp) : Prop where
  len : ∀ vs H Q E, sp vs H Q E → vs.length = ps.length
  run : ∀ (A : Around) (outer : List Env) (s : Shared) (H : Hp) (args : Args) (us : List Value) (vs : List V) (Q : VK) (E : XK), Room k A → Env0 P w K mg base A outer s H → BindsTo s fd args (ps.zip us) → Vals vs us → sp vs H Q E →
    codeAny (model P w) A (.call (.ref f) args) (CR CX outer P w H s Q E) s
theorem FnOk.mono {P : Program} {w : World} {K : PySem.W.Frag} {mg : Str → Option Value} {base : Heap} {CX : CXT} {j k : Nat} {f : Addr} {fd : FuncData} {ps : List Str} {sp : Sp} (F : FnOk P w K mg base CX j f fd ps sp) (h : j ≤ k) :
    FnOk P w K mg base CX k f fd ps sp := ⟨F.len, fun A outer s H args us vs Q E hr => F.run A outer s H args us vs Q E (hr.mono h)⟩
theorem Env0.make {P : Program} {w : World} {K : PySem.W.Frag} {mg : Str → Option Value} {base : Heap} {A : Around} {outer : List Env} {s : Shared} {H : Hp} (e : Env0 P w K mg base A outer s H) (C : Addr) (us : List Value) (kw : List (Str × Value)) :
    Env0 P w K mg base (A.under (.builtin "type.__call__" ⟨.ref C :: us, kw⟩)) outer s H := ⟨by first | exact e.frames | (simpa [Around.under, Code.envs, Code.isFrame, pushEnvs] using e.frames), e.mod, e.bs, e.bsz, e.funs, e.frf, e.hok, e.bare⟩
section
variable {X : Cx} {pins : List (Addr × Obj)} {σ : St} {H : Hp} {s s' : Shared}
theorem Inv.env0 (I : Inv X pins σ H s) : Env0 X.prog X.w X.K X.mg X.base X.A X.stack s H :=
  ⟨I.ok.frames, I.ok.mod, I.bs, Nat.le_trans I.ok.bsz I.sz, I.stack, I.stkFree, I.hok, I.bare⟩
theorem Inv.after {Q : VK} {u : Value} (I : Inv X pins σ H s) (h : CE X.stack X.prog X.w H s Q u s') : EP X pins σ Q u s' := by
  obtain ⟨v, H', os, bare, un, hok, r, q⟩ := h
  obtain ⟨hh, g, d, t, os'⟩ := s'
  obtain rfl : os' = s.os := os
  exact ⟨v, H', I.call (h' := hh) (g' := g) (d' := d) (t' := t) (ch := []) un hok bare (fun b z => absurd z (by simp)), r, q⟩
end
def tCall (sp : Sp) (dvs : List V) (E : XK) (t : TA) : TE := fun σ H Q => t σ H fun vs H1 => sp (vs ++ dvs) H1 Q E
def tMake (C : Addr) (sp : Sp) (dvs : List V) (E : XK) (t : TA) : TE := fun σ H Q => t σ H fun vs H1 => ∀ x dx, H1 x = none → H1 dx = none → dx ≠ x →
  sp (.ref x :: (vs ++ dvs)) (upd (upd H1 dx (.own x)) x (.ins C dx [])) (fun v H2 => v = .non ∧ Q (.ref x) H2) E
def Binds (K : PySem.W.Frag) (fd : FuncData) (ps : List Str) (ds : List Value) : Prop :=
  ∀ (s : Shared) (us : List Value), K.In s.heap → (us ++ ds).length = ps.length → BindsTo s fd ⟨us, []⟩ (ps.zip (us ++ ds))
theorem Binds.all {K : PySem.W.Frag} {fd : FuncData} {ps : List Str} (h : ∀ us : List Value, us.length = ps.length → bindArgs fd ⟨us, []⟩ = pure (ps.zip us)) : Binds K fd ps [] := fun s us _ hl => by
  rw [List.append_nil] at hl ⊢
  exact .of_eq (h us hl)
def Passes (CX : CXT) (X : Cx) (E : XK) : Prop := ∀ (pins : List (Addr × Obj)) (σ : St) (H : Hp) (s : Shared) (e : Value) (s' : Shared), Inv X pins σ H s → CX X.stack H s E e s' → X.xe e s'
section
variable {X : Cx} {CX : CXT} {k : Nat} {f C : Addr} {fd : FuncData} {ps : List Str} {sp : Sp} {dvs : List V} {ds : List Value} {E : XK} {x m : Str} {p pos apos : Pos} {e o : Expr} {es : List Expr} {ta : TE} {t : TA}
theorem run_fn {pins : List (Addr × Obj)} {σ : St} {H : Hp} {s : Shared} {Q : VK} {us : List Value} {vs : List V} (F : FnOk X.prog X.w X.K X.mg X.base CX k f fd ps sp) (hr : Room k X.A) (hb : Binds X.K fd ps ds) (hd : Vals dvs ds) (hx : Passes CX X E)
    (I : Inv X pins σ H s) (r : Vals vs us) (h : sp (vs ++ dvs) H Q E) : wpAny (model X.prog X.w) X.A (call (.ref f) us) (EP X pins σ Q) X.xe s := by
  have r2 : Vals (vs ++ dvs) (us ++ ds) := r.append hd
  have hl : (us ++ ds).length = ps.length := by rw [← r2.length]; exact F.len _ _ _ _ h
  refine wpAny_call (codeAny_mono (F.run X.A X.stack s H ⟨us, []⟩ (us ++ ds) (vs ++ dvs) Q E hr I.env0 (hb s us I.kIn hl) r2 h) fun r s' hq => ?_)
  cases r with
  | error e => exact hx pins σ H s e s' I hq
  | ok fl =>
    cases fl with
    | ret u => exact I.after hq
    | next => exact False.elim hq
    | brk => exact False.elim hq
    | cont => exact False.elim hq
theorem pe_call (F : FnOk X.prog X.w X.K X.mg X.base CX k f fd ps sp) (hr : Room k X.A) (hg : Gl X x) (hm : X.mg x = some (.ref f)) (hk : PySem.W.keepIn X.K (.ref f) = true) (hb : Binds X.K fd ps ds) (hd : Vals dvs ds) (hx : Passes CX X E)
    (ha : PA X (e :: es) t) (hdb : (x == ("__debug__" : Str)) = false := by decide) (he : starEach (e :: es) X.env = (false, eval e X.env) :: starEach es X.env := by rfl) (hpl : (backTo pos (starEach es X.env)).any (·.1) = false := by rfl) :
    PE X (.Call (.Name x p) (e :: es) [] pos) (tCall sp dvs E t) := by
  intro pins s σ H Q I h
  refine wpAny_Call_Name_kw (ld_glob I hg hm ?_ hdb)
  refine PySem.W.callWith_K (h₀ := X.base) I.ok.mod.kin hk (thn (ha pos pins s σ H _ I h) fun us s1 ⟨vs, H1, I1, r, q⟩ => ⟨I1.kIn, ?_⟩) he hpl
  exact run_fn F hr hb hd hx I1 r q
structure Mk (K : PySem.W.Frag) (C f : Addr) : Prop where
  makes : PySem.W.makesIn K C = true
  init : PySem.W.findIn K (.ref C) "__init__" = some (some (.ref f))
  fn : PySem.W.isFn K (.ref f) = true
  kp : PySem.W.keepIn K (.ref C) = true
theorem run_make {pins : List (Addr × Obj)} {σ : St} {H : Hp} {s : Shared} {Q : VK} {us : List Value} {vs : List V} (M : Mk X.K C f) (F : FnOk X.prog X.w X.K X.mg X.base CX k f fd ps sp) (hr : Room (k + 1) X.A) (hb : Binds X.K fd ps ds) (hd : Vals dvs ds)
    (hx : Passes CX X E) (I : Inv X pins σ H s) (r : Vals vs us)
    (h : ∀ x dx, H x = none → H dx = none → dx ≠ x → sp (.ref x :: (vs ++ dvs)) (upd (upd H dx (.own x)) x (.ins C dx [])) (fun v H2 => v = .non ∧ Q (.ref x) H2) E) :
    wpAny (model X.prog X.w) X.A (call (.ref C) us) (EP X pins σ Q) X.xe s := by
  have hq := h (s.heap.objs.size + 1) s.heap.objs.size (I.hok.fresh (Nat.le_succ _)) (I.hok.fresh (Nat.le_refl _)) (Nat.ne_of_lt (Nat.lt_succ_self _))
  have I2 := Inv.made (C := C) I
  have r2 : Vals (V.ref (s.heap.objs.size + 1) :: (vs ++ dvs)) (Value.ref (s.heap.objs.size + 1) :: (us ++ ds)) := .cons rfl (r.append hd)
  have hl : (Value.ref (s.heap.objs.size + 1) :: us ++ ds).length = ps.length := by
    have e := r2.length
    rw [F.len _ _ _ _ hq] at e
    exact e.symm
  refine wpAny_call (make_map (f := f) I.kIn M.makes M.init (beq_iff_eq.mp M.fn) (codeAny_mono (F.run _ X.stack _ _ ⟨Value.ref (s.heap.objs.size + 1) :: us, []⟩ (Value.ref (s.heap.objs.size + 1) :: (us ++ ds)) _ _ E (hr.make C us [])
    (I2.env0.make C us []) (hb _ (Value.ref (s.heap.objs.size + 1) :: us) I2.kIn hl) r2 hq) fun r s' hq' => ?_))
  cases r with
  | error e => exact hx pins σ _ _ e s' I2 hq'
  | ok fl =>
    cases fl with
    | ret u =>
      obtain ⟨v, H', I3, rv, ev, q3⟩ := I2.after hq'
      subst ev
      exact ⟨rv, ⟨V.ref (s.heap.objs.size + 1), H', I3, rfl, q3⟩⟩
    | next => exact False.elim hq'
    | brk => exact False.elim hq'
    | cont => exact False.elim hq'
theorem pe_make (M : Mk X.K C f) (F : FnOk X.prog X.w X.K X.mg X.base CX k f fd ps sp) (hr : Room (k + 1) X.A) (hg : Gl X x) (hm : X.mg x = some (.ref C)) (hb : Binds X.K fd ps ds) (hd : Vals dvs ds) (hx : Passes CX X E)
    (ha : PA X (e :: es) t) (hdb : (x == ("__debug__" : Str)) = false := by decide) (he : starEach (e :: es) X.env = (false, eval e X.env) :: starEach es X.env := by rfl) (hpl : (backTo pos (starEach es X.env)).any (·.1) = false := by rfl) :
    PE X (.Call (.Name x p) (e :: es) [] pos) (tMake C sp dvs E t) := by
  intro pins s σ H Q I h
  refine wpAny_Call_Name_kw (ld_glob I hg hm ?_ hdb)
  refine PySem.W.callWith_K (h₀ := X.base) I.ok.mod.kin M.kp (thn (ha pos pins s σ H _ I h) fun us s1 ⟨vs, H1, I1, r, q⟩ => ⟨I1.kIn, ?_⟩) he hpl
  exact run_make M F hr hb hd hx I1 r q
theorem pe_make0 (M : Mk X.K C f) (F : FnOk X.prog X.w X.K X.mg X.base CX k f fd ps sp) (hr : Room (k + 1) X.A) (hg : Gl X x) (hm : X.mg x = some (.ref C)) (hb : Binds X.K fd ps ds) (hd : Vals dvs ds) (hx : Passes CX X E)
    (hdb : (x == ("__debug__" : Str)) = false := by decide) : PE X (.Call (.Name x p) [] [] pos) (tMake C sp dvs E tNil) := by
  intro pins s σ H Q I h
  refine wpAny_Call_Name_kw (ld_glob I hg hm ?_ hdb)
  exact PySem.W.callWith_K0 I.kIn M.kp (run_make (us := []) M F hr hb hd hx I .nil h)
end
section
variable {X : Cx} {CX : CXT} {k : Nat} {f C : Addr} {fd : FuncData} {ps ks : List Str} {sp : Sp} {E : XK} {x m : Str} {p pos apos kpos : Pos} {e o : Expr} {es : List Expr} {kws : List Keyword} {te ta : TE} {t tk : TA} {nm : Option Str}
variable {g : List Value → List Value → List Value} {gV : List V → List V → List V}
end
structure FnScope (N P : List Str) (sc : Scope) : Prop where
  kind : sc.kind = .function
  co : sc.isCoroutine = false
  gen : sc.isGenerator = false
  nd : N.Nodup
  pre : N.take P.length = P
  par : ∀ x ∈ P, sc.names.lookup x = some .local ∨ sc.names.lookup x = some .cell
  nofree : ∀ y ∈ sc.names, y.2 ≠ .free
theorem bindL_out {kindOf : Str → Option NameKind} {x : Str} : ∀ {binds : List (Str × Value)} {m : Str → Option Value}, (∀ v, (x, v) ∉ binds) → bindL kindOf binds m x = m x
  | [], _, _ => rfl
  | (n, v) :: r, m, h => by
    unfold bindL
    rw [bindL_out fun w hw => h w (List.mem_cons_of_mem _ hw)]
    split
    · have : x ≠ n := by rintro rfl; exact h v List.mem_cons_self
      simp [this]
    · rfl
theorem bindC_out {kindOf : Str → Option NameKind} {x : Str} : ∀ {binds : List (Str × Value)} {m : Str → Option Value}, (∀ v, (x, v) ∉ binds) → bindC kindOf binds m x = m x
  | [], _, _ => rfl
  | (n, v) :: r, m, h => by
    unfold bindC
    rw [bindC_out fun w hw => h w (List.mem_cons_of_mem _ hw)]
    split
    · rfl
    · have : x ≠ n := by rintro rfl; exact h v List.mem_cons_self
      simp [this]
theorem bindL_get {kindOf : Str → Option NameKind} {x : Str} {v : Value} : ∀ {P : List Str} {vs : List Value} {i : Nat} {m : Str → Option Value}, P.Nodup → P[i]? = some x → vs[i]? = some v → kindOf x = some .local →
    bindL kindOf (P.zip vs) m x = some v
  | [], _, _, _, _, h, _, _ => by simp at h
  | _ :: _, [], _, _, _, _, h, _ => by simp at h
  | p :: P, w :: vs, 0, m, nd, h1, h2, hk => by
    simp at h1 h2; subst h1; subst h2
    show bindL kindOf ((p, w) :: P.zip vs) m p = _
    unfold bindL
    rw [bindL_out fun v hv => (List.nodup_cons.mp nd).1 (List.of_mem_zip hv).1, if_pos hk]
    simp
  | p :: P, w :: vs, i + 1, m, nd, h1, h2, hk => by
    show bindL kindOf ((p, w) :: P.zip vs) m x = _
    unfold bindL
    exact bindL_get (i := i) (List.nodup_cons.mp nd).2 (by simpa using h1) (by simpa using h2) hk
theorem bindC_get {kindOf : Str → Option NameKind} {x : Str} {v : Value} : ∀ {P : List Str} {vs : List Value} {i : Nat} {m : Str → Option Value}, P.Nodup → P[i]? = some x → vs[i]? = some v → kindOf x ≠ some .local →
    bindC kindOf (P.zip vs) m x = some v
  | [], _, _, _, _, h, _, _ => by simp at h
  | _ :: _, [], _, _, _, _, h, _ => by simp at h
  | p :: P, w :: vs, 0, m, nd, h1, h2, hk => by
    simp at h1 h2; subst h1; subst h2
    show bindC kindOf ((p, w) :: P.zip vs) m p = _
    unfold bindC
    rw [bindC_out fun v hv => (List.nodup_cons.mp nd).1 (List.of_mem_zip hv).1, if_neg hk]
    simp
  | p :: P, w :: vs, i + 1, m, nd, h1, h2, hk => by
    show bindC kindOf ((p, w) :: P.zip vs) m x = _
    unfold bindC
    exact bindC_get (i := i) (List.nodup_cons.mp nd).2 (by simpa using h1) (by simpa using h2) hk
def start (N : List Str) (vs : List V) : St := vs.map some ++ List.replicate (N.length - vs.length) none
def cxOf (CX : CXT) (P : Program) (w : World) (K : PySem.W.Frag) (mg : Str → Option Value) (base : Heap) (N : List Str) (qual : Str) (scope : Scope) (f : Addr) (cd : Value) (A : Around) (outer : List Env) (s : Shared) (H : Hp) (E : XK) : Cx where
  prog := P
  w := w
  K := K
  mg := mg
  base := base
  A := A.deeper (envOfC qual scope s.heap.objs.size f cd)
  N := N
  s_0 := s
  H_0 := H
  env := envOfC qual scope s.heap.objs.size f cd
  outer := outer
  stack := envOfC qual scope s.heap.objs.size f cd :: outer
  ex := []
  calm := true
  fn := fun _ => true
  pn := []
  xe := fun e s' => wpAny (model P w) (A.deeper (envOfC qual scope s.heap.objs.size f cd)) (leaving (envOfC qual scope s.heap.objs.size f cd) e) (fun _ s'' => CX outer H s E e s'') (fun e' s'' => CX outer H s E e' s'') s'
theorem cell_has {sc : Scope} {n : Nat} {x : Str} (h : sc.names.lookup x = some .cell) : ∃ c, (cellsFrom n sc.names []).lookup x = some c := by
  have q := PySem.W.cellsFrom_some sc.names n [] (.inl h)
  exact Option.isSome_iff_exists.mp q
theorem inv_start {CX : CXT} {P : Program} {w : World} {K : PySem.W.Frag} {mg : Str → Option Value} {base : Heap} {N ps : List Str} {qual : Str} {scope : Scope} {f : Addr} {cd : Value} {A : Around} {outer : List Env} {s s1 : Shared} {H : Hp} {E : XK} {us : List Value} {vs : List V}
    (S : FnScope N ps scope) (hd : A.handled = none) (e0 : Env0 P w K mg base A outer s H) (hl : vs.length = ps.length) (r : Vals vs us)
    (x : InCallC s s.heap.objs.size (bindL (envOfC qual scope s.heap.objs.size f cd).kindOf (ps.zip us) fun _ => none) (cellsFrom (s.heap.objs.size + 1) scope.names []) (bindC (envOfC qual scope s.heap.objs.size f cd).kindOf (ps.zip us) fun _ => none) s1) :
    Inv (cxOf CX P w K mg base N qual scope f cd A outer s H E) [] (start N vs) H s1 := by
  have hpl : ps.length ≤ N.length := by have := congrArg List.length S.pre; rw [List.length_take] at this; omega
  obtain ⟨h1, tk, rfl, hk⟩ := x.done
  have noA : ∀ b : Addr, b ∉ (cxOf CX P w K mg base N qual scope f cd A outer s H E).ex := fun b z => absurd (show b ∈ ([] : List Addr) from z) (by simp)
  refine ⟨⟨e0.mod, S.kind, rfl, rfl, Nat.le_refl _, fun y z c h1 h2 => ?_, fun y hy => ?_, fun y c _ h => ?_, fun _ => hd, Around.frames_deeper e0.frames, .inr ⟨rfl, rfl⟩, fun b z => absurd z (noA b), e0.bs, e0.bsz, fun b _ _ => noA b, fun b z => absurd z (noA b), e0.funs, e0.frf⟩,
    rfl, e0.bare, Un.kept hk, ⟨_, x.toInCall.ns, fun i y v h1 h2 h3 => ?_⟩, fun y c h => ⟨_, x.cell y c h⟩, e0.hok.fresh (Nat.le_refl _), fun y c h => ?_, fun p hp => absurd (show p ∈ ([] : List (Addr × Obj)) from hp) (by simp), e0.hok.kept hk, ?_⟩
  · exact name_of_addr x.apart (PySem.mem_of_lookup h1) (PySem.mem_of_lookup h2)
  · have hy : scope.names.lookup y = some .cell ∨ scope.names.lookup y = some .free := hy
    rcases hy with hy | hy
    · exact cell_has hy
    · exact absurd rfl (S.nofree _ (PySem.mem_of_lookup hy))
  · exact Nat.le_of_lt (x.above y c (PySem.mem_of_lookup h))
  · have hi : i < vs.length := by
      unfold start at h2
      by_cases hi : i < vs.length
      · exact hi
      · rw [List.getElem?_append_right (by simpa using hi)] at h2
        rw [List.getElem?_replicate] at h2
        split at h2 <;> cases h2
    have ha : vs[i]? = some v := by
      unfold start at h2
      rw [List.getElem?_append_left (by simpa using hi), List.getElem?_map] at h2
      cases e : vs[i]? with
      | none => rw [e] at h2; cases h2
      | some a => rw [e] at h2; cases h2; rfl
    obtain ⟨u, hu, rv⟩ := r.get ha
    have hp : ps[i]? = some y := by
      rw [← S.pre, List.getElem?_take_of_lt (by omega)]; exact h1
    have ndP : ps.Nodup := by rw [← S.pre]; exact S.nd.sublist (List.take_sublist _ _)
    refine ⟨u, rv, ?_⟩
    rcases S.par y (List.mem_of_getElem? hp) with k | k
    · exact .inl ⟨k, bindL_get ndP hp hu k⟩
    · obtain ⟨c, e⟩ := cell_has (n := s.heap.objs.size + 1) k
      refine .inr ⟨.inl k, c, e, ?_⟩
      have q := x.cell y c e
      rw [bindC_get ndP hp hu (by show scope.names.lookup y ≠ _; rw [k]; decide)] at q
      exact q
  · exact e0.hok.fresh (Nat.le_of_lt (x.above y c (PySem.mem_of_lookup h)))
  · unfold start
    show _ = N.length
    rw [List.length_append, List.length_map, List.length_replicate]
    omega
theorem fn_of {CX : CXT} {P : Program} {w : World} {K : PySem.W.Frag} {mg : Str → Option Value} {base : Heap} {k : Nat} {f : Addr} {name qual : Str} {params : Arguments} {body : List Stmt} {scope : Scope} {dV kV doc pm cdv ct oc : Value} {an od : Option Addr}
    {osl : Array (Option Value)} {N ps : List Str} {sp : Sp} (lk : K.lookup f = some ⟨oc, od, .func (PySem.W.fnOf name qual params body scope dV kV doc pm an cdv ct), osl⟩) (hcd : PySem.W.codeIn K cdv qual = true) (S : FnScope N ps scope)
    (len : ∀ vs H Q E, sp vs H Q E → vs.length = ps.length)
    (hbody : ∀ (A : Around) (outer : List Env) (s : Shared) (H : Hp) (vs : List V) (Q : VK) (E : XK), Room k (A.deeper (envOfC qual scope s.heap.objs.size f cdv)) → sp vs H Q E →
      ∃ t, PSs (cxOf CX P w K mg base N qual scope f cdv A outer s H E) body t ∧ t { nx := fun _ H' => Q .non H', rt := Q } (start N vs) H) :
    FnOk P w K mg base CX (k + 1) f (PySem.W.fnOf name qual params body scope dV kV doc pm an cdv ct) ps sp := by
  refine ⟨len, fun A outer s H args us vs Q E hr e0 hb r hsp => ?_⟩
  have hl := len _ _ _ _ hsp
  have KX : K.In s.heap := e0.mod.kin.keeps fun b o e => (e0.bs b o e).1
  have lim : s.heap.NoLimit := e0.mod.nolimit.keeps fun b o e => (e0.bs b o e).1
  have hkind : ∀ y ∈ ps.zip us, scope.names.lookup y.1 = some .local ∨ (scope.names.lookup y.1 = some .cell ∧ ((cellsFrom (s.heap.objs.size + 1) scope.names []).lookup y.1).isSome = true) := fun ⟨n, v⟩ hy => by
    rcases S.par n (List.of_mem_zip hy).1 with q | q
    · exact .inl q
    · exact .inr ⟨q, PySem.W.cellsFrom_some _ _ _ (.inl q)⟩
  refine codeAny_call_function hr.depth (KX _ _ lk) rfl S.co S.gen rfl (PySem.W.codeRec_of KX hcd) (hb _ _ _ _ ?_)
  refine wpAny_newFunctionEnv_cells S.kind hkind fun env he s1 x => ?_
  subst he
  refine ⟨lim.keeps x.toInCall.keep, codeAny_func ?_⟩
  obtain ⟨t, ht, hq⟩ := hbody A outer s H vs Q E (hr.deeper _) hsp
  have I : Inv (cxOf CX P w K mg base N qual scope f cdv A outer s H E) [] (start N vs) H s1 := inv_start S hr.hd e0 hl r x
  refine wpAny_mono (ht [] s1 (start N vs) H _ I hq) (fun fl s' hs => ?_) fun e s' hs => hs
  have fin : ∀ {σ' : St} {H' : Hp} {v : V} {u : Value}, Inv (cxOf CX P w K mg base N qual scope f cdv A outer s H E) [] σ' H' s' → RelV v u → Q v H' → CE outer P w H s Q u s' :=
    fun {σ' H' v u} J rv q => ⟨v, H', J.os, J.bare, J.base, J.hok, rv, q⟩
  cases fl with
  | ret u =>
    obtain ⟨v, σ', H', J, rv, q⟩ := hs
    exact fin J rv q
  | next =>
    obtain ⟨σ', H', J, q⟩ := hs
    exact fin (v := V.non) (u := Value.none) J rfl q
  | brk =>
    obtain ⟨_, _, _, q⟩ := hs
    exact False.elim q
  | cont =>
    obtain ⟨_, _, _, q⟩ := hs
    exact False.elim q
end L2
namespace L2
open PySem PySem.Spec PyProof.Rows
section
variable {X : Cx} {x : Str} {p pos : Pos} {e : Expr} {es : List Expr} {t : TA} {id T : String} {r : List V → Hp → VK → Prop}
def tCB (r : List V → Hp → VK → Prop) (t : TA) : TE := fun σ H Q => t σ H fun vs H1 => r vs H1 Q
theorem pe_callB (hc : CallR X (.builtin id) r) (hg : Gl X x) (hm : X.mg x = none) (hv : bootBuiltins x = some (.builtin id)) (ha : PA X (e :: es) t) (hn : x ≠ "__name__" := by decide) (hdb : (x == ("__debug__" : Str)) = false := by decide)
    (he : starEach (e :: es) X.env = (false, eval e X.env) :: starEach es X.env := by rfl) (hpl : (backTo pos (starEach es X.env)).any (·.1) = false := by rfl) : PE X (.Call (.Name x p) (e :: es) [] pos) (tCB r t) := by
  intro pins s σ H Q I h
  refine wpAny_Call_Name_kw (ld_blt I hg hm hv ?_ hn hdb)
  exact PyProof.Rows.callWith_builtin1 (thn (ha pos pins s σ H _ I h) fun us s1 ⟨vs, H1, I1, r1, q1⟩ => hc pins s1 σ H1 vs us Q I1 r1 q1) he hpl
theorem pe_callTy (hc : CallR X (.type T) r) (hg : Gl X x) (hm : X.mg x = none) (hv : bootBuiltins x = some (.type T)) (ha : PA X (e :: es) t) (hn : x ≠ "__name__" := by decide) (hdb : (x == ("__debug__" : Str)) = false := by decide)
    (he : starEach (e :: es) X.env = (false, eval e X.env) :: starEach es X.env := by rfl) (hpl : (backTo pos (starEach es X.env)).any (·.1) = false := by rfl) : PE X (.Call (.Name x p) (e :: es) [] pos) (tCB r t) := by
  intro pins s σ H Q I h
  refine wpAny_Call_Name_kw (ld_blt I hg hm hv ?_ hn hdb)
  exact PyProof.Rows.callWith_type1 (thn (ha pos pins s σ H _ I h) fun us s1 ⟨vs, H1, I1, r1, q1⟩ => hc pins s1 σ H1 vs us Q I1 r1 q1) he hpl
end
end L2
namespace HT
open PySem PyProof.Rows
section
open PySem.SeqAt
open PySem.AutoSeq1 (wpAny_loadPart')
open PySem.MeetsSeq PySem.MeetsSeq2 PySem.MeetsSeq3
end
section
variable {prog : Program} {w : World} {A : Around} {E : Value → Shared → Prop} {s : Shared}
def sIx (n d : Nat) : Option Int → Nat
  | none => d
  | some v => if v < 0 then (v + (n : Int)).toNat else min v.toNat n
theorem sIx_nat (n d k : Nat) : sIx n d (some (k : Int)) = min k n := by
  show (if (k : Int) < 0 then ((k : Int) + (n : Int)).toNat else min (k : Int).toNat n) = min k n
  rw [if_neg (by omega), Int.toNat_natCast]
theorem sIx_le (n d : Nat) (hd : d ≤ n) (o : Option Int) : sIx n d o ≤ n := by
  cases o with
  | none => exact hd
  | some v =>
    show (if v < 0 then (v + (n : Int)).toNat else min v.toNat n) ≤ n
    by_cases hv : v < 0
    · rw [if_pos hv]; omega
    · rw [if_neg hv]; exact Nat.min_le_right _ _
end
end HT
namespace L2
open PySem PySem.Spec PyProof.Rows
abbrev TO := St → Hp → (Option Int → Hp → Prop) → Prop
def PO (X : Cx) (e : Option Expr) (t : TO) : Prop :=
  ∀ (pins : List (Addr × Obj)) (s : Shared) (σ : St) (H : Hp) (Q : Option Int → Hp → Prop), Inv X pins σ H s → t σ H Q →
    wpAny (model X.prog X.w) X.A (evalPart e X.env) (fun u s' => ∃ o H', Inv X pins σ H' s' ∧ IsPart u o ∧ Q o H') X.xe s
def tNoPart : TO := fun _ H Q => Q none H
def tPart (t : TE) : TO := fun σ H Q => t σ H fun x H1 => ∃ i, x = .int i ∧ Q (some i) H1
section
variable {X : Cx} {e : Expr} {te : TE} {lo hi : Option Expr} {tl th : TO} {pos p2 : Pos}
theorem po_none : PO X none tNoPart := by
  intro pins s σ H Q I h
  rw [evalPart_none]
  exact wpAny_pure ⟨none, H, I, .none, h⟩
theorem po_some (h : PE X e te) : PO X (some e) (tPart te) := by
  intro pins s σ H Q I hw
  rw [evalPart_some]
  refine thn (h pins s σ H _ I hw) fun u s1 ⟨x, H1, I1, r1, q1⟩ => ?_
  obtain ⟨i, rfl, q⟩ := q1
  obtain ⟨t, rfl⟩ := r1
  exact ⟨some i, H1, I1, .int i t, q⟩
def SlR (X : Cx) (r : V → Option Int → Option Int → Hp → VK → Prop) : Prop :=
  ∀ (pins : List (Addr × Obj)) (s : Shared) (σ : St) (H : Hp) (x : V) (v vl vu : Value) (lo hi : Option Int) (sl : Addr) (Q : VK), Inv X pins σ H s → RelV x v → s.heap.IsSliceOf sl vl vu .none → IsPart vl lo → IsPart vu hi → r x lo hi H Q →
    ∃ T id, typeLookup (.type T) "__getitem__" = pure (some (.builtin id)) ∧ s.TypeIs v T ∧ wpAny (model X.prog X.w) X.A (getItem v (.ref sl)) (EP X pins σ Q) X.xe s
def tSl (r : V → Option Int → Option Int → Hp → VK → Prop) (te : TE) (tl th : TO) : TE := fun σ H Q => te σ H fun x H1 => tl σ H1 fun l H2 => th σ H2 fun u H3 => r x l u H3 Q
theorem pe_slice {r : V → Option Int → Option Int → Hp → VK → Prop} (hr : SlR X r) (he : PE X e te) (hl : PO X lo tl) (hu : PO X hi th) : PE X (.Subscript e (.Slice lo hi none p2) pos) (tSl r te tl th) := by
  intro pins s σ H Q I h
  refine Subscript_ (thn (he pins s σ H _ I h) fun v s1 ⟨x, H1, I1, r1, q1⟩ => ?_)
  refine wpAny_Slice (thn (hl pins s1 σ H1 _ I1 q1) fun vl s2 ⟨l, H2, I2, pl, q2⟩ => thn (hu pins s2 σ H2 _ I2 q2) fun vu s3 ⟨u, H3, I3, pu, q3⟩ => ?_)
  rw [evalPart_none]
  refine wpAny_pure ?_
  have I4 : Inv X pins σ H3 { s3 with heap := s3.heap.push { cls := .type "slice", data := .fields #[vl, vu, .none] } } := I3.kept (t' := s3.toks) fun b ob q => Heap.get?_push_of_some _ q
  obtain ⟨T, id, hT, ht, hg⟩ := hr pins { s3 with heap := s3.heap.push { cls := .type "slice", data := .fields #[vl, vu, .none] } } σ H3 x v vl vu l u s3.heap.objs.size Q I4 r1 (Heap.IsSliceOf.new ..) pl pu q3
  show wpAny (model X.prog X.w) X.A (subscriptTail e (.Slice lo hi none p2) v (.ref s3.heap.objs.size)) (EP X pins σ Q) X.xe { s3 with heap := s3.heap.push { cls := .type "slice", data := .fields #[vl, vu, .none] } }
  exact tail_any (ops := [.ref s3.heap.objs.size, v]) ht hT hg (by with_unfolding_all rfl)
def cutV (xs : List V) (lo hi : Option Int) : List V := (xs.drop (HT.sIx xs.length 0 lo)).take (HT.sIx xs.length xs.length hi - HT.sIx xs.length 0 lo)
theorem cutV_length (xs : List V) (lo hi : Option Int) : (cutV xs lo hi).length ≤ xs.length := by
  unfold cutV
  rw [List.length_take, List.length_drop]
  omega
end
end L2
namespace L2
open PySem PySem.Spec PyProof.Rows
def ixN (n : Nat) (i : Int) : Option Nat := if 0 ≤ i then (if i < n then some i.toNat else none) else if -(n : Int) ≤ i then some (i + n).toNat else none
def atI {α : Type} (xs : List α) (i : Int) : Option α := (ixN xs.length i).bind fun j => xs[j]?
theorem ixN_seq {n : Nat} {i : Int} {j : Nat} (h : ixN n i = some j) : seqIndex? i n = some j ∧ j < n ∧ -(n : Int) ≤ i ∧ i < n := by
  unfold ixN at h
  by_cases h0 : 0 ≤ i
  · rw [if_pos h0] at h
    by_cases h1 : i < n
    · rw [if_pos h1] at h
      have e : i.toNat = j := Option.some.inj h
      exact ⟨by rw [seqIndex_of h0 h1, e], by omega, by omega, h1⟩
    · rw [if_neg h1] at h; cases h
  · rw [if_neg h0] at h
    by_cases h1 : -(n : Int) ≤ i
    · rw [if_pos h1] at h
      have e : (i + n).toNat = j := Option.some.inj h
      exact ⟨by rw [seqIndex_neg (by omega) h1, e], by omega, h1, by omega⟩
    · rw [if_neg h1] at h; cases h
theorem atI_get {α : Type} {xs : List α} {i : Int} {v : α} (h : atI xs i = some v) : ∃ j, seqIndex? i xs.length = some j ∧ xs[j]? = some v ∧ j < xs.length ∧ -(xs.length : Int) ≤ i ∧ i < xs.length := by
  unfold atI at h
  cases e : ixN xs.length i with
  | none => rw [e] at h; cases h
  | some j =>
    rw [e] at h
    obtain ⟨h1, h2, h3, h4⟩ := ixN_seq e
    exact ⟨j, h1, h, h2, h3, h4⟩
theorem atI_nat {α : Type} {xs : List α} {j : Nat} {v : α} (h : xs[j]? = some v) : atI xs (j : Int) = some v := by
  have hj : j < xs.length := (List.getElem?_eq_some_iff.mp h).1
  have e : ixN xs.length (j : Int) = some j := by
    unfold ixN
    rw [if_pos (by omega), if_pos (by omega)]; simp
  unfold atI; rw [e]; exact h
theorem atI_last {α : Type} (xs : List α) (v : α) : atI (xs ++ [v]) (-1) = some v := by
  have hl : (xs ++ [v]).length = xs.length + 1 := by simp
  have e : ixN (xs ++ [v]).length (-1) = some xs.length := by
    unfold ixN
    rw [hl, if_neg (by decide), if_pos (by omega)]
    congr 1
    omega
  unfold atI
  rw [e]
  show (xs ++ [v])[xs.length]? = some v
  simp
def PlainIx (b : Expr) : Prop := ∀ o i, subscripted b false o i = operate [o, i] (getItem o i)
def IxR (X : Cx) (r : R2) : Prop :=
  ∀ (value slice : Expr) (pins : List (Addr × Obj)) (s : Shared) (σ : St) (H : Hp) (x y : V) (v u : Value) (Q : VK), Inv X pins σ H s → RelV x v → RelV y u → r x y H Q →
    subscripted slice false v u = operate [v, u] (getItem v u) → wpAny (model X.prog X.w) X.A (subscriptTail value slice v u) (EP X pins σ Q) X.xe s
def MtR (X : Cx) (id : String) (r : V → List V → Hp → VK → Prop) : Prop :=
  ∀ (pins : List (Addr × Obj)) (s : Shared) (σ : St) (H : Hp) (x : V) (xs : List V) (v : Value) (us : List Value) (Q : VK), Inv X pins σ H s → RelV x v → Vals xs us → r x xs H Q →
    wpAny (model X.prog X.w) X.A (call (.builtin id) (v :: us)) (EP X pins σ Q) X.xe s
section
variable {X : Cx} {a b : Expr} {ta tb : TE} {pos : Pos}
theorem pe_ix {r : R2} (hr : IxR X r) (ha : PE X a ta) (hb : PE X b tb) (hs : PlainIx b) : PE X (.Subscript a b pos) (tOp r ta tb) := by
  intro pins s σ H Q I h
  exact Subscript_ (binT ha hb I h fun v u s2 x y H2 I2 rx ry q => hr a b pins s2 σ H2 x y v u Q I2 rx ry q (hs _ _))
def rIxL (K : PySem.W.Frag) : R2 := fun x y H Q => ∃ p xs i v, x = .ref p ∧ y = .int i ∧ SqL K H p xs ∧ atI xs i = some v ∧ Q v H
def rIxT (K : PySem.W.Frag) : R2 := fun x y H Q => ∃ p xs i v, x = .ref p ∧ y = .int i ∧ SqT K H p xs ∧ atI xs i = some v ∧ Q v H
def rIxS : R2 := fun x y H Q => ∃ z i c, x = .str z ∧ y = .int i ∧ z.length ≤ sizeLine ∧ atI z.cps.toList i = some c ∧ Q (.str ⟨#[c]⟩) H
theorem ix_list : IxR X (rIxL X.K) := by
  intro value slice pins s σ H x y v u Q I rx ry h hs
  obtain ⟨p, xs, i, z, rfl, rfl, hq, he, q⟩ := h
  cases rx
  obtain ⟨t, rfl⟩ := ry
  obtain ⟨its, r, pl, hz⟩ := I.list hq
  obtain ⟨j, h1, h2, h3, h4, h5⟩ := atI_get he
  obtain ⟨w, ew, rw'⟩ := r.get h2
  have hl := r.length
  have hn := line63
  have fin : EP X pins σ Q w s := ⟨z, H, I, rw', q⟩
  by_cases h0 : 0 ≤ i
  · have hj : i.toNat = j := by
      rw [seqIndex_of h0 h5] at h1
      exact Option.some.inj h1
    exact item_listR pl.isList h0 (by omega) (by rw [hj]; simpa using ew) fin hs
  · have hj : (i + (its.toArray.size : Int)).toNat = j := by
      rw [seqIndex_neg (by omega) h4] at h1
      rw [List.size_toArray, ← hl]
      exact Option.some.inj h1
    exact subscriptTail_builtinR (x := w) pl.isList.typeIs slot_list_getitem.lookup
      (wpAny_getItem_list_neg (Q := fun r s' => r = w ∧ EP X pins σ Q r s') pl.isList (by omega) (by rw [List.size_toArray] <;> omega) (by omega) (by rw [hj]; simpa using ew) ⟨rfl, fin⟩) hs
theorem ix_tup : IxR X (rIxT X.K) := by
  intro value slice pins s σ H x y v u Q I rx ry h hs
  obtain ⟨p, xs, i, z, rfl, rfl, hq, he, q⟩ := h
  cases rx
  obtain ⟨t, rfl⟩ := ry
  obtain ⟨its, r, pl, hz⟩ := I.tuple hq
  obtain ⟨j, h1, h2, h3, h4, h5⟩ := atI_get he
  obtain ⟨w, ew, rw'⟩ := r.get h2
  have hl := r.length
  have hn := line63
  have fin : EP X pins σ Q w s := ⟨z, H, I, rw', q⟩
  exact subscriptTail_builtinR (x := w) pl.typeIs slot_tuple_getitem.lookup
    (getItem_tuple (j := j) (Q := fun r s' => r = w ∧ EP X pins σ Q r s') pl (by omega) (by omega) (by rw [List.size_toArray, ← hl]; exact h1) (by simpa using ew) ⟨rfl, fin⟩) hs
theorem ix_str : IxR X rIxS := by
  intro value slice pins s σ H x y v u Q I rx ry h hs
  obtain ⟨z, i, c, rfl, rfl, hz, he, q⟩ := h
  obtain ⟨t, rfl⟩ := rx
  obtain ⟨t', rfl⟩ := ry
  obtain ⟨j, h1, h2, h3, h4, h5⟩ := atI_get he
  have hl : z.cps.toList.length = z.length := by simp [Str.length]
  rw [hl] at h1 h4 h5
  have hn := line63
  exact tail_any (typeIs_str s z t) slot_str_getitem.lookup (getItem_str (c := c) (by
    have e1 : decide (i < -(2 ^ 63 : Int)) = false := decide_eq_false (by omega)
    have e2 : decide (i ≥ 2 ^ 63) = false := decide_eq_false (by omega)
    rw [e1, e2, Bool.or_false]) (by rw [h1]; simpa using h2) ⟨.str ⟨#[c]⟩, H, I.tok _, ⟨_, rfl⟩, q⟩) hs
theorem mapSeq_set (its : List Value) (n j : Nat) (u : Value) : Obj.mapSeq (·.setIfInBounds j u) { cls := .type "list", data := .seq its.toArray n } = { cls := .type "list", data := .seq (its.set j u).toArray n } := by
  simp [Obj.mapSeq]
theorem Inv.lst {pins : List (Addr × Obj)} {σ : St} {H : Hp} {s : Shared} {p : Addr} {xs : List V} (I : Inv X pins σ H s) (h : H p = some (.lst xs)) :
    ∃ (its : List Value) (n : Nat), Vals xs its ∧ s.heap.get? p = some { cls := .type "list", data := .seq its.toArray n } ∧ xs.length ≤ sizeLine := by
  obtain ⟨z, its, n, r, e⟩ := I.hok p _ h
  exact ⟨its, n, r, e, z⟩
theorem Inv.lstUpd {pins : List (Addr × Obj)} {σ : St} {H : Hp} {s : Shared} {p : Addr} {xs ys : List V} {its its' : List Value} {n n' : Nat} {f : Obj → Obj} (I : Inv X pins σ H s) (h : H p = some (.lst xs))
    (ho : s.heap.get? p = some { cls := .type "list", data := .seq its.toArray n }) (hf : f { cls := .type "list", data := .seq its.toArray n } = { cls := .type "list", data := .seq its'.toArray n' }) (r : Vals ys its') (hz : ys.length ≤ sizeLine) (t : Nat) :
    Inv X pins σ (upd H p (.lst ys)) { s with heap := s.heap.update p f, toks := t } := by
  have e : (s.heap.update p f).get? p = some { cls := .type "list", data := .seq its'.toArray n' } := by
    rw [Heap.get?_update_self f ho (by rw [hf] <;> rfl), hf]
  refine I.write (x := p) (e := p) (by rw [h]; trivial) (.inl rfl) (fun b u hb q => (Heap.get?_update_other _ _ (Ne.symm hb)).trans q) ⟨_, e⟩ ?_
  exact ⟨hz, its', n', r, e⟩
def rSetL : V → V → V → Hp → (Hp → Prop) → Prop := fun o i v H Q => ∃ p xs k j, o = .ref p ∧ i = .int k ∧ H p = some (.lst xs) ∧ ixN xs.length k = some j ∧ Q (upd H p (.lst (xs.set j v)))
theorem set_list : PSet X rSetL := by
  intro pins s σ H o i v ov iv u Q I ro ri rv h
  obtain ⟨p, xs, k, j, rfl, rfl, hp, hj, q⟩ := h
  cases ro
  obtain ⟨t, rfl⟩ := ri
  obtain ⟨its, n, r, ho, hz⟩ := I.lst hp
  obtain ⟨h1, h2, h3, h4⟩ := ixN_seq hj
  have hl := r.length
  have hn := line63
  have I' : Inv X pins σ (upd H p (.lst (xs.set j v))) { s with heap := s.heap.update p (Obj.mapSeq (·.setIfInBounds j u)) } :=
    I.lstUpd hp ho (mapSeq_set its n j u) (r.set rv j) (by rw [List.length_set]; exact hz) s.toks
  by_cases h0 : 0 ≤ k
  · have hk : k.toNat = j := by
      rw [seqIndex_of h0 h4] at h1
      exact Option.some.inj h1
    exact PySem.W.ki_setAt ho h0 (by omega) (by rw [List.size_toArray, ← hl]; exact h4) (by rw [hk]; exact ⟨_, I', q⟩)
  · have hk : (k + (its.toArray.size : Int)).toNat = j := by
      rw [seqIndex_neg (by omega) h3] at h1
      rw [List.size_toArray, ← hl]
      exact Option.some.inj h1
    exact PySem.W.ki_setBack ho (by omega) (by rw [List.size_toArray, ← hl]; exact h3) (by omega) (by rw [hk]; exact ⟨_, I', q⟩)
theorem slice_bounds (lo hi : Option Int) (n : Nat) : (sliceBounds lo hi none n).1 = ((HT.sIx n 0 lo : Nat) : Int) ∧ (sliceBounds lo hi none n).2.1 = ((HT.sIx n n hi : Nat) : Int) ∧ (sliceBounds lo hi none n).2.2 = 1 := by
  refine ⟨?_, ?_, rfl⟩
  · cases lo with
    | none => simp [sliceBounds, HT.sIx]
    | some i =>
      simp only [sliceBounds, HT.sIx, Option.getD_none, show (1 : Int) > 0 by decide, if_true]
      by_cases h : i < 0
      · simp only [h, if_true] <;> omega
      · simp only [h, if_false] <;> omega
  · cases hi with
    | none => simp [sliceBounds, HT.sIx]
    | some i =>
      simp only [sliceBounds, HT.sIx, Option.getD_none, show (1 : Int) > 0 by decide, if_true]
      by_cases h : i < 0
      · simp only [h, if_true] <;> omega
      · simp only [h, if_false] <;> omega
theorem slicePick_cut (its : List Value) (lo hi : Option Int) : slicePick its.toArray lo hi none = ((its.drop (HT.sIx its.length 0 lo)).take (HT.sIx its.length its.length hi - HT.sIx its.length 0 lo)).toArray := by
  obtain ⟨h1, h2, h3⟩ := slice_bounds lo hi its.toArray.size
  unfold slicePick
  rw [h1, h2, h3]
  simp only [sliceRange_one, pick_run, List.size_toArray] <;> rfl
def rSlL (K : PySem.W.Frag) : V → Option Int → Option Int → Hp → VK → Prop := fun x lo hi H Q => ∃ a xs, x = .ref a ∧ SqL K H a xs ∧ ∀ p, H p = none → Q (.ref p) (upd H p (.lst (cutV xs lo hi)))
theorem sl_list : SlR X (rSlL X.K) := by
  intro pins s σ H x v vl vu lo hi sl Q I rx hs pl pu h
  obtain ⟨a, xs, rfl, hx, q⟩ := h
  cases rx
  obtain ⟨its, r, ht, hz⟩ := I.list hx
  have hlen := r.length
  refine ⟨"list", _, slot_list_getitem.lookup, ht.isList.typeIs, ?_⟩
  refine wpAny_getItem_list_slice ht.isList hs pl pu .none (by simp) ?_ (by rw [List.size_toArray] <;> omega)
  rw [slicePick_cut, ← hlen]
  refine ⟨.ref s.heap.objs.size, _, I.laid (t' := s.toks) (o := .lst (cutV xs lo hi)) (fun b ob q => Heap.get?_push_of_some _ q) (Nat.le_refl _) ?_, rfl, q _ (I.hok.fresh (Nat.le_refl _))⟩
  exact ⟨Nat.le_trans (cutV_length xs lo hi) hz, _, 0, (r.drop (HT.sIx xs.length 0 lo)).take (HT.sIx xs.length xs.length hi - HT.sIx xs.length 0 lo), Heap.get?_push_size _ rfl⟩
def flatV : V → Bool
  | .non => true
  | .bl _ => true
  | .int _ => true
  | .str _ => true
  | _ => false
def eqV : V → V → Bool
  | .non, .non => true
  | .bl a, .bl b => a == b
  | .bl a, .int b => (if a then 1 else 0) == b
  | .int a, .bl b => a == (if b then 1 else 0)
  | .int a, .int b => a == b
  | .str a, .str b => a == b
  | _, _ => false
theorem eqAt_V {A : Around} {s : Shared} {y x : V} {u v : Value} (ry : RelV y u) (rx : RelV x v) (fy : flatV y = true) (fx : flatV x = true) : SeqAt.EqAt A s u v (eqV y x) := by
  cases y with
  | non =>
    cases ry
    cases x with
    | non => cases rx; exact SeqAt.EqAt.same _
    | bl b => cases rx; exact SeqAt.EqAt.none_bool b
    | int b => obtain ⟨t, rfl⟩ := rx; exact SeqAt.EqAt.none_int b t
    | str b => obtain ⟨t, rfl⟩ := rx; exact SeqAt.EqAt.none_str b t
    | _ => exact absurd (show false = true from fx) Bool.false_ne_true
  | bl a =>
    cases ry
    cases x with
    | non => cases rx; exact SeqAt.EqAt.bool_none a
    | bl b => cases rx; exact SeqAt.EqAt.bool_bool a b
    | int b => obtain ⟨t, rfl⟩ := rx; exact SeqAt.EqAt.bool_int a b t
    | str b => obtain ⟨t, rfl⟩ := rx; exact SeqAt.EqAt.bool_str a b t
    | _ => exact absurd (show false = true from fx) Bool.false_ne_true
  | int a =>
    obtain ⟨t', rfl⟩ := ry
    cases x with
    | non => cases rx; exact SeqAt.EqAt.int_none a t'
    | bl b => cases rx; exact SeqAt.EqAt.int_bool a t' b
    | int b => obtain ⟨t, rfl⟩ := rx; exact SeqAt.EqAt.int_int a t' b t
    | str b => obtain ⟨t, rfl⟩ := rx; exact SeqAt.EqAt.int_str a t' b t
    | _ => exact absurd (show false = true from fx) Bool.false_ne_true
  | str a =>
    obtain ⟨t', rfl⟩ := ry
    cases x with
    | non => cases rx; exact SeqAt.EqAt.str_none a t'
    | bl b => cases rx; exact SeqAt.EqAt.str_bool a t' b
    | int b => obtain ⟨t, rfl⟩ := rx; exact SeqAt.EqAt.str_int a t' b t
    | str b => obtain ⟨t, rfl⟩ := rx; exact SeqAt.EqAt.str_str a t' b t
    | _ => exact absurd (show false = true from fx) Bool.false_ne_true
  | _ => exact absurd (show false = true from fy) Bool.false_ne_true
def eqU (x : V) (u : Value) : Bool := match u with
  | .none => eqV .non x
  | .bool b => eqV (.bl b) x
  | .int i _ => eqV (.int i) x
  | .str z _ => eqV (.str z) x
  | _ => false
theorem eqU_of {x y : V} {u : Value} (r : RelV y u) (f : flatV y = true) : eqU x u = eqV y x := by
  cases y with
  | non => cases r; rfl
  | bl b => cases r; rfl
  | int i => obtain ⟨t, rfl⟩ := r; rfl
  | str z => obtain ⟨t, rfl⟩ := r; rfl
  | _ => exact absurd (show false = true from f) Bool.false_ne_true
theorem mem_eqAt {A : Around} {s : Shared} {x : V} {v : Value} (rx : RelV x v) (fx : flatV x = true) : ∀ {xs : List V} {us : List Value}, Vals xs us → xs.all flatV = true → ∀ u ∈ us, SeqAt.EqAt A s u v (eqU x u)
  | _, _, .nil, _ => fun u hu => by cases hu
  | y :: xs, u :: us, .cons r t, f => fun u' hu => by
    rw [List.all_cons, Bool.and_eq_true] at f
    rcases List.mem_cons.mp hu with rfl | hu
    · rw [eqU_of r f.1]; exact eqAt_V r rx f.1 fx
    · exact mem_eqAt rx fx t f.2 u' hu
theorem call_len_seq : CallR X (.builtin "len") (fun xs H Q => ∃ p ys, xs = [.ref p] ∧ (SqL X.K H p ys ∨ SqT X.K H p ys) ∧ Q (.int ys.length) H) := by
  intro pins s σ H xs us Q I r h
  obtain ⟨p, ys, rfl, hq, q⟩ := h
  obtain ⟨u, rfl, rx⟩ := vals1 r
  cases rx
  have hn := line63
  rcases hq with hq | hq
  · obtain ⟨its, r', pl, hz⟩ := I.list hq
    have hlen := r'.length
    exact Calls.call_len_list pl.isList (by simp only [List.size_toArray] <;> omega) ⟨.int ys.length, H, I.tok _, ⟨s.toks + 1, by rw [List.size_toArray, hlen]⟩, q⟩
  · obtain ⟨its, r', pl, hz⟩ := I.tuple hq
    have hlen := r'.length
    exact len_tuple pl (by simp only [List.size_toArray] <;> omega) ⟨.int ys.length, H, I.tok _, ⟨s.toks + 1, by rw [List.size_toArray, hlen]⟩, q⟩
theorem call_len_str : CallR X (.builtin "len") (fun xs H Q => ∃ z, xs = [.str z] ∧ z.length ≤ sizeLine ∧ Q (.int z.length) H) := by
  intro pins s σ H xs us Q I r h
  obtain ⟨z, rfl, hz, q⟩ := h
  obtain ⟨u, rfl, t, rfl⟩ := vals1 r
  have hn := line63
  exact len_str (by omega) ⟨.int z.length, H, I.tok _, ⟨_, rfl⟩, q⟩
theorem call_list_of : CallR X (.type "list") (fun xs H Q => ∃ p ys, xs = [.ref p] ∧ (SqL X.K H p ys ∨ SqT X.K H p ys) ∧ ∀ l, H l = none → Q (.ref l) (upd H l (.lst ys))) := by
  intro pins s σ H xs us Q I r h
  obtain ⟨p, ys, rfl, hq, q⟩ := h
  obtain ⟨u, rfl, rx⟩ := vals1 r
  cases rx
  have fin : ∀ (its : List Value), Vals ys its → ys.length ≤ sizeLine → ∀ (h' : Heap) (c' : Nat), (∀ b o', s.heap.get? b = some o' → h'.get? b = some o') →
      h'.get? s.heap.objs.size = some { cls := .type "list", dict := none, data := .seq its.toArray c', slots := #[] } → EP X pins σ Q (.ref s.heap.objs.size) { s with heap := h' } := fun its r' hz h' c' kp e =>
    ⟨.ref s.heap.objs.size, _, I.laid (t' := s.toks) kp (Nat.le_refl _) (show ObjOk X.prog X.w _ h' _ (.lst ys) from ⟨hz, its, c', r', e⟩), rfl, q _ (I.hok.fresh (Nat.le_refl _))⟩
  rcases hq with hq | hq
  · obtain ⟨its, r', pl, hz⟩ := I.list hq
    have hlen := r'.length
    obtain ⟨o, ho, hc, n, hd⟩ := pl.isList
    exact call_list_seq p (.inl rfl) ho hc hd (fun h' c' kp e => fin its r' hz h' c' kp e) (by simp only [List.size_toArray] <;> omega)
  · obtain ⟨its, r', pl, hz⟩ := I.tuple hq
    have hlen := r'.length
    obtain ⟨o, ho, hc, n, hd⟩ := pl
    exact call_list_seq p (.inr rfl) ho hc hd (fun h' c' kp e => fin its r' hz h' c' kp e) (by simp only [List.size_toArray] <;> omega)
theorem call_tuple_of : CallR X (.type "tuple") (fun xs H Q => ∃ p ys, xs = [.ref p] ∧ ((SqL X.K H p ys ∧ ∀ l, H l = none → Q (.ref l) (upd H l (.tup ys))) ∨ (SqT X.K H p ys ∧ Q (.ref p) H))) := by
  intro pins s σ H xs us Q I r h
  obtain ⟨p, ys, rfl, h⟩ := h
  obtain ⟨u, rfl, rx⟩ := vals1 r
  cases rx
  rcases h with ⟨hq, q⟩ | ⟨hq, q⟩
  · obtain ⟨its, r', pl, hz⟩ := I.list hq
    have hlen := r'.length
    refine call_tuple_list pl.isList (fun h' kp => ?_) (by simp only [List.size_toArray] <;> omega)
    have I1 : Inv X pins σ H { s with heap := h' } := I.kept (t' := s.toks) kp
    have I2 : Inv X pins σ (upd H h'.objs.size (.tup ys)) { s with heap := h'.push { cls := .type "tuple", data := .seq its.toArray } } :=
      I1.laid (t' := s.toks) (fun b o e => Heap.get?_push_of_some _ e) (Nat.le_refl _) (show ObjOk X.prog X.w _ _ _ (.tup ys) from ⟨hz, its, r', IsTup.new _ _⟩)
    exact ⟨.ref h'.objs.size, _, I2, rfl, q _ (I1.hok.fresh (Nat.le_refl _))⟩
  · obtain ⟨its, r', pl, hz⟩ := I.tuple hq
    exact call_tuple_same pl ⟨.ref p, H, I, rfl, q⟩
def tyV (K : PySem.W.Frag) (T : String) (x : V) (H : Hp) : Prop := match x with
  | .str _ => T = "str"
  | .int _ => T = "int"
  | .ref p => (T = "list" ∧ ∃ xs, SqL K H p xs) ∨ (T = "tuple" ∧ ∃ o, K.lookup p = some o ∧ o.cls = .type "tuple" ∧ o.dict = none) ∨
      (T = "dict" ∧ ((∃ kvs, H p = some (.dK kvs)) ∨ ∃ kvs, H p = some (.dT kvs))) ∨ (T = "set" ∧ ∃ S n, H p = some (.set S n))
  | _ => False
theorem tyV_is {pins : List (Addr × Obj)} {σ : St} {H : Hp} {s : Shared} {T : String} {x : V} {v : Value} (I : Inv X pins σ H s) (r : RelV x v) (ty : tyV X.K T x H) :
    s.TypeIs v T ∧ ∀ a, v = .ref a → ∃ ob, s.heap.get? a = some ob ∧ ob.dict = none := by
  cases x with
  | str z =>
    obtain ⟨t, rfl⟩ := r
    cases (show T = "str" from ty)
    exact ⟨typeIs_str s z t, fun _ e => nomatch e⟩
  | int i =>
    obtain ⟨t, rfl⟩ := r
    cases (show T = "int" from ty)
    exact ⟨typeIs_int s i t, fun _ e => nomatch e⟩
  | ref p =>
    cases r
    rcases ty with ⟨rfl, xs, hq⟩ | ⟨rfl, o, hk, hc, hd⟩ | ⟨rfl, hk⟩ | ⟨rfl, S, n, hk⟩
    · obtain ⟨its, _, pl, _⟩ := I.list hq
      refine ⟨pl.isList.typeIs, fun a e => ?_⟩
      cases e
      obtain ⟨o, n, e, c, hd, _⟩ := pl
      exact ⟨o, e, hd⟩
    · refine ⟨⟨o, I.kIn p o hk, hc⟩, fun a e => ?_⟩
      cases e
      exact ⟨o, I.kIn _ o hk, hd⟩
    · have z : ∃ o, s.heap.get? p = some o ∧ o.ExactDict := by
        rcases hk with ⟨kvs, hk⟩ | ⟨kvs, hk⟩
        · obtain ⟨_, _, _, _, o, _, _, e, ex, _⟩ := I.hok p _ hk
          exact ⟨o, e, ex⟩
        · obtain ⟨_, _, _, _, o, _, _, e, ex, _⟩ := I.hok p _ hk
          exact ⟨o, e, ex⟩
      obtain ⟨o, e, ex⟩ := z
      refine ⟨⟨o, e, ex.1⟩, fun a e2 => ?_⟩
      cases e2
      exact ⟨o, e, ex.2.1⟩
    · obtain ⟨o, _, _, _, e, ex, _⟩ := I.hok p _ hk
      refine ⟨⟨o, e, ex.1⟩, fun a e2 => ?_⟩
      cases e2
      exact ⟨o, e, ex.2.1⟩
  | _ => exact False.elim ty
def tBM0 (K : PySem.W.Frag) (T : String) (r : V → List V → Hp → VK → Prop) (to : TE) : TE := fun σ H Q => to σ H fun x H1 => tyV K T x H1 ∧ r x [] H1 Q
def tBM (K : PySem.W.Frag) (T : String) (r : V → List V → Hp → VK → Prop) (to : TE) (t : TA) : TE := fun σ H Q => to σ H fun x H1 => tyV K T x H1 ∧ t σ H1 fun xs H2 => r x xs H2 Q
variable {o e : Expr} {es : List Expr} {to : TE} {t : TA} {name : Str} {apos cpos : Pos} {T id : String} {r : V → List V → Hp → VK → Prop}
theorem pe_bm0 (pa : PlainAttrs T) (slot : Slot T name id) (hty : typeOf (.builtin id) = pure (.type "method_descriptor")) (hm : MtR X id r) (ho : PE X o to)
    (hbase : attributeBase o name X.env (eval o X.env) = eval o X.env := by rfl) (hline : (apos.endLine == cpos.line) = true := by rfl) : PE X (.Call (.Attribute o name apos) [] [] cpos) (tBM0 X.K T r to) := by
  intro pins s σ H Q I h
  refine wpAny_Call_method0_late hbase hline (thn (ho pins s σ H _ I h) fun v s1 ⟨x, H1, I1, r1, ty, q1⟩ => ?_)
  obtain ⟨h1, h2⟩ := tyV_is I1 r1 ty
  exact ⟨T, id, pa, slot, hty, h1, h2, Calls.callWith_builtin rfl (PySem.evalArgs_none (hm pins s1 σ H1 x [] v [] Q I1 r1 .nil q1))⟩
theorem pe_bm (pa : PlainAttrs T) (slot : Slot T name id) (hty : typeOf (.builtin id) = pure (.type "method_descriptor")) (hm : MtR X id r) (ho : PE X o to) (ha : PA X (e :: es) t)
    (hbase : attributeBase o name X.env (eval o X.env) = eval o X.env := by rfl)
    (hfew : ((backTo cpos (starEach (e :: es) X.env)).all (fun x => !x.1) && (backToKw cpos (keywordEach [] X.env)).all (fun x => x.1.isSome)
      && decide ((e :: es).length + ([] : List Keyword).length + (if ([] : List Keyword).isEmpty then 0 else 1) < 30)) = true := by rfl)
    (hline : (apos.endLine == cpos.line) = true := by rfl) (hs : starEach (e :: es) X.env = (false, eval e X.env) :: starEach es X.env := by rfl) (hplain : (backTo cpos (starEach es X.env)).any (·.1) = false := by rfl) :
    PE X (.Call (.Attribute o name apos) (e :: es) [] cpos) (tBM X.K T r to t) := by
  intro pins s σ H Q I h
  refine wpAny_Call_method_late hbase hfew hline rfl (thn (ho pins s σ H _ I h) fun v s1 ⟨x, H1, I1, r1, ty, q1⟩ => ?_)
  obtain ⟨h1, h2⟩ := tyV_is I1 r1 ty
  refine ⟨T, id, pa, slot, hty, h1, h2, ?_⟩
  have hA := ha cpos pins s1 σ H1 _ I1 q1
  rw [hs] at hA ⊢
  refine Calls.callWith_builtin (by show (false || (backTo cpos (starEach es X.env)).any (·.1)) = false; rw [hplain] <;> rfl) (Calls.evalArgs_plain ?_)
  exact thn hA fun us s2 ⟨vs, H2, I2, r2, q2⟩ => hm pins s2 σ H2 x vs v us Q I2 r1 r2 q2
end
end L2
namespace L2
open PySem PySem.Spec PyProof.Rows
def MtM (X : Cx) (id : String) (r : V → List V → Hp → VK → Prop) : Prop :=
  ∀ (pins : List (Addr × Obj)) (s : Shared) (σ : St) (H : Hp) (x : V) (xs : List V) (v : Value) (us : List Value) (Q : VK), Inv X pins σ H s → RelV x v → Vals xs us → r x xs H Q →
    wpAny (model X.prog X.w) X.A (call (.builtin id) (v :: us)) (EP X pins σ Q) X.xe s
theorem Vals.one : ∀ {x : V} {us : List Value}, Vals [x] us → ∃ u, us = [u] ∧ RelV x u
  | _, _, .cons r .nil => ⟨_, rfl, r⟩
theorem Vals.zero : ∀ {us : List Value}, Vals [] us → us = []
  | _, .nil => rfl
theorem Vals.dropLast {xs : List V} {us : List Value} (h : Vals xs us) : Vals xs.dropLast us.dropLast := by
  induction h with
  | nil => exact .nil
  | cons r t ih =>
    cases t with
    | nil => exact .nil
    | cons q t' => exact .cons r ih
theorem erase_last {α : Type} (l : List α) : l.eraseIdx (l.length - 1) = l.dropLast := by
  induction l with
  | nil => rfl
  | cons a r ih =>
    cases r with
    | nil => rfl
    | cons b r =>
      have e : (a :: b :: r).length - 1 = ((b :: r).length - 1) + 1 := by
        have h1 : (a :: b :: r).length = r.length + 2 := rfl
        have h2 : (b :: r).length = r.length + 1 := rfl
        omega
      rw [e, List.eraseIdx_cons_succ, ih]
      all_goals rfl
section
variable {X : Cx} {pins : List (Addr × Obj)} {σ : St} {H : Hp} {s : Shared} {l b : Addr} {xs ys zs : List V}
theorem Inv.lset {its its' : List Value} {n : Nat} {f : Array Value → Array Value} {t' : Nat} (I : Inv X pins σ H s) (hH : H l = some (.lst xs))
    (e : s.heap.get? l = some { cls := .type "list", data := .seq its.toArray n }) (hf : f its.toArray = its'.toArray) (hv : Vals ys its') (hz : ys.length ≤ sizeLine) :
    Inv X pins σ (upd H l (.lst ys)) { s with heap := s.heap.update l (Obj.mapSeq f), toks := t' } := by
  have q := PySem.IsL.update e f
  rw [hf] at q
  refine I.write (x := l) (e := l) (by rw [hH]; exact trivial) (.inl rfl) (fun b' u hb hu => (Heap.get?_update_other s.heap (Obj.mapSeq f) (Ne.symm hb)).trans hu) ⟨_, q⟩ ?_
  exact ⟨hz, its', _, hv, q⟩
theorem Inv.lnew {its : List Value} {t' : Nat} (I : Inv X pins σ H s) (hv : Vals ys its) (hz : ys.length ≤ sizeLine) :
    Inv X pins σ (upd H s.heap.objs.size (.lst ys)) { s with heap := s.heap.push { cls := .type "list", data := .seq its.toArray }, toks := t' } :=
  I.laid (fun _ _ q => Heap.get?_push_of_some _ q) (Nat.le_refl _) ⟨hz, its, 0, hv, Heap.get?_push_size _ rfl⟩
theorem Inv.fresh (I : Inv X pins σ H s) : H s.heap.objs.size = none := I.hok.fresh (Nat.le_refl _)
theorem Inv.lstM (I : Inv X pins σ H s) (hH : H l = some (.lst xs)) : xs.length ≤ sizeLine ∧ ∃ (its : List Value) (n : Nat), Vals xs its ∧ xs.length = its.length ∧ s.heap.get? l = some { cls := .type "list", data := .seq its.toArray n } := by
  obtain ⟨z, its, n, r, e⟩ := I.hok l _ hH
  exact ⟨z, its, n, r, r.length, e⟩
end
section
variable {X : Cx}
def rAppend : V → List V → Hp → VK → Prop := fun x vs H Q => ∃ l xs y, x = .ref l ∧ vs = [y] ∧ H l = some (.lst xs) ∧ xs.length < sizeLine ∧ Q .non (upd H l (.lst (xs ++ [y])))
theorem mt_append : MtM X "list.append" rAppend := by
  intro pins s σ H x vs v us Q I rx rv h
  obtain ⟨l, xs, y, rfl, rfl, hH, hz, q⟩ := h
  cases rx
  obtain ⟨u, rfl, ru⟩ := rv.one
  obtain ⟨z, its, n, r, hl, e⟩ := I.lstM hH
  refine call_meets F.slot_list_append ⟨_, e, rfl⟩ F.entry_list_append (F.args_list_append_2 _ _) (PySem.list_append l its.toArray n u (by rw [List.size_toArray]; omega)) ⟨e, ?_⟩
  refine ⟨.non, _, I.lset (its' := its ++ [u]) hH e (by simp) (r.append (.cons ru .nil)) ?_, rfl, q⟩
  rw [List.length_append, List.length_singleton]
  omega
def rPop : V → List V → Hp → VK → Prop := fun x vs H Q => ∃ l xs y, x = .ref l ∧ vs = [] ∧ H l = some (.lst xs) ∧ xs[xs.length - 1]? = some y ∧ Q y (upd H l (.lst xs.dropLast))
theorem mt_pop : MtM X "list.pop" rPop := by
  intro pins s σ H x vs v us Q I rx rv h
  obtain ⟨l, xs, y, rfl, rfl, hH, hy, q⟩ := h
  cases rx
  have hus := rv.zero
  subst hus
  obtain ⟨z, its, n, r, hl, e⟩ := I.lstM hH
  obtain ⟨u, hu, ru⟩ := r.get hy
  have hy' : its.toArray[its.toArray.size - 1]? = some u := by
    show its.toArray[its.length - 1]? = some u
    rw [← Array.getElem?_toList, ← hl]
    exact hu
  refine call_meets F.slot_list_pop ⟨_, e, rfl⟩ F.entry_list_pop (F.args_list_pop_1 _) (MeetsSeq.list_pop_last l its.toArray n u hy' (by rw [List.size_toArray]; omega)) ⟨e, ?_⟩
  refine ⟨y, _, I.lset (its' := its.dropLast) hH e ?_ r.dropLast ?_, ru, q⟩
  · show its.toArray.eraseIdxIfInBounds (its.toArray.size - 1) = its.dropLast.toArray
    rw [List.size_toArray, List.eraseIdxIfInBounds_toArray, erase_last]
  · rw [List.length_dropLast]
    omega
def rCat : R2 := fun x y H Q => ∃ l b xs zs, x = .ref l ∧ y = .ref b ∧ H l = some (.lst xs) ∧ H b = some (.lst zs) ∧ xs.length + zs.length ≤ sizeLine ∧ ∀ p, H p = none → Q (.ref p) (upd H p (.lst (xs ++ zs)))
theorem op_cat : OpR X (binaryOp .Add) rCat := by
  intro pins s σ H x y v u Q I rx ry h
  obtain ⟨l, b, xs, zs, rfl, rfl, hH, hB, hz, q⟩ := h
  cases rx
  cases ry
  obtain ⟨z, its, n, r, hl, e⟩ := I.lstM hH
  obtain ⟨z2, its2, n2, r2, hl2, e2⟩ := I.lstM hB
  refine PySem.P.add_list e e2 ?_ (by rw [List.size_toArray, List.size_toArray]; omega)
  have ea : its.toArray ++ its2.toArray = (its ++ its2).toArray := by simp
  rw [ea]
  exact ⟨.ref _, _, I.lnew (t' := s.toks) (r.append r2) (by rw [List.length_append]; omega), rfl, q _ I.fresh⟩
end
section
variable {prog : Program} {w : World} {A : Around} {E : Value → Shared → Prop} {s : Shared}
end
section
variable {X : Cx}
end
end L2
namespace L2
open PySem PySem.Spec PyProof.Rows
theorem Vals.ints : ∀ {ns : List Int} {us : List Value}, Vals (ns.map V.int) us → IntsAre us ns
  | [], us, h => by
    rw [List.map_nil] at h
    cases h
    exact IntsAre.nil
  | n :: ns, us, h => by
    rw [List.map_cons] at h
    cases h with
    | cons r t =>
      obtain ⟨k, rfl⟩ := r
      exact IntsAre.cons n k (Vals.ints t)
theorem Vals.strs : ∀ {xs : List Str} {us : List Value}, Vals (xs.map V.str) us → StrsAre us xs
  | [], us, h => by
    rw [List.map_nil] at h
    cases h
    exact StrsAre.nil
  | x :: xs, us, h => by
    rw [List.map_cons] at h
    cases h with
    | cons r t =>
      obtain ⟨k, rfl⟩ := r
      exact StrsAre.cons x k (Vals.strs t)
theorem vals_of_strs : ∀ {us : List Value} {xs : List Str}, StrsAre us xs → Vals (xs.map V.str) us
  | _, _, .nil => by rw [List.map_nil]; exact Paired.nil
  | _, _, .cons x t h => by rw [List.map_cons]; exact Paired.cons (show RelV (V.str x) (Value.str x t) from ⟨t, rfl⟩) (vals_of_strs h)
theorem Vals.bls : ∀ {bs : List Bool} {us : List Value}, Vals (bs.map V.bl) us → us = bs.map Value.bool
  | [], us, h => by
    rw [List.map_nil] at h
    cases h
    rfl
  | b :: bs, us, h => by
    rw [List.map_cons] at h
    cases h with
    | cons r t =>
      cases r
      rw [Vals.bls t, List.map_cons]
theorem Vals.ref1 {a : Addr} {us : List Value} (r : Vals [V.ref a] us) : us = [Value.ref a] := by
  cases r with
  | cons r t =>
    cases t
    cases r
    rfl
section
variable {prog : Program} {w : World} {A : Around} {E : Value → Shared → Prop} {s : Shared} {l : Addr} {its : List Value} {ns : List Int} {Q : Value → Shared → Prop}
end
section
variable {X : Cx}
end
section
variable {X : Cx}
def rIndex (K : PySem.W.Frag) : V → List V → Hp → VK → Prop := fun x xs H Q => ∃ (a : Addr) (ys : List V) (y : V) (j : Nat) (z : V), x = V.ref a ∧ xs = [y] ∧ SqL K H a ys ∧ flatV y = true ∧ ys.all flatV = true ∧ ys[j]? = some z ∧ eqV z y = true ∧
  (∀ (m : Nat) (z' : V), m < j → ys[m]? = some z' → eqV z' y = false) ∧ Q (.int (j : Nat)) H
theorem flat_at {ys : List V} (f : ys.all flatV = true) {j : Nat} {z : V} (h : ys[j]? = some z) : flatV z = true := List.all_eq_true.mp f z (List.mem_of_getElem? h)
theorem mt_index : MtR X "list.index" (rIndex X.K) := by
  intro pins s σ H x xs v us Q I rx rxs h
  obtain ⟨a, ys, y, j, z, rfl, rfl, hs, fy, fys, hz, hzj, hno, q⟩ := h
  cases rx
  cases rxs with
  | cons ry rt =>
    rename_i uy ut
    cases rt
    obtain ⟨its, rv, ⟨⟨cls, dd, data, sl⟩, n, ho, hc, hdn, hd⟩, hlen⟩ := I.list hs
    simp only at hc hd
    subst hc hd
    obtain ⟨u, hu, ru⟩ := rv.get hz
    obtain ⟨hjl, hje⟩ := List.getElem?_eq_some_iff.mp hu
    have hvl := rv.length
    have hj : j < its.toArray.size := by simpa using hjl
    have hsl := sizeLine_eq
    refine call_meets PySem.F.slot_list_index ⟨_, ho, rfl⟩ PySem.F.entry_list_index (PySem.F.args_list_index_2 _ _)
      (SeqAt.list_indexAt a its.toArray n dd sl uy (eqU y) j hj (by omega) ?_ ?_) ⟨ho, fun u' hu' => mem_eqAt ry fy rv fys u' (by simpa using hu'), ?_⟩
    · have e1 : its.toArray[j] = u := by simpa using hje
      rw [e1, eqU_of ru (flat_at fys hz)]
      exact hzj
    · intro m hm hmj
      have hml : m < its.length := by simpa using hm
      have hmy : m < ys.length := by omega
      have hy' : ys[m]? = some ys[m] := List.getElem?_eq_getElem hmy
      obtain ⟨u2, hu2, ru2⟩ := rv.get hy'
      obtain ⟨_, hme⟩ := List.getElem?_eq_some_iff.mp hu2
      have e1 : its.toArray[m] = u2 := by simpa using hme
      rw [e1, eqU_of ru2 (flat_at fys hy')]
      exact hno m _ hmj hy'
    · exact ⟨.int (j : Nat), H, I.tok _, ⟨_, rfl⟩, q⟩
end
section
variable {X : Cx}
end
theorem iter_any {prog : Program} {w : World} {A : Around} {E : Value → Shared → Prop} {s : Shared} {l : Addr} {items : Array Value} {Q : Value → Shared → Prop} (hl : s.heap.IsList l items)
    (h : ∀ s₂ : Shared, s₂ = { s with heap := s.heap.push { cls := .type "list_iterator", data := .fields #[.ref l, .int 0 0] } } →
      (s₂.heap.IsListIter s.heap.objs.size l 0 ∧ s₂.heap.IsList l items) → l ≠ s.heap.objs.size → Q (.ref s.heap.objs.size) s₂) : wpAny (model prog w) A (pyIter (.ref l)) Q E s := by
  have hlt : l < s.heap.objs.size := by obtain ⟨_, e, _⟩ := hl; exact Heap.lt_size e
  exact wpAny_pyIter_list hl (h _ rfl ⟨⟨_, Heap.get?_push_size _ rfl, rfl, rfl⟩, hl.push _⟩ (Nat.ne_of_lt hlt))
theorem truth_bools {prog : Program} {w : World} {A : Around} {bs : List Bool} {its : List Value} (e : its = bs.map Value.bool) :
    TruthOf prog w A (fun i v => its.toArray[i]? = some v) (fun i => bs.getD i false) := fun i v s Q E hv hq => by
  have hv' : its[i]? = some v := by simpa using hv
  rw [e, List.getElem?_map] at hv'
  obtain ⟨b, hb, rfl⟩ := Option.map_eq_some_iff.mp hv'
  have hg : bs.getD i false = b := by rw [List.getD_eq_getElem?_getD, hb] <;> rfl
  have hq' : Q (bs.getD i false) s := hq
  rw [hg] at hq'
  exact wpAny_truthy_bool hq'
theorem any_range : ∀ bs : List Bool, (List.range bs.length).any (fun i => bs.getD i false) = bs.any id
  | [] => rfl
  | b :: bs => by
    rw [List.length_cons, List.range_succ_eq_map, List.any_cons, List.any_map, List.any_cons, ← any_range bs]
    all_goals rfl
theorem all_range : ∀ bs : List Bool, (List.range bs.length).all (fun i => bs.getD i false) = bs.all id
  | [] => rfl
  | b :: bs => by
    rw [List.length_cons, List.range_succ_eq_map, List.all_cons, List.all_map, List.all_cons, ← all_range bs]
    all_goals rfl
section
variable {X : Cx}
def rAny (K : PySem.W.Frag) : List V → Hp → VK → Prop := fun vs H Q => ∃ (a : Addr) (bs : List Bool), vs = [V.ref a] ∧ SqL K H a (bs.map V.bl) ∧ Q (.bl (bs.any id)) H
def rAll (K : PySem.W.Frag) : List V → Hp → VK → Prop := fun vs H Q => ∃ (a : Addr) (bs : List Bool), vs = [V.ref a] ∧ SqL K H a (bs.map V.bl) ∧ Q (.bl (bs.all id)) H
theorem cr_any (hc : X.calm = true) : CallR X (.builtin "any") (rAny X.K) := by
  intro pins s σ H vs us Q I r h
  obtain ⟨a, bs, rfl, hs, q⟩ := h
  obtain ⟨its, rv, hl, _⟩ := I.list hs
  rw [Vals.ref1 r]
  have hb := rv.bls
  refine call_any_walk (iter_any hl.isList fun s₂ e2 st hne => ?_)
  subst e2
  refine ⟨_, _, _, _, _, _, _, rfl, Walks.list (A := X.A.in1) (I.ok.hd hc) _ a hne its.toArray, st, truth_bools hb, fun h' tk hk => ?_⟩
  refine ⟨.bl _, H, I.kept fun b o eo => hk b o (fun hmem => ?_) (Heap.get?_push_of_some _ eo), ?_, q⟩
  · rcases List.mem_cons.mp hmem with e1 | hmem
    · exact absurd (e1 ▸ Heap.lt_size eo) (Nat.lt_irrefl _)
    · cases hmem
  · show Value.bool _ = Value.bool _
    rw [← any_range, hb, List.size_toArray, List.length_map]
theorem cr_all (hc : X.calm = true) : CallR X (.builtin "all") (rAll X.K) := by
  intro pins s σ H vs us Q I r h
  obtain ⟨a, bs, rfl, hs, q⟩ := h
  obtain ⟨its, rv, hl, _⟩ := I.list hs
  rw [Vals.ref1 r]
  have hb := rv.bls
  refine call_all_walk (iter_any hl.isList fun s₂ e2 st hne => ?_)
  subst e2
  refine ⟨_, _, _, _, _, _, _, rfl, Walks.list (A := X.A.in1) (I.ok.hd hc) _ a hne its.toArray, st, truth_bools hb, fun h' tk hk => ?_⟩
  refine ⟨.bl _, H, I.kept fun b o eo => hk b o (fun hmem => ?_) (Heap.get?_push_of_some _ eo), ?_, q⟩
  · rcases List.mem_cons.mp hmem with e1 | hmem
    · exact absurd (e1 ▸ Heap.lt_size eo) (Nat.lt_irrefl _)
    · cases hmem
  · show Value.bool _ = Value.bool _
    rw [← all_range, hb, List.size_toArray, List.length_map]
end
mutual
inductive Dp (K : PySem.W.Frag) (H : Hp) : V → PyData → Prop
  | non : Dp K H .non .none
  | bl (b : Bool) : Dp K H (.bl b) (.bool b)
  | int (i : Int) : Dp K H (.int i) (.int i)
  | str (x : Str) : Dp K H (.str x) (.str x)
  | lst {a : Addr} {xs : List V} {ds : List PyData} : SqL K H a xs → DpAll K H xs ds → Dp K H (.ref a) (.list ds)
  | tup {a : Addr} {xs : List V} {ds : List PyData} : SqT K H a xs → DpAll K H xs ds → Dp K H (.ref a) (.tuple ds)
inductive DpAll (K : PySem.W.Frag) (H : Hp) : List V → List PyData → Prop
  | nil : DpAll K H [] []
  | cons {v : V} {vs : List V} {d : PyData} {ds : List PyData} : Dp K H v d → DpAll K H vs ds → DpAll K H (v :: vs) (d :: ds)
end
section
variable {X : Cx} {pins : List (Addr × Obj)} {σ : St} {H : Hp} {s : Shared}
mutual
theorem Dp.reads (I : Inv X pins σ H s) : ∀ (d : PyData) (v : V) (u : Value), Dp X.K H v d → RelV v u → ∃ as, Reads s.heap u d as
  | .none, _, _, h, r => by
    cases h
    cases r
    exact ⟨_, Reads.none⟩
  | .bool b, _, _, h, r => by
    cases h
    cases r
    exact ⟨_, Reads.bool b⟩
  | .int i, _, _, h, r => by
    cases h
    obtain ⟨t, rfl⟩ := r
    exact ⟨_, Reads.int i t⟩
  | .str x, _, _, h, r => by
    cases h
    obtain ⟨t, rfl⟩ := r
    exact ⟨_, Reads.str x t⟩
  | .list ds, _, _, h, r => by
    cases h with
    | lst hs ha =>
      cases r
      obtain ⟨its, rv, ⟨o, n, ho, hc, _, hd⟩, _⟩ := I.list hs
      obtain ⟨as, hr⟩ := Dp.readsAll I ds _ its ha rv
      exact ⟨_, Reads.list ho hc hd hr⟩
  | .tuple ds, _, _, h, r => by
    cases h with
    | tup hs ha =>
      cases r
      obtain ⟨its, rv, ⟨o, ho, hc, n, hd⟩, _⟩ := I.tuple hs
      obtain ⟨as, hr⟩ := Dp.readsAll I ds _ its ha rv
      exact ⟨_, Reads.tuple ho hc hd hr⟩
  | .dict _, _, _, h, _ => by cases h
theorem Dp.readsAll (I : Inv X pins σ H s) : ∀ (ds : List PyData) (vs : List V) (us : List Value), DpAll X.K H vs ds → Vals vs us → ∃ as, ReadsAll s.heap us ds as
  | [], _, _, h, r => by
    cases h
    cases r
    exact ⟨_, ReadsAll.nil⟩
  | d :: ds, _, _, h, r => by
    cases h with
    | cons h1 h2 =>
      cases r with
      | cons r1 r2 =>
        obtain ⟨as, q1⟩ := Dp.reads I d _ _ h1 r1
        obtain ⟨bs, q2⟩ := Dp.readsAll I ds _ _ h2 r2
        exact ⟨_, ReadsAll.cons q1 q2⟩
end
end
section
variable {X : Cx}
end
end L2
namespace L2
open PySem PySem.Spec PyProof.Rows
abbrev CellAt (h : Heap) (c : Addr) (v : Option Value) : Prop := h.IsCell c v
def relS (scope sc : Scope) : Scope :=
  { scope with names := scope.names.map fun (n, k) => if (k == .free && sc.kind == .function && sc.names.lookup n == some .cell) then (n, .cell) else (n, k) }
def cloFrom (cells : List (Str × Addr)) : List (Str × NameKind) → List (Str × Addr) → List (Str × Addr)
  | [], acc => acc
  | (n, k) :: r, acc => if k == .free then cloFrom cells r ((n, (cells.lookup n).getD 0) :: acc) else cloFrom cells r acc
theorem closure_loop (env : Env) (f : Str × NameKind → List (Str × Addr) → Sem (ForInStep (List (Str × Addr))))
    (hf : ∀ n k c, f (n, k) c = if k == .free then (do let a ← cellOf env n; pure (.yield ((n, a) :: c))) else pure (.yield c)) :
    ∀ (names : List (Str × NameKind)) (acc : List (Str × Addr)), (∀ y ∈ names, y.2 = .free → ∃ c, env.cells.lookup y.1 = some c) → forIn names acc f = pure (cloFrom env.cells names acc)
  | [], acc, _ => by rw [List.forIn_nil]; rfl
  | (n, k) :: r, acc, h => by
    rw [List.forIn_cons, hf]
    have ih := fun acc => closure_loop env f hf r acc fun y hy => h y (List.mem_cons_of_mem _ hy)
    unfold cloFrom
    by_cases hk : (k == NameKind.free) = true
    · rw [if_pos hk, if_pos hk]
      obtain ⟨c, hc⟩ := h (n, k) List.mem_cons_self (by simpa using hk)
      have e : cellOf env n = pure c := by unfold cellOf; rw [hc]
      rw [e]
      have e2 : (env.cells.lookup n).getD 0 = c := by rw [hc]; rfl
      rw [e2]
      exact ih _
    · rw [if_neg hk, if_neg hk]
      exact ih _
theorem closure_ok {scope : Scope} {env : Env} (h : ∀ y ∈ scope.names, y.2 = .free → ∃ c, env.cells.lookup y.1 = some c) : closureFor scope env = pure (cloFrom env.cells scope.names []) := by
  simp only [closureFor]
  rw [closure_loop env _ (fun n k c => rfl) scope.names [] h]
  rfl
theorem mem_lookup {α : Type} : ∀ {l : List (Str × α)} {n : Str} {c : α}, (n, c) ∈ l → ∃ c', l.lookup n = some c'
  | (k, v) :: r, n, c, h => by
    rw [List.lookup_cons]
    cases hb : n == k with
    | true => exact ⟨_, rfl⟩
    | false =>
      rcases List.mem_cons.mp h with e | h
      · cases e; simp at hb
      · exact mem_lookup h
theorem cloFrom_mem {cells : List (Str × Addr)} : ∀ {names : List (Str × NameKind)} {acc : List (Str × Addr)} {n : Str} {c : Addr}, (n, c) ∈ cloFrom cells names acc → (n, c) ∈ acc ∨ ((n, .free) ∈ names ∧ c = (cells.lookup n).getD 0)
  | [], _, _, _, h => .inl h
  | (m, k) :: r, acc, n, c, h => by
    unfold cloFrom at h
    split at h
    · rename_i hk
      have hk : k = .free := by simpa using hk
      rcases cloFrom_mem h with h | ⟨h1, h2⟩
      · rcases List.mem_cons.mp h with e | h
        · cases e; exact .inr ⟨hk ▸ List.mem_cons_self, rfl⟩
        · exact .inl h
      · exact .inr ⟨List.mem_cons_of_mem _ h1, h2⟩
    · rcases cloFrom_mem h with h | ⟨h1, h2⟩
      · exact .inl h
      · exact .inr ⟨List.mem_cons_of_mem _ h1, h2⟩
theorem cloFrom_acc {cells : List (Str × Addr)} : ∀ {names : List (Str × NameKind)} {acc : List (Str × Addr)} {p : Str × Addr}, p ∈ acc → p ∈ cloFrom cells names acc
  | [], _, _, h => h
  | (m, k) :: r, acc, p, h => by
    unfold cloFrom
    split
    · exact cloFrom_acc (List.mem_cons_of_mem _ h)
    · exact cloFrom_acc h
theorem cloFrom_has {cells : List (Str × Addr)} : ∀ {names : List (Str × NameKind)} {acc : List (Str × Addr)} {n : Str}, (n, .free) ∈ names → (n, (cells.lookup n).getD 0) ∈ cloFrom cells names acc
  | (m, k) :: r, acc, n, h => by
    unfold cloFrom
    rcases List.mem_cons.mp h with e | h
    · cases e
      exact cloFrom_acc List.mem_cons_self
    · split
      · exact cloFrom_has h
      · exact cloFrom_has h
theorem cells_mem : ∀ {names : List (Str × NameKind)} {h : Heap} {acc : List (Str × Addr)} {x : Str} {c : Addr}, (x, c) ∈ cellsFrom h.objs.size names acc →
    (x, c) ∈ acc ∨ ((x, .cell) ∈ names ∧ h.objs.size ≤ c ∧ CellAt (pushCells h names) c none)
  | [], _, _, _, _, h => .inl h
  | (n, k) :: r, h, acc, x, c, hm => by
    unfold cellsFrom at hm
    unfold pushCells
    split at hm
    · rename_i hk
      rw [if_pos hk]
      have hk : k = .cell := by simpa using hk
      rw [← Heap.size_push h { cls := .type "cell", data := .cell none }] at hm
      rcases cells_mem hm with hm | ⟨h1, h2, h3⟩
      · rcases List.mem_cons.mp hm with e | hm
        · cases e
          exact .inr ⟨hk ▸ List.mem_cons_self, Nat.le_refl _, _, pushCells_keeps r _ _ _ (Heap.get?_push_size _ rfl), rfl⟩
        · exact .inl hm
      · rw [Heap.size_push] at h2
        exact .inr ⟨List.mem_cons_of_mem _ h1, Nat.le_of_succ_le h2, h3⟩
    · rename_i hk
      rw [if_neg hk]
      rcases cells_mem hm with hm | ⟨h1, h2, h3⟩
      · exact .inl hm
      · exact .inr ⟨List.mem_cons_of_mem _ h1, h2, h3⟩
theorem cells_acc : ∀ {names : List (Str × NameKind)} {n : Nat} {acc : List (Str × Addr)} {p : Str × Addr}, p ∈ acc → p ∈ cellsFrom n names acc
  | [], _, _, _, h => h
  | (m, k) :: r, n, acc, p, h => by
    unfold cellsFrom
    split
    · exact cells_acc (List.mem_cons_of_mem _ h)
    · exact cells_acc h
theorem cells_has : ∀ {names : List (Str × NameKind)} {n : Nat} {acc : List (Str × Addr)} {x : Str}, (x, .cell) ∈ names → ∃ c, (x, c) ∈ cellsFrom n names acc
  | (m, k) :: r, n, acc, x, h => by
    unfold cellsFrom
    rcases List.mem_cons.mp h with e | h
    · cases e
      exact ⟨n, cells_acc List.mem_cons_self⟩
    · split
      · exact cells_has h
      · exact cells_has h
theorem cells_inj : ∀ {names : List (Str × NameKind)} {h : Heap} {acc : List (Str × Addr)} {x y : Str} {c : Addr}, (∀ p ∈ acc, p.2 < h.objs.size) → (∀ x y c, (x, c) ∈ acc → (y, c) ∈ acc → x = y) →
    (x, c) ∈ cellsFrom h.objs.size names acc → (y, c) ∈ cellsFrom h.objs.size names acc → x = y
  | [], _, _, _, _, _, _, hi, h1, h2 => hi _ _ _ h1 h2
  | (n, k) :: r, h, acc, x, y, c, hl, hi, h1, h2 => by
    unfold cellsFrom at h1 h2
    split at h1
    · rename_i hk
      rw [if_pos hk] at h2
      rw [← Heap.size_push h { cls := .type "cell", data := .cell none }] at h1 h2
      refine cells_inj (h := h.push _) (fun p hp => ?_) (fun x y c a b => ?_) h1 h2
      · rw [Heap.size_push]
        rcases List.mem_cons.mp hp with rfl | hp
        · exact Nat.lt_succ_self _
        · exact Nat.lt_succ_of_lt (hl p hp)
      · rcases List.mem_cons.mp a with e | a <;> rcases List.mem_cons.mp b with e' | b
        · cases e; cases e'; rfl
        · cases e; exact absurd (hl _ b) (Nat.lt_irrefl _)
        · cases e'; exact absurd (hl _ a) (Nat.lt_irrefl _)
        · exact hi _ _ _ a b
    · rename_i hk
      rw [if_neg hk] at h2
      exact cells_inj hl hi h1 h2
theorem newEnv_comp {M : Model} {A : Around} {E : Value → Shared → Prop} {s : Shared} {scope : Scope} {globals : Addr} {closure : List (Str × Addr)} {qual : Str} {func : Option Addr} {code : Value} {around : Env} {builtins : Addr} {Q : Env → Shared → Prop}
    (h : Q (newEnv scope s.heap.objs.size globals (cellsFrom (s.heap.objs.size + 1) scope.names closure) qual func code (some around) builtins)
      { s with heap := pushCells (s.heap.push { cls := .type "dict", data := .dict #[] }) scope.names }) :
    wpAny M A (newFunctionEnv scope globals closure [] qual func code (some around) builtins) Q E s := by
  simp only [newFunctionEnv, Option.isSome_some, if_true]
  refine wpAny_bind (wpAny_alloc ?_)
  refine wpAny_bind (wpAny_layCells _ (fun n k c => rfl) scope.names closure _ _ ?_)
  rw [show ({ s with heap := s.heap.push { cls := .type "dict", data := .dict #[] } } : Shared).heap.objs.size = s.heap.objs.size + 1 from Heap.size_push ..]
  rw [List.forIn_nil]
  exact wpAny_bind (wpAny_pure (wpAny_pure h))
theorem lookup_relS {sc : Scope} : ∀ {names : List (Str × NameKind)} {x : Str} {k : NameKind},
    (names.map fun (n, k) => if (k == NameKind.free && sc.kind == .function && sc.names.lookup n == some .cell) then (n, NameKind.cell) else (n, k)).lookup x = some k →
    ∃ k', names.lookup x = some k' ∧ (k = k' ∨ (k' = .free ∧ k = .cell))
  | [], _, _, h => by simp at h
  | (n, k₀) :: r, x, k, h => by
    have ih := @lookup_relS sc r x k
    have h' : List.lookup x ((if (k₀ == NameKind.free && sc.kind == .function && sc.names.lookup n == some .cell) = true then (n, NameKind.cell) else (n, k₀)) :: (r.map _)) = some k := h
    cases hx : x == n with
    | true =>
      simp only [List.lookup_cons, hx]
      by_cases hc : (k₀ == NameKind.free && sc.kind == .function && sc.names.lookup n == some .cell) = true
      · rw [if_pos hc] at h'
        simp only [List.lookup_cons, hx] at h'
        cases h'
        simp only [Bool.and_eq_true, beq_iff_eq] at hc
        exact ⟨k₀, rfl, .inr ⟨hc.1.1, rfl⟩⟩
      · rw [if_neg hc] at h'
        simp only [List.lookup_cons, hx] at h'
        cases h'
        exact ⟨_, rfl, .inl rfl⟩
    | false =>
      simp only [List.lookup_cons, hx]
      by_cases hc : (k₀ == NameKind.free && sc.kind == .function && sc.names.lookup n == some .cell) = true
      · rw [if_pos hc] at h'
        simp only [List.lookup_cons, hx] at h'
        exact ih h'
      · rw [if_neg hc] at h'
        simp only [List.lookup_cons, hx] at h'
        exact ih h'
structure BlkOk (N : List Str) (sc scope : Scope) (own : List (Str × Nat)) : Prop where
  kind : scope.kind = .function
  uniq : ∀ y ∈ scope.names, scope.names.lookup y.1 = some y.2
  ix : ∀ p ∈ own, N[p.2]? = some p.1
  free : ∀ y ∈ scope.names, y.2 = .free → sc.names.lookup y.1 = some .cell ∨ sc.names.lookup y.1 = some .free
  own : ∀ y ∈ scope.names, y.2 = .local ∨ y.2 = .cell → y.1 ∈ own.map (·.1) ∨ y.1 ∉ N
def wipe (σ : St) : List Nat → St
  | [] => σ
  | v :: vs => (wipe σ vs).set v none
theorem wipe_length (σ : St) : ∀ vs : List Nat, (wipe σ vs).length = σ.length
  | [] => rfl
  | v :: vs => by unfold wipe; rw [List.length_set, wipe_length σ vs]
theorem wipe_some {σ : St} {i : Nat} {x : V} : ∀ {vs : List Nat}, (wipe σ vs)[i]? = some (some x) → σ[i]? = some (some x) ∧ i ∉ vs
  | [], h => ⟨h, by simp⟩
  | v :: vs, h => by
    unfold wipe at h
    by_cases hi : v = i
    · subst hi
      by_cases hv : v < (wipe σ vs).length
      · rw [List.getElem?_set_self hv] at h; cases h
      · rw [List.getElem?_eq_none (by simpa using hv)] at h; cases h
    · rw [List.getElem?_set_ne hi] at h
      obtain ⟨h1, h2⟩ := wipe_some h
      exact ⟨h1, by simp only [List.mem_cons, not_or]; exact ⟨fun e => hi e.symm, h2⟩⟩
abbrev Cx.blk (X : Cx) (s : Shared) (H : Hp) (scope : Scope) (cenv : Env) (fp : List Addr) : Cx := { X with s_0 := s, H_0 := H, env := cenv, outer := X.stack, ex := fp, fn := fun x => scope.names.lookup x == some .cell, pn := [], xe := fun _ _ => False }
section
variable {X : Cx} {pins : List (Addr × Obj)} {σ : St} {H : Hp} {s : Shared}
theorem block_start {scope : Scope} {own : List (Str × Nat)} {fp : List Addr} (I : Inv X pins σ H s) (ok : BlkOk X.N X.env.scope scope own) (hN : X.N.Nodup) (hfp : ∀ b ∈ fp, FpOk X pins H b ∧ b < s.heap.objs.size) :
    Inv (X.blk s H scope (compEnvC scope (cellsFrom (s.heap.objs.size + 1) scope.names (cloFrom X.env.cells scope.names [])) s.heap.objs.size X.env) fp) [] (wipe σ (own.map (·.2))) H { s with heap := pushCells (s.heap.push { cls := .type "dict", data := .dict #[] }) scope.names } := by
  have hfree : ∀ y ∈ scope.names, y.2 = .free → ∃ c, X.env.cells.lookup y.1 = some c := fun y hy e => by
    rcases ok.free y hy e with k | k
    · exact I.ok.has _ (.inl k)
    · exact I.ok.has _ (.inr k)
  generalize hcenv : compEnvC scope (cellsFrom (s.heap.objs.size + 1) scope.names (cloFrom X.env.cells scope.names [])) s.heap.objs.size X.env = cenv
  have kp : ∀ b o, s.heap.get? b = some o → (pushCells (s.heap.push { cls := .type "dict", data := .dict #[] }) scope.names).get? b = some o := fun b o e => pushCells_keeps _ _ _ _ (Heap.get?_push_of_some _ e)
  have hL : cenv.locals = s.heap.objs.size := by rw [← hcenv]; rfl
  have hcl : cenv.cells = cellsFrom (s.heap.objs.size + 1) scope.names (cloFrom X.env.cells scope.names []) := by rw [← hcenv]; rfl
  have hsc : cenv.scope = relS scope X.env.scope := by rw [← hcenv]; rfl
  rw [← Heap.size_push s.heap { cls := .type "dict", data := .dict #[] }] at hcl
  have cm : ∀ {y c}, (y, c) ∈ cloFrom X.env.cells scope.names [] → X.env.cells.lookup y = some c ∧ c < s.heap.objs.size := fun {y c} hm => by
    rcases cloFrom_mem hm with hm | ⟨h1, rfl⟩
    · cases hm
    · obtain ⟨c, hc⟩ := hfree _ h1 rfl
      rw [hc]
      obtain ⟨w, z⟩ := I.cell _ _ hc
      exact ⟨rfl, z.lt⟩
  have mem : ∀ {y c}, cenv.cells.lookup y = some c → (X.env.cells.lookup y = some c ∧ c < s.heap.objs.size) ∨ (s.heap.objs.size + 1 ≤ c ∧ CellAt (pushCells (s.heap.push { cls := .type "dict", data := .dict #[] }) scope.names) c none) := fun {y c} e => by
    rw [hcl] at e
    rcases cells_mem (PySem.mem_of_lookup e) with hm | ⟨_, h2, h3⟩
    · exact .inl (cm hm)
    · rw [Heap.size_push] at h2; exact .inr ⟨h2, h3⟩
  have look : ∀ {y}, scope.names.lookup y = some .free → ∃ c, cenv.cells.lookup y = some c ∧ X.env.cells.lookup y = some c := fun {y} hl => by
    have hy : (y, NameKind.free) ∈ scope.names := PySem.mem_of_lookup hl
    obtain ⟨c', e'⟩ := mem_lookup (cells_acc (names := scope.names) (n := (s.heap.push { cls := .type "dict", data := .dict #[] }).objs.size) (cloFrom_has (cells := X.env.cells) (acc := []) hy))
    rw [← hcl] at e'
    refine ⟨c', e', ?_⟩
    rw [hcl] at e'
    rcases cells_mem (PySem.mem_of_lookup e') with hm | ⟨h1, _, _⟩
    · exact (cm hm).1
    · have := ok.uniq _ h1
      rw [hl] at this; cases this
  have okB : (X.blk s H scope cenv fp).Ok := by
    refine ⟨I.ok.mod, by show cenv.scope.kind = _; rw [hsc]; exact ok.kind, by show cenv.globals = _; rw [← hcenv]; exact I.ok.glob, by show cenv.builtins = _; rw [← hcenv]; exact I.ok.blt, by show s.heap.objs.size ≤ cenv.locals; rw [hL]; exact Nat.le_refl _,
      fun y z c e1 e2 => ?_, fun y hy => ?_, fun y c z e => ?_, I.ok.hd, I.ok.frames, .inl rfl, fun b hb => ⟨?_, fun y c e z => ?_⟩, I.bs, Nat.le_trans I.ok.bsz I.sz, fun b o e hb => ?_, fun b hb z => ?_, I.stack, I.stkFree⟩
    · have e1 : cenv.cells.lookup y = some c := e1
      have e2 : cenv.cells.lookup z = some c := e2
      rw [hcl] at e1 e2
      refine cells_inj (fun p hp => ?_) (fun y z c a b => I.ok.inj y z c (cm a).1 (cm b).1) (PySem.mem_of_lookup e1) (PySem.mem_of_lookup e2)
      rw [Heap.size_push]
      exact Nat.lt_succ_of_lt (cm (y := p.1) (c := p.2) hp).2
    · show ∃ c, cenv.cells.lookup y = some c
      have key : ∀ k, cenv.kindOf y = some k → (k = .cell ∨ k = .free) → ∃ c, cenv.cells.lookup y = some c := fun k hk hk' => by
        unfold Env.kindOf at hk
        rw [hsc] at hk
        obtain ⟨k', e, r⟩ := lookup_relS hk
        have : k' = .cell ∨ k' = .free := by
          rcases r with rfl | ⟨rfl, _⟩
          · exact hk'
          · exact .inr rfl
        rcases this with rfl | rfl
        · obtain ⟨c, hm⟩ := cells_has (n := (s.heap.push { cls := .type "dict", data := .dict #[] }).objs.size) (acc := cloFrom X.env.cells scope.names []) (PySem.mem_of_lookup e)
          obtain ⟨c', e'⟩ := mem_lookup hm
          exact ⟨c', by rw [hcl]; exact e'⟩
        · obtain ⟨c, h1, _⟩ := look e
          exact ⟨c, h1⟩
      rcases hy with hy | hy
      · exact key _ hy (.inl rfl)
      · exact key _ hy (.inr rfl)
    · have z : (scope.names.lookup y == some NameKind.cell) = true := z
      have z : scope.names.lookup y = some .cell := by simpa using z
      have e : cenv.cells.lookup y = some c := e
      rw [hcl] at e
      rcases cells_mem (PySem.mem_of_lookup e) with hm | ⟨_, h2, _⟩
      · rcases cloFrom_mem hm with hm | ⟨h1, _⟩
        · cases hm
        · have q := ok.uniq _ h1
          rw [z] at q; cases q
      · rw [Heap.size_push] at h2
        exact Nat.le_of_succ_le h2
    · show b ≠ cenv.locals
      rw [hL]; exact Nat.ne_of_lt (hfp b hb).2
    · have e : cenv.cells.lookup y = some c := e
      rcases mem e with ⟨h1, _⟩ | ⟨h1, _⟩
      · exact (hfp b hb).1.2.2.2.2.1 y c h1 z
      · have h2 : s.heap.objs.size + 1 ≤ b := by rw [← z]; exact h1
        exact absurd (Nat.lt_of_lt_of_le (hfp b hb).2 (Nat.le_of_succ_le h2)) (Nat.lt_irrefl _)
    · rcases (hfp b hb).1.2.2.2.1 with z | z
      · exact I.ok.noex b o e z
      · exact absurd (Nat.lt_of_lt_of_le (Heap.lt_size e) (Nat.le_trans I.ok.bsz z)) (Nat.lt_irrefl _)
    · rcases List.mem_cons.mp (I.stkSub b z) with z | z
      · exact (hfp b hb).1.2.1 z
      · exact (hfp b hb).1.2.2.1 z
  refine ⟨okB, rfl, I.bare, Un.kept kp, ⟨fun _ => none, ?_, fun i y av e1 e2 e3 => ?_⟩, fun y c e => ?_, ?_, fun y c e => ?_, fun p hp => ?_, I.hok.kept kp, by rw [wipe_length]; exact I.len⟩
  · show Heap.Ns _ cenv.locals _
    rw [hL]
    exact Heap.Ns.keeps (Heap.Ns.new ..) fun b o e => pushCells_keeps _ _ _ _ e
  · obtain ⟨e2, hne⟩ := wipe_some e2
    have hfr : scope.names.lookup y = some .free ∧ (cenv.kindOf y = some .cell ∨ cenv.kindOf y = some .free) := by
      have key : ∀ k, cenv.scope.names.lookup y = some k → k = .local ∨ k = .cell ∨ k = .free → scope.names.lookup y = some .free ∧ (cenv.kindOf y = some .cell ∨ cenv.kindOf y = some .free) := fun k hk hk' => by
        have hk0 := hk
        rw [hsc] at hk
        obtain ⟨k', e, r⟩ := lookup_relS hk
        have no : ¬ (k' = .local ∨ k' = .cell) := fun hh => by
          rcases ok.own _ (PySem.mem_of_lookup e) hh with e' | e'
          · obtain ⟨p, hp, hpy⟩ := List.mem_map.mp e'
            have e3 := ok.ix p hp
            have : p.1 = y := hpy
            rw [this] at e3
            exact hne (List.mem_map.mpr ⟨p, hp, nodup_ix hN e3 e1⟩)
          · exact e' (List.mem_of_getElem? e1)
        rcases r with rfl | ⟨rfl, rfl⟩
        · rcases hk' with rfl | rfl | rfl
          · exact absurd (.inl rfl) no
          · exact absurd (.inr rfl) no
          · exact ⟨e, .inr hk0⟩
        · exact ⟨e, .inl hk0⟩
      have e3 : Vis cenv.scope y := e3
      rcases e3 with e3 | e3 | e3
      · exact key _ e3 (.inl rfl)
      · exact key _ e3 (.inr (.inl rfl))
      · exact key _ e3 (.inr (.inr rfl))
    obtain ⟨m, hn, hl⟩ := I.loc
    have hvis : Vis X.env.scope y := (ok.free _ (PySem.mem_of_lookup hfr.1) rfl).elim (fun k => .inr (.inl k)) (fun k => .inr (.inr k))
    obtain ⟨w, r, q⟩ := hl i y av e1 e2 hvis
    refine ⟨w, r, .inr ⟨hfr.2, ?_⟩⟩
    obtain ⟨c, h1, h2⟩ := look hfr.1
    rcases q with ⟨k, _⟩ | ⟨_, c', e', z⟩
    · have k : X.env.scope.names.lookup y = some .local := k
      rcases ok.free _ (PySem.mem_of_lookup hfr.1) rfl with k' | k' <;> rw [show X.env.scope.names.lookup y = _ from k'] at k <;> cases k
    · rw [h2] at e'; cases e'
      exact ⟨c, h1, z.keeps kp⟩
  · have e : cenv.cells.lookup y = some c := e
    rcases mem e with ⟨h1, _⟩ | ⟨_, z⟩
    · obtain ⟨w, z⟩ := I.cell y c h1
      exact ⟨w, z.keeps kp⟩
    · exact ⟨_, z⟩
  · show H cenv.locals = none
    rw [hL]; exact I.hok.fresh (Nat.le_refl _)
  · have e : cenv.cells.lookup y = some c := e
    rcases mem e with ⟨h1, _⟩ | ⟨h1, _⟩
    · exact I.freeC y c h1
    · exact I.hok.fresh (Nat.le_of_succ_le h1)
  · exact absurd (show p ∈ ([] : List (Addr × Obj)) ++ [] from hp) (by simp)
theorem app_ok {E : Value → Shared → Prop} {D : Addr} {xs : List V} {y : V} {v : Value} {Q : Value → Shared → Prop} (I : Inv X pins σ H s) (hD : H D = some (.lst xs)) (hz : xs.length < sizeLine) (r : RelV y v)
    (h : ∀ s', Inv X pins σ (upd H D (.lst (xs ++ [y]))) s' → Q .none s') : wpAny (model X.prog X.w) X.A (call (.builtin "list.append") [.ref D, v]) Q E s := by
  obtain ⟨hz', its, n, ri, e⟩ := I.hok D _ hD
  have hl := ri.length
  refine append_at (hsz := by rw [List.size_toArray]; omega) e fun h' sb ho' => ?_
  refine h { s with heap := h' } (I.write (t' := s.toks) (by rw [hD]; trivial) (.inl rfl) (fun b u hb q => (sb.2 b hb).trans q) ⟨_, ho'⟩ ⟨by rw [List.length_append]; exact hz, its ++ [v], n + 1, ri.append (.cons r .nil), ?_⟩)
  rw [ho']
  simp
def PTs (X : Cx) (ifs : List Expr) (t : TT) : Prop :=
  ∀ (pins : List (Addr × Obj)) (s : Shared) (σ : St) (H : Hp) (Q : Bool → Hp → Prop), Inv X pins σ H s → t σ H Q →
    wpAny (model X.prog X.w) X.A (forIn ifs true fun c r => if r = true then do let ok ← isTrue c X.env (eval c X.env); pure (ForInStep.yield ok) else pure (ForInStep.yield r)) (TP X pins σ Q) X.xe s
def tYes : TT := fun _ H Q => Q true H
theorem pts_nil : PTs X [] tYes := fun _ _ _ H _ I h => wpAny_tests_nil ⟨H, I, h⟩
end
theorem thnF {α : Type} {t : Sem α} {Q Q' : α → Shared → Prop} {M : Model} {A : Around} {E : Value → Shared → Prop} {s : Shared} (h : wpAny M A t Q (fun _ _ => False) s) (hQ : ∀ a s, Q a s → Q' a s) : wpAny M A t Q' E s := wpAny_mono h hQ fun _ _ z => False.elim z
theorem compLoop_any {prog : Program} {w : World} {A : Around} {R : Result → Shared → Prop} {s : Shared} {elt target iter : Expr} {ifs : List Expr} {scope : Scope} {pos : Pos} {it acc : Value} {env : Env} (I : Nat → Shared → Prop)
    (turn : ∀ n s, I n s → wpAny (model prog w) A (pyNext it) (fun r s₁ => match r with
      | none => R (.ok .next) s₁
      | some v => wpAny (model prog w) A (letOwnedTupleGo target it v) (fun _ s₁' => wpAny (model prog w) A (assign target env v) (fun _ s₂ =>
          wpAny (model prog w) A (forIn ifs true fun c r => if r = true then do let ok ← isTrue c env (eval c env); pure (ForInStep.yield ok) else pure (ForInStep.yield r)) (fun ok s₃ =>
            if ok = true then wpAny (model prog w) A (eval elt env) (fun x s₄ =>
              wpAny (model prog w) A (call (.builtin "list.append") [acc, x]) (fun _ s₅ => ∃ m, m < n ∧ I m s₅) (notedBy (model prog w) A env fun e s' => R (.error e) s') s₄) (notedBy (model prog w) A env fun e s' => R (.error e) s') s₃
            else ∃ m, m < n ∧ I m s₃) (notedBy (model prog w) A env fun e s' => R (.error e) s') s₂) (notedBy (model prog w) A env fun e s' => R (.error e) s') s₁') (notedBy (model prog w) A env fun e s' => R (.error e) s') s₁) (notedBy (model prog w) A env fun e s' => R (.error e) s') s)
    (n : Nat) (h : I n s) :
    codeAny (model prog w) A (.compLoop (.ListComp elt [⟨target, iter, ifs, 0⟩] scope pos) 0 it acc env) R s := by
  refine codeAny_loop rfl I (fun n s hI => ?_) n h
  show wpAny _ A ((compTurn (.ListComp elt [⟨target, iter, ifs, 0⟩] scope pos) 0 it acc env).onRaise (fun x => do noteFrame x env; theTreesLotGoes x)) _ _ s
  refine wpAny_noted ?_
  rw [compTurn_list]
  refine wpAny_bind (wpAny_standAt (wpAny_bind (wpAny_mono (turn n s hI) (fun r s₁ h₁ => ?_) fun _ _ h' => h')))
  cases r with
  | none => exact wpAny_pure h₁
  | some v =>
    refine wpAny_bind (wpAny_mono h₁ (fun _ s₁' h₁' => ?_) fun _ _ h' => h')
    refine wpAny_bind (wpAny_mono h₁' (fun _ s₂ h₂ => wpAny_bind (wpAny_mono h₂ (fun ok s₃ h₃ => ?_) fun _ _ h' => h')) fun _ _ h' => h')
    cases ok with
    | false => exact wpAny_pure ⟨rfl, h₃⟩
    | true =>
      exact wpAny_bind (wpAny_bind (wpAny_mono h₃ (fun x s₄ h₄ => wpAny_bind (wpAny_mono h₄ (fun _ s₅ h₅ => wpAny_pure (wpAny_pure ⟨rfl, h₅⟩)) fun _ _ h' => h')) fun _ _ h' => h'))
section
variable {X : Cx}
def tLc (wi : TI) (g : TG) (tt : TT) (te : TE) (vs : List Nat) : TE := fun σ H Q => wi σ H fun J H1 => ∀ D, H1 D = none → ∃ W : Nat → Nat → Hp → Prop, (∃ m, W 0 m (upd H1 D (.lst []))) ∧ ∀ i m H, W i m H →
  (J.stop i H ∧ Q (.ref D) H) ∨ (J.go i H ∧ ∃ Nx : Hp → Prop, (∀ H', Nx H' → ∃ m', m' < m ∧ W (i + 1) m' H') ∧ ∀ x H', J.yld i H x H' → g x (wipe σ vs) H' fun σ2 H2 => wipe σ2 vs = wipe σ vs ∧ tt σ2 H2 fun b H3 =>
    if b = true then te σ2 H3 fun y H4 => ∃ acc, H4 D = some (.lst acc) ∧ acc.length < sizeLine ∧ Nx (upd H4 D (.lst (acc ++ [y]))) else Nx H3)
theorem lc_core {pins : List (Addr × Obj)} {s : Shared} {σ : St} {H : Hp} {Q : VK} {elt tg iter : Expr} {ifs : List Expr} {scope : Scope} {own : List (Str × Nat)} {pos pos' : Pos} {wi : TI} {g : TG} {tt : TT} {te : TE} {use : Option (Value → Sem Unit)} {Qf : Value → Shared → Prop}
    (hc : X.calm = true) (hN : X.N.Nodup) (I : Inv X pins σ H s) (hi : PI X tg iter wi) (ok : BlkOk X.N X.env.scope scope own)
    (hg : ∀ (s : Shared) (H : Hp) (C : Addr) (cl : List (Str × Addr)) (fp : List Addr), PG (X.blk s H scope (compEnvC scope cl C X.env) fp) tg g) (ht : ∀ (s : Shared) (H : Hp) (C : Addr) (cl : List (Str × Addr)) (fp : List Addr), PTs (X.blk s H scope (compEnvC scope cl C X.env) fp) ifs tt)
    (he : ∀ (s : Shared) (H : Hp) (C : Addr) (cl : List (Str × Addr)) (fp : List Addr), PE (X.blk s H scope (compEnvC scope cl C X.env) fp) elt te) (hs : ∀ x, foldedSetIterable iter X.env x = pure x)
    (h : tLc wi g tt te (own.map (·.2)) σ H Q)
    (hRR : ∀ D C s' m H', Inv X pins σ H' s' → Q (.ref D) H' → s'.heap.Ns C m → FpOk X pins H' C → compPost (model X.prog X.w) X.A X.xe use Qf (.ref D) C (.ok .next) s') :
    wpAny (model X.prog X.w) X.A (comprehension (.ListComp elt [⟨tg, iter, ifs, 0⟩] scope pos) scope X.env pos' (newList []) false (eval iter X.env) use) Qf X.xe s := by
  have hfree : ∀ y ∈ scope.names, y.2 = .free → ∃ c, X.env.cells.lookup y.1 = some c := fun y hy e => by
    rcases ok.free y hy e with k | k
    · exact I.ok.has _ (.inl k)
    · exact I.ok.has _ (.inr k)
  refine wpAny_comprehension_free (use := use) rfl hs (closure_ok hfree) ok.kind (fun y hy e => by rw [ok.uniq y hy, e])
    (thn (hi pins s σ H _ I h) fun xv s1 hx => thn hx fun itv s2 h2 => ?_)
  obtain ⟨it, fp, tn, J, H2, e, I2, T, st2, f2, q⟩ := h2
  subst e
  refine wpAny_newObj_type (newEnv_comp ?_) (by show 0 ≤ sizeLine; decide)
  generalize hD : s2.heap.objs.size = D
  have hDn : H2 D = none := I2.hok.fresh (Nat.le_of_eq hD)
  obtain ⟨W, ⟨m0, w0⟩, turn⟩ := q D hDn
  -- the new list
  generalize hs3 : ({ s2 with heap := s2.heap.push { cls := .type "list", data := .seq ([] : List Value).toArray } } : Shared) = s3
  have I3 : Inv X pins σ (upd H2 D (.lst [])) s3 := by
    rw [← hs3]
    refine I2.laid (t' := s2.toks) (fun b o e => Heap.get?_push_of_some _ e) (Nat.le_of_eq hD) ⟨Nat.zero_le _, [], 0, .nil, ?_⟩
    rw [← hD]
    exact Heap.get?_push_size _ rfl
  have h3 : s3.heap = s2.heap.push { cls := .type "list", data := .seq ([] : List Value).toArray } := by rw [← hs3]
  have sz : ∀ b ∈ fp, b < s2.heap.objs.size := fun b hb => by
    obtain ⟨o, e, _⟩ := T.obj _ _ st2 b hb
    exact Heap.lt_size e
  have f3 : ∀ b ∈ fp, FpOk X pins (upd H2 D (.lst [])) b ∧ b < s3.heap.objs.size := fun b hb => by
    have hlt := sz b hb
    refine ⟨⟨?_, (f2 b hb).2⟩, by rw [h3, Heap.size_push]; exact Nat.lt_succ_of_lt hlt⟩
    rw [upd_ne (by rw [← hD]; exact Nat.ne_of_lt hlt)]
    exact (f2 b hb).1
  have st3 : tn 0 s3.heap := T.keep _ _ _ st2 fun b _ o e => by rw [h3]; exact Heap.get?_push_of_some _ e
  have I4 := block_start I3 ok hN f3
  have pg := hg s3 (upd H2 D (.lst [])) s3.heap.objs.size (cellsFrom (s3.heap.objs.size + 1) scope.names (cloFrom X.env.cells scope.names [])) fp
  have pt := ht s3 (upd H2 D (.lst [])) s3.heap.objs.size (cellsFrom (s3.heap.objs.size + 1) scope.names (cloFrom X.env.cells scope.names [])) fp
  have pe := he s3 (upd H2 D (.lst [])) s3.heap.objs.size (cellsFrom (s3.heap.objs.size + 1) scope.names (cloFrom X.env.cells scope.names [])) fp
  show codeAny _ _ (.compStart (.ListComp elt [⟨tg, iter, ifs, 0⟩] scope pos) 0 (.ref it) (.ref D) (compEnvC scope (cellsFrom (s3.heap.objs.size + 1) scope.names (cloFrom X.env.cells scope.names [])) s3.heap.objs.size X.env)) (compPost (model X.prog X.w) X.A X.xe use Qf (.ref D) s3.heap.objs.size) { s3 with heap := pushCells (s3.heap.push { cls := .type "dict", data := .dict #[] }) scope.names }
  have nfp : ∀ b ∈ fp, (upd H2 D (.lst [])) b = none := fun b hb => (f3 b hb).1.1
  generalize hce : compEnvC scope (cellsFrom (s3.heap.objs.size + 1) scope.names (cloFrom X.env.cells scope.names [])) s3.heap.objs.size X.env = ce at I4 pg pt pe ⊢
  have cL : ce.locals = s3.heap.objs.size := by subst hce; rfl
  generalize hH3 : upd H2 D (.lst []) = H3 at I3 I4 pg pt pe w0 nfp f3
  generalize hs4 : ({ s3 with heap := pushCells (s3.heap.push { cls := .type "dict", data := .dict #[] }) scope.names } : Shared) = s4 at I4 ⊢
  have st4 : tn 0 s4.heap := T.keep _ _ _ st3 fun b _ o e => by rw [← hs4]; exact pushCells_keeps _ _ _ _ (Heap.get?_push_of_some _ e)
  have stat : ∀ {σ' : St} {H' : Hp} {s' : Shared}, Inv (X.blk s3 H3 scope ce fp) [] σ' H' s' → (∀ b ∈ fp, H' b = none) → ∀ b ∈ fp, FpOk (X.blk s3 H3 scope ce fp) [] H' b := fun {σ' H' s'} I' hn b hb =>
    ⟨hn b hb, (I'.ok.exf b hb).1, I'.ok.exfs b hb, .inl hb, fun x c e => (I'.ok.exf b hb).2 x c e, fun p hp => absurd (show p ∈ ([] : List (Addr × Obj)) ++ [] from hp) (by simp)⟩
  have loop : codeAny (model X.prog X.w) X.A (.compLoop (.ListComp elt [⟨tg, iter, ifs, 0⟩] scope pos) 0 (.ref it) (.ref D) ce) (compPost (model X.prog X.w) X.A X.xe use Qf (.ref D) s3.heap.objs.size) s4 := by
    refine compLoop_any (fun n s' => ∃ i H', Inv (X.blk s3 H3 scope ce fp) [] (wipe σ (own.map (·.2))) H' s' ∧ tn i s'.heap ∧ (∀ b ∈ fp, H' b = none) ∧ W i n H') ?_ m0 ⟨0, H3, I4, st4, nfp, w0⟩
    rintro n s5 ⟨i, H5, I5, st5, n5, w5⟩
    rcases turn i n H5 w5 with ⟨stop, qq⟩ | ⟨go, Nx, hNx, step⟩
    · have td := T.done (X.blk s3 H3 scope ce fp) rfl rfl rfl hc i [] s5 _ H5 (fun _ _ => False) I5 (stat I5 n5) st5 stop
      refine thnF td fun r s6 ⟨hr, I6⟩ => ?_
      subst hr
      -- back in the def's context
      have I7 : Inv X pins σ H5 s6 := I3.call' (ch := fp) I6.os I6.base I6.hok I6.bare fun b hb => ⟨(f3 b hb).1.2.2.2.1, (f3 b hb).1.2.1, (f3 b hb).1.2.2.2.2.1, (f3 b hb).1.2.2.2.2.2⟩
      have nC : H5 s3.heap.objs.size = none := by
        have z : H5 ce.locals = none := I6.free
        rw [cL] at z
        exact z
      obtain ⟨m, hn, _⟩ := I6.loc
      have hn : s6.heap.Ns ce.locals m := hn
      rw [cL] at hn
      exact hRR D s3.heap.objs.size s6 m H5 I7 qq hn (I3.fpOk (Nat.le_refl _) nC)
    · have ti := T.item (X.blk s3 H3 scope ce fp) rfl rfl rfl hc i [] s5 _ H5 (fun _ _ => False) I5 (stat I5 n5) st5 go
      refine thnF ti fun r s6 ⟨u, hr, h6⟩ => ?_
      subst hr
      refine thnF h6 fun _ s7 ⟨x, H7, I7, r7, y7, st7, n7⟩ => ?_
      have I7' := I7.pinned (stat I7 n7) (T.obj _ _ st7)
      refine thnF (pg _ s7 _ H7 x u _ I7' r7 (step x H7 y7)) fun _ s8 ⟨σ8, H8, I8, hw8, q8⟩ => ?_
      refine thnF (pt _ s8 σ8 H8 _ I8 q8) fun b s9 ⟨H9, I9, q9⟩ => ?_
      -- the turn's end
      have fin : ∀ {s' : Shared} {H' : Hp}, Inv (X.blk s3 H3 scope ce fp) ([] ++ pinsAt fp s7.heap) σ8 H' s' → Nx H' → ∃ m, m < n ∧ ∃ i H', Inv (X.blk s3 H3 scope ce fp) [] (wipe σ (own.map (·.2))) H' s' ∧ tn i s'.heap ∧ (∀ b ∈ fp, H' b = none) ∧ W i m H' := fun {s' H'} I' nx => by
        obtain ⟨m', hm, w'⟩ := hNx H' nx
        have pin' : ∀ b ∈ fp, ∀ o, s7.heap.get? b = some o → s'.heap.get? b = some o ∧ H' b = none := fun b hb o e =>
          let z := I'.pin (b, o) (List.mem_append_right _ (List.mem_append_right _ (mem_pinsAt hb e)))
          ⟨z.1, z.2.1⟩
        have hl : (wipe σ (own.map (·.2))).length = σ8.length := by rw [← hw8, wipe_length]
        refine ⟨m', hm, i + 1, H', (I'.unpinned (pins := [])).weak hl (fun j v e => ?_), T.keep _ _ _ st7 fun b hb o e => (pin' b hb o e).1, fun b hb => ?_, w'⟩
        · rw [← hw8] at e
          exact (wipe_some e).1
        · obtain ⟨o, e, _⟩ := T.obj _ _ st7 b hb
          exact (pin' b hb o e).2
      cases b with
      | false =>
        simp only [Bool.false_eq_true, if_false] at q9 ⊢
        exact fin I9 q9
      | true =>
        simp only [if_true] at q9 ⊢
        refine thnF (pe _ s9 σ8 H9 _ I9 q9) fun z s10 ⟨yv, H10, I10, r10, acc, hD10, hz10, nx⟩ => ?_
        exact app_ok (X := X.blk s3 H3 scope ce fp) I10 hD10 hz10 r10 fun s11 I11 => fin I11 nx
  exact codeAny_compStart_list loop (T.self X.A 0 _ _ _ st4 loop)
theorem pe_lc {elt tg iter : Expr} {ifs : List Expr} {scope : Scope} {own : List (Str × Nat)} {pos : Pos} {wi : TI} {g : TG} {tt : TT} {te : TE} (hc : X.calm = true) (hN : X.N.Nodup) (hi : PI X tg iter wi) (ok : BlkOk X.N X.env.scope scope own)
    (hg : ∀ (s : Shared) (H : Hp) (C : Addr) (cl : List (Str × Addr)) (fp : List Addr), PG (X.blk s H scope (compEnvC scope cl C X.env) fp) tg g) (ht : ∀ (s : Shared) (H : Hp) (C : Addr) (cl : List (Str × Addr)) (fp : List Addr), PTs (X.blk s H scope (compEnvC scope cl C X.env) fp) ifs tt)
    (he : ∀ (s : Shared) (H : Hp) (C : Addr) (cl : List (Str × Addr)) (fp : List Addr), PE (X.blk s H scope (compEnvC scope cl C X.env) fp) elt te) (hs : ∀ x, foldedSetIterable iter X.env x = pure x := by intro _; rfl) :
    PE X (.ListComp elt [⟨tg, iter, ifs, 0⟩] scope pos) (tLc wi g tt te (own.map (·.2))) := by
  intro pins s σ H Q I h
  rw [eval_ListComp]
  refine lc_core hc hN I hi ok hg ht he hs h fun D C s' m H' I' q hn f => ⟨m, hn, fun h'' sb => ?_⟩
  obtain ⟨f0, f1, f2, f3, f4, f5⟩ := f
  exact ⟨.ref D, H', I'.turned (t' := s'.toks) (fun b o hb e => (sb.2 b hb).trans e) f0 f1 f3 f4 f5, rfl, q⟩
end
theorem lc_range {lo : Int} {n : Nat} {g : TG} {tt : TT} {te : TE} {vs : List Nat} {σ : St} {H1 : Hp} {D : Addr} {Qd : Hp → Prop} (Pv : Nat → Hp → Prop) (h0 : Pv 0 (upd H1 D (.lst [])))
    (hs : ∀ i H, i < n → Pv i H → g (.int (lo + i)) (wipe σ vs) H fun σ2 H2 => wipe σ2 vs = wipe σ vs ∧ tt σ2 H2 fun b H3 =>
      if b = true then te σ2 H3 fun y H4 => ∃ acc, H4 D = some (.lst acc) ∧ acc.length < sizeLine ∧ Pv (i + 1) (upd H4 D (.lst (acc ++ [y]))) else Pv (i + 1) H3) (hd : ∀ H, Pv n H → Qd H) :
    ∃ W : Nat → Nat → Hp → Prop, (∃ m, W 0 m (upd H1 D (.lst []))) ∧ ∀ i m H, W i m H →
      ((Itr lo n).stop i H ∧ Qd H) ∨ ((Itr lo n).go i H ∧ ∃ Nx : Hp → Prop, (∀ H', Nx H' → ∃ m', m' < m ∧ W (i + 1) m' H') ∧ ∀ x H', (Itr lo n).yld i H x H' → g x (wipe σ vs) H' fun σ2 H2 => wipe σ2 vs = wipe σ vs ∧ tt σ2 H2 fun b H3 =>
        if b = true then te σ2 H3 fun y H4 => ∃ acc, H4 D = some (.lst acc) ∧ acc.length < sizeLine ∧ Nx (upd H4 D (.lst (acc ++ [y]))) else Nx H3) := by
  refine ⟨fun i m H => m = n - i ∧ i ≤ n ∧ Pv i H, ⟨n, by simp, Nat.zero_le _, h0⟩, ?_⟩
  rintro i m H ⟨rfl, hi, p⟩
  by_cases hlt : i < n
  · refine .inr ⟨hlt, Pv (i + 1), fun H' p' => ⟨n - (i + 1), by omega, rfl, hlt, p'⟩, fun x H' y => ?_⟩
    obtain ⟨e, y⟩ := y
    subst e y
    exact hs i _ hlt p
  · have e : i = n := by omega
    subst e
    exact .inl ⟨Nat.le_refl _, hd H p⟩
theorem lc_list {K : PySem.W.Frag} {a : Addr} {xs : List V} {g : TG} {tt : TT} {te : TE} {vs : List Nat} {σ : St} {H1 : Hp} {D : Addr} {Qd : Hp → Prop} (Pv : Nat → Hp → Prop) (h0 : Pv 0 (upd H1 D (.lst []))) (hl : ∀ i H, i ≤ xs.length → Pv i H → SqL K H a xs)
    (hs : ∀ i x H, xs[i]? = some x → Pv i H → g x (wipe σ vs) H fun σ2 H2 => wipe σ2 vs = wipe σ vs ∧ tt σ2 H2 fun b H3 =>
      if b = true then te σ2 H3 fun y H4 => ∃ acc, H4 D = some (.lst acc) ∧ acc.length < sizeLine ∧ Pv (i + 1) (upd H4 D (.lst (acc ++ [y]))) else Pv (i + 1) H3) (hd : ∀ H, Pv xs.length H → Qd H) :
    ∃ W : Nat → Nat → Hp → Prop, (∃ m, W 0 m (upd H1 D (.lst []))) ∧ ∀ i m H, W i m H →
      ((Itl K a).stop i H ∧ Qd H) ∨ ((Itl K a).go i H ∧ ∃ Nx : Hp → Prop, (∀ H', Nx H' → ∃ m', m' < m ∧ W (i + 1) m' H') ∧ ∀ x H', (Itl K a).yld i H x H' → g x (wipe σ vs) H' fun σ2 H2 => wipe σ2 vs = wipe σ vs ∧ tt σ2 H2 fun b H3 =>
        if b = true then te σ2 H3 fun y H4 => ∃ acc, H4 D = some (.lst acc) ∧ acc.length < sizeLine ∧ Nx (upd H4 D (.lst (acc ++ [y]))) else Nx H3) := by
  refine ⟨fun i m H => m = xs.length - i ∧ i ≤ xs.length ∧ Pv i H, ⟨xs.length, by simp, Nat.zero_le _, h0⟩, ?_⟩
  rintro i m H ⟨rfl, hi, p⟩
  have q := hl i H hi p
  by_cases hlt : i < xs.length
  · refine .inr ⟨⟨xs, xs[i], q, by simp [hlt]⟩, Pv (i + 1), fun H' p' => ⟨xs.length - (i + 1), by omega, rfl, hlt, p'⟩, fun x H' y => ?_⟩
    obtain ⟨e, y⟩ := y
    subst e
    exact hs i x _ (y xs q) p
  · have e : i = xs.length := by omega
    subst e
    exact .inl ⟨⟨xs, q, Nat.le_refl _⟩, hd H p⟩
def blkC (N : List Str) (sc scope : Scope) (own : List (Str × Nat)) : Bool :=
  (match scope.kind with | .function => true | _ => false) && (scope.names.all fun y => decide (scope.names.lookup y.1 = some y.2)) && (own.all fun p => decide (N[p.2]? = some p.1)) &&
    (scope.names.all fun y => match y.2 with
      | .free => (match sc.names.lookup y.1 with | some .cell => true | some .free => true | _ => false)
      | .local => decide (y.1 ∈ own.map (·.1)) || decide (y.1 ∉ N)
      | .cell => decide (y.1 ∈ own.map (·.1)) || decide (y.1 ∉ N)
      | _ => true)
theorem blkOk_by {N : List Str} {sc scope : Scope} {own : List (Str × Nat)} (h : blkC N sc scope own = true) : BlkOk N sc scope own := by
  unfold blkC at h
  simp only [Bool.and_eq_true, List.all_eq_true, decide_eq_true_eq] at h
  obtain ⟨⟨⟨h1, h2⟩, h3⟩, h4⟩ := h
  refine ⟨?_, h2, h3, fun y hy e => ?_, fun y hy e => ?_⟩
  · split at h1
    · assumption
    · cases h1
  · have q := h4 y hy
    simp only [e] at q
    split at q <;> first | exact .inl (by assumption) | exact .inr (by assumption) | cases q
  · have q := h4 y hy
    rcases e with e | e <;> (simp only [e, Bool.or_eq_true, decide_eq_true_eq] at q; exact q)
end L2
namespace L2
open PySem PySem.Spec PyProof.Rows
section
variable {prog : Program} {w : World} {A : Around} {R : Result → Shared → Prop} {s : Shared} {elt t0 i0 t1 i1 : Expr} {ifs0 ifs1 : List Expr} {scope : Scope} {pos : Pos} {it acc : Value} {env : Env}
end
section
variable {X : Cx}
end
end L2
namespace L2
open PySem PySem.Spec PyProof.Rows
section
variable {κ : Type} [DecidableEq κ]
def valV (kvs : List (κ × V)) (k : κ) : Option V := (kvs.find? fun kv => decide (kv.1 = k)).map (·.2)
def putK (kvs : List (κ × V)) (k : κ) (v : V) : List (κ × V) :=
  if (kvs.any fun kv => decide (kv.1 = k)) = true then kvs.map (fun kv => if kv.1 = k then (kv.1, v) else kv) else kvs ++ [(k, v)]
theorem valV_pos {p : κ × V} {r : List (κ × V)} {k : κ} (e : p.1 = k) : valV (p :: r) k = some p.2 := by simp [valV, List.find?_cons, e]
theorem valV_neg {p : κ × V} {r : List (κ × V)} {k : κ} (e : ¬ p.1 = k) : valV (p :: r) k = valV r k := by simp [valV, List.find?_cons, e]
theorem valV_any (k : κ) : ∀ kvs : List (κ × V), (kvs.any fun kv => decide (kv.1 = k)) = (valV kvs k).isSome
  | [] => rfl
  | p :: r => by
    rw [List.any_cons]
    by_cases e : p.1 = k
    · simp only [valV_pos e, decide_eq_true e, Bool.true_or, Option.isSome_some]
    · rw [valV_neg e, decide_eq_false e, Bool.false_or]; exact valV_any k r
theorem length_putK (kvs : List (κ × V)) (k : κ) (v : V) : (putK kvs k v).length ≤ kvs.length + 1 := by
  unfold putK
  split
  · rw [List.length_map]; omega
  · rw [List.length_append, List.length_cons, List.length_nil]; omega
theorem putK_new {kvs : List (κ × V)} {k : κ} (v : V) (h : valV kvs k = none) : putK kvs k v = kvs ++ [(k, v)] := by
  unfold putK
  rw [valV_any, h]
  exact if_neg (by decide)
theorem RelO.isSome_eq {o : Option V} {u : Option Value} (r : RelO o u) : o.isSome = u.isSome := by
  cases o with
  | none => cases u with
    | none => rfl
    | some _ => exact (show False from r).elim
  | some _ => cases u with
    | none => exact (show False from r).elim
    | some _ => rfl
theorem RelO.getD {o : Option V} {u : Option Value} {d : V} {d' : Value} (r : RelO o u) (rd : RelV d d') : RelV (o.getD d) (u.getD d') := by
  cases o with
  | none => cases u with
    | none => exact rd
    | some _ => exact (show False from r).elim
  | some _ => cases u with
    | none => exact (show False from r).elim
    | some _ => exact r
theorem KV.val {kvs : List (κ × V)} {vs : List (κ × Value)} (r : KV kvs vs) (k : κ) : RelO (valV kvs k) (valueAt vs k) := by
  unfold KV at r
  induction r with
  | nil => exact True.intro
  | @cons p q ps qs h t ih =>
    obtain ⟨h1, h2⟩ := h
    by_cases e : p.1 = k
    · have e' : q.1 = k := h1.symm.trans e
      have b : valueAt (q :: qs) k = some q.2 := by simp [valueAt, List.find?_cons, e']
      rw [valV_pos e, b]; exact h2
    · have e' : ¬ q.1 = k := fun z => e (h1.trans z)
      have b : valueAt (q :: qs) k = valueAt qs k := by simp [valueAt, List.find?_cons, e']
      rw [valV_neg e, b]; exact ih
theorem KV.any {kvs : List (κ × V)} {vs : List (κ × Value)} (r : KV kvs vs) (k : κ) : (kvs.any fun kv => decide (kv.1 = k)) = vs.any fun kv => decide (kv.1 = k) := by
  unfold KV at r
  induction r with
  | nil => rfl
  | cons h t ih => rw [List.any_cons, List.any_cons, ih, h.1]
theorem KV.repl {kvs : List (κ × V)} {vs : List (κ × Value)} (r : KV kvs vs) (k : κ) {y : V} {u : Value} (ry : RelV y u) :
    KV (kvs.map fun kv => if kv.1 = k then (kv.1, y) else kv) (vs.map fun kv => if kv.1 = k then (kv.1, u) else kv) := by
  unfold KV at r ⊢
  induction r with
  | nil => exact .nil
  | @cons p q ps qs h t ih =>
    rw [List.map_cons, List.map_cons]
    refine .cons ?_ ih
    obtain ⟨h1, h2⟩ := h
    by_cases e : p.1 = k
    · rw [if_pos e, if_pos (h1.symm.trans e)]; exact ⟨h1, ry⟩
    · rw [if_neg e, if_neg (fun z => e (h1.trans z))]; exact ⟨h1, h2⟩
theorem KV.put {kvs : List (κ × V)} {vs : List (κ × Value)} (r : KV kvs vs) (k : κ) {y : V} {u : Value} (ry : RelV y u) : KV (putK kvs k y) (stored vs k u) := by
  unfold putK stored
  rw [r.any k]
  by_cases e : (vs.any fun kv => decide (kv.1 = k)) = true
  · rw [if_pos e, if_pos e]; exact r.repl k ry
  · rw [if_neg e, if_neg e]; exact Paired.snoc r ⟨rfl, ry⟩
theorem KV.length {kvs : List (κ × V)} {vs : List (κ × Value)} (r : KV kvs vs) : kvs.length = vs.length := Paired.length r
end
theorem kV_is {P : Program} {w : World} {k : Key} {u : Value} (r : RelV (kV k) u) : (mixKind P w).is k u = true := by
  cases k with
  | inl i => obtain ⟨t, e⟩ := (show ∃ t, u = Value.int i t from r); subst e; exact mixKind_int P w i t
  | inr x => obtain ⟨t, e⟩ := (show ∃ t, u = Value.str x t from r); subst e; exact mixKind_str P w x t
theorem items_are {P : Program} {w : World} : ∀ {ks : List Key} {us : List Value}, Vals (ks.map kV) us → ItemsAre (mixKind P w) ks us
  | [], _, r => by rw [List.map_nil] at r; cases r; exact .nil
  | k :: ks, _, r => by
    rw [List.map_cons] at r
    cases r with
    | cons h t => exact .cons (kV_is h) (items_are t)
abbrev KT (H : Hp) : List (List Key × V) → List (List Key × Addr × Value) → Prop := Paired fun p q => p.1 = q.1 ∧ H q.2.1 = some (.tup (p.1.map kV)) ∧ RelV p.2 q.2.2
theorem KT.val {H : Hp} {kvs : List (List Key × V)} {xs : List (List Key × Addr × Value)} (r : KT H kvs xs) (k : List Key) : RelO (valV kvs k) ((atKey xs k).map (·.2)) := by
  induction r with
  | nil => exact True.intro
  | @cons p q ps qs h t ih =>
    obtain ⟨h1, _, h2⟩ := h
    by_cases e : p.1 = k
    · have e' : q.1 = k := h1.symm.trans e
      have b : atKey (q :: qs) k = some q.2 := by simp [atKey, List.find?_cons, e']
      rw [valV_pos e, b]; exact h2
    · have e' : ¬ q.1 = k := fun z => e (h1.trans z)
      have b : atKey (q :: qs) k = atKey qs k := by simp [atKey, List.find?_cons, e']
      rw [valV_neg e, b]; exact ih
theorem KT.repl {H : Hp} {kvs : List (List Key × V)} {xs : List (List Key × Addr × Value)} (r : KT H kvs xs) (k : List Key) {y : V} {u : Value} (ry : RelV y u) :
    KT H (kvs.map fun kv => if kv.1 = k then (kv.1, y) else kv) (xs.map (putAt k u)) := by
  induction r with
  | nil => exact .nil
  | @cons p q ps qs h t ih =>
    rw [List.map_cons, List.map_cons]
    refine .cons ?_ ih
    obtain ⟨h1, h2, h3⟩ := h
    unfold putAt
    by_cases e : p.1 = k
    · rw [if_pos e, if_pos (h1.symm.trans e)]; exact ⟨h1, h2, ry⟩
    · rw [if_neg e, if_neg (fun z => e (h1.trans z))]; exact ⟨h1, h2, h3⟩
theorem KT.put {H : Hp} {kvs : List (List Key × V)} {xs : List (List Key × Addr × Value)} (r : KT H kvs xs) (k : List Key) {b : Addr} {y : V} {u : Value} (hb : H b = some (.tup (k.map kV))) (ry : RelV y u) :
    KT H (putK kvs k y) (storedH xs k b u) := by
  have e : (kvs.any fun kv => decide (kv.1 = k)) = (atKey xs k).isSome := by
    rw [valV_any, (r.val k).isSome_eq, Option.isSome_map]
  unfold putK storedH
  rw [e]
  by_cases q : (atKey xs k).isSome = true
  · rw [if_pos q, if_pos q]; exact r.repl k ry
  · rw [if_neg q, if_neg q]; exact Paired.snoc r ⟨rfl, hb, ry⟩
theorem KT.keeps {H H' : Hp} {kvs : List (List Key × V)} {xs : List (List Key × Addr × Value)} (r : KT H kvs xs) (ht : ∀ b ys, H b = some (.tup ys) → H' b = some (.tup ys)) : KT H' kvs xs :=
  Paired.mapP r fun _ _ z => ⟨z.1, ht _ _ z.2.1, z.2.2⟩
section
variable {P : Program} {w : World} {H : Hp} {h : Heap} {a : Addr}
theorem rd_of {u : HO} (ok : HOk P w H h) (e : Rd H a u) : ObjOk P w H h a u := e.ok ok
theorem dk_rd {kvs : List (Key × V)} (ok : HOk P w H h) (e : Rd H a (.dK kvs)) : kvs.length ≤ sizeLine ∧ (a == sysModules) = false ∧ ∃ vs, KV kvs vs ∧ h.DictOf (mixKind P w) a vs :=
  show ObjOk P w H h a (.dK kvs) from rd_of ok e
theorem dk_of {kvs : List (Key × V)} (ok : HOk P w H h) (e : H a = some (.dK kvs)) : kvs.length ≤ sizeLine ∧ (a == sysModules) = false ∧ ∃ vs, KV kvs vs ∧ h.DictOf (mixKind P w) a vs := dk_rd ok (.inl e)
theorem key_of {ks : List Key} (ok : HOk P w H h) (e : H a = some (.tup (ks.map kV))) : (tupleKind (mixKind P w)).is h ks a := by
  obtain ⟨_, its, r, o, h1, h2, n, h3⟩ := (show ObjOk P w H h a (.tup (ks.map kV)) from ok a _ e)
  exact ⟨o, its.toArray, n, h1, h2, h3, by simpa using items_are r⟩
theorem dt_rd {kvs : List (List Key × V)} (ok : HOk P w H h) (e : Rd H a (.dT kvs)) : kvs.length ≤ sizeLine ∧ (a == sysModules) = false ∧
    ∃ xs, KT H kvs xs ∧ h.DictOfH (tupleKind (mixKind P w)) a xs := by
  obtain ⟨z, y, xs, r, o, es, ep, h1, h2, h3, h4, h5⟩ := (show ObjOk P w H h a (.dT kvs) from rd_of ok e)
  refine ⟨z, y, xs, r, o, es, ep, h1, h2, h3, h4, fun x hx => ?_, h5⟩
  have all : ∀ {l : List (List Key × V)} {m : List (List Key × Addr × Value)}, KT H l m → ∀ x ∈ m, (tupleKind (mixKind P w)).is h x.1 x.2.1 := by
    intro l m q
    induction q with
    | nil => intro x hx; exact nomatch hx
    | @cons p q ps qs hq t ih =>
      intro x hx
      rcases List.mem_cons.mp hx with e | hx
      · subst e
        exact key_of ok (by rw [← hq.1]; exact hq.2.1)
      · exact ih x hx
  exact all r x hx
theorem dt_of {kvs : List (List Key × V)} (ok : HOk P w H h) (e : H a = some (.dT kvs)) : kvs.length ≤ sizeLine ∧ (a == sysModules) = false ∧
    ∃ xs, KT H kvs xs ∧ h.DictOfH (tupleKind (mixKind P w)) a xs := dt_rd ok (.inl e)
end
def DGet (H : Hp) (a : Addr) (y : V) (r : Option V) : Prop :=
  (∃ kvs k, Rd H a (.dK kvs) ∧ y = kV k ∧ r = valV kvs k) ∨ ∃ kvs k b, Rd H a (.dT kvs) ∧ y = .ref b ∧ H b = some (.tup (k.map kV)) ∧ r = valV kvs k
def DPut (H : Hp) (a : Addr) (y v : V) (H' : Hp) : Prop :=
  (∃ kvs k, H a = some (.dK kvs) ∧ y = kV k ∧ kvs.length < sizeLine ∧ H' = upd H a (.dK (putK kvs k v))) ∨
  ∃ kvs k b, H a = some (.dT kvs) ∧ y = .ref b ∧ H b = some (.tup (k.map kV)) ∧ kvs.length < sizeLine ∧ H' = upd H a (.dT (putK kvs k v))
theorem DGet.k {H : Hp} {a : Addr} {kvs : List (Key × V)} {k : Key} (e : H a = some (.dK kvs)) : DGet H a (kV k) (valV kvs k) := .inl ⟨kvs, k, .inl e, rfl, rfl⟩
theorem DPut.k {H : Hp} {a : Addr} {kvs : List (Key × V)} {k : Key} {v : V} (e : H a = some (.dK kvs)) (hl : kvs.length < sizeLine) : DPut H a (kV k) v (upd H a (.dK (putK kvs k v))) := .inl ⟨kvs, k, e, rfl, hl, rfl⟩
section
variable {X : Cx} {pins : List (Addr × Obj)} {σ : St} {H : Hp} {s : Shared} {a : Addr} {y v : V} {u r : Value} {o : Option V} {A : Around} {E : Value → Shared → Prop}
theorem Inv.big (I : Inv X pins σ H s) : sysModules < s.heap.objs.size := by
  have h : mainGlobals < s.heap.objs.size := (I.mod.glob.keeps I.bk).lt
  exact Nat.lt_trans (by decide) h
theorem d_getItem {Q : Value → Shared → Prop} (hu : A.units + 1 < cLine) (I : Inv X pins σ H s) (g : DGet H a y (some v)) (ry : RelV y u) (h : ∀ w' s', Inv X pins σ H s' → RelV v w' → Q w' s') :
    wpAny (model X.prog X.w) A (getItem (.ref a) u) Q E s := by
  rcases g with ⟨kvs, k, e, ey, l⟩ | ⟨kvs, k, b, e, ey, eb, l⟩
  · subst ey
    obtain ⟨z, hd, vs, rel, dd⟩ := dk_rd I.hok e
    obtain ⟨w', hw, rw'⟩ := RelO.some_of (v := v) (o := valueAt vs k) (by rw [l]; exact rel.val k)
    exact wpAny_getItem_of (kV_is ry) dd.mapOf hw (h w' _ (I.tok _) rw')
  · subst ey
    cases (show u = Value.ref b from ry)
    obtain ⟨z, hd, xs, rel, dd⟩ := dt_rd I.hok e
    obtain ⟨w', hw, rw'⟩ := RelO.some_of (v := v) (o := (atKey xs k).map (·.2)) (by rw [l]; exact rel.val k)
    obtain ⟨p, hp, hp2⟩ := Option.map_eq_some_iff.mp hw
    refine wpAny_getItem_heap (tupleKind_room_in1 hu) (key_of I.hok eb) dd hp ?_
    rw [hp2]
    exact h w' _ (I.tok _) rw'
theorem d_in {Q : Value → Shared → Prop} (hu : A.units + 1 < cLine) (I : Inv X pins σ H s) (g : DGet H a y o) (ry : RelV y u) (h : ∀ s', Inv X pins σ H s' → Q (.bool o.isSome) s') :
    wpAny (model X.prog X.w) A (compareOp .In u (.ref a)) Q E s := by
  rcases g with ⟨kvs, k, e, ey, l⟩ | ⟨kvs, k, b, e, ey, eb, l⟩
  · subst ey
    obtain ⟨z, hd, vs, rel, dd⟩ := dk_rd I.hok e
    refine wpAny_in_of (kV_is ry) hd dd.mapOf ?_
    rw [← (rel.val k).isSome_eq, ← l]
    exact h _ (I.tok _)
  · subst ey
    cases (show u = Value.ref b from ry)
    obtain ⟨z, hd, xs, rel, dd⟩ := dt_rd I.hok e
    refine wpAny_in_heap (tupleKind_room_in1 hu) (key_of I.hok eb) hd dd ?_
    have q := (rel.val k).isSome_eq
    rw [Option.isSome_map] at q
    rw [← q, ← l]
    exact h _ (I.tok _)
theorem d_notIn {Q : Value → Shared → Prop} (hu : A.units + 1 < cLine) (I : Inv X pins σ H s) (g : DGet H a y o) (ry : RelV y u) (h : ∀ s', Inv X pins σ H s' → Q (.bool (!o.isSome)) s') :
    wpAny (model X.prog X.w) A (compareOp .NotIn u (.ref a)) Q E s := by
  rcases g with ⟨kvs, k, e, ey, l⟩ | ⟨kvs, k, b, e, ey, eb, l⟩
  · subst ey
    obtain ⟨z, hd, vs, rel, dd⟩ := dk_rd I.hok e
    refine wpAny_notIn_of (kV_is ry) hd dd.mapOf ?_
    rw [← (rel.val k).isSome_eq, ← l]
    exact h _ (I.tok _)
  · subst ey
    cases (show u = Value.ref b from ry)
    obtain ⟨z, hd, xs, rel, dd⟩ := dt_rd I.hok e
    refine wpAny_notIn_heap (tupleKind_room_in1 hu) (key_of I.hok eb) hd dd ?_
    have q := (rel.val k).isSome_eq
    rw [Option.isSome_map] at q
    rw [← q, ← l]
    exact h _ (I.tok _)
theorem d_write {h' : Heap} {t' : Nat} {ob : HO} (I : Inv X pins σ H s) (mu : Mut (H a)) (hs : Heap.SameBut a s.heap h') (he : ∃ q, h'.get? a = some q) (new : ObjOk X.prog X.w (upd H a ob) h' a ob) :
    Inv X pins σ (upd H a ob) { s with heap := h', toks := t' } :=
  I.write (x := a) (e := a) mu (.inl rfl) (fun b q hb z => (hs.2 b hb).trans z) he new
theorem dk_new {P : Program} {w : World} {H' : Hp} {h' : Heap} {kvs : List (Key × V)} {vs : List (Key × Value)} (z : kvs.length ≤ sizeLine) (hd : (a == sysModules) = false) (rel : KV kvs vs) (dd : h'.DictOf (mixKind P w) a vs) :
    ObjOk P w H' h' a (.dK kvs) := ⟨z, hd, vs, rel, dd⟩
theorem d_setItem {H' : Hp} {Q : Unit → Shared → Prop} (hu : A.units + 1 < cLine) (I : Inv X pins σ H s) (g : DPut H a y v H') (ry : RelV y u) (rv : RelV v r) (h : ∀ s', Inv X pins σ H' s' → Q () s') :
    wpAny (model X.prog X.w) A (setItem (.ref a) u r) Q E s := by
  rcases g with ⟨kvs, k, e, ey, l, eH⟩ | ⟨kvs, k, b, e, ey, eb, l, eH⟩
  · subst ey eH
    obtain ⟨z, hd, vs, rel, dd⟩ := dk_of I.hok e
    have hz : vs.length ≤ sizeLine := by rw [← rel.length]; exact z
    have hl : (putK kvs k v).length ≤ sizeLine := by have := length_putK kvs k v; omega
    refine wpAny_setItem_pairs (hsz := hz) (kV_is ry) dd fun h' dd' hs => h _ ?_
    have he : ∃ q, h'.get? a = some q := let ⟨q, _, _, hq, _⟩ := dd'; ⟨q, hq⟩
    exact d_write I (by rw [e]; exact True.intro) hs he (dk_new hl hd (rel.put k rv) dd')
  · subst ey eH
    cases (show u = Value.ref b from ry)
    obtain ⟨z, hd, xs, rel, dd⟩ := dt_of I.hok e
    have hz : xs.length ≤ sizeLine := by rw [← Paired.length rel]; exact z
    have hl : (putK kvs k v).length ≤ sizeLine := by have := length_putK kvs k v; omega
    refine wpAny_setItem_heap (hsz := hz) (tupleKind_room_in1 hu) (key_of I.hok eb) dd fun h' dd' hs => h _ ?_
    obtain ⟨q, es, ep, hq, h2, h3, h4, _, h5⟩ := dd'
    refine d_write I (by rw [e]; exact True.intro) hs ⟨q, hq⟩ ⟨hl, hd, _, (rel.put k eb rv).keeps fun c ys ec => ?_, q, es, ep, hq, h2, h3, h4, h5⟩
    rw [upd_ne (ne_of ec e (fun z => nomatch z))]
    exact ec
end
section
variable {X : Cx} {pins : List (Addr × Obj)} {σ : St} {H : Hp} {s : Shared} {a : Addr} {kvs : List (Key × V)} {k : Key} {u : Value} {A : Around} {E : Value → Shared → Prop}
theorem d_len {Q : Value → Shared → Prop} (I : Inv X pins σ H s) (e : Rd H a (.dK kvs)) (h : ∀ t s', Inv X pins σ H s' → Q (.int kvs.length t) s') : wpAny (model X.prog X.w) A (call (.builtin "len") [.ref a]) Q E s := by
  obtain ⟨z, hd, vs, rel, dd⟩ := dk_rd I.hok e
  refine call_len_dict hd dd (by rw [← rel.length]; rw [sizeLine_eq] at z; omega) ?_
  rw [← rel.length]
  exact h _ _ (I.tok _)
end
def NoSl (i : Expr) : Prop := ∀ ov iv, subscripted i false ov iv = operate [ov, iv] (getItem ov iv)
theorem subD_of {prog : Program} {w : World} {A : Around} {E : Value → Shared → Prop} {s : Shared} {env : Env} {value slice : Expr} {pos : Pos} {T id : String} {Q : Value → Shared → Prop}
    (hl : typeLookup (.type T) "__getitem__" = pure (some (.builtin id))) (hs : NoSl slice)
    (h : wpAny (model prog w) A (eval value env) (fun o s₁ => wpAny (model prog w) A (eval slice env) (fun i s₂ => s₂.TypeIs o T ∧ wpAny (model prog w) A (getItem o i) Q E s₂) E s₁) E s) :
    wpAny (model prog w) A (eval (.Subscript value slice pos) env) Q E s := by
  refine Subscript_ (wpAny_mono h (fun o s₁ h₁ => wpAny_mono h₁ (fun i s₂ h₂ => ?_) fun _ _ x => x) fun _ _ x => x)
  obtain ⟨hT, h₂⟩ := h₂
  unfold subscriptTail
  refine wpAny_bind ?_
  rw [getitemInPython_of_ne hT.not_modules]
  refine wpAny_bind (wpAny_specialOf hT hl ?_)
  have fin : wpAny (model prog w) A (subscripted slice false o i) (fun r s₃ => wpAny (model prog w) A (letTemporaryGo value o r >>= fun _ => pure r) Q E s₃) E s₂ := by
    rw [hs o i]
    exact wpAny_operating (wpAny_mono h₂ (fun r s₃ h₃ => wpAny_bind (wpAny_letTemporaryGo (wpAny_pure h₃))) fun _ _ x => x)
  first
    | exact wpAny_pure (wpAny_bind fin)
    | exact wpAny_bind (wpAny_pure (wpAny_bind fin))
    | exact wpAny_bind fin
theorem dict_typeIs {X : Cx} {pins : List (Addr × Obj)} {σ : St} {H : Hp} {s : Shared} {a : Addr} {y : V} {o : Option V} (I : Inv X pins σ H s) (g : DGet H a y o) : s.TypeIs (.ref a) "dict" := by
  rcases g with ⟨kvs, k, e, _, _⟩ | ⟨kvs, k, b, e, _, _, _⟩
  · obtain ⟨_, _, vs, _, dd⟩ := dk_rd I.hok e
    exact dd.typeIs
  · obtain ⟨_, _, xs, _, dd⟩ := dt_rd I.hok e
    exact dd.typeIs
def tDGet (td ty : TE) : TE := fun σ H Q => td σ H fun x H1 => ty σ H1 fun y H2 => ∃ a v, x = .ref a ∧ DGet H2 a y (some v) ∧ Q v H2
def tDIn (ty td : TE) : TE := fun σ H Q => ty σ H fun y H1 => td σ H1 fun x H2 => ∃ a o, x = .ref a ∧ DGet H2 a y o ∧ Q (.bl o.isSome) H2
def tDNotIn (ty td : TE) : TE := fun σ H Q => ty σ H fun y H1 => td σ H1 fun x H2 => ∃ a o, x = .ref a ∧ DGet H2 a y o ∧ Q (.bl (!o.isSome)) H2
def sDPut (td ty tv : TE) : TS := fun D σ H => tv σ H fun v H1 => td σ H1 fun x H2 => ty σ H2 fun y H3 => ∃ a H4, x = .ref a ∧ DPut H3 a y v H4 ∧ D.nx σ H4
section
variable {X : Cx} {o i e value : Expr} {pos pos' tpos : Pos} {td ty tv : TE}
theorem pe_dget (hu : X.A.units + 1 < cLine) (ho : PE X o td) (hi : PE X i ty) (hs : NoSl i) : PE X (.Subscript o i pos) (tDGet td ty) := by
  intro pins s σ H Q I h
  refine subD_of PySem.F.slot_dict_getitem.lookup hs (thn (ho pins s σ H _ I h) fun u s1 ⟨x, H1, I1, rx, q1⟩ => thn (hi pins s1 σ H1 _ I1 q1) fun iv s2 ⟨y, H2, I2, ry, a, v, ex, g, q2⟩ => ?_)
  subst ex
  obtain rfl : u = Value.ref a := rx
  exact ⟨dict_typeIs I2 g, d_getItem hu I2 g ry fun w' s3 I3 rw' => ⟨v, H2, I3, rw', q2⟩⟩
theorem pc_din (hu : X.A.units + 1 < cLine) (hi : PE X i ty) (ho : PE X o td) : PC X .In i o (tDIn ty td) := by
  intro pins s σ H Q I h
  refine thn (hi pins s σ H _ I h) fun iv s1 ⟨y, H1, I1, ry, q1⟩ => thn (ho pins s1 σ H1 _ I1 q1) fun u s2 ⟨x, H2, I2, rx, a, ov, ex, g, q2⟩ => ?_
  subst ex
  obtain rfl : u = Value.ref a := rx
  exact d_in hu I2 g ry fun s3 I3 => ⟨.bl ov.isSome, H2, I3, rfl, q2⟩
theorem pc_dnotin (hu : X.A.units + 1 < cLine) (hi : PE X i ty) (ho : PE X o td) : PC X .NotIn i o (tDNotIn ty td) := by
  intro pins s σ H Q I h
  refine thn (hi pins s σ H _ I h) fun iv s1 ⟨y, H1, I1, ry, q1⟩ => thn (ho pins s1 σ H1 _ I1 q1) fun u s2 ⟨x, H2, I2, rx, a, ov, ex, g, q2⟩ => ?_
  subst ex
  obtain rfl : u = Value.ref a := rx
  exact d_notIn hu I2 g ry fun s3 I3 => ⟨.bl (!ov.isSome), H2, I3, rfl, q2⟩
theorem ps_dput (hu : X.A.units + 1 < cLine) (ho : PE X o td) (hi : PE X i ty) (hv : PE X value tv) (hs : swapsWith value (some (.Subscript o i pos')) pos.line X.env = pure false) :
    PS X (.Assign [.Subscript o i pos'] value pos) (sDPut td ty tv) := by
  intro pins s σ H D I h
  refine wpAny_Assign_Subscript (thn (hv pins s σ H _ I h) fun r s1 ⟨v, H1, I1, rv, q1⟩ => thn (ho pins s1 σ H1 _ I1 q1) fun u s2 ⟨x, H2, I2, rx, q2⟩ => thn (hi pins s2 σ H2 _ I2 q2) fun iv s3 ⟨y, H3, I3, ry, a, H4, ex, g, q3⟩ => ?_) hs
  subst ex
  obtain rfl : u = Value.ref a := rx
  exact d_setItem hu I3 g ry rv fun s4 I4 => ⟨σ, H4, I4, q3⟩
end
theorem dk_empty {P : Program} {w : World} {H : Hp} (h : Heap) (hb : sysModules < h.objs.size) : ObjOk P w H (h.push { cls := .type "dict", data := .dict #[] }) h.objs.size (.dK []) :=
  ⟨Nat.zero_le _, beq_eq_false_iff_ne.mpr (Ne.symm (Nat.ne_of_lt hb)), [], .nil, Heap.DictOf.new h⟩
def tDNewK : TE := fun _ H Q => ∀ p, H p = none → Q (.ref p) (upd H p (.dK []))
section
variable {X : Cx} {pos : Pos}
theorem pe_dnewK : PE X (.Dict [] [] pos) tDNewK := fun pins s σ H Q I h =>
  wpAny_Dict_empty ⟨.ref s.heap.objs.size, _, I.laid (a := s.heap.objs.size) (o := .dK []) (t' := s.toks) (fun _ _ q => Heap.get?_push_of_some _ q) (Nat.le_refl _) (dk_empty s.heap I.big), rfl, h _ (I.hok.fresh (Nat.le_refl _))⟩
end
structure M2 (X : Cx) (o : Expr) (m : Str) (apos : Pos) (e f : Expr) (cpos : Pos) : Prop where
  base : attributeBase o m X.env (eval o X.env) = eval o X.env
  few : ((backTo cpos (starEach [e, f] X.env)).all (fun x => !x.1) && (backToKw cpos (keywordEach [] X.env)).all (fun x => x.1.isSome)
    && decide (([e, f] : List Expr).length + ([] : List Keyword).length + (if ([] : List Keyword).isEmpty then 0 else 1) < 30)) = true
  line : (apos.endLine == cpos.line) = true
  trees : backTo cpos (starEach [e, f] X.env) = [(false, eval e X.env), (false, eval f X.env)]
def IsD (H : Hp) (a : Addr) : Prop := (∃ kvs, Rd H a (.dK kvs)) ∨ ∃ kvs, Rd H a (.dT kvs)
theorem isD_at {X : Cx} {pins : List (Addr × Obj)} {σ : St} {H : Hp} {s : Shared} {a : Addr} (I : Inv X pins σ H s) (d : IsD H a) :
    s.TypeIs (.ref a) "dict" ∧ (∀ b, Value.ref a = .ref b → ∃ ob, s.heap.get? b = some ob ∧ ob.dict = none) ∧ (a == sysModules) = false := by
  rcases d with ⟨kvs, e⟩ | ⟨kvs, e⟩
  · obtain ⟨_, hd, vs, _, dd⟩ := dk_rd I.hok e
    refine ⟨dd.typeIs, fun b q => ?_, hd⟩
    cases q
    obtain ⟨ob, _, _, h1, h2, _⟩ := dd
    exact ⟨ob, h1, h2.2.1⟩
  · obtain ⟨_, hd, xs, _, dd⟩ := dt_rd I.hok e
    refine ⟨dd.typeIs, fun b q => ?_, hd⟩
    cases q
    obtain ⟨ob, _, _, h1, h2, _⟩ := dd
    exact ⟨ob, h1, h2.2.1⟩
section
variable {X : Cx} {pins : List (Addr × Obj)} {σ : St} {H : Hp} {s : Shared} {a : Addr} {y d : V} {u r : Value} {o : Option V} {A : Around} {E : Value → Shared → Prop}
theorem d_get2 {Q : Value → Shared → Prop} (hu : A.units + 1 < cLine) (I : Inv X pins σ H s) (g : DGet H a y o) (ry : RelV y u) (rd : RelV d r) (h : ∀ w' s', Inv X pins σ H s' → RelV (o.getD d) w' → Q w' s') :
    wpAny (model X.prog X.w) A (call (.builtin "dict.get") [.ref a, u, r]) Q E s := by
  rcases g with ⟨kvs, k, e, ey, l⟩ | ⟨kvs, k, b, e, ey, eb, l⟩
  · subst ey
    obtain ⟨z, hd, vs, rel, dd⟩ := dk_rd I.hok e
    refine call_meetsIn PySem.F.slot_dict_get dd.typeIs PySem.F.entry_dict_get (PySem.F.args_dict_get_3 _ _ _) (meets_dict_get_default (mixKind X.prog X.w) a (kV_is ry) hd r) ⟨_, dd.mapOf, h _ _ (I.tok _) ?_⟩
    rw [l]
    exact (rel.val k).getD rd
  · subst ey
    cases (show u = Value.ref b from ry)
    obtain ⟨z, hd, xs, rel, dd⟩ := dt_rd I.hok e
    refine call_meetsIn PySem.F.slot_dict_get dd.typeIs PySem.F.entry_dict_get (PySem.F.args_dict_get_3 _ _ _) (meetsH_dict_get_default (tupleKind (mixKind X.prog X.w)) a b hd r) ⟨tupleKind_room_in1 hu, k, xs, key_of I.hok eb, dd, h _ _ (I.tok _) ?_⟩
    rw [l]
    exact (rel.val k).getD rd
end
def tDGet2 (td ty tx : TE) : TE := fun σ H Q => td σ H fun x H1 => ∃ a, x = .ref a ∧ IsD H1 a ∧ ty σ H1 fun y H2 => tx σ H2 fun z H3 => ∃ o, DGet H3 a y o ∧ Q (o.getD z) H3
section
variable {X : Cx} {o e f : Expr} {apos cpos : Pos} {td ty tx : TE}
theorem pe_dget2 (hu : X.A.units + 1 < cLine) (ho : PE X o td) (he : PE X e ty) (hf : PE X f tx) (m : M2 X o "get" apos e f cpos) : PE X (.Call (.Attribute o "get" apos) [e, f] [] cpos) (tDGet2 td ty tx) := by
  intro pins s σ H Q I h
  refine wpAny_Call_method m.base m.few m.line PySem.F.plainAttrs_dict PySem.F.slot_dict_get PySem.F.type_dict_get (thn (ho pins s σ H _ I h) fun u s1 ⟨x, H1, I1, rx, a, ex, d, q1⟩ => ?_)
  subst ex
  obtain rfl : u = Value.ref a := rx
  obtain ⟨t1, t2, _⟩ := isD_at I1 d
  refine ⟨t1, t2, ?_⟩
  rw [m.trees]
  refine Calls.callWith_builtin rfl (Calls.evalArgs_plain (Calls.spliced_cons (thn (he pins s1 σ H1 _ I1 q1) fun iv s2 ⟨y, H2, I2, ry, q2⟩ =>
    Calls.spliced_cons (thn (hf pins s2 σ H2 _ I2 q2) fun fv s3 ⟨z, H3, I3, rz, ov, g, q3⟩ => Calls.spliced_nil ?_))))
  exact d_get2 hu I3 g ry rz fun w' s4 I4 rw' => ⟨_, H3, I4, rw', q3⟩
end
section
variable {X : Cx} {pins : List (Addr × Obj)} {σ : St} {H : Hp} {s : Shared} {a : Addr} {kvs : List (Key × V)} {A : Around} {E : Value → Shared → Prop}
end
section
variable {X : Cx} {pins : List (Addr × Obj)} {σ : St} {H : Hp} {s : Shared} {a : Addr} {y : V} {u : Value} {A : Around} {E : Value → Shared → Prop}
end
end L2
namespace L2
open PySem PySem.Spec PyProof.Rows
section
variable {prog : Program} {w : World} {A : Around} {E : Value → Shared → Prop}
end
section
variable {X : Cx}
end
end L2
namespace L2
open PySem PySem.Spec PyProof.Rows
section
variable {X : Cx} {pins : List (Addr × Obj)} {σ : St} {H : Hp} {s : Shared} {h' : Heap}
theorem Inv.turnedNew {t' : Nat} {ch : List Addr} {T : Addr} {ob : HO} (I : Inv X pins σ H s) (k : ∀ b o, b ∉ ch → s.heap.get? b = some o → h'.get? b = some o) (hf : ∀ b ∈ ch, FpOk X pins H b) (hT : s.heap.objs.size ≤ T)
    (new : ObjOk X.prog X.w (upd H T ob) h' T ob) : Inv X pins σ (upd H T ob) { s with heap := h', toks := t' } := by
  have hn : H T = none := I.hok.fresh hT
  have nit : ∀ b u, H b = some u → b ∉ ch := fun b u e z => by
    have q := (hf b z).1
    rw [q] at e; cases e
  refine I.step (g' := s.gens) (d' := s.drawn) (ch := ch) (fun b hb => ⟨(hf b hb).2.2.2.1, (hf b hb).2.1, (hf b hb).2.2.2.2.1, (hf b hb).2.2.2.2.2⟩) (fun b o _ _ hc e _ => k b o hc e) (fun b o _ _ hc e _ => ⟨o.slots, k b o hc e⟩)
    (fun b o _ e n => ?_) (fun b o hc e => ⟨o, k b o hc e⟩) (fun b xs e => ?_) (fun b o u e => ?_) (fun b ps e => ⟨#[], ?_⟩) (fun m hm => ?_) (fun b u e => ?_) I.bare
  · rw [upd_ne (Nat.ne_of_lt (Nat.lt_of_lt_of_le (Heap.lt_size e) hT))]; exact n
  · rw [upd_ne (ne_of_none e hn)]; exact e
  · rw [upd_ne (ne_of_none e hn)]; exact e
  · rw [upd_ne (ne_of_none e hn), e]; simp
  · obtain ⟨o, es, ep, ho, r⟩ := hm
    exact ⟨o, es, ep, k _ o (fun z => (hf _ z).2.1 rfl) ho, r⟩
  · by_cases hb : b = T
    · subst hb
      rw [upd_same] at e
      cases e
      exact new
    · rw [upd_ne hb] at e
      refine (I.hok b u e).stay (fun c v hc q => k c v ?_ q) (fun c q => by rw [upd_ne (ne_of_none q hn)]; exact q) fun c xs q => by rw [upd_ne (ne_of_none q hn)]; exact q
      rcases hc with z | z
      · rw [z]; exact nit b u e
      · exact nit c _ z
end
section
variable {X : Cx}
theorem pi_one {tg : Expr} {pins : List (Addr × Obj)} {σ : St} {H : Hp} {s : Shared} {R : It → Hp → Prop} {J : It} {tn : Nat → Heap → Prop} {tk : Nat} (I : Inv X pins σ H s) (o : Obj)
    (T : Turn X.prog X.w X.K tg J [s.heap.objs.size] s.heap.objs.size tn) (st : tn 0 (s.heap.push o)) (q : R J H) : PIE X pins σ tg R (.ref s.heap.objs.size) { s with heap := s.heap.push o, toks := tk } := by
  refine ⟨s.heap.objs.size, [s.heap.objs.size], tn, J, H, rfl, I.kept fun b ob e => Heap.get?_push_of_some _ e, T, st, fun b hb => ?_, q⟩
  have e : b = s.heap.objs.size := by simpa using hb
  subst e
  exact I.fpOk (Nat.le_refl _) (I.hok.fresh (Nat.le_refl _))
end
section
variable {X : Cx} {tg : Expr}
end
section
variable {X : Cx} {tg : Expr}
end
def Its (x : Str) : It := ⟨fun i _ => i < x.cps.size, fun i H v H' => H' = H ∧ ∃ c, x.cps[i]? = some c ∧ v = .str ⟨#[c]⟩, fun i _ => x.cps.size ≤ i⟩
theorem turn_str {P : Program} {w : World} {K : PySem.W.Frag} {tg : Expr} (it : Addr) (x : Str) (t : Tok) (ty : String) (hty : ty = "str_ascii_iterator" ∨ ty = "str_iterator") :
    Turn P w K tg (Its x) [it] it (fun i h => h.IsStrIter it ty x t i) where
  mem := by simp
  obj := fun i h st b hb => by
    have e : b = it := by simpa using hb
    subst e
    obtain ⟨o, e, c, d⟩ := st
    exact ⟨o, e, fun v z => by rw [d] at z; cases z⟩
  keep := fun i h h' st k => let ⟨o, ho, r⟩ := st; ⟨o, k it (by simp) o ho, r⟩
  item := by
    intro X hP hw hK hc i pins s σ H E I hf st hg
    subst hP hw hK
    obtain ⟨f0, f1, f2, f3, f4, f5⟩ := hf it (by simp)
    have W : Walks X.prog X.w X.A it [it] [it] x.cps.size (SignAt x) (fun i h => h.IsStrIter it ty x t i) := by
      rcases hty with e | e
      · rw [e]; exact Walks.strAscii (I.ok.hd hc) it x t
      · rw [e]; exact Walks.strWide (I.ok.hd hc) it x t
    have hno : ["enumerate", "zip", "dict_itemiterator", "dict_reverseitemiterator", "odict_iterator", "itertools.zip_longest", "itertools.pairwise"].contains ty = false := by
      rcases hty with e | e
      · rw [e]; decide
      · rw [e]; decide
    refine W.item i s _ _ hg st fun v h' tk hv st' kk => ?_
    obtain ⟨c, u, hcx, rfl⟩ := hv
    have I1 : Inv X pins σ H { s with heap := h', toks := tk } := I.turned (fun b o hb e => kk b o (by simpa using hb) e) f0 f1 f3 f4 f5
    obtain ⟨oi, e, cc, dd⟩ := id st'
    exact ⟨_, rfl, go_of (s := { s with heap := h', toks := tk }) e cc dd hno ⟨.str ⟨#[c]⟩, H, I1, ⟨u, rfl⟩, ⟨rfl, c, hcx, rfl⟩, st', fun b hb => (hf b hb).1⟩⟩
  done := by
    intro X hP hw hK hc i pins s σ H E I hf st hg
    subst hP hw hK
    obtain ⟨f0, f1, f2, f3, f4, f5⟩ := hf it (by simp)
    have hx : x.cps[i]? = none := Array.getElem?_eq_none hg
    rcases hty with e | e
    · rw [e] at st
      exact wpAny_pyNext_ascii_end (I.ok.hd hc) st hx fun h' eb => ⟨rfl, I.turned (t' := s.toks) (fun b o hb e => eb b o hb e) f0 f1 f3 f4 f5⟩
    · rw [e] at st
      exact wpAny_pyNext_wide_end (I.ok.hd hc) st hx fun h' eb => ⟨rfl, I.turned (t' := s.toks) (fun b o hb e => eb b o hb e) f0 f1 f3 f4 f5⟩
  self := fun A i s Q E st h => by
    rcases hty with e | e
    · rw [e] at st; exact wpAny_pyIter_striter_ascii st h
    · rw [e] at st; exact wpAny_pyIter_striter_wide st h
def iStr (te : TE) : TI := fun σ H R => te σ H fun v H1 => ∃ x, v = .str x ∧ R (Its x) H1
theorem pi_str {X : Cx} {tg e : Expr} {te : TE} (he : PE X e te) : PI X tg e (iStr te) := by
  intro pins s σ H R I h
  refine thn (he pins s σ H _ I h) fun v s1 ⟨y, H1, I1, r1, x, ex, q⟩ => ?_
  subst ex
  obtain ⟨t, rfl⟩ := r1
  cases ha : x.cps.all (· < 128)
  · exact wpAny_pyIter_wide ha (pi_one (tk := s1.toks) I1 _ (turn_str _ x t "str_iterator" (.inr rfl)) ⟨_, Heap.get?_push_size _ rfl, rfl, rfl⟩ q)
  · exact wpAny_pyIter_ascii ha (pi_one (tk := s1.toks) I1 _ (turn_str _ x t "str_ascii_iterator" (.inl rfl)) ⟨_, Heap.get?_push_size _ rfl, rfl, rfl⟩ q)
section
variable {prog : Program} {w : World} {A : Around} {E : Value → Shared → Prop} {s : Shared}
end
theorem kv_get {κ : Type} {kvs : List (κ × V)} {vs : List (κ × Value)} (h : KV kvs vs) : ∀ {i : Nat} {k : κ} {v : V}, kvs[i]? = some (k, v) → ∃ u, vs[i]? = some (k, u) ∧ RelV v u := by
  unfold KV at h
  induction h with
  | nil => intro i k v e; simp at e
  | @cons a b l₁ l₂ r t ih =>
    intro i k v e
    cases i with
    | zero =>
      simp only [List.getElem?_cons_zero, Option.some.injEq] at e
      subst e
      refine ⟨b.2, ?_, r.2⟩
      simp only [List.getElem?_cons_zero]
      exact congrArg some (Prod.ext r.1.symm rfl)
    | succ j =>
      simp only [List.getElem?_cons_succ] at e ⊢
      exact ih e
theorem relV_key {k : Key} {u : Value} (h : keyIs k u = true) : RelV (kV k) u := by
  rcases keyIs_shape h with ⟨i, t, rfl, rfl⟩ | ⟨x, t, rfl, rfl⟩
  · exact ⟨t, rfl⟩
  · exact ⟨t, rfl⟩
section
variable {X : Cx} {pins : List (Addr × Obj)} {σ : St} {H : Hp} {s : Shared} {d : Addr} {o : Obj}
end
section
variable {P : Program} {w : World} {K : PySem.W.Frag} {tg : Expr} {d : Addr} {o : Obj} {es : Array DictEntry} {ep : Nat}
end
section
variable {X : Cx} {tg e : Expr} {td : TE} {apos cpos : Pos}
end
def Ite (K : PySem.W.Frag) (a : Addr) : It :=
  ⟨fun i H => ∃ (xs : List V) (x : V), SqL K H a xs ∧ xs[i]? = some x, fun i H v H' => ∃ T x, v = .ref T ∧ H T = none ∧ H' = upd H T (.tup [.int (i : Nat), x]) ∧ ∀ xs, SqL K H a xs → xs[i]? = some x, fun i H => ∃ xs : List V, SqL K H a xs ∧ xs.length ≤ i⟩
theorem turn_enum {P : Program} {w : World} {K : PySem.W.Frag} {elts : List Expr} {kk : Nat} {tpos : Pos} (a e it : Addr) :
    Turn P w K (.Tuple elts kk tpos) (Ite K a) [e, it] e (fun i h => (∃ old, IsEnum h e it ((i : Nat) : Int) old) ∧ h.IsListIter it a i ∧ e ≠ it) where
  mem := by simp
  obj := fun i h st b hb => by
    obtain ⟨⟨old, he⟩, ⟨o, ho, hc, hd⟩, _⟩ := st
    have e' : b = e ∨ b = it := by simpa using hb
    rcases e' with z | z
    · rw [z]; exact ⟨_, he, fun v q => nomatch q⟩
    · rw [z]; exact ⟨o, ho, fun v q => by rw [hd] at q; cases q⟩
  keep := fun i h h' st k => let ⟨⟨old, he⟩, hi, hne⟩ := st; ⟨⟨old, k e (by simp) _ he⟩, hi.at fun o q => k it (by simp) o q, hne⟩
  item := by
    intro X hP hw hK hc i pins s σ H E I hf st hg
    subst hP hw hK
    obtain ⟨⟨old, he⟩, hit, hne⟩ := st
    obtain ⟨xs, x, hq, hx⟩ := hg
    obtain ⟨its, rv, p, hz⟩ := I.list hq
    obtain ⟨u, hu, ru⟩ := rv.get hx
    have hel : e < s.heap.objs.size := Heap.lt_size he
    have hil : it < s.heap.objs.size := by obtain ⟨_, q, _⟩ := hit; exact Heap.lt_size q
    refine wpAny_pyNext_enum_item he hit p.isList (x := u) (by simpa using hu) hne fun h' ho hit' hT hsz hk => ?_
    refine ⟨_, rfl, wpAny_letOwnedTupleGo_enum (s := { s with heap := h', toks := s.toks + 1 }) ho fun h'' he' sb => ?_⟩
    have hT2 : h''.get? s.heap.objs.size = some { cls := .type "tuple", data := .seq #[.int i s.toks, u] } := (sb.2 _ (Nat.ne_of_gt hel)).trans hT
    have new : ObjOk X.prog X.w (upd H s.heap.objs.size (.tup [.int (i : Nat), x])) h'' s.heap.objs.size (.tup [.int (i : Nat), x]) :=
      ⟨by show 2 ≤ sizeLine; decide, [.int i s.toks, u], .cons ⟨_, rfl⟩ (.cons ru .nil), ⟨_, hT2, rfl, _, rfl⟩⟩
    have I1 : Inv X pins σ (upd H s.heap.objs.size (.tup [.int (i : Nat), x])) { s with heap := h'', toks := s.toks + 1 } :=
      I.turnedNew (ch := [e, it]) (fun b ob hb q => (sb.2 b (fun z => hb (by simp [z]))).trans (hk b ob (fun z => hb (by simp [z])) (fun z => hb (by simp [z])) q)) hf (Nat.le_refl _) new
    refine ⟨.ref s.heap.objs.size, _, I1, rfl, ⟨_, x, rfl, I.hok.fresh (Nat.le_refl _), rfl, fun ys hy => by rw [I.list_inj hy hq]; exact hx⟩, ⟨⟨u, ?_⟩, hit'.at fun o q => (sb.2 it (Ne.symm hne)).trans q, hne⟩, fun b hb => ?_⟩
    · have e1 : ((i + 1 : Nat) : Int) = (i : Int) + 1 := by omega
      rw [e1]; exact he'
    · have hb' : b < s.heap.objs.size := by
        have e' : b = e ∨ b = it := by simpa using hb
        rcases e' with z | z
        · rw [z]; exact hel
        · rw [z]; exact hil
      rw [upd_ne (Nat.ne_of_lt hb')]
      exact (hf b hb).1
  done := by
    intro X hP hw hK hc i pins s σ H E I hf st hg
    subst hP hw hK
    obtain ⟨⟨old, he⟩, hit, hne⟩ := st
    obtain ⟨xs, hq, hx⟩ := hg
    obtain ⟨its, rv, p, hz⟩ := I.list hq
    obtain ⟨f0, f1, f2, f3, f4, f5⟩ := hf it (by simp)
    have hl := rv.length
    exact wpAny_pyNext_enum_end (I.ok.hd hc) he hit p.isList (by simp; omega) fun h' eb => ⟨rfl, I.turned (t' := s.toks) (fun b o hb q => eb b o hb q) f0 f1 f3 f4 f5⟩
  self := fun A i s Q E st h => let ⟨⟨_, he⟩, _⟩ := st; wpAny_pyIter_enum he h
def iEnum (K : PySem.W.Frag) (ta : TA) : TI := fun σ H R => ta σ H fun vs H1 => ∃ a xs, vs = [.ref a] ∧ SqL K H1 a xs ∧ R (Ite K a) H1
theorem pi_enum {X : Cx} {e : Expr} {ta : TA} {p pos tpos : Pos} {elts : List Expr} {kk : Nat} (hg : Gl X "enumerate") (hm : X.mg "enumerate" = none) (ha : PA X [e] ta) (hs : starEach [e] X.env = [(false, eval e X.env)] := by rfl) :
    PI X (.Tuple elts kk tpos) (.Call (.Name "enumerate" p) [e] [] pos) (iEnum X.K ta) := by
  intro pins s σ H R I h
  refine Call_ (ld_blt I hg hm boot_enumerate (PyProof.Rows.callWith_type1 (thn (ha pos pins s σ H _ I h) fun us s1 ⟨vs, H1, I1, r1, q1⟩ => ?_) hs rfl))
  obtain ⟨a, xs, ex, hq, q⟩ := q1
  subst ex
  cases r1 with
  | cons r rr =>
    cases rr
    cases r
    obtain ⟨its, rv, p', hz⟩ := I1.list hq
    refine call_enumerate_list p'.isList fun h' he hit hsz hk => wpAny_pyIter_enum he ?_
    have I2 : Inv X pins σ H1 { s1 with heap := h' } := I1.kept (t' := s1.toks) hk
    refine ⟨s1.heap.objs.size + 1, [s1.heap.objs.size + 1, s1.heap.objs.size], _, _, H1, rfl, I2, turn_enum a (s1.heap.objs.size + 1) s1.heap.objs.size, ⟨⟨.none, he⟩, hit, Nat.succ_ne_self _⟩, fun b hb => ?_, q⟩
    have e' : b = s1.heap.objs.size + 1 ∨ b = s1.heap.objs.size := by simpa using hb
    have hle : s1.heap.objs.size ≤ b := by
      rcases e' with z | z
      · rw [z]; exact Nat.le_add_right _ _
      · rw [z]; exact Nat.le_refl _
    exact I1.fpOk hle (I1.hok.fresh hle)
end L2
section
namespace Bits
open PySem PyProof.Rows
theorem bitOr_pp {x y : Int} (hx : 0 ≤ x) (hy : 0 ≤ y) : Builtin.bitOr x y = ((x.toNat ||| y.toNat : Nat) : Int) := by
  have e := nat_or_add_and x.toNat y.toNat
  rw [bitOr_and, bitAnd_pp hx hy]
  omega
end Bits
end
section
namespace TL
open PySem PySem.Builtin PySem.Builtin.Str PySem.StrLaws
abbrev tl (x : Str) : List Nat := x.cps.toList
theorem len_tl (x : Str) : x.length = (tl x).length := by simp [tl, Str.length]
theorem ext_tl {x y : Str} (h : tl x = tl y) : x = y := Str.ext' (Array.toList_inj.mp h)
theorem tl_append (x y : Str) : tl (x ++ y) = tl x ++ tl y := by
  show (x ++ y).cps.toList = _
  rw [Str.cps_append, Array.toList_append]
theorem map_tl_inj : ∀ {l m : List Str}, l.map tl = m.map tl → l = m
  | [], [], _ => rfl
  | [], _ :: _, h => by simp at h
  | _ :: _, [], h => by simp at h
  | x :: l, y :: m, h => by
    rw [List.map_cons, List.map_cons] at h
    injection h with h1 h2
    rw [ext_tl h1, map_tl_inj h2]
theorem tl_ofString (s : String) : tl (Str.ofString s) = s.toList.map Char.toNat := PyProof.Rows.signs_ofString s
def pre (S l : List Nat) : Bool := l.take S.length == S
def spl (S : List Nat) : Nat → List Nat → List Nat → List (List Nat)
  | _, acc, [] => [acc]
  | 0, acc, c :: r => if pre S (c :: r) = true then acc :: spl S (S.length - 1) [] r else spl S 0 (acc ++ [c]) r
  | k + 1, acc, _ :: r => spl S k acc r
theorem spl_nil (S : List Nat) (k : Nat) (acc : List Nat) : spl S k acc [] = [acc] := by cases k <;> rfl
theorem spl_hit {S acc r : List Nat} {c : Nat} (h : pre S (c :: r) = true) : spl S 0 acc (c :: r) = acc :: spl S (S.length - 1) [] r := by
  show (if pre S (c :: r) = true then acc :: spl S (S.length - 1) [] r else spl S 0 (acc ++ [c]) r) = _
  rw [if_pos h]
theorem spl_miss {S acc r : List Nat} {c : Nat} (h : pre S (c :: r) = false) : spl S 0 acc (c :: r) = spl S 0 (acc ++ [c]) r := by
  show (if pre S (c :: r) = true then acc :: spl S (S.length - 1) [] r else spl S 0 (acc ++ [c]) r) = _
  rw [if_neg (by rw [h]; exact Bool.false_ne_true)]
theorem spl_pass (S : List Nat) : ∀ (k : Nat) (acc l : List Nat), spl S k acc l = spl S 0 acc (l.drop k)
  | 0, _, _ => by rw [List.drop_zero]
  | k + 1, acc, [] => by rw [List.drop_nil, spl_nil, spl_nil]
  | k + 1, acc, c :: r => by
    show spl S k acc r = spl S 0 acc (r.drop k)
    exact spl_pass S k acc r
theorem pre_nil {S : List Nat} (hS : S ≠ []) : pre S [] = false := by
  cases S with
  | nil => exact absurd rfl hS
  | cons s S => rfl
theorem getElem_drop_cons {L : List Nat} {a : Nat} (h : a < L.length) : ∃ c, L.drop a = c :: L.drop (a + 1) := ⟨L[a], List.drop_eq_getElem_cons h⟩
theorem spl_run (S L : List Nat) : ∀ (m a : Nat) (acc : List Nat), a + m ≤ L.length → (∀ k, a ≤ k → k < a + m → pre S (L.drop k) = false) →
    spl S 0 acc (L.drop a) = spl S 0 (acc ++ (L.drop a).take m) (L.drop (a + m))
  | 0, a, acc, _, _ => by rw [List.take_zero, List.append_nil, Nat.add_zero]
  | m + 1, a, acc, h, hn => by
    have hlt : a < L.length := by omega
    obtain ⟨c, e⟩ := getElem_drop_cons hlt
    have h0 := hn a (Nat.le_refl _) (by omega)
    have ih := spl_run S L m (a + 1) (acc ++ [c]) (by omega) (fun k h1 h2 => hn k (by omega) (by omega))
    have e2 : a + 1 + m = a + (m + 1) := by omega
    rw [e2] at ih
    rw [e] at h0
    rw [e, spl_miss h0, ih, List.take_succ_cons, List.append_assoc] <;> rfl
theorem drop_two (L : List Nat) (a b : Nat) : (L.drop a).drop b = L.drop (a + b) := by
  first
    | rw [List.drop_drop]
    | rw [List.drop_drop, Nat.add_comm]
theorem spl_at {S L : List Nat} (hS : S ≠ []) {c : Nat} {acc : List Nat} (h : pre S (L.drop c) = true) : spl S 0 acc (L.drop c) = acc :: spl S 0 [] (L.drop (c + S.length)) := by
  rw [← drop_two]
  cases e : L.drop c with
  | nil => rw [e, pre_nil hS] at h; cases h
  | cons d r =>
    rw [e] at h
    rw [spl_hit h, spl_pass]
    cases S with
    | nil => exact absurd rfl hS
    | cons s S => rfl
theorem at_iff {x y : Str} (hy : tl y ≠ []) (i : Nat) : At x y x.length i ↔ pre (tl y) ((tl x).drop i) = true := by
  have hx := len_tl x
  have hl := len_tl y
  constructor
  · intro h
    have h2 := h.2
    rw [subAt_eq, hl] at h2
    exact h2
  · intro h
    have e : ((tl x).drop i).take (tl y).length = tl y := eq_of_beq h
    have e1 := congrArg List.length e
    rw [List.length_take, List.length_drop] at e1
    have e2 : 0 < (tl y).length := List.length_pos_iff.mpr hy
    refine ⟨by omega, ?_⟩
    rw [subAt_eq, hl]
    exact h
theorem no_at {x y : Str} (hy : tl y ≠ []) {i : Nat} (h : ¬ At x y x.length i) : pre (tl y) ((tl x).drop i) = false := by
  cases hp : pre (tl y) ((tl x).drop i) with
  | false => rfl
  | true => exact absurd ((at_iff hy i).mpr hp) h
theorem len1 {y : Str} (hy : tl y ≠ []) : 1 ≤ y.length := by
  have e2 : 0 < (tl y).length := List.length_pos_iff.mpr hy
  rw [len_tl y]
  exact e2
theorem tl_strSub (x : Str) (i j : Nat) : tl (strSub x i j) = ((tl x).drop i).take (j - i) := strSub_toList x i j
theorem tl_strSub_end (x : Str) (i : Nat) : tl (strSub x i x.length) = (tl x).drop i := by
  rw [tl_strSub, len_tl x]
  exact List.take_of_length_le (by rw [List.length_drop] <;> omega)
theorem parts_spl {x y : Str} (hy : tl y ≠ []) : ∀ (cuts : List Nat) (a f : Nat), a ≤ (tl x).length → ChainG x y x.length a cuts f → (∀ k, f ≤ k → ¬ At x y x.length k) →
    (partsFrom x y.length a cuts).map tl = spl (tl y) 0 [] ((tl x).drop a)
  | [], a, f, ha, h, hn => by
    have e : f = a := h
    subst e
    show [tl (strSub x f x.length)] = _
    have run := spl_run (tl y) (tl x) ((tl x).length - f) f [] (by omega) (fun k h1 _ => no_at hy (hn k h1))
    have e2 : f + ((tl x).length - f) = (tl x).length := by omega
    rw [e2, List.drop_length, spl_nil, List.nil_append, List.take_of_length_le (by rw [List.length_drop] <;> omega)] at run
    rw [run, tl_strSub_end]
  | c :: r, a, f, ha, h, hn => by
    obtain ⟨h1, h2, h3, h4⟩ := h
    have hc : c + y.length ≤ x.length := h2.1
    have hx := len_tl x
    have hl := len_tl y
    have ih := parts_spl hy r (c + y.length) f (by omega) h4 hn
    show tl (strSub x a c) :: (partsFrom x y.length (c + y.length) r).map tl = _
    have run := spl_run (tl y) (tl x) (c - a) a [] (by omega) (fun k k1 k2 => no_at hy (h3 k k1 (by omega)))
    have e2 : a + (c - a) = c := by omega
    rw [e2, List.nil_append, spl_at hy ((at_iff hy c).mp h2)] at run
    rw [run, ih, tl_strSub, hl]
theorem split_spl (x y : Str) (hy : tl y ≠ []) (hk : ¬ Builtin.Str.strKind x < Builtin.Str.strKind y) : (Txt.split x y).map tl = spl (tl y) 0 [] (tl x) := by
  obtain ⟨f, g, hn⟩ := occ_tight x y (len1 hy)
  have key := parts_spl hy _ 0 f (Nat.zero_le _) g hn
  rw [List.drop_zero] at key
  have none_case : occurrences x y 0 x.length (x.length + 1) = [] → [x].map tl = spl (tl y) 0 [] (tl x) := fun ho => by
    rw [ho] at key
    rw [← key]
    show [tl x] = [tl (strSub x 0 x.length)]
    rw [sub_whole]
  unfold Txt.split
  by_cases h1 : (decide (x.length < y.length) || decide (Builtin.Str.strKind x < Builtin.Str.strKind y)) = true
  · rw [if_pos h1]
    have hlt : x.length < y.length := by
      simp only [Bool.or_eq_true, decide_eq_true_eq] at h1
      rcases h1 with h | h
      · exact h
      · exact absurd h hk
    refine none_case ?_
    cases ho : occurrences x y 0 x.length (x.length + 1) with
    | nil => rfl
    | cons c r =>
      rw [ho] at g
      have hc : c + y.length ≤ x.length := g.2.1.1
      omega
  · rw [if_neg h1]
    by_cases h2 : (occurrences x y 0 x.length (x.length + 1)).isEmpty = true
    · rw [if_pos h2]
      exact none_case (List.isEmpty_iff.mp h2)
    · rw [if_neg h2, partsBetween_eq]
      exact key
theorem kind_ok {x y : Str} (h : y.cps.all (· < 256) = true) : ¬ Builtin.Str.strKind x < Builtin.Str.strKind y := by
  have e : Builtin.Str.strKind y = 1 := by unfold PySem.Builtin.Str.strKind; rw [if_pos h]
  rw [e]
  unfold PySem.Builtin.Str.strKind
  split
  · omega
  · split <;> omega
def joinL (S : List Nat) : List (List Nat) → List Nat
  | [] => []
  | [p] => p
  | p :: q :: r => p ++ (S ++ joinL S (q :: r))
theorem tl_join (y : Str) : ∀ parts : List Str, tl (Str.join y parts) = joinL (tl y) (parts.map tl)
  | [] => rfl
  | [_] => rfl
  | x :: z :: r => by
    show tl (x ++ y ++ Str.join y (z :: r)) = tl x ++ (tl y ++ joinL (tl y) ((z :: r).map tl))
    rw [tl_append, tl_append, tl_join y (z :: r), List.append_assoc]
theorem join_eq (y : Str) (parts : List Str) : Txt.join y parts = Str.join y parts := glued_eq_join y parts
end TL
end
namespace L2
open PySem PySem.Spec PyProof.Rows
theorem vals_strs : ∀ l : List (Str × Tok), Vals ((l.map (·.1)).map V.str) (strValues l)
  | [] => .nil
  | p :: r => .cons ⟨p.2, rfl⟩ (vals_strs r)
theorem strs_of_vals : ∀ {ys : List Str} {us : List Value}, Vals (ys.map V.str) us → StrsAre us ys
  | [], _, .nil => .nil
  | y :: ys, _, .cons r t => by
    obtain ⟨k, rfl⟩ := r
    exact .cons y k (strs_of_vals t)
def rNewStrs (ys : List Str) : Hp → VK → Prop := fun H Q => ∀ p, H p = none → Q (.ref p) (upd H p (.lst (ys.map V.str)))
section
variable {X : Cx} {pins : List (Addr × Obj)} {σ : St} {H : Hp} {s : Shared} {Q : VK}
theorem laid_strs {l : List (Str × Tok)} {ys : List Str} {k : Nat} (I : Inv X pins σ H s) (e : l.map (·.1) = ys) (hz : ys.length ≤ sizeLine) (h : rNewStrs ys H Q) :
    EP X pins σ Q (.ref s.heap.objs.size) { s with toks := k, heap := s.heap.push { cls := .type "list", data := .seq (strValues l).toArray } } := by
  have hp := I.hok.fresh (Nat.le_refl _)
  refine ⟨.ref s.heap.objs.size, upd H s.heap.objs.size (.lst (ys.map V.str)), I.laid (fun b u q => Heap.get?_push_of_some _ q) (Nat.le_refl _) ⟨by rw [List.length_map]; exact hz, strValues l, _, ?_, Heap.get?_push_size _ rfl⟩, rfl, h _ hp⟩
  rw [← e]
  exact vals_strs l
end
section
variable {X : Cx}
theorem mt_split : MtR X "str.split" (fun x xs H Q => ∃ a b, x = .str a ∧ xs = [.str b] ∧ (b.length == 0) = false ∧ a.length + 2 ≤ sizeLine ∧ rNewStrs (Txt.split a b) H Q) := by
  intro pins s σ H x xs v us Q I rx rs h
  obtain ⟨a, b, rfl, rfl, hb, hz, h⟩ := h
  obtain ⟨t, rfl⟩ := rx
  cases rs with
  | cons r1 rs =>
    cases rs
    obtain ⟨u, rfl⟩ := r1
    have hl : (Txt.split a b).length ≤ sizeLine := Nat.le_trans (PyProof.Rows.split_le a b) hz
    have hn : (Builtin.Str.partsBetween a (Builtin.Str.occurrences a b 0 a.length (a.length + 1)) b.length).length ≤ sizeLine := by
      have e1 := StrLaws.occ_length_le a b 0 a.length (a.length + 1)
      rw [length_partsBetween]; omega
    cases h1 : (decide (a.length < b.length) || decide (Builtin.Str.strKind a < Builtin.Str.strKind b))
    · cases hf : (Builtin.Str.occurrences a b 0 a.length (a.length + 1)).isEmpty
      · refine call_meets F.slot_str_split (typeIs_str _ _ _) F.entry_str_split (F.args_str_split_2 _ _) (meets_str_split_sep a b t u h1 hb hf (by omega) hn) ?_
        show EP X pins σ Q (.ref s.heap.objs.size) { s with toks := _, heap := s.heap.push { cls := .type "list", data := .seq (strsFrom s.toks (Builtin.Str.partsBetween a (Builtin.Str.occurrences a b 0 a.length (a.length + 1)) b.length)).toArray } }
        rw [strsFrom_eq]
        exact laid_strs (ys := Txt.split a b) I ((numbered_texts _ _).trans ((if_neg (ne_true_of_eq_false h1)).trans (if_neg (ne_true_of_eq_false hf))).symm) hl h
      · refine call_meets F.slot_str_split (typeIs_str _ _ _) F.entry_str_split (F.args_str_split_2 _ _) (meets_str_split_not_found a b t u h1 hb hf) ?_
        exact laid_strs (l := [(a, t)]) (ys := Txt.split a b) (k := s.toks) I ((if_neg (ne_true_of_eq_false h1)).trans (if_pos hf)).symm hl h
    · refine call_meets F.slot_str_split (typeIs_str _ _ _) F.entry_str_split (F.args_str_split_2 _ _) (meets_str_split_cannot_occur a b t u h1) ?_
      exact laid_strs (l := [(a, t)]) (ys := Txt.split a b) (k := s.toks) I (if_pos h1).symm hl h
theorem mt_join : MtR X "str.join" (fun x xs H Q => ∃ a p, ∃ ys : List Str, x = .str a ∧ xs = [.ref p] ∧ (SqL X.K H p (ys.map V.str) ∨ SqT X.K H p (ys.map V.str)) ∧
    (ys.map (·.length)).sum + ys.length * a.length ≤ 16777216 ∧ Q (.str (Txt.join a ys)) H) := by
  intro pins s σ H x xs v us Q I rx rs h
  obtain ⟨a, p, ys, rfl, rfl, hp, hz, h⟩ := h
  obtain ⟨t, rfl⟩ := rx
  cases rs with
  | cons r1 rs =>
    cases rs
    cases r1
    rcases hp with hp | hp
    · obtain ⟨its, r, ⟨o, n, ho, hc, _, hd⟩, _⟩ := I.list hp
      exact PyProof.Rows.join_list (items := its.toArray) ⟨o, ho, hc, n, hd⟩ (by rw [List.toList_toArray]; exact strs_of_vals r) hz fun t' k => ⟨.str _, H, I.tok k, ⟨t', rfl⟩, h⟩
    · obtain ⟨its, r, ht, _⟩ := I.tuple hp
      exact PyProof.Rows.join_tuple (items := its.toArray) ht (by rw [List.toList_toArray]; exact strs_of_vals r) hz fun t' k => ⟨.str _, H, I.tok k, ⟨t', rfl⟩, h⟩
theorem mt1 {id : String} {g : Str → Str → V} (rule : ∀ (a b : Str) (t u : Tok) (s : Shared) (Q : Value → Shared → Prop), (∀ (v : Value) (k : Nat), RelV (g a b) v → Q v { s with toks := k }) →
    wpAny (model X.prog X.w) X.A (call (.builtin id) [.str a t, .str b u]) Q X.xe s) : MtR X id (fun x xs H Q => ∃ a b, x = .str a ∧ xs = [.str b] ∧ Q (g a b) H) := by
  intro pins s σ H x xs v us Q I rx rs h
  obtain ⟨a, b, rfl, rfl, h⟩ := h
  obtain ⟨t, rfl⟩ := rx
  cases rs with
  | cons r1 rs =>
    cases rs
    obtain ⟨u, rfl⟩ := r1
    exact rule a b t u s _ fun v k r => ⟨g a b, H, I.tok k, r, h⟩
theorem mt_startswith : MtR X "str.startswith" (fun x xs H Q => ∃ a b, x = .str a ∧ xs = [.str b] ∧ Q (.bl (Txt.startswith a b)) H) :=
  mt1 (g := fun a b => .bl (Txt.startswith a b)) fun _ _ _ _ s _ h => PySem.SC.startswith (h _ s.toks rfl)
theorem mt_endswith : MtR X "str.endswith" (fun x xs H Q => ∃ a b, x = .str a ∧ xs = [.str b] ∧ Q (.bl (Txt.endswith a b)) H) :=
  mt1 (g := fun a b => .bl (Txt.endswith a b)) fun _ _ _ _ s _ h => PySem.SC.endswith (h _ s.toks rfl)
end
section
variable {X : Cx} {o e : Expr} {to te : TE}
def tM1 (r : V → List V → Hp → VK → Prop) (to te : TE) : TE := fun σ H Q => to σ H fun x H1 => (∃ a, x = .str a) ∧ te σ H1 fun y H2 => r x [y] H2 Q
theorem pe_m1 {id : String} {name : Str} {apos pos : Pos} {r : V → List V → Hp → VK → Prop} (slot : Slot "str" name id) (ty : typeOf (.builtin id) = pure (.type "method_descriptor")) (rule : MtR X id r) (ho : PE X o to) (he : PE X e te)
    (hs : starEach [e] X.env = [(false, eval e X.env)] := by rfl) (hbase : attributeBase o name X.env (eval o X.env) = eval o X.env := by rfl) (hline : (apos.endLine == pos.line) = true := by rfl) :
    PE X (.Call (.Attribute o name apos) [e] [] pos) (tM1 r to te) := by
  intro pins s σ H Q I h
  refine PySem.Call_method1 hbase hs hline (thn (ho pins s σ H _ I h) fun v s1 ⟨x, H1, I1, r1, q1⟩ => ?_)
  obtain ⟨⟨a, rfl⟩, q1⟩ := q1
  obtain ⟨t, rfl⟩ := _root_.id r1
  refine ⟨"str", _, F.plainAttrs_str, slot, ty, typeIs_str _ _ _, (fun _ e => nomatch e), Calls.callWith_builtin rfl (Calls.evalArgs_plain (Calls.spliced_cons ?_))⟩
  exact thn (he pins s1 σ H1 _ I1 q1) fun u s2 ⟨y, H2, I2, r2, q2⟩ => Calls.spliced_nil (rule pins s2 σ H2 _ [y] _ [u] Q I2 r1 (.cons r2 .nil) q2)
theorem pe_split {apos pos : Pos} (ho : PE X o to) (he : PE X e te) (hs : starEach [e] X.env = [(false, eval e X.env)] := by rfl) (hbase : attributeBase o "split" X.env (eval o X.env) = eval o X.env := by rfl) (hline : (apos.endLine == pos.line) = true := by rfl) :
    PE X (.Call (.Attribute o "split" apos) [e] [] pos) (tM1 (fun x xs H Q => ∃ a b, x = .str a ∧ xs = [.str b] ∧ (b.length == 0) = false ∧ a.length + 2 ≤ sizeLine ∧ rNewStrs (Txt.split a b) H Q) to te) :=
  pe_m1 F.slot_str_split F.type_str_split mt_split ho he hs hbase hline
theorem pe_join {apos pos : Pos} (ho : PE X o to) (he : PE X e te) (hs : starEach [e] X.env = [(false, eval e X.env)] := by rfl) (hbase : attributeBase o "join" X.env (eval o X.env) = eval o X.env := by rfl) (hline : (apos.endLine == pos.line) = true := by rfl) :
    PE X (.Call (.Attribute o "join" apos) [e] [] pos) (tM1 (fun x xs H Q => ∃ a p, ∃ ys : List Str, x = .str a ∧ xs = [.ref p] ∧ (SqL X.K H p (ys.map V.str) ∨ SqT X.K H p (ys.map V.str)) ∧
      (ys.map (·.length)).sum + ys.length * a.length ≤ 16777216 ∧ Q (.str (Txt.join a ys)) H) to te) :=
  pe_m1 F.slot_str_join F.type_str_join mt_join ho he hs hbase hline
end
end L2
namespace L2
open PySem PySem.Spec PyProof.Rows
section
variable {X : Cx}
theorem op_in_sign : OpR X (compareOp .In) (fun x y H Q => ∃ (c : Nat) (z : Str), x = .str ⟨#[c]⟩ ∧ y = .str z ∧ Q (.bl (decide (c ∈ z.cps.toList))) H) := by
  intro pins s σ H x y v u Q I rx ry h
  obtain ⟨c, z, rfl, rfl, q⟩ := h
  obtain ⟨t, rfl⟩ := rx
  obtain ⟨t', rfl⟩ := ry
  exact PyProof.Rows.in_str (fin_bl I q (PySem.StrLaws.found_one z c).symm)
theorem op_notIn_sign : OpR X (compareOp .NotIn) (fun x y H Q => ∃ (c : Nat) (z : Str), x = .str ⟨#[c]⟩ ∧ y = .str z ∧ Q (.bl (!decide (c ∈ z.cps.toList))) H) := by
  intro pins s σ H x y v u Q I rx ry h
  obtain ⟨c, z, rfl, rfl, q⟩ := h
  obtain ⟨t, rfl⟩ := rx
  obtain ⟨t', rfl⟩ := ry
  exact PyProof.Rows.notIn_str (fin_bl I q (congrArg Bool.not (PySem.StrLaws.found_one z c).symm))
end
theorem IsPart.raw {v : Value} {o : Option Int} (p : IsPart v o) : ∃ l : Option (Int × Tok), v = partValue l ∧ l.map (·.1) = o := by
  cases p with
  | none => exact ⟨none, rfl, rfl⟩
  | int i t => exact ⟨some (i, t), rfl, rfl⟩
def clipS (n d : Nat) : Option Int → Int
  | none => (d : Int)
  | some i => max 0 (min (if i < 0 then i + (n : Int) else i) (n : Int))
theorem clipS_eq (n d : Nat) (o : Option Int) : clipS n d o = ((HT.sIx n d o : Nat) : Int) := by
  cases o with
  | none => rfl
  | some v =>
    show max (0 : Int) (min (if v < 0 then v + (n : Int) else v) (n : Int)) = (((if v < 0 then (v + (n : Int)).toNat else min v.toNat n) : Nat) : Int)
    by_cases hv : v < 0
    · simp only [if_pos hv]
      omega
    · simp only [if_neg hv]
      omega
theorem sidx_clip (a b : Option Int) (n : Nat) : Builtin.Str.strSliceIndices a b 1 n = sliceRange (clipS n 0 a) (clipS n n b) 1 := by
  have h1 : ((1 : Int) > 0) = True := by simp
  cases a <;> cases b <;> first
    | rfl
    | (simp only [Builtin.Str.strSliceIndices, clipS, h1, if_true]; rfl)
    | simp [Builtin.Str.strSliceIndices, clipS]
theorem sidx (a b : Option Int) (n : Nat) : Builtin.Str.strSliceIndices a b 1 n = (List.range (HT.sIx n n b - HT.sIx n 0 a)).map (fun k => HT.sIx n 0 a + k) := by
  rw [sidx_clip, clipS_eq, clipS_eq]
  generalize HT.sIx n 0 a = p
  generalize HT.sIx n n b = q
  simp only [sliceRange, show ((1 : Int) > 0) = True from by simp, if_true]
  by_cases hlt : (p : Int) < q
  · have e3 : (((q : Int) - p + 1 - 1) / 1).toNat = q - p := by first | omega | (simp; done) | (simp; omega)
    simp only [hlt, if_true, e3]
    refine List.map_congr_left fun k _ => ?_
    omega
  · have : q - p = 0 := by omega
    simp [hlt, this]
def cutS (z : Str) (lo hi : Option Int) : Str :=
  ⟨((z.cps.toList.drop (HT.sIx z.length 0 lo)).take (HT.sIx z.length z.length hi - HT.sIx z.length 0 lo)).toArray⟩
theorem sliceText_cut (z : Str) (lo hi : Option Int) : PySem.StrLaws.sliceText z lo hi = cutS z lo hi := by
  have h1 : HT.sIx z.length 0 lo ≤ z.length := HT.sIx_le _ _ (Nat.zero_le _) _
  have h2 : HT.sIx z.length z.length hi ≤ z.length := HT.sIx_le _ _ (Nat.le_refl _) _
  have hp : HT.sIx z.length 0 lo ≤ max (HT.sIx z.length 0 lo) (HT.sIx z.length z.length hi) := Nat.le_max_left _ _
  have hq : max (HT.sIx z.length 0 lo) (HT.sIx z.length z.length hi) ≤ z.length := Nat.max_le.mpr ⟨h1, h2⟩
  have hd : max (HT.sIx z.length 0 lo) (HT.sIx z.length z.length hi) - HT.sIx z.length 0 lo = HT.sIx z.length z.length hi - HT.sIx z.length 0 lo := by omega
  have e : Builtin.Str.strSliceIndices lo hi 1 z.length =
      Builtin.Str.strSliceIndices (some ((HT.sIx z.length 0 lo : Nat) : Int)) (some ((max (HT.sIx z.length 0 lo) (HT.sIx z.length z.length hi) : Nat) : Int)) 1 z.length := by
    rw [PySem.StrLaws.strSliceIndices_plain hp hq, hd, sidx]
  have e2 : PySem.StrLaws.sliceText z lo hi =
      PySem.StrLaws.sliceText z (some ((HT.sIx z.length 0 lo : Nat) : Int)) (some ((max (HT.sIx z.length 0 lo) (HT.sIx z.length z.length hi) : Nat) : Int)) := by
    unfold PySem.StrLaws.sliceText
    rw [e]
  rw [e2, PySem.StrLaws.sliceText_nat z hp hq, hd]
  rfl
theorem cutS_length (z : Str) (lo hi : Option Int) : (cutS z lo hi).length ≤ z.length := by
  show (((z.cps.toList.drop (HT.sIx z.length 0 lo)).take (HT.sIx z.length z.length hi - HT.sIx z.length 0 lo)).toArray).size ≤ z.cps.size
  rw [List.size_toArray, List.length_take, List.length_drop, Array.length_toList]
  omega
def rSlS : V → Option Int → Option Int → Hp → VK → Prop := fun x lo hi H Q => ∃ z, x = .str z ∧ z.length ≤ sizeLine ∧ Q (.str (cutS z lo hi)) H
theorem sl_str {X : Cx} : SlR X rSlS := by
  intro pins s σ H x v vl vu lo hi sl Q I rx hs pl pu h
  obtain ⟨z, rfl, hz, q⟩ := h
  obtain ⟨t, rfl⟩ := rx
  obtain ⟨os, hos, hcs, hds⟩ := hs
  obtain ⟨l, rfl, rfl⟩ := IsPart.raw pl
  obtain ⟨u, rfl, rfl⟩ := IsPart.raw pu
  refine ⟨"str", _, F.slot_str_getitem.lookup, typeIs_str _ _ _, ?_⟩
  refine wpAny_getItem_str_slice (l := l) (u := u) (st := none) ⟨os, hos, hcs, hds⟩ rfl ?_
  have hl : (PySem.StrLaws.sliceText z (l.map (·.1)) (u.map (·.1))).length ≤ sizeLine := by
    rw [sliceText_cut]
    exact Nat.le_trans (cutS_length z _ _) hz
  rw [← sliceText_cut] at q
  unfold PySem.StrLaws.sliceText at q hl
  show Made.post (if ((1 : Int) == 1 && (Builtin.Str.strSliceIndices (l.map (·.1)) (u.map (·.1)) 1 z.length).length == z.length) = true then Made.val (.str z t)
    else Made.str ⟨((Builtin.Str.strSliceIndices (l.map (·.1)) (u.map (·.1)) 1 z.length).filterMap (z.cps[·]?)).toArray⟩) (EP X pins σ Q) s
  by_cases c : ((1 : Int) == 1 && (Builtin.Str.strSliceIndices (l.map (·.1)) (u.map (·.1)) 1 z.length).length == z.length) = true
  · rw [if_pos c] at q ⊢
    exact ⟨.str z, H, I, ⟨t, rfl⟩, q⟩
  · rw [if_neg c] at q hl ⊢
    exact ⟨hl, .str _, H, I.tok _, ⟨_, rfl⟩, q⟩
end L2
namespace Att
open PySem PySem.W PySem.Calls PyProof.Rows
theorem ints_of_wellAll {P : Params} {h : Heap} : ∀ (ns : List Int) (vs : List Value), WellAll P h vs (ns.map WData.int) → IntsAre vs ns := by
  intro ns
  induction ns with
  | nil =>
    intro vs w
    rw [List.map_nil] at w
    cases w
    exact .nil
  | cons n ns ih =>
    intro vs w
    rw [List.map_cons] at w
    cases w with
    | cons a b =>
      cases a
      exact .cons _ _ (ih _ b)
section
variable {prog : Program} {w : World} {A : Around} {E : Value → Shared → Prop} {s : Shared} {K : Frag}
end
end Att
namespace L2
open PySem PySem.Spec PyProof.Rows
theorem vals_ints : ∀ {vs : List Value} {ns : List Int}, IntsAre vs ns → Vals (ns.map V.int) vs
  | _, _, .nil => .nil
  | _, _, .cons n t h => .cons ⟨t, rfl⟩ (vals_ints h)
end L2
namespace L2
open PySem PySem.Spec PyProof.Rows
end L2
namespace L2
open PySem PySem.Spec PyProof.Rows
def inClass (s : Stmt) (j : Nat) : Stmt := match s with
  | .ClassDef _ _ _ body _ _ _ _ _ _ _ => body.getD j (.Pass ⟨0, 0, 0, 0⟩)
  | _ => .Pass ⟨0, 0, 0, 0⟩
def defArgs (s : Stmt) : Arguments := match s with
  | .FunctionDef _ a _ _ _ _ _ _ _ _ => a
  | _ => { posonlyargs := [], args := [], vararg := none, kwonlyargs := [], kw_defaults := [], kwarg := none, defaults := [] }
def defBody (s : Stmt) : List Stmt := match s with
  | .FunctionDef _ _ b _ _ _ _ _ _ _ => b
  | _ => []
def defScope (s : Stmt) : Scope := match s with
  | .FunctionDef _ _ _ _ _ _ sc _ _ _ => sc
  | _ => { kind := .function, names := [], isGenerator := false, isCoroutine := false }
abbrev CX0 : CXT := fun _ _ _ _ _ _ => False
abbrev E0 : XK := fun _ _ _ => False
theorem pass0 {X : Cx} : Passes CX0 X E0 := fun _ _ _ _ _ _ _ h => h.elim
structure Fun (K : PySem.W.Frag) (x qual : Str) (st : Stmt) (f : Addr) (fd : FuncData) : Prop where
  ex : ∃ (oc : Value) (od : Option Addr) (kV doc pm : Value) (an : Option Addr) (cdv ct : Value) (osl : Array (Option Value)),
    fd = PySem.W.fnOf x qual (defArgs st) (defBody st) (defScope st) .none kV doc pm an cdv ct ∧ K.lookup f = some ⟨oc, od, .func fd, osl⟩ ∧ PySem.W.codeIn K cdv qual = true
  kp : PySem.W.keepIn K (.ref f) = true
section
variable {P : Program} {w : World} {K : PySem.W.Frag} {mg : Str → Option Value} {base : Heap}
theorem Fun.ok {x qual : Str} {st : Stmt} {f : Addr} {fd : FuncData} {N ps : List Str} {k : Nat} {sp : Sp} (F : Fun K x qual st f fd) (S : FnScope N ps (defScope st)) (len : ∀ vs H Q E, sp vs H Q E → vs.length = ps.length)
    (hbody : ∀ (cdv : Value) (A : Around) (outer : List Env) (s : Shared) (H : Hp) (vs : List V) (Q : VK) (E : XK), Room k (A.deeper (envOfC qual (defScope st) s.heap.objs.size f cdv)) → sp vs H Q E →
      ∃ t, PSs (cxOf CX0 P w K mg base N qual (defScope st) f cdv A outer s H E).nox (defBody st) t ∧ t { nx := fun _ H' => Q .non H', rt := Q } (start N vs) H) : FnOk P w K mg base CX0 (k + 1) f fd ps sp := by
  obtain ⟨oc, od, kV, doc, pm, an, cdv, ct, osl, rfl, lk, hcd⟩ := F.ex
  refine fn_of lk hcd S len fun A outer s H vs Q E hr hsp => ?_
  obtain ⟨t, h, q⟩ := hbody cdv A outer s H vs Q E hr hsp
  exact ⟨t, h.nox, q⟩
theorem Fun.binds {x qual : Str} {st : Stmt} {f : Addr} {fd : FuncData} {ps : List Str} (F : Fun K x qual st f fd)
    (h : ∀ (kV doc pm : Value) (an : Option Addr) (cdv ct : Value) (us : List Value), us.length = ps.length → bindArgs (PySem.W.fnOf x qual (defArgs st) (defBody st) (defScope st) .none kV doc pm an cdv ct) ⟨us, []⟩ = pure (ps.zip us)) : Binds K fd ps [] := by
  obtain ⟨oc, od, kV, doc, pm, an, cdv, ct, osl, rfl, lk, hcd⟩ := F.ex
  exact .all (h kV doc pm an cdv ct)
theorem fun_mk {x qual : Str} {st : Stmt} {f : Addr} {oc : Value} {od an : Option Addr} {osl : Array (Option Value)} {kV doc pm cdv ct : Value} (l : K.lookup f = some ⟨oc, od, .func (PySem.W.fnOf x qual (defArgs st) (defBody st) (defScope st) .none kV doc pm an cdv ct), osl⟩)
    (c : PySem.W.codeIn K cdv qual = true) (k : PySem.W.keepIn K (.ref f) = true) : Fun K x qual st f (PySem.W.fnOf x qual (defArgs st) (defBody st) (defScope st) .none kV doc pm an cdv ct) := ⟨⟨oc, od, kV, doc, pm, an, cdv, ct, osl, rfl, l, c⟩, k⟩
end
theorem hu_of {A : Around} {k : Nat} (hr : Room k A) : A.units + 1 < cLine := Nat.lt_of_le_of_lt (Nat.add_le_add_left (by decide : 1 ≤ 64) _) hr.units
theorem small1000 {n : Nat} (h : n ≤ 1000) : n < sizeLine := Nat.lt_of_le_of_lt h (by decide)
section
variable {X : Cx}
theorem pv (i : Nat) {x : Str} {pos : Pos} (hN : X.N[i]? = some x := by rfl) (hv : Vis X.env.scope x := by first | exact Or.inl rfl | exact Or.inr (Or.inl rfl) | exact Or.inr (Or.inr rfl)) (hd : (x == ("__debug__" : Str)) = false := by decide)
    (hcd : (x == ("__classdict__" : Str)) = false := by decide) : PE X (.Name x pos) (tVar i) := pe_var hN hv hd hcd
theorem call_lenD : CallR X (.builtin "len") (fun xs H Q => ∃ a kvs, xs = [V.ref a] ∧ H a = some (.dK kvs) ∧ Q (.int kvs.length) H) := by
  intro pins s σ H xs us Q I r h
  obtain ⟨a, kvs, rfl, ha, q⟩ := h
  obtain ⟨u, rfl, ru⟩ := vals1 r
  cases ru
  exact d_len I (.inl ha) fun t s' I' => ⟨.int kvs.length, H, I', ⟨t, rfl⟩, q⟩
end
theorem iteF {A B : Prop} (h : B) : if false = true then A else B := by
  rw [if_neg Bool.false_ne_true]
  exact h
theorem iteT {A B : Prop} (h : A) : if true = true then A else B := by
  rw [if_pos rfl]
  exact h
theorem ite2 {c A B : Prop} [Decidable c] (h1 : c → A) (h2 : ¬ c → B) : if c then A else B := by
  by_cases h : c
  · rw [if_pos h]
    exact h1 h
  · rw [if_neg h]
    exact h2 h
def Same (H H' : Hp) : Prop := ∀ b o, H b = some o → H' b = some o
theorem Same.refl (H : Hp) : Same H H := fun _ _ h => h
theorem Same.trans {H H1 H2 : Hp} (a : Same H H1) (b : Same H1 H2) : Same H H2 := fun c o h => b c o (a c o h)
theorem Same.free {H H' : Hp} (e : Same H H') {l : Addr} (h : H' l = Option.none) : H l = Option.none := by
  cases q : H l with
  | none => rfl
  | some o =>
    rw [e l o q] at h
    cases h
theorem Same.seq {K : PySem.W.Frag} {H H' : Hp} {a : Addr} {xs : List V} (e : Same H H') (h : SqL K H a xs) : SqL K H' a xs := by
  rcases h with (h | ⟨o, h⟩) | h
  · exact .inl (.inl (e _ _ h))
  · exact .inl (.inr ⟨o, e _ _ h⟩)
  · exact .inr h
section
variable {κ : Type} [DecidableEq κ]
theorem valV_not {kvs : List (κ × V)} {k : κ} (h : valV kvs k = none) : ¬ k ∈ kvs.map (·.1) := by
  intro m
  obtain ⟨p, hp, e⟩ := List.mem_map.mp m
  have q : (kvs.any fun kv => decide (kv.1 = k)) = true := List.any_eq_true.mpr ⟨p, hp, decide_eq_true e⟩
  rw [valV_any, h] at q
  exact absurd q (by simp)
theorem valV_in {kvs : List (κ × V)} {k : κ} {v : V} (h : valV kvs k = some v) : k ∈ kvs.map (·.1) := by
  have q : (kvs.any fun kv => decide (kv.1 = k)) = true := by
    rw [valV_any, h]
    all_goals rfl
  obtain ⟨p, hp, e⟩ := List.any_eq_true.mp q
  exact List.mem_map.mpr ⟨p, hp, of_decide_eq_true e⟩
end
theorem nd_ix {α : Type} {l : List α} (hN : l.Nodup) {i j : Nat} {x : α} (a : l[i]? = some x) (b : l[j]? = some x) : i = j := by
  obtain ⟨h1, e1⟩ := List.getElem?_eq_some_iff.mp a
  obtain ⟨h2, e2⟩ := List.getElem?_eq_some_iff.mp b
  exact (List.getElem_inj hN).mp (e1.trans e2.symm)
end L2
end J0_
section J1_
namespace L2.JX
open PySem PySem.Spec PyProof.Rows L2
theorem vals_at : ∀ {xs : List V} {us : List Value}, xs.length = us.length → (∀ (i : Nat) (x : V) (u : Value), xs[i]? = some x → us[i]? = some u → RelV x u) → Vals xs us
  | [], [], _, _ => .nil
  | [], _ :: _, h, _ => by simp at h
  | _ :: _, [], h, _ => by simp at h
  | x :: xs, u :: us, h, f => .cons (f 0 x u rfl rfl) (vals_at (by simpa using h) fun i y v h1 h2 => f (i + 1) y v (by simpa using h1) (by simpa using h2))
section
variable {X : Cx}
theorem keys_vals {P : Program} {w : World} {kvs : List (Key × V)} {vs : List (Key × Value)} (rel : KV kvs vs) {acc : Array Value} (hacc : ItemsOf (fun i v => ∃ k x, vs[i]? = some (k, x) ∧ (mixKind P w).is k v = true) acc vs.length) :
    Vals (kvs.map fun kv => kV kv.1) acc.toList := by
  obtain ⟨h1, h2⟩ := hacc
  have hln : (kvs.map fun kv => kV kv.1).length = acc.toList.length := by
    have hr := rel.length
    simp only [List.length_map, Array.length_toList, h1]; exact hr
  refine vals_at hln fun i x u hx hu => ?_
  obtain ⟨k, y, hk, hi⟩ := h2 i u (by rw [← Array.getElem?_toList]; exact hu)
  rw [List.getElem?_map] at hx
  cases e : kvs[i]? with
  | none => rw [e] at hx; cases hx
  | some p =>
    rw [e] at hx
    obtain ⟨k', v'⟩ := p
    obtain ⟨u', h3, _⟩ := kv_get rel e
    rw [hk] at h3
    cases h3
    cases hx
    exact relV_key hi
theorem cr_listD (hc : X.calm = true) : CallR X (.type "list") (fun xs H Q => ∃ a kvs, xs = [V.ref a] ∧ H a = some (.dK kvs) ∧ ∀ l, H l = none → Q (.ref l) (upd H l (.lst (kvs.map fun kv => kV kv.1)))) := by
  intro pins s σ H xs us Q I r h
  obtain ⟨a, kvs, rfl, ha, q⟩ := h
  rw [Vals.ref1 r]
  obtain ⟨hz, hsm, vs, rel, dd⟩ := dk_of I.hok ha
  obtain ⟨ep, hat⟩ := dd.dictAt
  refine PySem.W.kdl_call (PySem.W.kdl_dict (knd := mixKind X.prog X.w) (kvs := vs) (ep := ep) hsm) (I.ok.hd hc) hat (by rw [← rel.length]; exact hz) fun h' tk acc c' hk hS hacc => ?_
  refine ⟨.ref _, upd H s.heap.objs.size (.lst (kvs.map fun kv => kV kv.1)), I.laid (t' := tk) hk (Nat.le_refl _) ⟨by rw [List.length_map]; exact hz, acc.toList, c', keys_vals rel hacc, ?_⟩, rfl, q _ (I.hok.fresh (Nat.le_refl _))⟩
  rw [Array.toArray_toList]; exact hS
theorem collect_of {prog : Program} {w : World} {A : Around} {E : Value → Shared → Prop} {s : Shared} {T : String} {r d : Addr} {n : Nat} {Pi : Nat → Value → Prop} {OK : Heap → Prop} {R : List Value → Shared → Prop} (S : PySem.W.KdlSrc prog w T r d n Pi OK) (hh : A.handled = none) (hok : OK s.heap) (hn : n ≤ sizeLine)
    (h : ∀ (h' : Heap) (tk : Nat) (acc : Array Value), (∀ b o, s.heap.get? b = some o → h'.get? b = some o) → s.heap.objs.size < h'.objs.size → ItemsOf Pi acc n → R acc.toList { s with heap := h', toks := tk }) : wpAny (model prog w) A (collect (.ref r)) R E s := by
  have lt := S.there _ hok
  unfold collect
  refine wpAny_bind (wpAny_runValue (codeAny_builtin entry_proto_collect' ?_)); rw [Around.under_plainId PySem.F.plain_proto_collect _]
  refine wpAny_bind (m := newList []) (wpAny_newObj_type ?_)
  refine wpAny_pure ⟨plainId_quiet PySem.F.plain_list_iadd _, codeAny_builtin entry_list_iadd' ?_⟩; rw [Around.under_plainId PySem.F.plain_list_iadd _]
  have new : (s.heap.push { cls := .type "list", data := .seq ([] : List Value).toArray }).get? s.heap.objs.size = some { cls := .type "list", data := .seq #[] } := Heap.get?_push_size _ rfl
  have key := PySem.W.kdl_extend (A := A) (s := { s with heap := s.heap.push { cls := .type "list", data := .seq ([] : List Value).toArray } }) (R := fun (q : Result) (s' : Shared) => ∃ (h' : Heap) (tk : Nat) (acc : Array Value) (c : Nat), q = .ok (.ret (.ref s.heap.objs.size)) ∧ s' = { s with heap := h', toks := tk } ∧
      (∀ b o, s.heap.get? b = some o → h'.get? b = some o) ∧ h'.get? s.heap.objs.size = some { cls := .type "list", dict := none, data := .seq acc c, slots := #[] } ∧ ItemsOf Pi acc n)
    S hh (S.keep _ _ hok fun b _ o e => Heap.get?_push_of_some _ e) s.heap.objs.size (Nat.ne_of_gt lt.1) (Nat.ne_of_gt lt.2) (.ref s.heap.objs.size) 0 new
    (fun h' tk acc c hk hS ha => ⟨h', tk, acc, c, rfl, rfl, fun b o e => hk b o (Nat.ne_of_lt (Heap.lt_size e)) (Heap.get?_push_of_some _ e), hS, ha⟩) hn
  refine wpAny_mono key (fun fin s' x => ?_) fun e s' x => by obtain ⟨_, _, _, _, z, _⟩ := x; cases z
  cases fin with
  | done f =>
    obtain ⟨h', tk, acc, c, z, rfl, hk, hS, ha⟩ := x
    cases z
    exact wpAny_bind (m := load s.heap.objs.size) (wpAny_load hS (wpAny_pure (h h' tk acc hk (Heap.lt_size hS) ha)))
  | again c1 =>
    refine ⟨x.1, codeAny_mono x.2 fun q s2 y => ?_⟩
    obtain ⟨h', tk, acc, c, rfl, rfl, hk, hS, ha⟩ := y
    exact wpAny_bind (m := load s.heap.objs.size) (wpAny_load hS (wpAny_pure (h h' tk acc hk (Heap.lt_size hS) ha)))
theorem cr_sortedD (hc : X.calm = true) : CallR X (.builtin "sorted") (fun xs H Q => ∃ a kvs, ∃ ks : List Str, xs = [V.ref a] ∧ H a = some (.dK kvs) ∧ kvs.map (·.1) = ks.map (Sum.inr : Str → Key) ∧
    ∀ (ys : List Str) (p : Addr), ys.Perm ks → sortedS ys = true → H p = none → Q (.ref p) (upd H p (.lst (ys.map V.str)))) := by
  intro pins s σ H xs us Q I r h
  obtain ⟨a, kvs, ks, rfl, ha, hks, q⟩ := h
  rw [Vals.ref1 r]
  obtain ⟨hz, hsm, vs, rel, dd⟩ := dk_of I.hok ha
  obtain ⟨ep, hat⟩ := dd.dictAt
  refine Calls.call_function_entry kind_sorted plain_sorted entry_sorted (args_sorted1 _) ?_
  unfold Builtin.«sorted»
  refine wpAny_bind (m := checkCount "sorted" 1 1 _) (wpAny_pure ?_)
  refine wpAny_bind (collect_of (A := X.A.in1) (PySem.W.kdl_dict (knd := mixKind X.prog X.w) (kvs := vs) (ep := ep) hsm) (I.ok.hd hc) hat (by rw [← rel.length]; exact hz) fun h' tk acc hk hsz hacc => ?_)
  have rv := keys_vals rel hacc
  have el : (kvs.map fun kv => kV kv.1) = ks.map V.str := by
    have e1 : (kvs.map fun kv => kV kv.1) = (kvs.map (·.1)).map kV := by rw [List.map_map]; rfl
    rw [e1, hks, List.map_map]; rfl
  rw [el] at rv
  have hlen : acc.toList.length = ks.length := by have := rv.length; rw [List.length_map] at this; exact this.symm
  have hkl : ks.length ≤ sizeLine := by
    have := congrArg List.length hks
    rw [List.length_map, List.length_map] at this
    omega
  have hS := rv.strs
  refine wpAny_bind (wpAny_newList ?_ (by rw [hlen]; exact hkl))
  have hoL : (h'.push { cls := .type "list", data := .seq acc.toList.toArray }).get? h'.objs.size = some (seqObj "list" acc.toList.toArray 0) := Heap.get?_push_size _ rfl
  have hT : Shared.TypeIs { s with heap := h'.push { cls := .type "list", data := .seq acc.toList.toArray }, toks := tk } (.ref h'.objs.size) "list" := ⟨_, hoL, rfl⟩
  refine wpAny_bind (wpAny_holding (wpAny_call_entry slot_list_sort hT entry_list_sort (list_sort_treeKAny strKind_oneLt hoL hS.keysOf (fun v1 v2 rest e => keyKind_strs (by rw [← e]; exact hS)) (by rw [hlen]; exact hkl) fun st' a1 a2 => ⟨_, rfl, ?_⟩) (args_list_sort _)))
  obtain ⟨ys, h1, h2, h3⟩ := sorted_out_str hS a1 a2
  refine wpAny_pure ⟨_, rfl, ?_⟩
  obtain ⟨ep', he'⟩ := sortedHeap_at (vs := acc.toList) (out := (arrOf st').map (·.2)) hoL
  have hge : s.heap.objs.size ≤ h'.objs.size := Nat.le_of_lt hsz
  refine ⟨.ref _, upd H h'.objs.size (.lst (ys.map V.str)), I.laid (t' := tk) (fun b u e => ?_) hge ⟨?_, _, ep', vals_of_strs h1, by rw [Array.toArray_toList]; exact he'⟩, rfl, q ys _ h2 h3 (I.hok.fresh hge)⟩
  · have e' := hk b u e
    have hb : b < h'.objs.size := Heap.lt_size e'
    rw [sortedHeap_old (Nat.ne_of_lt hb) (by show b < (h'.push _).objs.size; rw [Heap.size_push]; exact Nat.lt_succ_of_lt hb)]
    exact Heap.get?_push_of_some _ e'
  · rw [List.length_map, h2.length_eq]; exact hkl
end
end L2.JX
end J1_
section J2_
namespace L2.JX
open PySem PySem.Spec PyProof.Rows L2
def valsO (p d : Addr) : HO := .ext fun h => h.IsValuesView p d
section
variable {X : Cx} {e : Expr} {td : TE} {apos cpos : Pos}
theorem valsO_ok {P : Program} {w : World} {H : Hp} {h : Heap} {p d : Addr} (v : h.IsValuesView p d) : ObjOk P w H h p (valsO p d) := by
  refine ⟨v, ?_, fun h1 h2 x k => ?_⟩
  · obtain ⟨o, ho, _⟩ := v
    exact ⟨o, ho⟩
  · obtain ⟨o, ho, r⟩ := x
    exact ⟨o, k o ho, r⟩
theorem pe_values (he : PE X e td) (hbase : attributeBase e "values" X.env (eval e X.env) = eval e X.env := by rfl) (hline : (apos.endLine == cpos.line) = true := by rfl) :
    PE X (.Call (.Attribute e "values" apos) [] [] cpos) (fun σ H Q => td σ H fun x H1 => ∃ d kvs, x = .ref d ∧ H1 d = some (.dK kvs) ∧ ∀ p, H1 p = none → Q (.ref p) (upd H1 p (valsO p d))) := by
  intro pins s σ H Q I h
  refine wpAny_Call_method (T := "dict") (id := "dict.values") hbase rfl hline F.plainAttrs_dict F.slot_dict_values F.type_dict_values (thn (he pins s σ H _ I h) fun u s1 ⟨x, H1, I1, rx, d, kvs, ex, hd, q⟩ => ?_)
  subst ex
  obtain rfl : u = Value.ref d := rx
  obtain ⟨hz, hsm, vs, rel, dd⟩ := dk_of I1.hok hd
  refine ⟨dd.typeIs, dd.mapOf.noDict, ?_⟩
  show wpAny _ _ (callWith cpos (.builtin "dict.values") [.ref d] [] []) _ X.xe s1
  refine method_meetsIn F.slot_dict_values F.entry_dict_values rfl (PySem.evalArgs_none ⟨rfl, dd.typeIs, F.args_dict_values_1 _, _, meets_dict_values (mixKind X.prog X.w) d hsm, ⟨vs, dd⟩, ?_⟩)
  have hf : H1 s1.heap.objs.size = none := I1.hok.fresh (Nat.le_refl _)
  exact ⟨.ref s1.heap.objs.size, upd H1 s1.heap.objs.size (valsO s1.heap.objs.size d), I1.laid (t' := s1.toks) (fun b ob z => Heap.get?_push_of_some _ z) (Nat.le_refl _) (valsO_ok ⟨_, Heap.get?_push_size _ rfl, rfl, rfl⟩), rfl, q _ hf⟩
theorem cr_listV (hc : X.calm = true) : CallR X (.type "list") (fun xs H Q => ∃ p d kvs, xs = [V.ref p] ∧ H p = some (valsO p d) ∧ H d = some (.dK kvs) ∧ ∀ l, H l = none → Q (.ref l) (upd H l (.lst (kvs.map (·.2))))) := by
  intro pins s σ H xs us Q I r h
  obtain ⟨p, d, kvs, rfl, hp, hd, q⟩ := h
  rw [Vals.ref1 r]
  obtain ⟨hz, hsm, vs, rel, dd⟩ := dk_of I.hok hd
  obtain ⟨ep, hat⟩ := dd.dictAt
  obtain ⟨hv, _, _⟩ := I.hok p _ hp
  refine PySem.W.kdl_call (PySem.W.kdl_values (knd := mixKind X.prog X.w) (kvs := vs) (ep := ep)) (I.ok.hd hc) ⟨hv, hat⟩ (by rw [← rel.length]; exact hz) fun h' tk acc c' hk hS hacc => ?_
  refine ⟨.ref _, upd H s.heap.objs.size (.lst (kvs.map (·.2))), I.laid (t' := tk) hk (Nat.le_refl _) ⟨by rw [List.length_map]; exact hz, acc.toList, c', ?_, ?_⟩, rfl, q _ (I.hok.fresh (Nat.le_refl _))⟩
  · obtain ⟨h1, h2⟩ := hacc
    have hln : (kvs.map (·.2)).length = acc.toList.length := by
      have hr := rel.length
      simp only [List.length_map, Array.length_toList, h1]; exact hr
    refine vals_at hln fun i x u hx hu => ?_
    obtain ⟨k, hk'⟩ := h2 i u (by rw [← Array.getElem?_toList]; exact hu)
    rw [List.getElem?_map] at hx
    cases ei : kvs[i]? with
    | none => rw [ei] at hx; cases hx
    | some pr =>
      rw [ei] at hx
      obtain ⟨k', v'⟩ := pr
      obtain ⟨u', h3, h4⟩ := kv_get rel ei
      rw [hk'] at h3
      cases h3
      cases hx
      exact h4
  · rw [Array.toArray_toList]; exact hS
theorem op_inD (hu : X.A.units + 65 < cLine) : OpR X (compareOp .In) (fun x y H Q => ∃ a xs ds d, y = .ref a ∧ SqL X.K H a xs ∧ DpAll X.K H xs ds ∧ Dp X.K H x d ∧ SeqAt.shaped (.list ds) = true ∧ SeqAt.shaped d = true ∧ Q (.bl (ds.any fun e => PyData.eqv e d)) H) := by
  intro pins s σ H x y v u Q I rx ry h
  obtain ⟨a, xs, ds, d, rfl, hs, ha, hd, s1, s2, q⟩ := h
  obtain ⟨as, r1⟩ := Dp.reads I d x v hd rx
  obtain ⟨bs, r2⟩ := Dp.reads I (.list ds) (.ref a) u (.lst hs ha) ry
  exact SeqAt.in_list_reads r2 r1 (SeqAt.canLay_of_shaped s1) (SeqAt.canLay_of_shaped s2) (room_in_shaped s2 hu) ⟨.bl _, H, I, rfl, q⟩
end
def MDict (P : Program) (w : World) (K : PySem.W.Frag) (a : Addr) (kvs : List (Key × V)) : Prop := ∀ h : Heap, K.In h → (a == sysModules) = false ∧ ∃ vs, KV kvs vs ∧ h.DictOf (mixKind P w) a vs
section
variable {X : Cx} {o i : Expr} {td ty : TE} {pos : Pos}
theorem pc_min (hi : PE X i ty) (ho : PE X o td) : PC X .In i o (fun σ H Q => ty σ H fun y H1 => td σ H1 fun x H2 => ∃ a kvs k, x = .ref a ∧ MDict X.prog X.w X.K a kvs ∧ y = kV k ∧ Q (.bl (valV kvs k).isSome) H2) := by
  intro pins s σ H Q I h
  refine thn (hi pins s σ H _ I h) fun iv s1 ⟨y, H1, I1, ry, q1⟩ => thn (ho pins s1 σ H1 _ I1 q1) fun u s2 ⟨x, H2, I2, rx, a, kvs, k, ex, m, ey, q2⟩ => ?_
  subst ex
  subst ey
  obtain rfl : u = Value.ref a := rx
  obtain ⟨hsm, vs, rel, dd⟩ := m _ I2.kIn
  refine wpAny_in_of (kV_is ry) hsm dd.mapOf ?_
  rw [← (rel.val k).isSome_eq]
  exact ⟨.bl _, H2, I2.tok _, rfl, q2⟩
theorem pe_mget (ho : PE X o td) (hi : PE X i ty) (hs : NoSl i) : PE X (.Subscript o i pos) (fun σ H Q => td σ H fun x H1 => ty σ H1 fun y H2 => ∃ a kvs k v, x = .ref a ∧ MDict X.prog X.w X.K a kvs ∧ y = kV k ∧ valV kvs k = some v ∧ Q v H2) := by
  intro pins s σ H Q I h
  refine subD_of PySem.F.slot_dict_getitem.lookup hs (thn (ho pins s σ H _ I h) fun u s1 ⟨x, H1, I1, rx, q1⟩ => thn (hi pins s1 σ H1 _ I1 q1) fun iv s2 ⟨y, H2, I2, ry, a, kvs, k, v, ex, m, ey, l, q2⟩ => ?_)
  subst ex
  subst ey
  obtain rfl : u = Value.ref a := rx
  obtain ⟨hsm, vs, rel, dd⟩ := m _ I2.kIn
  refine ⟨dd.typeIs, ?_⟩
  obtain ⟨w', hw, rw'⟩ := RelO.some_of (v := v) (o := valueAt vs k) (by rw [← l]; exact rel.val k)
  exact wpAny_getItem_of (kV_is ry) dd.mapOf hw ⟨v, H2, I2.tok _, rw', q2⟩
end
section
variable {K : PySem.W.Frag} {g : TG} {tb : TS} {D : Ends} {σ : St} {H : Hp}
theorem for_str {x : Str} (Pv : Nat → St → Hp → Prop) (h0 : Pv 0 σ H)
    (hs : ∀ i c σ H, x.cps.toList[i]? = some c → Pv i σ H → g (.str ⟨#[c]⟩) σ H fun σ2 H2 => tb { D with nx := Pv (i + 1), ct := Pv (i + 1), bk := D.nx } σ2 H2) (hd : ∀ σ H, Pv x.cps.toList.length σ H → D.nx σ H) :
    ∃ W : Nat → Nat → St → Hp → Prop, (∃ m, W 0 m σ H) ∧ ∀ i m σ H, W i m σ H →
      ((Its x).stop i H ∧ D.nx σ H) ∨ ((Its x).go i H ∧ ∃ N : St → Hp → Prop, (∀ σ' H', N σ' H' → ∃ m', m' < m ∧ W (i + 1) m' σ' H') ∧ ∀ y H', (Its x).yld i H y H' → g y σ H' fun σ2 H2 => tb { D with nx := N, ct := N, bk := D.nx } σ2 H2) := by
  have hsz : x.cps.size = x.cps.toList.length := by simp
  refine ⟨fun i m σ H => m = x.cps.size - i ∧ i ≤ x.cps.size ∧ Pv i σ H, ⟨_, rfl, Nat.zero_le _, h0⟩, ?_⟩
  rintro i m σ H ⟨rfl, hi, p⟩
  by_cases hlt : i < x.cps.size
  · refine .inr ⟨hlt, Pv (i + 1), fun σ' H' p' => ⟨x.cps.size - (i + 1), by omega, rfl, hlt, p'⟩, fun y H' z => ?_⟩
    obtain ⟨e, c, hc, ey⟩ := z
    subst e; subst ey
    exact hs i c σ _ (by simpa using hc) p
  · have e : i = x.cps.size := by omega
    subst e
    exact .inl ⟨Nat.le_refl _, hd σ H (by rw [← hsz]; exact p)⟩
theorem for_enum {a : Addr} {xs : List V} (Pv : Nat → St → Hp → Prop) (h0 : Pv 0 σ H) (hl : ∀ i σ H, i ≤ xs.length → Pv i σ H → SqL K H a xs)
    (hs : ∀ i x σ H T, xs[i]? = some x → Pv i σ H → H T = none → g (.ref T) σ (upd H T (.tup [.int (i : Nat), x])) fun σ2 H2 => tb { D with nx := Pv (i + 1), ct := Pv (i + 1), bk := D.nx } σ2 H2) (hd : ∀ σ H, Pv xs.length σ H → D.nx σ H) :
    ∃ W : Nat → Nat → St → Hp → Prop, (∃ m, W 0 m σ H) ∧ ∀ i m σ H, W i m σ H →
      ((Ite K a).stop i H ∧ D.nx σ H) ∨ ((Ite K a).go i H ∧ ∃ N : St → Hp → Prop, (∀ σ' H', N σ' H' → ∃ m', m' < m ∧ W (i + 1) m' σ' H') ∧ ∀ y H', (Ite K a).yld i H y H' → g y σ H' fun σ2 H2 => tb { D with nx := N, ct := N, bk := D.nx } σ2 H2) := by
  refine ⟨fun i m σ H => m = xs.length - i ∧ i ≤ xs.length ∧ Pv i σ H, ⟨_, rfl, Nat.zero_le _, h0⟩, ?_⟩
  rintro i m σ H ⟨rfl, hi, p⟩
  have q := hl i σ H hi p
  by_cases hlt : i < xs.length
  · refine .inr ⟨⟨xs, xs[i], q, by simp [hlt]⟩, Pv (i + 1), fun σ' H' p' => ⟨xs.length - (i + 1), by omega, rfl, hlt, p'⟩, fun y H' z => ?_⟩
    obtain ⟨T, x, ey, hT, eH, hx⟩ := z
    subst ey; subst eH
    exact hs i x σ H T (hx xs q) p hT
  · have e : i = xs.length := by omega
    subst e
    exact .inl ⟨⟨xs, q, Nat.le_refl _⟩, hd σ H p⟩
end
section
variable {K : PySem.W.Frag} {g : TG} {tt : TT} {te : TE} {vs : List Nat} {σ : St} {H1 : Hp} {D : Addr} {Qd : Hp → Prop}
theorem lc_str {x : Str} (Pv : Nat → Hp → Prop) (h0 : Pv 0 (upd H1 D (.lst [])))
    (hs : ∀ i c H, x.cps.toList[i]? = some c → Pv i H → g (.str ⟨#[c]⟩) (wipe σ vs) H fun σ2 H2 => wipe σ2 vs = wipe σ vs ∧ tt σ2 H2 fun b H3 =>
      if b = true then te σ2 H3 fun y H4 => ∃ acc, H4 D = some (.lst acc) ∧ acc.length < sizeLine ∧ Pv (i + 1) (upd H4 D (.lst (acc ++ [y]))) else Pv (i + 1) H3) (hd : ∀ H, Pv x.cps.toList.length H → Qd H) :
    ∃ W : Nat → Nat → Hp → Prop, (∃ m, W 0 m (upd H1 D (.lst []))) ∧ ∀ i m H, W i m H →
      ((Its x).stop i H ∧ Qd H) ∨ ((Its x).go i H ∧ ∃ Nx : Hp → Prop, (∀ H', Nx H' → ∃ m', m' < m ∧ W (i + 1) m' H') ∧ ∀ y H', (Its x).yld i H y H' → g y (wipe σ vs) H' fun σ2 H2 => wipe σ2 vs = wipe σ vs ∧ tt σ2 H2 fun b H3 =>
        if b = true then te σ2 H3 fun y H4 => ∃ acc, H4 D = some (.lst acc) ∧ acc.length < sizeLine ∧ Nx (upd H4 D (.lst (acc ++ [y]))) else Nx H3) := by
  have hsz : x.cps.size = x.cps.toList.length := by simp
  refine ⟨fun i m H => m = x.cps.size - i ∧ i ≤ x.cps.size ∧ Pv i H, ⟨_, rfl, Nat.zero_le _, h0⟩, ?_⟩
  rintro i m H ⟨rfl, hi, p⟩
  by_cases hlt : i < x.cps.size
  · refine .inr ⟨hlt, Pv (i + 1), fun H' p' => ⟨x.cps.size - (i + 1), by omega, rfl, hlt, p'⟩, fun y H' z => ?_⟩
    obtain ⟨e, c, hc, ey⟩ := z
    subst e; subst ey
    exact hs i c _ (by simpa using hc) p
  · have e : i = x.cps.size := by omega
    subst e
    exact .inl ⟨Nat.le_refl _, hd H (by rw [← hsz]; exact p)⟩
theorem lc_enum {a : Addr} {xs : List V} (Pv : Nat → Hp → Prop) (h0 : Pv 0 (upd H1 D (.lst []))) (hl : ∀ i H, i ≤ xs.length → Pv i H → SqL K H a xs)
    (hs : ∀ i x H T, xs[i]? = some x → Pv i H → H T = none → g (.ref T) (wipe σ vs) (upd H T (.tup [.int (i : Nat), x])) fun σ2 H2 => wipe σ2 vs = wipe σ vs ∧ tt σ2 H2 fun b H3 =>
      if b = true then te σ2 H3 fun y H4 => ∃ acc, H4 D = some (.lst acc) ∧ acc.length < sizeLine ∧ Pv (i + 1) (upd H4 D (.lst (acc ++ [y]))) else Pv (i + 1) H3) (hd : ∀ H, Pv xs.length H → Qd H) :
    ∃ W : Nat → Nat → Hp → Prop, (∃ m, W 0 m (upd H1 D (.lst []))) ∧ ∀ i m H, W i m H →
      ((Ite K a).stop i H ∧ Qd H) ∨ ((Ite K a).go i H ∧ ∃ Nx : Hp → Prop, (∀ H', Nx H' → ∃ m', m' < m ∧ W (i + 1) m' H') ∧ ∀ y H', (Ite K a).yld i H y H' → g y (wipe σ vs) H' fun σ2 H2 => wipe σ2 vs = wipe σ vs ∧ tt σ2 H2 fun b H3 =>
        if b = true then te σ2 H3 fun y H4 => ∃ acc, H4 D = some (.lst acc) ∧ acc.length < sizeLine ∧ Nx (upd H4 D (.lst (acc ++ [y]))) else Nx H3) := by
  refine ⟨fun i m H => m = xs.length - i ∧ i ≤ xs.length ∧ Pv i H, ⟨_, rfl, Nat.zero_le _, h0⟩, ?_⟩
  rintro i m H ⟨rfl, hi, p⟩
  have q := hl i H hi p
  by_cases hlt : i < xs.length
  · refine .inr ⟨⟨xs, xs[i], q, by simp [hlt]⟩, Pv (i + 1), fun H' p' => ⟨xs.length - (i + 1), by omega, rfl, hlt, p'⟩, fun y H' z => ?_⟩
    obtain ⟨T, x, ey, hT, eH, hx⟩ := z
    subst ey; subst eH
    exact hs i x H T (hx xs q) p hT
  · have e : i = xs.length := by omega
    subst e
    exact .inl ⟨⟨xs, q, Nat.le_refl _⟩, hd H p⟩
end
structure Def (K : PySem.W.Frag) (mg : Str → Option Value) (x : Str) (st : Stmt) (ps : List Str) : Prop where
  ex : ∃ f fd, Fun K x x st f fd ∧ mg x = some (.ref f) ∧ Binds K fd ps []
structure Has (P : Program) (w : World) (K : PySem.W.Frag) (mg : Str → Option Value) (base : Heap) (k : Nat) (x : Str) (ps : List Str) (sp : Sp) : Prop where
  ex : ∃ f fd, mg x = some (.ref f) ∧ PySem.W.keepIn K (.ref f) = true ∧ Binds K fd ps [] ∧ FnOk P w K mg base CX0 k f fd ps sp
section
variable {P : Program} {w : World} {K : PySem.W.Frag} {mg : Str → Option Value} {base : Heap}
theorem Def.has {x : Str} {st : Stmt} {N ps : List Str} {k : Nat} {sp : Sp} (D : Def K mg x st ps) (S : FnScope N ps (defScope st)) (len : ∀ vs H Q E, sp vs H Q E → vs.length = ps.length)
    (hbody : ∀ (f : Addr) (cdv : Value) (A : Around) (outer : List Env) (s : Shared) (H : Hp) (vs : List V) (Q : VK) (E : XK), Room k (A.deeper (envOfC x (defScope st) s.heap.objs.size f cdv)) → sp vs H Q E →
      ∃ t, PSs (cxOf CX0 P w K mg base N x (defScope st) f cdv A outer s H E).nox (defBody st) t ∧ t { nx := fun _ H' => Q .non H', rt := Q } (start N vs) H) : Has P w K mg base (k + 1) x ps sp := by
  obtain ⟨f, fd, F, hm, hb⟩ := D.ex
  exact ⟨f, fd, hm, F.kp, hb, F.ok S len (hbody f)⟩
theorem Has.mono {x : Str} {ps : List Str} {j k : Nat} {sp : Sp} (h : Has P w K mg base j x ps sp) (hk : j ≤ k := by decide) : Has P w K mg base k x ps sp := by
  obtain ⟨f, fd, hm, kp, hb, F⟩ := h.ex
  exact ⟨f, fd, hm, kp, hb, F.mono hk⟩
end
section
variable {X : Cx} {k : Nat} {ps : List Str} {sp : Sp} {x : Str} {p pos : Pos} {e : Expr} {es : List Expr} {t : TA}
theorem pe_callH (h : Has X.prog X.w X.K X.mg X.base k x ps sp) (hr : Room k X.A) (ha : PA X (e :: es) t) (hg : Gl X x := by rfl) (hdb : (x == ("__debug__" : Str)) = false := by decide)
    (he : starEach (e :: es) X.env = (false, eval e X.env) :: starEach es X.env := by rfl) (hpl : (backTo pos (starEach es X.env)).any (·.1) = false := by rfl) :
    PE X (.Call (.Name x p) (e :: es) [] pos) (tCall sp [] E0 t) := by
  obtain ⟨f, fd, hm, kp, hb, F⟩ := h.ex
  exact pe_call F hr hg hm kp hb .nil pass0 ha hdb he hpl
end
end L2.JX
end J2_
section J3_
namespace L2.JX
open PySem PySem.Spec PyProof.Rows L2
def inK (l : List Key) (k : Key) : Bool := l.any fun x => decide (x = k)
theorem inK_iff (l : List Key) (k : Key) : inK l k = true ↔ k ∈ l := by
  unfold inK
  rw [List.any_eq_true]
  constructor
  · rintro ⟨x, hx, e⟩
    rw [← of_decide_eq_true e]; exact hx
  · exact fun h => ⟨k, h, decide_eq_true rfl⟩
def addK (l : List Key) (k : Key) : List Key := if inK l k = true then l else l ++ [k]
def diffK (l : List Key) : List Key := l.foldl addK []
def metK (val : Nat → Key) (i : Nat) : List Key := diffK ((List.range i).map val)
theorem metK_succ (val : Nat → Key) (i : Nat) : metK val (i + 1) = addK (metK val i) (val i) := by
  unfold metK diffK
  rw [List.range_succ, List.map_append, List.foldl_append]
  rfl
theorem addK_mem (l : List Key) (k x : Key) : x ∈ addK l k ↔ x ∈ l ∨ x = k := by
  unfold addK
  split
  · rename_i h
    constructor
    · exact .inl
    · rintro (q | rfl)
      · exact q
      · exact (inK_iff _ _).mp h
  · simp
theorem addK_in (l : List Key) (k x : Key) : inK (addK l k) x = (inK l x || decide (x = k)) := by
  rw [Bool.eq_iff_iff, inK_iff, addK_mem, Bool.or_eq_true, inK_iff, decide_eq_true_eq]
theorem addK_len (l : List Key) (k : Key) : (addK l k).length = if inK l k = true then l.length else l.length + 1 := by
  unfold addK; split <;> simp
theorem metK_le (val : Nat → Key) : ∀ i, (metK val i).length ≤ i
  | 0 => Nat.le_refl _
  | i + 1 => by
    rw [metK_succ, addK_len]
    have := metK_le val i
    split <;> omega
theorem diff_le (l : List Key) : ∀ acc : List Key, (l.foldl addK acc).length ≤ acc.length + l.length := by
  induction l with
  | nil => intro acc; exact Nat.le_refl _
  | cons a r ih =>
    intro acc
    rw [List.foldl_cons]
    have := ih (addK acc a)
    rw [addK_len] at this
    simp only [List.length_cons]
    split at this <;> omega
theorem diff_eq (l : List Key) : ∀ acc : List Key, (l.foldl addK acc).length = acc.length + l.length ↔ l.Nodup ∧ ∀ x ∈ l, x ∉ acc := by
  induction l with
  | nil => intro acc; simp
  | cons a r ih =>
    intro acc
    rw [List.foldl_cons, List.length_cons, List.nodup_cons]
    have h1 := diff_le r (addK acc a)
    have h2 := addK_len acc a
    by_cases ha : inK acc a = true
    · rw [if_pos ha] at h2
      constructor
      · intro h; omega
      · rintro ⟨_, h⟩
        exact absurd ((inK_iff _ _).mp ha) (h a List.mem_cons_self)
    · rw [if_neg ha] at h2
      have h3 := ih (addK acc a)
      rw [h2] at h3
      have e : (r.foldl addK (addK acc a)).length = acc.length + (r.length + 1) ↔ (r.foldl addK (addK acc a)).length = acc.length + 1 + r.length := by omega
      rw [e, h3]
      constructor
      · rintro ⟨q1, q2⟩
        refine ⟨⟨fun m => (q2 a m) ((addK_mem acc a a).mpr (.inr rfl)), q1⟩, fun x hx => ?_⟩
        rcases List.mem_cons.mp hx with rfl | hx
        · exact fun m => ha ((inK_iff _ _).mpr m)
        · exact fun m => q2 x hx ((addK_mem acc a x).mpr (.inl m))
      · rintro ⟨⟨q0, q1⟩, q2⟩
        refine ⟨q1, fun x hx m => ?_⟩
        rcases (addK_mem acc a x).mp m with m | rfl
        · exact q2 x (List.mem_cons_of_mem _ hx) m
        · exact q0 hx
theorem diff_nodup (l : List Key) : (diffK l).length = l.length ↔ l.Nodup := by
  have := diff_eq l []
  unfold diffK
  simp only [List.length_nil, Nat.zero_add] at this
  rw [this]
  simp
theorem setOf_is {prog : Program} {w : World} {h : Heap} {a : Addr} {S S' : Key → Bool} {n n' : Nat} (hS : h.SetOf (mixKind prog w) a S n) (e : ∀ k, S k = S' k) (en : n = n') : h.SetOf (mixKind prog w) a S' n' := by
  obtain rfl : S = S' := funext e
  subst en
  exact hS
section
variable {prog : Program} {w : World} {A : Around} {E : Value → Shared → Prop} {s : Shared}
theorem set_fill {R : Result → Shared → Prop} {I : Addr} {fp wr : List Addr} {G : Array GenState → Array GenState → Prop} {n : Nat} {Pi : Nat → Value → Prop} {St : Nat → Shared → Prop} (W : WalksS prog w A.in1 I fp wr G n Pi St) (S : Addr) (hSf : S ∉ fp)
    (val : Nat → Key) (hval : ∀ i v, Pi i v → keyIs (val i) v = true ∧ v.scannable = true) (hb : n + 1 < scanBound) : ∀ (k i : Nat) (s : Shared), n - i = k → i ≤ n → St i s →
      s.heap.SetOf (mixKind prog w) S (inK (metK val i)) (metK val i).length →
      (∀ s', Moved (S :: wr) G s s' → s'.heap.SetOf (mixKind prog w) S (inK (metK val n)) (metK val n).length → R (.ok (.ret .none)) s') →
      codeAny (model prog w) A (.builtin "set.update.loop" ⟨[.ref S, .ref I], []⟩) R s := by
  have hSw : S ∉ wr := fun h => hSf (W.sub _ h)
  have up : ∀ b ∈ wr, b ∈ S :: wr := fun b hb => List.mem_cons_of_mem _ hb
  intro k
  induction k with
  | zero =>
    intro i s hk hi hst hS hR
    obtain rfl : i = n := by omega
    refine codeAny_builtin PyProof.Rows.F.entry_set_update_loop ?_
    rw [Around.under_plainId PyProof.Rows.F.plain_set_update_loop _]
    refine wpAny_bind (m := pyNext (.ref I)) (W.done s _ _ hst fun s' hm => ?_)
    refine wpAny_pure (hR s' (hm.mono up) ?_)
    obtain ⟨o, es, ep, t, ho, rest⟩ := hS
    exact ⟨o, es, ep, t, hm.heap S _ hSw ho, rest⟩
  | succ k ih =>
    intro i s hk hi hst hS hR
    have hlt : i < n := by omega
    refine codeAny_builtin PyProof.Rows.F.entry_set_update_loop ?_
    rw [Around.under_plainId PyProof.Rows.F.plain_set_update_loop _]
    refine wpAny_bind (m := pyNext (.ref I)) (W.item i s _ _ hlt hst fun v s' hP hst' hm => ?_)
    obtain ⟨hkey, hsc⟩ := hval i v hP
    have hS' : s'.heap.SetOf (mixKind prog w) S (inK (metK val i)) (metK val i).length := by
      obtain ⟨o, es, ep, tb, ho, rest⟩ := hS
      exact ⟨o, es, ep, tb, hm.heap S _ hSw ho, rest⟩
    refine wpAny_bind (m := holding [v] (setAdd S v)) (wpAny_holding ?_)
    unfold setAdd
    refine wpAny_holding ?_
    refine wpAny_bind ((mixKind prog w).pyHash (k := val i) hkey ?_)
    have hroom : (metK val i).length + 1 < scanBound := by have := metK_le val i; omega
    refine wpAny_setAddHashed_of (knd := mixKind prog w) (s := { s' with toks := s'.toks + 1 }) hkey hsc hS' hroom fun h' hsb hS2 => ?_
    have hSi : h'.SetOf (mixKind prog w) S (inK (metK val (i + 1))) (metK val (i + 1)).length := by
      refine setOf_is hS2 (fun x => ?_) ?_
      · rw [metK_succ, addK_in]
      · rw [metK_succ, addK_len]
    refine wpAny_pure ⟨plainId_quiet PyProof.Rows.F.plain_set_update_loop _, ih (i + 1) _ (by omega) hlt (W.frame _ s' _ _ hst' (Nat.le_succ _) fun b hb o e => ?_) hSi fun s2 hm2 hS3 => ?_⟩
    · rw [hsb.2 b (fun h : b = S => hSf (by rw [← h]; exact hb))]; exact e
    · refine hR s2 (Moved.trans W.gtrans ((hm.mono up).then_heap (Nat.le_succ _) fun b o hb e => ?_) hm2) hS3
      rw [hsb.2 b (fun h : b = S => hb (by rw [h]; exact List.mem_cons_self))]; exact e
set_option maxHeartbeats 3200000 in
theorem set_of_tuple {l : Addr} {items : Array Value} {val : Nat → Key} {Q : Value → Shared → Prop}
    (hh : A.handled = none) (hl : s.heap.IsTuple l items) (hi : ∀ i v, items[i]? = some v → keyIs (val i) v = true ∧ v.scannable = true) (hb : items.size + 1 < scanBound)
    (h : ∀ (h' : Heap) (tk : Nat), h'.SetOf (mixKind prog w) s.heap.objs.size (inK (metK val items.size)) (metK val items.size).length →
      (∀ b o, b < s.heap.objs.size → s.heap.get? b = some o → h'.get? b = some o) → Q (.ref s.heap.objs.size) { s with heap := h', toks := tk }) :
    wpAny (model prog w) A (call (.type "set") [.ref l]) Q E s := by
  obtain ⟨c, tl, hmro⟩ := PySem.F.called_set.mro
  have hmade := PySem.F.called_set.made
  have hsub := PySem.F.called_set.sub
  refine wpAny_call (codeAny_of_tree ?_)
  show wpAny _ _ (callAny (.type "set") _) _ _ _
  refine wpAny_pure ⟨Code.quiet_builtin _ (by decide +kernel), codeAny_builtin PySem.F.entry_type_call ?_⟩
  rw [Around.under_plain (weight_type_call_type "set" [.ref l] []) rfl]
  have h1 := PySem.F.called_set.notType
  have h2 := PySem.F.called_set.canCreate
  have hct := PySem.F.typeCall_set_1 (.ref l)
  repeat (any_goals (first | assumption | wp_step))
  -- __new__
  refine codeAny_mono (code_set_new_1 (.ref l) (E := E) (Q₁ := fun obj s1 => ∃ led : Bool, obj = .ref s.heap.objs.size ∧ s1 = { s with heap := s.heap.push { cls := .type "set", dict := none, data := .set #[] 0 (.fresh 0 0 led) } }) fun led => ⟨led, rfl, rfl⟩) fun r s1 hr => ?_
  cases r with
  | error e => exact hr
  | ok fl =>
    cases fl with
    | ret obj =>
      obtain ⟨led, rfl, rfl⟩ := hr
      generalize hN : ({ cls := .type "set", dict := none, data := .set #[] 0 (.fresh 0 0 led) } : Obj) = N
      have hS : (s.heap.push N).get? s.heap.objs.size = some N := Heap.get?_push_size _ (by rw [← hN]; rfl)
      have hT : Shared.TypeIs { s with heap := s.heap.push N } (.ref s.heap.objs.size) "set" := ⟨_, hS, by rw [← hN]⟩
      have hli := PySem.F.called_set.init.lookup
      have hbi := PySem.F.called_set.init.bind (.ref s.heap.objs.size)
      repeat (any_goals (first | assumption | wp_step))
      -- __init__
      refine codeAny_mono (codeAny_call_builtin (R := wants (fun r s2 => r = .none ∧ ∃ h' tk, s2 = { s with heap := h', toks := tk } ∧
          h'.SetOf (mixKind prog w) s.heap.objs.size (inK (metK val items.size)) (metK val items.size).length ∧
          (∀ b o, b < s.heap.objs.size → s.heap.get? b = some o → h'.get? b = some o)) E) PySem.F.called_set.init.plain PySem.F.entry_set_init (check_set_init_1 hT ?_)) fun r2 s2 hr2 => ?_
      · obtain ⟨ol, hol, hcl, nl, hdl⟩ := hl
        obtain ⟨ocls, odict, odata, oslots⟩ := ol
        simp only at hcl hdl
        subst hcl; subst hdl
        have hol' : (s.heap.push N).get? l = some { cls := .type "tuple", dict := odict, data := .seq items nl, slots := oslots } := Heap.get?_push_of_some _ hol
        have hsls := PySem.F.sub_tuple_set
        have hslf := PySem.F.sub_tuple_frozenset
        have hne : (Value.type "tuple" == Value.type "dict") = false := by decide
        have hl1 : (s.heap.push N).IsTuple l items := ⟨_, hol', rfl, nl, rfl⟩
        subst hN
        unfold Builtin.«set.__init__» noKeywords Builtin.Frozenset.updateFrom
        generalize hPI : pyIter = PI
        wp_walk
        subst hPI
        refine wpAny_pyIter_tuple hl1 ?_
        refine wpAny_bind (wpAny_runValue ?_)
        have hlS : l < s.heap.objs.size := Heap.lt_size hol
        have hh3 : A.in1.in1.in1.handled = none := by simp [hh]
        have hneI : l ≠ (s.heap.push { cls := .type "set", dict := none, data := .set #[] 0 (.fresh 0 0 led) }).objs.size := by
          rw [Heap.size_push]; exact Nat.ne_of_lt (Nat.lt_succ_of_lt hlS)
        have hSf : s.heap.objs.size ∉ [(s.heap.push { cls := .type "set", dict := none, data := .set #[] 0 (.fresh 0 0 led) }).objs.size, l] := by
          rw [Heap.size_push]
          intro m
          rcases List.mem_cons.mp m with m | m
          · exact absurd m (Nat.ne_of_lt (Nat.lt_succ_self _))
          · exact absurd (List.mem_singleton.mp m) (Nat.ne_of_gt hlS)
        refine set_fill ((Walks.tuple hh3 _ l hneI items).toS) s.heap.objs.size hSf val hi hb (items.size - 0) 0 _ (by omega) (Nat.zero_le _)
          ⟨⟨_, Heap.get?_push_size _ rfl, rfl, rfl⟩, (hl1.push _)⟩ ?hS0 ?hR
        case hS0 =>
          exact ⟨_, #[], 0, _, Heap.get?_push_of_some _ hS, ⟨rfl, rfl, rfl⟩, rfl, fun e he => by simp at he, fun k => by simp [metK, diffK, inK], by decide, by rfl, rfl⟩
        case hR =>
          intro s' hm hS'
          obtain ⟨h', g', d', tk', os'⟩ := s'
          obtain rfl : g' = s.gens := hm.gens
          obtain rfl : d' = s.drawn := hm.drawn
          obtain rfl : os' = s.os := hm.os
          refine wpAny_pure (wpAny_pure ⟨rfl, h', tk', rfl, hS', fun b o hb e => ?_⟩)
          refine hm.heap b o (fun m => ?_) (Heap.get?_push_of_some _ (Heap.get?_push_of_some _ e))
          rcases List.mem_cons.mp m with m | m
          · exact absurd m (Nat.ne_of_lt hb)
          · have m := List.mem_singleton.mp m
            rw [Heap.size_push] at m
            exact absurd m (Nat.ne_of_lt (Nat.lt_succ_of_lt hb))
      · cases r2 with
        | error e => exact hr2
        | ok fl2 =>
          cases fl2 with
          | ret r =>
            obtain ⟨rfl, h', tk, rfl, hS', hk'⟩ := hr2
            repeat (any_goals (first | assumption | wp_step))
            exact h _ _ hS' hk'
          | _ => exact hr2.elim
    | _ => exact hr.elim
end
def setO (P : Program) (w : World) (p : Addr) (n : Nat) : HO := .ext fun h => ∃ S, h.SetOf (mixKind P w) p S n
theorem setO_ok {P : Program} {w : World} {H : Hp} {h : Heap} {p : Addr} {S : Key → Bool} {n : Nat} (v : h.SetOf (mixKind P w) p S n) : ObjOk P w H h p (setO P w p n) := by
  refine ⟨⟨S, v⟩, ?_, fun h1 h2 x k => ?_⟩
  · obtain ⟨o, _, _, _, ho, _⟩ := v
    exact ⟨o, ho⟩
  · obtain ⟨S, o, es, ep, t, ho, r⟩ := x
    exact ⟨S, o, es, ep, t, k o ho, r⟩
section
variable {X : Cx}
theorem cr_setT (hc : X.calm = true) : CallR X (.type "set") (fun xs H Q => ∃ a, ∃ ks : List Str, xs = [V.ref a] ∧ SqT X.K H a (ks.map V.str) ∧ ks.length ≤ 1000 ∧ ∀ p, H p = none → Q (.ref p) (upd H p (setO X.prog X.w p (diffK (ks.map Sum.inr)).length))) := by
  intro pins s σ H xs us Q I r h
  obtain ⟨a, ks, rfl, ht, hz, q⟩ := h
  rw [Vals.ref1 r]
  obtain ⟨its, rv, pl, _⟩ := I.tuple ht
  have hlen : its.length = ks.length := by have := rv.length; rw [List.length_map] at this; exact this.symm
  have e1 : metK (fun i => (ks.map (Sum.inr : Str → Key)).getD i (.inl 0)) its.toArray.size = diffK (ks.map Sum.inr) := by
    unfold metK
    congr 1
    apply List.ext_getElem
    · simp [hlen]
    · intro i h1 h2
      simp only [List.length_map] at h2
      simp [h2]
  refine set_of_tuple (val := fun i => (ks.map (Sum.inr : Str → Key)).getD i (.inl 0)) (I.ok.hd hc) pl (fun i v hv => ?_) (by rw [List.size_toArray, hlen]; unfold scanBound; omega) fun h' tk hS hk => ?_
  · have hi : i < ks.length := by
      have := (Array.getElem?_eq_some_iff.mp hv).1
      rw [List.size_toArray, hlen] at this; exact this
    obtain ⟨u, hu, ru⟩ := rv.get (i := i) (x := V.str ks[i]) (by rw [List.getElem?_map, List.getElem?_eq_getElem hi]; rfl)
    have hv' : its[i]? = some v := by simpa using hv
    rw [hu] at hv'
    cases hv'
    obtain ⟨t, rfl⟩ := ru
    refine ⟨?_, rfl⟩
    have : (ks.map (Sum.inr : Str → Key)).getD i (.inl 0) = Sum.inr ks[i] := by simp [hi]
    rw [this]
    exact keyIs_str _ _
  · rw [e1] at hS
    exact ⟨.ref _, upd H s.heap.objs.size (setO X.prog X.w s.heap.objs.size (diffK (ks.map Sum.inr)).length), I.laid (t' := tk) (fun b o e => hk b o (Heap.lt_size e) e) (Nat.le_refl _) (setO_ok hS), rfl, q _ (I.hok.fresh (Nat.le_refl _))⟩
theorem cr_lenSet : CallR X (.builtin "len") (fun xs H Q => ∃ p n, xs = [V.ref p] ∧ H p = some (setO X.prog X.w p n) ∧ Q (.int (n : Nat)) H) := by
  intro pins s σ H xs us Q I r h
  obtain ⟨p, n, rfl, hp, q⟩ := h
  rw [Vals.ref1 r]
  obtain ⟨⟨S, o, es, ep, t, ho, hex, hd, _, _, hb, hf, hn⟩, _, _⟩ := I.hok p _ hp
  subst hn
  exact call_len_set ho hex hd hf (by unfold scanBound at hb; omega) ⟨.int (es.size : Nat), H, (I.tok _).tok _, ⟨_, rfl⟩, q⟩
end
end L2.JX
end J3_
section M1_
set_option autoImplicit false
namespace Jb
open Mo
def cutAt (c : Nat) : List Nat → List Nat → List (List Nat)
  | acc, [] => [acc]
  | acc, x :: r => if x = c then acc :: cutAt c [] r else cutAt c (acc ++ [x]) r
theorem wordsOf_ne (l : List Nat) : ∃ w r, wordsOf l = w :: r := by
  cases l with
  | nil => exact ⟨_, _, rfl⟩
  | cons c r =>
    unfold wordsOf
    split
    · exact ⟨_, _, rfl⟩
    · split <;> exact ⟨_, _, rfl⟩
theorem cut_words : ∀ (l acc : List Nat), ∃ w r, wordsOf l = w :: r ∧ cutAt 32 acc l = (acc ++ w) :: r
  | [], acc => ⟨[], [], rfl, by simp [cutAt]⟩
  | c :: l, acc => by
    by_cases hc : c = 32
    · obtain ⟨w, r, e1, e2⟩ := cut_words l []
      refine ⟨[], wordsOf l, by simp [wordsOf, hc], ?_⟩
      simp [cutAt, hc, e2, e1]
    · obtain ⟨w, r, e1, e2⟩ := cut_words l (acc ++ [c])
      refine ⟨c :: w, r, by simp [wordsOf, hc, e1], ?_⟩
      simp [cutAt, hc, e2]
theorem cut_words0 (l : List Nat) : cutAt 32 [] l = wordsOf l := by
  obtain ⟨w, r, e1, e2⟩ := cut_words l []
  rw [e2, e1, List.nil_append]
theorem cut_lines : ∀ (l acc : List Nat), cutAt 10 acc l = (match (linesOf l).1 with | [] => [acc ++ (linesOf l).2] | x :: m => (acc ++ x) :: (m ++ [(linesOf l).2]))
  | [], acc => by simp [cutAt, linesOf]
  | c :: l, acc => by
    by_cases hc : c = 10
    · have ih := cut_lines l []
      subst hc
      simp only [cutAt, if_pos, linesOf]
      rw [ih]
      cases h : (linesOf l).1 with
      | nil => simp
      | cons x m => simp
    · have ih := cut_lines l (acc ++ [c])
      simp only [cutAt, if_neg hc, linesOf]
      rw [ih]
      cases h : (linesOf l).1 with
      | nil => simp
      | cons x m => simp
theorem cut_lines0 (l : List Nat) : cutAt 10 [] l = (linesOf l).1 ++ [(linesOf l).2] := by
  rw [cut_lines]
  cases h : (linesOf l).1 with
  | nil => simp
  | cons x m => simp
def sgs : List Nat := ascii "abcdefghijklmnopqrstuvwxyz0123456789-~:,=> \n"
def sg (c : Nat) : Nat := if c ∈ sgs then c else 63
theorem sg63 : 63 ∉ sgs := by decide
theorem sg_10 (c : Nat) : sg c = 10 ↔ c = 10 := by
  unfold sg
  split
  · rfl
  · rename_i h
    constructor
    · intro e; cases e
    · intro e; subst e; exact absurd (by decide) h
theorem sg_of {c : Nat} (h : c ∈ sgs) : sg c = c := by simp [sg, h]
theorem map_sg_of : ∀ {l : List Nat}, (∀ c ∈ l, c ∈ sgs) → l.map sg = l
  | [], _ => rfl
  | c :: l, h => by
    rw [List.map_cons, sg_of (h c (by simp)), map_sg_of (fun x hx => h x (by simp [hx]))]
theorem sg_back {c : Nat} (h : sg c ∈ sgs) : c ∈ sgs := by
  unfold sg at h
  split at h
  · assumption
  · exact absurd h sg63
theorem lines_sg : ∀ l : List Nat, linesOf (l.map sg) = ((linesOf l).1.map (·.map sg), (linesOf l).2.map sg)
  | [] => rfl
  | c :: l => by
    have ih := lines_sg l
    simp only [List.map_cons, linesOf]
    rw [ih]
    by_cases hc : c = 10
    · subst hc
      have : sg 10 = 10 := (sg_10 10).mpr rfl
      simp only [this, if_true, List.map_cons, List.map_nil]
    · have : ¬ sg c = 10 := fun e => hc ((sg_10 c).mp e)
      simp only [this, hc, if_false]
      cases h : (linesOf l).1 with
      | nil => simp
      | cons x m => simp
theorem mem_words : ∀ {l : List Nat} {c : Nat}, c ∈ l → c = 32 ∨ ∃ w ∈ wordsOf l, c ∈ w
  | x :: l, c, h => by
    rcases List.mem_cons.mp h with rfl | h
    · by_cases hc : c = 32
      · exact .inl hc
      · right
        obtain ⟨w, r, e⟩ := wordsOf_ne l
        exact ⟨c :: w, by simp [wordsOf, hc, e], by simp⟩
    · rcases mem_words h with e | ⟨w, hw, hcw⟩
      · exact .inl e
      · right
        by_cases hx : x = 32
        · exact ⟨w, by simp [wordsOf, hx, hw], hcw⟩
        · obtain ⟨w0, r, e⟩ := wordsOf_ne l
          rw [e] at hw
          rcases List.mem_cons.mp hw with rfl | hw
          · exact ⟨x :: w, by simp [wordsOf, hx, e], by simp [hcw]⟩
          · exact ⟨w, by simp [wordsOf, hx, e, hw], hcw⟩
theorem name_signs {b : List Nat} (h : isName b = true) : ∀ c ∈ b, c ∈ sgs := by
  intro c hc
  unfold isName at h
  simp only [Bool.and_eq_true, decide_eq_true_eq, List.all_eq_true] at h
  have h2 := h.2.2.2 c hc
  simp only [isSmall, isDigit, Bool.or_eq_true, Bool.and_eq_true, decide_eq_true_eq, beq_iff_eq] at h2
  have hlt : c < 128 := by omega
  have : ∀ c : Nat, c < 128 → ((97 ≤ c ∧ c ≤ 122) ∨ (48 ≤ c ∧ c ≤ 57) ∨ c = 45) → c ∈ sgs := by decide
  exact this c hlt h2
def litBytes (l : Lit) : Bytes := if l.no = true then 126 :: l.atom else l.atom
theorem name_head {b : List Nat} (h : isName b = true) : ∃ c r, b = c :: r ∧ 97 ≤ c ∧ c ≤ 122 := by
  unfold isName at h
  simp only [Bool.and_eq_true, decide_eq_true_eq] at h
  cases b with
  | nil => simp at h
  | cons c r =>
    refine ⟨c, r, rfl, ?_⟩
    have := h.2.2.1
    simp [isSmall] at this
    exact this
theorem litOf_some {b : List Nat} {l : Lit} (h : litOf b = some l) : b = litBytes l ∧ isName l.atom = true := by
  unfold litOf at h
  split at h
  · rename_i r
    by_cases hn : isName r = true
    · rw [if_pos hn] at h; cases h; exact ⟨rfl, hn⟩
    · rw [if_neg hn] at h; cases h
  · by_cases hn : isName b = true
    · rw [if_pos hn] at h; cases h; exact ⟨rfl, hn⟩
    · rw [if_neg hn] at h; cases h
theorem litOf_bytes {l : Lit} (h : isName l.atom = true) : litOf (litBytes l) = some l := by
  obtain ⟨a, no⟩ := l
  cases no with
  | true => simp only [litBytes, if_true]; show (if isName a = true then some (⟨a, true⟩ : Lit) else none) = _; rw [if_pos h]
  | false =>
    obtain ⟨c, r, rfl, h1, h2⟩ := name_head h
    simp only [litBytes, Bool.false_eq_true, if_false]
    unfold litOf
    split
    · rename_i e; injection e with e1 e2; omega
    · rw [if_pos h]
theorem litBytes_inj {l m : Lit} (hl : isName l.atom = true) (hm : isName m.atom = true) (e : litBytes l = litBytes m) : l = m := by
  have h1 := litOf_bytes hl
  rw [e, litOf_bytes hm] at h1
  exact (Option.some.inj h1).symm
theorem lit_signs {b : List Nat} {l : Lit} (h : litOf b = some l) : ∀ c ∈ b, c ∈ sgs := by
  obtain ⟨rfl, hn⟩ := litOf_some h
  intro c hc
  unfold litBytes at hc
  split at hc
  · rcases List.mem_cons.mp hc with rfl | hc
    · decide
    · exact name_signs hn c hc
  · exact name_signs hn c hc
theorem mem_of_dropLast {w : List Nat} {c x : Nat} (h : c ∈ w) (hl : w.getLast? = some x) : c = x ∨ c ∈ w.dropLast := by
  have hne : w ≠ [] := by intro e; subst e; cases h
  have e := List.dropLast_concat_getLast hne
  rw [← e] at h
  rcases List.mem_append.mp h with h | h
  · exact .inr h
  · left
    have : w.getLast hne = x := by rw [List.getLast?_eq_some_getLast hne] at hl; exact Option.some.inj hl
    rw [← this]; simpa using h
theorem body_signs {arrow : Bytes} (ha : ∀ c ∈ arrow, c ∈ sgs) : ∀ {r : List Bytes} {z : List Lit × Lit}, bodyIn arrow r = some z → ∀ w ∈ r, ∀ c ∈ w, c ∈ sgs
  | [], z, h => by simp
  | [w], z, h => by simp [bodyIn] at h
  | [w, x], z, h => by
    simp only [bodyIn] at h
    split at h
    · rename_i e
      obtain ⟨l, hl, _⟩ := Option.map_eq_some_iff.mp h
      intro v hv c hc
      rcases List.mem_cons.mp hv with rfl | hv
      · rw [e] at hc; exact ha c hc
      · have : v = x := by simpa using hv
        subst this
        exact lit_signs hl c hc
    · cases h
  | w :: x :: y :: r, z, h => by
    unfold bodyIn at h
    split at h
    · rename_i e
      split at h
      · rename_i hh er
        rw [er]
        split at h
        · rename_i l m hl hm
          intro v hv c hc
          have hv' : v = w ∨ v = x ∨ v = hh := by simpa using hv
          rcases hv' with rfl | rfl | rfl
          · exact lit_signs hl c hc
          · rw [e] at hc; exact ha c hc
          · exact lit_signs hm c hc
        · cases h
      · cases h
    · split at h
      · rename_i hlast
        split at h
        · rename_i l z' hl hz
          intro v hv c hc
          rcases List.mem_cons.mp hv with rfl | hv
          · rcases mem_of_dropLast hc hlast with rfl | hc
            · decide
            · exact lit_signs hl c hc
          · exact body_signs ha hz v hv c hc
        · cases h
      · cases h
theorem line_signs {b : Bytes} {l : Line} (h : lineIn b = some l) : ∀ c ∈ b, c ∈ sgs := by
  intro c hc
  rcases mem_words hc with rfl | ⟨w, hw, hcw⟩
  · decide
  · unfold lineIn at h
    have row : ∀ (arrow n : Bytes) (r : List Bytes) (q : Row), (∀ c ∈ arrow, c ∈ sgs) → rowIn arrow n r = some q → ∀ v, v = n ∨ v ∈ r → ∀ c ∈ v, c ∈ sgs := by
      intro arrow n r q ha hq v hv c hc
      unfold rowIn at hq
      split at hq
      · rename_i hn
        obtain ⟨x, hx, _⟩ := Option.bind_eq_some_iff.mp hq
        rcases hv with rfl | hv
        · rcases mem_of_dropLast hc hn.1 with rfl | hc
          · decide
          · exact name_signs hn.2 c hc
        · exact body_signs ha hx v hv c hc
      · cases hq
    split at h
    · rename_i w0 n r e
      rw [e] at hw
      split at h
      · rename_i e0
        obtain ⟨q, hq, _⟩ := Option.map_eq_some_iff.mp h
        rcases List.mem_cons.mp hw with rfl | hw
        · rw [e0] at hcw; exact (by decide : ∀ c ∈ ascii "law", c ∈ sgs) c hcw
        · exact row _ _ _ _ (by decide) hq w (by simpa using hw) c hcw
      · split at h
        · rename_i e0
          obtain ⟨q, hq, _⟩ := Option.map_eq_some_iff.mp h
          rcases List.mem_cons.mp hw with rfl | hw
          · rw [e0] at hcw; exact (by decide : ∀ c ∈ ascii "rule", c ∈ sgs) c hcw
          · exact row _ _ _ _ (by decide) hq w (by simpa using hw) c hcw
        · split at h
          · rename_i e0
            split at h
            · rename_i g y
              split at h
              · rename_i hh
                have hw' : w = w0 ∨ w = n ∨ w = g ∨ w = y := by simpa using hw
                rcases hw' with rfl | rfl | rfl | rfl
                · rw [e0] at hcw; exact (by decide : ∀ c ∈ ascii "weigh", c ∈ sgs) c hcw
                · exact name_signs hh.2.1 c hcw
                · rw [hh.1] at hcw
                  have : c = 62 := by simpa using hcw
                  subst this; decide
                · exact name_signs hh.2.2 c hcw
              · cases h
            · cases h
          · cases h
    · cases h
theorem lineIn_sg (b : Bytes) : lineIn (b.map sg) = lineIn b := by
  by_cases h : ∀ c ∈ b, c ∈ sgs
  · rw [map_sg_of h]
  · have h1 : lineIn b = none := by
      cases e : lineIn b with
      | none => rfl
      | some l => exact absurd (line_signs e) h
    have h2 : lineIn (b.map sg) = none := by
      cases e : lineIn (b.map sg) with
      | none => rfl
      | some l =>
        refine absurd (fun c hc => sg_back ?_) h
        exact line_signs e (sg c) (List.mem_map.mpr ⟨c, hc, rfl⟩)
    rw [h1, h2]
theorem readFrom_sg : ∀ (ls : List Bytes) (c : Case) (p : Nat), readFrom c p (ls.map (·.map sg)) = readFrom c p ls
  | [], c, p => rfl
  | b :: r, c, p => by
    simp only [List.map_cons, readFrom, lineIn_sg, List.length_map]
    split
    · rfl
    · split
      · rfl
      · exact readFrom_sg r _ _
end Jb
end M1_
section M2_
set_option autoImplicit false
namespace Jb
open Mo
def readBody : List Bytes → Option (List Lit)
  | [] => some []
  | [w] => (litOf w).map fun l => [l]
  | w :: x :: r => if w.getLast? = some 44 then (match litOf w.dropLast, readBody (x :: r) with
      | some l, some z => some (l :: z)
      | _, _ => none) else none
theorem readBody_len : ∀ {ws : List Bytes} {ls : List Lit}, readBody ws = some ls → ls.length = ws.length
  | [], ls, h => by simp [readBody] at h; subst h; rfl
  | [w], ls, h => by
    simp only [readBody] at h
    obtain ⟨l, _, rfl⟩ := Option.map_eq_some_iff.mp h
    rfl
  | w :: x :: r, ls, h => by
    simp only [readBody] at h
    split at h
    · split at h
      · rename_i l z hl hz
        cases h
        simp [readBody_len hz]
      · cases h
    · cases h
theorem readBody_ok : ∀ {ws : List Bytes} {ls : List Lit}, readBody ws = some ls → ∀ l ∈ ls, isName l.atom = true
  | [], ls, h => by simp [readBody] at h; subst h; simp
  | [w], ls, h => by
    simp only [readBody] at h
    obtain ⟨l, hl, rfl⟩ := Option.map_eq_some_iff.mp h
    intro m hm
    have : m = l := by simpa using hm
    subst this
    exact (litOf_some hl).2
  | w :: x :: r, ls, h => by
    simp only [readBody] at h
    split at h
    · split at h
      · rename_i l z hl hz
        cases h
        intro m hm
        rcases List.mem_cons.mp hm with rfl | hm
        · exact (litOf_some hl).2
        · exact readBody_ok hz m hm
      · cases h
    · cases h
theorem bodyIn_eq {arrow : Bytes} (h1 : litOf arrow = none) (h2 : arrow.getLast? ≠ some 44) (a h : Bytes) : ∀ b : List Bytes,
    bodyIn arrow (b ++ [a, h]) = if a = arrow then (readBody b).bind fun z => (litOf h).map fun m => (z, m) else none
  | [] => by
    show bodyIn arrow [a, h] = _
    simp only [bodyIn, readBody]
    split
    · simp
    · rfl
  | [w] => by
    show bodyIn arrow [w, a, h] = _
    simp only [bodyIn, readBody]
    by_cases e : a = arrow
    · simp only [e, if_true]
      cases litOf w <;> cases litOf h <;> rfl
    · simp only [e, if_false]
      cases litOf w.dropLast <;> simp
  | w :: x :: b => by
    have ih := bodyIn_eq h1 h2 a h (x :: b)
    have e0 : (w :: x :: b) ++ [a, h] = w :: x :: (b ++ [a, h]) := rfl
    have e1 : (x :: b) ++ [a, h] = x :: (b ++ [a, h]) := rfl
    obtain ⟨y, z, r, e2⟩ : ∃ y z r, b ++ [a, h] = y :: z :: r := by
      cases b with
      | nil => exact ⟨a, h, [], rfl⟩
      | cons y b =>
        cases b with
        | nil => exact ⟨y, a, [h], rfl⟩
        | cons z b => exact ⟨y, z, _, rfl⟩
    rw [e0]
    rw [e1] at ih
    rw [e2] at ih ⊢
    unfold bodyIn
    by_cases ex : x = arrow
    · simp only [ex, if_true]
      have : readBody (w :: arrow :: b) = none := by
        simp only [readBody]
        split
        · have : readBody (arrow :: b) = none := by
            cases b with
            | nil => simp [readBody, h1]
            | cons y b => simp [readBody, h2]
          rw [this]
          cases litOf w.dropLast <;> rfl
        · rfl
      rw [this]
      simp
    · simp only [ex, if_false]
      rw [ih]
      simp only [readBody]
      by_cases hw : w.getLast? = some 44
      · simp only [hw, if_true]
        by_cases ea : a = arrow
        · simp only [ea, if_true]
          cases hl : litOf w.dropLast with
          | none => simp
          | some l =>
            cases hz : readBody (x :: b) with
            | none => simp
            | some z =>
              have := readBody_len hz
              cases z with
              | nil => simp at this
              | cons l' z' => cases litOf h <;> simp
        · simp only [ea, if_false]
          cases litOf w.dropLast <;> simp
      · simp only [hw, if_false]
        by_cases ea : a = arrow <;> simp [ea]
def bodyOk (ws : List Bytes) : Option (List Lit) := if ws.length ≤ 6 then readBody ws else none
theorem rowIn_eq {arrow : Bytes} (h1 : litOf arrow = none) (h2 : arrow.getLast? ≠ some 44) (n a h : Bytes) (b : List Bytes) :
    rowIn arrow n (b ++ [a, h]) = if a = arrow ∧ n.getLast? = some 58 ∧ isName n.dropLast = true then (bodyOk b).bind fun z => (litOf h).map fun m => ⟨n.dropLast, z, m⟩ else none := by
  unfold rowIn
  rw [bodyIn_eq h1 h2]
  by_cases ea : a = arrow
  · by_cases hn : n.getLast? = some 58 ∧ isName n.dropLast = true
    · simp only [ea, if_true, hn, and_self, bodyOk]
      cases hb : readBody b with
      | none => simp
      | some z =>
        have := readBody_len hb
        have hB : BODY = 6 := rfl
        by_cases hl : b.length ≤ 6
        · cases litOf h <;> simp [hl, this, hB]
        · cases litOf h <;> simp [hl, this, hB]
    · simp [hn]
  · simp [ea]
theorem rowIn_short {arrow n : Bytes} {r : List Bytes} (h : r.length < 2) : rowIn arrow n r = none := by
  unfold rowIn
  have : bodyIn arrow r = none := by
    match r, h with
    | [], _ => rfl
    | [w], _ => rfl
  rw [this]
  split <;> rfl
theorem row_ok {arrow n : Bytes} {r : List Bytes} {q : Row} (h1 : litOf arrow = none) (h2 : arrow.getLast? ≠ some 44) (h : rowIn arrow n r = some q) :
    isName q.name = true ∧ isName q.head.atom = true ∧ (∀ l ∈ q.body, isName l.atom = true) ∧ q.body.length ≤ 6 := by
  by_cases hr : r.length < 2
  · rw [rowIn_short hr] at h; cases h
  · obtain ⟨b, a, x, rfl⟩ : ∃ b a x, r = b ++ [a, x] := by
      refine ⟨r.take (r.length - 2), r[r.length - 2]'(by omega), r[r.length - 1]'(by omega), ?_⟩
      apply List.ext_getElem?
      intro i
      by_cases hi : i < r.length - 2
      · rw [List.getElem?_append_left (by simp; omega), List.getElem?_take_of_lt hi]
      · rw [List.getElem?_append_right (by simp; omega)]
        simp only [List.length_take]
        have : min (r.length - 2) r.length = r.length - 2 := by omega
        rw [this]
        by_cases e1 : i = r.length - 2
        · subst e1; simp
        · by_cases e2 : i = r.length - 1
          · subst e2
            have : r.length - 1 - (r.length - 2) = 1 := by omega
            rw [this]; simp
          · have hi' : r.length ≤ i := by omega
            rw [List.getElem?_eq_none hi', List.getElem?_eq_none (by simp; omega)]
    rw [rowIn_eq h1 h2] at h
    split at h
    · rename_i hc
      obtain ⟨z, hz, h⟩ := Option.bind_eq_some_iff.mp h
      obtain ⟨m, hm, rfl⟩ := Option.map_eq_some_iff.mp h
      unfold bodyOk at hz
      split at hz
      · rename_i hl
        exact ⟨hc.2.2, (litOf_some hm).2, readBody_ok hz, by rw [readBody_len hz]; exact hl⟩
      · cases hz
    · cases h
theorem arrow_law1 : litOf (ascii "->") = none := by decide
theorem arrow_law2 : (ascii "->").getLast? ≠ some 44 := by decide
theorem arrow_rule1 : litOf (ascii "=>") = none := by decide
theorem arrow_rule2 : (ascii "=>").getLast? ≠ some 44 := by decide
end Jb
end M2_
section M3_
set_option autoImplicit false
namespace Jb
open Mo
def sub (F G : Nat) : Prop := ∀ i : Nat, F.testBit i = true → G.testBit i = true
theorem sub_refl (F : Nat) : sub F F := fun _ h => h
theorem sub_trans {F G H : Nat} (a : sub F G) (b : sub G H) : sub F H := fun i h => b i (a i h)
theorem sub_antisymm {F G : Nat} (a : sub F G) (b : sub G F) : F = G := by
  apply Nat.eq_of_testBit_eq
  intro i
  cases hF : F.testBit i with
  | true => rw [a i hF]
  | false =>
    cases hG : G.testBit i with
    | true => rw [b i hG] at hF; cases hF
    | false => rfl
theorem within_iff (S T : Nat) : within S T = true ↔ sub S T := by
  unfold within
  rw [beq_iff_eq]
  constructor
  · intro h i hi
    rw [← h, Nat.testBit_and] at hi
    simp only [Bool.and_eq_true] at hi
    exact hi.2
  · intro h
    apply Nat.eq_of_testBit_eq
    intro i
    rw [Nat.testBit_and]
    cases hS : S.testBit i with
    | true => rw [h i hS]; rfl
    | false => rfl
theorem with_bit (S i j : Nat) : (with_ S i).testBit j = (S.testBit j || decide (i = j)) := by
  unfold with_
  rw [Nat.testBit_or, Nat.testBit_two_pow]
theorem sub_with (S i : Nat) : sub S (with_ S i) := fun j h => by rw [with_bit, h]; rfl
theorem with_self (S i : Nat) : (with_ S i).testBit i = true := by rw [with_bit]; simp
theorem with_sub {S T i : Nat} (h : sub S T) (hi : T.testBit i = true) : sub (with_ S i) T := fun j hj => by
  rw [with_bit] at hj
  simp only [Bool.or_eq_true, decide_eq_true_eq] at hj
  rcases hj with hj | rfl
  · exact h j hj
  · exact hi
def stepR (m : Nat) (r : Nat × Nat) : Nat := if within r.1 m = true then with_ m r.2 else m
def stepL (l : List (Nat × Nat)) (F : Nat) : Nat := l.foldl stepR F
def Closed (l : List (Nat × Nat)) (F : Nat) : Prop := ∀ r ∈ l, sub r.1 F → F.testBit r.2 = true
theorem stepR_sub (m : Nat) (r : Nat × Nat) : sub m (stepR m r) := by
  unfold stepR; split
  · exact sub_with _ _
  · exact sub_refl _
theorem stepL_sub : ∀ (l : List (Nat × Nat)) (F : Nat), sub F (stepL l F)
  | [], F => sub_refl F
  | r :: l, F => sub_trans (stepR_sub F r) (stepL_sub l (stepR F r))
theorem stepR_least {G m : Nat} {r : Nat × Nat} (h : sub r.1 G → G.testBit r.2 = true) (hm : sub m G) : sub (stepR m r) G := by
  unfold stepR; split
  · rename_i e
    exact with_sub hm (h (sub_trans ((within_iff _ _).mp e) hm))
  · exact hm
theorem stepL_least : ∀ {l : List (Nat × Nat)} {F G : Nat}, Closed l G → sub F G → sub (stepL l F) G
  | [], F, G, _, h => h
  | r :: l, F, G, c, h => stepL_least (l := l) (fun q hq => c q (List.mem_cons_of_mem _ hq)) (stepR_least (c r (List.mem_cons_self)) h)
theorem stepL_closed : ∀ {l : List (Nat × Nat)} {F : Nat}, stepL l F = F → Closed l F
  | [], F, _ => fun r hr => by cases hr
  | r :: l, F, h => by
    have h1 : sub (stepR F r) F := by
      have : sub (stepR F r) (stepL l (stepR F r)) := stepL_sub l _
      have e : stepL (r :: l) F = stepL l (stepR F r) := rfl
      rw [← e, h] at this
      exact this
    have e1 : stepR F r = F := sub_antisymm h1 (stepR_sub F r)
    have h2 : stepL l F = F := by
      have e : stepL (r :: l) F = stepL l (stepR F r) := rfl
      rw [← e1, ← e, h, e1]
    intro q hq
    rcases List.mem_cons.mp hq with rfl | hq
    · intro hs
      unfold stepR at e1
      rw [if_pos ((within_iff _ _).mpr hs)] at e1
      rw [← e1]; exact with_self _ _
    · exact stepL_closed h2 q hq
def heads (l : List (Nat × Nat)) (F : Nat) : Nat := (l.filter fun r => F.testBit r.2).length
theorem heads_le (l : List (Nat × Nat)) (F : Nat) : heads l F ≤ l.length := List.length_filter_le _ _
theorem heads_mono : ∀ {l : List (Nat × Nat)} {F G : Nat}, sub F G → heads l F ≤ heads l G
  | [], _, _, _ => Nat.le_refl _
  | r :: l, F, G, h => by
    have ih := heads_mono (l := l) h
    unfold heads at ih ⊢
    simp only [List.filter_cons]
    cases hF : F.testBit r.2 with
    | true => rw [h _ hF]; simp; exact ih
    | false =>
      simp only [Bool.false_eq_true, if_false]
      split
      · simp only [List.length_cons]; omega
      · exact ih
theorem heads_lt : ∀ {l : List (Nat × Nat)} {F G : Nat} {r : Nat × Nat}, sub F G → r ∈ l → F.testBit r.2 = false → G.testBit r.2 = true → heads l F < heads l G
  | q :: l, F, G, r, h, hr, h1, h2 => by
    rcases List.mem_cons.mp hr with rfl | hr
    · have ih := heads_mono (l := l) h
      unfold heads at ih ⊢
      simp only [List.filter_cons, h1, h2, Bool.false_eq_true, if_false, if_true, List.length_cons]
      omega
    · have ih := heads_lt h hr h1 h2
      unfold heads at ih ⊢
      simp only [List.filter_cons]
      cases hF : F.testBit q.2 with
      | true => rw [h _ hF]; simp; exact ih
      | false =>
        simp only [Bool.false_eq_true, if_false]
        split
        · simp only [List.length_cons]; omega
        · exact ih
theorem step_new : ∀ {l : List (Nat × Nat)} {F : Nat}, stepL l F ≠ F → ∃ r ∈ l, F.testBit r.2 = false ∧ (stepL l F).testBit r.2 = true
  | [], F, h => absurd rfl h
  | r :: l, F, h => by
    have e : stepL (r :: l) F = stepL l (stepR F r) := rfl
    by_cases e1 : stepR F r = F
    · rw [e, e1] at h
      obtain ⟨q, hq, a, b⟩ := step_new h
      exact ⟨q, List.mem_cons_of_mem _ hq, a, by rw [e, e1]; exact b⟩
    · refine ⟨r, List.mem_cons_self, ?_, ?_⟩
      · cases hF : F.testBit r.2 with
        | false => rfl
        | true =>
          refine absurd (sub_antisymm ?_ (stepR_sub F r)) e1
          unfold stepR; split
          · exact with_sub (sub_refl _) hF
          · exact sub_refl _
      · rw [e]
        refine stepL_sub l _ _ ?_
        unfold stepR at e1 ⊢
        split
        · exact with_self _ _
        · rename_i hn; rw [if_neg hn] at e1; exact absurd rfl e1
theorem step_heads {l : List (Nat × Nat)} {F : Nat} (h : stepL l F ≠ F) : heads l F < heads l (stepL l F) := by
  obtain ⟨r, hr, a, b⟩ := step_new h
  exact heads_lt (stepL_sub l F) hr a b
theorem closeFrom_succ (l : List (Nat × Nat)) (f F : Nat) : closeFrom l (f + 1) F = if stepL l F = F then F else closeFrom l f (stepL l F) := rfl
theorem close_sub (l : List (Nat × Nat)) : ∀ f F, sub F (closeFrom l f F)
  | 0, F => sub_refl F
  | f + 1, F => by
    rw [closeFrom_succ]; split
    · exact sub_refl F
    · exact sub_trans (stepL_sub l F) (close_sub l f _)
theorem close_least {l : List (Nat × Nat)} {G : Nat} (c : Closed l G) : ∀ f F, sub F G → sub (closeFrom l f F) G
  | 0, F, h => h
  | f + 1, F, h => by
    rw [closeFrom_succ]; split
    · exact h
    · exact close_least c f _ (stepL_least c h)
theorem close_closed (l : List (Nat × Nat)) : ∀ f F, l.length + 1 ≤ f + heads l F → Closed l (closeFrom l f F)
  | 0, F, h => by have := heads_le l F; omega
  | f + 1, F, h => by
    rw [closeFrom_succ]; split
    · rename_i e; exact stepL_closed e
    · rename_i e
      have := step_heads e
      exact close_closed l f _ (by omega)
theorem close_unique {l : List (Nat × Nat)} {f F X : Nat} (hf : l.length + 1 ≤ f) (h1 : sub F X) (h2 : Closed l X) (h3 : ∀ G, Closed l G → sub F G → sub X G) : X = closeFrom l f F :=
  sub_antisymm (h3 _ (close_closed l f F (by omega)) (close_sub l f F)) (close_least h2 f F h1)
theorem close_same {l l' : List (Nat × Nat)} {f f' F : Nat} (hl : ∀ r, r ∈ l ↔ r ∈ l') (hf : l.length + 1 ≤ f) (hf' : l'.length + 1 ≤ f') : closeFrom l f F = closeFrom l' f' F := by
  refine close_unique hf' (close_sub l f F) (fun r hr => close_closed l f F (by omega) r ((hl r).mpr hr)) fun G hG h => ?_
  exact close_least (fun r hr => hG r ((hl r).mp hr)) f F h
theorem follows0 (k : Numbered) : k.follows 0 = closeFrom k.laws (k.laws.length + 1) 0 := by
  unfold Numbered.follows
  have : (k.rules.zipIdx.filter fun (x : (Nat × Nat × Nat) × Nat) => held 0 x.2) = [] := by
    apply List.filter_eq_nil_iff.mpr
    intro x _
    simp [held]
  simp only [this, List.map_nil, List.length_nil, List.append_nil, Nat.add_zero, List.foldl_nil]
theorem clash0_same {k k' : Numbered} (ha : k.atoms = k'.atoms) (hl : ∀ r, r ∈ k.laws ↔ r ∈ k'.laws) : k.clash 0 = k'.clash 0 := by
  unfold Numbered.clash
  rw [follows0, follows0, ha, close_same hl (Nat.le_refl _) (Nat.le_refl _)]
end Jb
end M3_
section M4_
set_option autoImplicit false
namespace Jb
open Mo
theorem below_irrefl : ∀ a : Bytes, below a a = false
  | [] => rfl
  | x :: r => by simp [below, below_irrefl r]
theorem below_trans : ∀ {a b c : Bytes}, below a b = true → below b c = true → below a c = true
  | [], _ :: _, _ :: _, _, _ => rfl
  | x :: r, y :: s, z :: t, h1, h2 => by
    simp only [below, Bool.or_eq_true, decide_eq_true_eq, Bool.and_eq_true, beq_iff_eq] at h1 h2 ⊢
    rcases h1 with h1 | ⟨e1, h1⟩ <;> rcases h2 with h2 | ⟨e2, h2⟩
    · left; omega
    · left; omega
    · left; omega
    · right; exact ⟨by omega, below_trans h1 h2⟩
  | [], _ :: _, [], _, h => by simp [below] at h
  | _ :: _, [], _, h, _ => by simp [below] at h
  | [], [], _, h, _ => by simp [below] at h
  | _ :: _, _ :: _, [], _, h => by simp [below] at h
theorem below_tri : ∀ a b : Bytes, below a b = true ∨ a = b ∨ below b a = true
  | [], [] => .inr (.inl rfl)
  | [], _ :: _ => .inl rfl
  | _ :: _, [] => .inr (.inr rfl)
  | x :: r, y :: s => by
    simp only [below, Bool.or_eq_true, decide_eq_true_eq, Bool.and_eq_true, beq_iff_eq, List.cons.injEq]
    rcases Nat.lt_trichotomy x y with h | h | h
    · exact .inl (.inl h)
    · rcases below_tri r s with q | q | q
      · exact .inl (.inr ⟨h, q⟩)
      · exact .inr (.inl ⟨h, q⟩)
      · exact .inr (.inr (.inr ⟨h.symm, q⟩))
    · exact .inr (.inr (.inl h))
theorem below_asymm {a b : Bytes} (h : below a b = true) : below b a = false := by
  cases q : below b a with
  | false => rfl
  | true => have := below_trans h q; rw [below_irrefl] at this; cases this
theorem below_ne {a b : Bytes} (h : below a b = true) : a ≠ b := by
  rintro rfl; rw [below_irrefl] at h; cases h
abbrev Rising (l : List Bytes) : Prop := l.Pairwise fun a b => below a b = true
theorem Rising.nodup {l : List Bytes} (h : Rising l) : l.Nodup := h.imp fun q => below_ne q
theorem rising_unique : ∀ {l m : List Bytes}, Rising l → Rising m → (∀ x, x ∈ l ↔ x ∈ m) → l = m
  | [], [], _, _, _ => rfl
  | [], y :: m, _, _, h => by have := (h y).mpr List.mem_cons_self; cases this
  | x :: l, [], _, _, h => by have := (h x).mp List.mem_cons_self; cases this
  | x :: l, y :: m, h1, h2, h => by
    obtain ⟨a1, b1⟩ := List.pairwise_cons.mp h1
    obtain ⟨a2, b2⟩ := List.pairwise_cons.mp h2
    have e : x = y := by
      rcases List.mem_cons.mp ((h x).mp List.mem_cons_self) with e | hx
      · exact e
      · rcases List.mem_cons.mp ((h y).mpr List.mem_cons_self) with e | hy
        · exact e.symm
        · have q1 := a2 x hx
          have q2 := a1 y hy
          rw [below_asymm q1] at q2; cases q2
    subst e
    rw [rising_unique b1 b2 fun z => ?_]
    constructor
    · intro hz
      rcases List.mem_cons.mp ((h z).mp (List.mem_cons_of_mem _ hz)) with e | q
      · subst e; exact absurd rfl (below_ne (a1 z hz))
      · exact q
    · intro hz
      rcases List.mem_cons.mp ((h z).mpr (List.mem_cons_of_mem _ hz)) with e | q
      · subst e; exact absurd rfl (below_ne (a2 z hz))
      · exact q
def climbs : Bytes → List Bytes → Bool
  | _, [] => true
  | p, x :: r => !below x p && climbs x r
def climb : List Bytes → Bool
  | [] => true
  | x :: r => climbs x r
theorem climbs_rising : ∀ {r : List Bytes} {p : Bytes}, climbs p r = true → (p :: r).Nodup → Rising (p :: r)
  | [], p, _, _ => List.pairwise_singleton _ _
  | x :: r, p, h, nd => by
    simp only [climbs, Bool.and_eq_true, Bool.not_eq_true'] at h
    obtain ⟨n1, n2⟩ := List.nodup_cons.mp nd
    have ih := climbs_rising h.2 n2
    have hpx : below p x = true := by
      rcases below_tri p x with q | q | q
      · exact q
      · subst q; exact absurd List.mem_cons_self n1
      · rw [h.1] at q; cases q
    refine List.pairwise_cons.mpr ⟨fun y hy => ?_, ih⟩
    rcases List.mem_cons.mp hy with rfl | hy
    · exact hpx
    · exact below_trans hpx ((List.pairwise_cons.mp ih).1 y hy)
theorem climb_rising {l : List Bytes} (h : climb l = true) (nd : l.Nodup) : Rising l := by
  cases l with
  | nil => exact List.Pairwise.nil
  | cons x r => exact climbs_rising h nd
theorem insertName_mem (n : Bytes) : ∀ (l : List Bytes) (x : Bytes), x ∈ insertName n l ↔ x = n ∨ x ∈ l
  | [], x => by simp [insertName]
  | y :: l, x => by
    unfold insertName
    split
    · rename_i e; subst e; simp
    · split
      · simp
      · simp only [List.mem_cons, insertName_mem n l x]
        constructor
        · rintro (h | h | h) <;> simp [h]
        · rintro (h | h | h) <;> simp [h]
theorem insertName_rising (n : Bytes) : ∀ {l : List Bytes}, Rising l → Rising (insertName n l)
  | [], _ => List.pairwise_singleton _ _
  | y :: l, h => by
    obtain ⟨a, b⟩ := List.pairwise_cons.mp h
    unfold insertName
    split
    · exact h
    · rename_i hne
      split
      · rename_i hb
        exact List.pairwise_cons.mpr ⟨fun z hz => by
          rcases List.mem_cons.mp hz with rfl | hz
          · exact hb
          · exact below_trans hb (a z hz), h⟩
      · rename_i hb
        refine List.pairwise_cons.mpr ⟨fun z hz => ?_, insertName_rising n b⟩
        rcases (insertName_mem n l z).mp hz with rfl | hz
        · rcases below_tri z y with q | q | q
          · exact absurd q hb
          · exact absurd q hne
          · exact q
        · exact a z hz
theorem foldName_mem : ∀ (ns l : List Bytes) (x : Bytes), x ∈ ns.foldl (fun l n => insertName n l) l ↔ x ∈ l ∨ x ∈ ns
  | [], l, x => by simp
  | n :: ns, l, x => by
    rw [List.foldl_cons, foldName_mem ns, insertName_mem]
    simp only [List.mem_cons]
    constructor
    · rintro ((h | h) | h) <;> simp [h]
    · rintro (h | h | h) <;> simp [h]
theorem foldName_rising : ∀ (ns : List Bytes) {l : List Bytes}, Rising l → Rising (ns.foldl (fun l n => insertName n l) l)
  | [], _, h => h
  | n :: ns, _, h => foldName_rising ns (insertName_rising n h)
def rawAtoms (c : Case) : List Bytes := ((c.laws ++ c.rules).flatMap Row.atoms) ++ c.rules.map Row.name
theorem atoms_rising (c : Case) : Rising c.atoms := foldName_rising _ List.Pairwise.nil
theorem atoms_mem (c : Case) (x : Bytes) : x ∈ c.atoms ↔ x ∈ rawAtoms c := by
  unfold Case.atoms
  rw [foldName_mem]
  simp [rawAtoms]
theorem mem_raw (c : Case) (x : Bytes) : x ∈ rawAtoms c ↔ (∃ r, (r ∈ c.laws ∨ r ∈ c.rules) ∧ (x = r.head.atom ∨ ∃ l ∈ r.body, x = l.atom)) ∨ ∃ r ∈ c.rules, x = r.name := by
  unfold rawAtoms
  simp only [List.mem_append, List.mem_flatMap, Row.atoms, List.mem_cons, List.mem_map]
  constructor
  · rintro (⟨r, hr, h | ⟨l, hl, e⟩⟩ | ⟨r, hr, e⟩)
    · exact .inl ⟨r, hr, .inl h⟩
    · exact .inl ⟨r, hr, .inr ⟨l, hl, e.symm⟩⟩
    · exact .inr ⟨r, hr, e.symm⟩
  · rintro (⟨r, hr, h | ⟨l, hl, e⟩⟩ | ⟨r, hr, e⟩)
    · exact .inl ⟨r, hr, .inl h⟩
    · exact .inl ⟨r, hr, .inr ⟨l, hl, e.symm⟩⟩
    · exact .inr ⟨r, hr, e.symm⟩
theorem insertRow_perm (r : Row) : ∀ l : List Row, (insertRow r l).Perm (r :: l)
  | [] => List.Perm.refl _
  | x :: l => by
    unfold insertRow
    split
    · exact List.Perm.refl _
    · exact ((insertRow_perm r l).cons x).trans (List.Perm.swap r x l)
theorem foldRow_perm : ∀ (rs l : List Row), (rs.foldl (fun l r => insertRow r l) l).Perm (l ++ rs)
  | [], l => by simp
  | r :: rs, l => by
    rw [List.foldl_cons]
    refine (foldRow_perm rs _).trans ?_
    refine ((insertRow_perm r l).append_right rs).trans ?_
    exact List.perm_middle.symm
abbrev RisingR (l : List Row) : Prop := l.Pairwise fun a b => below a.name b.name = true
theorem insertRow_rising (r : Row) : ∀ {l : List Row}, RisingR l → (∀ x ∈ l, x.name ≠ r.name) → RisingR (insertRow r l)
  | [], _, _ => List.pairwise_singleton _ _
  | x :: l, h, hn => by
    obtain ⟨a, b⟩ := List.pairwise_cons.mp h
    unfold insertRow
    split
    · rename_i hb
      exact List.pairwise_cons.mpr ⟨fun z hz => by
        rcases List.mem_cons.mp hz with rfl | hz
        · exact hb
        · exact below_trans hb (a z hz), h⟩
    · rename_i hb
      refine List.pairwise_cons.mpr ⟨fun z hz => ?_, insertRow_rising r b fun y hy => hn y (List.mem_cons_of_mem _ hy)⟩
      rcases List.mem_cons.mp ((insertRow_perm r l).mem_iff.mp hz) with rfl | hz
      · rcases below_tri z.name x.name with q | q | q
        · exact absurd q hb
        · exact absurd q.symm (hn x List.mem_cons_self)
        · exact q
      · exact a z hz
theorem foldRow_rising : ∀ (rs : List Row) {l : List Row}, RisingR l → ((l ++ rs).map Row.name).Nodup → RisingR (rs.foldl (fun l r => insertRow r l) l)
  | [], _, h, _ => h
  | r :: rs, l, h, nd => by
    rw [List.foldl_cons]
    have nd' : ((r :: (l ++ rs)).map Row.name).Nodup := (List.perm_middle.map Row.name).nodup_iff.mp nd
    have hn : ∀ x ∈ l, x.name ≠ r.name := fun x hx e => by
      rw [List.map_cons] at nd'
      exact (List.nodup_cons.mp nd').1 (by rw [← e]; exact List.mem_map.mpr ⟨x, List.mem_append_left _ hx, rfl⟩)
    refine foldRow_rising rs (insertRow_rising r h hn) ?_
    refine ((((insertRow_perm r l).append_right rs).map Row.name).nodup_iff).mpr ?_
    exact nd'
theorem form_laws_perm (c : Case) : c.form.laws.Perm c.laws := by
  have := foldRow_perm c.laws []
  rw [List.nil_append] at this
  exact this
theorem form_rules_perm (c : Case) : c.form.rules.Perm c.rules := by
  have := foldRow_perm c.rules []
  rw [List.nil_append] at this
  exact this
theorem form_laws_rising {c : Case} (h : (c.laws.map Row.name).Nodup) : RisingR c.form.laws := foldRow_rising c.laws List.Pairwise.nil (by simpa using h)
theorem form_rules_rising {c : Case} (h : (c.rules.map Row.name).Nodup) : RisingR c.form.rules := foldRow_rising c.rules List.Pairwise.nil (by simpa using h)
theorem form_raw (c : Case) (x : Bytes) : x ∈ rawAtoms c.form ↔ x ∈ rawAtoms c := by
  rw [mem_raw, mem_raw]
  have h1 := fun r => (form_laws_perm c).mem_iff (a := r)
  have h2 := fun r => (form_rules_perm c).mem_iff (a := r)
  simp only [h1, h2]
theorem form_atoms (c : Case) : c.form.atoms = c.atoms :=
  rising_unique (atoms_rising _) (atoms_rising _) fun x => by rw [atoms_mem, atoms_mem, form_raw]
def ixOf (a : List Bytes) (n : Bytes) : Nat := (a.findIdx? fun m => m == n).getD 0
def litNo (a : List Bytes) (l : Lit) : Nat := 2 * ixOf a l.atom + (if l.no = true then 1 else 0)
def bodyNo (a : List Bytes) (ls : List Lit) : Nat := ls.foldl (fun m l => with_ m (litNo a l)) 0
def lawNo (a : List Bytes) (r : Row) : Nat × Nat := (bodyNo a r.body, litNo a r.head)
def ruleNo (a : List Bytes) (r : Row) : Nat × Nat × Nat := (litNo a ⟨r.name, false⟩, bodyNo a r.body, litNo a r.head)
theorem find_of_mem : ∀ {a : List Bytes} {n : Bytes}, n ∈ a → ∃ i, (a.findIdx? fun m => m == n) = some i := fun {a n} h => by
  have : (a.findIdx? fun m => m == n).isSome = true := by
    rw [List.findIdx?_isSome]
    exact List.any_eq_true.mpr ⟨n, h, by simp⟩
  exact Option.isSome_iff_exists.mp this
theorem lit_eq {c : Case} {a : List Bytes} {l : Lit} (h : l.atom ∈ a) : c.lit a l = litNo a l := by
  obtain ⟨i, e⟩ := find_of_mem h
  unfold Case.lit litNo ixOf
  rw [e]; rfl
theorem foldl_congr' {α β : Type} {f g : β → α → β} : ∀ {l : List α} {b : β}, (∀ b, ∀ x ∈ l, f b x = g b x) → l.foldl f b = l.foldl g b
  | [], b, _ => rfl
  | x :: l, b, h => by
    rw [List.foldl_cons, List.foldl_cons, h b x List.mem_cons_self]
    exact foldl_congr' fun b y hy => h b y (List.mem_cons_of_mem _ hy)
theorem body_eq {c : Case} {a : List Bytes} {ls : List Lit} (h : ∀ l ∈ ls, l.atom ∈ a) : ls.foldl (fun (m : Nat) (l : Lit) => with_ m (c.lit a l)) 0 = bodyNo a ls :=
  foldl_congr' fun b l hl => by rw [lit_eq (h l hl)]
theorem row_atoms {c : Case} {r : Row} (h : r ∈ c.laws ∨ r ∈ c.rules) : r.head.atom ∈ c.atoms ∧ ∀ l ∈ r.body, l.atom ∈ c.atoms :=
  ⟨(atoms_mem c _).mpr ((mem_raw c _).mpr (.inl ⟨r, h, .inl rfl⟩)), fun l hl => (atoms_mem c _).mpr ((mem_raw c _).mpr (.inl ⟨r, h, .inr ⟨l, hl, rfl⟩⟩))⟩
theorem rule_atom {c : Case} {r : Row} (h : r ∈ c.rules) : r.name ∈ c.atoms := (atoms_mem c _).mpr ((mem_raw c _).mpr (.inr ⟨r, h, rfl⟩))
theorem numbered_eq (c : Case) : c.numbered = ⟨c.atoms.length, c.laws.map (lawNo c.atoms), c.rules.map (ruleNo c.atoms)⟩ := by
  unfold Case.numbered
  simp only [Numbered.mk.injEq, true_and]
  constructor
  · apply List.map_congr_left
    intro r hr
    obtain ⟨h1, h2⟩ := row_atoms (c := c) (.inl hr)
    rw [body_eq h2, lit_eq h1]; rfl
  · apply List.map_congr_left
    intro r hr
    obtain ⟨h1, h2⟩ := row_atoms (c := c) (.inr hr)
    rw [body_eq h2, lit_eq h1, lit_eq (show (⟨r.name, false⟩ : Lit).atom ∈ c.atoms from rule_atom hr)]; rfl
theorem form_numbered (c : Case) : c.form.numbered = ⟨c.atoms.length, c.form.laws.map (lawNo c.atoms), c.form.rules.map (ruleNo c.atoms)⟩ := by
  rw [numbered_eq, form_atoms]
theorem clash_form (c : Case) : c.form.numbered.clash 0 = c.numbered.clash 0 := by
  refine clash0_same ?_ ?_
  · rw [form_numbered, numbered_eq]
  · intro r
    rw [form_numbered, numbered_eq]
    simp only [List.mem_map]
    constructor
    · rintro ⟨q, hq, e⟩; exact ⟨q, (form_laws_perm c).mem_iff.mp hq, e⟩
    · rintro ⟨q, hq, e⟩; exact ⟨q, (form_laws_perm c).mem_iff.mpr hq, e⟩
end Jb
end M4_
section M5_
set_option autoImplicit false
namespace Jb
open Mo
inductive Path {α : Type} (R : α → α → Prop) : α → α → Prop
  | one {a b : α} (h : R a b) : Path R a b
  | more {a b c : α} (h : R a b) (p : Path R b c) : Path R a c
theorem Path.trans {α : Type} {R : α → α → Prop} {a b c : α} (p : Path R a b) (q : Path R b c) : Path R a c := by
  induction p with
  | one h => exact .more h q
  | more h _ ih => exact .more h (ih q)
theorem Path.map {α β : Type} {R : α → α → Prop} {S : β → β → Prop} {f : α → β} (h : ∀ a b, R a b → Path S (f a) (f b)) {a b : α} (p : Path R a b) : Path S (f a) (f b) := by
  induction p with
  | one e => exact h _ _ e
  | more e _ ih => exact (h _ _ e).trans ih
theorem Path.mono {α : Type} {R S : α → α → Prop} (h : ∀ a b, R a b → S a b) {a b : α} (p : Path R a b) : Path S a b := by
  induction p with
  | one e => exact .one (h _ _ e)
  | more e _ ih => exact .more (h _ _ e) ih
theorem Path.first {α : Type} {R : α → α → Prop} {a b : α} (p : Path R a b) : ∃ c, R a c := by
  cases p with
  | one h => exact ⟨_, h⟩
  | more h _ => exact ⟨_, h⟩
theorem Path.last {α : Type} {R : α → α → Prop} {a b : α} (p : Path R a b) : ∃ c, R c b := by
  induction p with
  | one h => exact ⟨_, h⟩
  | more _ _ ih => exact ih
abbrev RW (w : Weighs) (a b : Bytes) : Prop := (a, b) ∈ w
def stepW (r : List Bytes) (x : Bytes × Bytes) : List Bytes := if r.contains x.1 = true ∧ r.contains x.2 = false then x.2 :: r else r
def foldW (w : Weighs) (r : List Bytes) : List Bytes := w.foldl stepW r
theorem stepW_sub (r : List Bytes) (x : Bytes × Bytes) : ∀ y ∈ r, y ∈ stepW r x := fun y hy => by
  unfold stepW; split
  · exact List.mem_cons_of_mem _ hy
  · exact hy
theorem foldW_sub : ∀ (w : Weighs) (r : List Bytes), ∀ y ∈ r, y ∈ foldW w r
  | [], _, _, h => h
  | x :: w, r, y, h => foldW_sub w (stepW r x) y (stepW_sub r x y h)
theorem stepW_len (r : List Bytes) (x : Bytes × Bytes) : r.length ≤ (stepW r x).length := by
  unfold stepW; split
  · simp
  · exact Nat.le_refl _
theorem foldW_len : ∀ (w : Weighs) (r : List Bytes), r.length ≤ (foldW w r).length
  | [], _ => Nat.le_refl _
  | x :: w, r => Nat.le_trans (stepW_len r x) (foldW_len w (stepW r x))
theorem foldW_least {P : Bytes → Prop} : ∀ {w : Weighs} {r : List Bytes}, (∀ x ∈ w, P x.1 → P x.2) → (∀ y ∈ r, P y) → ∀ y ∈ foldW w r, P y
  | [], _, _, h => h
  | x :: w, r, c, h => by
    refine foldW_least (w := w) (r := stepW r x) (fun z hz => c z (List.mem_cons_of_mem _ hz)) fun y hy => ?_
    unfold stepW at hy
    split at hy
    · rename_i e
      rcases List.mem_cons.mp hy with rfl | hy
      · exact c x List.mem_cons_self (h _ (List.contains_iff_mem.mp e.1))
      · exact h y hy
    · exact h y hy
theorem foldW_closed : ∀ {w : Weighs} {r : List Bytes}, (foldW w r).length = r.length → foldW w r = r ∧ ∀ x ∈ w, x.1 ∈ r → x.2 ∈ r
  | [], _, _ => ⟨rfl, fun x hx => by cases hx⟩
  | x :: w, r, h => by
    have e : foldW (x :: w) r = foldW w (stepW r x) := rfl
    have h1 := foldW_len w (stepW r x)
    have h2 := stepW_len r x
    rw [e] at h
    have h3 : (stepW r x).length = r.length := by omega
    have e1 : stepW r x = r := by
      unfold stepW at h3 ⊢
      split
      · rename_i q; rw [if_pos q] at h3; simp at h3
      · rfl
    rw [e1] at h
    obtain ⟨i1, i2⟩ := foldW_closed h
    refine ⟨by rw [e, e1, i1], fun y hy => ?_⟩
    rcases List.mem_cons.mp hy with rfl | hy
    · intro hy1
      unfold stepW at e1
      split at e1
      · have := congrArg List.length e1; simp at this
      · rename_i q
        cases hc : r.contains y.2 with
        | true => exact List.contains_iff_mem.mp hc
        | false => exact absurd ⟨List.contains_iff_mem.mpr hy1, hc⟩ q
    · exact i2 y hy
def cntW (w : Weighs) (r : List Bytes) : Nat := (w.filter fun x => r.contains x.2).length
theorem cntW_le (w : Weighs) (r : List Bytes) : cntW w r ≤ w.length := List.length_filter_le _ _
theorem cntW_mono {r r' : List Bytes} (h : ∀ y ∈ r, y ∈ r') : ∀ w : Weighs, cntW w r ≤ cntW w r'
  | [] => Nat.le_refl _
  | x :: w => by
    have ih := cntW_mono h w
    unfold cntW at ih ⊢
    simp only [List.filter_cons]
    cases hF : r.contains x.2 with
    | true =>
      have : r'.contains x.2 = true := List.contains_iff_mem.mpr (h _ (List.contains_iff_mem.mp hF))
      rw [this]; simp only [if_true, List.length_cons]; omega
    | false =>
      simp only [Bool.false_eq_true, if_false]
      split
      · simp only [List.length_cons]; omega
      · exact ih
theorem cntW_lt {r r' : List Bytes} (h : ∀ y ∈ r, y ∈ r') : ∀ {w : Weighs} {x : Bytes × Bytes}, x ∈ w → r.contains x.2 = false → r'.contains x.2 = true → cntW w r < cntW w r'
  | q :: w, x, hx, h1, h2 => by
    rcases List.mem_cons.mp hx with rfl | hx
    · have ih := cntW_mono h w
      unfold cntW at ih ⊢
      simp only [List.filter_cons, h1, h2, Bool.false_eq_true, if_false, if_true, List.length_cons]
      omega
    · have ih := cntW_lt h hx h1 h2
      unfold cntW at ih ⊢
      simp only [List.filter_cons]
      cases hF : r.contains q.2 with
      | true =>
        have : r'.contains q.2 = true := List.contains_iff_mem.mpr (h _ (List.contains_iff_mem.mp hF))
        rw [this]; simp only [if_true, List.length_cons]; omega
      | false =>
        simp only [Bool.false_eq_true, if_false]
        split
        · simp only [List.length_cons]; omega
        · exact ih
theorem foldW_new : ∀ {w : Weighs} {r : List Bytes}, (foldW w r).length ≠ r.length → ∃ x ∈ w, r.contains x.2 = false ∧ (foldW w r).contains x.2 = true
  | [], _, h => absurd rfl h
  | x :: w, r, h => by
    have e : foldW (x :: w) r = foldW w (stepW r x) := rfl
    by_cases q : r.contains x.1 = true ∧ r.contains x.2 = false
    · refine ⟨x, List.mem_cons_self, q.2, ?_⟩
      rw [e]
      refine List.contains_iff_mem.mpr (foldW_sub w _ _ ?_)
      unfold stepW; rw [if_pos q]; exact List.mem_cons_self
    · have e1 : stepW r x = r := by unfold stepW; rw [if_neg q]
      rw [e, e1] at h
      obtain ⟨y, hy, a, b⟩ := foldW_new h
      exact ⟨y, List.mem_cons_of_mem _ hy, a, by rw [e, e1]; exact b⟩
theorem onFrom_succ (w : Weighs) (f : Nat) (l : List Bytes) : onFrom w (f + 1) l = if (foldW w l).length = l.length then l else onFrom w f (foldW w l) := rfl
theorem on_sub (w : Weighs) : ∀ (f : Nat) (l : List Bytes), ∀ y ∈ l, y ∈ onFrom w f l
  | 0, _, _, h => h
  | f + 1, l, y, h => by
    rw [onFrom_succ]; split
    · exact h
    · exact on_sub w f _ y (foldW_sub w l y h)
theorem on_least {P : Bytes → Prop} {w : Weighs} (c : ∀ x ∈ w, P x.1 → P x.2) : ∀ (f : Nat) (l : List Bytes), (∀ y ∈ l, P y) → ∀ y ∈ onFrom w f l, P y
  | 0, _, h => h
  | f + 1, l, h => by
    rw [onFrom_succ]; split
    · exact h
    · exact on_least c f _ (foldW_least c h)
theorem on_closed (w : Weighs) : ∀ (f : Nat) (l : List Bytes), w.length + 1 ≤ f + cntW w l → ∀ x ∈ w, x.1 ∈ onFrom w f l → x.2 ∈ onFrom w f l
  | 0, l, h => by have := cntW_le w l; omega
  | f + 1, l, h => by
    rw [onFrom_succ]; split
    · rename_i e; exact (foldW_closed e).2
    · rename_i e
      obtain ⟨x, hx, a, b⟩ := foldW_new e
      have := cntW_lt (foldW_sub w l) hx a b
      exact on_closed w f _ (by omega)
theorem path_in {w : Weighs} {l : List Bytes} (c : ∀ x ∈ w, x.1 ∈ l → x.2 ∈ l) {a b : Bytes} (p : Path (RW w) a b) : a ∈ l → b ∈ l := by
  induction p with
  | one h => exact c _ h
  | more h _ ih => exact fun ha => ih (c _ h ha)
theorem outweighs_iff (w : Weighs) (x y : Bytes) : outweighs w x y = true ↔ Path (RW w) x y := by
  unfold outweighs
  rw [List.any_eq_true]
  simp only [Bool.and_eq_true, beq_iff_eq, List.contains_iff_mem]
  constructor
  · rintro ⟨z, hz, rfl, hy⟩
    have := on_least (P := fun b => b = z.2 ∨ Path (RW w) z.2 b) (w := w) (fun q hq h => by
      rcases h with h | h
      · right; rw [← h]; exact .one hq
      · right; exact h.trans (.one hq)) (w.length + 1) [z.2] (fun b hb => .inl (by simpa using hb)) y hy
    rcases this with rfl | h
    · exact .one hz
    · exact .more hz h
  · intro p
    have go : ∀ b, RW w x b → (y = b ∨ Path (RW w) b y) → ∃ z ∈ w, z.1 = x ∧ y ∈ onFrom w (w.length + 1) [z.2] := by
      intro b hb h
      refine ⟨(x, b), hb, rfl, ?_⟩
      have hin : b ∈ onFrom w (w.length + 1) [b] := on_sub w _ _ b (by simp)
      rcases h with rfl | h
      · exact hin
      · exact path_in (on_closed w _ _ (by omega)) h hin
    cases p with
    | one h => exact go _ h (.inl rfl)
    | more h p => exact go _ h (.inr p)
theorem goesRound_iff (w : Weighs) : goesRound w = true ↔ ∃ a, Path (RW w) a a := by
  unfold goesRound
  rw [List.any_eq_true]
  constructor
  · rintro ⟨z, _, h⟩; exact ⟨z.1, (outweighs_iff _ _ _).mp h⟩
  · rintro ⟨a, p⟩
    obtain ⟨c, hc⟩ := p.first
    exact ⟨(a, c), hc, (outweighs_iff _ _ _).mpr p⟩
abbrev RM (rows : List Nat) (i j : Nat) : Prop := ∃ r, rows[i]? = some r ∧ r.testBit j = true
def wRow (k rk r : Nat) : Nat := if r.testBit k = true then r ||| rk else r
def wStep (rows : List Nat) (k : Nat) : List Nat := rows.map (wRow k (rows.getD k 0))
def goingOn (rows : List Nat) : List Nat := (List.range rows.length).foldl wStep rows
theorem wRow_self (k r : Nat) : wRow k r r = r := by
  unfold wRow; split
  · exact Nat.or_self r
  · rfl
theorem wRow_bit (k rk r j : Nat) : (wRow k rk r).testBit j = true ↔ r.testBit j = true ∨ (r.testBit k = true ∧ rk.testBit j = true) := by
  unfold wRow; split
  · rename_i h; rw [Nat.testBit_or]; simp [h]
  · rename_i h; simp [h]
theorem wStep_len (rows : List Nat) (k : Nat) : (wStep rows k).length = rows.length := by simp [wStep]
theorem wStep_rel (rows : List Nat) (k i j : Nat) : RM (wStep rows k) i j ↔ RM rows i j ∨ (RM rows i k ∧ RM rows k j) := by
  unfold RM wStep
  simp only [List.getElem?_map]
  have hk : ∀ rk : Nat, rows.getD k 0 = rk → (rk.testBit j = true ↔ ∃ r, rows[k]? = some r ∧ r.testBit j = true) := by
    rintro rk rfl
    cases e : rows[k]? with
    | none => simp [List.getD, e]
    | some r => simp [List.getD, e]
  cases e : rows[i]? with
  | none => simp
  | some r =>
    simp only [Option.map_some, Option.some.injEq, exists_eq_left']
    rw [wRow_bit, hk _ rfl]
structure WOk (rows cur : List Nat) (k : Nat) : Prop where
  len : cur.length = rows.length
  lo : ∀ i j, RM rows i j → RM cur i j
  hi : ∀ i j, RM cur i j → Path (RM rows) i j
  via : ∀ v, v < k → ∀ i j, RM cur i v → RM cur v j → RM cur i j
theorem wok_step {rows cur : List Nat} {k : Nat} (h : WOk rows cur k) : WOk rows (wStep cur k) (k + 1) where
  len := by rw [wStep_len]; exact h.len
  lo := fun i j r => (wStep_rel _ _ _ _).mpr (.inl (h.lo i j r))
  hi := fun i j r => by
    rcases (wStep_rel _ _ _ _).mp r with r | ⟨a, b⟩
    · exact h.hi i j r
    · exact (h.hi i k a).trans (h.hi k j b)
  via := fun v hv i j a b => by
    rw [wStep_rel] at a b ⊢
    by_cases e : v = k
    · subst e
      have a' : RM cur i v := by rcases a with a | ⟨a, _⟩ <;> exact a
      have b' : RM cur v j := by rcases b with b | ⟨_, b⟩ <;> exact b
      exact .inr ⟨a', b'⟩
    · have hv : v < k := by omega
      rcases a with a | ⟨a1, a2⟩ <;> rcases b with b | ⟨b1, b2⟩
      · exact .inl (h.via v hv i j a b)
      · exact .inr ⟨h.via v hv i k a b1, b2⟩
      · exact .inr ⟨a1, h.via v hv k j a2 b⟩
      · exact .inr ⟨a1, b2⟩
theorem wok_fold {rows : List Nat} : ∀ (n : Nat), WOk rows ((List.range n).foldl wStep rows) n
  | 0 => ⟨rfl, fun _ _ h => h, fun _ _ h => .one h, fun v hv => by omega⟩
  | n + 1 => by
    rw [List.range_succ, List.foldl_append]
    exact wok_step (wok_fold n)
theorem goingOn_len (rows : List Nat) : (goingOn rows).length = rows.length := (wok_fold rows.length).len
theorem goingOn_iff (rows : List Nat) (i j : Nat) : RM (goingOn rows) i j ↔ Path (RM rows) i j := by
  have h : WOk rows (goingOn rows) rows.length := wok_fold rows.length
  constructor
  · exact h.hi i j
  · intro p
    induction p with
    | one e => exact h.lo _ _ e
    | @more a b c e p ih =>
      obtain ⟨_, r, hr, _⟩ := p.first
      have hb : b < rows.length := (List.getElem?_eq_some_iff.mp hr).1
      exact h.via b hb a c (h.lo _ _ e) ih
def selfRow (rows : List Nat) : Bool := rows.zipIdx.any fun x => x.1.testBit x.2
theorem selfRow_iff (rows : List Nat) : selfRow rows = true ↔ ∃ i, RM rows i i := by
  unfold selfRow RM
  rw [List.any_eq_true]
  constructor
  · rintro ⟨⟨r, i⟩, hx, hb⟩
    exact ⟨i, r, List.mk_mem_zipIdx_iff_getElem?.mp hx, hb⟩
  · rintro ⟨i, r, hr, hb⟩
    exact ⟨(r, i), List.mk_mem_zipIdx_iff_getElem?.mpr hr, hb⟩
structure WInv (ns : List Bytes) (w : Weighs) (rows : List Nat) : Prop where
  len : rows.length = ns.length
  bit : ∀ i j, RM rows i j ↔ ∃ a b, ns[i]? = some a ∧ ns[j]? = some b ∧ Path (RW w) a b
  mem : ∀ x ∈ w, x.1 ∈ ns ∧ x.2 ∈ ns
theorem WInv.nil : WInv [] [] [] := ⟨rfl, fun i j => by
  constructor
  · rintro ⟨r, h, _⟩; simp at h
  · rintro ⟨a, b, h, _⟩; simp at h, fun x hx => by cases hx⟩
theorem WInv.rule {ns : List Bytes} {w : Weighs} {rows : List Nat} (h : WInv ns w rows) {n : Bytes} (hn : n ∉ ns) : WInv (ns ++ [n]) w (rows ++ [0]) where
  len := by simp [h.len]
  mem := fun x hx => ⟨List.mem_append_left _ (h.mem x hx).1, List.mem_append_left _ (h.mem x hx).2⟩
  bit := fun i j => by
    have inN : ∀ {a b : Bytes}, Path (RW w) a b → a ∈ ns ∧ b ∈ ns := fun p => by
      obtain ⟨c, hc⟩ := p.first
      obtain ⟨d, hd⟩ := p.last
      exact ⟨(h.mem _ hc).1, (h.mem _ hd).2⟩
    have out : ∀ {i : Nat} {a : Bytes}, a ∈ ns → (ns ++ [n])[i]? = some a → ns[i]? = some a := fun {i a} ha e => by
      rcases Nat.lt_or_ge i ns.length with hi | hi
      · rwa [List.getElem?_append_left hi] at e
      · rw [List.getElem?_append_right hi] at e
        rcases Nat.eq_zero_or_pos (i - ns.length) with z | z
        · rw [z] at e
          have : n = a := by simpa using e
          subst this; exact absurd ha hn
        · rw [List.getElem?_eq_none (by simp; omega)] at e; cases e
    constructor
    · rintro ⟨r, hr, hb⟩
      rcases Nat.lt_or_ge i rows.length with hi | hi
      · rw [List.getElem?_append_left hi] at hr
        obtain ⟨a, b, e1, e2, p⟩ := (h.bit i j).mp ⟨r, hr, hb⟩
        refine ⟨a, b, ?_, ?_, p⟩
        · rw [List.getElem?_append_left (List.getElem?_eq_some_iff.mp e1).1]; exact e1
        · rw [List.getElem?_append_left (List.getElem?_eq_some_iff.mp e2).1]; exact e2
      · rw [List.getElem?_append_right hi] at hr
        have : r = 0 := by
          rcases Nat.eq_zero_or_pos (i - rows.length) with z | z
          · rw [z] at hr; have : 0 = r := by simpa using hr
            exact this.symm
          · rw [List.getElem?_eq_none (by simp; omega)] at hr; cases hr
        subst this; simp at hb
    · rintro ⟨a, b, e1, e2, p⟩
      obtain ⟨ha, hb⟩ := inN p
      obtain ⟨r, hr, hbit⟩ := (h.bit i j).mpr ⟨a, b, out ha e1, out hb e2, p⟩
      exact ⟨r, by rw [List.getElem?_append_left (List.getElem?_eq_some_iff.mp hr).1]; exact hr, hbit⟩
def putBit (rows : List Nat) (i j : Nat) : List Nat := rows.set i (rows.getD i 0 ||| 2 ^ j)
theorem putBit_rel {rows : List Nat} {i j : Nat} (hi : i < rows.length) (a b : Nat) : RM (putBit rows i j) a b ↔ RM rows a b ∨ (a = i ∧ b = j) := by
  unfold putBit RM
  have e : rows.getD i 0 = rows[i] := by simp [List.getD, hi]
  by_cases h : i = a
  · subst h
    rw [List.getElem?_set_self hi]
    simp only [Option.some.injEq, exists_eq_left', Nat.testBit_or, Nat.testBit_two_pow, Bool.or_eq_true, decide_eq_true_eq, true_and, e]
    rw [List.getElem?_eq_getElem hi]
    simp only [Option.some.injEq, exists_eq_left']
    constructor
    · rintro (h | h)
      · exact .inl h
      · exact .inr h.symm
    · rintro (h | h)
      · exact .inl h
      · exact .inr h.symm
  · rw [List.getElem?_set_ne h]
    constructor
    · exact .inl
    · rintro (q | ⟨q, _⟩)
      · exact q
      · exact absurd q.symm h
theorem ix_inj {ns : List Bytes} (nd : ns.Nodup) {i j : Nat} {a : Bytes} (h1 : ns[i]? = some a) (h2 : ns[j]? = some a) : i = j := by
  obtain ⟨l1, e1⟩ := List.getElem?_eq_some_iff.mp h1
  obtain ⟨l2, e2⟩ := List.getElem?_eq_some_iff.mp h2
  exact (List.getElem_inj nd).mp (e1.trans e2.symm)
theorem WInv.weigh {ns : List Bytes} {w : Weighs} {rows : List Nat} (h : WInv ns w rows) (nd : ns.Nodup) {i j : Nat} {x y : Bytes} (hi : ns[i]? = some x) (hj : ns[j]? = some y) : WInv ns (w ++ [(x, y)]) (goingOn (putBit rows i j)) where
  len := by rw [goingOn_len]; simp [putBit, h.len]
  mem := fun z hz => by
    rcases List.mem_append.mp hz with hz | hz
    · exact h.mem z hz
    · have : z = (x, y) := by simpa using hz
      subst this
      exact ⟨List.mem_of_getElem? hi, List.mem_of_getElem? hj⟩
  bit := fun a b => by
    have hil : i < rows.length := by rw [h.len]; exact (List.getElem?_eq_some_iff.mp hi).1
    rw [goingOn_iff]
    have inN : ∀ {a b : Bytes}, Path (RW w) a b → Path (RW (w ++ [(x, y)])) a b := fun p => p.mono fun a b q => List.mem_append_left _ q
    -- an edge by numbers is a path by names
    have toN : ∀ a b, RM (putBit rows i j) a b → ∃ u v, ns[a]? = some u ∧ ns[b]? = some v ∧ Path (RW (w ++ [(x, y)])) u v := fun a b r => by
      rcases (putBit_rel hil a b).mp r with r | ⟨rfl, rfl⟩
      · obtain ⟨u, v, e1, e2, p⟩ := (h.bit a b).mp r
        exact ⟨u, v, e1, e2, inN p⟩
      · exact ⟨x, y, hi, hj, .one (List.mem_append_right _ (by simp))⟩
    constructor
    · intro p
      induction p with
      | one r => exact toN _ _ r
      | more r _ ih =>
        obtain ⟨u, v, e1, e2, p⟩ := toN _ _ r
        obtain ⟨v', z, e3, e4, q⟩ := ih
        rw [e2] at e3; cases e3
        exact ⟨u, z, e1, e4, p.trans q⟩
    · rintro ⟨u, v, e1, e2, p⟩
      -- an edge by names is one by numbers
      have toM : ∀ {u v : Bytes}, RW (w ++ [(x, y)]) u v → ∃ a b, ns[a]? = some u ∧ ns[b]? = some v ∧ RM (putBit rows i j) a b := fun {u v} r => by
        rcases List.mem_append.mp r with r | r
        · obtain ⟨m1, m2⟩ := h.mem _ r
          obtain ⟨a, ea⟩ := List.getElem?_of_mem m1
          obtain ⟨b, eb⟩ := List.getElem?_of_mem m2
          exact ⟨a, b, ea, eb, (putBit_rel hil a b).mpr (.inl ((h.bit a b).mpr ⟨u, v, ea, eb, .one r⟩))⟩
        · have : (u, v) = (x, y) := by simpa using r
          cases this
          exact ⟨i, j, hi, hj, (putBit_rel hil i j).mpr (.inr ⟨rfl, rfl⟩)⟩
      induction p generalizing a with
      | one r =>
        obtain ⟨a', b', f1, f2, m⟩ := toM r
        rw [← ix_inj nd f1 e1, ← ix_inj nd f2 e2]
        exact .one m
      | more r p ih =>
        obtain ⟨a', b', f1, f2, m⟩ := toM r
        rw [← ix_inj nd f1 e1]
        exact .more m (ih b' f2 e2)
theorem WInv.round {ns : List Bytes} {w : Weighs} {rows : List Nat} (h : WInv ns w rows) : selfRow rows = goesRound w := by
  have e : selfRow rows = true ↔ goesRound w = true := by
    rw [selfRow_iff, goesRound_iff]
    constructor
    · rintro ⟨i, r⟩
      obtain ⟨a, b, e1, e2, p⟩ := (h.bit i i).mp r
      rw [e1] at e2; cases e2
      exact ⟨a, p⟩
    · rintro ⟨a, p⟩
      obtain ⟨c, hc⟩ := p.first
      obtain ⟨i, ei⟩ := List.getElem?_of_mem (h.mem _ hc).1
      exact ⟨i, (h.bit i i).mpr ⟨a, a, ei, ei, p⟩⟩
  cases h1 : selfRow rows <;> cases h2 : goesRound w <;> simp_all
end Jb
end M5_
section M6_
set_option autoImplicit false
namespace Jb
open Mo
theorem mem_members (n S i : Nat) : i ∈ membersOf n S ↔ i < n ∧ S.testBit i = true := by
  unfold membersOf held
  rw [List.mem_filter, List.mem_range]
theorem maskFrom_bit (f : Nat → Bool) (b : Nat) : ∀ (l : List Nat) (m : Nat), (l.foldl (fun (m i : Nat) => if f i = true then with_ m i else m) m).testBit b = true ↔ m.testBit b = true ∨ (b ∈ l ∧ f b = true)
  | [], m => by simp
  | x :: l, m => by
    rw [List.foldl_cons, maskFrom_bit f b l]
    by_cases hx : f x = true
    · rw [if_pos hx, with_bit]
      simp only [Bool.or_eq_true, decide_eq_true_eq, List.mem_cons]
      constructor
      · rintro ((h | rfl) | ⟨h, q⟩)
        · exact .inl h
        · exact .inr ⟨.inl rfl, hx⟩
        · exact .inr ⟨.inr h, q⟩
      · rintro (h | ⟨rfl | h, q⟩)
        · exact .inl (.inl h)
        · exact .inl (.inr rfl)
        · exact .inr ⟨h, q⟩
    · rw [if_neg hx]
      simp only [List.mem_cons]
      constructor
      · rintro (h | ⟨h, q⟩)
        · exact .inl h
        · exact .inr ⟨.inr h, q⟩
      · rintro (h | ⟨rfl | h, q⟩)
        · exact .inl h
        · exact absurd q hx
        · exact .inr ⟨h, q⟩
theorem maskOf_bit (n : Nat) (f : Nat → Bool) (b : Nat) : (maskOf n f).testBit b = true ↔ b < n ∧ f b = true := by
  unfold maskOf
  rw [maskFrom_bit]
  simp
theorem pairs_eq (n : Nat) : ∀ q : Nat, ((List.range q).flatMap fun (j : Nat) => (List.range n).map fun (i : Nat) => (j, i)) = (List.range (q * n)).map fun x => (x / n, x % n)
  | 0 => by simp
  | q + 1 => by
    rw [List.range_succ, List.flatMap_append, pairs_eq n q, Nat.succ_mul, List.range_add, List.map_append]
    congr 1
    simp only [List.flatMap_cons, List.flatMap_nil, List.append_nil, List.map_map]
    apply List.map_congr_left
    intro i hi
    have hi : i < n := List.mem_range.mp hi
    have hn : 0 < n := by omega
    simp only [Function.comp]
    rw [Nat.mul_comm q n, Nat.mul_add_div hn, Nat.mul_add_mod, Nat.div_eq_of_lt hi, Nat.mod_eq_of_lt hi]
    simp
theorem tableOf_len (n : Nat) (hn : 0 < n) : ∀ (f : Nat) (l : List Nat) (q : Nat), l.length = q * n → q ≤ f → (tableOf n f l).length = q
  | 0, l, q, hl, hq => by
    have : q = 0 := by omega
    subst this; rfl
  | f + 1, l, q, hl, hq => by
    unfold tableOf
    by_cases h : l = []
    · subst h
      rw [if_pos rfl]
      rcases Nat.eq_zero_or_pos q with z | z
      · subst z; rfl
      · have := Nat.mul_pos z hn
        simp at hl; omega
    · rw [if_neg h]
      have hpos : 0 < l.length := List.length_pos_iff.mpr h
      obtain ⟨q', rfl⟩ : ∃ q', q = q' + 1 := ⟨q - 1, by
        rcases Nat.eq_zero_or_pos q with z | z
        · subst z; simp at hl; exact absurd hl h
        · omega⟩
      rw [List.length_cons, tableOf_len n hn f (l.drop n) q' (by rw [List.length_drop, hl, Nat.succ_mul]; omega) (by omega)]
theorem tableOf_at (n : Nat) (hn : 0 < n) : ∀ (f : Nat) (l : List Nat) (q : Nat), l.length = q * n → q ≤ f → ∀ j i, i < n → ((tableOf n f l).getD j []).getD i 0 = if j < q then l.getD (j * n + i) 0 else 0
  | 0, l, q, hl, hq, j, i, hi => by
    have : q = 0 := by omega
    subst this
    simp [tableOf]
  | f + 1, l, q, hl, hq, j, i, hi => by
    unfold tableOf
    by_cases h : l = []
    · subst h
      rw [if_pos rfl]
      simp
    · rw [if_neg h]
      have hpos : 0 < l.length := List.length_pos_iff.mpr h
      obtain ⟨q', rfl⟩ : ∃ q', q = q' + 1 := ⟨q - 1, by
        rcases Nat.eq_zero_or_pos q with z | z
        · subst z; simp at hl; exact absurd hl h
        · omega⟩
      have hle : n ≤ l.length := by rw [hl, Nat.succ_mul]; omega
      cases j with
      | zero =>
        simp only [List.getD_cons_zero, Nat.zero_mul, Nat.zero_add, Nat.zero_lt_succ, if_true]
        simp only [List.getD_eq_getElem?_getD, List.getElem?_take_of_lt hi]
      | succ j =>
        rw [List.getD_cons_succ, tableOf_at n hn f (l.drop n) q' (by rw [List.length_drop, hl, Nat.succ_mul]; omega) (by omega) j i hi]
        have e : (j + 1) * n + i = n + (j * n + i) := by rw [Nat.succ_mul]; omega
        rw [e]
        simp only [List.getD_eq_getElem?_getD, List.getElem?_drop, Nat.add_lt_add_iff_right]
def bad2 (n : Nat) (l : List Nat) (x : Nat) : Bool := decide (2 ^ n ≤ l.getD x 0) || (l.getD x 0).testBit (x % n)
def bad3 (n : Nat) (l : List Nat) (x : Nat) : Bool := (membersOf n (l.getD x 0)).any fun k => !(within (l.getD (x / n * n + k) 0) (l.getD x 0))
def faultAt (n : Nat) (l : List Nat) : Option (Nat × Nat × Nat) := match (List.range l.length).find? (bad2 n l) with
  | some x => some (2, x / n, x % n)
  | none => match (List.range l.length).find? (bad3 n l) with
    | some x => some (3, x / n, x % n)
    | none => none
theorem find_congr {α : Type} {p q : α → Bool} : ∀ {l : List α}, (∀ x ∈ l, p x = q x) → l.find? p = l.find? q
  | [], _ => rfl
  | x :: l, h => by
    rw [List.find?_cons, List.find?_cons, h x List.mem_cons_self, find_congr fun y hy => h y (List.mem_cons_of_mem _ hy)]
theorem judge_eq {n : Nat} {l : List Nat} {q : Nat} (hn : 0 < n) (hl : l.length = q * n) (hq : q ≤ 8) : judgeBench n (tableOf n 8 l) = faultAt n l := by
  unfold judgeBench faultAt
  have hlen := tableOf_len n hn 8 l q hl hq
  rw [hlen]
  simp only [pairs_eq, List.find?_map]
  have at1 : ∀ x, x < q * n → ((tableOf n 8 l).getD (x / n) []).getD (x % n) 0 = l.getD x 0 := fun x hx => by
    rw [tableOf_at n hn 8 l q hl hq _ _ (Nat.mod_lt _ hn), if_pos ((Nat.div_lt_iff_lt_mul hn).mpr hx)]
    rw [Nat.mul_comm, Nat.div_add_mod]
  have at2 : ∀ x k, x < q * n → k < n → ((tableOf n 8 l).getD (x / n) []).getD k 0 = l.getD (x / n * n + k) 0 := fun x k hx hk => by
    rw [tableOf_at n hn 8 l q hl hq _ _ hk, if_pos ((Nat.div_lt_iff_lt_mul hn).mpr hx)]
  have e1 : (List.range (q * n)).find? ((fun (x : Nat × Nat) => decide (2 ^ n ≤ ((tableOf n 8 l).getD x.1 []).getD x.2 0) || held (((tableOf n 8 l).getD x.1 []).getD x.2 0) x.2) ∘ fun x => (x / n, x % n)) = (List.range l.length).find? (bad2 n l) := by
    rw [hl]
    refine find_congr fun x hx => ?_
    have hx : x < q * n := List.mem_range.mp hx
    simp only [Function.comp, bad2, held, at1 x hx]
  have e2 : (List.range (q * n)).find? ((fun (x : Nat × Nat) => (membersOf n (((tableOf n 8 l).getD x.1 []).getD x.2 0)).any fun (k : Nat) => !(within (((tableOf n 8 l).getD x.1 []).getD k 0) (((tableOf n 8 l).getD x.1 []).getD x.2 0))) ∘ fun x => (x / n, x % n)) = (List.range l.length).find? (bad3 n l) := by
    rw [hl]
    refine find_congr fun x hx => ?_
    have hx : x < q * n := List.mem_range.mp hx
    simp only [Function.comp, bad3, at1 x hx]
    have : ∀ k ∈ membersOf n (l.getD x 0), (!(within (((tableOf n 8 l).getD (x / n) []).getD k 0) (l.getD x 0))) = !(within (l.getD (x / n * n + k) 0) (l.getD x 0)) := fun k hk => by
      rw [at2 x k hx ((mem_members _ _ _).mp hk).1]
    generalize membersOf n (l.getD x 0) = ms at this
    induction ms with
    | nil => rfl
    | cons k ms ih => rw [List.any_cons, List.any_cons, this k List.mem_cons_self, ih fun j hj => this j (List.mem_cons_of_mem _ hj)]
  rw [e1, e2]
  cases (List.range l.length).find? (bad2 n l) with
  | some x => rfl
  | none => cases (List.range l.length).find? (bad3 n l) <;> rfl
end Jb
end M6_
section M7_
set_option autoImplicit false
namespace Jb
open Mo
structure RowOk (r : Row) : Prop where
  name : isName r.name = true
  head : isName r.head.atom = true
  body : ∀ l ∈ r.body, isName l.atom = true
  few : r.body.length ≤ 6
def LineOk : Line → Prop
  | .law r => RowOk r
  | .rule r => RowOk r
  | .weigh x y => isName x = true ∧ isName y = true
theorem line_ok {b : Bytes} {l : Line} (h : lineIn b = some l) : LineOk l := by
  unfold lineIn at h
  split at h
  · split at h
    · obtain ⟨q, hq, rfl⟩ := Option.map_eq_some_iff.mp h
      obtain ⟨a, b, c, d⟩ := row_ok arrow_law1 arrow_law2 hq
      exact ⟨a, b, c, d⟩
    · split at h
      · obtain ⟨q, hq, rfl⟩ := Option.map_eq_some_iff.mp h
        obtain ⟨a, b, c, d⟩ := row_ok arrow_rule1 arrow_rule2 hq
        exact ⟨a, b, c, d⟩
      · split at h
        · split at h
          · split at h
            · rename_i hh; cases h; exact ⟨hh.2.1, hh.2.2⟩
            · cases h
          · cases h
        · cases h
  · cases h
structure Good (c : Case) : Prop where
  nd : c.names.Nodup
  ok : ∀ r, r ∈ c.laws ∨ r ∈ c.rules → RowOk r
  nl : c.laws.length ≤ 64
  nr : c.rules.length ≤ 10
  na : c.atoms.length ≤ 64
theorem Good.none : Good Case.none_ where
  nd := by simp [Case.names, Case.none_]
  ok := fun r h => by
    rcases h with h | h
    · cases h
    · cases h
  nl := by simp [Case.none_]
  nr := by simp [Case.none_]
  na := by decide
theorem Good.ndl {c : Case} (g : Good c) : (c.laws.map Row.name).Nodup := by
  have := g.nd; unfold Case.names at this; rw [List.map_append] at this; exact (List.nodup_append.mp this).1
theorem Good.ndr {c : Case} (g : Good c) : (c.rules.map Row.name).Nodup := by
  have := g.nd; unfold Case.names at this; rw [List.map_append] at this; exact (List.nodup_append.mp this).2.1
theorem not_contains {α : Type} [BEq α] [LawfulBEq α] {l : List α} {x : α} (h : ¬ l.contains x = true) : x ∉ l := fun m => h (List.contains_iff_mem.mpr m)
theorem nd_snoc' {α : Type} {l : List α} {x : α} (h : l.Nodup) (hx : x ∉ l) : (l ++ [x]).Nodup := by
  rw [List.nodup_append]
  refine ⟨h, by simp, fun a ha b hb => ?_⟩
  have : b = x := by simpa using hb
  subst this
  rintro rfl; exact hx ha
theorem wrong_law {c : Case} {r : Row} : wrong c (.law r) = none ↔ r.name ∉ c.names ∧ r.body.Nodup ∧ c.laws.any (sameRow r) = false ∧ c.laws.length + 1 ≤ 64 ∧ (c.add (.law r)).atoms.length ≤ 64 ∧ (c.add (.law r)).numbered.clash 0 = false := by
  unfold wrong
  have hL : LAWS = 64 := rfl
  have hA : ATOMS = 64 := rfl
  have hd : (c.add (.law r)).laws.length = c.laws.length + 1 := by simp [Case.add]
  simp only [hd, hL, hA, distinct]
  by_cases h1 : c.names.contains r.name = true
  · rw [if_pos h1]
    simp only [reduceCtorEq, false_iff]
    rintro ⟨q, _⟩; exact q (List.contains_iff_mem.mp h1)
  · rw [if_neg h1]
    by_cases h2 : decide r.body.Nodup = false ∨ c.laws.any (sameRow r) = true
    · rw [if_pos h2]
      simp only [reduceCtorEq, false_iff]
      rintro ⟨_, q1, q2, _⟩
      rcases h2 with h2 | h2
      · simp [q1] at h2
      · rw [q2] at h2; cases h2
    · rw [if_neg h2]
      have h2a : r.body.Nodup := by
        cases q : decide r.body.Nodup with
        | true => simpa using q
        | false => exact absurd (.inl q) h2
      have h2b : c.laws.any (sameRow r) = false := by
        cases q : c.laws.any (sameRow r) with
        | true => exact absurd (.inr q) h2
        | false => rfl
      by_cases h3 : 64 < c.laws.length + 1 ∨ 64 < (c.add (.law r)).atoms.length
      · rw [if_pos h3]
        simp only [reduceCtorEq, false_iff]
        rintro ⟨_, _, _, q1, q2, _⟩; omega
      · rw [if_neg h3]
        by_cases h4 : (c.add (.law r)).numbered.clash 0 = true
        · rw [if_pos h4]
          simp [h4]
        · rw [if_neg h4]
          simp only [true_iff]
          exact ⟨not_contains h1, h2a, h2b, by omega, by omega, by simpa using h4⟩
theorem wrong_rule {c : Case} {r : Row} : wrong c (.rule r) = none ↔ r.name ∉ c.names ∧ r.body.Nodup ∧ c.rules.any (sameRow r) = false ∧ c.rules.length + 1 ≤ 10 ∧ (c.add (.rule r)).atoms.length ≤ 64 := by
  unfold wrong
  have hL : RULES = 10 := rfl
  have hA : ATOMS = 64 := rfl
  have hd : (c.add (.rule r)).rules.length = c.rules.length + 1 := by simp [Case.add]
  simp only [hd, hL, hA, distinct]
  by_cases h1 : c.names.contains r.name = true
  · rw [if_pos h1]
    simp only [reduceCtorEq, false_iff]
    rintro ⟨q, _⟩; exact q (List.contains_iff_mem.mp h1)
  · rw [if_neg h1]
    by_cases h2 : decide r.body.Nodup = false ∨ c.rules.any (sameRow r) = true
    · rw [if_pos h2]
      simp only [reduceCtorEq, false_iff]
      rintro ⟨_, q1, q2, _⟩
      rcases h2 with h2 | h2
      · simp [q1] at h2
      · rw [q2] at h2; cases h2
    · rw [if_neg h2]
      have h2a : r.body.Nodup := by
        cases q : decide r.body.Nodup with
        | true => simpa using q
        | false => exact absurd (.inl q) h2
      have h2b : c.rules.any (sameRow r) = false := by
        cases q : c.rules.any (sameRow r) with
        | true => exact absurd (.inr q) h2
        | false => rfl
      by_cases h3 : 10 < c.rules.length + 1 ∨ 64 < (c.add (.rule r)).atoms.length
      · rw [if_pos h3]
        simp only [reduceCtorEq, false_iff]
        rintro ⟨_, _, _, q1, q2⟩; omega
      · rw [if_neg h3]
        simp only [true_iff]
        exact ⟨not_contains h1, h2a, h2b, by omega, by omega⟩
theorem ruleNo_iff (c : Case) (n : Bytes) : (c.ruleNo n).isNone = true ↔ n ∉ c.rules.map Row.name := by
  unfold Case.ruleNo
  rw [Option.isNone_iff_eq_none, List.findIdx?_eq_none_iff]
  simp only [beq_eq_false_iff_ne, List.mem_map, not_exists, not_and]
theorem wrong_weigh {c : Case} {x y : Bytes} : wrong c (.weigh x y) = none ↔ x ∈ c.rules.map Row.name ∧ y ∈ c.rules.map Row.name ∧ goesRound (c.weighs ++ [(x, y)]) = false := by
  unfold wrong
  simp only [ruleNo_iff]
  by_cases h1 : x ∉ c.rules.map Row.name ∨ y ∉ c.rules.map Row.name
  · rw [if_pos h1]
    simp only [reduceCtorEq, false_iff]
    rintro ⟨a, b, _⟩
    rcases h1 with h | h
    · exact h a
    · exact h b
  · rw [if_neg h1]
    have h2 : x ∈ c.rules.map Row.name ∧ y ∈ c.rules.map Row.name := by
      constructor
      · exact Decidable.byContradiction fun q => h1 (.inl q)
      · exact Decidable.byContradiction fun q => h1 (.inr q)
    by_cases h3 : goesRound (c.weighs ++ [(x, y)]) = true
    · rw [if_pos h3]; simp [h3]
    · rw [if_neg h3]
      simp only [true_iff]
      exact ⟨h2.1, h2.2, by simpa using h3⟩
theorem Good.add {c : Case} {l : Line} (g : Good c) (o : LineOk l) (h : wrong c l = Option.none) : Good (c.add l) := by
  cases l with
  | law r =>
    obtain ⟨h1, h2, h3, h4, h5, h6⟩ := wrong_law.mp h
    refine ⟨?_, fun q hq => ?_, by simpa [Case.add] using h4, g.nr, h5⟩
    · have e : (c.add (.law r)).names.Perm (c.names ++ [r.name]) := by
        simp only [Case.names, Case.add, List.map_append, List.map_cons, List.map_nil]
        rw [List.append_assoc, List.append_assoc]
        exact List.perm_append_comm.append_left _
      exact e.nodup_iff.mpr (nd_snoc' g.nd h1)
    · rcases hq with hq | hq
      · simp only [Case.add, List.mem_append, List.mem_singleton] at hq
        rcases hq with hq | rfl
        · exact g.ok q (.inl hq)
        · exact o
      · exact g.ok q (.inr hq)
  | rule r =>
    obtain ⟨h1, h2, h3, h4, h5⟩ := wrong_rule.mp h
    refine ⟨?_, fun q hq => ?_, g.nl, by simpa [Case.add] using h4, h5⟩
    · have e : (c.add (.rule r)).names = c.names ++ [r.name] := by
        simp only [Case.names, Case.add, List.map_append, List.map_cons, List.map_nil, List.append_assoc]
      rw [e]; exact nd_snoc' g.nd h1
    · rcases hq with hq | hq
      · exact g.ok q (.inl hq)
      · simp only [Case.add, List.mem_append, List.mem_singleton] at hq
        rcases hq with hq | rfl
        · exact g.ok q (.inr hq)
        · exact o
  | weigh x y => exact ⟨g.nd, g.ok, g.nl, g.nr, g.na⟩
theorem same_length {l m : List Bytes} (hl : l.Nodup) (hm : m.Nodup) (h : ∀ x, x ∈ l ↔ x ∈ m) : l.length = m.length := ((List.perm_ext_iff_of_nodup hl hm).mpr h).length_eq
inductive ReadsTo (ls : List Bytes) : Nat → Case → Prop
  | mk {i : Nat} {c : Case} (p : Nat) (h : readFrom Case.none_ 0 ls = readFrom c p (ls.drop i)) : ReadsTo ls i c
theorem reads0 (ls : List Bytes) : ReadsTo ls 0 Case.none_ := ⟨0, rfl⟩
theorem reads_step {ls : List Bytes} {i : Nat} {c : Case} {b : Bytes} {l : Line} (h : ReadsTo ls i c) (hb : ls[i]? = some b) (h1 : lineIn b = some l) (h2 : wrong c l = none) : ReadsTo ls (i + 1) (c.add l) := by
  obtain ⟨p, h⟩ := h
  obtain ⟨hi, e⟩ := List.getElem?_eq_some_iff.mp hb
  refine ⟨p + b.length + 1, ?_⟩
  rw [h, List.drop_eq_getElem_cons hi, e]
  simp only [readFrom, h1, h2]
theorem reads_bad {ls : List Bytes} {i : Nat} {c : Case} {b : Bytes} (h : ReadsTo ls i c) (hb : ls[i]? = some b) (hx : lineIn b = none ∨ ∃ l, lineIn b = some l ∧ wrong c l ≠ none) : ∃ f, readFrom Case.none_ 0 ls = .error f := by
  obtain ⟨p, h⟩ := h
  obtain ⟨hi, e⟩ := List.getElem?_eq_some_iff.mp hb
  rw [h, List.drop_eq_getElem_cons hi, e]
  rcases hx with h1 | ⟨l, h1, h2⟩
  · simp only [readFrom, h1]; exact ⟨_, rfl⟩
  · cases h3 : wrong c l with
    | none => exact absurd h3 h2
    | some k => simp only [readFrom, h1, h3]; exact ⟨_, rfl⟩
theorem reads_end {ls : List Bytes} {c : Case} (h : ReadsTo ls ls.length c) : ∃ p, readFrom Case.none_ 0 ls = .ok (c, p) := by
  obtain ⟨p, h⟩ := h
  rw [List.drop_length] at h
  exact ⟨p, h⟩
def readT (t : Bytes) : Option Case := match readFrom Case.none_ 0 (linesOf t).1 with
  | .error _ => none
  | .ok x => if (linesOf t).2 = [] then some x.1 else none
theorem caseIn_eq (t : Bytes) : (match caseIn t with | .error _ => none | .ok c => some c) = (readT t).map Case.form := by
  unfold caseIn readBehind readT
  cases h : readFrom Case.none_ 0 (linesOf t).1 with
  | error f => simp [h, Except.map]
  | ok x =>
    simp only
    by_cases e : (linesOf t).2 = []
    · simp [h, e, Except.map]
    · simp [h, e, Except.map]
theorem readT_sg (t : Bytes) : readT (t.map sg) = readT t := by
  unfold readT
  rw [lines_sg]
  simp only [readFrom_sg, List.map_eq_nil_iff]
theorem form_rules_len (c : Case) : c.form.rules.length = c.rules.length := (form_rules_perm c).length_eq
def judgeOut (n : Nat) (b : List Nat) : List Int :=
  if n = 0 ∨ b.length % n ≠ 0 ∨ b.length < n ∨ 8 * n < b.length then [-2, 1, 0, 0]
  else match faultAt n b with
    | some f => [-2, f.1, f.2.1, f.2.2]
    | none => [0]
def ofText (t : List Int) (f : Case → List Int) : List Int := if 8192 < t.length then [-1] else match readT (t.map Int.toNat) with
  | none => [-6]
  | some c => f c
theorem ofCase_eq (t : List Int) (f : Seen → MoG.Answer) : MoGNeutral.shown (MoG.ofCase (t.map Int.toNat) f) = ofText t fun c => MoGNeutral.shown (f c.form.seen) := by
  unfold MoG.ofCase ofText
  have hT : TEXT = 8192 := rfl
  rw [hT, List.length_map]
  split
  · rfl
  · have e := caseIn_eq (t.map Int.toNat)
    cases h : caseIn (t.map Int.toNat) with
    | error g =>
      rw [h] at e
      have : readT (t.map Int.toNat) = none := by
        cases q : readT (t.map Int.toNat) with
        | none => rfl
        | some c => rw [q] at e; cases e
      rw [this]; rfl
    | ok c =>
      rw [h] at e
      cases q : readT (t.map Int.toNat) with
      | none => rw [q] at e; cases e
      | some d =>
        rw [q] at e
        have : c = d.form := Option.some.inj e
        subst this; rfl
theorem bench_none {s : Seen} {l : List Nat} (h : s.n = 0 ∨ l.length % s.n ≠ 0 ∨ l.length < s.n ∨ 8 * s.n < l.length) : MoG.benchIn s l = none := by
  unfold MoG.benchIn
  have hJ : JUDGES = 8 := rfl
  rw [hJ, if_pos]
  rcases Nat.eq_zero_or_pos s.n with z | z
  · exact .inl z
  · by_cases hm : l.length % s.n ≠ 0
    · exact .inr (.inl hm)
    · have hd := Nat.div_add_mod l.length s.n
      rcases h with h | h | h | h
      · omega
      · exact absurd h hm
      · right; right; left
        have : l.length = 0 := by
          have e := Nat.mod_eq_of_lt h
          omega
        exact List.length_eq_zero_iff.mp this
      · right; right; right
        have e : l.length % s.n = 0 := by omega
        rw [e, Nat.add_zero] at hd
        apply Decidable.byContradiction
        intro q
        have : s.n * (l.length / s.n) ≤ s.n * 8 := Nat.mul_le_mul_left _ (by omega)
        omega
theorem bench_some {s : Seen} {l : List Nat} (h : ¬ (s.n = 0 ∨ l.length % s.n ≠ 0 ∨ l.length < s.n ∨ 8 * s.n < l.length)) : MoG.benchIn s l = some (tableOf s.n 8 l) ∧ 0 < s.n ∧ ∃ q, l.length = q * s.n ∧ q ≤ 8 ∧ 0 < q := by
  have h1 : ¬ s.n = 0 := fun q => h (.inl q)
  have h2 : l.length % s.n = 0 := Decidable.byContradiction fun q => h (.inr (.inl q))
  have h3 : s.n ≤ l.length := Nat.le_of_not_lt fun q => h (.inr (.inr (.inl q)))
  have h4 : l.length ≤ 8 * s.n := Nat.le_of_not_lt fun q => h (.inr (.inr (.inr q)))
  have hn : 0 < s.n := by omega
  have hd := Nat.div_add_mod l.length s.n
  rw [h2, Nat.add_zero] at hd
  have hq : l.length / s.n ≤ 8 := by
    apply Nat.le_of_lt_succ
    rw [Nat.div_lt_iff_lt_mul hn]
    omega
  refine ⟨?_, hn, l.length / s.n, by rw [Nat.mul_comm]; exact hd.symm, hq, Nat.div_pos h3 hn⟩
  unfold MoG.benchIn
  have hJ : JUDGES = 8 := rfl
  rw [hJ, if_neg]
  rintro (q | q | q | q)
  · exact h1 q
  · exact q h2
  · subst q; simp at h3; omega
  · omega
theorem judge_spec (t b : List Int) : PyWqalbv.judge t b = ofText t fun c => judgeOut c.rules.length (b.map Int.toNat) := by
  have hr : MoGNeutral.read [[2], t, b] = some (.judge (MoGNeutral.nats t) (MoGNeutral.nats b)) := rfl
  have hs : PyWqalbv.judge t b = MoGNeutral.shown (MoG.answer (.judge (MoGNeutral.nats t) (MoGNeutral.nats b))) := by
    unfold PyWqalbv.judge MoGNeutral.step
    rw [hr]
    rfl
  rw [hs]
  unfold MoG.answer
  show MoGNeutral.shown (MoG.ofCase (t.map Int.toNat) _) = _
  rw [ofCase_eq]
  congr 1
  funext c
  have hn : c.form.seen.n = c.rules.length := form_rules_len c
  unfold judgeOut
  by_cases h : c.form.seen.n = 0 ∨ (b.map Int.toNat).length % c.form.seen.n ≠ 0 ∨ (b.map Int.toNat).length < c.form.seen.n ∨ 8 * c.form.seen.n < (b.map Int.toNat).length
  · have e : MoG.benchIn c.form.seen (MoGNeutral.nats b) = none := bench_none h
    rw [e, if_pos (by rw [← hn]; exact h)]
    rfl
  · obtain ⟨e, h1, q, h2, h3, h4⟩ := bench_some h
    have e' : MoG.benchIn c.form.seen (MoGNeutral.nats b) = some (tableOf c.form.seen.n 8 (b.map Int.toNat)) := e
    rw [e', if_neg (by rw [← hn]; exact h)]
    simp only [judge_eq h1 h2 h3]
    rw [hn]
    cases faultAt c.rules.length (b.map Int.toNat) with
    | none => rfl
    | some f => rfl
end Jb
end M7_
section M9_
set_option autoImplicit false
namespace Jb
open Mo
theorem lt_pow_iff (S n : Nat) : S < 2 ^ n ↔ ∀ i, S.testBit i = true → i < n := by
  constructor
  · intro h i hi
    apply Decidable.byContradiction
    intro q
    have : 2 ^ n ≤ 2 ^ i := Nat.pow_le_pow_right (by decide) (by omega)
    have := Nat.ge_two_pow_of_testBit hi
    omega
  · intro h
    exact Nat.lt_pow_two_of_testBit S fun i hi => by
      cases q : S.testBit i with
      | false => rfl
      | true => have := h i q; omega
def pick (k : Numbered) (S : Nat) : List (Nat × Nat × Nat) := (k.rules.zipIdx.filter fun (x : (Nat × Nat × Nat) × Nat) => held S x.2).map fun (x : (Nat × Nat × Nat) × Nat) => x.1
def cls (k : Numbered) (S : Nat) : List (Nat × Nat) := k.laws ++ (pick k S).map fun (x : Nat × Nat × Nat) => x.2
def startOf (l : List (Nat × Nat × Nat)) : Nat := l.foldl (fun (m : Nat) (x : Nat × Nat × Nat) => with_ m x.1) 0
theorem follows_def (k : Numbered) (S : Nat) : k.follows S = closeFrom (cls k S) (k.laws.length + (pick k S).length + 1) (startOf (pick k S)) := rfl
theorem follows_eq {k : Numbered} {S X : Nat} (h1 : sub (startOf (pick k S)) X) (h2 : Closed (cls k S) X) (h3 : ∀ G, Closed (cls k S) G → sub (startOf (pick k S)) G → sub X G) : X = k.follows S := by
  rw [follows_def]
  exact close_unique (by simp [cls]) h1 h2 h3
theorem follows_closed (k : Numbered) (S : Nat) : Closed (cls k S) (k.follows S) := by
  rw [follows_def]
  exact close_closed _ _ _ (by simp [cls])
theorem follows_least {k : Numbered} {S G : Nat} (h : Closed (cls k S) G) (h2 : sub (startOf (pick k S)) G) : sub (k.follows S) G := close_least h _ _ h2
theorem mem_pick {k : Numbered} {S : Nat} {x : Nat × Nat × Nat} : x ∈ pick k S ↔ ∃ i, k.rules[i]? = some x ∧ S.testBit i = true := by
  unfold pick
  simp only [List.mem_map, List.mem_filter, held]
  constructor
  · rintro ⟨⟨y, i⟩, ⟨h1, h2⟩, rfl⟩
    exact ⟨i, List.mem_zipIdx_iff_getElem?.mp h1, h2⟩
  · rintro ⟨i, h1, h2⟩
    exact ⟨(x, i), ⟨List.mem_zipIdx_iff_getElem?.mpr h1, h2⟩, rfl⟩
theorem startFrom_bit (b : Nat) : ∀ (l : List (Nat × Nat × Nat)) (m : Nat), (l.foldl (fun (m : Nat) (x : Nat × Nat × Nat) => with_ m x.1) m).testBit b = true ↔ m.testBit b = true ∨ ∃ x ∈ l, x.1 = b
  | [], m => by simp
  | y :: l, m => by
    rw [List.foldl_cons, startFrom_bit b l, with_bit]
    simp only [Bool.or_eq_true, decide_eq_true_eq, List.mem_cons]
    constructor
    · rintro ((h | h) | ⟨x, hx, h⟩)
      · exact .inl h
      · exact .inr ⟨y, .inl rfl, h⟩
      · exact .inr ⟨x, .inr hx, h⟩
    · rintro (h | ⟨x, rfl | hx, h⟩)
      · exact .inl (.inl h)
      · exact .inl (.inr h)
      · exact .inr ⟨x, hx, h⟩
theorem start_bit {l : List (Nat × Nat × Nat)} {b : Nat} : (startOf l).testBit b = true ↔ ∃ x ∈ l, x.1 = b := by
  unfold startOf; rw [startFrom_bit]; simp
theorem clash_iff (k : Numbered) (S : Nat) : k.clash S = true ↔ ∃ a, a < k.atoms ∧ (k.follows S).testBit (2 * a) = true ∧ (k.follows S).testBit (2 * a + 1) = true := by
  unfold Numbered.clash held
  simp only [List.any_eq_true, List.mem_range, Bool.and_eq_true]
end Jb
end M9_
section M11_
set_option autoImplicit false
namespace Jb
open Mo
inductive Derives (laws : List Row) : Lit → Prop
  | mk (r : Row) (h : r ∈ laws) (hb : ∀ l ∈ r.body, Derives laws l) : Derives laws r.head
theorem ixOf_at {a : List Bytes} {n : Bytes} (h : n ∈ a) : a[ixOf a n]? = some n := by
  obtain ⟨i, e⟩ := find_of_mem h
  unfold ixOf
  rw [e, Option.getD_some]
  obtain ⟨h1, h2, _⟩ := List.findIdx?_eq_some_iff_getElem.mp e
  rw [List.getElem?_eq_getElem h1]
  simpa using h2
theorem ixOf_inj {a : List Bytes} {m n : Bytes} (hm : m ∈ a) (hn : n ∈ a) (e : ixOf a m = ixOf a n) : m = n := by
  have h1 := ixOf_at hm
  have h2 := ixOf_at hn
  rw [e, h2] at h1
  exact (Option.some.inj h1).symm
theorem litNo_inj {a : List Bytes} {l m : Lit} (hl : l.atom ∈ a) (hm : m.atom ∈ a) (e : litNo a l = litNo a m) : l = m := by
  unfold litNo at e
  obtain ⟨x, p⟩ := l
  obtain ⟨y, q⟩ := m
  simp only at e hl hm
  have h1 : ixOf a x = ixOf a y ∧ p = q := by
    cases p <;> cases q <;> simp at e ⊢ <;> omega
  rw [ixOf_inj hl hm h1.1, h1.2]
theorem bodyFrom_bit (a : List Bytes) (b : Nat) : ∀ (ls : List Lit) (m : Nat), (ls.foldl (fun m l => with_ m (litNo a l)) m).testBit b = true ↔ m.testBit b = true ∨ ∃ l ∈ ls, litNo a l = b
  | [], m => by simp
  | y :: l, m => by
    rw [List.foldl_cons, bodyFrom_bit a b l, with_bit]
    simp only [Bool.or_eq_true, decide_eq_true_eq, List.mem_cons]
    constructor
    · rintro ((h | h) | ⟨x, hx, h⟩)
      · exact .inl h
      · exact .inr ⟨y, .inl rfl, h⟩
      · exact .inr ⟨x, .inr hx, h⟩
    · rintro (h | ⟨x, rfl | hx, h⟩)
      · exact .inl (.inl h)
      · exact .inl (.inr h)
      · exact .inr ⟨x, hx, h⟩
theorem body_bit {a : List Bytes} {ls : List Lit} {b : Nat} : (bodyNo a ls).testBit b = true ↔ ∃ l ∈ ls, litNo a l = b := by
  unfold bodyNo; rw [bodyFrom_bit]; simp
theorem derives_atom {c : Case} {l : Lit} (h : Derives c.laws l) : l.atom ∈ c.atoms := by
  cases h with
  | mk r hr hb => exact (row_atoms (.inl hr)).1
theorem follows_derives (c : Case) (b : Nat) : (c.numbered.follows 0).testBit b = true ↔ ∃ l, Derives c.laws l ∧ litNo c.atoms l = b := by
  constructor
  · -- the set of what is derived is closed
    let P : Nat → Prop := fun b => ∃ l, Derives c.laws l ∧ litNo c.atoms l = b
    have fin : ∃ X : Nat, ∀ b, X.testBit b = true ↔ P b := by
      classical
      refine ⟨maskOf (2 * c.atoms.length) fun b => decide (P b), fun b => ?_⟩
      rw [maskOf_bit]
      simp only [decide_eq_true_eq]
      constructor
      · rintro ⟨_, h⟩; exact h
      · rintro ⟨l, hl, e⟩
        refine ⟨?_, l, hl, e⟩
        have := ixOf_at (derives_atom hl)
        have := (List.getElem?_eq_some_iff.mp this).1
        rw [← e]; unfold litNo; split <;> omega
    obtain ⟨X, hX⟩ := fin
    intro h
    refine (hX b).mp (follows_least (k := c.numbered) (S := 0) (G := X) ?_ ?_ b h)
    · intro r hr hs
      have e0 : pick c.numbered 0 = [] := by
        apply List.eq_nil_iff_forall_not_mem.mpr
        intro x hx
        obtain ⟨i, _, h2⟩ := mem_pick.mp hx
        simp at h2
      unfold cls at hr
      rw [e0, List.map_nil, List.append_nil, numbered_eq] at hr
      obtain ⟨q, hq, rfl⟩ := List.mem_map.mp hr
      refine (hX _).mpr ⟨q.head, .mk q hq fun l hl => ?_, rfl⟩
      obtain ⟨m, hm, e⟩ := (hX _).mp (hs (litNo c.atoms l) (body_bit.mpr ⟨l, hl, rfl⟩))
      rw [← litNo_inj (derives_atom hm) ((row_atoms (.inl hq)).2 l hl) e]
      exact hm
    · intro x hx
      obtain ⟨y, hy, _⟩ := start_bit.mp hx
      obtain ⟨i, _, h2⟩ := mem_pick.mp hy
      simp at h2
  · rintro ⟨l, hl, rfl⟩
    induction hl with
    | mk r hr hb ih =>
      refine follows_closed c.numbered 0 (lawNo c.atoms r) ?_ fun i hi => ?_
      · unfold cls; rw [numbered_eq]; exact List.mem_append_left _ (List.mem_map.mpr ⟨r, hr, rfl⟩)
      · obtain ⟨m, hm, e⟩ := body_bit.mp hi
        rw [← e]; exact ih m hm
theorem clash0_iff (c : Case) : c.numbered.clash 0 = true ↔ ∃ x, Derives c.laws ⟨x, false⟩ ∧ Derives c.laws ⟨x, true⟩ := by
  rw [clash_iff]
  constructor
  · rintro ⟨a, h1, h2, h3⟩
    obtain ⟨l, hl, e1⟩ := (follows_derives c _).mp h2
    obtain ⟨m, hm, e2⟩ := (follows_derives c _).mp h3
    obtain ⟨x, p⟩ := l
    obtain ⟨y, q⟩ := m
    unfold litNo at e1 e2
    have e3 : p = false ∧ ixOf c.atoms x = a := by cases p <;> simp at e1 ⊢ <;> omega
    have e4 : q = true ∧ ixOf c.atoms y = a := by cases q <;> simp at e2 ⊢ <;> omega
    have : x = y := ixOf_inj (derives_atom hl) (derives_atom hm) (by rw [e3.2, e4.2])
    subst this
    rw [e3.1] at hl; rw [e4.1] at hm
    exact ⟨x, hl, hm⟩
  · rintro ⟨x, h1, h2⟩
    have hx := derives_atom h1
    refine ⟨ixOf c.atoms x, ?_, ?_, ?_⟩
    · rw [numbered_eq]; exact (List.getElem?_eq_some_iff.mp (ixOf_at hx)).1
    · exact (follows_derives c _).mpr ⟨_, h1, by simp [litNo]⟩
    · exact (follows_derives c _).mpr ⟨_, h2, by simp [litNo]⟩
theorem clash0_laws {c d : Case} (h : c.laws = d.laws) : c.numbered.clash 0 = d.numbered.clash 0 := by
  rw [Bool.eq_iff_iff, clash0_iff, clash0_iff, h]
theorem quiet_none : Case.none_.numbered.clash 0 = false := by decide
theorem quiet_add {c : Case} {l : Line} (h : c.numbered.clash 0 = false) (hw : wrong c l = none) : (c.add l).numbered.clash 0 = false := by
  cases l with
  | law r => exact (wrong_law.mp hw).2.2.2.2.2
  | rule r => rw [clash0_laws (c := c.add (.rule r)) (d := c) rfl]; exact h
  | weigh x y => rw [clash0_laws (c := c.add (.weigh x y)) (d := c) rfl]; exact h
end Jb
end M11_
section M12_
set_option autoImplicit false
namespace Jb
open Mo
theorem readFrom_ok : ∀ (ls : List Bytes) (c : Case) (p : Nat) {d : Case} {q : Nat}, Good c → c.numbered.clash 0 = false → readFrom c p ls = .ok (d, q) → Good d ∧ d.numbered.clash 0 = false
  | [], c, p, d, q, g, h0, h => by
    simp only [readFrom, Except.ok.injEq, Prod.mk.injEq] at h
    rw [← h.1]; exact ⟨g, h0⟩
  | b :: r, c, p, d, q, g, h0, h => by
    unfold readFrom at h
    cases h1 : lineIn b with
    | none => rw [h1] at h; cases h
    | some l =>
      rw [h1] at h
      simp only at h
      cases h2 : wrong c l with
      | some k => rw [h2] at h; cases h
      | none =>
        rw [h2] at h
        exact readFrom_ok r _ _ (g.add (line_ok h1) h2) (quiet_add h0 h2) h
theorem readT_ok {t : Bytes} {c : Case} (h : readT t = some c) : Good c ∧ c.numbered.clash 0 = false := by
  unfold readT at h
  cases h1 : readFrom Case.none_ 0 (linesOf t).1 with
  | error f => rw [h1] at h; cases h
  | ok x =>
    rw [h1] at h
    simp only at h
    split at h
    · cases h
      obtain ⟨d, q⟩ := x
      exact readFrom_ok _ _ _ Good.none quiet_none h1
    · cases h
def badTab (n : Nat) (b : List Nat) : Prop := n = 0 ∨ b.length % n ≠ 0 ∨ b.length < n ∨ 8 * n < b.length
instance (n : Nat) (b : List Nat) : Decidable (badTab n b) := by unfold badTab; infer_instance
end Jb
end M12_
section JB_
namespace L2.JX
open PySem PySem.Spec PyProof.Rows L2 TL
def str (b : List Nat) : Str := ⟨b.toArray⟩
theorem tl_str (b : List Nat) : tl (str b) = b := rfl
theorem str_inj {a b : List Nat} (h : str a = str b) : a = b := by
  have := congrArg tl h
  exact this
theorem str_len (b : List Nat) : (str b).length = b.length := by rw [len_tl]; rfl
theorem shr_nat (c k : Nat) : (c : Int) / 2 ^ ((k : Int).toNat) = ((c >>> k : Nat) : Int) := by
  rw [Int.toNat_natCast, Nat.shiftRight_eq_div_pow, Int.natCast_ediv, Int.natCast_pow]
  rfl
theorem and_nat (a b : Nat) : Builtin.bitAnd (a : Int) (b : Int) = ((a &&& b : Nat) : Int) := by
  rw [bitAnd_pp (by omega) (by omega)]; rfl
theorem or_nat (a b : Nat) : Builtin.bitOr (a : Int) (b : Int) = ((a ||| b : Nat) : Int) := by
  rw [Bits.bitOr_pp (by omega) (by omega)]; rfl
theorem one_shl (k : Nat) : (1 : Int) * 2 ^ ((k : Int).toNat) = ((2 ^ k : Nat) : Int) := by
  rw [Int.toNat_natCast, Int.one_mul]
  exact (Int.natCast_pow 2 k).symm
theorem bit_dec (c k : Nat) : decide (V.int (((c >>> k) &&& 1 : Nat) : Int) = V.int 1) = c.testBit k := by
  rw [dec_int, Nat.testBit, Nat.and_comm]
  rcases Nat.mod_two_eq_zero_or_one (c >>> k) with h | h
  · rw [Nat.one_and_eq_mod_two, h]; rfl
  · rw [Nat.one_and_eq_mod_two, h]; rfl
theorem dec_nat (a b : Nat) : decide (V.int (a : Int) = V.int (b : Int)) = (a == b) := by
  rw [dec_int, Bool.eq_iff_iff, beq_iff_eq, beq_iff_eq]; omega
def GV (mg : Str → Option Value) (x : Str) (v : V) : Prop := ∃ u, mg x = some u ∧ RelV v u
section
variable {X : Cx} {x : Str} {v : V} {pos : Pos}
theorem pe_gv (h : GV X.mg x v) (hg : Gl X x := by rfl) (hd : (x == ("__debug__" : Str)) = false := by decide) : PE X (.Name x pos) (tC v) := by
  obtain ⟨u, hm, r⟩ := h
  exact pe_glob hg hm r hd
end
structure Bl (mg : Str → Option Value) : Prop where
  len : mg "len" = none
  ord : mg "ord" = none
  range : mg "range" = none
  enum : mg "enumerate" = none
  all : mg "all" = none
  any : mg "any" = none
  sorted : mg "sorted" = none
  list : mg "list" = none
  tuple : mg "tuple" = none
  set : mg "set" = none
theorem lcY {σ : St} {H : Hp} {te : TE} {R : VK} {N : Hp → Prop} (h : te σ H R) : tYes σ H fun b H3 => if b = true then te σ H3 R else N H3 := h
theorem Same.plus {H H' : Hp} (e : Same H H') {p : Addr} {o : HO} (h : H' p = none) : Same H (upd H' p o) := fun b q hb => by
  have := e b q hb
  rw [upd_ne (ne_of_none this h)]; exact this
theorem same_new {H : Hp} {p : Addr} {o : HO} (h : H p = none) : Same H (upd H p o) := Same.plus (Same.refl H) h
theorem Same.own {H H' : Hp} (e : Same H H') {p : Addr} {o : HO} (h : H p = none) : Same H (upd H' p o) := fun b q hb => by
  rw [upd_ne (ne_of_none hb h)]; exact e b q hb
end L2.JX
end JB_
section JC_
namespace L2.JX
open PySem PySem.Spec PyProof.Rows L2 TL
structure Maker (P : Program) (w : World) (K : PySem.W.Frag) (mg : Str → Option Value) (base : Heap) (x : Str) (C : Addr) (k : Nat) (ps : List Str) (sp : Sp) : Prop where
  mgC : mg x = some (.ref C)
  ex : ∃ f fd, Mk K C f ∧ Binds K fd ps [] ∧ FnOk P w K mg base CX0 k f fd ps sp
structure ClsAt (K : PySem.W.Frag) (mg : Str → Option Value) (x qual : Str) (st : Stmt) (ps : List Str) (C : Addr) : Prop where
  cl : Cls K C
  mgC : mg x = some (.ref C)
  ex : ∃ f fd, Mk K C f ∧ Fun K "__init__" qual st f fd ∧ Binds K fd ps []
section
variable {P : Program} {w : World} {K : PySem.W.Frag} {mg : Str → Option Value} {base : Heap}
theorem ClsAt.maker {x qual : Str} {st : Stmt} {C : Addr} {N ps : List Str} {k : Nat} {sp : Sp} (D : ClsAt K mg x qual st ps C) (S : FnScope N ps (defScope st)) (len : ∀ vs H Q E, sp vs H Q E → vs.length = ps.length)
    (hbody : ∀ (f : Addr) (cdv : Value) (A : Around) (outer : List Env) (s : Shared) (H : Hp) (vs : List V) (Q : VK) (E : XK), Room k (A.deeper (envOfC qual (defScope st) s.heap.objs.size f cdv)) → sp vs H Q E →
      ∃ t, PSs (cxOf CX0 P w K mg base N qual (defScope st) f cdv A outer s H E).nox (defBody st) t ∧ t { nx := fun _ H' => Q .non H', rt := Q } (start N vs) H) : Maker P w K mg base x C (k + 1) ps sp := by
  obtain ⟨f, fd, M, F, hb⟩ := D.ex
  exact ⟨D.mgC, f, fd, M, hb, F.ok S len (hbody f)⟩
end
section
variable {X : Cx} {k : Nat} {C : Addr} {ps : List Str} {sp : Sp} {x : Str} {p pos : Pos} {e : Expr} {es : List Expr} {t : TA}
theorem pe_makeH (h : Maker X.prog X.w X.K X.mg X.base x C k ps sp) (hr : Room (k + 1) X.A) (ha : PA X (e :: es) t) (hg : Gl X x := by rfl) (hdb : (x == ("__debug__" : Str)) = false := by decide)
    (he : starEach (e :: es) X.env = (false, eval e X.env) :: starEach es X.env := by rfl) (hpl : (backTo pos (starEach es X.env)).any (·.1) = false := by rfl) :
    PE X (.Call (.Name x p) (e :: es) [] pos) (tMake C sp [] E0 t) := by
  obtain ⟨f, fd, M, hb, F⟩ := h.ex
  exact pe_make M F hr hg h.mgC hb .nil pass0 ha hdb he hpl
theorem pe_makeH0 (h : Maker X.prog X.w X.K X.mg X.base x C k ps sp) (hr : Room (k + 1) X.A) (hg : Gl X x := by rfl) (hdb : (x == ("__debug__" : Str)) = false := by decide) :
    PE X (.Call (.Name x p) [] [] pos) (tMake C sp [] E0 tNil) := by
  obtain ⟨f, fd, M, hb, F⟩ := h.ex
  exact pe_make0 M F hr hg h.mgC hb .nil pass0 hdb
end
theorem putF_lt {f : Str} {v : V} {fs : List (Str × V)} {n : Nat} (h : fs.length ≤ n) : (putF f v fs).length ≤ n + 1 := Nat.le_trans (length_putF f v fs) (by omega)
theorem same_made {H : Hp} {x dx : Addr} {o o' : HO} (nx : H x = none) (nd : H dx = none) : Same H (upd (upd H dx o) x o') := fun b q e => by
  rw [upd_ne (ne_of_none e nx), upd_ne (ne_of_none e nd)]; exact e
theorem paired_get' {α β : Type} {R : α → β → Prop} : ∀ {xs : List α} {ys : List β}, Paired R xs ys → ∀ {i : Nat} {x : α}, xs[i]? = some x → ∃ y, ys[i]? = some y ∧ R x y
  | _, _, .nil, _, _, h => by simp at h
  | _, _, .cons r t, 0, y, h => by simp at h; subst h; exact ⟨_, rfl, r⟩
  | _, _, .cons r t, i + 1, y, h => by
    obtain ⟨x, h1, h2⟩ := paired_get' t (i := i) (x := y) (by simpa using h)
    exact ⟨x, by simpa using h1, h2⟩
theorem paired_imp {α β : Type} {R S : α → β → Prop} (f : ∀ a b, R a b → S a b) : ∀ {xs : List α} {ys : List β}, Paired R xs ys → Paired S xs ys
  | _, _, .nil => .nil
  | _, _, .cons r t => .cons (f _ _ r) (paired_imp f t)
theorem paired_app {α β : Type} {R : α → β → Prop} : ∀ {xs xs' : List α} {ys ys' : List β}, Paired R xs ys → Paired R xs' ys' → Paired R (xs ++ xs') (ys ++ ys')
  | _, _, _, _, .nil, h => h
  | _, _, _, _, .cons r t, h => .cons r (paired_app t h)
theorem paired_len {α β : Type} {R : α → β → Prop} {xs : List α} {ys : List β} (h : Paired R xs ys) : xs.length = ys.length := Paired.length h
end L2.JX
end JC_
section JT_
namespace L2.JX
open PySem PySem.Spec PyProof.Rows L2 TL
theorem ofS {s : String} {b : List Nat} (h : s.toList.map Char.toNat = b) : (Str.ofString s) = str b := by
  apply ext_tl
  rw [tl_ofString, h]
  rfl
theorem starts1 (b : List Nat) (c : Nat) : Txt.startswith (str b) (str [c]) = decide (b.head? = some c) := by
  unfold Txt.startswith
  have h1 : (str [c]).length = 1 := rfl
  rw [StrLaws.subAt_eq, h1, str_len]
  show (decide (0 + 1 ≤ b.length) && ((b.drop 0).take 1 == [c])) = _
  cases b with
  | nil => rfl
  | cons x r =>
    rw [Bool.eq_iff_iff]
    simp
theorem ends1 (b : List Nat) (c : Nat) : Txt.endswith (str b) (str [c]) = decide (b.getLast? = some c) := by
  unfold Txt.endswith
  have h1 : (str [c]).length = 1 := rfl
  rw [StrLaws.subAt_eq, h1, str_len]
  show (decide (0 + 1 ≤ b.length) && ((b.drop (b.length - 1)).take 1 == [c])) = _
  cases b with
  | nil => rfl
  | cons x r =>
    rw [List.getLast?_eq_getElem?, List.take_one, List.head?_drop, Bool.eq_iff_iff]
    simp only [List.length_cons, Bool.and_eq_true, decide_eq_true_eq, beq_iff_eq, Nat.add_sub_cancel]
    cases h : (x :: r)[r.length]? with
    | none =>
      have := List.getElem?_eq_none_iff.mp h
      simp at this
      omega
    | some y => simp
theorem cut_tail (b : List Nat) : cutS (str b) (some 1) none = str (b.drop 1) := by
  unfold cutS
  have e : HT.sIx (str b).length 0 (some 1) = min 1 b.length := by rw [str_len]; exact HT.sIx_nat b.length 0 1
  have e2 : HT.sIx (str b).length (str b).length none = b.length := by rw [str_len]; rfl
  rw [e, e2]
  apply ext_tl
  show ((b.drop (min 1 b.length)).take (b.length - min 1 b.length)) = b.drop 1
  cases b with
  | nil => rfl
  | cons x r =>
    have : min 1 (x :: r).length = 1 := by simp
    rw [this, List.take_of_length_le (by simp)]
theorem cut_init (b : List Nat) (hb : b ≠ []) : cutS (str b) none (some (-1)) = str b.dropLast := by
  unfold cutS
  have hl : 0 < b.length := List.length_pos_iff.mpr hb
  have e2 : HT.sIx (str b).length (str b).length (some (-1)) = b.length - 1 := by
    rw [str_len]
    show (if (-1 : Int) < 0 then ((-1 : Int) + (b.length : Int)).toNat else min (-1 : Int).toNat b.length) = _
    rw [if_pos (by decide)]
    omega
  have e1 : HT.sIx (str b).length 0 none = 0 := rfl
  rw [e1, e2]
  apply ext_tl
  show ((b.drop 0).take (b.length - 1 - 0)) = b.dropLast
  rw [List.drop_zero, Nat.sub_zero, List.dropLast_eq_take]
theorem join_nil : ∀ ps : List (List Nat), joinL [] ps = ps.flatten
  | [] => rfl
  | [p] => by simp [joinL]
  | p :: q :: r => by
    show p ++ ([] ++ joinL [] (q :: r)) = _
    rw [join_nil (q :: r)]; rfl
theorem join_str (ps : List (List Nat)) : Txt.join (str []) (ps.map str) = str ps.flatten := by
  apply ext_tl
  rw [join_eq, tl_join, List.map_map]
  show joinL [] (ps.map (tl ∘ str)) = ps.flatten
  rw [← join_nil ps]
  congr 1
  exact List.map_id'' (fun p => rfl) ps
theorem spl1 (c : Nat) : ∀ (l acc : List Nat), spl [c] 0 acc l = Jb.cutAt c acc l
  | [], acc => rfl
  | x :: r, acc => by
    by_cases h : x = c
    · subst h
      rw [spl_hit (by simp [pre])]
      show acc :: spl [x] 0 [] r = _
      rw [spl1 x r []]
      simp [Jb.cutAt]
    · rw [spl_miss (by simp [pre, h])]
      rw [spl1 c r]
      simp [Jb.cutAt, h]
theorem split1 (b : List Nat) (c : Nat) (hc : c < 256) : Txt.split (str b) (str [c]) = (Jb.cutAt c [] b).map str := by
  apply map_tl_inj
  rw [split_spl _ _ (by simp [tl_str]) (kind_ok (by simp [str, hc])), List.map_map]
  show spl [c] 0 [] b = (Jb.cutAt c [] b).map (tl ∘ str)
  rw [spl1]
  exact (List.map_id'' (fun p => rfl) _).symm
end L2.JX
end JT_
section JA_
namespace L2.JX
open PySem PySem.Spec PyProof.Rows L2
theorem ints_inj : ∀ {vs : List Value} {ns ms : List Int}, IntsAre vs ns → IntsAre vs ms → ns = ms
  | _, _, _, .nil, .nil => rfl
  | _, _, _, .cons n t h, .cons _ _ h' => by rw [ints_inj h h']
theorem one_list {K : PySem.W.Frag} {H : Hp} {h : Heap} {a : Addr} {vs : List Value} {ns : List Int} (KX : K.In h) (ha : h.get? a = some { cls := .type "list", data := .seq vs.toArray }) (hi : IntsAre vs ns) (hl : ns.length ≤ sizeLine)
    (hH : K.lookup a = none → H a = some (.frz { cls := .type "list", data := .seq vs.toArray } (.lst (ns.map V.int)))) : SqL K H a (ns.map V.int) := by
  cases hk : K.lookup a with
  | none => exact .inl (.inr ⟨_, hH hk⟩)
  | some o =>
    have e := KX a o hk
    rw [ha] at e
    cases e
    exact .inr ⟨_, vs.toArray, _, hk, rfl, rfl, rfl, by rw [List.size_toArray, hi.length]; exact hl, by simpa using vals_ints hi⟩
theorem binds_nil {K : PySem.W.Frag} {fd : FuncData} {ps : List Str} (hb : Binds K fd ps []) {s : Shared} {us : List Value} (KX : K.In s.heap) (h : us.length = ps.length) : BindsTo s fd ⟨us, []⟩ (ps.zip us) := by
  have := hb s us KX (by rw [List.append_nil]; exact h)
  rw [List.append_nil] at this
  exact this
theorem spec_call2 {P : Program} {w : World} {K : PySem.W.Frag} {mg mb : Str → Option Value} {k : Nat} {fa a1 a2 : Addr} {ps : List Str} {sp : Sp} {s₁ : Shared} {vs1 vs2 : List Value} {n1 n2 : List Int} {pre : List Value} {preV : List V} {R : List Int → Prop}
    (KX : K.In s₁.heap) (hns : s₁.heap.Ns mainGlobals mg) (hb : s₁.heap.Ns builtinsNs mb) (hbb : ∀ x : Str, x ≠ "__name__" → mb x = bootBuiltins x) (hlim : s₁.heap.NoLimit) (hg : s₁.gens = #[])
    (h1 : s₁.heap.get? a1 = some { cls := .type "list", data := .seq vs1.toArray }) (i1 : IntsAre vs1 n1) (l1 : n1.length ≤ sizeLine)
    (h2 : s₁.heap.get? a2 = some { cls := .type "list", data := .seq vs2.toArray }) (i2 : IntsAre vs2 n2) (l2 : n2.length ≤ sizeLine) (rp : Vals preV pre) (hr : Room k callerA)
    (F : ∀ base : Heap, K.In base → base.Ns mainGlobals mg → ∃ fd : FuncData, Binds K fd ps [] ∧ FnOk P w K mg base CX0 k fa fd ps sp)
    (hlen : (pre ++ [Value.ref a1, Value.ref a2]).length = ps.length)
    (hsp : ∀ H : Hp, SqL K H a1 (n1.map V.int) → SqL K H a2 (n2.map V.int) → sp (preV ++ [.ref a1, .ref a2]) H (fun v H' => ∃ p ns, v = .ref p ∧ H' p = some (.lst (ns.map V.int)) ∧ R ns) E0) :
    codeAny (model P w) callerA (.call (.ref fa) ⟨pre ++ [.ref a1, .ref a2], []⟩) (fun r s' => (∃ p ns us n, r = .ok (.ret (.ref p)) ∧ s'.heap.get? p = some { cls := .type "list", data := .seq (List.toArray us) n } ∧ IntsAre us ns ∧ R ns) ∧ OldK s₁.heap s'.heap ∧ s'.os = s₁.os ∧ AllBare s'.gens) s₁ := by
  -- what is tracked: the lists, where they are no objects of the module
  let H : Hp := fun b => if b = a1 ∧ K.lookup b = none then some (.frz { cls := .type "list", data := .seq vs1.toArray } (.lst (n1.map V.int)))
    else if b = a2 ∧ K.lookup b = none then some (.frz { cls := .type "list", data := .seq vs2.toArray } (.lst (n2.map V.int))) else none
  have H1 : K.lookup a1 = none → H a1 = some (.frz { cls := .type "list", data := .seq vs1.toArray } (.lst (n1.map V.int))) := fun hk => if_pos ⟨rfl, hk⟩
  have H2 : K.lookup a2 = none → H a2 = some (.frz { cls := .type "list", data := .seq vs2.toArray } (.lst (n2.map V.int))) := fun hk => by
    by_cases e : a2 = a1
    · subst e
      rw [h1] at h2
      have ev : vs1 = vs2 := by
        have := Option.some.inj h2
        injection this with _ _ e3 _
        injection e3 with e4 _
        exact List.toArray_inj e4
      subst ev
      rw [ints_inj i2 i1]
      exact H1 hk
    · show (if a2 = a1 ∧ _ then _ else _) = _
      rw [if_neg (fun z => e z.1)]
      exact if_pos ⟨rfl, hk⟩
  have Hsome : ∀ b u, H b = some u → K.lookup b = none ∧ ∃ vs ns, u = .frz { cls := .type "list", data := .seq (List.toArray vs) } (.lst (ns.map V.int)) ∧ s₁.heap.get? b = some { cls := .type "list", data := .seq vs.toArray } ∧ IntsAre vs ns ∧ ns.length ≤ sizeLine := fun b u e => by
    by_cases c1 : b = a1 ∧ K.lookup b = none
    · have e' : some _ = some u := (if_pos c1).symm.trans e
      cases e'
      obtain ⟨rfl, hk⟩ := c1
      exact ⟨hk, vs1, n1, rfl, h1, i1, l1⟩
    · have e0 : (if b = a2 ∧ K.lookup b = none then some (HO.frz { cls := .type "list", data := .seq vs2.toArray } (.lst (n2.map V.int))) else none) = some u := (if_neg c1).symm.trans e
      by_cases c2 : b = a2 ∧ K.lookup b = none
      · have e' : some _ = some u := (if_pos c2).symm.trans e0
        cases e'
        obtain ⟨rfl, hk⟩ := c2
        exact ⟨hk, vs2, n2, rfl, h2, i2, l2⟩
      · have e' : none = some u := (if_neg c2).symm.trans e0
        cases e'
  have hok : HOk P w H s₁.heap := fun b u e => by
    obtain ⟨_, vs, ns, rfl, hget, hi, hl⟩ := Hsome b u e
    exact ⟨hget, by rw [List.length_map]; exact hl, vs, _, vals_ints hi, hget⟩
  have base_of : ∀ {b : Addr} {o : Obj}, s₁.heap.get? b = some o → H b = none → (hidT s₁.heap H).get? b = some o := fun e n => hidT_get e n
  have noA : ∀ {b : Addr} {o : Obj} {es : Array DictEntry} {ep : Nat}, s₁.heap.get? b = some o → o.data = .dict es ep → H b = none := fun {b o es ep} e d => by
    cases q : H b with
    | none => rfl
    | some u =>
      obtain ⟨_, vs, ns, _, hget, _⟩ := Hsome b u q
      rw [hget] at e; cases e
      have d' : Data.seq vs.toArray _ = Data.dict es ep := d
      cases d'
  have nsK : ∀ {b : Addr} {m : Str → Option Value}, s₁.heap.Ns b m → (hidT s₁.heap H).Ns b m := fun {b m} ⟨o, es, ep, e, d, r⟩ => ⟨o, es, ep, base_of e (noA e d), d, r⟩
  have hKb : K.In (hidT s₁.heap H) := fun b o e => base_of (KX b o e) (by
    cases q : H b with
    | none => rfl
    | some u => rw [(Hsome b u q).1] at e; cases e)
  have hM : Mod K mg (hidT s₁.heap H) := ⟨hKb, nsK hns, ⟨mb, nsK hb, hbb⟩, let ⟨mc, g1, g2⟩ := hlim; ⟨mc, nsK g1, g2⟩⟩
  have e0 : Env0 P w K mg (hidT s₁.heap H) callerA [] s₁ H := ⟨rfl, hM, fun b o e => of_hidT e, Nat.le_of_eq (hidT_size _ _), trivial, fun b hb => absurd (show b ∈ ([] : List Addr) from hb) (by simp), hok, .of_eq hg⟩
  have rv : Vals (preV ++ [.ref a1, .ref a2]) (pre ++ [.ref a1, .ref a2]) := rp.append (.cons rfl (.cons rfl .nil))
  obtain ⟨fd, hbd, FF⟩ := F _ hKb (nsK hns)
  have hbind := binds_nil hbd KX hlen
  refine codeAny_mono (FF.run callerA [] s₁ H ⟨pre ++ [.ref a1, .ref a2], []⟩ _ _ _ _ hr e0 hbind rv (hsp H (one_list KX h1 i1 l1 H1) (one_list KX h2 i2 l2 H2))) fun r s' h => ?_
  cases r with
  | error e => exact False.elim h
  | ok fl =>
    cases fl with
    | next => exact False.elim h
    | brk => exact False.elim h
    | cont => exact False.elim h
    | ret u =>
      obtain ⟨v, H', os, bare, un, hok', r', p, ns, rfl, hp, hR⟩ := h
      obtain rfl : u = Value.ref p := r'
      obtain ⟨_, its, n, rvs, hget⟩ := hok' p _ hp
      refine ⟨⟨p, ns, its, n, rfl, hget, rvs.ints, hR⟩, OldK.of_keep fun b o e => ?_, os, bare⟩
      cases q : H b with
      | none => exact un.keep b o e q (by intro z; exact absurd (show b ∈ ([] : List Addr) from z) (by simp)) (by simp)
      | some u =>
        obtain ⟨_, vs, ns', rfl, hgb, _⟩ := Hsome b u q
        have z2 := un.frzs b _ _ q
        obtain ⟨e2, _⟩ := hok' b _ z2
        rw [e] at hgb; cases hgb
        exact e2
theorem wellAll_app {P : Params} {h : Heap} : ∀ (xs ys : List PySem.W.WData) (vals : List Value), PySem.W.WellAll P h vals (xs ++ ys) → ∃ v1 v2, vals = v1 ++ v2 ∧ PySem.W.WellAll P h v1 xs ∧ PySem.W.WellAll P h v2 ys
  | [], ys, vals, wl => ⟨[], vals, rfl, .nil, wl⟩
  | x :: xs, ys, vals, wl => by
    cases wl with
    | cons a b =>
      obtain ⟨v1, v2, rfl, q1, q2⟩ := wellAll_app xs ys _ b
      exact ⟨_ :: v1, v2, rfl, .cons a q1, q2⟩
theorem readsAll_ints {R : PySem.W.WRecords} {cl : Str → Option Addr} {h : Heap} : ∀ {us : List Value} {ns : List Int}, IntsAre us ns → PySem.W.ReadsAllW R cl h us (ns.map .int) []
  | _, _, .nil => .nil
  | _, _, .cons n t r => .cons (as := []) (bs := []) (.int n t) (readsAll_ints r)
theorem walk_os {r : PySem.W.OpenSpec} {q : Program} {loose : List Str} {XP : (Str → Option Value) → Heap → Prop} {YP : World → Heap → Prop} {d : DefRec} {K : Params → PySem.W.Frag} {k : Nat} {ps : List Str} {sp : PySem.W.Frag → Sp} {Out : List Int → List Int → List Int → List Int → Prop} {Pre : List Int → List Int → List Int → Prop}
    (said : r.wellSaid = true) (hr : Room k callerA) (hY : ∀ (w : World) (h : Heap), YP w h → (K w.params).In h)
    (enc : ∀ a, PySem.W.Codec.withinAll r.args a = true → PySem.W.Codec.app r.args r.asked a = true → ∃ pre n1 n2 : List Int, PySem.W.Codec.encAll r.args a = pre.map .int ++ [.list (n1.map .int), .list (n2.map .int)] ∧ n1.length ≤ sizeLine ∧ n2.length ≤ sizeLine ∧ Pre pre n1 n2 ∧
      ∀ out, Out pre n1 n2 out → r.ret.enc (PySem.W.Codec.app r.args r.f a) = .list (out.map .int))
    (F : ∀ (w : World) (mg : Str → Option Value) (fa : Addr) (h : Heap), (K w.params).In h → h.Ns mainGlobals mg → mg d.name = some (.ref fa) →
      ∀ base : Heap, (K w.params).In base → base.Ns mainGlobals mg → ∃ fd : FuncData, Binds (K w.params) fd ps [] ∧ FnOk r.prog w (K w.params) mg base CX0 k fa fd ps (sp (K w.params)))
    (hps : ∀ pre n1 n2, Pre pre n1 n2 → pre.length + 2 = ps.length)
    (hsp : ∀ (K : PySem.W.Frag) (H : Hp) (a1 a2 : Addr) (pre n1 n2 : List Int), Pre pre n1 n2 → SqL K H a1 (n1.map V.int) → SqL K H a2 (n2.map V.int) →
      sp K (pre.map V.int ++ [.ref a1, .ref a2]) H (fun v H' => ∃ p ns, v = .ref p ∧ H' p = some (.lst (ns.map V.int)) ∧ Out pre n1 n2 ns) E0) :
    PySem.W.WalkOS q loose XP YP r d [] (fun f vs => PySem.call f vs) := by
  intro w s0 s1 mg mb G Y fa o pm cd doc dV kV ho hd hcd hD hmg hg args vals as hpre hlay hrd hwl hlo
  obtain ⟨a, ha, hask, rfl⟩ := (PySem.W.OpenSpec.pre_iff said args).mp hpre
  obtain ⟨pre, n1, n2, ea, l1, l2, hP, hout⟩ := enc a ha hask
  rw [ea] at hwl
  obtain ⟨v1, v2, rfl, w1, w2⟩ := wellAll_app _ _ _ hwl
  have ip := Att.ints_of_wellAll pre v1 w1
  cases w2 with
  | cons wa wb =>
    cases wb with
    | cons wc wd =>
      cases wd
      cases wa with
      | list g1 b1 =>
        cases wc with
        | list g2 b2 =>
          have KX := hY w _ Y
          have hF := F w mg fa _ KX G.T.g hmg
          have hlen : ∀ x y : Value, (v1 ++ [x, y]).length = ps.length := fun x y => by
            rw [List.length_append, ip.length]
            exact hps pre n1 n2 hP
          refine PySem.W.enter_call (codeAny_mono (spec_call2 (preV := pre.map V.int) (R := Out pre n1 n2) KX G.T.g G.T.b G.T.builtins G.T.nolimit hg g1 (Att.ints_of_wellAll n1 _ b1) l1 g2 (Att.ints_of_wellAll n2 _ b2) l2 (vals_ints ip) hr hF (hlen _ _)
            (fun H q1 q2 => hsp (K w.params) H _ _ pre n1 n2 hP q1 q2)) fun r' s' hq => ?_)
          obtain ⟨⟨p, ns, us, n, rfl, hget, hi, hR⟩, h2, h3, h4⟩ := hq
          refine ⟨.inl ⟨.ref p, .list (ns.map .int), [p], rfl, fun _ => rfl, .list (as := []) hget rfl rfl (by simpa using readsAll_ints hi), ?_, fun z => nomatch z⟩, h2, h3, h4⟩
          rw [PySem.W.OpenSpec.post_iff said ha]
          exact (hout ns hR).symm
end L2.JX
end JA_
section Jh_
namespace L2.Jp
open PySem PySem.Spec PyProof.Rows L2 TL L2.JX
def top (i : Nat) : Stmt := PySem.Challenge.pw_judgebench_s02_judge.main.body.getD i (.Pass ⟨0, 0, 0, 0⟩)
abbrev sHas : Stmt := top 1
abbrev sTextOf : Stmt := top 12
abbrev sIsName : Stmt := top 13
abbrev sIsOpposite : Stmt := top 14
abbrev sAtomOf : Stmt := top 15
abbrev sIsLiteral : Stmt := top 16
abbrev sReadLine : Stmt := top 17
abbrev sReadWeight : Stmt := top 18
abbrev sReadClause : Stmt := top 19
abbrev sReadBody : Stmt := top 20
abbrev sNumberCase : Stmt := top 23
abbrev sLiteralNumber : Stmt := top 24
abbrev sLiteralSet : Stmt := top 25
abbrev sWhatFollows : Stmt := top 26
abbrev sClashes : Stmt := top 27
abbrev sOutweighedByAny : Stmt := top 29
abbrev sGoingOn : Stmt := top 30
abbrev sSomeOutweighsItself : Stmt := top 31
abbrev sReadCase : Stmt := top 46
abbrev sTakeLine : Stmt := top 47
abbrev sTakeLaw : Stmt := top 48
abbrev sTakeRule : Stmt := top 49
abbrev sTakeClause : Stmt := top 50
abbrev sTakeWeight : Stmt := top 51
abbrev sJudge : Stmt := top 61
abbrev sTextRefusal : Stmt := top 62
abbrev sTableFault : Stmt := top 63
abbrev sCaseInit : Stmt := inClass (top 22) 0
abbrev sDraftInit : Stmt := inClass (top 44) 0
abbrev sReadingInit : Stmt := inClass (top 45) 0
end L2.Jp
end Jh_
section Jp1_
namespace L2.Jp
open PySem PySem.Spec PyProof.Rows L2 TL L2.JX
section
variable {P : Program} {w : World} {K : PySem.W.Frag} {mg : Str → Option Value} {base : Heap}
def spHas : Sp := fun vs H Q _ => ∃ c k : Nat, vs = [.int c, .int k] ∧ Q (.bl (c.testBit k)) H
theorem scHas : FnScope ["chosen", "k"] ["chosen", "k"] (defScope sHas) := ⟨rfl, rfl, rfl, by decide +kernel, rfl, by decide +kernel, by decide +kernel⟩
theorem ok_has (D : Def K mg "has" sHas ["chosen", "k"]) : Has P w K mg base 1 "has" ["chosen", "k"] spHas := by
  refine D.has scHas (fun vs H Q E h => ?_) (fun f cdv A outer s H vs Q E hr h => ?_)
  · obtain ⟨c, k, rfl, _⟩ := h
    rfl
  · obtain ⟨c, k, rfl, q⟩ := h
    refine ⟨_, pss_one (ps_ret (pe_cmpR op_eq (pe_op op_and (pe_op op_shr (pv 0) (pv 1)) pe_int) pe_int (nomark _))), ?_⟩
    refine ⟨_, rfl, _, rfl, _, _, rfl, rfl, by omega, _, _, rfl, rfl, rfl, ?_⟩
    have e : decide (V.int (Builtin.bitAnd ((c : Int) / 2 ^ ((k : Int).toNat)) 1) = V.int 1) = c.testBit k := by
      rw [shr_nat, show (1 : Int) = ((1 : Nat) : Int) from rfl, and_nat]
      exact bit_dec c k
    rw [e]
    exact q
structure Ws (mg : Str → Option Value) : Prop where
  letters : GV mg "LETTERS" (.str "abcdefghijklmnopqrstuvwxyz")
  names : GV mg "NAME_SIGNS" (.str "abcdefghijklmnopqrstuvwxyz0123456789-")
  texts : GV mg "TEXT_SIGNS" (.str "abcdefghijklmnopqrstuvwxyz0123456789-~:,=> \n")
  strange : GV mg "STRANGE_SIGN" (.str "?")
  longName : GV mg "LONGEST_NAME" (.int 15)
  longBody : GV mg "LONGEST_BODY" (.int 6)
  law : GV mg "LAW" (.str "law")
  weigh : GV mg "WEIGH" (.str "weigh")
def sgPair (c : Nat) : Key × V := (.inl (c : Int), .str ⟨#[c]⟩)
theorem sg_val (n : Nat) : ∀ l : List Nat, valV (l.map sgPair) (.inl (n : Int)) = if n ∈ l then some (.str ⟨#[n]⟩) else none
  | [] => rfl
  | c :: l => by
    by_cases h : c = n
    · subst h
      rw [if_pos List.mem_cons_self]
      exact valV_pos (p := sgPair c) rfl
    · have hk : ¬ (sgPair c).1 = (.inl (n : Int) : Key) := fun e => h (by have := Sum.inl.inj e; omega)
      rw [List.map_cons, valV_neg hk, sg_val n l]
      simp [Ne.symm h]
theorem sg_texts : ("abcdefghijklmnopqrstuvwxyz0123456789-~:,=> \n" : Str) = str Jb.sgs := ofS rfl
theorem sgs_nodup : Jb.sgs.Nodup := by decide
theorem sg_strange : ("?" : Str) = str [63] := ofS rfl
theorem sg_get (n : Nat) : ((valV (Jb.sgs.map sgPair) (.inl (n : Int))).getD (.str "?")) = .str (str [Jb.sg n]) := by
  rw [sg_val]
  unfold Jb.sg
  split
  · rfl
  · rw [sg_strange]; rfl
theorem flat_one (g : Nat → Nat) : ∀ l : List Nat, (l.map fun n => [g n]).flatten = l.map g
  | [] => rfl
  | x :: r => by rw [List.map_cons, List.flatten_cons, flat_one g r]; rfl
def spTextOf (K : PySem.W.Frag) : Sp := fun vs H Q _ => ∃ (a : Addr) (t : List Nat), vs = [.ref a] ∧ SqL K H a (t.map fun (n : Nat) => V.int n) ∧ t.length ≤ 8300 ∧ ∀ H', Same H H' → Q (.str (str (t.map Jb.sg))) H'
theorem scTextOf : FnScope ["numbers", "signs", "sign", "number"] ["numbers"] (defScope sTextOf) := ⟨rfl, rfl, rfl, by decide +kernel, rfl, by decide +kernel, by decide +kernel⟩
theorem ok_text_of (B : Bl mg) (W : Ws mg) (D : Def K mg "text_of" sTextOf ["numbers"]) : Has P w K mg base 1 "text_of" ["numbers"] (spTextOf K) := by
  refine D.has scTextOf (fun vs H Q E h => ?_) (fun f cdv A outer s H vs Q E hr h => ?_)
  · obtain ⟨a, t, rfl, _⟩ := h
    rfl
  · obtain ⟨a, t, rfl, ht, hl, q⟩ := h
    have hu := hu_of hr
    refine ⟨_, pss_cons (ps_set (i := 1) scTextOf.nd rfl (Or.inr rfl) pe_dnewK)
      (pss_cons (ps_for PassesOwn.never rfl (pi_str (pe_gv W.texts)) (pg_name (i := 2) scTextOf.nd rfl (Or.inl rfl))
        (pss_one (ps_dput hu (pv 1) (pe_callB call_ord (by rfl) B.ord boot_ord (pa_cons (pv 2) pa_nil)) (pv 2) rfl)))
      (pss_one (ps_ret (pe_join pe_str (pe_lc rfl scTextOf.nd (pi_list (pv 0)) (blkOk_by (N := ["numbers", "signs", "sign", "number"]) (sc := defScope sTextOf) (own := [("number", 3)]) (by decide +kernel))
        (fun _ _ _ _ _ => pg_name (i := 3) scTextOf.nd rfl (Or.inl rfl)) (fun _ _ _ _ _ => pts_nil)
        (fun _ _ _ _ _ => pe_dget2 hu (pv 1) (pv 3) (pe_gv W.strange) ⟨rfl, rfl, rfl, rfl⟩)))))), ?_⟩
    intro d hd
    refine ⟨_, rfl, ?_⟩
    -- the signs, one by one
    refine for_str (fun i σ H1 => ∃ v, σ = [some (.ref a), some (.ref d), v, none] ∧ Same H H1 ∧ H1 d = some (.dK ((Jb.sgs.take i).map sgPair))) ⟨none, rfl, same_new hd, upd_same⟩ ?_ ?_
    · rintro i c σ H1 hc ⟨v, rfl, s1, h1⟩
      have hc' : Jb.sgs[i]? = some c := by
        have : (Str.ofString "abcdefghijklmnopqrstuvwxyz0123456789-~:,=> \n").cps.toList = Jb.sgs := congrArg tl sg_texts
        rw [← this]; exact hc
      have hi : i < Jb.sgs.length := (List.getElem?_eq_some_iff.mp hc').1
      have hnew : valV ((Jb.sgs.take i).map sgPair) (.inl (c : Int) : Key) = none := by
        rw [sg_val, if_neg]
        intro hm
        obtain ⟨j, hj⟩ := List.getElem?_of_mem hm
        have hji : j < i := by
          have := (List.getElem?_eq_some_iff.mp hj).1
          rw [List.length_take] at this; omega
        rw [List.getElem?_take_of_lt hji] at hj
        have := nd_ix sgs_nodup hj hc'
        omega
      refine ⟨_, rfl, _, rfl, _, rfl, ⟨#[c]⟩, rfl, rfl, d, _, rfl, DPut.k (k := Sum.inl (c : Int)) h1 (by rw [List.length_map, List.length_take]; exact small1000 (Nat.le_trans (Nat.min_le_right _ _) (by decide))), ?_⟩
      refine ⟨_, rfl, Same.own s1 hd, ?_⟩
      rw [upd_same, putK_new _ hnew]
      congr 2
      rw [List.take_add_one, hc', Option.toList_some, List.map_append]
      rfl
    · rintro σ H1 ⟨v, rfl, s1, h1⟩
      have hall : (Jb.sgs.take ((Str.ofString "abcdefghijklmnopqrstuvwxyz0123456789-~:,=> \n").cps.toList.length)).map sgPair = Jb.sgs.map sgPair := by
        have : (Str.ofString "abcdefghijklmnopqrstuvwxyz0123456789-~:,=> \n").cps.toList = Jb.sgs := congrArg tl sg_texts
        rw [this, List.take_length]
      have h1' : H1 d = some (.dK (Jb.sgs.map sgPair)) := by rw [h1, ← hall]
      refine ⟨⟨_, rfl⟩, _, rfl, a, rfl, ⟨_, s1.seq ht⟩, fun D hD => ?_⟩
      refine lc_list (K := K) (a := a) (xs := t.map fun (n : Nat) => V.int n) (fun i H2 => Same H H2 ∧ H2 d = some (.dK (Jb.sgs.map sgPair)) ∧ H2 D = some (.lst ((t.take i).map fun n => V.str (str [Jb.sg n]))))
        ⟨Same.plus s1 hD, by rw [upd_ne (ne_of_none h1' hD)]; exact h1', upd_same⟩ (fun i H2 _ z => z.1.seq ht) ?_ ?_
      · rintro i x H2 hx ⟨s2, h2, h3⟩
        rw [List.getElem?_map] at hx
        cases ei : t[i]? with
        | none => rw [ei] at hx; cases hx
        | some n =>
          rw [ei] at hx
          cases hx
          have hi : i < t.length := (List.getElem?_eq_some_iff.mp ei).1
          have nDd : D ≠ d := Ne.symm (ne_of_none h1' hD)
          refine ⟨rfl, lcY ?_⟩
          refine ⟨_, rfl, d, rfl, .inl ⟨_, .inl h2⟩, _, rfl, _, DGet.k (k := Sum.inl (n : Int)) h2, _, h3, ?_, ?_⟩
          · rw [List.length_map, List.length_take]; exact Nat.lt_of_le_of_lt (Nat.le_trans (Nat.min_le_right _ _) hl) (by rw [sizeLine_eq]; decide)
          · refine ⟨Same.own s2 (Same.free s1 hD), by rw [upd_ne (Ne.symm nDd)]; exact h2, ?_⟩
            rw [upd_same, sg_get, List.take_add_one, ei, Option.toList_some, List.map_append]
            rfl
      · rintro H2 ⟨s2, h2, h3⟩
        rw [List.length_map, List.take_length] at h3
        have e : (t.map fun n => V.str (str [Jb.sg n])) = (t.map fun n => str [Jb.sg n]).map V.str := by rw [List.map_map]; rfl
        refine ⟨_, D, t.map fun n => str [Jb.sg n], rfl, rfl, .inl (SqL.of (by rw [h3, e])), ?_, ?_⟩
        · have h0 : ∀ l : List Nat, ((l.map fun n => str [Jb.sg n]).map (·.length)).sum = l.length := by
            intro l
            induction l with
            | nil => rfl
            | cons x r ih => rw [List.map_cons, List.map_cons, List.sum_cons, ih]; show 1 + r.length = r.length + 1; omega
          rw [h0]
          have : (Str.ofString "").length = 0 := rfl
          rw [List.length_map]
          show t.length + t.length * (Str.ofString "").length ≤ _
          rw [this]; omega
        · have e2 : Txt.join (Str.ofString "") (t.map fun n => str [Jb.sg n]) = str (t.map Jb.sg) := by
            have e0 : (Str.ofString "") = str [] := ofS rfl
            have e1 : (t.map fun n => str [Jb.sg n]) = (t.map fun n => [Jb.sg n]).map str := by rw [List.map_map]; rfl
            rw [e0, e1, join_str]
            congr 1
            exact flat_one Jb.sg t
          have e3 : Txt.join ("" : Str) (t.map fun n => str [Jb.sg n]) = str (t.map Jb.sg) := e2
          rw [e3]
          exact q H2 s2
end
end L2.Jp
end Jp1_
section Jp2_
namespace L2.Jp
open PySem PySem.Spec PyProof.Rows L2 TL L2.JX
theorem letters_few : ∀ c, c < 128 → decide (c ∈ [97, 98, 99, 100, 101, 102, 103, 104, 105, 106, 107, 108, 109, 110, 111, 112, 113, 114, 115, 116, 117, 118, 119, 120, 121, 122]) = Mo.isSmall c := by decide
theorem signs_few : ∀ c, c < 128 → decide (c ∈ [97, 98, 99, 100, 101, 102, 103, 104, 105, 106, 107, 108, 109, 110, 111, 112, 113, 114, 115, 116, 117, 118, 119, 120, 121, 122, 48, 49, 50, 51, 52, 53, 54, 55, 56, 57, 45]) = (Mo.isSmall c || (Mo.isDigit c || c == 45)) := by decide
theorem not_in {l : List Nat} (h : ∀ x ∈ l, x < 128) {c : Nat} (hc : ¬ c < 128) : decide (c ∈ l) = false := decide_eq_false fun m => hc (h c m)
theorem small_no {c : Nat} (hc : ¬ c < 128) : Mo.isSmall c = false := by
  unfold Mo.isSmall
  rw [decide_eq_false (show ¬ c ≤ 122 from fun h => hc (Nat.lt_of_le_of_lt h (by decide))), Bool.and_false]
theorem mem_letters (c : Nat) : decide (c ∈ (Str.ofString "abcdefghijklmnopqrstuvwxyz").cps.toList) = Mo.isSmall c := by
  have e : (Str.ofString "abcdefghijklmnopqrstuvwxyz").cps.toList = [97, 98, 99, 100, 101, 102, 103, 104, 105, 106, 107, 108, 109, 110, 111, 112, 113, 114, 115, 116, 117, 118, 119, 120, 121, 122] := tl_ofString _
  rw [e]
  by_cases hc : c < 128
  · exact letters_few c hc
  · rw [not_in (by decide) hc, small_no hc]
theorem mem_nameSigns (c : Nat) : decide (c ∈ (Str.ofString "abcdefghijklmnopqrstuvwxyz0123456789-").cps.toList) = (Mo.isSmall c || (Mo.isDigit c || c == 45)) := by
  have e : (Str.ofString "abcdefghijklmnopqrstuvwxyz0123456789-").cps.toList = [97, 98, 99, 100, 101, 102, 103, 104, 105, 106, 107, 108, 109, 110, 111, 112, 113, 114, 115, 116, 117, 118, 119, 120, 121, 122, 48, 49, 50, 51, 52, 53, 54, 55, 56, 57, 45] := tl_ofString _
  rw [e]
  by_cases hc : c < 128
  · exact signs_few c hc
  · rw [not_in (by decide) hc, small_no hc]
    unfold Mo.isDigit
    rw [decide_eq_false (show ¬ c ≤ 57 from fun h => hc (Nat.lt_of_le_of_lt h (by decide))), Bool.and_false, beq_eq_false_iff_ne.mpr (show c ≠ 45 from fun h => hc (by rw [h]; decide))]
    rfl
theorem line9000 {n : Nat} (h : n ≤ 9000) : n < sizeLine := Nat.lt_of_le_of_lt h (by rw [sizeLine_eq]; decide)
section
variable {P : Program} {w : World} {K : PySem.W.Frag} {mg : Str → Option Value} {base : Heap}
def spIsName : Sp := fun vs H Q _ => ∃ b : List Nat, vs = [.str (str b)] ∧ b.length ≤ 9000 ∧ ∀ H', Same H H' → Q (.bl (Mo.isName b)) H'
theorem scIsName : FnScope ["word", "sign"] ["word"] (defScope sIsName) := ⟨rfl, rfl, rfl, by decide +kernel, rfl, by decide +kernel, by decide +kernel⟩
theorem ok_is_name (B : Bl mg) (W : Ws mg) (D : Def K mg "is_name" sIsName ["word"]) : Has P w K mg base 1 "is_name" ["word"] spIsName := by
  refine D.has scIsName (fun vs H Q E h => ?_) (fun f cdv A outer s H vs Q E hr h => ?_)
  · obtain ⟨b, rfl, _⟩ := h
    rfl
  · obtain ⟨b, rfl, hl, q⟩ := h
    have hlen : (str b).length ≤ sizeLine := by rw [str_len]; exact Nat.le_of_lt (line9000 hl)
    refine ⟨_, pss_cons (ps_if (PW.pt (pw_or (pt_cmpR op_eq (pv 0) pe_str (nomark _))
        (pw_or (pt_cmpR op_gt (pe_callB call_len_str (by rfl) B.len PySem.boot_len (pa_cons (pv 0) pa_nil)) (pe_gv W.longName) (nomark _))
        (pw_or1 (pt_cmpR op_notIn_sign (pe_ix ix_str (pv 0) pe_int (fun _ _ => rfl)) (pe_gv W.letters) (by with_unfolding_all rfl)))))) (pss_one (ps_ret pe_bl)) pss_nil)
      (pss_one (ps_ret (pe_callB (cr_all rfl) (by rfl) B.all boot_all (pa_cons (pe_lc rfl scIsName.nd (pi_str (pv 0)) (blkOk_by (N := ["word", "sign"]) (sc := defScope sIsName) (own := [("sign", 1)]) (by decide +kernel))
        (fun _ _ _ _ _ => pg_name (i := 1) scIsName.nd rfl (Or.inl rfl)) (fun _ _ _ _ _ => pts_nil)
        (fun _ _ _ _ _ => pe_cmpR op_in_sign (pv 1) (pe_gv W.names) (by with_unfolding_all rfl))) pa_nil)))), ?_⟩
    refine ⟨_, rfl, rfl, _, rfl, ?_⟩
    refine ite2 (fun h0 => ?_) (fun h0 => ?_)
    · -- the empty word
      refine iteT ?_
      have e : b = [] := by
        have := of_decide_eq_true h0
        have e0 : (Str.ofString "") = str [] := ofS rfl
        exact str_inj ((V.str.inj this).trans e0)
      subst e
      exact q H (Same.refl H)
    · have hb : b ≠ [] := fun e => by
        subst e
        exact h0 (decide_eq_true rfl)
      refine ⟨_, rfl, str b, rfl, hlen, _, _, rfl, rfl, _, rfl, ?_⟩
      refine ite2 (fun h1 => ?_) (fun h1 => ?_)
      · -- too long
        refine iteT ?_
        have h1 := of_decide_eq_true h1
        have e : Mo.isName b = false := by
          unfold Mo.isName
          rw [str_len] at h1
          have : decide (b.length ≤ 15) = false := by rw [decide_eq_false_iff_not]; omega
          rw [this]; simp
        rw [← e]
        exact q H (Same.refl H)
      · have h1 : ¬ (15 : Int) < ((str b).length : Int) := fun z => h1 (decide_eq_true z)
        rw [str_len] at h1
        obtain ⟨c, r, rfl⟩ : ∃ c r, b = c :: r := by
          cases b with
          | nil => exact absurd rfl hb
          | cons c r => exact ⟨c, r, rfl⟩
        refine ⟨_, rfl, str (c :: r), 0, c, rfl, rfl, hlen, atI_nat (j := 0) rfl, c, _, rfl, rfl, _, rfl, ?_⟩
        have em := mem_letters c
        refine ite2 (fun h2 => ?_) (fun h2 => ?_)
        · have e : Mo.isName (c :: r) = false := by
            unfold Mo.isName
            have : Mo.isSmall c = false := by
              rw [← em]
              simpa using h2
            simp [this]
          rw [← e]
          exact q H (Same.refl H)
        · have hs : Mo.isSmall c = true := by
            rw [← em]
            simpa using h2
          refine ⟨_, rfl, str (c :: r), rfl, fun D hD => ?_⟩
          refine lc_str (x := str (c :: r)) (fun i H2 => Same H H2 ∧ H2 D = some (.lst (((c :: r).take i).map fun c => V.bl (Mo.isSmall c || (Mo.isDigit c || c == 45)))))
            ⟨same_new hD, upd_same⟩ ?_ ?_
          · rintro i x H2 hx ⟨s2, h3⟩
            have hx' : (c :: r)[i]? = some x := hx
            have hi : i < (c :: r).length := (List.getElem?_eq_some_iff.mp hx').1
            refine ⟨rfl, lcY ?_⟩
            refine ⟨_, rfl, x, _, rfl, rfl, _, h3, ?_, Same.own s2 hD, ?_⟩
            · rw [List.length_map, List.length_take]; exact line9000 (Nat.le_trans (Nat.min_le_right _ _) hl)
            · have e := mem_nameSigns x
              rw [upd_same, List.take_add_one, hx', Option.toList_some, List.map_append]
              show some (HO.lst (_ ++ [V.bl _])) = some (HO.lst (_ ++ [V.bl _]))
              rw [← e]
          · rintro H2 ⟨s2, h3⟩
            have e1 : (c :: r).take (str (c :: r)).cps.toList.length = c :: r := List.take_length
            rw [e1] at h3
            refine ⟨D, (c :: r).map fun c => (Mo.isSmall c || (Mo.isDigit c || c == 45)), rfl, SqL.of (by rw [h3, List.map_map]; rfl), ?_⟩
            have e : (((c :: r).map fun c => (Mo.isSmall c || (Mo.isDigit c || c == 45))).all id) = Mo.isName (c :: r) := by
              unfold Mo.isName
              have h15 : (c :: r).length ≤ 15 := by omega
              rw [List.all_map]
              show (c :: r).all _ = (decide (1 ≤ (c :: r).length) && (decide ((c :: r).length ≤ 15) && (Mo.isSmall c && (c :: r).all _)))
              rw [hs, decide_eq_true h15]
              simp
            rw [e]
            exact q H2 s2
def spIsOpposite : Sp := fun vs H Q _ => ∃ b : List Nat, vs = [.str (str b)] ∧ Q (.bl (decide (b.head? = some 126))) H
theorem scIsOpposite : FnScope ["literal"] ["literal"] (defScope sIsOpposite) := ⟨rfl, rfl, rfl, by decide +kernel, rfl, by decide +kernel, by decide +kernel⟩
theorem ok_is_opposite (D : Def K mg "is_opposite" sIsOpposite ["literal"]) : Has P w K mg base 1 "is_opposite" ["literal"] spIsOpposite := by
  refine D.has scIsOpposite (fun vs H Q E h => ?_) (fun f cdv A outer s H vs Q E hr h => ?_)
  · obtain ⟨b, rfl, _⟩ := h
    rfl
  · obtain ⟨b, rfl, q⟩ := h
    refine ⟨_, pss_one (ps_ret (pe_m1 PySem.F.slot_str_startswith PySem.F.type_str_startswith mt_startswith (pv 0) pe_str)), ?_⟩
    refine ⟨_, rfl, ⟨_, rfl⟩, _, _, rfl, rfl, ?_⟩
    have e : (Str.ofString "~") = str [126] := ofS rfl
    show Q (.bl (Txt.startswith (str b) (Str.ofString "~"))) H
    rw [e, starts1]
    exact q
def atomB (b : List Nat) : List Nat := if b.head? = some 126 then b.drop 1 else b
theorem atomB_le (b : List Nat) : (atomB b).length ≤ b.length := by
  unfold atomB; split
  · rw [List.length_drop]; omega
  · exact Nat.le_refl _
def spAtomOf : Sp := fun vs H Q _ => ∃ b : List Nat, vs = [.str (str b)] ∧ b.length ≤ 9000 ∧ Q (.str (str (atomB b))) H
theorem scAtomOf : FnScope ["literal"] ["literal"] (defScope sAtomOf) := ⟨rfl, rfl, rfl, by decide +kernel, rfl, by decide +kernel, by decide +kernel⟩
theorem ok_atom_of (h1 : Has P w K mg base 1 "is_opposite" ["literal"] spIsOpposite) (D : Def K mg "atom_of" sAtomOf ["literal"]) : Has P w K mg base 2 "atom_of" ["literal"] spAtomOf := by
  refine D.has scAtomOf (fun vs H Q E h => ?_) (fun f cdv A outer s H vs Q E hr h => ?_)
  · obtain ⟨b, rfl, _⟩ := h
    rfl
  · obtain ⟨b, rfl, hl, q⟩ := h
    refine ⟨_, pss_one (ps_ret (pe_ifExp (pt_val (pe_callH h1 hr (pa_cons (pv 0) pa_nil))) (pe_slice sl_str (pv 0) (po_some pe_int) po_none) (pv 0))), ?_⟩
    refine ⟨_, rfl, b, rfl, _, rfl, ?_⟩
    unfold atomB at q
    refine ite2 (fun h0 => ?_) (fun h0 => ?_)
    · rw [if_pos (of_decide_eq_true h0)] at q
      refine ⟨_, rfl, _, rfl, str b, rfl, by rw [str_len]; exact Nat.le_of_lt (line9000 hl), ?_⟩
      have e := cut_tail b
      show Q (.str (cutS (str b) (some 1) none)) H
      rw [e]
      exact q
    · rw [if_neg (fun z => h0 (decide_eq_true z))] at q
      exact ⟨_, rfl, q⟩
def spIsLiteral : Sp := fun vs H Q _ => ∃ b : List Nat, vs = [.str (str b)] ∧ b.length ≤ 9000 ∧ ∀ H', Same H H' → Q (.bl (Mo.litOf b).isSome) H'
theorem lit_is (b : List Nat) : Mo.isName (atomB b) = (Mo.litOf b).isSome := by
  unfold atomB Mo.litOf
  cases b with
  | nil => rfl
  | cons c r =>
    by_cases h : c = 126
    · subst h
      simp only [List.head?_cons, if_true, List.drop_one, List.tail_cons]
      cases Mo.isName r <;> simp
    · simp only [List.head?_cons, Option.some.injEq, h, if_false]
      split
      · rename_i e; exact absurd (List.cons.inj e).1 h
      · cases Mo.isName (c :: r) <;> simp
theorem scIsLiteral : FnScope ["word"] ["word"] (defScope sIsLiteral) := ⟨rfl, rfl, rfl, by decide +kernel, rfl, by decide +kernel, by decide +kernel⟩
theorem ok_is_literal (h1 : Has P w K mg base 2 "atom_of" ["literal"] spAtomOf) (h2 : Has P w K mg base 1 "is_name" ["word"] spIsName) (D : Def K mg "is_literal" sIsLiteral ["word"]) : Has P w K mg base 3 "is_literal" ["word"] spIsLiteral := by
  refine D.has scIsLiteral (fun vs H Q E h => ?_) (fun f cdv A outer s H vs Q E hr h => ?_)
  · obtain ⟨b, rfl, _⟩ := h
    rfl
  · obtain ⟨b, rfl, hl, q⟩ := h
    refine ⟨_, pss_one (ps_ret (pe_callH h2.mono hr (pa_cons (pe_callH h1 hr (pa_cons (pv 0) pa_nil)) pa_nil))), ?_⟩
    refine ⟨_, rfl, b, rfl, hl, atomB b, rfl, Nat.le_trans (atomB_le b) hl, fun H' s' => ?_⟩
    rw [lit_is]
    exact q H' s'
end
end L2.Jp
end Jp2_
section Jp3_
namespace L2.Jp
open PySem PySem.Spec PyProof.Rows L2 TL L2.JX
def sV (b : List Nat) : V := .str (str b)
def litV (l : Mo.Lit) : V := .str (str (Jb.litBytes l))
def ReadsB (ws : List (List Nat)) (i : Nat) (ls : List Mo.Lit) : Prop := Jb.readBody ws = (Jb.readBody (ws.drop i)).map (ls ++ ·)
theorem readsB0 (ws : List (List Nat)) : ReadsB ws 0 [] := by
  unfold ReadsB
  rw [List.drop_zero]
  cases Jb.readBody ws <;> simp
theorem readsB_end {ws : List (List Nat)} {ls : List Mo.Lit} (h : ReadsB ws ws.length ls) : Jb.readBody ws = some ls := by
  unfold ReadsB at h
  rw [List.drop_length] at h
  rw [h]; simp [Jb.readBody]
def wordAt (ws : List (List Nat)) (i : Nat) (wd : List Nat) : List Nat := if i + 1 < ws.length then wd.dropLast else wd
theorem readsB_step {ws : List (List Nat)} {i : Nat} {ls : List Mo.Lit} {wd : List Nat} {l : Mo.Lit} (h : ReadsB ws i ls) (hw : ws[i]? = some wd) (hc : i + 1 < ws.length → wd.getLast? = some 44) (hl : Mo.litOf (wordAt ws i wd) = some l) : ReadsB ws (i + 1) (ls ++ [l]) := by
  unfold ReadsB at h ⊢
  obtain ⟨hi, e⟩ := List.getElem?_eq_some_iff.mp hw
  rw [h, List.drop_eq_getElem_cons hi, e]
  unfold wordAt at hl
  by_cases hlt : i + 1 < ws.length
  · rw [if_pos hlt] at hl
    rw [List.drop_eq_getElem_cons hlt]
    simp only [Jb.readBody, hc hlt, if_true, hl]
    cases Jb.readBody (ws[i + 1] :: ws.drop (i + 1 + 1)) <;> simp
  · rw [if_neg hlt] at hl
    have : ws.drop (i + 1) = [] := List.drop_eq_nil_of_le (by omega)
    rw [this]
    simp [Jb.readBody, hl]
theorem readsB_bad {ws : List (List Nat)} {i : Nat} {ls : List Mo.Lit} {wd : List Nat} (h : ReadsB ws i ls) (hw : ws[i]? = some wd) (hb : (i + 1 < ws.length ∧ wd.getLast? ≠ some 44) ∨ Mo.litOf (wordAt ws i wd) = none) : Jb.readBody ws = none := by
  unfold ReadsB at h
  obtain ⟨hi, e⟩ := List.getElem?_eq_some_iff.mp hw
  rw [h, List.drop_eq_getElem_cons hi, e]
  unfold wordAt at hb
  by_cases hlt : i + 1 < ws.length
  · rw [List.drop_eq_getElem_cons hlt]
    rw [if_pos hlt] at hb
    by_cases hc : wd.getLast? = some 44
    · rcases hb with ⟨_, hb⟩ | hb
      · exact absurd hc hb
      · simp only [Jb.readBody, hc, if_true, hb]; rfl
    · simp only [Jb.readBody, hc, if_false]; rfl
  · have : ws.drop (i + 1) = [] := List.drop_eq_nil_of_le (by omega)
    rw [this]
    rcases hb with ⟨q, _⟩ | hb
    · exact absurd q hlt
    · rw [if_neg hlt] at hb
      simp [Jb.readBody, hb]
section
variable {P : Program} {w : World} {K : PySem.W.Frag} {mg : Str → Option Value} {base : Heap}
def spReadBody (K : PySem.W.Frag) : Sp := fun vs H Q _ => ∃ (a : Addr) (ws : List (List Nat)), vs = [.ref a] ∧ SqL K H a (ws.map sV) ∧ ws.length ≤ 9000 ∧ (∀ x ∈ ws, x.length ≤ 9000) ∧
  (∀ H', Same H H' → Jb.bodyOk ws = none → Q .non H') ∧ ∀ H' p ls, Same H H' → Jb.bodyOk ws = some ls → H' p = some (.tup (ls.map litV)) → Q (.ref p) H'
theorem scReadBody : FnScope ["words", "body", "place", "word", "literal"] ["words"] (defScope sReadBody) := ⟨rfl, rfl, rfl, by decide +kernel, rfl, by decide +kernel, by decide +kernel⟩
theorem ok_read_body (B : Bl mg) (W : Ws mg) (h1 : Has P w K mg base 3 "is_literal" ["word"] spIsLiteral) (D : Def K mg "read_body" sReadBody ["words"]) : Has P w K mg base 4 "read_body" ["words"] (spReadBody K) := by
  refine D.has scReadBody (fun vs H Q E h => ?_) (fun f cdv A outer s H vs Q E hr h => ?_)
  · obtain ⟨a, ws, rfl, _⟩ := h
    rfl
  · obtain ⟨a, ws, rfl, ha, hn, hx, q0, q1⟩ := h
    have hu := hu_of hr
    refine ⟨_, pss_cons (ps_if (pt_cmpR op_gt (pe_callB call_len_seq (by rfl) B.len PySem.boot_len (pa_cons (pv 0) pa_nil)) (pe_gv W.longBody) (nomark _)) (pss_one (ps_ret pe_non)) pss_nil)
      (pss_cons (ps_set (i := 1) scReadBody.nd rfl (Or.inl rfl) (pe_lst pa_nil))
      (pss_cons (ps_for PassesOwn.never rfl (pi_enum (by rfl) B.enum (pa_cons (pv 0) pa_nil)) (pg_tup rfl (pgs_cons (pg_name (i := 2) scReadBody.nd rfl (Or.inl rfl)) (pgs_cons (pg_name (i := 3) scReadBody.nd rfl (Or.inl rfl)) pgs_nil)))
        (pss_cons (ps_set (i := 4) scReadBody.nd rfl (Or.inl rfl) (pv 3))
        (pss_cons (ps_if (pt_cmpR op_lt (pv 2) (pe_op op_sub (pe_callB call_len_seq (by rfl) B.len PySem.boot_len (pa_cons (pv 0) pa_nil)) pe_int) (nomark _))
          (pss_cons (ps_if (pt_not (pt_val (pe_m1 PySem.F.slot_str_endswith PySem.F.type_str_endswith mt_endswith (pv 3) pe_str))) (pss_one (ps_ret pe_non)) pss_nil)
          (pss_one (ps_set (i := 4) scReadBody.nd rfl (Or.inl rfl) (pe_slice sl_str (pv 3) po_none (po_some (pe_un un_neg pe_int)))))) pss_nil)
        (pss_cons (ps_if (pt_not (pt_val (pe_callH h1 hr (pa_cons (pv 4) pa_nil)))) (pss_one (ps_ret pe_non)) pss_nil)
        (pss_one (ps_expr (pe_bm PySem.F.plainAttrs_list PySem.F.slot_list_append PySem.F.type_list_append mt_append (pv 1) (pa_cons (pv 4) pa_nil))))))))
      (pss_one (ps_ret (pe_callTy call_tuple_of (by rfl) B.tuple boot_tuple (pa_cons (pv 1) pa_nil)))))), ?_⟩
    refine ⟨_, rfl, a, _, rfl, .inl ha, _, _, rfl, rfl, _, rfl, ?_⟩
    rw [List.length_map]
    refine ite2 (fun h0 => ?_) (fun h0 => ?_)
    · -- too many words
      have h0 := of_decide_eq_true h0
      refine q0 H (Same.refl H) ?_
      unfold Jb.bodyOk
      rw [if_neg (by omega)]
    · have h6 : ws.length ≤ 6 := by
        have : ¬ (6 : Int) < (ws.length : Int) := fun z => h0 (decide_eq_true z)
        omega
      have eb : Jb.bodyOk ws = Jb.readBody ws := by unfold Jb.bodyOk; rw [if_pos h6]
      refine ⟨by show 0 ≤ sizeLine; omega, fun l hl => ?_⟩
      refine ⟨_, rfl, a, _, rfl, (same_new hl).seq ha, ?_⟩
      refine for_enum (K := K) (a := a) (xs := ws.map sV) (fun i σ H2 => ∃ ls v1 v2 v3, σ = [some (.ref a), some (.ref l), v1, v2, v3] ∧ Same H H2 ∧ H2 l = some (.lst (ls.map litV)) ∧ ls.length = i ∧ ReadsB ws i ls)
        ⟨[], none, none, none, rfl, same_new hl, upd_same, rfl, readsB0 ws⟩ (fun i σ H2 _ ⟨_, _, _, _, _, s2, _⟩ => s2.seq ha) ?_ ?_
      · rintro i x σ H2 T hi ⟨ls, v1, v2, v3, rfl, s2, hbd, hlen, hR⟩ hT
        rw [List.getElem?_map] at hi
        cases ei : ws[i]? with
        | none => rw [ei] at hi; cases hi
        | some wd =>
          rw [ei] at hi
          cases hi
          have hi' : i < ws.length := (List.getElem?_eq_some_iff.mp ei).1
          have hwd : wd.length ≤ 9000 := hx wd (List.mem_of_getElem? ei)
          have hTl : l ≠ T := ne_of_none hbd hT
          have s3 : Same H (upd H2 T (.tup [.int (i : Nat), sV wd])) := Same.plus s2 hT
          have hbd3 : (upd H2 T (.tup [.int (i : Nat), sV wd])) l = some (.lst (ls.map litV)) := by rw [upd_ne hTl]; exact hbd
          refine ⟨T, _, rfl, SqT.of upd_same, rfl, _, _, rfl, _, _, rfl, rfl, ?_⟩
          refine ⟨_, rfl, ?_⟩
          refine ⟨_, rfl, _, rfl, a, _, rfl, .inl (s3.seq ha), _, _, rfl, rfl, _, _, rfl, rfl, _, rfl, ?_⟩
          rw [List.length_map]
          have fin : ∀ (y : V) (H3 : Hp) (lt : Mo.Lit), y = sV (wordAt ws i wd) → Same (upd H2 T (.tup [.int (i : Nat), sV wd])) H3 → (i + 1 < ws.length → wd.getLast? = some 44) → Mo.litOf (wordAt ws i wd) = some lt →
              ∃ ls' v1 v2 v3, ([some (.ref a), some (.ref l), some (.int (i : Nat)), some (sV wd), some y] : St) = [some (.ref a), some (.ref l), v1, v2, v3] ∧ Same H (upd H3 l (.lst (ls.map litV ++ [y]))) ∧ (upd H3 l (.lst (ls.map litV ++ [y]))) l = some (.lst (ls'.map litV)) ∧ ls'.length = i + 1 ∧ ReadsB ws (i + 1) ls' := by
            intro y H3 lt ey s4 hc hlt
            refine ⟨ls ++ [lt], _, _, _, rfl, Same.own (s3.trans s4) hl, ?_, by rw [List.length_append, hlen]; rfl, readsB_step hR ei hc hlt⟩
            rw [upd_same, List.map_append, ey]
            have e := (Jb.litOf_some hlt).1
            show some (HO.lst (_ ++ [sV (wordAt ws i wd)])) = some (HO.lst (_ ++ [litV lt]))
            rw [e]; rfl
          have lsz : (ls.map litV).length < sizeLine := by rw [List.length_map, hlen]; exact line9000 (by omega)
          refine ite2 (fun h2 => ?_) (fun h2 => ?_)
          · have hlt : i + 1 < ws.length := by
              have := of_decide_eq_true h2
              omega
            refine ⟨_, rfl, ⟨_, rfl⟩, _, _, rfl, rfl, _, rfl, ?_⟩
            have e1 : Txt.endswith (str wd) (Str.ofString ",") = decide (wd.getLast? = some 44) := by
              have e : (Str.ofString ",") = str [44] := ofS rfl
              rw [e, ends1]
            show if (!Txt.endswith (str wd) (Str.ofString ",")) = true then _ else _
            rw [e1]
            by_cases hc : wd.getLast? = some 44
            · rw [decide_eq_true hc]
              refine iteF ?_
              have hne : wd ≠ [] := fun e => by subst e; cases hc
              have ec := cut_init wd hne
              have e2 : V.str (cutS (str wd) none (some (-1))) = sV (wordAt ws i wd) := by rw [ec]; unfold wordAt; rw [if_pos hlt]; rfl
              refine ⟨_, rfl, _, rfl, _, rfl, str wd, rfl, by rw [str_len]; exact Nat.le_of_lt (line9000 hwd), ?_⟩
              refine ⟨_, rfl, wordAt ws i wd, congrArg (fun v => [v]) e2, by unfold wordAt; rw [if_pos hlt, List.length_dropLast]; omega, fun H3 s4 => ⟨_, rfl, ?_⟩⟩
              have hb4 := s4 _ _ hbd3
              cases hlt2 : Mo.litOf (wordAt ws i wd) with
              | none =>
                refine iteT ?_
                exact q0 _ (s3.trans s4) (by rw [eb]; exact readsB_bad hR ei (.inr hlt2))
              | some lt =>
                refine iteF ?_
                refine ⟨_, rfl, .inl ⟨rfl, _, SqL.of hb4⟩, _, rfl, l, _, _, rfl, rfl, hb4, lsz, ?_⟩
                exact fin _ H3 lt e2 s4 (fun _ => hc) hlt2
            · rw [decide_eq_false hc]
              refine iteT ?_
              exact q0 _ s3 (by rw [eb]; exact readsB_bad hR ei (.inl ⟨hlt, hc⟩))
          · have hlt : ¬ i + 1 < ws.length := fun z => h2 (decide_eq_true (by omega))
            have e2 : sV wd = sV (wordAt ws i wd) := by unfold wordAt; rw [if_neg hlt]
            refine ⟨_, rfl, wordAt ws i wd, congrArg (fun v => [v]) e2, by unfold wordAt; rw [if_neg hlt]; exact hwd, fun H3 s4 => ⟨_, rfl, ?_⟩⟩
            have hb4 := s4 _ _ hbd3
            cases hlt2 : Mo.litOf (wordAt ws i wd) with
            | none =>
              refine iteT ?_
              exact q0 _ (s3.trans s4) (by rw [eb]; exact readsB_bad hR ei (.inr hlt2))
            | some lt =>
              refine iteF ?_
              refine ⟨_, rfl, .inl ⟨rfl, _, SqL.of hb4⟩, _, rfl, l, _, _, rfl, rfl, hb4, lsz, ?_⟩
              exact fin _ H3 lt e2 s4 (fun z => absurd z hlt) hlt2
      · rintro σ H2 ⟨ls, v1, v2, v3, rfl, s2, hbd, hlen, hR⟩
        rw [List.length_map] at hR
        refine ⟨_, rfl, l, _, rfl, .inl ⟨SqL.of hbd, fun p hp => ?_⟩⟩
        exact q1 _ p ls (Same.plus s2 hp) (by rw [eb]; exact readsB_end hR) upd_same
end
end L2.Jp
end Jp3_
section Jp4_
namespace L2.Jp
open PySem PySem.Spec PyProof.Rows L2 TL L2.JX
theorem atI_m1 {α : Type} (l : List α) (x y : α) : atI (l ++ [x, y]) (-1) = some y := by
  have e : l ++ [x, y] = (l ++ [x]) ++ [y] := by simp
  rw [e]; exact atI_last _ _
theorem atI_m2 {α : Type} (l : List α) (x y : α) : atI (l ++ [x, y]) (-2) = some x := by
  unfold atI ixN
  rw [if_neg (by decide), if_pos (by simp; omega)]
  have : ((-2 : Int) + ((l ++ [x, y]).length : Nat)).toNat = l.length := by simp; omega
  rw [this]
  simp
theorem cut_mid (x0 x1 : V) (l : List V) (y0 y1 : V) : cutV (x0 :: x1 :: (l ++ [y0, y1])) (some 2) (some (-2)) = l := by
  have hlen : (x0 :: x1 :: (l ++ [y0, y1])).length = l.length + 4 := by simp
  have e1 : HT.sIx (l.length + 4) 0 (some 2) = 2 := by
    have := HT.sIx_nat (l.length + 4) 0 2
    rw [show ((2 : Nat) : Int) = 2 from rfl] at this
    rw [this]; omega
  have e2 : HT.sIx (l.length + 4) (l.length + 4) (some (-2)) = l.length + 2 := by
    show (if (-2 : Int) < 0 then ((-2 : Int) + ((l.length + 4 : Nat) : Int)).toNat else min (-2 : Int).toNat (l.length + 4)) = _
    rw [if_pos (by decide)]
    omega
  unfold cutV
  rw [hlen, e1, e2]
  show ((l ++ [y0, y1]).take (l.length + 2 - 2)) = l
  rw [Nat.add_sub_cancel, List.take_left]
theorem four (ws : List (List Nat)) (h : 4 ≤ ws.length) : ∃ w0 n bs ar hd, ws = w0 :: n :: (bs ++ [ar, hd]) := by
  match ws, h with
  | w0 :: n :: r, h =>
    have hr : 2 ≤ r.length := by simp at h; omega
    refine ⟨w0, n, r.take (r.length - 2), r[r.length - 2]'(by omega), r[r.length - 1]'(by omega), ?_⟩
    congr 2
    have e := (List.take_append_drop (r.length - 2) r).symm
    rw [List.drop_eq_getElem_cons (by omega), List.drop_eq_getElem_cons (by omega)] at e
    have e3 : r.drop (r.length - 2 + 1 + 1) = [] := List.drop_eq_nil_of_le (by omega)
    rw [e3] at e
    have e4 : r.length - 2 + 1 = r.length - 1 := by omega
    simp only [e4] at e
    exact e
def lawB : List Nat := Mo.ascii "law"
def ruleB : List Nat := Mo.ascii "rule"
def weighB : List Nat := Mo.ascii "weigh"
theorem law_s : ("law" : Str) = str lawB := ofS rfl
theorem rule_s : ("rule" : Str) = str ruleB := ofS rfl
theorem weigh_s : ("weigh" : Str) = str weighB := ofS rfl
def arrowsD : List (Key × V) := [(.inr "law", .str "->"), (.inr "rule", .str "=>")]
structure Ar (P : Program) (w : World) (K : PySem.W.Frag) (mg : Str → Option Value) : Prop where
  ex : ∃ a, GV mg "ARROWS" (.ref a) ∧ MDict P w K a arrowsD
def clauseOf (arrow : List Nat) : List (List Nat) → Option Mo.Row
  | n :: r => Mo.rowIn arrow n r
  | [] => none
theorem clause_short {arrow : List Nat} {ws : List (List Nat)} (h : ws.length < 3) : clauseOf arrow ws = none := by
  match ws, h with
  | [], _ => rfl
  | n :: r, h => exact Jb.rowIn_short (by simp at h; omega)
inductive Kind : List Nat → List Nat → Prop
  | law : Kind lawB (Mo.ascii "->")
  | rule : Kind ruleB (Mo.ascii "=>")
theorem Kind.arrow1 {w0 ar : List Nat} (k : Kind w0 ar) : Mo.litOf ar = none ∧ ar.getLast? ≠ some 44 := by
  cases k
  · exact ⟨Jb.arrow_law1, Jb.arrow_law2⟩
  · exact ⟨Jb.arrow_rule1, Jb.arrow_rule2⟩
theorem Kind.val {w0 ar : List Nat} (k : Kind w0 ar) : valV arrowsD (.inr (str w0)) = some (sV ar) := by
  cases k
  · rw [← law_s]
    have e : ("->" : Str) = str (Mo.ascii "->") := ofS rfl
    show some (V.str "->") = some (V.str (str (Mo.ascii "->")))
    rw [← e]
  · rw [← rule_s]
    have e : ("=>" : Str) = str (Mo.ascii "=>") := ofS rfl
    have e2 : valV arrowsD (.inr "rule") = some (V.str "=>") := by
      unfold arrowsD
      rw [valV_neg (fun z => absurd (Sum.inr.inj z) (by decide +kernel)), valV_pos rfl]
    rw [e2, e]; rfl
section
variable {P : Program} {w : World} {K : PySem.W.Frag} {mg : Str → Option Value} {base : Heap}
def spReadWeight (K : PySem.W.Frag) : Sp := fun vs H Q _ => ∃ (a : Addr) (ws : List (List Nat)), vs = [.ref a] ∧ SqL K H a (ws.map sV) ∧ ws.length ≤ 9000 ∧ (∀ x ∈ ws, x.length ≤ 9000) ∧
  (∀ H', Same H H' → (∀ w0 x y, ws = [w0, x, [62], y] → ¬ (Mo.isName x = true ∧ Mo.isName y = true)) → Q .non H') ∧
  ∀ H' p w0 x y, Same H H' → ws = [w0, x, [62], y] → Mo.isName x = true → Mo.isName y = true → H' p = some (.tup [.str "weigh", sV x, sV y]) → Q (.ref p) H'
theorem scReadWeight : FnScope ["words"] ["words"] (defScope sReadWeight) := ⟨rfl, rfl, rfl, by decide +kernel, rfl, by decide +kernel, by decide +kernel⟩
theorem ok_read_weight (B : Bl mg) (W : Ws mg) (h1 : Has P w K mg base 1 "is_name" ["word"] spIsName) (D : Def K mg "read_weight" sReadWeight ["words"]) : Has P w K mg base 2 "read_weight" ["words"] (spReadWeight K) := by
  refine D.has scReadWeight (fun vs H Q E h => ?_) (fun f cdv A outer s H vs Q E hr h => ?_)
  · obtain ⟨a, ws, rfl, _⟩ := h
    rfl
  · obtain ⟨a, ws, rfl, ha, hn, hx, q0, q1⟩ := h
    refine ⟨_, pss_cons (ps_if (PW.pt (pw_or (pt_cmpR op_ne (pe_callB call_len_seq (by rfl) B.len PySem.boot_len (pa_cons (pv 0) pa_nil)) pe_int (nomark _))
        (pw_or1 (pt_cmpR op_ne (pe_ix ix_list (pv 0) pe_int (fun _ _ => rfl)) pe_str (nomark _))))) (pss_one (ps_ret pe_non)) pss_nil)
      (pss_cons (ps_if (PW.pt (pw_or (pt_not (pt_val (pe_callH h1 hr (pa_cons (pe_ix ix_list (pv 0) pe_int (fun _ _ => rfl)) pa_nil))))
        (pw_or1 (pt_not (pt_val (pe_callH h1 hr (pa_cons (pe_ix ix_list (pv 0) pe_int (fun _ _ => rfl)) pa_nil))))))) (pss_one (ps_ret pe_non)) pss_nil)
      (pss_one (ps_ret (pe_tup (pa_cons (pe_gv W.weigh) (pa_cons (pe_ix ix_list (pv 0) pe_int (fun _ _ => rfl)) (pa_cons (pe_ix ix_list (pv 0) pe_int (fun _ _ => rfl)) pa_nil))))))), ?_⟩
    refine ⟨_, rfl, a, _, rfl, .inl ha, rfl, _, rfl, ?_⟩
    rw [List.length_map]
    refine ite2 (fun h0 => ?_) (fun h0 => ?_)
    · refine iteT ?_
      refine q0 H (Same.refl H) fun w0 x y e _ => ?_
      subst e
      simp at h0
    · have h4 : ws.length = 4 := by
        simp at h0
        omega
      obtain ⟨w0, x, g, y, rfl⟩ : ∃ w0 x g y, ws = [w0, x, g, y] := by
        match ws, h4 with
        | [a, b, c, d], _ => exact ⟨a, b, c, d, rfl⟩
      refine ⟨_, rfl, a, _, _, _, rfl, rfl, ha, atI_nat (j := 2) rfl, rfl, _, rfl, ?_⟩
      have eg : (Str.ofString ">") = str [62] := ofS rfl
      refine ite2 (fun h2 => ?_) (fun h2 => ?_)
      · refine q0 H (Same.refl H) fun w1 x1 y1 e _ => ?_
        have : g = [62] := by injection e with _ e; injection e with _ e; injection e
        subst this
        have : sV [62] = V.str (Str.ofString ">") := by rw [eg]; rfl
        simp [this] at h2
      · have hgt : g = [62] := by
          have : sV g = V.str (Str.ofString ">") := by
            apply Decidable.byContradiction
            intro z
            exact h2 (by simp [z])
          rw [eg] at this
          exact str_inj (V.str.inj this)
        subst hgt
        refine ⟨_, rfl, a, _, _, _, rfl, rfl, ha, atI_nat (j := 1) rfl, x, rfl, hx x (by simp), fun H1 s1 => ⟨_, rfl, ?_⟩⟩
        cases n1 : Mo.isName x with
        | false =>
          refine iteT ?_
          refine q0 H1 s1 fun w1 x1 y1 e z => ?_
          have : x = x1 := by injection e with _ e; injection e
          subst this
          rw [n1] at z; cases z.1
        | true =>
          refine iteF ?_
          refine ⟨_, rfl, a, _, _, _, rfl, rfl, s1.seq ha, atI_nat (j := 3) rfl, y, rfl, hx y (by simp), fun H2 s2 => ⟨_, rfl, ?_⟩⟩
          cases n2 : Mo.isName y with
          | false =>
            refine iteT ?_
            refine q0 H2 (s1.trans s2) fun w1 x1 y1 e z => ?_
            have : y = y1 := by injection e with _ e; injection e with _ e; injection e with _ e; injection e
            subst this
            rw [n2] at z; cases z.2
          | true =>
            refine iteF ?_
            have s12 := s1.trans s2
            refine ⟨_, rfl, a, _, _, _, rfl, rfl, s12.seq ha, atI_nat (j := 1) rfl, _, rfl, a, _, _, _, rfl, rfl, s12.seq ha, atI_nat (j := 3) rfl, by show 3 ≤ sizeLine; decide, fun p hp => ?_⟩
            exact q1 _ p w0 x y (Same.plus s12 hp) rfl n1 n2 upd_same
def spReadClause (K : PySem.W.Frag) : Sp := fun vs H Q _ => ∃ (a : Addr) (w0 ar : List Nat) (ws : List (List Nat)), vs = [.ref a] ∧ SqL K H a ((w0 :: ws).map sV) ∧ ws.length ≤ 9000 ∧ (∀ x ∈ ws, x.length ≤ 9000) ∧ Kind w0 ar ∧
  (∀ H', Same H H' → clauseOf ar ws = none → Q .non H') ∧
  ∀ H' p pb r, Same H H' → clauseOf ar ws = some r → H' p = some (.tup [sV w0, sV r.name, .ref pb, litV r.head]) → H' pb = some (.tup (r.body.map litV)) → Q (.ref p) H'
theorem scReadClause : FnScope ["words", "name", "body", "head"] ["words"] (defScope sReadClause) := ⟨rfl, rfl, rfl, by decide +kernel, rfl, by decide +kernel, by decide +kernel⟩
theorem ok_read_clause (B : Bl mg) (AR : Ar P w K mg) (h1 : Has P w K mg base 1 "is_name" ["word"] spIsName) (h2 : Has P w K mg base 3 "is_literal" ["word"] spIsLiteral) (h3 : Has P w K mg base 4 "read_body" ["words"] (spReadBody K))
    (D : Def K mg "read_clause" sReadClause ["words"]) : Has P w K mg base 5 "read_clause" ["words"] (spReadClause K) := by
  refine D.has scReadClause (fun vs H Q E h => ?_) (fun f cdv A outer s H vs Q E hr h => ?_)
  · obtain ⟨a, w0, ar, ws, rfl, _⟩ := h
    rfl
  · obtain ⟨a, w0, arr, ws, rfl, ha, hn, hx, kd, q0, q1⟩ := h
    obtain ⟨aA, gA, mA⟩ := AR.ex
    have hu := hu_of hr
    refine ⟨_, pss_cons (ps_if (PW.pt (pw_or (pt_cmpR op_lt (pe_callB call_len_seq (by rfl) B.len PySem.boot_len (pa_cons (pv 0) pa_nil)) pe_int (nomark _))
        (pw_or (pt_cmpR op_ne (pe_ix ix_list (pv 0) (pe_un un_neg pe_int) (fun _ _ => rfl)) (pe_mget (pe_gv gA) (pe_ix ix_list (pv 0) pe_int (fun _ _ => rfl)) (fun _ _ => rfl)) (nomark _))
        (pw_or1 (pt_not (pt_val (pe_m1 PySem.F.slot_str_endswith PySem.F.type_str_endswith mt_endswith (pe_ix ix_list (pv 0) pe_int (fun _ _ => rfl)) pe_str))))))) (pss_one (ps_ret pe_non)) pss_nil)
      (pss_cons (ps_set (i := 1) scReadClause.nd rfl (Or.inl rfl) (pe_slice sl_str (pe_ix ix_list (pv 0) pe_int (fun _ _ => rfl)) po_none (po_some (pe_un un_neg pe_int))))
      (pss_cons (ps_set (i := 2) scReadClause.nd rfl (Or.inl rfl) (pe_callH h3 hr (pa_cons (pe_slice sl_list (pv 0) (po_some pe_int) (po_some (pe_un un_neg pe_int))) pa_nil)))
      (pss_cons (ps_set (i := 3) scReadClause.nd rfl (Or.inl rfl) (pe_ix ix_list (pv 0) (pe_un un_neg pe_int) (fun _ _ => rfl)))
      (pss_cons (ps_if (PW.pt (pw_or (pt_not (pt_val (pe_callH (h1.mono (k := 4)) hr (pa_cons (pv 1) pa_nil)))) (pw_or (pt_cmp (pc_isN (pv 2)))
        (pw_or1 (pt_not (pt_val (pe_callH (h2.mono (k := 4)) hr (pa_cons (pv 3) pa_nil)))))))) (pss_one (ps_ret pe_non)) pss_nil)
      (pss_one (ps_ret (pe_tup (pa_cons (pe_ix ix_list (pv 0) pe_int (fun _ _ => rfl)) (pa_cons (pv 1) (pa_cons (pv 2) (pa_cons (pv 3) pa_nil))))))))))), ?_⟩
    refine ⟨_, rfl, a, _, rfl, .inl ha, _, _, rfl, rfl, _, rfl, ?_⟩
    rw [List.length_map]
    refine ite2 (fun h0 => ?_) (fun h0 => ?_)
    · refine iteT ?_
      refine q0 H (Same.refl H) (clause_short ?_)
      have := of_decide_eq_true h0
      simp at this
      omega
    · have h4 : 4 ≤ (w0 :: ws).length := by
        have : ¬ (((w0 :: ws).length : Nat) : Int) < 4 := fun z => h0 (decide_eq_true z)
        omega
      obtain ⟨w1, n, bs, ar, hd, e0⟩ := four (w0 :: ws) h4
      injection e0 with e1 e2
      subst e1
      subst e2
      have em : ((w0 :: n :: (bs ++ [ar, hd])).map sV) = sV w0 :: sV n :: (bs.map sV ++ [sV ar, sV hd]) := by simp
      rw [em] at ha
      have eq0 : clauseOf arr (n :: (bs ++ [ar, hd])) = if ar = arr ∧ n.getLast? = some 58 ∧ Mo.isName n.dropLast = true then (Jb.bodyOk bs).bind fun z => (Mo.litOf hd).map fun m => ⟨n.dropLast, z, m⟩ else none := Jb.rowIn_eq kd.arrow1.1 kd.arrow1.2 n ar hd bs
      have hxn : n.length ≤ 9000 := hx n (by simp)
      have hxh : hd.length ≤ 9000 := hx hd (by simp)
      have i0 : atI (sV w0 :: sV n :: (bs.map sV ++ [sV ar, sV hd])) 0 = some (sV w0) := atI_nat (j := 0) rfl
      have i1 : atI (sV w0 :: sV n :: (bs.map sV ++ [sV ar, sV hd])) 1 = some (sV n) := atI_nat (j := 1) rfl
      have im1 : atI (sV w0 :: sV n :: (bs.map sV ++ [sV ar, sV hd])) (-1) = some (sV hd) := atI_m1 (sV w0 :: sV n :: bs.map sV) _ _
      have im2 : atI (sV w0 :: sV n :: (bs.map sV ++ [sV ar, sV hd])) (-2) = some (sV ar) := atI_m2 (sV w0 :: sV n :: bs.map sV) _ _
      refine ⟨_, rfl, _, rfl, a, _, _, _, rfl, rfl, ha, im2, _, rfl, a, _, _, _, rfl, rfl, ha, i0, aA, _, _, _, rfl, mA, rfl, kd.val, rfl, _, rfl, ?_⟩
      refine ite2 (fun h5 => ?_) (fun h5 => ?_)
      · refine q0 H (Same.refl H) ?_
        rw [eq0, if_neg]
        rintro ⟨e, _⟩
        subst e
        simp at h5
      · have hae : ar = arr := by
          have : sV ar = sV arr := by
            apply Decidable.byContradiction
            intro z
            exact h5 (by simp [z])
          exact str_inj (V.str.inj this)
        subst hae
        refine ⟨_, rfl, a, _, _, _, rfl, rfl, ha, i1, ⟨_, rfl⟩, _, _, rfl, rfl, _, rfl, ?_⟩
        have ec : Txt.endswith (str n) (Str.ofString ":") = decide (n.getLast? = some 58) := by
          have e : (Str.ofString ":") = str [58] := ofS rfl
          rw [e, ends1]
        show if (!Txt.endswith (str n) (Str.ofString ":")) = true then _ else _
        rw [ec]
        by_cases hc : n.getLast? = some 58
        · rw [decide_eq_true hc]
          refine iteF ?_
          have hne : n ≠ [] := fun e => by subst e; cases hc
          have e2 : V.str (cutS (str n) none (some (-1))) = sV n.dropLast := by rw [cut_init n hne]; rfl
          refine ⟨_, rfl, a, _, _, _, rfl, rfl, ha, i1, _, rfl, _, rfl, str n, rfl, by rw [str_len]; exact Nat.le_of_lt (line9000 hxn), ?_⟩
          refine ⟨_, rfl, _, rfl, _, rfl, _, rfl, a, _, rfl, ha, fun lb hlb => ?_⟩
          have ecut : cutV (sV w0 :: sV n :: (bs.map sV ++ [sV ar, sV hd])) (some 2) (some (-2)) = bs.map sV := cut_mid _ _ _ _ _
          have s1 := same_new (o := .lst (bs.map sV)) hlb
          have hbl : ∀ x ∈ bs, x.length ≤ 9000 := fun x m => hx x (by simp [m])
          have hbn : bs.length ≤ 9000 := by simp at hn; omega
          have hdl : n.dropLast.length ≤ 9000 := by rw [List.length_dropLast]; omega
          refine ⟨lb, bs, rfl, SqL.of (by rw [ecut]; exact upd_same), hbn, hbl, fun H2 s2 hb => ?_, fun H2 p ls s2 hb hp => ?_⟩
          · have s12 : Same H H2 := (Same.plus (Same.refl H) hlb).trans s2
            have bad : clauseOf ar (n :: (bs ++ [ar, hd])) = none := by rw [eq0, hb]; simp
            refine ⟨_, rfl, _, rfl, a, _, _, _, rfl, rfl, s12.seq ha, im1, ?_⟩
            refine ⟨_, rfl, n.dropLast, congrArg (fun v => [v]) e2, hdl, fun H3 s3 => ⟨_, rfl, ?_⟩⟩
            cases n1 : Mo.isName n.dropLast with
            | false =>
              refine iteT ?_
              exact q0 H3 (s12.trans s3) bad
            | true =>
              refine iteF ?_
              refine ⟨_, rfl, _, rfl, ?_⟩
              refine iteT ?_
              exact q0 H3 (s12.trans s3) bad
          · have s12 : Same H H2 := (Same.plus (Same.refl H) hlb).trans s2
            refine ⟨_, rfl, _, rfl, a, _, _, _, rfl, rfl, s12.seq ha, im1, ?_⟩
            refine ⟨_, rfl, n.dropLast, congrArg (fun v => [v]) e2, hdl, fun H3 s3 => ⟨_, rfl, ?_⟩⟩
            cases n1 : Mo.isName n.dropLast with
            | false =>
              refine iteT ?_
              refine q0 H3 (s12.trans s3) ?_
              rw [eq0, if_neg]
              rintro ⟨_, _, z⟩
              rw [n1] at z; cases z
            | true =>
              refine iteF ?_
              refine ⟨_, rfl, _, rfl, ?_⟩
              refine iteF ?_
              refine ⟨_, rfl, hd, rfl, hxh, fun H4 s4 => ⟨_, rfl, ?_⟩⟩
              have s14 := (s12.trans s3).trans s4
              cases hm : Mo.litOf hd with
              | none =>
                refine iteT ?_
                refine q0 H4 s14 ?_
                rw [eq0, hm]
                cases Jb.bodyOk bs <;> simp
              | some m =>
                refine iteF ?_
                refine ⟨_, rfl, a, _, _, _, rfl, rfl, s14.seq ha, i0, _, rfl, _, rfl, _, rfl, by show 4 ≤ sizeLine; decide, fun t ht => ?_⟩
                have hp4 := s4 _ _ (s3 _ _ hp)
                refine q1 _ t p ⟨n.dropLast, ls, m⟩ (Same.plus s14 ht) ?_ ?_ ?_
                · rw [eq0, if_pos ⟨rfl, hc, n1⟩, hb, hm]; rfl
                · rw [upd_same]
                  have e3 : litV m = sV hd := by unfold litV sV; rw [(Jb.litOf_some hm).1]
                  show some (HO.tup [sV w0, V.str (cutS (str n) none (some (-1))), V.ref p, sV hd]) = some (HO.tup [sV w0, sV n.dropLast, V.ref p, litV m])
                  rw [e2, e3]
                · rw [upd_ne (ne_of_none hp4 ht)]; exact hp4
        · rw [decide_eq_false hc]
          refine q0 H (Same.refl H) ?_
          rw [eq0, if_neg]
          rintro ⟨_, e, _⟩
          exact hc e
def ToldAt (H : Hp) (p : Addr) : Mo.Line → Prop
  | .law r => ∃ pb, H p = some (.tup [sV lawB, sV r.name, .ref pb, litV r.head]) ∧ H pb = some (.tup (r.body.map litV))
  | .rule r => ∃ pb, H p = some (.tup [sV ruleB, sV r.name, .ref pb, litV r.head]) ∧ H pb = some (.tup (r.body.map litV))
  | .weigh x y => H p = some (.tup [sV weighB, sV x, sV y])
def spReadLine : Sp := fun vs H Q _ => ∃ b : List Nat, vs = [sV b] ∧ b.length ≤ 8400 ∧ (∀ H', Same H H' → Mo.lineIn b = none → Q .non H') ∧ ∀ H' p l, Same H H' → Mo.lineIn b = some l → ToldAt H' p l → Q (.ref p) H'
theorem scReadLine : FnScope ["line", "words"] ["line"] (defScope sReadLine) := ⟨rfl, rfl, rfl, by decide +kernel, rfl, by decide +kernel, by decide +kernel⟩
theorem words_len (b : List Nat) : ∀ acc : List Nat, (Jb.cutAt 32 acc b).length ≤ b.length + 1 ∧ ∀ x ∈ Jb.cutAt 32 acc b, x.length ≤ acc.length + b.length := by
  induction b with
  | nil => intro acc; simp [Jb.cutAt]
  | cons c r ih =>
    intro acc
    unfold Jb.cutAt
    split
    · obtain ⟨h1, h2⟩ := ih []
      refine ⟨by simp; omega, fun x hx => ?_⟩
      rcases List.mem_cons.mp hx with rfl | hx
      · simp
      · have := h2 x hx; simp at this ⊢; omega
    · obtain ⟨h1, h2⟩ := ih (acc ++ [c])
      refine ⟨by simp; omega, fun x hx => ?_⟩
      have := h2 x hx
      simp at this ⊢; omega
def weighOf : List (List Nat) → Option Mo.Line
  | [n, g, y] => if g = [62] ∧ Mo.isName n = true ∧ Mo.isName y = true then some (.weigh n y) else none
  | _ => none
theorem lineIn_eq {b w0 : List Nat} {ws : List (List Nat)} (h : Mo.wordsOf b = w0 :: ws) : Mo.lineIn b = if w0 = lawB then (clauseOf (Mo.ascii "->") ws).map Mo.Line.law else if w0 = ruleB then (clauseOf (Mo.ascii "=>") ws).map Mo.Line.rule
    else if w0 = weighB then weighOf ws else none := by
  unfold Mo.lineIn
  rw [h]
  cases ws with
  | nil =>
    simp only [clauseOf, weighOf]
    split
    · rfl
    · split
      · rfl
      · split <;> rfl
  | cons n r =>
    show (if w0 = Mo.ascii "law" then _ else _) = _
    unfold lawB ruleB weighB
    split
    · rfl
    · split
      · rfl
      · split
        · match r with
          | [] => rfl
          | [_] => rfl
          | [_, _] => rfl
          | _ :: _ :: _ :: _ => rfl
        · rfl
theorem arrows_none {w0 : List Nat} (h1 : w0 ≠ lawB) (h2 : w0 ≠ ruleB) : valV arrowsD (.inr (str w0)) = none := by
  unfold arrowsD
  rw [valV_neg, valV_neg]
  · rfl
  · intro z
    have := Sum.inr.inj z
    rw [rule_s] at this
    exact h2 (str_inj this).symm
  · intro z
    have := Sum.inr.inj z
    rw [law_s] at this
    exact h1 (str_inj this).symm
theorem ok_read_line (W : Ws mg) (AR : Ar P w K mg) (h1 : Has P w K mg base 2 "read_weight" ["words"] (spReadWeight K)) (h2 : Has P w K mg base 5 "read_clause" ["words"] (spReadClause K)) (D : Def K mg "read_line" sReadLine ["line"]) : Has P w K mg base 6 "read_line" ["line"] spReadLine := by
  refine D.has scReadLine (fun vs H Q E h => ?_) (fun f cdv A outer s H vs Q E hr h => ?_)
  · obtain ⟨b, rfl, _⟩ := h
    rfl
  · obtain ⟨b, rfl, hl, q0, q1⟩ := h
    obtain ⟨aA, gA, mA⟩ := AR.ex
    refine ⟨_, pss_cons (ps_set (i := 1) scReadLine.nd rfl (Or.inl rfl) (pe_split (pv 0) pe_str))
      (pss_cons (ps_if (pt_cmpR op_eq (pe_ix ix_list (pv 1) pe_int (fun _ _ => rfl)) (pe_gv W.weigh) (nomark _)) (pss_one (ps_ret (pe_callH (h1.mono (k := 5)) hr (pa_cons (pv 1) pa_nil)))) pss_nil)
      (pss_cons (ps_if (pt_cmp (pc_min (pe_ix ix_list (pv 1) pe_int (fun _ _ => rfl)) (pe_gv gA)) (by with_unfolding_all rfl)) (pss_one (ps_ret (pe_callH h2 hr (pa_cons (pv 1) pa_nil)))) pss_nil)
      (pss_one (ps_ret pe_non)))), ?_⟩
    have esp : Txt.split (str b) (Str.ofString " ") = (Mo.wordsOf b).map str := by
      have e : (Str.ofString " ") = str [32] := ofS rfl
      rw [e, split1 b 32 (by decide), Jb.cut_words0]
    have hsz := words_len b []
    rw [Jb.cut_words0] at hsz
    obtain ⟨w0, ws, ew⟩ := Jb.wordsOf_ne b
    refine ⟨_, rfl, ⟨_, rfl⟩, _, _, rfl, rfl, rfl, by rw [str_len]; rw [sizeLine_eq]; omega, fun l hlo => ?_⟩
    have hlst : (upd H l (.lst ((Txt.split (str b) (Str.ofString " ")).map V.str))) l = some (.lst ((w0 :: ws).map sV)) := by
      rw [upd_same, esp, ew, List.map_map]; rfl
    have s1 : Same H (upd H l (.lst ((Txt.split (str b) (Str.ofString " ")).map V.str))) := same_new hlo
    generalize hH1 : upd H l (.lst ((Txt.split (str b) (Str.ofString " ")).map V.str)) = H1 at hlst s1 ⊢
    have hws : ws.length ≤ 8999 ∧ ∀ x ∈ w0 :: ws, x.length ≤ 9000 := by
      rw [ew] at hsz
      refine ⟨by have := hsz.1; simp at this; omega, fun x hx => ?_⟩
      have := hsz.2 x hx
      simp at this; omega
    have eL := lineIn_eq ew
    have ha : SqL K H1 l ((w0 :: ws).map sV) := SqL.of hlst
    refine ⟨_, rfl, l, _, _, _, rfl, rfl, ha, atI_nat (j := 0) rfl, rfl, _, rfl, ?_⟩
    refine ite2 (fun h0 => ?_) (fun h0 => ?_)
    · have e0 : w0 = weighB := by
        have : sV w0 = V.str "weigh" := of_decide_eq_true h0
        rw [weigh_s] at this
        exact str_inj (V.str.inj this)
      subst e0
      have eL' : Mo.lineIn b = weighOf ws := by rw [eL, if_neg (by decide), if_neg (by decide), if_pos rfl]
      refine ⟨_, rfl, l, weighB :: ws, rfl, ha, by simp; omega, hws.2, fun H' s' bad => ?_, fun H' p w1 x y s' e n1 n2 hp => ?_⟩
      · refine q0 H' (s1.trans s') ?_
        rw [eL']
        match ws, bad with
        | [n, g, y], bad =>
          refine if_neg ?_
          rintro ⟨rfl, z⟩
          exact bad _ _ _ rfl z
        | [], _ => rfl
        | [_], _ => rfl
        | [_, _], _ => rfl
        | _ :: _ :: _ :: _ :: _, _ => rfl
      · injection e with _ e
        subst e
        refine q1 H' p (.weigh x y) (s1.trans s') ?_ ?_
        · rw [eL']
          exact if_pos ⟨rfl, n1, n2⟩
        · rw [weigh_s] at hp
          exact hp
    · have e0 : w0 ≠ weighB := fun e => by
        subst e
        refine h0 (decide_eq_true ?_)
        show V.str (str weighB) = V.str "weigh"
        rw [weigh_s]
      refine ⟨_, rfl, l, _, _, _, rfl, rfl, ha, atI_nat (j := 0) rfl, aA, arrowsD, .inr (str w0), rfl, mA, rfl, _, rfl, ?_⟩
      by_cases e1 : w0 = lawB
      · subst e1
        rw [Kind.law.val]
        refine iteT ?_
        have eL' : Mo.lineIn b = (clauseOf (Mo.ascii "->") ws).map Mo.Line.law := by rw [eL, if_pos rfl]
        refine ⟨_, rfl, l, lawB, _, ws, rfl, ha, by omega, fun x hx => hws.2 x (List.mem_cons_of_mem _ hx), .law, fun H' s' bad => ?_, fun H' p pb r s' e hp hb => ?_⟩
        · exact q0 H' (s1.trans s') (by rw [eL', bad]; rfl)
        · exact q1 H' p (.law r) (s1.trans s') (by rw [eL', e]; rfl) ⟨pb, hp, hb⟩
      · by_cases e2 : w0 = ruleB
        · subst e2
          rw [Kind.rule.val]
          refine iteT ?_
          have eL' : Mo.lineIn b = (clauseOf (Mo.ascii "=>") ws).map Mo.Line.rule := by rw [eL, if_neg e1, if_pos rfl]
          refine ⟨_, rfl, l, ruleB, _, ws, rfl, ha, by omega, fun x hx => hws.2 x (List.mem_cons_of_mem _ hx), .rule, fun H' s' bad => ?_, fun H' p pb r s' e hp hb => ?_⟩
          · exact q0 H' (s1.trans s') (by rw [eL', bad]; rfl)
          · exact q1 H' p (.rule r) (s1.trans s') (by rw [eL', e]; rfl) ⟨pb, hp, hb⟩
        · rw [arrows_none e1 e2]
          refine iteF ?_
          exact q0 H1 s1 (by rw [eL, if_neg e1, if_neg e2, if_neg e0])
end
end L2.Jp
end Jp4_
section Jp5_
namespace L2.Jp
open PySem PySem.Spec PyProof.Rows L2 TL L2.JX
def nV (n : Nat) : V := .int (n : Int)
theorem get_map {xs : List Nat} {i : Nat} {x : V} (h : (xs.map nV)[i]? = some x) : ∃ n, xs[i]? = some n ∧ x = nV n := by
  rw [List.getElem?_map] at h
  cases e : xs[i]? with
  | none => rw [e] at h; cases h
  | some n => rw [e] at h; cases h; exact ⟨n, rfl, rfl⟩
theorem find_first {p : Nat → Bool} {n i : Nat} (h0 : ∀ j, j < i → p j = false) (h1 : p i = true) (hi : i < n) : (List.range n).find? p = some i := by
  rw [List.find?_eq_some_iff_append]
  refine ⟨h1, List.range i, (List.range' (i + 1) (n - i - 1)), ?_, fun x hx => ?_⟩
  · have e : n = i + (1 + (n - i - 1)) := by omega
    rw [List.range_eq_range']
    conv => lhs; rw [e]
    rw [← List.range'_append_1, List.range_eq_range', Nat.zero_add, Nat.add_comm 1, List.range'_succ]
  · rw [h0 x (List.mem_range.mp hx)]; rfl
theorem find_no {p : Nat → Bool} {n : Nat} (h0 : ∀ j, j < n → p j = false) : (List.range n).find? p = none := by
  rw [List.find?_eq_none]
  intro x hx
  rw [h0 x (List.mem_range.mp hx)]
  exact Bool.false_ne_true
def anyOf (rows : List Nat) (c : Nat) : Nat := rows.zipIdx.foldl (fun m x => if c.testBit x.2 = true then m ||| x.1 else m) 0
theorem zip_take (rows : List Nat) (i n : Nat) (h : rows[i]? = some n) : (rows.take (i + 1)).zipIdx = (rows.take i).zipIdx ++ [(n, i)] := by
  rw [List.take_add_one, h, Option.toList_some, List.zipIdx_append]
  have : (rows.take i).length = i := by
    have := (List.getElem?_eq_some_iff.mp h).1
    rw [List.length_take]; omega
  rw [this]
  simp
section
variable {P : Program} {w : World} {K : PySem.W.Frag} {mg : Str → Option Value} {base : Heap}
def spSelf (K : PySem.W.Frag) : Sp := fun vs H Q _ => ∃ (a : Addr) (rows : List Nat), vs = [.ref a] ∧ SqL K H a (rows.map nV) ∧ rows.length ≤ 1000 ∧ ∀ H', Same H H' → Q (.bl (Jb.selfRow rows)) H'
theorem scSelf : FnScope ["rows", "i", "row"] ["rows"] (defScope sSomeOutweighsItself) := ⟨rfl, rfl, rfl, by decide +kernel, rfl, by decide +kernel, by decide +kernel⟩
theorem ok_self (B : Bl mg) (h1 : Has P w K mg base 1 "has" ["chosen", "k"] spHas) (D : Def K mg "some_outweighs_itself" sSomeOutweighsItself ["rows"]) : Has P w K mg base 2 "some_outweighs_itself" ["rows"] (spSelf K) := by
  refine D.has scSelf (fun vs H Q E h => ?_) (fun f cdv A outer s H vs Q E hr h => ?_)
  · obtain ⟨a, rows, rfl, _⟩ := h
    rfl
  · obtain ⟨a, rows, rfl, ha, hz, q⟩ := h
    refine ⟨_, pss_one (ps_ret (pe_callB (cr_any rfl) (by rfl) B.any boot_any (pa_cons (pe_lc (g := gTup K 2 (gCons (gName 1) (gCons (gName 2) gNil))) rfl scSelf.nd (pi_enum (by rfl) B.enum (pa_cons (pv 0) pa_nil)) (blkOk_by (N := ["rows", "i", "row"]) (sc := defScope sSomeOutweighsItself) (own := [("i", 1), ("row", 2)]) (by decide +kernel))
        (fun _ _ _ _ _ => pg_tup (n := 2) rfl (pgs_cons (pg_name (i := 1) scSelf.nd rfl (Or.inl rfl) (hf := .inr rfl)) (pgs_cons (pg_name (i := 2) scSelf.nd rfl (Or.inl rfl) (hf := .inr rfl)) pgs_nil))) (fun _ _ _ _ _ => pts_nil)
        (fun _ _ _ _ _ => pe_callH h1 hr (pa_cons (pv 2) (pa_cons (pv 1) pa_nil)))) pa_nil))), ?_⟩
    refine ⟨_, rfl, a, _, rfl, ha, fun D hD => ?_⟩
    refine lc_enum (K := K) (a := a) (xs := rows.map nV) (fun i H2 => Same H H2 ∧ H2 D = some (.lst ((rows.take i).zipIdx.map fun x => V.bl (x.1.testBit x.2)))) ⟨same_new hD, upd_same⟩ (fun i H2 _ z => z.1.seq ha) ?_ ?_
    · rintro i x H2 T hi ⟨s2, h2⟩ hT
      obtain ⟨n, hn, rfl⟩ := get_map hi
      have h3 : (upd H2 T (.tup [.int (i : Nat), nV n])) D = some (.lst ((rows.take i).zipIdx.map fun x => V.bl (x.1.testBit x.2))) := by rw [upd_ne (ne_of_none h2 hT)]; exact h2
      refine ⟨T, _, rfl, SqT.of upd_same, rfl, _, _, rfl, _, _, rfl, rfl, rfl, lcY ?_⟩
      refine ⟨_, rfl, _, rfl, n, i, rfl, _, h3, ?_, Same.own (Same.plus s2 hT) hD, ?_⟩
      · rw [List.length_map, List.length_zipIdx, List.length_take]; exact small1000 (Nat.le_trans (Nat.min_le_right _ _) hz)
      · rw [upd_same, zip_take rows i n hn, List.map_append]
        rfl
    · rintro H2 ⟨s2, h2⟩
      rw [List.length_map, List.take_length] at h2
      refine ⟨D, rows.zipIdx.map fun x => x.1.testBit x.2, rfl, SqL.of (by rw [h2, List.map_map]; rfl), ?_⟩
      have e : ((rows.zipIdx.map fun x => x.1.testBit x.2).any id) = Jb.selfRow rows := by
        rw [List.any_map]; rfl
      rw [e]
      exact q H2 s2
theorem pget_list {X : Cx} : PGet X (fun o i H Q => ∃ p xs j v, o = .ref p ∧ i = .int ((j : Nat) : Int) ∧ SqL X.K H p xs ∧ xs[j]? = some v ∧ Q v H) := by
  intro pins s σ H o i ov iv Q I ro ri h
  obtain ⟨p, xs, j, v, rfl, rfl, hq, hv, q⟩ := h
  cases ro
  obtain ⟨t, rfl⟩ := ri
  obtain ⟨its, r, pl, hz⟩ := I.list hq
  obtain ⟨u, eu, ru⟩ := r.get hv
  have hj : j < xs.length := (List.getElem?_eq_some_iff.mp hv).1
  have hn := line63
  exact wpAny_getItem_list pl.isList (by omega) (by omega) (by simpa using eu) ⟨v, H, I, ru, q⟩
def inner (rows : List Nat) (k i : Nat) : List Nat := (List.range i).foldl (fun r j => r.set j (Jb.wRow k (r.getD k 0) (r.getD j 0))) rows
theorem inner_len (rows : List Nat) (k : Nat) : ∀ i, (inner rows k i).length = rows.length
  | 0 => rfl
  | i + 1 => by
    unfold inner
    rw [List.range_succ, List.foldl_append]
    show ((inner rows k i).set _ _).length = _
    rw [List.length_set, inner_len rows k i]
theorem inner_succ (rows : List Nat) (k i : Nat) : inner rows k (i + 1) = (inner rows k i).set i (Jb.wRow k ((inner rows k i).getD k 0) ((inner rows k i).getD i 0)) := by
  unfold inner
  rw [List.range_succ, List.foldl_append]
  rfl
theorem inner_at (rows : List Nat) (k : Nat) : ∀ (i j : Nat), j < rows.length → (inner rows k i).getD j 0 = if j < i then Jb.wRow k (rows.getD k 0) (rows.getD j 0) else rows.getD j 0
  | 0, j, h => rfl
  | i + 1, j, h => by
    rw [inner_succ]
    have hk : k < rows.length ∨ rows.length ≤ k := Nat.lt_or_ge _ _
    have hkk : (inner rows k i).getD k 0 = rows.getD k 0 := by
      rcases hk with hk | hk
      · rw [inner_at rows k i k hk]
        split
        · exact Jb.wRow_self k _
        · rfl
      · rw [List.getD_eq_getElem?_getD, List.getElem?_eq_none (by rw [inner_len]; exact hk), List.getD_eq_getElem?_getD, List.getElem?_eq_none hk]
    rw [hkk, List.getD_eq_getElem?_getD, List.getElem?_set]
    by_cases e : i = j
    · subst e
      rw [if_pos rfl, inner_len, if_pos h, Option.getD_some, inner_at rows k i i h, if_neg (Nat.lt_irrefl _), if_pos (Nat.lt_succ_self _)]
    · rw [if_neg e]
      have ih := inner_at rows k i j h
      rw [List.getD_eq_getElem?_getD] at ih
      rw [ih]
      by_cases h2 : j < i
      · rw [if_pos h2, if_pos (by omega)]
      · rw [if_neg h2, if_neg (by omega)]
theorem inner_all (rows : List Nat) (k : Nat) : inner rows k rows.length = Jb.wStep rows k := by
  apply List.ext_getElem
  · rw [inner_len, Jb.wStep_len]
  · intro j h1 h2
    have hj : j < rows.length := by rw [inner_len] at h1; exact h1
    have := inner_at rows k rows.length j hj
    rw [if_pos hj, List.getD_eq_getElem?_getD, List.getElem?_eq_getElem h1, Option.getD_some] at this
    rw [this]
    have e : (Jb.wStep rows k)[j] = Jb.wRow k (rows.getD k 0) rows[j] := List.getElem_map _
    rw [e, List.getD_eq_getElem?_getD (l := rows) (i := j), List.getElem?_eq_getElem hj]
    rfl
def stepsOf (rows : List Nat) (k : Nat) : List Nat := (List.range k).foldl Jb.wStep rows
theorem steps_succ (rows : List Nat) (k : Nat) : stepsOf rows (k + 1) = Jb.wStep (stepsOf rows k) k := by
  unfold stepsOf
  rw [List.range_succ, List.foldl_append]
  rfl
theorem steps_len (rows : List Nat) : ∀ k, (stepsOf rows k).length = rows.length
  | 0 => rfl
  | k + 1 => by rw [steps_succ, Jb.wStep_len, steps_len rows k]
def spGoingOn (K : PySem.W.Frag) : Sp := fun vs H Q _ => ∃ (a : Addr) (rows : List Nat), vs = [.ref a] ∧ SqL K H a (rows.map nV) ∧ rows.length ≤ 1000 ∧ ∀ H' l, Same H H' → H l = none → H' l = some (.lst ((Jb.goingOn rows).map nV)) → Q (.ref l) H'
theorem scGoingOn : FnScope ["rows", "closed", "size", "k", "i"] ["rows"] (defScope sGoingOn) := ⟨rfl, rfl, rfl, by decide +kernel, rfl, by decide +kernel, by decide +kernel⟩
theorem nat62 {n : Nat} (h : n ≤ 1000000) : -(2 ^ 62 : Int) ≤ (n : Int) ∧ (n : Int) < 2 ^ 62 := ⟨by omega, by omega⟩
theorem getD_some {xs : List Nat} {i : Nat} (h : i < xs.length) : xs[i]? = some (xs.getD i 0) := by
  rw [List.getD_eq_getElem?_getD, List.getElem?_eq_getElem h]; rfl
theorem ixN_nat {n i : Nat} (h : i < n) : ixN n (i : Int) = some i := by
  unfold ixN
  rw [if_pos (by omega), if_pos (by omega)]
  simp
theorem ok_going_on (B : Bl mg) (h1 : Has P w K mg base 1 "has" ["chosen", "k"] spHas) (D : Def K mg "going_on" sGoingOn ["rows"]) : Has P w K mg base 2 "going_on" ["rows"] (spGoingOn K) := by
  refine D.has scGoingOn (fun vs H Q E h => ?_) (fun f cdv A outer s H vs Q E hr h => ?_)
  · obtain ⟨a, rows, rfl, _⟩ := h
    rfl
  · obtain ⟨a, rows, rfl, ha, hz, q⟩ := h
    have hn := nat62 (n := rows.length) (by omega)
    refine ⟨_, pss_cons (ps_set (i := 1) scGoingOn.nd rfl (Or.inl rfl) (pe_callTy call_list_of (by rfl) B.list boot_list (pa_cons (pv 0) pa_nil)))
      (pss_cons (ps_set (i := 2) scGoingOn.nd rfl (Or.inl rfl) (pe_callB call_len_seq (by rfl) B.len PySem.boot_len (pa_cons (pv 0) pa_nil)))
      (pss_cons (ps_for PassesOwn.never rfl (pi_range1 (by rfl) B.range (pa_cons (pv 2) pa_nil)) (pg_name (i := 3) scGoingOn.nd rfl (Or.inl rfl))
        (pss_one (ps_for PassesOwn.never rfl (pi_range1 (by rfl) B.range (pa_cons (pv 2) pa_nil)) (pg_name (i := 4) scGoingOn.nd rfl (Or.inl rfl))
          (pss_one (ps_if (pt_val (pe_callH h1 hr (pa_cons (pe_ix ix_list (pv 1) (pv 4) (fun _ _ => rfl)) (pa_cons (pv 3) pa_nil))))
            (pss_one (ps_augS (pv 1) (pv 4) pget_list (pe_ix ix_list (pv 1) (pv 3) (fun _ _ => rfl)) iop_or set_list)) pss_nil)))))
      (pss_one (ps_ret (pv 1))))), ?_⟩
    refine ⟨_, rfl, a, _, rfl, .inl ha, fun l hl => ?_⟩
    refine ⟨_, rfl, a, _, rfl, .inl ((same_new hl).seq ha), ?_⟩
    rw [List.length_map]
    refine ⟨_, rfl, _, rfl, hn.1, hn.2, ?_⟩
    rw [Int.toNat_natCast]
    refine for_range (n := rows.length) (fun k σ H2 => ∃ v1 v2, σ = [some (.ref a), some (.ref l), some (nV rows.length), v1, v2] ∧ Same H H2 ∧ H2 l = some (.lst ((stepsOf rows k).map nV)))
      ⟨none, none, rfl, same_new hl, upd_same⟩ ?_ ?_
    · rintro k σ H2 hk ⟨v1, v2, rfl, s2, h2⟩
      refine ⟨_, rfl, _, rfl, hn.1, hn.2, ?_⟩
      rw [Int.toNat_natCast]
      refine for_range (n := rows.length) (fun i σ H3 => ∃ v2, σ = [some (.ref a), some (.ref l), some (nV rows.length), some (nV k), v2] ∧ Same H H3 ∧ H3 l = some (.lst ((inner (stepsOf rows k) k i).map nV)))
        ⟨v2, by rw [Int.zero_add]; rfl, s2, h2⟩ ?_ ?_
      · rintro i σ H3 hi ⟨v3, rfl, s3, h3⟩
        have li : (inner (stepsOf rows k) k i).length = rows.length := by rw [inner_len, steps_len]
        have e1 := getD_some (xs := inner (stepsOf rows k) k i) (i := i) (by omega)
        have e2 := getD_some (xs := inner (stepsOf rows k) k i) (i := k) (by omega)
        have m1 : ((inner (stepsOf rows k) k i).map nV)[i]? = some (nV ((inner (stepsOf rows k) k i).getD i 0)) := by rw [List.getElem?_map, e1]; rfl
        have m2 : ((inner (stepsOf rows k) k i).map nV)[k]? = some (nV ((inner (stepsOf rows k) k i).getD k 0)) := by rw [List.getElem?_map, e2]; rfl
        generalize hr1 : (inner (stepsOf rows k) k i).getD i 0 = x1 at e1 m1
        generalize hr2 : (inner (stepsOf rows k) k i).getD k 0 = x2 at e2 m2
        have es : inner (stepsOf rows k) k (i + 1) = (inner (stepsOf rows k) k i).set i (Jb.wRow k x2 x1) := by rw [inner_succ, hr1, hr2]
        have ez : (0 : Int) + (i : Int) = ((i : Nat) : Int) := by omega
        rw [ez]
        refine ⟨_, rfl, _, rfl, l, _, _, _, rfl, rfl, SqL.of h3, atI_nat m1, _, rfl, x1, k, rfl, _, rfl, ?_⟩
        cases hb : x1.testBit k with
        | true =>
          refine iteT ?_
          refine ⟨_, rfl, _, rfl, l, _, i, _, rfl, rfl, SqL.of h3, m1, _, rfl, _, rfl, l, _, _, _, rfl, rfl, SqL.of h3, atI_nat m2, _, _, rfl, rfl, l, _, _, i, rfl, rfl, h3, ixN_nat (by rw [List.length_map]; omega), ?_⟩
          refine ⟨some (nV i), rfl, Same.own s3 hl, ?_⟩
          rw [upd_same, es, List.map_set]
          have eo : V.int (Builtin.bitOr (x1 : Int) (x2 : Int)) = nV (Jb.wRow k x2 x1) := by
            unfold Jb.wRow
            rw [hb, if_pos rfl, or_nat]; rfl
          rw [← eo]
        | false =>
          refine iteF ?_
          refine ⟨some (nV i), rfl, s3, ?_⟩
          rw [h3, es]
          have e3 : Jb.wRow k x2 x1 = x1 := by unfold Jb.wRow; rw [hb]; rfl
          rw [e3]
          congr 3
          apply List.ext_getElem?
          intro j
          rw [List.getElem?_set]
          by_cases ej : i = j
          · subst ej
            rw [if_pos rfl, if_pos (by omega)]; exact e1
          · rw [if_neg ej]
      · rintro σ H3 ⟨v3, rfl, s3, h3⟩
        refine ⟨some (nV k), v3, rfl, s3, ?_⟩
        rw [h3, steps_succ, ← inner_all, steps_len]
    · rintro σ H2 ⟨v1, v2, rfl, s2, h2⟩
      exact ⟨_, rfl, q H2 l s2 hl h2⟩
end
end L2.Jp
end Jp5_
section Jp6_
namespace L2.Jp
open PySem PySem.Spec PyProof.Rows L2 TL L2.JX
theorem any_bitFrom (c b : Nat) : ∀ (l : List (Nat × Nat)) (m : Nat), (l.foldl (fun m x => if c.testBit x.2 = true then m ||| x.1 else m) m).testBit b = true ↔ m.testBit b = true ∨ ∃ x ∈ l, c.testBit x.2 = true ∧ x.1.testBit b = true
  | [], m => by simp
  | y :: l, m => by
    rw [List.foldl_cons, any_bitFrom c b l]
    by_cases h : c.testBit y.2 = true
    · rw [if_pos h, Nat.testBit_or]
      simp only [Bool.or_eq_true, List.mem_cons]
      constructor
      · rintro ((q | q) | ⟨x, hx, q⟩)
        · exact .inl q
        · exact .inr ⟨y, .inl rfl, h, q⟩
        · exact .inr ⟨x, .inr hx, q⟩
      · rintro (q | ⟨x, rfl | hx, q⟩)
        · exact .inl (.inl q)
        · exact .inl (.inr q.2)
        · exact .inr ⟨x, hx, q⟩
    · rw [if_neg h]
      simp only [List.mem_cons]
      constructor
      · rintro (q | ⟨x, hx, q⟩)
        · exact .inl q
        · exact .inr ⟨x, .inr hx, q⟩
      · rintro (q | ⟨x, rfl | hx, q⟩)
        · exact .inl q
        · exact absurd q.1 h
        · exact .inr ⟨x, hx, q⟩
theorem any_bit {rows : List Nat} {c b : Nat} : (anyOf rows c).testBit b = true ↔ ∃ i r, rows[i]? = some r ∧ c.testBit i = true ∧ r.testBit b = true := by
  unfold anyOf
  rw [any_bitFrom]
  simp only [Nat.zero_testBit, Bool.false_eq_true, false_or]
  constructor
  · rintro ⟨⟨r, i⟩, h1, h2, h3⟩
    exact ⟨i, r, List.mem_zipIdx_iff_getElem?.mp h1, h2, h3⟩
  · rintro ⟨i, r, h1, h2, h3⟩
    exact ⟨(r, i), List.mem_zipIdx_iff_getElem?.mpr h1, h2, h3⟩
theorem or_eq_iff (a b : Nat) : a ||| b = b ↔ Jb.sub a b := by
  constructor
  · intro h i hi
    rw [← h, Nat.testBit_or, hi]; rfl
  · intro h
    apply Nat.eq_of_testBit_eq
    intro i
    rw [Nat.testBit_or]
    cases ha : a.testBit i with
    | true => rw [h i ha]; rfl
    | false => rfl
theorem missing_eq {n : Nat} {l : List Nat} {x : Nat} (hn : 0 < n) (hx : x / n * n + n ≤ l.length) (hlt : l.getD x 0 < 2 ^ n) : (!decide (anyOf ((l.drop (x / n * n)).take n) (l.getD x 0) ||| l.getD x 0 = l.getD x 0)) = Jb.bad3 n l x := by
  unfold Jb.bad3
  rw [Bool.eq_iff_iff]
  simp only [Bool.not_eq_true', decide_eq_false_iff_not, List.any_eq_true, Bool.not_eq_true']
  rw [or_eq_iff]
  have at_ : ∀ i, i < n → ((l.drop (x / n * n)).take n)[i]? = some (l.getD (x / n * n + i) 0) := fun i hi => by
    rw [List.getElem?_take_of_lt hi, List.getElem?_drop]
    exact getD_some (by omega)
  constructor
  · intro h
    apply Classical.byContradiction
    intro z
    apply h
    intro b hb
    obtain ⟨i, r, h1, h2, h3⟩ := any_bit.mp hb
    have hi : i < n := (Jb.lt_pow_iff _ n).mp hlt i h2
    rw [at_ i hi] at h1
    cases h1
    cases hw : Mo.within (l.getD (x / n * n + i) 0) (l.getD x 0) with
    | true => exact (Jb.within_iff _ _).mp hw b h3
    | false => exact absurd ⟨i, (Jb.mem_members n _ i).mpr ⟨hi, h2⟩, hw⟩ z
  · rintro ⟨i, hm, hw⟩ h
    obtain ⟨hi, hb⟩ := (Jb.mem_members n _ i).mp hm
    have : Mo.within (l.getD (x / n * n + i) 0) (l.getD x 0) = true := (Jb.within_iff _ _).mpr fun b h3 => h b (any_bit.mpr ⟨i, _, at_ i hi, hb, h3⟩)
    rw [hw] at this; cases this
theorem shr_zero (r n : Nat) : decide (V.int (((r >>> n : Nat)) : Int) = V.int 0) = !decide (2 ^ n ≤ r) := by
  rw [dec_int, Bool.eq_iff_iff, beq_iff_eq, Bool.not_eq_true', decide_eq_false_iff_not, Nat.shiftRight_eq_div_pow]
  constructor
  · intro h
    have h : r / 2 ^ n = 0 := by omega
    rcases Nat.div_eq_zero_iff.mp h with q | q
    · have := Nat.two_pow_pos n; omega
    · omega
  · intro h
    have : r / 2 ^ n = 0 := Nat.div_eq_of_lt (by omega)
    omega
theorem cut_rows (l : List Nat) (s n : Nat) (h : s + n ≤ l.length) : cutV (l.map nV) (some (s : Int)) (some ((s : Int) + (n : Int))) = ((l.drop s).take n).map nV := by
  unfold cutV
  rw [List.length_map]
  have e1 : HT.sIx l.length 0 (some (s : Int)) = s := by rw [HT.sIx_nat]; omega
  have e2 : HT.sIx l.length l.length (some ((s : Int) + (n : Int))) = s + n := by
    rw [show (s : Int) + (n : Int) = ((s + n : Nat) : Int) by omega, HT.sIx_nat]; omega
  rw [e1, e2, ← List.map_drop, ← List.map_take]
  congr 2
  omega
def faultOf (n : Nat) (b : List Nat) : Option (Nat × Nat × Nat) := if Jb.badTab n b then some (1, 0, 0) else Jb.faultAt n b
structure Bs (mg : Str → Option Value) : Prop where
  judges : GV mg "MOST_JUDGES" (.int 8)
  len : GV mg "WRONG_LENGTH" (.int 1)
  row : GV mg "WRONG_ROW" (.int 2)
  miss : GV mg "MISSING" (.int 3)
section
variable {P : Program} {w : World} {K : PySem.W.Frag} {mg : Str → Option Value} {base : Heap}
def spAnyOf (K : PySem.W.Frag) : Sp := fun vs H Q _ => ∃ (a : Addr) (rows : List Nat) (c : Nat), vs = [.ref a, nV c] ∧ SqL K H a (rows.map nV) ∧ ∀ H', Same H H' → Q (nV (anyOf rows c)) H'
theorem scAnyOf : FnScope ["rows", "chosen", "found", "i", "row"] ["rows", "chosen"] (defScope sOutweighedByAny) := ⟨rfl, rfl, rfl, by decide +kernel, rfl, by decide +kernel, by decide +kernel⟩
theorem ok_any_of (B : Bl mg) (h1 : Has P w K mg base 1 "has" ["chosen", "k"] spHas) (D : Def K mg "outweighed_by_any" sOutweighedByAny ["rows", "chosen"]) : Has P w K mg base 2 "outweighed_by_any" ["rows", "chosen"] (spAnyOf K) := by
  refine D.has scAnyOf (fun vs H Q E h => ?_) (fun f cdv A outer s H vs Q E hr h => ?_)
  · obtain ⟨a, rows, c, rfl, _⟩ := h
    rfl
  · obtain ⟨a, rows, c, rfl, ha, q⟩ := h
    refine ⟨_, pss_cons (ps_set (i := 2) scAnyOf.nd rfl (Or.inl rfl) pe_int)
      (pss_cons (ps_for PassesOwn.never rfl (pi_enum (by rfl) B.enum (pa_cons (pv 0) pa_nil)) (pg_tup rfl (pgs_cons (pg_name (i := 3) scAnyOf.nd rfl (Or.inl rfl)) (pgs_cons (pg_name (i := 4) scAnyOf.nd rfl (Or.inl rfl)) pgs_nil)))
        (pss_one (ps_if (pt_val (pe_callH h1 hr (pa_cons (pv 1) (pa_cons (pv 3) pa_nil)))) (pss_one (ps_aug (i := 2) scAnyOf.nd rfl (Or.inl rfl) (pv 4) iop_or)) pss_nil)))
      (pss_one (ps_ret (pv 2)))), ?_⟩
    refine ⟨_, rfl, a, _, rfl, ha, ?_⟩
    refine for_enum (K := K) (a := a) (xs := rows.map nV) (fun i σ H2 => ∃ v1 v2, σ = [some (.ref a), some (nV c), some (nV (anyOf (rows.take i) c)), v1, v2] ∧ Same H H2)
      ⟨none, none, rfl, Same.refl H⟩ (fun i σ H2 _ ⟨_, _, _, s2⟩ => s2.seq ha) ?_ ?_
    · rintro i x σ H2 T hi ⟨v1, v2, rfl, s2⟩ hT
      obtain ⟨n, hn, rfl⟩ := get_map hi
      have s3 : Same H (upd H2 T (.tup [.int (i : Nat), nV n])) := Same.plus s2 hT
      refine ⟨T, _, rfl, SqT.of upd_same, rfl, _, _, rfl, _, _, rfl, rfl, ?_⟩
      have e : anyOf (rows.take (i + 1)) c = if c.testBit i = true then anyOf (rows.take i) c ||| n else anyOf (rows.take i) c := by
        unfold anyOf
        rw [zip_take rows i n hn, List.foldl_append]
        rfl
      refine ⟨_, rfl, _, rfl, c, i, rfl, _, rfl, ?_⟩
      cases hb : c.testBit i with
      | true =>
        refine iteT ?_
        refine ⟨_, rfl, _, rfl, _, _, rfl, rfl, some (.int (i : Nat)), some (nV n), ?_, s3⟩
        rw [e, hb, if_pos rfl]
        have eo : V.int (Builtin.bitOr (anyOf (rows.take i) c : Int) (n : Int)) = nV (anyOf (rows.take i) c ||| n) := by rw [or_nat]; rfl
        rw [← eo]
        rfl
      | false =>
        refine iteF ?_
        refine ⟨some (.int (i : Nat)), some (nV n), ?_, s3⟩
        rw [e, hb]
        rfl
    · rintro σ H2 ⟨v1, v2, rfl, s2⟩
      rw [List.length_map, List.take_length]
      exact ⟨_, rfl, q H2 s2⟩
def spTableFault (K : PySem.W.Frag) : Sp := fun vs H Q _ => ∃ (a : Addr) (n : Nat) (b : List Nat), vs = [nV n, .ref a] ∧ SqL K H a (b.map nV) ∧ b.length ≤ 3000 ∧ n ≤ 1000 ∧
  (∀ H', Same H H' → faultOf n b = none → Q .non H') ∧ ∀ H' p f, Same H H' → faultOf n b = some f → H p = none → H' p = some (.lst [nV f.1, nV f.2.1, nV f.2.2]) → Q (.ref p) H'
theorem scTableFault : FnScope ["rules", "b", "place", "row", "i", "start", "reached"] ["rules", "b"] (defScope sTableFault) := ⟨rfl, rfl, rfl, by decide +kernel, rfl, by decide +kernel, by decide +kernel⟩
theorem ok_table_fault (B : Bl mg) (C : Bs mg) (h1 : Has P w K mg base 1 "has" ["chosen", "k"] spHas) (h2 : Has P w K mg base 2 "outweighed_by_any" ["rows", "chosen"] (spAnyOf K)) (D : Def K mg "table_fault" sTableFault ["rules", "b"]) : Has P w K mg base 3 "table_fault" ["rules", "b"] (spTableFault K) := by
  refine D.has scTableFault (fun vs H Q E h => ?_) (fun f cdv A outer s H vs Q E hr h => ?_)
  · obtain ⟨a, n, b, rfl, _⟩ := h
    rfl
  · obtain ⟨a, n, b, rfl, ha, hb3, hn1, q0, q1⟩ := h
    refine ⟨_, pss_cons (ps_if (PW.pt (pw_or (pt_cmpR op_eq (pv 0) pe_int (nomark _))
        (pw_or (pt_cmpR op_ne (pe_op op_mod (pe_callB call_len_seq (by rfl) B.len PySem.boot_len (pa_cons (pv 1) pa_nil)) (pv 0)) pe_int (nomark _))
        (pw_or (pt_cmpR op_lt (pe_callB call_len_seq (by rfl) B.len PySem.boot_len (pa_cons (pv 1) pa_nil)) (pv 0) (nomark _))
        (pw_or1 (pt_cmpR op_gt (pe_callB call_len_seq (by rfl) B.len PySem.boot_len (pa_cons (pv 1) pa_nil)) (pe_op op_mul (pe_gv C.judges) (pv 0)) (nomark _)))))))
        (pss_one (ps_ret (pe_lst (pa_cons (pe_gv C.len) (pa_cons pe_int (pa_cons pe_int pa_nil)))))) pss_nil)
      (pss_cons (ps_for PassesOwn.never rfl (pi_enum (by rfl) B.enum (pa_cons (pv 1) pa_nil)) (pg_tup rfl (pgs_cons (pg_name (i := 2) scTableFault.nd rfl (Or.inl rfl)) (pgs_cons (pg_name (i := 3) scTableFault.nd rfl (Or.inl rfl)) pgs_nil)))
        (pss_cons (ps_set (i := 4) scTableFault.nd rfl (Or.inl rfl) (pe_op op_mod (pv 2) (pv 0)))
        (pss_one (ps_if (PW.pt (pw_or (pt_cmpR op_ne (pe_op op_shr (pv 3) (pv 0)) pe_int (nomark _)) (pw_or1 (pt_val (pe_callH (h1.mono (k := 2)) hr (pa_cons (pv 3) (pa_cons (pv 4) pa_nil)))))))
          (pss_one (ps_ret (pe_lst (pa_cons (pe_gv C.row) (pa_cons (pe_op op_fdiv (pv 2) (pv 0)) (pa_cons (pv 4) pa_nil)))))) pss_nil))))
      (pss_cons (ps_for PassesOwn.never rfl (pi_enum (by rfl) B.enum (pa_cons (pv 1) pa_nil)) (pg_tup rfl (pgs_cons (pg_name (i := 2) scTableFault.nd rfl (Or.inl rfl)) (pgs_cons (pg_name (i := 3) scTableFault.nd rfl (Or.inl rfl)) pgs_nil)))
        (pss_cons (ps_set (i := 4) scTableFault.nd rfl (Or.inl rfl) (pe_op op_mod (pv 2) (pv 0)))
        (pss_cons (ps_set (i := 5) scTableFault.nd rfl (Or.inl rfl) (pe_op op_sub (pv 2) (pv 4)))
        (pss_cons (ps_set (i := 6) scTableFault.nd rfl (Or.inl rfl) (pe_callH h2 hr (pa_cons (pe_slice sl_list (pv 1) (po_some (pv 5)) (po_some (pe_op op_add (pv 5) (pv 0)))) (pa_cons (pv 3) pa_nil))))
        (pss_one (ps_if (pt_cmpR op_ne (pe_op op_or (pv 6) (pv 3)) (pv 3) (nomark _))
          (pss_one (ps_ret (pe_lst (pa_cons (pe_gv C.miss) (pa_cons (pe_op op_fdiv (pv 2) (pv 0)) (pa_cons (pv 4) pa_nil)))))) pss_nil))))))
      (pss_one (ps_ret pe_non)))), ?_⟩
    -- a table that can't be one
    have bad : Jb.badTab n b → ∀ p, H p = none → Q (.ref p) (upd H p (.lst [V.int 1, V.int 0, V.int 0])) := fun hb p hp =>
      q1 _ p (1, 0, 0) (same_new hp) (if_pos hb) hp upd_same
    have z3 : (3 : Nat) ≤ sizeLine := by decide
    refine ⟨_, rfl, rfl, _, rfl, ?_⟩
    refine ite2 (fun h0 => ?_) (fun h0 => ?_)
    · refine iteT ?_
      have : n = 0 := by
        have := V.int.inj (of_decide_eq_true h0)
        omega
      exact ⟨z3, bad (.inl this)⟩
    · have hn : 0 < n := by
        rcases Nat.eq_zero_or_pos n with z | z
        · subst z
          exact absurd (decide_eq_true rfl) h0
        · exact z
      refine ⟨_, rfl, a, _, rfl, .inl ha, _, rfl, _, _, rfl, rfl, by omega, rfl, _, rfl, ?_⟩
      have em : ((b.length : Nat) : Int) % ((n : Nat) : Int) = ((b.length % n : Nat) : Int) := (Int.natCast_emod _ _).symm
      refine ite2 (fun h3 => ?_) (fun h3 => ?_)
      · refine iteT ?_
        refine ⟨z3, bad (.inr (.inl ?_))⟩
        have h3 : (!decide (V.int (((b.map nV).length : Int) % (n : Int)) = V.int 0)) = true := h3
        intro z
        rw [List.length_map, em, z] at h3
        exact absurd h3 (by decide)
      · have h3 : ¬ (!decide (V.int (((b.map nV).length : Int) % (n : Int)) = V.int 0)) = true := h3
        rw [List.length_map, em] at h3
        have hm : b.length % n = 0 := by
          apply Decidable.byContradiction
          intro z
          apply h3
          rw [Bool.not_eq_true', decide_eq_false_iff_not]
          intro e
          have := V.int.inj e
          omega
        refine ⟨_, rfl, a, _, rfl, .inl ha, _, rfl, _, _, rfl, rfl, _, rfl, ?_⟩
        refine ite2 (fun h4 => ?_) (fun h4 => ?_)
        · refine iteT ?_
          refine ⟨z3, bad (.inr (.inr (.inl ?_)))⟩
          have h4 : ((b.map nV).length : Int) < (n : Int) := of_decide_eq_true h4
          rw [List.length_map] at h4
          omega
        · have h4 : ¬ ((b.map nV).length : Int) < (n : Int) := fun z => h4 (decide_eq_true z)
          rw [List.length_map] at h4
          have hge : n ≤ b.length := by omega
          refine ⟨_, rfl, a, _, rfl, .inl ha, _, rfl, _, _, rfl, rfl, .inl ⟨by decide, by decide⟩, _, _, rfl, rfl, _, rfl, ?_⟩
          refine ite2 (fun h5 => ?_) (fun h5 => ?_)
          · refine ⟨z3, bad (.inr (.inr (.inr ?_)))⟩
            have h5 : (8 : Int) * (n : Int) < ((b.map nV).length : Int) := of_decide_eq_true h5
            rw [List.length_map] at h5
            omega
          · have h5 : ¬ (8 : Int) * (n : Int) < ((b.map nV).length : Int) := fun z => h5 (decide_eq_true z)
            rw [List.length_map] at h5
            have hle : b.length ≤ 8 * n := by omega
            have good : ¬ Jb.badTab n b := by
              rintro (z | z | z | z) <;> omega
            have ef : faultOf n b = Jb.faultAt n b := if_neg good
            rw [ef] at q0 q1
            have hcd : CDiv 0 (n : Int) := ⟨by omega, by omega⟩
            refine ⟨_, rfl, a, _, rfl, ha, ?_⟩
            refine for_enum (K := K) (a := a) (xs := b.map nV) (fun i σ H2 => ∃ v2 v3 v4, σ = [some (nV n), some (.ref a), v2, v3, v4, none, none] ∧ Same H H2 ∧ ∀ j, j < i → Jb.bad2 n b j = false)
              ⟨none, none, none, rfl, Same.refl H, fun j z => absurd z (Nat.not_lt_zero j)⟩ (fun i σ H2 _ ⟨_, _, _, _, s2, _⟩ => s2.seq ha) ?_ ?_
            · rintro i x σ H2 T hi ⟨v2, v3, v4, rfl, s2, hok⟩ hT
              obtain ⟨r, hr1, rfl⟩ := get_map hi
              have hib : i < b.length := (List.getElem?_eq_some_iff.mp hr1).1
              have er : b.getD i 0 = r := by rw [List.getD_eq_getElem?_getD, hr1]; rfl
              have s3 : Same H (upd H2 T (.tup [.int (i : Nat), nV r])) := Same.plus s2 hT
              have ei : V.int ((i : Int) % (n : Int)) = nV (i % n) := congrArg V.int (Int.natCast_emod _ _).symm
              have ed : V.int ((i : Int) / (n : Int)) = nV (i / n) := congrArg V.int (Int.natCast_ediv _ _).symm
              refine ⟨T, _, rfl, SqT.of upd_same, rfl, _, _, rfl, _, _, rfl, rfl, ?_⟩
              refine ⟨_, rfl, _, rfl, _, _, rfl, rfl, by omega, ?_⟩
              -- a row that can't be
              have fault : Jb.bad2 n b i = true → ∀ p, (upd H2 T (.tup [.int (i : Nat), nV r])) p = none → Q (.ref p) (upd (upd H2 T (.tup [.int (i : Nat), nV r])) p (.lst [V.int 2, V.int ((i : Int) / (n : Int)), V.int ((i : Int) % (n : Int))])) := fun hb p hp => by
                refine q1 _ p (2, i / n, i % n) (Same.plus s3 hp) ?_ (s3.free hp) ?_
                · unfold Jb.faultAt
                  rw [find_first hok hb hib]
                · rw [upd_same, ei, ed]; rfl
              refine ⟨_, rfl, _, rfl, _, _, rfl, rfl, by omega, rfl, _, rfl, ?_⟩
              have e2 : (!decide (V.int ((r : Int) / 2 ^ ((n : Int).toNat)) = V.int 0)) = decide (2 ^ n ≤ r) := by
                rw [shr_nat, shr_zero, Bool.not_not]
              refine ite2 (fun h6 => ?_) (fun h6 => ?_)
              · have h6 : (!decide (V.int ((r : Int) / 2 ^ ((n : Int).toNat)) = V.int 0)) = true := h6
                rw [e2] at h6
                refine iteT ?_
                refine ⟨_, rfl, _, rfl, _, _, rfl, rfl, ⟨by omega, by omega⟩, _, rfl, z3, fault ?_⟩
                unfold Jb.bad2
                rw [er, h6]; rfl
              · have h6 : ¬ (!decide (V.int ((r : Int) / 2 ^ ((n : Int).toNat)) = V.int 0)) = true := h6
                rw [e2] at h6
                refine ⟨_, rfl, _, rfl, r, i % n, congrArg (fun v => [nV r, v]) ei, _, rfl, ?_⟩
                cases hbit : r.testBit (i % n) with
                | true =>
                  refine iteT ?_
                  refine ⟨_, rfl, _, rfl, _, _, rfl, rfl, ⟨by omega, by omega⟩, _, rfl, z3, fault ?_⟩
                  unfold Jb.bad2
                  rw [er, hbit, Bool.or_true]
                | false =>
                  refine iteF ?_
                  refine ⟨some (.int (i : Nat)), some (nV r), some (V.int ((i : Int) % (n : Int))), rfl, s3, fun j hj => ?_⟩
                  by_cases ej : j = i
                  · subst ej
                    unfold Jb.bad2
                    rw [er, hbit, Bool.or_false]
                    simpa using h6
                  · exact hok j (by omega)
            · rintro σ H2 ⟨v2, v3, v4, rfl, s2, hok⟩
              rw [List.length_map] at hok
              refine ⟨_, rfl, a, _, rfl, s2.seq ha, ?_⟩
              refine for_enum (K := K) (a := a) (xs := b.map nV) (fun i σ H2 => ∃ v2 v3 v4 v5 v6, σ = [some (nV n), some (.ref a), v2, v3, v4, v5, v6] ∧ Same H H2 ∧ ∀ j, j < i → Jb.bad3 n b j = false)
                ⟨v2, v3, v4, none, none, rfl, s2, fun j z => absurd z (Nat.not_lt_zero j)⟩ (fun i σ H2 _ ⟨_, _, _, _, _, _, s2, _⟩ => s2.seq ha) ?_ ?_
              · rintro i x σ H3 T hi ⟨v2, v3, v4, v5, v6, rfl, s3, hok3⟩ hT
                obtain ⟨r, hr1, rfl⟩ := get_map hi
                have hib : i < b.length := (List.getElem?_eq_some_iff.mp hr1).1
                have er : b.getD i 0 = r := by rw [List.getD_eq_getElem?_getD, hr1]; rfl
                have s4 : Same H (upd H3 T (.tup [.int (i : Nat), nV r])) := Same.plus s3 hT
                have ei : V.int ((i : Int) % (n : Int)) = nV (i % n) := congrArg V.int (Int.natCast_emod _ _).symm
                have ed : V.int ((i : Int) / (n : Int)) = nV (i / n) := congrArg V.int (Int.natCast_ediv _ _).symm
                have ho := Nat.div_add_mod i n
                have hlt := Nat.mod_lt i hn
                have hdiv : i / n * n + n ≤ b.length := by
                  have h7 : i / n < b.length / n := by
                    rw [Nat.div_lt_iff_lt_mul hn, Nat.div_mul_cancel (Nat.dvd_of_mod_eq_zero hm)]
                    exact hib
                  have h8 : (i / n + 1) * n ≤ b.length / n * n := Nat.mul_le_mul_right n h7
                  rw [Nat.div_mul_cancel (Nat.dvd_of_mod_eq_zero hm), Nat.succ_mul] at h8
                  exact h8
                have es : (i : Int) - (i : Int) % (n : Int) = ((i / n * n : Nat) : Int) := by
                  rw [← Int.natCast_emod]
                  have : n * (i / n) = i / n * n := Nat.mul_comm _ _
                  omega
                have hr2 : r < 2 ^ n := by
                  have := hok i hib
                  unfold Jb.bad2 at this
                  rw [er] at this
                  simp only [Bool.or_eq_false_iff, decide_eq_false_iff_not] at this
                  omega
                have em3 := missing_eq (x := i) hn hdiv (by rw [er]; exact hr2)
                rw [er] at em3
                refine ⟨T, _, rfl, SqT.of upd_same, rfl, _, _, rfl, _, _, rfl, rfl, ?_⟩
                refine ⟨_, rfl, _, rfl, _, _, rfl, rfl, by omega, ?_⟩
                refine ⟨_, rfl, _, rfl, _, _, rfl, rfl, ?_⟩
                refine ⟨_, rfl, _, rfl, _, rfl, _, rfl, _, rfl, _, _, rfl, rfl, _, rfl, a, _, rfl, s4.seq ha, fun lb hlb => ?_⟩
                have ecut : cutV (b.map nV) (some ((i : Int) - (i : Int) % (n : Int))) (some ((i : Int) - (i : Int) % (n : Int) + (n : Int))) = ((b.drop (i / n * n)).take n).map nV := by
                  rw [es]; exact cut_rows b _ n hdiv
                refine ⟨_, rfl, lb, (b.drop (i / n * n)).take n, r, rfl, SqL.of (by rw [← ecut]; exact upd_same), fun H4 s5 => ?_⟩
                have s6 : Same H H4 := (Same.plus s4 hlb).trans s5
                refine ⟨_, rfl, _, rfl, _, _, rfl, rfl, _, rfl, rfl, _, rfl, ?_⟩
                have e3 : (!decide (V.int (Builtin.bitOr (anyOf ((b.drop (i / n * n)).take n) r : Int) (r : Int)) = nV r)) = Jb.bad3 n b i := by
                  rw [← em3, or_nat]
                  congr 1
                  rw [Bool.eq_iff_iff, decide_eq_true_eq, decide_eq_true_eq]
                  constructor
                  · intro e
                    have := V.int.inj e
                    omega
                  · intro e
                    rw [e]; rfl
                refine ite2 (fun h6 => ?_) (fun h6 => ?_)
                · have h6 : (!decide (V.int (Builtin.bitOr (anyOf ((b.drop (i / n * n)).take n) r : Int) (r : Int)) = nV r)) = true := h6
                  rw [e3] at h6
                  refine ⟨_, rfl, _, rfl, _, _, rfl, rfl, ⟨by omega, by omega⟩, _, rfl, z3, fun p hp => ?_⟩
                  refine q1 _ p (3, i / n, i % n) (Same.plus s6 hp) ?_ (s6.free hp) ?_
                  · unfold Jb.faultAt
                    rw [find_no hok, find_first hok3 h6 hib]
                  · rw [upd_same]
                    show some (HO.lst [V.int 3, V.int ((i : Int) / (n : Int)), V.int ((i : Int) % (n : Int))]) = _
                    rw [ei, ed]; rfl
                · have h6 : ¬ (!decide (V.int (Builtin.bitOr (anyOf ((b.drop (i / n * n)).take n) r : Int) (r : Int)) = nV r)) = true := h6
                  rw [e3] at h6
                  refine ⟨_, _, _, _, _, rfl, s6, fun j hj => ?_⟩
                  by_cases ej : j = i
                  · subst ej
                    simpa using h6
                  · exact hok3 j (by omega)
              · rintro σ H3 ⟨v2, v3, v4, v5, v6, rfl, s3, hok3⟩
                rw [List.length_map] at hok3
                refine q0 H3 s3 ?_
                unfold Jb.faultAt
                rw [find_no hok, find_no hok3]
end
end L2.Jp
end Jp6_
section Jp7_
namespace L2.Jp
open PySem PySem.Spec PyProof.Rows L2 TL L2.JX
def sV' (b : List Nat) : V := .str (str b)
def caseF (a l r : V) : List (Str × V) := putF "rules" r (putF "laws" l (putF "atoms" a []))
theorem caseF_atoms (a l r : V) : (caseF a l r).lookup ("atoms" : Str) = some a := by
  unfold caseF
  rw [lookup_putF, if_neg (by decide +kernel), lookup_putF, if_neg (by decide +kernel), lookup_putF, if_pos rfl]
theorem caseF_laws (a l r : V) : (caseF a l r).lookup ("laws" : Str) = some l := by
  unfold caseF
  rw [lookup_putF, if_neg (by decide +kernel), lookup_putF, if_pos rfl]
theorem caseF_rules (a l r : V) : (caseF a l r).lookup ("rules" : Str) = some r := by
  unfold caseF
  rw [lookup_putF, if_pos rfl]
def LawT (H : Hp) (p : Addr) (x : Nat × Nat) : Prop := H p = some (.tup [nV x.1, nV (2 ^ x.2)])
def RuleT (H : Hp) (p : Addr) (x : Nat × Nat × Nat) : Prop := H p = some (.tup [nV (2 ^ x.1), nV x.2.1, nV (2 ^ x.2.2)])
structure CaseAt (C : Addr) (H : Hp) (q : Addr) (names : List (List Nat)) (k : Mo.Numbered) : Prop where
  ex : ∃ dx a l r ls rs, H q = some (.ins C dx (caseF (.ref a) (.ref l) (.ref r))) ∧ H a = some (.lst (names.map sV')) ∧ k.atoms = names.length ∧ H l = some (.lst (ls.map V.ref)) ∧ H r = some (.lst (rs.map V.ref)) ∧ Paired (LawT H) ls k.laws ∧ Paired (RuleT H) rs k.rules
theorem CaseAt.mono {C : Addr} {H H' : Hp} {q : Addr} {names : List (List Nat)} {k : Mo.Numbered} (c : CaseAt C H q names k) (s : Same H H') : CaseAt C H' q names k := by
  obtain ⟨dx, a, l, r, ls, rs, h1, h2, h3, h4, h5, h6, h7⟩ := c.ex
  exact ⟨dx, a, l, r, ls, rs, s _ _ h1, s _ _ h2, h3, s _ _ h4, s _ _ h5, paired_imp (fun p x h => s _ _ h) h6, paired_imp (fun p x h => s _ _ h) h7⟩
structure CaseC (K : PySem.W.Frag) (C : Addr) : Prop where
  cl : Cls K C
  nA : NoAttr K C "atoms"
  nL : NoAttr K C "laws"
  nR : NoAttr K C "rules"
section
variable {P : Program} {w : World} {K : PySem.W.Frag} {mg : Str → Option Value} {base : Heap}
def spCaseInit (C : Addr) : Sp := fun vs H Q _ => ∃ (p dx : Addr) (a l r : V), vs = [.ref p, a, l, r] ∧ H p = some (.ins C dx []) ∧ Q .non (upd H p (.ins C dx (caseF a l r)))
theorem scCaseInit : FnScope ["self", "atoms", "laws", "rules"] ["self", "atoms", "laws", "rules"] (defScope sCaseInit) := ⟨rfl, rfl, rfl, by decide +kernel, rfl, by decide +kernel, by decide +kernel⟩
theorem mk_case {C : Addr} (T : CaseC K C) (D : ClsAt K mg "Case" "Case.__init__" sCaseInit ["self", "atoms", "laws", "rules"] C) : Maker P w K mg base "Case" C 1 ["self", "atoms", "laws", "rules"] (spCaseInit C) := by
  refine D.maker scCaseInit (fun vs H Q E h => ?_) (fun f cdv A outer s H vs Q E hr h => ?_)
  · obtain ⟨p, dx, a, l, r, rfl, _⟩ := h
    rfl
  · obtain ⟨p, dx, a, l, r, rfl, hp, q⟩ := h
    refine ⟨_, pss_cons (ps_fld (pv 0) (pv 1) rfl) (pss_cons (ps_fld (pv 0) (pv 2) rfl) (pss_one (ps_fld (pv 0) (pv 3) rfl))), ?_⟩
    refine ⟨_, rfl, _, rfl, p, C, dx, _, rfl, hp, T.cl, T.nA, by show 0 < 1000; decide, ?_⟩
    refine ⟨_, rfl, _, rfl, p, C, dx, _, rfl, upd_same, T.cl, T.nL, Nat.lt_of_le_of_lt (putF_lt (n := 0) (Nat.le_refl _)) (by decide), ?_⟩
    refine ⟨_, rfl, _, rfl, p, C, dx, _, rfl, upd_same, T.cl, T.nR, Nat.lt_of_le_of_lt (putF_lt (n := 1) (putF_lt (n := 0) (Nat.le_refl _))) (by decide), ?_⟩
    rw [upd_upd, upd_upd]
    exact q
def pickN (k : Mo.Numbered) (S i : Nat) : List (Nat × Nat × Nat) := ((k.rules.take i).zipIdx.filter fun (x : (Nat × Nat × Nat) × Nat) => Mo.held S x.2).map fun (x : (Nat × Nat × Nat) × Nat) => x.1
theorem pickN_succ {k : Mo.Numbered} {S i : Nat} {x : Nat × Nat × Nat} (h : k.rules[i]? = some x) : pickN k S (i + 1) = pickN k S i ++ if S.testBit i = true then [x] else [] := by
  unfold pickN
  have hi := (List.getElem?_eq_some_iff.mp h).1
  have e : (k.rules.take (i + 1)).zipIdx = (k.rules.take i).zipIdx ++ [(x, i)] := by
    rw [List.take_add_one, h, Option.toList_some, List.zipIdx_append]
    have : (k.rules.take i).length = i := by rw [List.length_take]; omega
    rw [this]; simp
  rw [e, List.filter_append, List.map_append]
  congr 1
  unfold Mo.held
  cases hb : S.testBit i with
  | true => simp [hb]
  | false => simp [hb]
theorem pickN_all (k : Mo.Numbered) (S : Nat) : pickN k S k.rules.length = Jb.pick k S := by
  unfold pickN Jb.pick
  rw [List.take_length]
theorem pickN_len (k : Mo.Numbered) (S i : Nat) : (pickN k S i).length ≤ k.rules.length := by
  unfold pickN
  rw [List.length_map]
  refine Nat.le_trans (List.length_filter_le _ _) ?_
  rw [List.length_zipIdx, List.length_take]; omega
theorem start_snoc (l : List (Nat × Nat × Nat)) (x : Nat × Nat × Nat) : Jb.startOf (l ++ [x]) = Jb.startOf l ||| 2 ^ x.1 := by
  unfold Jb.startOf
  rw [List.foldl_append]; rfl
theorem line9000' {n : Nat} (h : n ≤ 9000) : n < sizeLine := Nat.lt_of_le_of_lt h (by rw [sizeLine_eq]; decide)
theorem step_eq (F b h : Nat) : (if decide (V.int (Builtin.bitAnd (F : Int) (b : Int)) = V.int (b : Int)) = true then F ||| 2 ^ h else F) = Jb.stepR F (b, h) := by
  unfold Jb.stepR Mo.within Mo.with_
  rw [and_nat, dec_nat, Nat.and_comm]
def spFollows (C : Addr) : Sp := fun vs H Q _ => ∃ (q : Addr) (names : List (List Nat)) (k : Mo.Numbered) (S : Nat), vs = [.ref q, nV S] ∧ CaseAt C H q names k ∧ k.laws.length ≤ 1000 ∧ k.rules.length ≤ 1000 ∧ ∀ H', Same H H' → Q (nV (k.follows S)) H'
theorem scFollows : FnScope ["case", "chosen", "found", "clauses", "i", "rule", "before", "clause"] ["case", "chosen"] (defScope sWhatFollows) := ⟨rfl, rfl, rfl, by decide +kernel, rfl, by decide +kernel, by decide +kernel⟩
theorem ok_follows {C : Addr} (B : Bl mg) (T : CaseC K C) (h1 : Has P w K mg base 1 "has" ["chosen", "k"] spHas) (D : Def K mg "what_follows" sWhatFollows ["case", "chosen"]) : Has P w K mg base 2 "what_follows" ["case", "chosen"] (spFollows C) := by
  refine D.has scFollows (fun vs H Q E h => ?_) (fun f cdv A outer s H vs Q E hr h => ?_)
  · obtain ⟨q, names, k, S, rfl, _⟩ := h
    rfl
  · obtain ⟨q, names, k, S, rfl, hc, zl, zr, qq⟩ := h
    obtain ⟨dx, a, l, r, ls, rs, c1, c2, c3, c4, c5, c6, c7⟩ := hc.ex
    refine ⟨_, pss_cons (ps_set (i := 2) scFollows.nd rfl (Or.inl rfl) pe_int)
      (pss_cons (ps_set (i := 3) scFollows.nd rfl (Or.inl rfl) (pe_callTy call_list_of (by rfl) B.list boot_list (pa_cons (pe_fld (pv 0) rfl) pa_nil)))
      (pss_cons (ps_for PassesOwn.never rfl (pi_enum (by rfl) B.enum (pa_cons (pe_fld (pv 0) rfl) pa_nil)) (pg_tup rfl (pgs_cons (pg_name (i := 4) scFollows.nd rfl (Or.inl rfl)) (pgs_cons (pg_name (i := 5) scFollows.nd rfl (Or.inl rfl)) pgs_nil)))
        (pss_one (ps_if (pt_val (pe_callH h1 hr (pa_cons (pv 1) (pa_cons (pv 4) pa_nil))))
          (pss_cons (ps_aug (i := 2) scFollows.nd rfl (Or.inl rfl) (pe_ix ix_tup (pv 5) pe_int (fun _ _ => rfl)) iop_or)
          (pss_one (ps_expr (pe_bm PySem.F.plainAttrs_list PySem.F.slot_list_append PySem.F.type_list_append mt_append (pv 3) (pa_cons (pe_tup (pa_cons (pe_ix ix_tup (pv 5) pe_int (fun _ _ => rfl)) (pa_cons (pe_ix ix_tup (pv 5) pe_int (fun _ _ => rfl)) pa_nil))) pa_nil))))) pss_nil)))
      (pss_cons (ps_set (i := 6) scFollows.nd rfl (Or.inl rfl) (pe_un un_neg pe_int))
      (pss_cons (ps_while PassesOwn.never (pt_cmpR op_ne (pv 2) (pv 6) (nomark _))
        (pss_cons (ps_set (i := 6) scFollows.nd rfl (Or.inl rfl) (pv 2))
        (pss_one (ps_for PassesOwn.never rfl (pi_list (pv 3)) (pg_name (i := 7) scFollows.nd rfl (Or.inl rfl))
          (pss_one (ps_if (pt_cmpR op_eq (pe_op op_and (pv 2) (pe_ix ix_tup (pv 7) pe_int (fun _ _ => rfl))) (pe_ix ix_tup (pv 7) pe_int (fun _ _ => rfl)) (nomark _))
            (pss_one (ps_aug (i := 2) scFollows.nd rfl (Or.inl rfl) (pe_ix ix_tup (pv 7) pe_int (fun _ _ => rfl)) iop_or)) pss_nil))))))
      (pss_one (ps_ret (pv 2))))))), ?_⟩
    refine ⟨_, rfl, q, C, dx, _, _, rfl, c1, T.cl, T.nL, caseF_laws _ _ _, l, _, rfl, .inl (SqL.of c4), fun cl hcl => ?_⟩
    have c1' : (upd H cl (.lst (ls.map V.ref))) q = some (.ins C dx (caseF (.ref a) (.ref l) (.ref r))) := by rw [upd_ne (ne_of_none c1 hcl)]; exact c1
    refine ⟨_, rfl, q, C, dx, _, _, rfl, c1', T.cl, T.nR, caseF_rules _ _ _, r, _, rfl, SqL.of (by rw [upd_ne (ne_of_none c5 hcl)]; exact c5), ?_⟩
    refine for_enum (K := K) (a := r) (xs := rs.map V.ref) (fun i σ H2 => ∃ v4 v5 ps, σ = [some (.ref q), some (nV S), some (nV (Jb.startOf (pickN k S i))), some (.ref cl), v4, v5, none, none] ∧ Same H H2 ∧ H2 cl = some (.lst (ps.map V.ref)) ∧ Paired (LawT H2) ps (k.laws ++ (pickN k S i).map fun x => x.2))
      ⟨none, none, ls, rfl, same_new hcl, upd_same, ?_⟩ (fun i σ H2 _ ⟨_, _, _, _, s2, _⟩ => s2.seq (SqL.of c5)) ?_ ?_
    · have e : (pickN k S 0).map (fun x => x.2) = [] := rfl
      rw [e, List.append_nil]
      exact paired_imp (fun p x h => (same_new hcl) _ _ h) c6
    · rintro i x σ H2 TT hi ⟨v4, v5, ps, rfl, s2, h2, h3⟩ hT
      rw [List.getElem?_map] at hi
      cases er : rs[i]? with
      | none => rw [er] at hi; cases hi
      | some rp =>
        rw [er] at hi
        cases hi
        obtain ⟨x, hx, hrx⟩ := paired_get' c7 er
        have s3 : Same H (upd H2 TT (.tup [.int (i : Nat), V.ref rp])) := Same.plus s2 hT
        have h2' : (upd H2 TT (.tup [.int (i : Nat), V.ref rp])) cl = some (.lst (ps.map V.ref)) := by rw [upd_ne (ne_of_none h2 hT)]; exact h2
        have sT : Same H2 (upd H2 TT (.tup [.int (i : Nat), V.ref rp])) := same_new hT
        have h4 : Paired (LawT (upd H2 TT (.tup [.int (i : Nat), V.ref rp]))) ps (k.laws ++ (pickN k S i).map fun x => x.2) := paired_imp (fun p x h => sT _ _ h) h3
        have hTT : (upd H2 TT (.tup [.int (i : Nat), V.ref rp])) TT = some (.tup [.int (i : Nat), V.ref rp]) := upd_same
        generalize upd H2 TT (.tup [.int (i : Nat), V.ref rp]) = H3 at s3 h2' h4 hTT ⊢
        have hrx3 : H3 rp = some (.tup [nV (2 ^ x.1), nV x.2.1, nV (2 ^ x.2.2)]) := s3 _ _ hrx
        have esu := pickN_succ (S := S) hx
        refine ⟨TT, _, rfl, SqT.of hTT, rfl, _, _, rfl, _, _, rfl, rfl, ?_⟩
        refine ⟨_, rfl, _, rfl, S, i, rfl, _, rfl, ?_⟩
        cases hb : S.testBit i with
        | true =>
          rw [hb, if_pos rfl] at esu
          refine iteT ?_
          refine ⟨_, rfl, _, rfl, rp, _, 0, nV (2 ^ x.1), rfl, rfl, SqT.of hrx3, atI_nat (j := 0) rfl, _, _, rfl, rfl, ?_⟩
          refine ⟨_, rfl, .inl ⟨rfl, _, SqL.of h2'⟩, _, rfl, rp, _, 1, nV x.2.1, rfl, rfl, SqT.of hrx3, atI_nat (j := 1) rfl, _, rfl, rp, _, 2, nV (2 ^ x.2.2), rfl, rfl, SqT.of hrx3, atI_nat (j := 2) rfl, by show 2 ≤ sizeLine; decide, fun t ht => ?_⟩
          have h2t : (upd H3 t (.tup [nV x.2.1, nV (2 ^ x.2.2)])) cl = some (.lst (ps.map V.ref)) := by rw [upd_ne (ne_of_none h2' ht)]; exact h2'
          refine ⟨cl, _, _, rfl, rfl, h2t, ?_, ?_⟩
          · rw [List.length_map, paired_len h4, List.length_append, List.length_map]
            have := pickN_len k S i
            exact line9000' (by omega)
          · have eo : V.int (Builtin.bitOr ((Jb.startOf (pickN k S i) : Nat) : Int) ((2 ^ x.1 : Nat) : Int)) = nV (Jb.startOf (pickN k S (i + 1))) := by
              rw [esu, start_snoc, or_nat]; rfl
            have sF : Same H3 (upd (upd H3 t (.tup [nV x.2.1, nV (2 ^ x.2.2)])) cl (.lst (ps.map V.ref ++ [V.ref t]))) → True := fun _ => trivial
            refine ⟨some (.int (i : Nat)), some (V.ref rp), ps ++ [t], ?_, ?_, ?_, ?_⟩
            · rw [← eo]; rfl
            · exact Same.own (Same.plus s3 ht) hcl
            · rw [upd_same, List.map_append]; rfl
            · rw [esu, List.map_append, ← List.append_assoc]
              have keep : ∀ p y, LawT H3 p y → LawT (upd (upd H3 t (.tup [nV x.2.1, nV (2 ^ x.2.2)])) cl (.lst (ps.map V.ref ++ [V.ref t]))) p y := fun p y h => by
                have h : H3 p = some (.tup [nV y.1, nV (2 ^ y.2)]) := h
                show (upd (upd H3 t _) cl _) p = _
                rw [upd_ne (ne_of h h2' (by intro z; cases z)), upd_ne (ne_of_none h ht)]; exact h
              refine paired_app (paired_imp keep h4) (.cons ?_ .nil)
              show (upd (upd H3 t _) cl _) t = _
              rw [upd_ne (Ne.symm (ne_of_none h2' ht)), upd_same]
        | false =>
          rw [hb] at esu
          have esu : pickN k S (i + 1) = pickN k S i := by rw [esu]; simp
          refine iteF ?_
          refine ⟨some (.int (i : Nat)), some (V.ref rp), ps, ?_, s3, h2', by rw [esu]; exact h4⟩
          rw [esu]; rfl
    · rintro σ H2 ⟨v4, v5, ps, rfl, s2, h2, h3⟩
      have el : (rs.map V.ref).length = k.rules.length := by rw [List.length_map, paired_len c7]
      rw [el, pickN_all] at h3
      have ecl : k.laws ++ (Jb.pick k S).map (fun x => x.2) = Jb.cls k S := rfl
      rw [ecl] at h3
      rw [el, pickN_all]
      generalize hL : Jb.cls k S = L at h3
      generalize hS0 : Jb.startOf (Jb.pick k S) = F0
      refine ⟨_, rfl, ?_⟩
      -- till nothing new follows
      refine ⟨fun m σ H3 => ∃ F z v4 v5 v7, σ = [some (.ref q), some (nV S), some (nV F), some (.ref cl), v4, v5, some (.int z), v7] ∧ Same H H3 ∧ H3 cl = some (.lst (ps.map V.ref)) ∧ Paired (LawT H3) ps L ∧ Jb.sub F0 F ∧ (∀ G, Jb.Closed L G → Jb.sub F0 G → Jb.sub F G) ∧
        (z = -1 ∨ ∃ Bn : Nat, z = (Bn : Int) ∧ Jb.stepL L Bn = F) ∧ m = 2 * (L.length + 1 - Jb.heads L F) + (if z = (F : Int) then 0 else 1), ⟨_, F0, -1, v4, v5, none, rfl, s2, h2, h3, Jb.sub_refl _, fun G _ h => h, .inl rfl, rfl⟩, ?_⟩
      rintro m σ H3 ⟨F, z, v4, v5, v7, rfl, s3, h4, h5, f1, f2, f3, rfl⟩
      refine ⟨_, rfl, _, rfl, rfl, _, rfl, ?_⟩
      refine ite2 (fun h6 => ?_) (fun h6 => ?_)
      · have hz : z ≠ (F : Int) := fun e => by
          rw [e] at h6
          have : (!decide (V.int (F : Int) = V.int (F : Int))) = true := h6
          simp at this
        refine ⟨fun σ' H' => ∃ F' v4 v5 v7, σ' = [some (.ref q), some (nV S), some (nV F'), some (.ref cl), v4, v5, some (nV F), v7] ∧ Same H H' ∧ H' cl = some (.lst (ps.map V.ref)) ∧ Paired (LawT H') ps L ∧ F' = Jb.stepL L F, ?_, ?_⟩
        · rintro σ' H' ⟨F', w4, w5, w7, rfl, t1, t2, t3, rfl⟩
          refine ⟨_, ?_, Jb.stepL L F, (F : Int), w4, w5, w7, rfl, t1, t2, t3, Jb.sub_trans f1 (Jb.stepL_sub L F), fun G hG h => Jb.stepL_least hG (f2 G hG h), .inr ⟨F, rfl, rfl⟩, rfl⟩
          rw [if_neg hz]
          by_cases e : Jb.stepL L F = F
          · rw [e, if_pos rfl]; omega
          · have := Jb.step_heads e
            have := Jb.heads_le L (Jb.stepL L F)
            split <;> omega
        · refine ⟨_, rfl, ?_⟩
          refine ⟨_, rfl, cl, rfl, ⟨_, SqL.of h4⟩, ?_⟩
          refine for_list (K := K) (a := cl) (xs := ps.map V.ref) (fun j σ' H' => ∃ v7, σ' = [some (.ref q), some (nV S), some (nV ((L.take j).foldl Jb.stepR F)), some (.ref cl), v4, v5, some (nV F), v7] ∧ Same H H' ∧ H' cl = some (.lst (ps.map V.ref)) ∧ Paired (LawT H') ps L)
            ⟨v7, rfl, s3, h4, h5⟩ (fun i σ H' _ ⟨_, _, _, h, _⟩ => SqL.of h) ?_ ?_
          · rintro j x σ' H' hj ⟨w7, rfl, t1, t2, t3⟩
            rw [List.getElem?_map] at hj
            cases ej : ps[j]? with
            | none => rw [ej] at hj; cases hj
            | some cp =>
              rw [ej] at hj
              cases hj
              obtain ⟨y, hy, hcy⟩ := paired_get' t3 ej
              have hcy : H' cp = some (.tup [nV y.1, nV (2 ^ y.2)]) := hcy
              generalize hF1 : (L.take j).foldl Jb.stepR F = F1
              have enext : (L.take (j + 1)).foldl Jb.stepR F = Jb.stepR F1 y := by
                rw [List.take_add_one, hy, Option.toList_some, List.foldl_append, hF1]; rfl
              have eS := step_eq F1 y.1 y.2
              refine ⟨_, rfl, _, rfl, cp, _, 0, nV y.1, rfl, rfl, SqT.of hcy, atI_nat (j := 0) rfl, _, _, rfl, rfl, _, rfl, cp, _, 0, nV y.1, rfl, rfl, SqT.of hcy, atI_nat (j := 0) rfl, rfl, _, rfl, ?_⟩
              refine ite2 (fun h7 => ?_) (fun h7 => ?_)
              · have h7 : decide (V.int (Builtin.bitAnd (F1 : Int) (y.1 : Int)) = V.int (y.1 : Int)) = true := h7
                rw [if_pos h7] at eS
                refine ⟨_, rfl, _, rfl, cp, _, 1, nV (2 ^ y.2), rfl, rfl, SqT.of hcy, atI_nat (j := 1) rfl, _, _, rfl, rfl, ?_⟩
                refine ⟨some (V.ref cp), ?_, t1, t2, t3⟩
                have eo : V.int (Builtin.bitOr (F1 : Int) ((2 ^ y.2 : Nat) : Int)) = nV ((L.take (j + 1)).foldl Jb.stepR F) := by
                  rw [enext, ← eS, or_nat]; rfl
                rw [← eo]; rfl
              · have h7 : ¬ decide (V.int (Builtin.bitAnd (F1 : Int) (y.1 : Int)) = V.int (y.1 : Int)) = true := h7
                rw [if_neg h7] at eS
                refine ⟨some (V.ref cp), ?_, t1, t2, t3⟩
                rw [enext, ← eS]; rfl
          · rintro σ' H' ⟨w7, rfl, t1, t2, t3⟩
            refine ⟨_, v4, v5, w7, rfl, t1, t2, t3, ?_⟩
            rw [List.length_map, paired_len t3, List.take_length]; rfl
      · have hz : z = (F : Int) := by
          apply Decidable.byContradiction
          intro e
          apply h6
          show (!decide (V.int (F : Int) = V.int z)) = true
          rw [Bool.not_eq_true', decide_eq_false_iff_not]
          intro e2
          exact e (V.int.inj e2).symm
        have hfix : Jb.stepL L F = F := by
          rcases f3 with e | ⟨Bn, e1, e2⟩
          · omega
          · have : Bn = F := by omega
            rw [this] at e2; exact e2
        have efin : F = k.follows S := by
          refine Jb.follows_eq ?_ ?_ ?_
          · rw [hS0]; exact f1
          · rw [hL]; exact Jb.stepL_closed hfix
          · rw [hL, hS0]; exact f2
        refine ⟨_, rfl, ?_⟩
        rw [efin]
        exact qq H3 s3
end
end L2.Jp
end Jp7_
section Jp8_
namespace L2.Jp
open PySem PySem.Spec PyProof.Rows L2 TL L2.JX
theorem pair_bits (F i : Nat) : decide (V.int (Builtin.bitAnd ((F : Int) / 2 ^ (((2 : Int) * (0 + (i : Int))).toNat)) 3) = V.int 3) = (F.testBit (2 * i) && F.testBit (2 * i + 1)) := by
  have e : ((2 : Int) * (0 + (i : Int))) = ((2 * i : Nat) : Int) := by omega
  rw [e, shr_nat, show (3 : Int) = ((3 : Nat) : Int) from rfl, and_nat, dec_nat, Bool.eq_iff_iff, beq_iff_eq, Bool.and_eq_true]
  have b0 : (F >>> (2 * i)).testBit 0 = F.testBit (2 * i) := by rw [Nat.testBit_shiftRight]; rfl
  have b1 : (F >>> (2 * i)).testBit 1 = F.testBit (2 * i + 1) := by rw [Nat.testBit_shiftRight]
  rw [← b0, ← b1]
  generalize F >>> (2 * i) = G
  constructor
  · intro h
    constructor
    · have := congrArg (fun x => Nat.testBit x 0) h
      simp only [Nat.testBit_and] at this
      simpa using this
    · have := congrArg (fun x => Nat.testBit x 1) h
      simp only [Nat.testBit_and] at this
      have e3 : Nat.testBit 3 1 = true := by decide
      rw [e3, Bool.and_true] at this
      exact this
  · rintro ⟨h0, h1⟩
    apply Nat.eq_of_testBit_eq
    intro j
    rw [Nat.testBit_and]
    match j with
    | 0 => rw [h0]; rfl
    | 1 => rw [h1]; rfl
    | j + 2 =>
      have : Nat.testBit 3 (j + 2) = false := by
        rw [show 3 = 2 ^ 2 - 1 from rfl, Nat.testBit_two_pow_sub_one]
        simp
      rw [this, Bool.and_false]
section
variable {P : Program} {w : World} {K : PySem.W.Frag} {mg : Str → Option Value} {base : Heap}
def spClashes (C : Addr) : Sp := fun vs H Q _ => ∃ (q : Addr) (names : List (List Nat)) (k : Mo.Numbered) (S : Nat), vs = [.ref q, nV S] ∧ CaseAt C H q names k ∧ k.laws.length ≤ 1000 ∧ k.rules.length ≤ 1000 ∧ names.length ≤ 1000 ∧ ∀ H', Same H H' → Q (.bl (k.clash S)) H'
theorem scClashes : FnScope ["case", "chosen", "found", "number"] ["case", "chosen"] (defScope sClashes) := ⟨rfl, rfl, rfl, by decide +kernel, rfl, by decide +kernel, by decide +kernel⟩
theorem ok_clashes {C : Addr} (B : Bl mg) (T : CaseC K C) (h1 : Has P w K mg base 2 "what_follows" ["case", "chosen"] (spFollows C)) (D : Def K mg "clashes" sClashes ["case", "chosen"]) : Has P w K mg base 3 "clashes" ["case", "chosen"] (spClashes C) := by
  refine D.has scClashes (fun vs H Q E h => ?_) (fun f cdv A outer s H vs Q E hr h => ?_)
  · obtain ⟨q, names, k, S, rfl, _⟩ := h
    rfl
  · obtain ⟨q, names, k, S, rfl, hc, zl, zr, zn, qq⟩ := h
    refine ⟨_, pss_cons (ps_set (i := 2) scClashes.nd rfl (Or.inr rfl) (pe_callH h1 hr (pa_cons (pv 0) (pa_cons (pv 1) pa_nil))))
      (pss_one (ps_ret (pe_callB (cr_any rfl) (by rfl) B.any boot_any (pa_cons (pe_lc rfl scClashes.nd (pi_range1 (by rfl) B.range (pa_cons (pe_callB call_len_seq (by rfl) B.len PySem.boot_len (pa_cons (pe_fld (pv 0) rfl) pa_nil)) pa_nil)) (blkOk_by (N := ["case", "chosen", "found", "number"]) (sc := defScope sClashes) (own := [("number", 3)]) (by decide +kernel))
        (fun _ _ _ _ _ => pg_name (i := 3) scClashes.nd rfl (Or.inl rfl)) (fun _ _ _ _ _ => pts_nil)
        (fun _ _ _ _ _ => pe_cmpR op_eq (pe_op op_and (pe_op op_shr (pv 2) (pe_op op_mul pe_int (pv 3))) pe_int) pe_int (nomark _))) pa_nil)))), ?_⟩
    refine ⟨_, rfl, _, rfl, q, names, k, S, rfl, hc, zl, zr, fun H1 s1 => ?_⟩
    obtain ⟨dx, a, l, r, ls, rs, c1, c2, c3, c4, c5, c6, c7⟩ := (hc.mono s1).ex
    have hn := nat62 (n := names.length) (by omega)
    refine ⟨_, rfl, q, C, dx, _, _, rfl, c1, T.cl, T.nA, caseF_atoms _ _ _, a, _, rfl, .inl (SqL.of c2), ?_⟩
    rw [List.length_map]
    refine ⟨_, rfl, hn.1, hn.2, ?_⟩
    rw [Int.toNat_natCast]
    intro D hD
    refine lc_range (n := names.length) (fun i H2 => Same H1 H2 ∧ H2 D = some (.lst ((List.range i).map fun i => V.bl ((k.follows S).testBit (2 * i) && (k.follows S).testBit (2 * i + 1))))) ⟨same_new hD, upd_same⟩ ?_ ?_
    · rintro i H2 hi ⟨s2, h2⟩
      refine ⟨rfl, lcY ?_⟩
      refine ⟨_, rfl, _, rfl, _, _, rfl, rfl, .inl ⟨by decide, by decide⟩, _, _, rfl, rfl, by omega, _, _, rfl, rfl, rfl, _, h2, ?_, Same.own s2 hD, ?_⟩
      · rw [List.length_map, List.length_range]; exact small1000 (by omega)
      · have e := pair_bits (k.follows S) i
        rw [upd_same, List.range_succ, List.map_append]
        show some (HO.lst (_ ++ [V.bl (decide (V.int (Builtin.bitAnd (((k.follows S) : Int) / 2 ^ (((2 : Int) * (0 + (i : Int))).toNat)) 3) = V.int 3))])) = _
        rw [e]
        rfl
    · rintro H2 ⟨s2, h2⟩
      refine ⟨D, (List.range names.length).map fun i => ((k.follows S).testBit (2 * i) && (k.follows S).testBit (2 * i + 1)), rfl, SqL.of (by rw [h2, List.map_map]; rfl), ?_⟩
      have e : (((List.range names.length).map fun i => ((k.follows S).testBit (2 * i) && (k.follows S).testBit (2 * i + 1))).any id) = k.clash S := by
        rw [List.any_map]
        unfold Mo.Numbered.clash
        rw [c3]
        rfl
      rw [e]
      exact qq H2 (s1.trans s2)
def numsD (a : List (List Nat)) : List (Key × V) := a.zipIdx.map fun x => (.inr (str x.1), nV x.2)
theorem nums_valFrom (n : List Nat) : ∀ (a : List (List Nat)) (s : Nat), n ∈ a → valV ((a.zipIdx s).map fun x => ((.inr (str x.1), nV x.2) : Key × V)) (.inr (str n)) = some (nV (s + Jb.ixOf a n))
  | [], s, h => by cases h
  | x :: a, s, h => by
    rw [List.zipIdx_cons, List.map_cons]
    by_cases e : x = n
    · subst e
      have : Jb.ixOf (x :: a) x = 0 := by unfold Jb.ixOf; rw [List.findIdx?_cons, beq_self_eq_true]; rfl
      rw [this]
      exact valV_pos (p := ((Sum.inr (str x) : Key), nV s)) rfl
    · have hk : ¬ ((.inr (str x), nV s) : Key × V).1 = (.inr (str n) : Key) := fun z => e (str_inj (Sum.inr.inj z))
      rw [valV_neg hk]
      have hm : n ∈ a := by
        rcases List.mem_cons.mp h with q | q
        · exact absurd q.symm e
        · exact q
      rw [nums_valFrom n a (s + 1) hm]
      have : Jb.ixOf (x :: a) n = Jb.ixOf a n + 1 := by
        obtain ⟨i, hi⟩ := Jb.find_of_mem hm
        unfold Jb.ixOf
        rw [List.findIdx?_cons, hi]
        have : (x == n) = false := by simpa using e
        rw [this]; simp
      rw [this]
      congr 2
      omega
theorem nums_val {a : List (List Nat)} {n : List Nat} (h : n ∈ a) : valV (numsD a) (.inr (str n)) = some (nV (Jb.ixOf a n)) := by
  have := nums_valFrom n a 0 h
  rw [Nat.zero_add] at this
  exact this
theorem lit_head {l : Mo.Lit} (h : Mo.isName l.atom = true) : decide ((Jb.litBytes l).head? = some 126) = l.no ∧ atomB (Jb.litBytes l) = l.atom := by
  obtain ⟨c, r, e, h1, h2⟩ := Jb.name_head h
  obtain ⟨at_, no⟩ := l
  simp only at e h
  subst e
  cases no with
  | true =>
    unfold Jb.litBytes atomB
    simp
  | false =>
    unfold Jb.litBytes atomB
    have hc : c ≠ 126 := by omega
    simp [hc]
theorem name_le {b : List Nat} (h : Mo.isName b = true) : b.length ≤ 15 := by
  unfold Mo.isName at h
  simp only [Bool.and_eq_true, decide_eq_true_eq] at h
  exact h.2.1
theorem litBytes_le {l : Mo.Lit} (h : Mo.isName l.atom = true) : (Jb.litBytes l).length ≤ 16 := by
  have := name_le h
  unfold Jb.litBytes
  split
  · simp; omega
  · omega
def spLitNo : Sp := fun vs H Q _ => ∃ (d : Addr) (a : List (List Nat)) (l : Mo.Lit), vs = [.ref d, litV l] ∧ H d = some (.dK (numsD a)) ∧ l.atom ∈ a ∧ Mo.isName l.atom = true ∧ Q (nV (Jb.litNo a l)) H
theorem scLitNo : FnScope ["numbers", "literal", "opposite"] ["numbers", "literal"] (defScope sLiteralNumber) := ⟨rfl, rfl, rfl, by decide +kernel, rfl, by decide +kernel, by decide +kernel⟩
theorem ok_lit_no (h1 : Has P w K mg base 1 "is_opposite" ["literal"] spIsOpposite) (h2 : Has P w K mg base 2 "atom_of" ["literal"] spAtomOf) (D : Def K mg "literal_number" sLiteralNumber ["numbers", "literal"]) : Has P w K mg base 3 "literal_number" ["numbers", "literal"] spLitNo := by
  refine D.has scLitNo (fun vs H Q E h => ?_) (fun f cdv A outer s H vs Q E hr h => ?_)
  · obtain ⟨d, a, l, rfl, _⟩ := h
    rfl
  · obtain ⟨d, a, l, rfl, hd, hm, hn, q⟩ := h
    have hu := hu_of hr
    obtain ⟨e1, e2⟩ := lit_head hn
    refine ⟨_, pss_cons (ps_set (i := 2) scLitNo.nd rfl (Or.inl rfl) (pe_ifExp (pt_val (pe_callH (h1.mono (k := 2)) hr (pa_cons (pv 1) pa_nil))) pe_int pe_int))
      (pss_one (ps_ret (pe_op op_add (pe_op op_mul pe_int (pe_dget hu (pv 0) (pe_callH h2 hr (pa_cons (pv 1) pa_nil)) (fun _ _ => rfl))) (pv 2)))), ?_⟩
    refine ⟨_, rfl, Jb.litBytes l, rfl, _, rfl, ?_⟩
    rw [e1]
    have hv := nums_val hm
    have go : ∀ (o : Int), o = (if l.no = true then 1 else 0) → ∃ (v : V), ([some (V.ref d), some (litV l), some (V.int o)] : St)[0]? = some (some v) ∧ True := fun o _ => ⟨_, rfl, trivial⟩
    have hlen : (Jb.litBytes l).length ≤ 9000 := Nat.le_trans (litBytes_le hn) (by decide)
    cases hno : l.no with
    | true =>
      refine iteT ?_
      refine ⟨_, rfl, _, rfl, Jb.litBytes l, rfl, hlen, d, nV (Jb.ixOf a l.atom), rfl, ?_, _, _, rfl, rfl, .inl ⟨by decide, by decide⟩, _, rfl, _, _, rfl, rfl, ?_⟩
      · rw [e2]
        have := DGet.k (k := .inr (str l.atom)) hd
        rw [hv] at this
        exact this
      · have e : V.int (2 * ((Jb.ixOf a l.atom : Nat) : Int) + 1) = nV (Jb.litNo a l) := by
          unfold Jb.litNo nV
          rw [hno, if_pos rfl]
          congr 1
        show Q (V.int (2 * ((Jb.ixOf a l.atom : Nat) : Int) + 1)) H
        rw [e]
        exact q
    | false =>
      refine iteF ?_
      refine ⟨_, rfl, _, rfl, Jb.litBytes l, rfl, hlen, d, nV (Jb.ixOf a l.atom), rfl, ?_, _, _, rfl, rfl, .inl ⟨by decide, by decide⟩, _, rfl, _, _, rfl, rfl, ?_⟩
      · rw [e2]
        have := DGet.k (k := .inr (str l.atom)) hd
        rw [hv] at this
        exact this
      · have e : V.int (2 * ((Jb.ixOf a l.atom : Nat) : Int) + 0) = nV (Jb.litNo a l) := by
          unfold Jb.litNo nV
          rw [hno]
          congr 1
        show Q (V.int (2 * ((Jb.ixOf a l.atom : Nat) : Int) + 0)) H
        rw [e]
        exact q
theorem litNo_lt {a : List (List Nat)} {l : Mo.Lit} (h : l.atom ∈ a) : Jb.litNo a l < 2 * a.length := by
  have := (List.getElem?_eq_some_iff.mp (Jb.ixOf_at h)).1
  unfold Jb.litNo; split <;> omega
def spLitSet (K : PySem.W.Frag) : Sp := fun vs H Q _ => ∃ (d b : Addr) (a : List (List Nat)) (ls : List Mo.Lit), vs = [.ref d, .ref b] ∧ H d = some (.dK (numsD a)) ∧ (SqL K H b (ls.map litV) ∨ SqT K H b (ls.map litV)) ∧ a.length ≤ 1000 ∧ (∀ l ∈ ls, l.atom ∈ a ∧ Mo.isName l.atom = true) ∧ Q (nV (Jb.bodyNo a ls)) H
theorem scLitSet : FnScope ["numbers", "literals", "found", "literal"] ["numbers", "literals"] (defScope sLiteralSet) := ⟨rfl, rfl, rfl, by decide +kernel, rfl, by decide +kernel, by decide +kernel⟩
theorem body_take {a : List (List Nat)} {ls : List Mo.Lit} {i : Nat} {l : Mo.Lit} (h : ls[i]? = some l) : Jb.bodyNo a (ls.take (i + 1)) = Jb.bodyNo a (ls.take i) ||| 2 ^ Jb.litNo a l := by
  unfold Jb.bodyNo
  rw [List.take_add_one, h, Option.toList_some, List.foldl_append]; rfl
theorem ok_lit_set (h1 : Has P w K mg base 3 "literal_number" ["numbers", "literal"] spLitNo) (D : Def K mg "literal_set" sLiteralSet ["numbers", "literals"]) : Has P w K mg base 4 "literal_set" ["numbers", "literals"] (spLitSet K) := by
  refine D.has scLitSet (fun vs H Q E h => ?_) (fun f cdv A outer s H vs Q E hr h => ?_)
  · obtain ⟨d, b, a, ls, rfl, _⟩ := h
    rfl
  · obtain ⟨d, b, a, ls, rfl, hd, hq, hz, hl, q⟩ := h
    have turn : ∀ (i : Nat) (x : V), (ls.map litV)[i]? = some x → ∃ l, ls[i]? = some l ∧ x = litV l := fun i x hx => by
      rw [List.getElem?_map] at hx
      cases e : ls[i]? with
      | none => rw [e] at hx; cases hx
      | some l => rw [e] at hx; cases hx; exact ⟨l, rfl, rfl⟩
    have e0 : ∀ (i : Nat) (l : Mo.Lit), ls[i]? = some l → V.int (Builtin.bitOr ((Jb.bodyNo a (ls.take i) : Nat) : Int) ((1 : Int) * 2 ^ (((Jb.litNo a l : Nat) : Int).toNat))) = nV (Jb.bodyNo a (ls.take (i + 1))) := fun i l hx => by
      rw [one_shl, or_nat, body_take hx]; rfl
    rcases hq with hq | hq
    · refine ⟨_, pss_cons (ps_set (i := 2) scLitSet.nd rfl (Or.inl rfl) pe_int)
        (pss_cons (ps_for PassesOwn.never rfl (pi_list (pv 1)) (pg_name (i := 3) scLitSet.nd rfl (Or.inl rfl))
          (pss_one (ps_aug (i := 2) scLitSet.nd rfl (Or.inl rfl) (pe_op op_shl pe_int (pe_callH h1 hr (pa_cons (pv 0) (pa_cons (pv 3) pa_nil)))) iop_or)))
        (pss_one (ps_ret (pv 2)))), ?_⟩
      refine ⟨_, rfl, b, rfl, ⟨_, hq⟩, ?_⟩
      refine for_list (K := K) (a := b) (xs := ls.map litV) (fun i σ H2 => ∃ v3, σ = [some (.ref d), some (.ref b), some (nV (Jb.bodyNo a (ls.take i))), v3] ∧ H2 = H) ⟨none, rfl, rfl⟩ (fun i σ H2 _ ⟨_, _, e⟩ => by rw [e]; exact hq) ?_ ?_
      · rintro i x σ H2 hx ⟨v3, rfl, rfl⟩
        obtain ⟨l, hl1, rfl⟩ := turn i x hx
        obtain ⟨m1, m2⟩ := hl l (List.mem_of_getElem? hl1)
        have := litNo_lt m1
        refine ⟨_, rfl, _, rfl, _, rfl, d, a, l, rfl, hd, m1, m2, _, _, rfl, rfl, ⟨by omega, by omega, by decide⟩, _, _, rfl, rfl, some (litV l), ?_, rfl⟩
        rw [← e0 i l hl1]; rfl
      · rintro σ H2 ⟨v3, rfl, rfl⟩
        rw [List.length_map, List.take_length]
        exact ⟨_, rfl, q⟩
    · refine ⟨_, pss_cons (ps_set (i := 2) scLitSet.nd rfl (Or.inl rfl) pe_int)
        (pss_cons (ps_for PassesOwn.never rfl (pi_tup (pv 1)) (pg_name (i := 3) scLitSet.nd rfl (Or.inl rfl))
          (pss_one (ps_aug (i := 2) scLitSet.nd rfl (Or.inl rfl) (pe_op op_shl pe_int (pe_callH h1 hr (pa_cons (pv 0) (pa_cons (pv 3) pa_nil)))) iop_or)))
        (pss_one (ps_ret (pv 2)))), ?_⟩
      refine ⟨_, rfl, b, rfl, ⟨_, hq⟩, ?_⟩
      refine for_tup (K := K) (a := b) (xs := ls.map litV) (fun i σ H2 => ∃ v3, σ = [some (.ref d), some (.ref b), some (nV (Jb.bodyNo a (ls.take i))), v3] ∧ H2 = H) ⟨none, rfl, rfl⟩ (fun i σ H2 _ ⟨_, _, e⟩ => by rw [e]; exact hq) ?_ ?_
      · rintro i x σ H2 hx ⟨v3, rfl, rfl⟩
        obtain ⟨l, hl1, rfl⟩ := turn i x hx
        obtain ⟨m1, m2⟩ := hl l (List.mem_of_getElem? hl1)
        have := litNo_lt m1
        refine ⟨_, rfl, _, rfl, _, rfl, d, a, l, rfl, hd, m1, m2, _, _, rfl, rfl, ⟨by omega, by omega, by decide⟩, _, _, rfl, rfl, some (litV l), ?_, rfl⟩
        rw [← e0 i l hl1]; rfl
      · rintro σ H2 ⟨v3, rfl, rfl⟩
        rw [List.length_map, List.take_length]
        exact ⟨_, rfl, q⟩
end
end L2.Jp
end Jp8_
section Jp9_
namespace L2.Jp
open PySem PySem.Spec PyProof.Rows L2 TL L2.JX
theorem lt_below : ∀ a b : List Nat, ltCps a b = Mo.below a b
  | [], [] => rfl
  | [], _ :: _ => rfl
  | _ :: _, [] => rfl
  | a :: r, b :: t => by
    show (decide (a < b) || (a == b && ltCps r t)) = (decide (a < b) || (a == b && Mo.below r t))
    rw [lt_below r t]
theorem rising_climbs : ∀ (ys : List Str) (p : Str), risingS p ys = Jb.climbs (tl p) (ys.map tl)
  | [], _ => rfl
  | x :: r, p => by
    show (!ltCps x.cps.toList p.cps.toList && risingS x r) = (!Mo.below (tl x) (tl p) && Jb.climbs (tl x) (r.map tl))
    rw [lt_below, rising_climbs r x]
theorem sorted_climb (ys : List Str) : sortedS ys = Jb.climb (ys.map tl) := by
  cases ys with
  | nil => rfl
  | cons x r => exact rising_climbs r x
theorem map_tl_str (ns : List (List Nat)) : (ns.map str).map tl = ns := by
  rw [List.map_map]
  exact List.map_id'' (fun p => rfl) ns
theorem sorted_is {ns target : List (List Nat)} {ys : List Str} (hp : ys.Perm (ns.map str)) (hs : sortedS ys = true) (nd : ns.Nodup) (hr : Jb.Rising target) (hm : ∀ x, x ∈ target ↔ x ∈ ns) : ys = target.map str := by
  have hp2 : (ys.map tl).Perm ns := by
    have := hp.map tl
    rw [map_tl_str] at this
    exact this
  have h1 : Jb.Rising (ys.map tl) := Jb.climb_rising (by rw [← sorted_climb]; exact hs) (hp2.nodup_iff.mpr nd)
  have e : ys.map tl = target := Jb.rising_unique h1 hr fun x => by rw [hm, hp2.mem_iff]
  rw [← e]
  apply map_tl_inj
  rw [map_tl_str]
def rowKV (r : Mo.Row) (t : Addr) : Key × V := (.inr (str r.name), .ref t)
def ClauseT (H : Hp) (t : Addr) (r : Mo.Row) : Prop := ∃ pb, H t = some (.tup [.ref pb, litV r.head]) ∧ H pb = some (.tup (r.body.map litV))
def RowsD (H : Hp) (kvs : List (Key × V)) (rows : List Mo.Row) : Prop := Paired (fun kv r => ∃ t, kv = rowKV r t ∧ ClauseT H t r) kvs rows
theorem ClauseT.mono {H H' : Hp} {t : Addr} {r : Mo.Row} (c : ClauseT H t r) (s : ∀ b xs, H b = some (.tup xs) → H' b = some (.tup xs)) : ClauseT H' t r := by
  obtain ⟨pb, h1, h2⟩ := c
  exact ⟨pb, s _ _ h1, s _ _ h2⟩
theorem RowsD.mono {H H' : Hp} {kvs : List (Key × V)} {rows : List Mo.Row} (c : RowsD H kvs rows) (s : ∀ b xs, H b = some (.tup xs) → H' b = some (.tup xs)) : RowsD H' kvs rows :=
  paired_imp (fun kv r ⟨t, e, h⟩ => ⟨t, e, h.mono s⟩) c
theorem RowsD.keys {H : Hp} : ∀ {kvs : List (Key × V)} {rows : List Mo.Row}, RowsD H kvs rows → kvs.map (·.1) = (rows.map fun r => str r.name).map (Sum.inr : Str → Key)
  | _, _, .nil => rfl
  | _, _, .cons (a := kv) (b := r) h t => by
    obtain ⟨t0, e, _⟩ := h
    rw [List.map_cons, List.map_cons, List.map_cons, RowsD.keys t, e]
    rfl
theorem RowsD.val {H : Hp} : ∀ {kvs : List (Key × V)} {rows : List Mo.Row} {r : Mo.Row}, RowsD H kvs rows → (rows.map Mo.Row.name).Nodup → r ∈ rows → ∃ t, valV kvs (.inr (str r.name)) = some (.ref t) ∧ ClauseT H t r
  | _, _, r, .nil, _, h => by cases h
  | _, _, r, .cons (a := kv) (b := q) h t, nd, hr => by
    obtain ⟨t0, e, hc⟩ := h
    subst e
    rw [List.map_cons, List.nodup_cons] at nd
    rcases List.mem_cons.mp hr with rfl | hr
    · exact ⟨t0, valV_pos (p := rowKV r t0) rfl, hc⟩
    · have hne : ¬ (rowKV q t0).1 = (.inr (str r.name) : Key) := fun z => by
        have : q.name = r.name := str_inj (Sum.inr.inj z)
        exact nd.1 (by rw [this]; exact List.mem_map.mpr ⟨r, hr, rfl⟩)
      rw [valV_neg hne]
      exact RowsD.val t nd.2 hr
def atomKV (n : List Nat) : Key × V := (.inr (str n), .bl true)
theorem atom_keys (ns : List (List Nat)) : (ns.map atomKV).map (·.1) = (ns.map str).map (Sum.inr : Str → Key) := by
  rw [List.map_map, List.map_map]; rfl
theorem body_one (a : List (List Nat)) (l : Mo.Lit) : Jb.bodyNo a [l] = 2 ^ Jb.litNo a l := by
  unfold Jb.bodyNo
  show 0 ||| 2 ^ _ = _
  rw [Nat.zero_or]
theorem rows_rising {l : List Mo.Row} (h : Jb.RisingR l) : Jb.Rising (l.map Mo.Row.name) := List.pairwise_map.mpr h
section
variable {P : Program} {w : World} {K : PySem.W.Frag} {mg : Str → Option Value} {base : Heap}
structure CaseD (H : Hp) (aA aL aR : Addr) (c : Mo.Case) : Prop where
  ex : ∃ ns kL kR, H aA = some (.dK (List.map atomKV ns)) ∧ ns.Nodup ∧ (∀ x, x ∈ ns ↔ x ∈ c.atoms) ∧ H aL = some (.dK kL) ∧ RowsD H kL c.laws ∧ H aR = some (.dK kR) ∧ RowsD H kR c.rules
  ndl : (c.laws.map Mo.Row.name).Nodup
  ndr : (c.rules.map Mo.Row.name).Nodup
  ok : ∀ r, r ∈ c.laws ∨ r ∈ c.rules → Jb.RowOk r
  nl : c.laws.length ≤ 1000
  nr : c.rules.length ≤ 1000
  na : c.atoms.length ≤ 1000
def spNumberCase (C : Addr) : Sp := fun vs H Q _ => ∃ (aA aL aR : Addr) (c : Mo.Case), vs = [.ref aA, .ref aL, .ref aR] ∧ CaseD H aA aL aR c ∧ ∀ H' q, Same H H' → H q = none → CaseAt C H' q c.atoms c.form.numbered → Q (.ref q) H'
theorem scNumberCase : FnScope ["atoms", "laws", "rules", "ordered", "numbers", "number", "atom", "numbered_laws", "name", "clause", "numbered_rules", "own"] ["atoms", "laws", "rules"] (defScope sNumberCase) := ⟨rfl, rfl, rfl, by decide +kernel, rfl, by decide +kernel, by decide +kernel⟩
theorem ok_number_case {C : Addr} (B : Bl mg) (MC : Maker P w K mg base "Case" C 1 ["self", "atoms", "laws", "rules"] (spCaseInit C)) (h1 : Has P w K mg base 4 "literal_set" ["numbers", "literals"] (spLitSet K)) (D : Def K mg "number_case" sNumberCase ["atoms", "laws", "rules"]) :
    Has P w K mg base 5 "number_case" ["atoms", "laws", "rules"] (spNumberCase C) := by
  refine D.has scNumberCase (fun vs H Q E h => ?_) (fun f cdv A outer s H vs Q E hr h => ?_)
  · obtain ⟨aA, aL, aR, c, rfl, _⟩ := h
    rfl
  · obtain ⟨aA, aL, aR, c, rfl, cd, qq⟩ := h
    obtain ⟨ns, kL, kR, g1, g2, g3, g4, g5, g6, g7⟩ := cd.ex
    have hu := hu_of hr
    refine ⟨_, pss_cons (ps_set (i := 3) scNumberCase.nd rfl (Or.inl rfl) (pe_callB (cr_sortedD rfl) (by rfl) B.sorted boot_sorted (pa_cons (pv 0) pa_nil)))
      (pss_cons (ps_set (i := 4) scNumberCase.nd rfl (Or.inl rfl) pe_dnewK)
      (pss_cons (ps_for PassesOwn.never rfl (pi_enum (by rfl) B.enum (pa_cons (pv 3) pa_nil)) (pg_tup rfl (pgs_cons (pg_name (i := 5) scNumberCase.nd rfl (Or.inl rfl)) (pgs_cons (pg_name (i := 6) scNumberCase.nd rfl (Or.inl rfl)) pgs_nil)))
        (pss_one (ps_dput hu (pv 4) (pv 6) (pv 5) rfl)))
      (pss_cons (ps_set (i := 7) scNumberCase.nd rfl (Or.inl rfl) (pe_lst pa_nil))
      (pss_cons (ps_for PassesOwn.never rfl (pi_list (pe_callB (cr_sortedD rfl) (by rfl) B.sorted boot_sorted (pa_cons (pv 1) pa_nil))) (pg_name (i := 8) scNumberCase.nd rfl (Or.inl rfl))
        (pss_cons (ps_set (i := 9) scNumberCase.nd rfl (Or.inl rfl) (pe_dget hu (pv 1) (pv 8) (fun _ _ => rfl)))
        (pss_one (ps_expr (pe_bm PySem.F.plainAttrs_list PySem.F.slot_list_append PySem.F.type_list_append mt_append (pv 7) (pa_cons (pe_tup
          (pa_cons (pe_callH h1 hr (pa_cons (pv 4) (pa_cons (pe_ix ix_tup (pv 9) pe_int (fun _ _ => rfl)) pa_nil)))
          (pa_cons (pe_callH h1 hr (pa_cons (pv 4) (pa_cons (pe_lst (pa_cons (pe_ix ix_tup (pv 9) pe_int (fun _ _ => rfl)) pa_nil)) pa_nil))) pa_nil))) pa_nil))))))
      (pss_cons (ps_set (i := 10) scNumberCase.nd rfl (Or.inl rfl) (pe_lst pa_nil))
      (pss_cons (ps_for PassesOwn.never rfl (pi_list (pe_callB (cr_sortedD rfl) (by rfl) B.sorted boot_sorted (pa_cons (pv 2) pa_nil))) (pg_name (i := 8) scNumberCase.nd rfl (Or.inl rfl))
        (pss_cons (ps_set (i := 9) scNumberCase.nd rfl (Or.inl rfl) (pe_dget hu (pv 2) (pv 8) (fun _ _ => rfl)))
        (pss_cons (ps_set (i := 11) scNumberCase.nd rfl (Or.inl rfl) (pe_callH h1 hr (pa_cons (pv 4) (pa_cons (pe_lst (pa_cons (pv 8) pa_nil)) pa_nil))))
        (pss_one (ps_expr (pe_bm PySem.F.plainAttrs_list PySem.F.slot_list_append PySem.F.type_list_append mt_append (pv 10) (pa_cons (pe_tup
          (pa_cons (pv 11)
          (pa_cons (pe_callH h1 hr (pa_cons (pv 4) (pa_cons (pe_ix ix_tup (pv 9) pe_int (fun _ _ => rfl)) pa_nil)))
          (pa_cons (pe_callH h1 hr (pa_cons (pv 4) (pa_cons (pe_lst (pa_cons (pe_ix ix_tup (pv 9) pe_int (fun _ _ => rfl)) pa_nil)) pa_nil))) pa_nil)))) pa_nil)))))))
      (pss_one (ps_ret (pe_makeH MC (hr.mono (by decide)) (pa_cons (pv 3) (pa_cons (pv 7) (pa_cons (pv 10) pa_nil))))))))))))
      , ?_⟩
    -- the atoms, in order
    refine ⟨_, rfl, aA, _, ns.map str, rfl, g1, atom_keys ns, fun ys pO hperm hsort hpO => ?_⟩
    have eys : ys = c.atoms.map str := sorted_is hperm hsort g2 (Jb.atoms_rising c) fun x => (g3 x).symm
    subst eys
    have s1 : Same H (upd H pO (.lst ((c.atoms.map str).map V.str))) := same_new hpO
    have o1 : (upd H pO (.lst ((c.atoms.map str).map V.str))) pO = some (.lst (c.atoms.map sV')) := by rw [upd_same, List.map_map]; rfl
    generalize upd H pO (.lst ((c.atoms.map str).map V.str)) = H1 at s1 o1 ⊢
    -- their numbers
    intro dN hdN
    have hdN0 : H dN = none := s1.free hdN
    have nOd : pO ≠ dN := ne_of_none o1 hdN
    refine ⟨_, rfl, pO, _, rfl, SqL.of (by rw [upd_ne nOd]; exact o1), ?_⟩
    refine for_enum (K := K) (a := pO) (xs := c.atoms.map sV') (fun i σ H2 => ∃ v5 v6, σ = [some (.ref aA), some (.ref aL), some (.ref aR), some (.ref pO), some (.ref dN), v5, v6, none, none, none, none, none] ∧ Same H H2 ∧ H2 pO = some (.lst (c.atoms.map sV')) ∧ H2 dN = some (.dK (numsD (c.atoms.take i))))
      ⟨none, none, rfl, Same.plus s1 hdN, by rw [upd_ne nOd]; exact o1, upd_same⟩ (fun i σ H2 _ ⟨_, _, _, _, h, _⟩ => SqL.of h) ?_ ?_
    · rintro i x σ H2 T hi ⟨v5, v6, rfl, t1, t2, t3⟩ hT
      rw [List.getElem?_map] at hi
      cases ei : c.atoms[i]? with
      | none => rw [ei] at hi; cases hi
      | some n =>
        rw [ei] at hi
        cases hi
        have hin := (List.getElem?_eq_some_iff.mp ei).1
        have ntd : dN ≠ T := ne_of_none t3 hT
        have t3' : (upd H2 T (.tup [.int (i : Nat), sV' n])) dN = some (.dK (numsD (c.atoms.take i))) := by rw [upd_ne ntd]; exact t3
        refine ⟨T, _, rfl, SqT.of upd_same, rfl, _, _, rfl, _, _, rfl, rfl, ?_⟩
        have hlen : (numsD (c.atoms.take i)).length < sizeLine := by
          unfold numsD
          rw [List.length_map, List.length_zipIdx, List.length_take]
          exact small1000 (Nat.le_trans (Nat.min_le_right _ _) cd.na)
        refine ⟨_, rfl, _, rfl, _, rfl, dN, _, rfl, DPut.k (k := Sum.inr (str n)) t3' hlen, ?_⟩
        refine ⟨some (.int (i : Nat)), some (sV' n), rfl, Same.own (Same.plus t1 hT) hdN0, ?_, ?_⟩
        · have npd : pO ≠ dN := ne_of t2 t3 (by intro z; cases z)
          rw [upd_ne npd, upd_ne (ne_of_none t2 hT)]; exact t2
        · rw [upd_same]
          have hno : valV (numsD (c.atoms.take i)) (.inr (str n) : Key) = none := by
            cases hv : valV (numsD (c.atoms.take i)) (.inr (str n) : Key) with
            | none => rfl
            | some v =>
              exfalso
              have hk := valV_in hv
              unfold numsD at hk
              rw [List.map_map] at hk
              obtain ⟨y, hy, e⟩ := List.mem_map.mp hk
              have e1 : y.1 = n := str_inj (Sum.inr.inj e)
              have hy2 := List.mem_zipIdx_iff_getElem?.mp (show (y.1, y.2) ∈ _ from hy)
              rw [e1] at hy2
              have hlt : y.2 < i := by
                have := (List.getElem?_eq_some_iff.mp hy2).1
                rw [List.length_take] at this; omega
              rw [List.getElem?_take_of_lt hlt] at hy2
              have := nd_ix (Jb.atoms_rising c).nodup hy2 ei
              omega
          rw [putK_new _ hno]
          congr 2
          unfold numsD
          have e2 : (c.atoms.take (i + 1)).zipIdx = (c.atoms.take i).zipIdx ++ [(n, i)] := by
            rw [List.take_add_one, ei, Option.toList_some, List.zipIdx_append]
            have : (c.atoms.take i).length = i := by rw [List.length_take]; omega
            rw [this]; simp
          rw [e2, List.map_append]
          rfl
    · rintro σ H2 ⟨v5, v6, rfl, t1, t2, t3⟩
      rw [List.length_map, List.take_length] at t3
      -- the laws
      have rowC : ∀ r, r ∈ c.laws ∨ r ∈ c.rules → (∀ l ∈ r.body, l.atom ∈ c.atoms ∧ Mo.isName l.atom = true) ∧ ∀ l ∈ [r.head], l.atom ∈ c.atoms ∧ Mo.isName l.atom = true := fun r hr => by
        obtain ⟨m1, m2⟩ := Jb.row_atoms (c := c) hr
        have ok := cd.ok r hr
        refine ⟨fun l hl => ⟨m2 l hl, ok.body l hl⟩, fun l hl => ?_⟩
        rw [List.mem_singleton.mp hl]
        exact ⟨m1, ok.head⟩
      refine ⟨by show 0 ≤ sizeLine; omega, fun lL hlL => ?_⟩
      have hlL0 : H lL = none := t1.free hlL
      have npL : pO ≠ lL := ne_of_none t2 hlL
      have u1 : Same H (upd H2 lL (.lst [])) := Same.plus t1 hlL
      have u2 : (upd H2 lL (.lst [])) pO = some (.lst (c.atoms.map sV')) := by rw [upd_ne (ne_of_none t2 hlL)]; exact t2
      have u3 : (upd H2 lL (.lst [])) dN = some (.dK (numsD c.atoms)) := by rw [upd_ne (ne_of_none t3 hlL)]; exact t3
      have u4 : (upd H2 lL (.lst [])) lL = some (.lst (([] : List Addr).map V.ref)) := upd_same
      generalize upd H2 lL (.lst []) = H3 at u1 u2 u3 u4 ⊢
      refine ⟨_, rfl, aL, kL, c.laws.map fun r => str r.name, rfl, u1 _ _ g4, g5.keys, fun ys pS hperm hsort hpS => ?_⟩
      have eys : ys = (c.form.laws.map Mo.Row.name).map str := by
        refine sorted_is (ns := c.laws.map Mo.Row.name) (by rw [List.map_map]; exact hperm) hsort cd.ndl (rows_rising (Jb.form_laws_rising cd.ndl)) fun x => ?_
        exact ((Jb.form_laws_perm c).map Mo.Row.name).mem_iff
      subst eys
      have hpS0 : H pS = none := u1.free hpS
      have nSL : pS ≠ lL := Ne.symm (ne_of_none u4 hpS)
      have keepS : ∀ b o, H3 b = some o → (upd H3 pS (.lst (((c.form.laws.map Mo.Row.name).map str).map V.str))) b = some o := fun b o e => by rw [upd_ne (ne_of_none e hpS)]; exact e
      refine ⟨pS, rfl, ⟨_, SqL.of upd_same⟩, ?_⟩
      refine for_list (K := K) (a := pS) (xs := ((c.form.laws.map Mo.Row.name).map str).map V.str) (fun i σ H4 => ∃ v8 v9 ps, σ = [some (.ref aA), some (.ref aL), some (.ref aR), some (.ref pO), some (.ref dN), v5, v6, some (.ref lL), v8, v9, none, none] ∧ Same H H4 ∧ H4 pO = some (.lst (c.atoms.map sV')) ∧ H4 dN = some (.dK (numsD c.atoms)) ∧ H4 lL = some (.lst (ps.map V.ref)) ∧
          H4 pS = some (.lst (((c.form.laws.map Mo.Row.name).map str).map V.str)) ∧ Paired (LawT H4) ps ((c.form.laws.take i).map (Jb.lawNo c.atoms)))
        ⟨none, none, [], rfl, Same.plus u1 hpS, keepS _ _ u2, keepS _ _ u3, keepS _ _ u4, upd_same, .nil⟩ (fun i σ H4 _ ⟨_, _, _, _, _, _, _, _, h, _⟩ => SqL.of h) ?_ ?_
      · rintro i x σ H4 hi ⟨v8, v9, ps, rfl, w1, w2, w3, w4, w5, w6⟩
        rw [List.map_map, List.map_map, List.getElem?_map] at hi
        cases er : c.form.laws[i]? with
        | none => rw [er] at hi; cases hi
        | some r =>
          rw [er] at hi
          obtain rfl : x = sV r.name := (Option.some.inj hi).symm
          have hrl : r ∈ c.laws := (Jb.form_laws_perm c).mem_iff.mp (List.mem_of_getElem? er)
          obtain ⟨cb, ch⟩ := rowC r (.inl hrl)
          obtain ⟨t, hv, pb, ht, hpb⟩ := g5.val cd.ndl hrl
          have ht4 := w1 _ _ ht
          have hpb4 := w1 _ _ hpb
          have hdg : DGet H4 aL (kV (.inr (str r.name))) (some (.ref t)) := by
            have := DGet.k (k := .inr (str r.name)) (w1 _ _ g4)
            rw [hv] at this
            exact this
          refine ⟨_, rfl, _, rfl, aL, .ref t, rfl, hdg, ?_⟩
          refine ⟨_, rfl, .inl ⟨rfl, _, SqL.of w4⟩, _, rfl, _, rfl, t, _, 0, .ref pb, rfl, rfl, SqT.of ht4, atI_nat (j := 0) rfl, dN, pb, c.atoms, r.body, rfl, w3, .inr (SqT.of hpb4), cd.na, cb, ?_⟩
          refine ⟨_, rfl, _, rfl, t, _, 1, litV r.head, rfl, rfl, SqT.of ht4, atI_nat (j := 1) rfl, by show 1 ≤ sizeLine; decide, fun p1 hp1 => ?_⟩
          have keep1 : ∀ b o, H4 b = some o → (upd H4 p1 (.lst [litV r.head])) b = some o := fun b o e => by rw [upd_ne (ne_of_none e hp1)]; exact e
          refine ⟨dN, p1, c.atoms, [r.head], rfl, keep1 _ _ w3, .inl (SqL.of upd_same), cd.na, ch, by show 2 ≤ sizeLine; decide, fun t2 ht2 => ?_⟩
          rw [body_one]
          have hp1' : (upd H4 p1 (.lst [litV r.head])) p1 = some (.lst [litV r.head]) := upd_same
          generalize upd H4 p1 (.lst [litV r.head]) = H5 at keep1 ht2 ⊢
          have keep2 : ∀ b o, H4 b = some o → (upd H5 t2 (.tup [nV (Jb.bodyNo c.atoms r.body), nV (2 ^ Jb.litNo c.atoms r.head)])) b = some o := fun b o e => by
            have e := keep1 b o e
            rw [upd_ne (ne_of_none e ht2)]; exact e
          have hn2 : H4 t2 = none := by
            cases z : H4 t2 with
            | none => rfl
            | some o => rw [keep1 _ _ z] at ht2; cases ht2
          have htt : (upd H5 t2 (.tup [nV (Jb.bodyNo c.atoms r.body), nV (2 ^ Jb.litNo c.atoms r.head)])) t2 = some (.tup [nV (Jb.bodyNo c.atoms r.body), nV (2 ^ Jb.litNo c.atoms r.head)]) := upd_same
          generalize upd H5 t2 (.tup [nV (Jb.bodyNo c.atoms r.body), nV (2 ^ Jb.litNo c.atoms r.head)]) = H6 at keep2 htt ⊢
          have ntl : t2 ≠ lL := Ne.symm (ne_of_none w4 hn2)
          refine ⟨lL, _, _, rfl, rfl, keep2 _ _ w4, ?_, ?_⟩
          · rw [List.length_map, paired_len w6, List.length_map, List.length_take]
            have := (Jb.form_laws_perm c).length_eq
            have := cd.nl
            exact small1000 (by omega)
          · have keep3 : ∀ b o, b ≠ lL → H4 b = some o → (upd H6 lL (.lst (ps.map V.ref ++ [V.ref t2]))) b = some o := fun b o hb e => by rw [upd_ne hb]; exact keep2 b o e
            refine ⟨some (sV r.name), some (V.ref t), ps ++ [t2], rfl, fun b o e => ?_, ?_, ?_, ?_, ?_, ?_⟩
            · exact keep3 b o (ne_of_none e hlL0) (w1 b o e)
            · exact keep3 _ _ npL w2
            · exact keep3 _ _ (ne_of w3 w4 (by intro z; cases z)) w3
            · rw [upd_same, List.map_append]; rfl
            · exact keep3 _ _ nSL w5
            · rw [List.take_add_one, er, Option.toList_some, List.map_append]
              refine paired_app (paired_imp (fun p y h => ?_) w6) (.cons ?_ .nil)
              · have h : H4 p = some (.tup [nV y.1, nV (2 ^ y.2)]) := h
                exact keep3 _ _ (ne_of h w4 (by intro z; cases z)) h
              · show (upd H6 lL _) t2 = _
                rw [upd_ne ntl]; exact htt
      · rintro σ H4 ⟨v8, v9, ps, rfl, w1, w2, w3, w4, _, w6⟩
        have el : (((c.form.laws.map Mo.Row.name).map str).map V.str).length = c.form.laws.length := by simp
        rw [el, List.take_length] at w6
        -- the rules
        refine ⟨by show 0 ≤ sizeLine; omega, fun lR hlR => ?_⟩
        have hlR0 : H lR = none := w1.free hlR
        have npR : pO ≠ lR := ne_of_none w2 hlR
        have nLR : lL ≠ lR := ne_of_none w4 hlR
        have u1 : Same H (upd H4 lR (.lst [])) := Same.plus w1 hlR
        have u2 : (upd H4 lR (.lst [])) pO = some (.lst (c.atoms.map sV')) := by rw [upd_ne npR]; exact w2
        have u3 : (upd H4 lR (.lst [])) dN = some (.dK (numsD c.atoms)) := by rw [upd_ne (ne_of_none w3 hlR)]; exact w3
        have u4 : (upd H4 lR (.lst [])) lR = some (.lst (([] : List Addr).map V.ref)) := upd_same
        have u5 : (upd H4 lR (.lst [])) lL = some (.lst (ps.map V.ref)) := by rw [upd_ne nLR]; exact w4
        have u6 : Paired (LawT (upd H4 lR (.lst []))) ps (c.form.laws.map (Jb.lawNo c.atoms)) := paired_imp (fun p y h => by
          have h : H4 p = some (.tup [nV y.1, nV (2 ^ y.2)]) := h
          show (upd H4 lR (.lst [])) p = _
          rw [upd_ne (ne_of_none h hlR)]; exact h) w6
        generalize upd H4 lR (.lst []) = H5 at u1 u2 u3 u4 u5 u6 ⊢
        refine ⟨_, rfl, aR, kR, c.rules.map fun r => str r.name, rfl, u1 _ _ g6, g7.keys, fun ys pS hperm hsort hpS => ?_⟩
        have eys : ys = (c.form.rules.map Mo.Row.name).map str := by
          refine sorted_is (ns := c.rules.map Mo.Row.name) (by rw [List.map_map]; exact hperm) hsort cd.ndr (rows_rising (Jb.form_rules_rising cd.ndr)) fun x => ?_
          exact ((Jb.form_rules_perm c).map Mo.Row.name).mem_iff
        subst eys
        have hpS0 : H pS = none := u1.free hpS
        have nSR : pS ≠ lR := Ne.symm (ne_of_none u4 hpS)
        have keepS : ∀ b o, H5 b = some o → (upd H5 pS (.lst (((c.form.rules.map Mo.Row.name).map str).map V.str))) b = some o := fun b o e => by rw [upd_ne (ne_of_none e hpS)]; exact e
        refine ⟨pS, rfl, ⟨_, SqL.of upd_same⟩, ?_⟩
        refine for_list (K := K) (a := pS) (xs := ((c.form.rules.map Mo.Row.name).map str).map V.str) (fun i σ H6 => ∃ v8 v9 v11 rs, σ = [some (.ref aA), some (.ref aL), some (.ref aR), some (.ref pO), some (.ref dN), v5, v6, some (.ref lL), v8, v9, some (.ref lR), v11] ∧ Same H H6 ∧ H6 pO = some (.lst (c.atoms.map sV')) ∧ H6 dN = some (.dK (numsD c.atoms)) ∧ H6 lR = some (.lst (rs.map V.ref)) ∧
            H6 pS = some (.lst (((c.form.rules.map Mo.Row.name).map str).map V.str)) ∧ Paired (RuleT H6) rs ((c.form.rules.take i).map (Jb.ruleNo c.atoms)) ∧ H6 lL = some (.lst (ps.map V.ref)) ∧ Paired (LawT H6) ps (c.form.laws.map (Jb.lawNo c.atoms)))
          ⟨v8, v9, none, [], rfl, Same.plus u1 hpS, keepS _ _ u2, keepS _ _ u3, keepS _ _ u4, upd_same, .nil, keepS _ _ u5, paired_imp (fun p y h => keepS _ _ h) u6⟩ (fun i σ H6 _ ⟨_, _, _, _, _, _, _, _, _, h, _⟩ => SqL.of h) ?_ ?_
        · rintro i x σ H6 hi ⟨v8, v9, v11, rs, rfl, w1, w2, w3, w4, w5, w6, w7, w8⟩
          rw [List.map_map, List.map_map, List.getElem?_map] at hi
          cases er : c.form.rules[i]? with
          | none => rw [er] at hi; cases hi
          | some r =>
            rw [er] at hi
            obtain rfl : x = sV r.name := (Option.some.inj hi).symm
            have hrl : r ∈ c.rules := (Jb.form_rules_perm c).mem_iff.mp (List.mem_of_getElem? er)
            obtain ⟨cb, ch⟩ := rowC r (.inr hrl)
            have co : ∀ l ∈ [(⟨r.name, false⟩ : Mo.Lit)], l.atom ∈ c.atoms ∧ Mo.isName l.atom = true := fun l hl => by
              rw [List.mem_singleton.mp hl]
              exact ⟨Jb.rule_atom hrl, (cd.ok r (.inr hrl)).name⟩
            obtain ⟨t, hv, pb, ht, hpb⟩ := g7.val cd.ndr hrl
            have ht4 := w1 _ _ ht
            have hpb4 := w1 _ _ hpb
            have hdg : DGet H6 aR (kV (.inr (str r.name))) (some (.ref t)) := by
              have := DGet.k (k := .inr (str r.name)) (w1 _ _ g6)
              rw [hv] at this
              exact this
            refine ⟨_, rfl, _, rfl, aR, .ref t, rfl, hdg, ?_⟩
            refine ⟨_, rfl, _, rfl, by show 1 ≤ sizeLine; decide, fun p0 hp0 => ?_⟩
            have keep0 : ∀ b o, H6 b = some o → (upd H6 p0 (.lst [sV r.name])) b = some o := fun b o e => by rw [upd_ne (ne_of_none e hp0)]; exact e
            refine ⟨dN, p0, c.atoms, [⟨r.name, false⟩], rfl, keep0 _ _ w3, .inl (SqL.of upd_same), cd.na, co, ?_⟩
            rw [body_one]
            generalize upd H6 p0 (.lst [sV r.name]) = H7 at keep0 ⊢
            refine ⟨_, rfl, .inl ⟨rfl, _, SqL.of (keep0 _ _ w4)⟩, _, rfl, _, rfl, _, rfl, t, _, 0, .ref pb, rfl, rfl, SqT.of (keep0 _ _ ht4), atI_nat (j := 0) rfl, dN, pb, c.atoms, r.body, rfl, keep0 _ _ w3, .inr (SqT.of (keep0 _ _ hpb4)), cd.na, cb, ?_⟩
            refine ⟨_, rfl, _, rfl, t, _, 1, litV r.head, rfl, rfl, SqT.of (keep0 _ _ ht4), atI_nat (j := 1) rfl, by show 1 ≤ sizeLine; decide, fun p1 hp1 => ?_⟩
            have keep1 : ∀ b o, H6 b = some o → (upd H7 p1 (.lst [litV r.head])) b = some o := fun b o e => by
              have e := keep0 b o e
              rw [upd_ne (ne_of_none e hp1)]; exact e
            refine ⟨dN, p1, c.atoms, [r.head], rfl, keep1 _ _ w3, .inl (SqL.of upd_same), cd.na, ch, by show 3 ≤ sizeLine; decide, fun t2 ht2 => ?_⟩
            rw [body_one]
            generalize upd H7 p1 (.lst [litV r.head]) = H8 at keep1 ht2 ⊢
            have keep2 : ∀ b o, H6 b = some o → (upd H8 t2 (.tup [nV (2 ^ Jb.litNo c.atoms ⟨r.name, false⟩), nV (Jb.bodyNo c.atoms r.body), nV (2 ^ Jb.litNo c.atoms r.head)])) b = some o := fun b o e => by
              have e := keep1 b o e
              rw [upd_ne (ne_of_none e ht2)]; exact e
            have hn2 : H6 t2 = none := by
              cases z : H6 t2 with
              | none => rfl
              | some o => rw [keep1 _ _ z] at ht2; cases ht2
            have htt : (upd H8 t2 (.tup [nV (2 ^ Jb.litNo c.atoms ⟨r.name, false⟩), nV (Jb.bodyNo c.atoms r.body), nV (2 ^ Jb.litNo c.atoms r.head)])) t2 = some (.tup [nV (2 ^ Jb.litNo c.atoms ⟨r.name, false⟩), nV (Jb.bodyNo c.atoms r.body), nV (2 ^ Jb.litNo c.atoms r.head)]) := upd_same
            generalize upd H8 t2 (.tup [nV (2 ^ Jb.litNo c.atoms ⟨r.name, false⟩), nV (Jb.bodyNo c.atoms r.body), nV (2 ^ Jb.litNo c.atoms r.head)]) = H9 at keep2 htt ⊢
            have ntl : t2 ≠ lR := Ne.symm (ne_of_none w4 hn2)
            refine ⟨lR, _, _, rfl, rfl, keep2 _ _ w4, ?_, ?_⟩
            · rw [List.length_map, paired_len w6, List.length_map, List.length_take]
              have := (Jb.form_rules_perm c).length_eq
              have := cd.nr
              exact small1000 (by omega)
            · have keep3 : ∀ b o, b ≠ lR → H6 b = some o → (upd H9 lR (.lst (rs.map V.ref ++ [V.ref t2]))) b = some o := fun b o hb e => by rw [upd_ne hb]; exact keep2 b o e
              refine ⟨some (sV r.name), some (V.ref t), some (nV (2 ^ Jb.litNo c.atoms ⟨r.name, false⟩)), rs ++ [t2], rfl, fun b o e => ?_, ?_, ?_, ?_, ?_, ?_, ?_, ?_⟩
              · exact keep3 b o (ne_of_none e hlR0) (w1 b o e)
              · exact keep3 _ _ npR w2
              · exact keep3 _ _ (ne_of w3 w4 (by intro z; cases z)) w3
              · rw [upd_same, List.map_append]; rfl
              · exact keep3 _ _ nSR w5
              · rw [List.take_add_one, er, Option.toList_some, List.map_append]
                refine paired_app (paired_imp (fun p y h => ?_) w6) (.cons ?_ .nil)
                · have h : H6 p = some (.tup [nV (2 ^ y.1), nV y.2.1, nV (2 ^ y.2.2)]) := h
                  exact keep3 _ _ (ne_of h w4 (by intro z; cases z)) h
                · show (upd H9 lR _) t2 = _
                  rw [upd_ne ntl]; exact htt
              · exact keep3 _ _ nLR w7
              · refine paired_imp (fun p y h => ?_) w8
                have h : H6 p = some (.tup [nV y.1, nV (2 ^ y.2)]) := h
                exact keep3 _ _ (ne_of h w4 (by intro z; cases z)) h
        · rintro σ H6 ⟨v8, v9, v11, rs, rfl, w1, w2, w3, w4, _, w6, w7, w8⟩
          have el : (((c.form.rules.map Mo.Row.name).map str).map V.str).length = c.form.rules.length := by simp
          rw [el, List.take_length] at w6
          refine ⟨_, rfl, _, rfl, _, rfl, fun x dx nx ndx nex => ⟨x, dx, .ref pO, .ref lL, .ref lR, rfl, upd_same, rfl, ?_⟩⟩
          rw [upd_upd]
          have keepM : ∀ b o, H6 b = some o → (upd (upd H6 dx (.own x)) x (.ins C dx (caseF (.ref pO) (.ref lL) (.ref lR)))) b = some o := same_made nx ndx
          refine qq _ x (fun b o e => keepM b o (w1 b o e)) (w1.free nx) ⟨dx, pO, lL, lR, ps, rs, upd_same, keepM _ _ w2, ?_, keepM _ _ w7, keepM _ _ w4, ?_, ?_⟩
          · rw [Jb.form_numbered]
          · rw [Jb.form_numbered]
            exact paired_imp (fun p y h => keepM _ _ h) w8
          · rw [Jb.form_numbered]
            exact paired_imp (fun p y h => keepM _ _ h) w6
end
end L2.Jp
end Jp9_
section Jp10_
namespace L2.Jp
open PySem PySem.Spec PyProof.Rows L2 TL L2.JX
def draftF (l r a w : V) : List (Str × V) := putF "rows" w (putF "atoms" a (putF "rules" r (putF "laws" l [])))
theorem draftF_laws (l r a w : V) : (draftF l r a w).lookup ("laws" : Str) = some l := by
  unfold draftF
  rw [lookup_putF, if_neg (by decide +kernel), lookup_putF, if_neg (by decide +kernel), lookup_putF, if_neg (by decide +kernel), lookup_putF, if_pos rfl]
theorem draftF_rules (l r a w : V) : (draftF l r a w).lookup ("rules" : Str) = some r := by
  unfold draftF
  rw [lookup_putF, if_neg (by decide +kernel), lookup_putF, if_neg (by decide +kernel), lookup_putF, if_pos rfl]
theorem draftF_atoms (l r a w : V) : (draftF l r a w).lookup ("atoms" : Str) = some a := by
  unfold draftF
  rw [lookup_putF, if_neg (by decide +kernel), lookup_putF, if_pos rfl]
theorem draftF_rows (l r a w : V) : (draftF l r a w).lookup ("rows" : Str) = some w := by
  unfold draftF
  rw [lookup_putF, if_pos rfl]
theorem draftF_len (l r a w : V) : (draftF l r a w).length < 1000 := Nat.lt_of_le_of_lt (putF_lt (n := 3) (putF_lt (n := 2) (putF_lt (n := 1) (putF_lt (n := 0) (Nat.le_refl _))))) (by decide)
structure DraftC (K : PySem.W.Frag) (D : Addr) : Prop where
  cl : Cls K D
  nL : NoAttr K D "laws"
  nR : NoAttr K D "rules"
  nA : NoAttr K D "atoms"
  nW : NoAttr K D "rows"
def litP (l : Mo.Lit) : PyData := .str (str (Jb.litBytes l))
def rowP (r : Mo.Row) : PyData := .tuple [.tuple (r.body.map litP), litP r.head]
theorem eqv_lit {l m : Mo.Lit} (hl : Mo.isName l.atom = true) (hm : Mo.isName m.atom = true) : PyData.eqv (litP l) (litP m) = decide (l = m) := by
  show (str (Jb.litBytes l) == str (Jb.litBytes m)) = _
  rw [Bool.eq_iff_iff, beq_iff_eq, decide_eq_true_eq]
  constructor
  · exact fun h => Jb.litBytes_inj hl hm (str_inj h)
  · rintro rfl; rfl
theorem eqv_body : ∀ {a b : List Mo.Lit}, (∀ l ∈ a, Mo.isName l.atom = true) → (∀ l ∈ b, Mo.isName l.atom = true) → PyData.eqvAll (a.map litP) (b.map litP) = decide (a = b)
  | [], [], _, _ => rfl
  | [], _ :: _, _, _ => rfl
  | _ :: _, [], _, _ => rfl
  | x :: a, y :: b, ha, hb => by
    show (PyData.eqv (litP x) (litP y) && PyData.eqvAll (a.map litP) (b.map litP)) = _
    rw [eqv_lit (ha x List.mem_cons_self) (hb y List.mem_cons_self), eqv_body (fun l h => ha l (List.mem_cons_of_mem _ h)) fun l h => hb l (List.mem_cons_of_mem _ h), Bool.eq_iff_iff]
    simp
theorem eqv_row {r q : Mo.Row} (hr : Jb.RowOk r) (hq : Jb.RowOk q) : PyData.eqv (rowP q) (rowP r) = Mo.sameRow r q := by
  show (PyData.eqvAll (q.body.map litP) (r.body.map litP) && (PyData.eqv (litP q.head) (litP r.head) && true)) = _
  rw [eqv_body hq.body hr.body, eqv_lit hq.head hr.head, Bool.and_true]
  unfold Mo.sameRow
  rw [Bool.eq_iff_iff]
  simp only [Bool.and_eq_true, decide_eq_true_eq, beq_iff_eq]
  exact ⟨fun h => ⟨h.1.symm, h.2.symm⟩, fun h => ⟨h.1.symm, h.2.symm⟩⟩
theorem lit_canLay {l : Mo.Lit} (h : Mo.isName l.atom = true) : (litP l).canLay0 = true := by
  have hs : ∀ c ∈ Jb.litBytes l, c ∈ Jb.sgs := Jb.lit_signs (Jb.litOf_bytes h)
  have hb : ∀ c ∈ Jb.sgs, c < 0x110000 := by decide
  show (str (Jb.litBytes l)).cps.all (· < 0x110000) = true
  rw [← Array.all_toList]
  exact List.all_eq_true.mpr fun c hc => decide_eq_true (hb c (hs c hc))
theorem lits_canLay : ∀ {ls : List Mo.Lit}, (∀ l ∈ ls, Mo.isName l.atom = true) → PyData.canLayAll0 (ls.map litP) = true
  | [], _ => rfl
  | l :: ls, h => by
    show ((litP l).canLay0 && PyData.canLayAll0 (ls.map litP)) = true
    rw [lit_canLay (h l List.mem_cons_self), lits_canLay fun x hx => h x (List.mem_cons_of_mem _ hx)]; rfl
theorem lits_depth : ∀ ls : List Mo.Lit, PyData.depthAll (ls.map litP) = 0
  | [] => rfl
  | l :: ls => by
    show max (PyData.depth (litP l)) (PyData.depthAll (ls.map litP)) = 0
    rw [lits_depth ls]; rfl
theorem row_shaped {r : Mo.Row} (h : Jb.RowOk r) : (rowP r).canLay0 = true ∧ (rowP r).depth = 2 := by
  constructor
  · show (PyData.canLayAll0 (r.body.map litP) && ((litP r.head).canLay0 && true)) = true
    rw [lits_canLay h.body, lit_canLay h.head]; rfl
  · show max (PyData.depthAll (r.body.map litP) + 1) (max (PyData.depth (litP r.head)) 0) + 1 = 2
    rw [lits_depth]; rfl
theorem rows_canLay : ∀ {rs : List Mo.Row}, (∀ r ∈ rs, Jb.RowOk r) → PyData.canLayAll0 (rs.map rowP) = true ∧ PyData.depthAll (rs.map rowP) ≤ 2
  | [], _ => ⟨rfl, by decide⟩
  | r :: rs, h => by
    obtain ⟨h1, h2⟩ := row_shaped (h r List.mem_cons_self)
    obtain ⟨i1, i2⟩ := rows_canLay (rs := rs) fun x hx => h x (List.mem_cons_of_mem _ hx)
    constructor
    · show ((rowP r).canLay0 && PyData.canLayAll0 (rs.map rowP)) = true
      rw [h1, i1]; rfl
    · show max (PyData.depth (rowP r)) (PyData.depthAll (rs.map rowP)) ≤ 2
      rw [h2]; omega
theorem row_sh {r : Mo.Row} (h : Jb.RowOk r) : SeqAt.shaped (rowP r) = true := by
  obtain ⟨h1, h2⟩ := row_shaped h
  unfold SeqAt.shaped
  rw [h1, h2]; rfl
theorem rows_sh {rs : List Mo.Row} (h : ∀ r ∈ rs, Jb.RowOk r) : SeqAt.shaped (.list (rs.map rowP)) = true := by
  obtain ⟨h1, h2⟩ := rows_canLay h
  unfold SeqAt.shaped
  show (PyData.canLayAll0 (rs.map rowP) && decide (PyData.depthAll (rs.map rowP) + 1 ≤ 64)) = true
  rw [h1, decide_eq_true (by omega)]; rfl
theorem dp_lits {K : PySem.W.Frag} {H : Hp} : ∀ ls : List Mo.Lit, DpAll K H (ls.map litV) (ls.map litP)
  | [] => .nil
  | l :: ls => .cons (.str _) (dp_lits ls)
theorem dp_row {K : PySem.W.Frag} {H : Hp} {t : Addr} {r : Mo.Row} (h : ClauseT H t r) : Dp K H (.ref t) (rowP r) := by
  obtain ⟨pb, h1, h2⟩ := h
  exact .tup (SqT.of h1) (.cons (.tup (SqT.of h2) (dp_lits _)) (.cons (.str _) .nil))
theorem dp_rows {K : PySem.W.Frag} {H : Hp} : ∀ {kvs : List (Key × V)} {rows : List Mo.Row}, RowsD H kvs rows → DpAll K H (kvs.map (·.2)) (rows.map rowP)
  | _, _, .nil => .nil
  | _, _, .cons (a := kv) (b := r) h t => by
    obtain ⟨t0, e, hc⟩ := h
    subst e
    exact .cons (dp_row hc) (dp_rows t)
theorem any_rows {r : Mo.Row} (hr : Jb.RowOk r) : ∀ {rows : List Mo.Row}, (∀ q ∈ rows, Jb.RowOk q) → ((rows.map rowP).any fun e => PyData.eqv e (rowP r)) = rows.any (Mo.sameRow r)
  | [], _ => rfl
  | q :: rows, h => by
    rw [List.map_cons, List.any_cons, List.any_cons, eqv_row hr (h q List.mem_cons_self), any_rows hr fun x hx => h x (List.mem_cons_of_mem _ hx)]
def addN (ns : List (List Nat)) (n : List Nat) : List (List Nat) := if n ∈ ns then ns else ns ++ [n]
theorem addN_mem (ns : List (List Nat)) (n x : List Nat) : x ∈ addN ns n ↔ x ∈ ns ∨ x = n := by
  unfold addN
  split
  · rename_i h
    constructor
    · exact .inl
    · rintro (q | rfl)
      · exact q
      · exact h
  · simp
theorem addN_nodup {ns : List (List Nat)} {n : List Nat} (h : ns.Nodup) : (addN ns n).Nodup := by
  unfold addN
  split
  · exact h
  · rename_i hn
    exact Jb.nd_snoc' h hn
theorem addN_len (ns : List (List Nat)) (n : List Nat) : (addN ns n).length ≤ ns.length + 1 := by
  unfold addN
  split <;> simp
theorem put_atom (ns : List (List Nat)) (n : List Nat) : putK (ns.map atomKV) (.inr (str n)) (.bl true) = (addN ns n).map atomKV := by
  unfold putK
  have hany : ((ns.map atomKV).any fun kv => decide (kv.1 = (.inr (str n) : Key))) = true ↔ n ∈ ns := by
    rw [List.any_eq_true]
    constructor
    · rintro ⟨kv, hkv, e⟩
      obtain ⟨m, hm, rfl⟩ := List.mem_map.mp hkv
      have : m = n := str_inj (Sum.inr.inj (of_decide_eq_true e))
      rw [← this]; exact hm
    · intro h
      exact ⟨atomKV n, List.mem_map.mpr ⟨n, h, rfl⟩, decide_eq_true rfl⟩
  unfold addN
  by_cases h : n ∈ ns
  · rw [if_pos (hany.mpr h), if_pos h, List.map_map]
    apply List.map_congr_left
    intro m _
    show (if (atomKV m).1 = (.inr (str n) : Key) then ((atomKV m).1, V.bl true) else atomKV m) = atomKV m
    split <;> rfl
  · rw [if_neg (fun z => h (hany.mp z)), if_neg h, List.map_append]
    rfl
theorem keys_in {H : Hp} {kvs : List (Key × V)} {rows : List Mo.Row} (h : RowsD H kvs rows) (n : List Nat) : (valV kvs (.inr (str n) : Key)).isSome = true ↔ n ∈ rows.map Mo.Row.name := by
  have hk := h.keys
  constructor
  · intro z
    obtain ⟨v, hv⟩ := Option.isSome_iff_exists.mp z
    have hm := valV_in hv
    rw [hk] at hm
    obtain ⟨x, hx, e⟩ := List.mem_map.mp hm
    obtain ⟨r, hr, rfl⟩ := List.mem_map.mp hx
    have : r.name = n := str_inj (Sum.inr.inj e)
    rw [← this]
    exact List.mem_map.mpr ⟨r, hr, rfl⟩
  · intro z
    cases hv : valV kvs (.inr (str n) : Key) with
    | some v => rfl
    | none =>
      exfalso
      apply valV_not hv
      rw [hk]
      obtain ⟨r, hr, rfl⟩ := List.mem_map.mp z
      exact List.mem_map.mpr ⟨str r.name, List.mem_map.mpr ⟨r, hr, rfl⟩, rfl⟩
structure Fs (mg : Str → Option Value) : Prop where
  no : GV mg "NO_FAULT" (.int 0)
  line : GV mg "NO_SUCH_LINE" (.int 1)
  name : GV mg "NAME_AGAIN" (.int 2)
  same : GV mg "SAME_AGAIN" (.int 3)
  many : GV mg "TOO_MANY" (.int 4)
  rule : GV mg "NO_RULE" (.int 5)
  self : GV mg "OUTWEIGHS_ITSELF" (.int 6)
  clash : GV mg "LAWS_CLASH" (.int 7)
  laws : GV mg "MOST_LAWS" (.int 64)
  rules : GV mg "MOST_RULES" (.int 10)
  atoms : GV mg "MOST_ATOMS" (.int 64)
def addRow (b : Bool) (c : Mo.Case) (r : Mo.Row) : Mo.Case := c.add (if b = true then .law r else .rule r)
def OkClause (b : Bool) (c : Mo.Case) (r : Mo.Row) (n : Nat) : Prop := r.name ∉ c.names ∧ r.body.Nodup ∧ ((if b = true then c.laws else c.rules).any (Mo.sameRow r)) = false ∧ (addRow b c r).laws.length ≤ 64 ∧ (addRow b c r).rules.length ≤ 10 ∧ n ≤ 64
def Ext (ns ns' : List (List Nat)) (r : Mo.Row) : Prop := ns'.Nodup ∧ ∀ x, x ∈ ns' ↔ x ∈ ns ∨ x ∈ r.atoms
theorem ext_len {ns ns1 ns2 : List (List Nat)} {r : Mo.Row} (h1 : Ext ns ns1 r) (h2 : Ext ns ns2 r) : ns1.length = ns2.length := Jb.same_length h1.1 h2.1 fun x => by rw [h1.2, h2.2]
section
variable {P : Program} {w : World} {K : PySem.W.Frag} {mg : Str → Option Value} {base : Heap}
structure Parts (D : Addr) (H : Hp) (p dx l r a wr : Addr) (c : Mo.Case) (ns : List (List Nat)) (kL kR : List (Key × V)) (rows : List Nat) : Prop where
  ob : H p = some (.ins D dx (draftF (.ref l) (.ref r) (.ref a) (.ref wr)))
  hl : H l = some (.dK kL)
  hL : RowsD H kL c.laws
  hr : H r = some (.dK kR)
  hR : RowsD H kR c.rules
  ha : H a = some (.dK (ns.map atomKV))
  nd : ns.Nodup
  hw : H wr = some (.lst (rows.map nV))
  nlr : l ≠ r
  nla : l ≠ a
  nra : r ≠ a
structure Free (H0 : Hp) (p l r a wr : Addr) : Prop where
  fp : H0 p = none
  fl : H0 l = none
  fr : H0 r = none
  fa : H0 a = none
  fw : H0 wr = none
def spTakeClause (D : Addr) : Sp := fun vs H Q _ => ∃ (H0 : Hp) (b : Bool) (p dx l r a wr pb : Addr) (c : Mo.Case) (ns : List (List Nat)) (kL kR : List (Key × V)) (rows : List Nat) (q : Mo.Row),
  vs = [.ref p, .ref (if b = true then l else r), sV q.name, .ref pb, litV q.head] ∧ Parts D H p dx l r a wr c ns kL kR rows ∧ Free H0 p l r a wr ∧ Same H0 H ∧ Jb.Good c ∧ ns.length ≤ 900 ∧ H pb = some (.tup (q.body.map litV)) ∧ Jb.RowOk q ∧
  (∀ kind H', kind ≠ 0 → Same H0 H' → (∀ ns', Ext ns ns' q → ¬ OkClause b c q ns'.length) → Q (.int kind) H') ∧
  ∀ H' ns' kL' kR', Same H0 H' → Ext ns ns' q → OkClause b c q ns'.length → Parts D H' p dx l r a wr (addRow b c q) ns' kL' kR' rows → Q (.int 0) H'
theorem scTakeClause : FnScope ["draft", "likes", "name", "body", "head", "literal"] ["draft", "likes", "name", "body", "head"] (defScope sTakeClause) := ⟨rfl, rfl, rfl, by decide +kernel, rfl, by decide +kernel, by decide +kernel⟩
theorem hu65_of {A : Around} {k : Nat} (hr : Room k A) : A.units + 65 < cLine := by have := hr.un; omega
theorem body_keys (q : Mo.Row) (h : Jb.RowOk q) : (diffK ((q.body.map fun l => str (Jb.litBytes l)).map Sum.inr)).length < q.body.length ↔ ¬ q.body.Nodup := by
  have hle := diff_le ((q.body.map fun l => str (Jb.litBytes l)).map (Sum.inr : Str → Key)) []
  have he := diff_nodup ((q.body.map fun l => str (Jb.litBytes l)).map (Sum.inr : Str → Key))
  have e1 : ((q.body.map fun l => str (Jb.litBytes l)).map (Sum.inr : Str → Key)).length = q.body.length := by simp
  have e2 : ((q.body.map fun l => str (Jb.litBytes l)).map (Sum.inr : Str → Key)).Nodup ↔ q.body.Nodup := by
    rw [List.map_map]
    constructor
    · intro hm
      exact List.Pairwise.imp (fun hxy e => hxy (by rw [e])) (List.pairwise_map.mp hm)
    · intro hn
      refine List.pairwise_map.mpr ?_
      refine List.Pairwise.imp_of_mem ?_ hn
      intro x y hx hy hne e
      exact hne (Jb.litBytes_inj (h.body x hx) (h.body y hy) (str_inj (Sum.inr.inj e)))
  rw [e2, e1] at he
  have hle : (diffK ((q.body.map fun l => str (Jb.litBytes l)).map Sum.inr)).length ≤ q.body.length := by
    rw [e1] at hle
    exact Nat.le_trans hle (by show 0 + q.body.length ≤ q.body.length; omega)
  constructor
  · intro h1 h2
    have := he.mpr h2
    omega
  · intro h1
    apply Nat.lt_of_le_of_ne hle
    exact fun e => h1 (he.mp e)
theorem dk_not {kvs : List (Key × V)} {xs : List V} : HO.dK kvs ≠ HO.tup xs := by intro z; cases z
theorem Parts.mono {D : Addr} {H H' : Hp} {p dx l r a wr : Addr} {c : Mo.Case} {ns : List (List Nat)} {kL kR : List (Key × V)} {rows : List Nat} (h : Parts D H p dx l r a wr c ns kL kR rows) (s : Same H H') : Parts D H' p dx l r a wr c ns kL kR rows :=
  ⟨s _ _ h.ob, s _ _ h.hl, h.hL.mono fun b xs e => s _ _ e, s _ _ h.hr, h.hR.mono fun b xs e => s _ _ e, s _ _ h.ha, h.nd, s _ _ h.hw, h.nlr, h.nla, h.nra⟩
theorem Parts.atom {D : Addr} {H : Hp} {p dx l r a wr : Addr} {c : Mo.Case} {ns : List (List Nat)} {kL kR : List (Key × V)} {rows : List Nat} (h : Parts D H p dx l r a wr c ns kL kR rows) (n : List Nat) : Parts D (upd H a (.dK ((addN ns n).map atomKV))) p dx l r a wr c (addN ns n) kL kR rows := by
  have keep : ∀ b xs, H b = some (.tup xs) → (upd H a (.dK ((addN ns n).map atomKV))) b = some (.tup xs) := fun b xs e => by rw [upd_ne (ne_of e h.ha (Ne.symm dk_not))]; exact e
  exact ⟨by rw [upd_ne (ne_of h.ob h.ha (by intro z; cases z))]; exact h.ob, by rw [upd_ne h.nla]; exact h.hl, h.hL.mono keep, by rw [upd_ne h.nra]; exact h.hr, h.hR.mono keep, upd_same, addN_nodup h.nd, by rw [upd_ne (ne_of h.hw h.ha (by intro z; cases z))]; exact h.hw, h.nlr, h.nla, h.nra⟩
def kOf (b : Bool) (kL kR : List (Key × V)) : List (Key × V) := if b = true then kL else kR
def rowsIn (b : Bool) (c : Mo.Case) : List Mo.Row := if b = true then c.laws else c.rules
def lrOf (b : Bool) (l r : Addr) : Addr := if b = true then l else r
theorem Parts.own {D : Addr} {H : Hp} {p dx l r a wr : Addr} {c : Mo.Case} {ns : List (List Nat)} {kL kR : List (Key × V)} {rows : List Nat} (b : Bool) (h : Parts D H p dx l r a wr c ns kL kR rows) : H (lrOf b l r) = some (.dK (kOf b kL kR)) ∧ RowsD H (kOf b kL kR) (rowsIn b c) := by
  cases b with
  | true => exact ⟨h.hl, h.hL⟩
  | false => exact ⟨h.hr, h.hR⟩
theorem Parts.put {D : Addr} {H : Hp} {p dx l r a wr : Addr} {c : Mo.Case} {ns : List (List Nat)} {kL kR : List (Key × V)} {rows : List Nat} (b : Bool) (h : Parts D H p dx l r a wr c ns kL kR rows) {q : Mo.Row} {t : Addr} (hc : ClauseT H t q) :
    Parts D (upd H (lrOf b l r) (.dK (kOf b kL kR ++ [rowKV q t]))) p dx l r a wr (addRow b c q) ns (if b = true then kL ++ [rowKV q t] else kL) (if b = true then kR else kR ++ [rowKV q t]) rows := by
  cases b with
  | true =>
    have keep : ∀ x xs, H x = some (.tup xs) → (upd H l (.dK (kL ++ [rowKV q t]))) x = some (.tup xs) := fun x xs e => by rw [upd_ne (ne_of e h.hl (Ne.symm dk_not))]; exact e
    have hq : ClauseT (upd H l (.dK (kL ++ [rowKV q t]))) t q := hc.mono keep
    exact ⟨by show (upd H l _) p = _; rw [upd_ne (ne_of h.ob h.hl (by intro z; cases z))]; exact h.ob, upd_same, paired_app (h.hL.mono keep) (.cons ⟨t, rfl, hq⟩ .nil), by show (upd H l _) r = _; rw [upd_ne (Ne.symm h.nlr)]; exact h.hr, h.hR.mono keep, by show (upd H l _) a = _; rw [upd_ne (Ne.symm h.nla)]; exact h.ha, h.nd, by show (upd H l _) wr = _; rw [upd_ne (ne_of h.hw h.hl (by intro z; cases z))]; exact h.hw, h.nlr, h.nla, h.nra⟩
  | false =>
    have keep : ∀ x xs, H x = some (.tup xs) → (upd H r (.dK (kR ++ [rowKV q t]))) x = some (.tup xs) := fun x xs e => by rw [upd_ne (ne_of e h.hr (Ne.symm dk_not))]; exact e
    have hq : ClauseT (upd H r (.dK (kR ++ [rowKV q t]))) t q := hc.mono keep
    exact ⟨by show (upd H r _) p = _; rw [upd_ne (ne_of h.ob h.hr (by intro z; cases z))]; exact h.ob, by show (upd H r _) l = _; rw [upd_ne h.nlr]; exact h.hl, h.hL.mono keep, upd_same, paired_app (h.hR.mono keep) (.cons ⟨t, rfl, hq⟩ .nil), by show (upd H r _) a = _; rw [upd_ne (Ne.symm h.nra)]; exact h.ha, h.nd, by show (upd H r _) wr = _; rw [upd_ne (ne_of h.hw h.hr (by intro z; cases z))]; exact h.hw, h.nlr, h.nla, h.nra⟩
def addAll (ns : List (List Nat)) (ls : List Mo.Lit) : List (List Nat) := ls.foldl (fun s l => addN s l.atom) ns
theorem addAll_snoc (ns : List (List Nat)) (ls : List Mo.Lit) (l : Mo.Lit) : addAll ns (ls ++ [l]) = addN (addAll ns ls) l.atom := by
  unfold addAll
  rw [List.foldl_append]; rfl
theorem addAll_mem : ∀ (ls : List Mo.Lit) (ns : List (List Nat)) (x : List Nat), x ∈ addAll ns ls ↔ x ∈ ns ∨ x ∈ ls.map Mo.Lit.atom
  | [], ns, x => by simp [addAll]
  | l :: ls, ns, x => by
    show x ∈ addAll (addN ns l.atom) ls ↔ _
    rw [addAll_mem ls, addN_mem, List.map_cons, List.mem_cons, or_assoc]
theorem addAll_nodup : ∀ (ls : List Mo.Lit) {ns : List (List Nat)}, ns.Nodup → (addAll ns ls).Nodup
  | [], _, h => h
  | l :: ls, ns, h => addAll_nodup ls (addN_nodup h)
theorem addAll_len : ∀ (ls : List Mo.Lit) (ns : List (List Nat)), (addAll ns ls).length ≤ ns.length + ls.length
  | [], ns => Nat.le_refl _
  | l :: ls, ns => by
    have := addAll_len ls (addN ns l.atom)
    have := addN_len ns l.atom
    show (addAll (addN ns l.atom) ls).length ≤ _
    rw [List.length_cons]; omega
theorem ext_all (ns : List (List Nat)) (nd : ns.Nodup) (q : Mo.Row) : Ext ns (addN (addAll ns q.body) q.head.atom) q := by
  refine ⟨addN_nodup (addAll_nodup _ nd), fun x => ?_⟩
  rw [addN_mem, addAll_mem]
  unfold Mo.Row.atoms
  rw [List.mem_cons]
  constructor
  · rintro ((h | h) | h)
    · exact .inl h
    · exact .inr (.inr h)
    · exact .inr (.inl h)
  · rintro (h | h | h)
    · exact .inl (.inl h)
    · exact .inr h
    · exact .inl (.inr h)
theorem dput_atom {H : Hp} {a : Addr} {ns : List (List Nat)} {n m : List Nat} (h : H a = some (.dK (ns.map atomKV))) (hl : ns.length ≤ 1000) (e : m = n) : DPut H a (.str (str m)) (.bl true) (upd H a (.dK ((addN ns n).map atomKV))) := by
  subst e
  rw [← put_atom]
  exact DPut.k (k := Sum.inr (str m)) h (by rw [List.length_map]; exact small1000 hl)
theorem ok_take_clause {D : Addr} (B : Bl mg) (F : Fs mg) (T : DraftC K D) (h1 : Has P w K mg base 2 "atom_of" ["literal"] spAtomOf) (Df : Def K mg "take_clause" sTakeClause ["draft", "likes", "name", "body", "head"]) :
    Has P w K mg base 3 "take_clause" ["draft", "likes", "name", "body", "head"] (spTakeClause D) := by
  refine Df.has scTakeClause (fun vs H Q E h => ?_) (fun f cdv A outer s H vs Q E hr h => ?_)
  · obtain ⟨H0, b, p, dx, l, r, a, wr, pb, c, ns, kL, kR, rows, q, rfl, _⟩ := h
    rfl
  · obtain ⟨H0, b, p, dx, l, r, a, wr, pb, c, ns, kL, kR, rows, q, rfl, pt, fr, s0, gd, hns, hpb, ok, qb, qg⟩ := h
    have hu := hu_of hr
    have hu65 := hu65_of hr
    have ho := pt.own b
    change H (lrOf b l r) = _ ∧ _ at ho
    refine ⟨_, pss_cons (ps_if (PW.pt (pw_or (pt_cmp (pc_din hu (pv 2) (pe_fld (pv 0) rfl)) (by with_unfolding_all rfl)) (pw_or1 (pt_cmp (pc_din hu (pv 2) (pe_fld (pv 0) rfl)) (by with_unfolding_all rfl))))) (pss_one (ps_ret (pe_gv F.name))) pss_nil)
      (pss_cons (ps_if (PW.pt (pw_or (pt_cmpR op_lt (pe_callB cr_lenSet (by rfl) B.len PySem.boot_len (pa_cons (pe_callTy (cr_setT rfl) (by rfl) B.set boot_set (pa_cons (pv 3) pa_nil)) pa_nil)) (pe_callB call_len_seq (by rfl) B.len PySem.boot_len (pa_cons (pv 3) pa_nil)) (nomark _))
        (pw_or1 (pt_cmpR (op_inD hu65) (pe_tup (pa_cons (pv 3) (pa_cons (pv 4) pa_nil))) (pe_callTy (cr_listV rfl) (by rfl) B.list boot_list (pa_cons (pe_values (pv 1)) pa_nil)) (by with_unfolding_all rfl))))) (pss_one (ps_ret (pe_gv F.same))) pss_nil)
      (pss_cons (ps_dput hu (pv 1) (pv 2) (pe_tup (pa_cons (pv 3) (pa_cons (pv 4) pa_nil))) rfl)
      (pss_cons (ps_for PassesOwn.never rfl (pi_tup (pv 3)) (pg_name (i := 5) scTakeClause.nd rfl (Or.inl rfl))
        (pss_one (ps_dput hu (pe_fld (pv 0) rfl) (pe_callH h1 hr (pa_cons (pv 5) pa_nil)) pe_bl rfl)))
      (pss_cons (ps_dput hu (pe_fld (pv 0) rfl) (pe_callH h1 hr (pa_cons (pv 4) pa_nil)) pe_bl rfl)
      (pss_cons (ps_if (PW.pt (pw_or (pt_cmpR op_gt (pe_callB call_lenD (by rfl) B.len PySem.boot_len (pa_cons (pe_fld (pv 0) rfl) pa_nil)) (pe_gv F.laws) (nomark _))
        (pw_or (pt_cmpR op_gt (pe_callB call_lenD (by rfl) B.len PySem.boot_len (pa_cons (pe_fld (pv 0) rfl) pa_nil)) (pe_gv F.rules) (nomark _))
        (pw_or1 (pt_cmpR op_gt (pe_callB call_lenD (by rfl) B.len PySem.boot_len (pa_cons (pe_fld (pv 0) rfl) pa_nil)) (pe_gv F.atoms) (nomark _)))))) (pss_one (ps_ret (pe_gv F.many))) pss_nil)
      (pss_one (ps_ret (pe_gv F.no)))))))), ?_⟩
    refine ⟨_, rfl, _, rfl, p, D, dx, _, _, rfl, pt.ob, T.cl, T.nL, draftF_laws _ _ _ _, l, _, rfl, DGet.k (k := Sum.inr (str q.name)) pt.hl, _, rfl, ?_⟩
    refine ite2 (fun z1 => ?_) (fun z1 => ?_)
    · refine iteT ?_
      refine qb 2 H (by decide) s0 fun ns' _ okc => okc.1 ?_
      unfold Mo.Case.names
      rw [List.map_append]
      exact List.mem_append.mpr (.inl ((keys_in pt.hL q.name).mp z1))
    have z1' : q.name ∉ c.laws.map Mo.Row.name := fun z => z1 ((keys_in pt.hL q.name).mpr z)
    refine ⟨_, rfl, _, rfl, p, D, dx, _, _, rfl, pt.ob, T.cl, T.nR, draftF_rules _ _ _ _, r, _, rfl, DGet.k (k := Sum.inr (str q.name)) pt.hr, _, rfl, ?_⟩
    refine ite2 (fun z2 => ?_) (fun z2 => ?_)
    · refine qb 2 H (by decide) s0 fun ns' _ okc => okc.1 ?_
      unfold Mo.Case.names
      rw [List.map_append]
      exact List.mem_append.mpr (.inr ((keys_in pt.hR q.name).mp z2))
    have z2' : q.name ∉ c.rules.map Mo.Row.name := fun z => z2 ((keys_in pt.hR q.name).mpr z)
    have hnm : q.name ∉ c.names := by
      unfold Mo.Case.names
      rw [List.map_append]
      intro z
      rcases List.mem_append.mp z with z | z
      · exact z1' z
      · exact z2' z
    have hno : valV (kOf b kL kR) (.inr (str q.name) : Key) = none := by
      cases b with
      | true =>
        show valV kL _ = none
        cases e : valV kL (.inr (str q.name) : Key) with
        | none => rfl
        | some v => exact absurd (show (valV kL (.inr (str q.name) : Key)).isSome = true by rw [e]; rfl) z1
      | false =>
        show valV kR _ = none
        cases e : valV kR (.inr (str q.name) : Key) with
        | none => rfl
        | some v => exact absurd (show (valV kR (.inr (str q.name) : Key)).isSome = true by rw [e]; rfl) z2
    clear z1 z2
    -- a literal twice
    have ebody : q.body.map litV = (q.body.map fun l => str (Jb.litBytes l)).map V.str := by rw [List.map_map]; rfl
    have hb6 := ok.few
    refine ⟨_, rfl, pb, q.body.map fun l => str (Jb.litBytes l), rfl, SqT.of (by rw [hpb, ebody]), by rw [List.length_map]; omega, fun pS hpS => ?_⟩
    have kS : Same H (upd H pS (setO P w pS (diffK ((q.body.map fun l => str (Jb.litBytes l)).map Sum.inr)).length)) := same_new hpS
    refine ⟨pS, (diffK ((q.body.map fun l => str (Jb.litBytes l)).map Sum.inr)).length, rfl, upd_same, _, rfl, pb, q.body.map litV, rfl, .inr (SqT.of (kS _ _ hpb)), _, _, rfl, rfl, _, rfl, ?_⟩
    clear kS
    generalize hH1 : upd H pS _ = H1
    have kS : Same H H1 := hH1 ▸ same_new hpS
    clear hH1
    have s1 : Same H0 H1 := s0.trans kS
    have pt1 := pt.mono kS
    have hpb1 := kS _ _ hpb
    have ebk := body_keys q ok
    refine ite2 (fun z1 => ?_) (fun z1 => ?_)
    · refine iteT ?_
      refine qb 3 H1 (by decide) s1 fun ns' _ okc => ?_
      refine ebk.mp ?_ okc.2.1
      have := of_decide_eq_true z1
      rw [List.length_map] at this
      omega
    have hnd : q.body.Nodup := Decidable.byContradiction fun z => z1 (decide_eq_true (by
      have := ebk.mpr z
      rw [List.length_map]
      omega))
    clear z1 ebk
    -- the same clause again
    refine ⟨_, rfl, _, rfl, by show 2 ≤ sizeLine; decide, fun t1 ht1 => ?_⟩
    have kT : Same H1 (upd H1 t1 (.tup [.ref pb, litV q.head])) := same_new ht1
    have hT1 : (upd H1 t1 (.tup [.ref pb, litV q.head])) t1 = some (.tup [.ref pb, litV q.head]) := upd_same
    generalize upd H1 t1 (.tup [.ref pb, litV q.head]) = H2 at kT hT1 ⊢
    have pt2 := pt1.mono kT
    have ho2 := pt2.own b
    refine ⟨_, rfl, lrOf b l r, _, rfl, ho2.1, fun pV hpV => ?_⟩
    have kV : Same H2 (upd H2 pV (valsO pV (lrOf b l r))) := same_new hpV
    refine ⟨pV, lrOf b l r, _, rfl, upd_same, kV _ _ ho2.1, fun lV hlV => ?_⟩
    generalize upd H2 pV (valsO pV (lrOf b l r)) = H3 at kV hlV ⊢
    have kL2 : Same H3 (upd H3 lV (.lst ((kOf b kL kR).map (·.2)))) := same_new hlV
    have hL2 : (upd H3 lV (.lst ((kOf b kL kR).map (·.2)))) lV = some (.lst ((kOf b kL kR).map (·.2))) := upd_same
    generalize upd H3 lV (.lst ((kOf b kL kR).map (·.2))) = H4 at kL2 hL2 ⊢
    have k24 : Same H2 H4 := kV.trans kL2
    have pt4 := pt2.mono k24
    have ho4 := pt4.own b
    have okl : ∀ x ∈ rowsIn b c, Jb.RowOk x := fun x hx => by
      cases b with
      | true => exact gd.ok x (.inl hx)
      | false => exact gd.ok x (.inr hx)
    have s4 : Same H0 H4 := (s1.trans kT).trans k24
    refine ⟨lV, _, (rowsIn b c).map rowP, rowP q, rfl, SqL.of hL2, dp_rows ho4.2, dp_row ⟨pb, k24 _ _ hT1, k24 _ _ (kT _ _ hpb1)⟩, rows_sh okl, row_sh ok, _, rfl, ?_⟩
    rw [any_rows ok okl]
    refine ite2 (fun z1 => ?_) (fun z1 => ?_)
    · refine qb 3 H4 (by decide) s4 fun ns' _ okc => ?_
      have := okc.2.2.1
      rw [show (if b = true then c.laws else c.rules) = rowsIn b c from rfl, z1] at this
      cases this
    have hsame : (rowsIn b c).any (Mo.sameRow q) = false := by
      cases e : (rowsIn b c).any (Mo.sameRow q) with
      | true => exact absurd e z1
      | false => rfl
    -- it is added
    have hpb4 : H4 pb = some (.tup (q.body.map litV)) := k24 _ _ (kT _ _ hpb1)
    refine ⟨_, rfl, _, rfl, by show 2 ≤ sizeLine; decide, fun t2 ht2 => ?_⟩
    have kT2 : Same H4 (upd H4 t2 (.tup [.ref pb, litV q.head])) := same_new ht2
    have hT2 : (upd H4 t2 (.tup [.ref pb, litV q.head])) t2 = some (.tup [.ref pb, litV q.head]) := upd_same
    generalize upd H4 t2 (.tup [.ref pb, litV q.head]) = H5 at kT2 hT2 ⊢
    have pt5 := pt4.mono kT2
    have ho5 := pt5.own b
    have s5 : Same H0 H5 := s4.trans kT2
    have hpb5 := kT2 _ _ hpb4
    have hlen : (kOf b kL kR).length < sizeLine := by
      rw [paired_len ho5.2]
      have := gd.nl
      have := gd.nr
      apply small1000
      cases b with
      | true => show c.laws.length ≤ 1000; omega
      | false => show c.rules.length ≤ 1000; omega
    refine ⟨_, rfl, _, rfl, lrOf b l r, _, rfl, DPut.k (k := Sum.inr (str q.name)) ho5.1 hlen, ?_⟩
    rw [putK_new _ hno, show ((Sum.inr (str q.name) : Key), V.ref t2) = rowKV q t2 from rfl]
    have pt6 := pt5.put b (q := q) (t := t2) ⟨pb, hT2, hpb5⟩
    have fl : H0 (lrOf b l r) = none := by
      cases b with
      | true => exact fr.fl
      | false => exact fr.fr
    have s6 : Same H0 (upd H5 (lrOf b l r) (.dK (kOf b kL kR ++ [rowKV q t2]))) := Same.own s5 fl
    have hpb6 : (upd H5 (lrOf b l r) (.dK (kOf b kL kR ++ [rowKV q t2]))) pb = some (.tup (q.body.map litV)) := by rw [upd_ne (ne_of hpb5 ho5.1 (Ne.symm dk_not))]; exact hpb5
    generalize upd H5 (lrOf b l r) (.dK (kOf b kL kR ++ [rowKV q t2])) = H6 at pt6 s6 hpb6 ⊢
    generalize hkL' : (if b = true then kL ++ [rowKV q t2] else kL) = kL' at pt6
    generalize hkR' : (if b = true then kR else kR ++ [rowKV q t2]) = kR' at pt6
    refine ⟨_, rfl, pb, rfl, ⟨_, SqT.of hpb6⟩, ?_⟩
    refine for_tup (K := K) (a := pb) (xs := q.body.map litV) (fun i σ H7 => ∃ v5, σ = [some (.ref p), some (.ref (lrOf b l r)), some (sV q.name), some (.ref pb), some (litV q.head), v5] ∧ Same H0 H7 ∧ H7 pb = some (.tup (q.body.map litV)) ∧ Parts D H7 p dx l r a wr (addRow b c q) (addAll ns (q.body.take i)) kL' kR' rows)
      ⟨none, rfl, s6, hpb6, pt6⟩ (fun i σ H7 _ ⟨_, _, _, h, _⟩ => SqT.of h) ?_ ?_
    · rintro i x σ H7 hi ⟨v5, rfl, s7, hpb7, pt7⟩
      rw [List.getElem?_map] at hi
      cases ei : q.body[i]? with
      | none => rw [ei] at hi; cases hi
      | some lt =>
        rw [ei] at hi
        obtain rfl : x = litV lt := (Option.some.inj hi).symm
        have hn : Mo.isName lt.atom = true := ok.body lt (List.mem_of_getElem? ei)
        have hat : (addAll ns (q.body.take i)).length ≤ 1000 := by
          have := addAll_len (q.body.take i) ns
          have : (q.body.take i).length ≤ q.body.length := by rw [List.length_take]; exact Nat.min_le_right _ _
          omega
        refine ⟨_, rfl, p, D, dx, _, _, rfl, pt7.ob, T.cl, T.nA, draftF_atoms _ _ _ _, _, rfl, Jb.litBytes lt, rfl, Nat.le_trans (litBytes_le hn) (by decide), a, _, rfl, dput_atom pt7.ha hat (lit_head hn).2, ?_⟩
        · refine ⟨some (litV lt), rfl, Same.own s7 fr.fa, ?_, ?_⟩
          · rw [upd_ne (ne_of hpb7 pt7.ha (Ne.symm dk_not))]; exact hpb7
          · rw [List.take_add_one, ei, Option.toList_some, addAll_snoc]
            exact pt7.atom lt.atom
    · rintro σ H7 ⟨v5, rfl, s7, hpb7, pt7⟩
      rw [List.length_map, List.take_length] at pt7
      have hat : (addAll ns q.body).length ≤ 1000 := by
        have := addAll_len q.body ns
        omega
      refine ⟨_, rfl, p, D, dx, _, _, rfl, pt7.ob, T.cl, T.nA, draftF_atoms _ _ _ _, _, rfl, Jb.litBytes q.head, rfl, Nat.le_trans (litBytes_le ok.head) (by decide), a, _, rfl, dput_atom pt7.ha hat (lit_head ok.head).2, ?_⟩
      have pt8 := pt7.atom q.head.atom
      have s8 : Same H0 (upd H7 a (.dK ((addN (addAll ns q.body) q.head.atom).map atomKV))) := Same.own s7 fr.fa
      have hex := ext_all ns pt.nd q
      generalize upd H7 a (.dK ((addN (addAll ns q.body) q.head.atom).map atomKV)) = H8 at pt8 s8 ⊢
      generalize addN (addAll ns q.body) q.head.atom = ns8 at pt8 hex
      have eL := paired_len pt8.hL
      have eR := paired_len pt8.hR
      refine ⟨_, rfl, p, D, dx, _, _, rfl, pt8.ob, T.cl, T.nL, draftF_laws _ _ _ _, l, _, rfl, pt8.hl, _, _, rfl, rfl, _, rfl, ?_⟩
      refine ite2 (fun z2 => ?_) (fun z2 => ?_)
      · refine iteT ?_
        refine qb 4 H8 (by decide) s8 fun ns' e' okc => ?_
        have := of_decide_eq_true z2
        have := okc.2.2.2.1
        omega
      have z2 : ¬ ((64 : Int) < (kL'.length : Int)) := fun z => z2 (decide_eq_true z)
      refine ⟨_, rfl, p, D, dx, _, _, rfl, pt8.ob, T.cl, T.nR, draftF_rules _ _ _ _, r, _, rfl, pt8.hr, _, _, rfl, rfl, _, rfl, ?_⟩
      refine ite2 (fun z3 => ?_) (fun z3 => ?_)
      · refine iteT ?_
        refine qb 4 H8 (by decide) s8 fun ns' e' okc => ?_
        have := of_decide_eq_true z3
        have := okc.2.2.2.2.1
        omega
      have z3 : ¬ ((10 : Int) < (kR'.length : Int)) := fun z => z3 (decide_eq_true z)
      refine ⟨_, rfl, p, D, dx, _, _, rfl, pt8.ob, T.cl, T.nA, draftF_atoms _ _ _ _, a, _, rfl, pt8.ha, _, _, rfl, rfl, _, rfl, ?_⟩
      refine ite2 (fun z4 => ?_) (fun z4 => ?_)
      · refine qb 4 H8 (by decide) s8 fun ns' e' okc => ?_
        have z4 := of_decide_eq_true z4
        rw [List.length_map] at z4
        have := okc.2.2.2.2.2
        have := ext_len e' hex
        omega
      have z4 : ¬ ((64 : Int) < (ns8.length : Int)) := fun z => z4 (decide_eq_true (by rw [List.length_map]; exact z))
      exact qg H8 ns8 kL' kR' s8 hex ⟨hnm, hnd, hsame, by omega, by omega, by omega⟩ pt8
end
end L2.Jp
end Jp10_
section Jp11_
namespace L2.Jp
open PySem PySem.Spec PyProof.Rows L2 TL L2.JX
theorem raw_eq (c : Mo.Case) (x : List Nat) : x ∈ c.atoms ↔ (∃ r, (r ∈ c.laws ∨ r ∈ c.rules) ∧ x ∈ r.atoms) ∨ ∃ r ∈ c.rules, x = r.name := by
  rw [Jb.atoms_mem, Jb.mem_raw]
  have e : ∀ r : Mo.Row, x ∈ r.atoms ↔ (x = r.head.atom ∨ ∃ l ∈ r.body, x = l.atom) := fun r => by
    unfold Mo.Row.atoms
    rw [List.mem_cons, List.mem_map]
    constructor
    · rintro (h | ⟨l, h1, h2⟩)
      · exact .inl h
      · exact .inr ⟨l, h1, h2.symm⟩
    · rintro (h | ⟨l, h1, h2⟩)
      · exact .inl h
      · exact .inr ⟨l, h1, h2.symm⟩
  simp only [e]
theorem atoms_rule (c : Mo.Case) (q : Mo.Row) (x : List Nat) : x ∈ (c.add (.rule q)).atoms ↔ (x ∈ c.atoms ∨ x = q.name) ∨ x ∈ q.atoms := by
  rw [raw_eq, raw_eq]
  show (∃ r, (r ∈ c.laws ∨ r ∈ c.rules ++ [q]) ∧ x ∈ r.atoms) ∨ (∃ r ∈ c.rules ++ [q], x = r.name) ↔ _
  constructor
  · rintro (⟨r, h | h, h2⟩ | ⟨r, h, h2⟩)
    · exact .inl (.inl (.inl ⟨r, .inl h, h2⟩))
    · rcases List.mem_append.mp h with h | h
      · exact .inl (.inl (.inl ⟨r, .inr h, h2⟩))
      · rw [List.mem_singleton.mp h] at h2
        exact .inr h2
    · rcases List.mem_append.mp h with h | h
      · exact .inl (.inl (.inr ⟨r, h, h2⟩))
      · rw [List.mem_singleton.mp h] at h2
        exact .inl (.inr h2)
  · rintro (((⟨r, h | h, h2⟩ | ⟨r, h, h2⟩) | h) | h)
    · exact .inl ⟨r, .inl h, h2⟩
    · exact .inl ⟨r, .inr (List.mem_append.mpr (.inl h)), h2⟩
    · exact .inr ⟨r, List.mem_append.mpr (.inl h), h2⟩
    · exact .inr ⟨q, List.mem_append.mpr (.inr (List.mem_singleton.mpr rfl)), h⟩
    · exact .inl ⟨q, .inr (List.mem_append.mpr (.inr (List.mem_singleton.mpr rfl))), h⟩
theorem atoms_law (c : Mo.Case) (q : Mo.Row) (x : List Nat) : x ∈ (c.add (.law q)).atoms ↔ x ∈ c.atoms ∨ x ∈ q.atoms := by
  rw [raw_eq, raw_eq]
  show (∃ r, (r ∈ c.laws ++ [q] ∨ r ∈ c.rules) ∧ x ∈ r.atoms) ∨ (∃ r ∈ c.rules, x = r.name) ↔ _
  constructor
  · rintro (⟨r, h | h, h2⟩ | ⟨r, h, h2⟩)
    · rcases List.mem_append.mp h with h | h
      · exact .inl (.inl ⟨r, .inl h, h2⟩)
      · rw [List.mem_singleton.mp h] at h2
        exact .inr h2
    · exact .inl (.inl ⟨r, .inr h, h2⟩)
    · exact .inl (.inr ⟨r, h, h2⟩)
  · rintro ((⟨r, h | h, h2⟩ | ⟨r, h, h2⟩) | h)
    · exact .inl ⟨r, .inl (List.mem_append.mpr (.inl h)), h2⟩
    · exact .inl ⟨r, .inr h, h2⟩
    · exact .inr ⟨r, h, h2⟩
    · exact .inl ⟨q, .inl (List.mem_append.mpr (.inr (List.mem_singleton.mpr rfl))), h⟩
theorem draftF_put (l r a w w' : V) : putF "rows" w' (draftF l r a w) = draftF l r a w' := by
  rfl
section
variable {P : Program} {w : World} {K : PySem.W.Frag} {mg : Str → Option Value} {base : Heap}
theorem Parts.setRows {D : Addr} {H : Hp} {p dx l r a wr : Addr} {c : Mo.Case} {ns : List (List Nat)} {kL kR : List (Key × V)} {rows : List Nat} (h : Parts D H p dx l r a wr c ns kL kR rows) (rows' : List Nat) : Parts D (upd H wr (.lst (rows'.map nV))) p dx l r a wr c ns kL kR rows' := by
  have keep : ∀ b xs, H b = some (.tup xs) → (upd H wr (.lst (rows'.map nV))) b = some (.tup xs) := fun b xs e => by rw [upd_ne (ne_of e h.hw (by intro z; cases z))]; exact e
  exact ⟨by rw [upd_ne (ne_of h.ob h.hw (by intro z; cases z))]; exact h.ob, by rw [upd_ne (ne_of h.hl h.hw (by intro z; cases z))]; exact h.hl, h.hL.mono keep, by rw [upd_ne (ne_of h.hr h.hw (by intro z; cases z))]; exact h.hr, h.hR.mono keep, by rw [upd_ne (ne_of h.ha h.hw (by intro z; cases z))]; exact h.ha, h.nd, upd_same, h.nlr, h.nla, h.nra⟩
theorem Parts.newRows {D : Addr} {H : Hp} {p dx l r a wr : Addr} {c : Mo.Case} {ns : List (List Nat)} {kL kR : List (Key × V)} {rows : List Nat} (h : Parts D H p dx l r a wr c ns kL kR rows) {wr' : Addr} {rows' : List Nat} (hw' : H wr' = some (.lst (rows'.map nV))) :
    Parts D (upd H p (.ins D dx (putF "rows" (.ref wr') (draftF (.ref l) (.ref r) (.ref a) (.ref wr))))) p dx l r a wr' c ns kL kR rows' := by
  rw [draftF_put]
  have keep : ∀ b xs, H b = some (.tup xs) → (upd H p (.ins D dx (draftF (.ref l) (.ref r) (.ref a) (.ref wr')))) b = some (.tup xs) := fun b xs e => by rw [upd_ne (ne_of e h.ob (by intro z; cases z))]; exact e
  exact ⟨upd_same, by rw [upd_ne (ne_of h.hl h.ob (by intro z; cases z))]; exact h.hl, h.hL.mono keep, by rw [upd_ne (ne_of h.hr h.ob (by intro z; cases z))]; exact h.hr, h.hR.mono keep, by rw [upd_ne (ne_of h.ha h.ob (by intro z; cases z))]; exact h.ha, h.nd, by rw [upd_ne (ne_of hw' h.ob (by intro z; cases z))]; exact hw', h.nlr, h.nla, h.nra⟩
theorem Parts.weigh {D : Addr} {H : Hp} {p dx l r a wr : Addr} {c : Mo.Case} {ns : List (List Nat)} {kL kR : List (Key × V)} {rows : List Nat} (h : Parts D H p dx l r a wr c ns kL kR rows) (x y : List Nat) : Parts D H p dx l r a wr (c.add (.weigh x y)) ns kL kR rows := ⟨h.ob, h.hl, h.hL, h.hr, h.hR, h.ha, h.nd, h.hw, h.nlr, h.nla, h.nra⟩
structure DraftAt (D : Addr) (H0 H : Hp) (p : Addr) (c : Mo.Case) : Prop where
  ex : ∃ dx l r a wr ns kL kR rows, Parts D H p dx l r a wr c ns kL kR rows ∧ Free H0 p l r a wr ∧ (∀ x, x ∈ ns ↔ x ∈ c.atoms) ∧ Jb.WInv (c.rules.map Mo.Row.name) c.weighs rows
  gd : Jb.Good c
  s : Same H0 H
theorem DraftAt.mono {D : Addr} {H0 H H' : Hp} {p : Addr} {c : Mo.Case} (h : DraftAt D H0 H p c) (s : Same H H') : DraftAt D H0 H' p c := by
  obtain ⟨dx, l, r, a, wr, ns, kL, kR, rows, h1, h2, h3, h4⟩ := h.ex
  exact ⟨⟨dx, l, r, a, wr, ns, kL, kR, rows, h1.mono s, h2, h3, h4⟩, h.gd, h.s.trans s⟩
theorem atoms_few {ns : List (List Nat)} {c : Mo.Case} (nd : ns.Nodup) (h : ∀ x, x ∈ ns ↔ x ∈ c.atoms) : ns.length = c.atoms.length := Jb.same_length nd (Jb.Rising.nodup (Jb.atoms_rising c)) h
def spTakeRule (D : Addr) : Sp := fun vs H Q _ => ∃ (H0 : Hp) (p pb : Addr) (c : Mo.Case) (q : Mo.Row), vs = [.ref p, sV q.name, .ref pb, litV q.head] ∧ DraftAt D H0 H p c ∧ H pb = some (.tup (q.body.map litV)) ∧ Jb.RowOk q ∧
  (∀ kind H', kind ≠ 0 → Same H0 H' → Mo.wrong c (.rule q) ≠ none → Q (.int kind) H') ∧ ∀ H', Mo.wrong c (.rule q) = none → DraftAt D H0 H' p (c.add (.rule q)) → Q (.int 0) H'
theorem scTakeRule : FnScope ["draft", "name", "body", "head"] ["draft", "name", "body", "head"] (defScope sTakeRule) := ⟨rfl, rfl, rfl, by decide +kernel, rfl, by decide +kernel, by decide +kernel⟩
theorem ok_take_rule {D : Addr} (T : DraftC K D) (h1 : Has P w K mg base 3 "take_clause" ["draft", "likes", "name", "body", "head"] (spTakeClause D)) (Df : Def K mg "take_rule" sTakeRule ["draft", "name", "body", "head"]) :
    Has P w K mg base 4 "take_rule" ["draft", "name", "body", "head"] (spTakeRule D) := by
  refine Df.has scTakeRule (fun vs H Q E h => ?_) (fun f cdv A outer s H vs Q E hr h => ?_)
  · obtain ⟨H0, p, pb, c, q, rfl, _⟩ := h
    rfl
  · obtain ⟨H0, p, pb, c, q, rfl, da, hpb, ok, qb, qg⟩ := h
    obtain ⟨dx, l, r, a, wr, ns, kL, kR, rows, pt, fr, hat, hwi⟩ := da.ex
    have gd := da.gd
    have hu := hu_of hr
    refine ⟨_, pss_cons (ps_dput hu (pe_fld (pv 0) rfl) (pv 1) pe_bl rfl)
      (pss_cons (ps_expr (pe_bm PySem.F.plainAttrs_list PySem.F.slot_list_append PySem.F.type_list_append mt_append (pe_fld (pv 0) rfl) (pa_cons pe_int pa_nil)))
      (pss_one (ps_ret (pe_callH h1 hr (pa_cons (pv 0) (pa_cons (pe_fld (pv 0) rfl) (pa_cons (pv 1) (pa_cons (pv 2) (pa_cons (pv 3) pa_nil))))))))), ?_⟩
    have hal := atoms_few pt.nd hat
    have hna := gd.na
    refine ⟨_, rfl, p, D, dx, _, _, rfl, pt.ob, T.cl, T.nA, draftF_atoms _ _ _ _, _, rfl, a, _, rfl, dput_atom pt.ha (by omega) rfl, ?_⟩
    have pt1 := pt.atom q.name
    have s1 : Same H0 (upd H a (.dK ((addN ns q.name).map atomKV))) := Same.own da.s fr.fa
    have hpb1 : (upd H a (.dK ((addN ns q.name).map atomKV))) pb = some (.tup (q.body.map litV)) := by rw [upd_ne (ne_of hpb pt.ha (Ne.symm dk_not))]; exact hpb
    generalize upd H a (.dK ((addN ns q.name).map atomKV)) = H1 at pt1 s1 hpb1 ⊢
    have hrl : rows.length = c.rules.length := by rw [hwi.len, List.length_map]
    have hnr := gd.nr
    refine ⟨_, rfl, p, D, dx, _, _, rfl, pt1.ob, T.cl, T.nW, draftF_rows _ _ _ _, .inl ⟨rfl, _, SqL.of pt1.hw⟩, wr, _, _, rfl, rfl, pt1.hw, by rw [List.length_map]; exact small1000 (by omega), ?_⟩
    have e0 : rows.map nV ++ [V.int 0] = (rows ++ [0]).map nV := by rw [List.map_append]; rfl
    rw [e0]
    have pt2 := pt1.setRows (rows ++ [0])
    have s2 : Same H0 (upd H1 wr (.lst ((rows ++ [0]).map nV))) := Same.own s1 fr.fw
    have hpb2 : (upd H1 wr (.lst ((rows ++ [0]).map nV))) pb = some (.tup (q.body.map litV)) := by rw [upd_ne (ne_of hpb1 pt1.hw (by intro z; cases z))]; exact hpb1
    generalize upd H1 wr (.lst ((rows ++ [0]).map nV)) = H2 at pt2 s2 hpb2 ⊢
    have hlen1 := addN_len ns q.name
    have eat : ∀ ns', Ext (addN ns q.name) ns' q → ∀ x, x ∈ ns' ↔ x ∈ (c.add (.rule q)).atoms := fun ns' e x => by rw [e.2, addN_mem, hat, atoms_rule]
    have enum : ∀ ns', Ext (addN ns q.name) ns' q → ns'.length = (c.add (.rule q)).atoms.length := fun ns' e => atoms_few e.1 (eat ns' e)
    have hnl := gd.nl
    refine ⟨_, rfl, _, rfl, p, D, dx, _, _, rfl, pt2.ob, T.cl, T.nR, draftF_rules _ _ _ _, _, rfl, _, rfl, _, rfl, H0, false, p, dx, l, r, a, wr, pb, c, addN ns q.name, kL, kR, rows ++ [0], q, rfl, pt2, fr, s2, gd, by omega, hpb2, ok, fun kind H' hk s' hb => ?_, fun H' ns' kL' kR' s' he hok pt' => ?_⟩
    · refine qb kind H' hk s' fun hw => ?_
      obtain ⟨w1, w2, w3, w4, w5⟩ := Jb.wrong_rule.mp hw
      have he := ext_all (addN ns q.name) pt1.nd q
      refine hb _ he ⟨w1, w2, w3, ?_, ?_, ?_⟩
      · show c.laws.length ≤ 64; omega
      · show (c.rules ++ [q]).length ≤ 10
        rw [List.length_append]; exact w4
      · rw [enum _ he]; exact w5
    · have hw : Mo.wrong c (.rule q) = none := by
        obtain ⟨w1, w2, w3, w4, w5, w6⟩ := hok
        refine Jb.wrong_rule.mpr ⟨w1, w2, w3, ?_, ?_⟩
        · have : (c.rules ++ [q]).length ≤ 10 := w5
          rw [List.length_append] at this; exact this
        · rw [← enum _ he]; exact w6
      refine qg H' hw ⟨⟨dx, l, r, a, wr, ns', kL', kR', rows ++ [0], pt', fr, eat ns' he, ?_⟩, gd.add (l := .rule q) ok hw, s'⟩
      have hn : q.name ∉ c.rules.map Mo.Row.name := fun z => hok.1 (by
        unfold Mo.Case.names
        rw [List.map_append]
        exact List.mem_append.mpr (.inr z))
      have := hwi.rule hn
      have e : (c.add (.rule q)).rules.map Mo.Row.name = c.rules.map Mo.Row.name ++ [q.name] := by
        show (c.rules ++ [q]).map Mo.Row.name = _
        rw [List.map_append]; rfl
      rw [e]
      exact this
end
end L2.Jp
end Jp11_
section Jp12_
namespace L2.Jp
open PySem PySem.Spec PyProof.Rows L2 TL L2.JX
theorem good_law {c : Mo.Case} {q : Mo.Row} {n : Nat} (g : Jb.Good c) (o : Jb.RowOk q) (h : OkClause true c q n) (hn : n = (c.add (.law q)).atoms.length) : Jb.Good (c.add (.law q)) := by
  obtain ⟨h1, h2, h3, h4, h5, h6⟩ := h
  refine ⟨?_, fun r hq => ?_, h4, g.nr, by omega⟩
  · have e : (c.add (.law q)).names.Perm (c.names ++ [q.name]) := by
      simp only [Mo.Case.names, Mo.Case.add, List.map_append, List.map_cons, List.map_nil]
      rw [List.append_assoc, List.append_assoc]
      exact List.perm_append_comm.append_left _
    exact e.nodup_iff.mpr (Jb.nd_snoc' g.nd h1)
  · rcases hq with hq | hq
    · simp only [Mo.Case.add, List.mem_append, List.mem_singleton] at hq
      rcases hq with hq | rfl
      · exact g.ok r (.inl hq)
      · exact o
    · exact g.ok r (.inr hq)
theorem form_lens {c : Mo.Case} (g : Jb.Good c) : c.form.numbered.laws.length ≤ 1000 ∧ c.form.numbered.rules.length ≤ 1000 := by
  rw [Jb.form_numbered]
  have h1 := (Jb.form_laws_perm c).length_eq
  have h2 := (Jb.form_rules_perm c).length_eq
  have := g.nl
  have := g.nr
  constructor
  · show (c.form.laws.map _).length ≤ 1000
    rw [List.length_map]; omega
  · show (c.form.rules.map _).length ≤ 1000
    rw [List.length_map]; omega
section
variable {P : Program} {w : World} {K : PySem.W.Frag} {mg : Str → Option Value} {base : Heap}
theorem Parts.caseD {D : Addr} {H : Hp} {p dx l r a wr : Addr} {c : Mo.Case} {ns : List (List Nat)} {kL kR : List (Key × V)} {rows : List Nat} (h : Parts D H p dx l r a wr c ns kL kR rows) (g : Jb.Good c) (hat : ∀ x, x ∈ ns ↔ x ∈ c.atoms) : CaseD H a l r c := by
  have := g.nl
  have := g.nr
  have := g.na
  exact ⟨⟨ns, kL, kR, h.ha, h.nd, hat, h.hl, h.hL, h.hr, h.hR⟩, g.ndl, g.ndr, g.ok, by omega, by omega, by omega⟩
def spTakeLaw (D : Addr) : Sp := fun vs H Q _ => ∃ (H0 : Hp) (p pb : Addr) (c : Mo.Case) (q : Mo.Row), vs = [.ref p, sV q.name, .ref pb, litV q.head] ∧ DraftAt D H0 H p c ∧ H pb = some (.tup (q.body.map litV)) ∧ Jb.RowOk q ∧
  (∀ kind H', kind ≠ 0 → Same H0 H' → Mo.wrong c (.law q) ≠ none → Q (.int kind) H') ∧ ∀ H', Mo.wrong c (.law q) = none → DraftAt D H0 H' p (c.add (.law q)) → Q (.int 0) H'
theorem scTakeLaw : FnScope ["draft", "name", "body", "head", "kind"] ["draft", "name", "body", "head"] (defScope sTakeLaw) := ⟨rfl, rfl, rfl, by decide +kernel, rfl, by decide +kernel, by decide +kernel⟩
theorem ok_take_law {C D : Addr} (F : Fs mg) (T : DraftC K D) (h1 : Has P w K mg base 3 "take_clause" ["draft", "likes", "name", "body", "head"] (spTakeClause D)) (h2 : Has P w K mg base 5 "number_case" ["atoms", "laws", "rules"] (spNumberCase C))
    (h3 : Has P w K mg base 3 "clashes" ["case", "chosen"] (spClashes C)) (Df : Def K mg "take_law" sTakeLaw ["draft", "name", "body", "head"]) : Has P w K mg base 6 "take_law" ["draft", "name", "body", "head"] (spTakeLaw D) := by
  refine Df.has scTakeLaw (fun vs H Q E h => ?_) (fun f cdv A outer s H vs Q E hr h => ?_)
  · obtain ⟨H0, p, pb, c, q, rfl, _⟩ := h
    rfl
  · obtain ⟨H0, p, pb, c, q, rfl, da, hpb, ok, qb, qg⟩ := h
    obtain ⟨dx, l, r, a, wr, ns, kL, kR, rows, pt, fr, hat, hwi⟩ := da.ex
    have gd := da.gd
    refine ⟨_, pss_cons (ps_set (i := 4) scTakeLaw.nd rfl (Or.inl rfl) (pe_callH (h1.mono (k := 5)) hr (pa_cons (pv 0) (pa_cons (pe_fld (pv 0) rfl) (pa_cons (pv 1) (pa_cons (pv 2) (pa_cons (pv 3) pa_nil)))))))
      (pss_cons (ps_if (pt_cmpR op_ne (pv 4) (pe_gv F.no) (nomark _)) (pss_one (ps_ret (pv 4))) pss_nil)
      (pss_cons (ps_if (pt_val (pe_callH (h3.mono (k := 5)) hr (pa_cons (pe_callH h2 hr (pa_cons (pe_fld (pv 0) rfl) (pa_cons (pe_fld (pv 0) rfl) (pa_cons (pe_fld (pv 0) rfl) pa_nil)))) (pa_cons pe_int pa_nil)))) (pss_one (ps_ret (pe_gv F.clash))) pss_nil)
      (pss_one (ps_ret (pe_gv F.no))))), ?_⟩
    have hal := atoms_few pt.nd hat
    have hna := gd.na
    have hnl := gd.nl
    have hnr := gd.nr
    have eat : ∀ ns', Ext ns ns' q → ∀ x, x ∈ ns' ↔ x ∈ (c.add (.law q)).atoms := fun ns' e x => by rw [e.2, hat, atoms_law]
    have enum : ∀ ns', Ext ns ns' q → ns'.length = (c.add (.law q)).atoms.length := fun ns' e => atoms_few e.1 (eat ns' e)
    refine ⟨_, rfl, _, rfl, p, D, dx, _, _, rfl, pt.ob, T.cl, T.nL, draftF_laws _ _ _ _, _, rfl, _, rfl, _, rfl, H0, true, p, dx, l, r, a, wr, pb, c, ns, kL, kR, rows, q, rfl, pt, fr, da.s, gd, by omega, hpb, ok, fun kind H' hk s' hb => ?_, fun H' ns' kL' kR' s' he hok pt' => ?_⟩
    · refine ⟨_, rfl, rfl, _, rfl, ?_⟩
      have ek : (!decide (V.int kind = V.int 0)) = true := by
        rw [decide_eq_false (fun e => hk (V.int.inj e))]; rfl
      rw [ek]
      refine iteT ?_
      refine ⟨_, rfl, qb kind H' hk s' fun hw => ?_⟩
      obtain ⟨w1, w2, w3, w4, w5, w6⟩ := Jb.wrong_law.mp hw
      have he := ext_all ns pt.nd q
      refine hb _ he ⟨w1, w2, w3, ?_, ?_, ?_⟩
      · show (c.laws ++ [q]).length ≤ 64
        rw [List.length_append]; exact w4
      · show c.rules.length ≤ 10; omega
      · rw [enum _ he]; exact w5
    · refine ⟨_, rfl, rfl, _, rfl, ?_⟩
      refine iteF ?_
      have gd' : Jb.Good (c.add (.law q)) := good_law gd ok hok (enum _ he)
      have pt' : Parts D H' p dx l r a wr (c.add (.law q)) ns' kL' kR' rows := pt'
      refine ⟨_, rfl, p, D, dx, _, _, rfl, pt'.ob, T.cl, T.nA, draftF_atoms _ _ _ _, _, rfl, p, D, dx, _, _, rfl, pt'.ob, T.cl, T.nL, draftF_laws _ _ _ _, _, rfl, p, D, dx, _, _, rfl, pt'.ob, T.cl, T.nR, draftF_rules _ _ _ _, a, l, r, c.add (.law q), rfl, pt'.caseD gd' (eat ns' he), fun H2 q2 s2 n2 ca => ?_⟩
      have hls := form_lens gd'
      have hna' := gd'.na
      refine ⟨q2, _, _, 0, rfl, ca, hls.1, hls.2, by omega, fun H3 s3 => ?_⟩
      rw [Jb.clash_form]
      have s03 : Same H0 H3 := (s'.trans s2).trans s3
      refine ⟨_, rfl, ?_⟩
      cases hcl : (c.add (.law q)).numbered.clash 0 with
      | true =>
        refine iteT ?_
        refine qb 7 H3 (by decide) s03 fun hw => ?_
        have := (Jb.wrong_law.mp hw).2.2.2.2.2
        rw [hcl] at this; cases this
      | false =>
        refine iteF ?_
        have hw : Mo.wrong c (.law q) = none := by
          obtain ⟨w1, w2, w3, w4, w5, w6⟩ := hok
          refine Jb.wrong_law.mpr ⟨w1, w2, w3, ?_, ?_, hcl⟩
          · have : (c.laws ++ [q]).length ≤ 64 := w4
            rw [List.length_append] at this; exact this
          · rw [← enum _ he]; exact w6
        exact qg H3 hw ⟨⟨dx, l, r, a, wr, ns', kL', kR', rows, pt'.mono (s2.trans s3), fr, eat ns' he, hwi⟩, gd', s03⟩
end
end L2.Jp
end Jp12_
section Jp13_
namespace L2.Jp
open PySem PySem.Spec PyProof.Rows L2 TL L2.JX
theorem index_names {ns : List (List Nat)} (nd : ns.Nodup) {x : List Nat} {i : Nat} (h : ns[i]? = some x) : (ns.map sV)[i]? = some (sV x) ∧ eqV (sV x) (sV x) = true ∧ ∀ (m : Nat) (z : V), m < i → (ns.map sV)[m]? = some z → eqV z (sV x) = false := by
  refine ⟨by rw [List.getElem?_map, h]; rfl, ?_, fun m z hm hz => ?_⟩
  · show (str x == str x) = true
    exact beq_self_eq_true _
  · rw [List.getElem?_map] at hz
    cases e : ns[m]? with
    | none => rw [e] at hz; cases hz
    | some y =>
      rw [e] at hz
      cases hz
      show (str y == str x) = false
      rw [beq_eq_false_iff_ne]
      intro z2
      have : y = x := str_inj z2
      subst this
      have := Jb.ix_inj nd e h
      omega
theorem flat_names (ns : List (List Nat)) : (ns.map sV).all flatV = true := by
  rw [List.all_map]
  exact List.all_eq_true.mpr fun x _ => rfl
theorem mem_ix {ns : List (List Nat)} {x : List Nat} (h : x ∈ ns) : ∃ i : Nat, ns[i]? = some x := by
  obtain ⟨i, hi, e⟩ := List.getElem_of_mem h
  exact ⟨i, by rw [List.getElem?_eq_getElem hi, e]⟩
section
variable {P : Program} {w : World} {K : PySem.W.Frag} {mg : Str → Option Value} {base : Heap}
def spTakeWeight (D : Addr) : Sp := fun vs H Q _ => ∃ (H0 : Hp) (p : Addr) (c : Mo.Case) (x y : List Nat), vs = [.ref p, sV x, sV y] ∧ DraftAt D H0 H p c ∧
  (∀ kind H', kind ≠ 0 → Same H0 H' → Mo.wrong c (.weigh x y) ≠ none → Q (.int kind) H') ∧ ∀ H', Mo.wrong c (.weigh x y) = none → DraftAt D H0 H' p (c.add (.weigh x y)) → Q (.int 0) H'
theorem scTakeWeight : FnScope ["draft", "upper", "lower", "names"] ["draft", "upper", "lower"] (defScope sTakeWeight) := ⟨rfl, rfl, rfl, by decide +kernel, rfl, by decide +kernel, by decide +kernel⟩
theorem ok_take_weight {D : Addr} (B : Bl mg) (F : Fs mg) (T : DraftC K D) (h1 : Has P w K mg base 2 "going_on" ["rows"] (spGoingOn K)) (h2 : Has P w K mg base 2 "some_outweighs_itself" ["rows"] (spSelf K)) (Df : Def K mg "take_weight" sTakeWeight ["draft", "upper", "lower"]) :
    Has P w K mg base 3 "take_weight" ["draft", "upper", "lower"] (spTakeWeight D) := by
  refine Df.has scTakeWeight (fun vs H Q E h => ?_) (fun f cdv A outer s H vs Q E hr h => ?_)
  · obtain ⟨H0, p, c, x, y, rfl, _⟩ := h
    rfl
  · obtain ⟨H0, p, c, x, y, rfl, da, qb, qg⟩ := h
    obtain ⟨dx, l, r, a, wr, ns, kL, kR, rows, pt, fr, hat, hwi⟩ := da.ex
    have gd := da.gd
    have hu := hu_of hr
    refine ⟨_, pss_cons (ps_if (PW.pt (pw_or (pt_cmp (pc_dnotin hu (pv 1) (pe_fld (pv 0) rfl)) (by with_unfolding_all rfl)) (pw_or1 (pt_cmp (pc_dnotin hu (pv 2) (pe_fld (pv 0) rfl)) (by with_unfolding_all rfl))))) (pss_one (ps_ret (pe_gv F.rule))) pss_nil)
      (pss_cons (ps_set (i := 3) scTakeWeight.nd rfl (Or.inl rfl) (pe_callTy (cr_listD rfl) (by rfl) B.list boot_list (pa_cons (pe_fld (pv 0) rfl) pa_nil)))
      (pss_cons (ps_augS (pe_fld (pv 0) rfl) (pe_bm PySem.F.plainAttrs_list PySem.F.slot_list_index PySem.F.type_list_index mt_index (pv 3) (pa_cons (pv 1) pa_nil)) pget_list (pe_op op_shl pe_int (pe_bm PySem.F.plainAttrs_list PySem.F.slot_list_index PySem.F.type_list_index mt_index (pv 3) (pa_cons (pv 2) pa_nil))) iop_or set_list)
      (pss_cons (ps_fld (pv 0) (pe_callH h1 hr (pa_cons (pe_fld (pv 0) rfl) pa_nil)) rfl)
      (pss_cons (ps_if (pt_val (pe_callH h2 hr (pa_cons (pe_fld (pv 0) rfl) pa_nil))) (pss_one (ps_ret (pe_gv F.self))) pss_nil)
      (pss_one (ps_ret (pe_gv F.no))))))), ?_⟩
    refine ⟨_, rfl, _, rfl, p, D, dx, _, _, rfl, pt.ob, T.cl, T.nR, draftF_rules _ _ _ _, r, _, rfl, DGet.k (k := Sum.inr (str x)) pt.hr, _, rfl, ?_⟩
    refine ite2 (fun z1 => ?_) (fun z1 => ?_)
    · refine iteT ?_
      refine qb 5 H (by decide) da.s fun hw => ?_
      have := (keys_in pt.hR x).mpr (Jb.wrong_weigh.mp hw).1
      rw [this] at z1
      cases z1
    have hx : x ∈ c.rules.map Mo.Row.name := (keys_in pt.hR x).mp (by
      cases e : (valV kR (.inr (str x) : Key)).isSome with
      | true => rfl
      | false => exact absurd (show (!(valV kR (.inr (str x) : Key)).isSome) = true by rw [e]; rfl) z1)
    refine ⟨_, rfl, _, rfl, p, D, dx, _, _, rfl, pt.ob, T.cl, T.nR, draftF_rules _ _ _ _, r, _, rfl, DGet.k (k := Sum.inr (str y)) pt.hr, _, rfl, ?_⟩
    refine ite2 (fun z2 => ?_) (fun z2 => ?_)
    · refine qb 5 H (by decide) da.s fun hw => ?_
      have := (keys_in pt.hR y).mpr (Jb.wrong_weigh.mp hw).2.1
      rw [this] at z2
      cases z2
    have hy : y ∈ c.rules.map Mo.Row.name := (keys_in pt.hR y).mp (by
      cases e : (valV kR (.inr (str y) : Key)).isSome with
      | true => rfl
      | false => exact absurd (show (!(valV kR (.inr (str y) : Key)).isSome) = true by rw [e]; rfl) z2)
    clear z1 z2
    obtain ⟨i, hi⟩ := mem_ix hx
    obtain ⟨j, hj⟩ := mem_ix hy
    have ndr := gd.ndr
    have hkeys : kR.map (fun kv => kV kv.1) = (c.rules.map Mo.Row.name).map sV := by
      have e1 : (kR.map fun kv => kV kv.1) = (kR.map (·.1)).map kV := by rw [List.map_map]; rfl
      rw [e1, pt.hR.keys, List.map_map, List.map_map, List.map_map]; rfl
    refine ⟨_, rfl, p, D, dx, _, _, rfl, pt.ob, T.cl, T.nR, draftF_rules _ _ _ _, r, kR, rfl, pt.hr, fun ln hln => ?_⟩
    rw [hkeys]
    have k1 : Same H (upd H ln (.lst ((c.rules.map Mo.Row.name).map sV))) := same_new hln
    have hln1 : (upd H ln (.lst ((c.rules.map Mo.Row.name).map sV))) ln = some (.lst ((c.rules.map Mo.Row.name).map sV)) := upd_same
    have nlw : ln ≠ wr := Ne.symm (ne_of_none pt.hw hln)
    have fln : H0 ln = none := da.s.free hln
    generalize upd H ln (.lst ((c.rules.map Mo.Row.name).map sV)) = H1 at k1 hln1 ⊢
    have pt1 := pt.mono k1
    have s1 : Same H0 H1 := da.s.trans k1
    obtain ⟨i1, i2, i3⟩ := index_names ndr hi
    obtain ⟨j1, j2, j3⟩ := index_names ndr hj
    have hrl : rows.length = c.rules.length := by rw [hwi.len, List.length_map]
    have hnr := gd.nr
    have hil : i < rows.length := by
      have := (List.getElem?_eq_some_iff.mp hi).1
      rw [List.length_map] at this; omega
    have hjl : j < rows.length := by
      have := (List.getElem?_eq_some_iff.mp hj).1
      rw [List.length_map] at this; omega
    have m1 : (rows.map nV)[i]? = some (nV (rows.getD i 0)) := by rw [List.getElem?_map, getD_some hil]; rfl
    have fl := flat_names (c.rules.map Mo.Row.name)
    refine ⟨_, rfl, p, D, dx, _, _, rfl, pt1.ob, T.cl, T.nW, draftF_rows _ _ _ _, _, rfl, .inl ⟨rfl, _, SqL.of hln1⟩, _, rfl, ln, _, _, i, _, rfl, rfl, SqL.of hln1, rfl, fl, i1, i2, i3, wr, _, i, _, rfl, rfl, SqL.of pt1.hw, m1, ?_⟩
    refine ⟨_, rfl, .inl ⟨rfl, _, SqL.of hln1⟩, _, rfl, ln, _, _, j, _, rfl, rfl, SqL.of hln1, rfl, fl, j1, j2, j3, _, _, rfl, rfl, ⟨by omega, by omega, by decide⟩, _, _, rfl, rfl, wr, _, _, i, rfl, rfl, pt1.hw, ixN_nat (by rw [List.length_map]; omega), ?_⟩
    have erow : (rows.map nV).set i (V.int (Builtin.bitOr ((rows.getD i 0 : Nat) : Int) (1 * 2 ^ ((j : Int).toNat)))) = (Jb.putBit rows i j).map nV := by
      unfold Jb.putBit
      rw [List.map_set, one_shl, or_nat]; rfl
    rw [erow]
    have pt2 := pt1.setRows (Jb.putBit rows i j)
    have s2 : Same H0 (upd H1 wr (.lst ((Jb.putBit rows i j).map nV))) := Same.own s1 fr.fw
    generalize upd H1 wr (.lst ((Jb.putBit rows i j).map nV)) = H2 at pt2 s2 ⊢
    have hpl : (Jb.putBit rows i j).length = rows.length := by
      unfold Jb.putBit
      rw [List.length_set]
    refine ⟨_, rfl, p, D, dx, _, _, rfl, pt2.ob, T.cl, T.nW, draftF_rows _ _ _ _, wr, Jb.putBit rows i j, rfl, SqL.of pt2.hw, by omega, fun H3 lg k3 n3 h3 => ?_⟩
    have pt3 := pt2.mono k3
    refine ⟨_, rfl, p, D, dx, _, rfl, pt3.ob, T.cl, T.nW, draftF_len _ _ _ _, ?_⟩
    have pt4 := (pt3.newRows h3).weigh x y
    have s4 : Same H0 (upd H3 p (.ins D dx (putF "rows" (.ref lg) (draftF (.ref l) (.ref r) (.ref a) (.ref wr))))) := Same.own (s2.trans k3) fr.fp
    generalize upd H3 p (.ins D dx (putF "rows" (.ref lg) (draftF (.ref l) (.ref r) (.ref a) (.ref wr)))) = H4 at pt4 s4 ⊢
    have fg : H0 lg = none := s2.free n3
    have hwi' := hwi.weigh ndr hi hj
    have hround := hwi'.round
    have hgl : (Jb.goingOn (Jb.putBit rows i j)).length = rows.length := by rw [Jb.goingOn_len, hpl]
    refine ⟨_, rfl, p, D, dx, _, _, rfl, pt4.ob, T.cl, T.nW, draftF_rows _ _ _ _, lg, _, rfl, SqL.of pt4.hw, by omega, fun H5 k5 => ?_⟩
    rw [hround]
    refine ⟨_, rfl, ?_⟩
    cases hg : Mo.goesRound (c.weighs ++ [(x, y)]) with
    | true =>
      refine iteT ?_
      refine qb 6 H5 (by decide) (s4.trans k5) fun hw => ?_
      have := (Jb.wrong_weigh.mp hw).2.2
      rw [hg] at this; cases this
    | false =>
      refine iteF ?_
      have hw : Mo.wrong c (.weigh x y) = none := Jb.wrong_weigh.mpr ⟨hx, hy, hg⟩
      have hnm : ∀ z, z ∈ c.rules.map Mo.Row.name → Mo.isName z = true := fun z hz => by
        obtain ⟨q, hq, rfl⟩ := List.mem_map.mp hz
        exact (gd.ok q (.inr hq)).name
      exact qg H5 hw ⟨⟨dx, l, r, a, lg, ns, kL, kR, _, pt4.mono k5, ⟨fr.fp, fr.fl, fr.fr, fr.fa, fg⟩, hat, hwi'⟩, gd.add (l := .weigh x y) ⟨hnm x hx, hnm y hy⟩ hw, s4.trans k5⟩
end
end L2.Jp
end Jp13_
section Jp14_
namespace L2.Jp
open PySem PySem.Spec PyProof.Rows L2 TL L2.JX
def readingF (k pl c : V) : List (Str × V) := putF "case" c (putF "place" pl (putF "kind" k []))
theorem readingF_kind (k p c : V) : (readingF k p c).lookup ("kind" : Str) = some k := by
  unfold readingF
  rw [lookup_putF, if_neg (by decide +kernel), lookup_putF, if_neg (by decide +kernel), lookup_putF, if_pos rfl]
theorem readingF_case (k p c : V) : (readingF k p c).lookup ("case" : Str) = some c := by
  unfold readingF
  rw [lookup_putF, if_pos rfl]
structure ReadingC (K : PySem.W.Frag) (R : Addr) : Prop where
  cl : Cls K R
  nK : NoAttr K R "kind"
  nP : NoAttr K R "place"
  nC : NoAttr K R "case"
section
variable {P : Program} {w : World} {K : PySem.W.Frag} {mg : Str → Option Value} {base : Heap}
def spReadingInit (C : Addr) : Sp := fun vs H Q _ => ∃ (p dx : Addr) (a l r : V), vs = [.ref p, a, l, r] ∧ H p = some (.ins C dx []) ∧ Q .non (upd H p (.ins C dx (readingF a l r)))
theorem scReadingInit : FnScope ["self", "kind", "place", "case"] ["self", "kind", "place", "case"] (defScope sReadingInit) := ⟨rfl, rfl, rfl, by decide +kernel, rfl, by decide +kernel, by decide +kernel⟩
theorem mk_reading {C : Addr} (T : ReadingC K C) (D : ClsAt K mg "Reading" "Reading.__init__" sReadingInit ["self", "kind", "place", "case"] C) : Maker P w K mg base "Reading" C 1 ["self", "kind", "place", "case"] (spReadingInit C) := by
  refine D.maker scReadingInit (fun vs H Q E h => ?_) (fun f cdv A outer s H vs Q E hr h => ?_)
  · obtain ⟨p, dx, a, l, r, rfl, _⟩ := h
    rfl
  · obtain ⟨p, dx, a, l, r, rfl, hp, q⟩ := h
    refine ⟨_, pss_cons (ps_fld (pv 0) (pv 1) rfl) (pss_cons (ps_fld (pv 0) (pv 2) rfl) (pss_one (ps_fld (pv 0) (pv 3) rfl))), ?_⟩
    refine ⟨_, rfl, _, rfl, p, C, dx, _, rfl, hp, T.cl, T.nK, by show 0 < 1000; decide, ?_⟩
    refine ⟨_, rfl, _, rfl, p, C, dx, _, rfl, upd_same, T.cl, T.nP, Nat.lt_of_le_of_lt (putF_lt (n := 0) (Nat.le_refl _)) (by decide), ?_⟩
    refine ⟨_, rfl, _, rfl, p, C, dx, _, rfl, upd_same, T.cl, T.nC, Nat.lt_of_le_of_lt (putF_lt (n := 1) (putF_lt (n := 0) (Nat.le_refl _))) (by decide), ?_⟩
    rw [upd_upd, upd_upd]
    exact q
def spDraftInit (D : Addr) : Sp := fun vs H Q _ => ∃ (p dx : Addr), vs = [.ref p] ∧ H p = some (.ins D dx []) ∧ ∀ H' l r a wr, (∀ b o, b ≠ p → H b = some o → H' b = some o) → H l = none → H r = none → H a = none → H wr = none → H' p = some (.ins D dx (draftF (.ref l) (.ref r) (.ref a) (.ref wr))) →
  H' l = some (.dK []) → H' r = some (.dK []) → H' a = some (.dK []) → H' wr = some (.lst []) → l ≠ r → l ≠ a → r ≠ a → Q .non H'
theorem scDraftInit : FnScope ["self"] ["self"] (defScope sDraftInit) := ⟨rfl, rfl, rfl, by decide +kernel, rfl, by decide +kernel, by decide +kernel⟩
theorem mk_draft {D : Addr} (T : DraftC K D) (Df : ClsAt K mg "Draft" "Draft.__init__" sDraftInit ["self"] D) : Maker P w K mg base "Draft" D 1 ["self"] (spDraftInit D) := by
  refine Df.maker scDraftInit (fun vs H Q E h => ?_) (fun f cdv A outer s H vs Q E hr h => ?_)
  · obtain ⟨p, dx, rfl, _⟩ := h
    rfl
  · obtain ⟨p, dx, rfl, hp, q⟩ := h
    refine ⟨_, pss_cons (ps_fld (pv 0) pe_dnewK rfl) (pss_cons (ps_fld (pv 0) pe_dnewK rfl) (pss_cons (ps_fld (pv 0) pe_dnewK rfl) (pss_one (ps_fld (pv 0) (pe_lst pa_nil) rfl)))), ?_⟩
    -- what a new object changes
    have key : ∀ {H1 : Hp} {x : Addr} {o o1 o2 : HO}, H1 p = some o1 → H1 x = none → (∀ b u, b ≠ p → H1 b = some u → (upd (upd H1 x o) p o2) b = some u) ∧ (upd (upd H1 x o) p o2) x = some o ∧ (upd H1 x o) p = some o1 := fun {H1 x o o1 o2} h1 h2 => by
      have hne : p ≠ x := ne_of_none h1 h2
      refine ⟨fun b u hb e => ?_, ?_, ?_⟩
      · rw [upd_ne hb, upd_ne (ne_of_none e h2)]; exact e
      · rw [upd_ne (Ne.symm hne), upd_same]
      · rw [upd_ne hne]; exact h1
    intro l hl
    obtain ⟨a1, a2, a3⟩ := key (o := .dK []) (o2 := .ins D dx (putF "laws" (.ref l) [])) hp hl
    refine ⟨_, rfl, p, D, dx, _, rfl, a3, T.cl, T.nL, by show 0 < 1000; decide, ?_⟩
    have b1 : (upd (upd H l (.dK [])) p (.ins D dx (putF "laws" (.ref l) []))) p = some (.ins D dx (putF "laws" (.ref l) [])) := upd_same
    generalize upd (upd H l (.dK [])) p (.ins D dx (putF "laws" (.ref l) [])) = H1 at a1 a2 b1 ⊢
    have n1 : ∀ {x : Addr}, H1 x = none → H x = none := fun {x} hx => by
      cases e : H x with
      | none => rfl
      | some o =>
        by_cases hb : x = p
        · subst hb; rw [b1] at hx; cases hx
        · rw [a1 x o hb e] at hx; cases hx
    intro r hr1
    obtain ⟨c1, c2, c3⟩ := key (o := .dK []) (o2 := .ins D dx (putF "rules" (.ref r) (putF "laws" (.ref l) []))) b1 hr1
    refine ⟨_, rfl, p, D, dx, _, rfl, c3, T.cl, T.nR, Nat.lt_of_le_of_lt (putF_lt (n := 0) (Nat.le_refl _)) (by decide), ?_⟩
    have b2 : (upd (upd H1 r (.dK [])) p (.ins D dx (putF "rules" (.ref r) (putF "laws" (.ref l) [])))) p = some (.ins D dx (putF "rules" (.ref r) (putF "laws" (.ref l) []))) := upd_same
    generalize upd (upd H1 r (.dK [])) p (.ins D dx (putF "rules" (.ref r) (putF "laws" (.ref l) []))) = H2 at c1 c2 b2 ⊢
    have n2 : ∀ {x : Addr}, H2 x = none → H1 x = none := fun {x} hx => by
      cases e : H1 x with
      | none => rfl
      | some o =>
        by_cases hb : x = p
        · subst hb; rw [b2] at hx; cases hx
        · rw [c1 x o hb e] at hx; cases hx
    intro a ha
    obtain ⟨d1, d2, d3⟩ := key (o := .dK []) (o2 := .ins D dx (putF "atoms" (.ref a) (putF "rules" (.ref r) (putF "laws" (.ref l) [])))) b2 ha
    refine ⟨_, rfl, p, D, dx, _, rfl, d3, T.cl, T.nA, Nat.lt_of_le_of_lt (putF_lt (n := 1) (putF_lt (n := 0) (Nat.le_refl _))) (by decide), ?_⟩
    have b3 : (upd (upd H2 a (.dK [])) p (.ins D dx (putF "atoms" (.ref a) (putF "rules" (.ref r) (putF "laws" (.ref l) []))))) p = some (.ins D dx (putF "atoms" (.ref a) (putF "rules" (.ref r) (putF "laws" (.ref l) [])))) := upd_same
    generalize upd (upd H2 a (.dK [])) p (.ins D dx (putF "atoms" (.ref a) (putF "rules" (.ref r) (putF "laws" (.ref l) [])))) = H3 at d1 d2 b3 ⊢
    have n3 : ∀ {x : Addr}, H3 x = none → H2 x = none := fun {x} hx => by
      cases e : H2 x with
      | none => rfl
      | some o =>
        by_cases hb : x = p
        · subst hb; rw [b3] at hx; cases hx
        · rw [d1 x o hb e] at hx; cases hx
    refine ⟨by show 0 ≤ sizeLine; omega, fun wr hwr => ?_⟩
    obtain ⟨e1, e2, e3⟩ := key (o := .lst []) (o2 := .ins D dx (draftF (.ref l) (.ref r) (.ref a) (.ref wr))) b3 hwr
    refine ⟨_, rfl, p, D, dx, _, rfl, e3, T.cl, T.nW, Nat.lt_of_le_of_lt (putF_lt (n := 2) (putF_lt (n := 1) (putF_lt (n := 0) (Nat.le_refl _)))) (by decide), ?_⟩
    have npl : l ≠ p := Ne.symm (ne_of_none hp hl)
    have npr : r ≠ p := Ne.symm (ne_of_none b1 hr1)
    have npa : a ≠ p := Ne.symm (ne_of_none b2 ha)
    refine q _ l r a wr (fun b o hb h => e1 b o hb (d1 b o hb (c1 b o hb (a1 b o hb h)))) hl (n1 hr1) (n1 (n2 ha)) (n1 (n2 (n3 hwr))) upd_same ?_ ?_ ?_ e2 ?_ ?_ ?_
    · exact e1 _ _ npl (d1 _ _ npl (c1 _ _ npl a2))
    · exact e1 _ _ npr (d1 _ _ npr c2)
    · exact e1 _ _ npa d2
    · exact ne_of_none a2 hr1
    · exact ne_of_none (c1 _ _ npl a2) ha
    · exact ne_of_none c2 ha
def spTakeLine (D : Addr) : Sp := fun vs H Q _ => ∃ (H0 : Hp) (p : Addr) (c : Mo.Case) (b : List Nat), vs = [.ref p, sV b] ∧ b.length ≤ 8400 ∧ DraftAt D H0 H p c ∧
  (∀ kind H', kind ≠ 0 → Same H0 H' → (Mo.lineIn b = none ∨ ∃ l, Mo.lineIn b = some l ∧ Mo.wrong c l ≠ none) → Q (.int kind) H') ∧ ∀ H' l, Mo.lineIn b = some l → Mo.wrong c l = none → DraftAt D H0 H' p (c.add l) → Q (.int 0) H'
theorem scTakeLine : FnScope ["draft", "line", "told"] ["draft", "line"] (defScope sTakeLine) := ⟨rfl, rfl, rfl, by decide +kernel, rfl, by decide +kernel, by decide +kernel⟩
theorem ok_take_line {D : Addr} (W : Ws mg) (F : Fs mg) (h1 : Has P w K mg base 6 "read_line" ["line"] spReadLine) (h2 : Has P w K mg base 3 "take_weight" ["draft", "upper", "lower"] (spTakeWeight D)) (h3 : Has P w K mg base 6 "take_law" ["draft", "name", "body", "head"] (spTakeLaw D))
    (h4 : Has P w K mg base 4 "take_rule" ["draft", "name", "body", "head"] (spTakeRule D)) (Df : Def K mg "take_line" sTakeLine ["draft", "line"]) : Has P w K mg base 7 "take_line" ["draft", "line"] (spTakeLine D) := by
  refine Df.has scTakeLine (fun vs H Q E h => ?_) (fun f cdv A outer s H vs Q E hr h => ?_)
  · obtain ⟨H0, p, c, b, rfl, _⟩ := h
    rfl
  · obtain ⟨H0, p, c, b, rfl, hb, da, qb, qg⟩ := h
    refine ⟨_, pss_cons (ps_set (i := 2) scTakeLine.nd rfl (Or.inl rfl) (pe_callH h1 hr (pa_cons (pv 1) pa_nil)))
      (pss_cons (ps_if (pt_cmp (pc_isN (pv 2))) (pss_one (ps_ret (pe_gv F.line))) pss_nil)
      (pss_cons (ps_if (pt_cmpR op_eq (pe_ix ix_tup (pv 2) pe_int (fun _ _ => rfl)) (pe_gv W.weigh) (nomark _)) (pss_one (ps_ret (pe_callH (h2.mono (k := 6)) hr (pa_cons (pv 0) (pa_cons (pe_ix ix_tup (pv 2) pe_int (fun _ _ => rfl)) (pa_cons (pe_ix ix_tup (pv 2) pe_int (fun _ _ => rfl)) pa_nil)))))) pss_nil)
      (pss_cons (ps_if (pt_cmpR op_eq (pe_ix ix_tup (pv 2) pe_int (fun _ _ => rfl)) (pe_gv W.law) (nomark _)) (pss_one (ps_ret (pe_callH h3 hr (pa_cons (pv 0) (pa_cons (pe_ix ix_tup (pv 2) pe_int (fun _ _ => rfl)) (pa_cons (pe_ix ix_tup (pv 2) pe_int (fun _ _ => rfl)) (pa_cons (pe_ix ix_tup (pv 2) pe_int (fun _ _ => rfl)) pa_nil))))))) pss_nil)
      (pss_one (ps_ret (pe_callH (h4.mono (k := 6)) hr (pa_cons (pv 0) (pa_cons (pe_ix ix_tup (pv 2) pe_int (fun _ _ => rfl)) (pa_cons (pe_ix ix_tup (pv 2) pe_int (fun _ _ => rfl)) (pa_cons (pe_ix ix_tup (pv 2) pe_int (fun _ _ => rfl)) pa_nil)))))))))), ?_⟩
    refine ⟨_, rfl, ?_⟩
    refine ⟨b, rfl, hb, fun H1 s1 hn => ?_, fun H1 pt l s1 hl ht => ?_⟩
    · refine ⟨_, rfl, _, rfl, ?_⟩
      refine iteT ?_
      exact qb 1 H1 (by decide) (da.s.trans s1) (.inl hn)
    · have da1 := da.mono s1
      have okl := Jb.line_ok hl
      refine ⟨_, rfl, _, rfl, ?_⟩
      refine iteF ?_
      cases l with
      | weigh x y =>
        have ht : H1 pt = some (.tup [sV weighB, sV x, sV y]) := ht
        refine ⟨_, rfl, pt, _, 0, _, rfl, rfl, SqT.of ht, atI_nat (j := 0) rfl, rfl, _, rfl, ?_⟩
        have e : decide (sV weighB = V.str (Str.ofString "weigh")) = true := decide_eq_true (by rw [show (Str.ofString "weigh") = str weighB from weigh_s]; rfl)
        refine ite2 (fun _ => ?_) (fun z => absurd e z)
        refine ⟨_, rfl, _, rfl, pt, _, 1, _, rfl, rfl, SqT.of ht, atI_nat (j := 1) rfl, _, rfl, pt, _, 2, _, rfl, rfl, SqT.of ht, atI_nat (j := 2) rfl, H0, p, c, x, y, rfl, da1, fun kind H' hk s' hw => qb kind H' hk s' (.inr ⟨_, hl, hw⟩), fun H' hw da' => qg H' _ hl hw da'⟩
      | law q =>
        obtain ⟨pb, ht, hpb⟩ := ht
        refine ⟨_, rfl, pt, _, 0, _, rfl, rfl, SqT.of ht, atI_nat (j := 0) rfl, rfl, _, rfl, ?_⟩
        have e0 : ¬ decide (sV lawB = V.str (Str.ofString "weigh")) = true := fun z => by
          have z := of_decide_eq_true z
          rw [show (Str.ofString "weigh") = str weighB from weigh_s] at z
          have := str_inj (V.str.inj z)
          revert this
          decide
        refine ite2 (fun z => absurd z e0) (fun _ => ?_)
        refine ⟨_, rfl, pt, _, 0, _, rfl, rfl, SqT.of ht, atI_nat (j := 0) rfl, rfl, _, rfl, ?_⟩
        have e : decide (sV lawB = V.str (Str.ofString "law")) = true := decide_eq_true (by rw [show (Str.ofString "law") = str lawB from law_s]; rfl)
        refine ite2 (fun _ => ?_) (fun z => absurd e z)
        refine ⟨_, rfl, _, rfl, pt, _, 1, _, rfl, rfl, SqT.of ht, atI_nat (j := 1) rfl, _, rfl, pt, _, 2, _, rfl, rfl, SqT.of ht, atI_nat (j := 2) rfl, _, rfl, pt, _, 3, _, rfl, rfl, SqT.of ht, atI_nat (j := 3) rfl, H0, p, pb, c, q, rfl, da1, hpb, okl, fun kind H' hk s' hw => qb kind H' hk s' (.inr ⟨_, hl, hw⟩), fun H' hw da' => qg H' _ hl hw da'⟩
      | rule q =>
        obtain ⟨pb, ht, hpb⟩ := ht
        refine ⟨_, rfl, pt, _, 0, _, rfl, rfl, SqT.of ht, atI_nat (j := 0) rfl, rfl, _, rfl, ?_⟩
        have e0 : ¬ decide (sV ruleB = V.str (Str.ofString "weigh")) = true := fun z => by
          have z := of_decide_eq_true z
          rw [show (Str.ofString "weigh") = str weighB from weigh_s] at z
          have := str_inj (V.str.inj z)
          revert this
          decide
        refine ite2 (fun z => absurd z e0) (fun _ => ?_)
        refine ⟨_, rfl, pt, _, 0, _, rfl, rfl, SqT.of ht, atI_nat (j := 0) rfl, rfl, _, rfl, ?_⟩
        have e : ¬ decide (sV ruleB = V.str (Str.ofString "law")) = true := fun z => by
          have z := of_decide_eq_true z
          rw [show (Str.ofString "law") = str lawB from law_s] at z
          have := str_inj (V.str.inj z)
          revert this
          decide
        refine ite2 (fun z => absurd z e) (fun _ => ?_)
        refine ⟨_, rfl, _, rfl, pt, _, 1, _, rfl, rfl, SqT.of ht, atI_nat (j := 1) rfl, _, rfl, pt, _, 2, _, rfl, rfl, SqT.of ht, atI_nat (j := 2) rfl, _, rfl, pt, _, 3, _, rfl, rfl, SqT.of ht, atI_nat (j := 3) rfl, H0, p, pb, c, q, rfl, da1, hpb, okl, fun kind H' hk s' hw => qb kind H' hk s' (.inr ⟨_, hl, hw⟩), fun H' hw da' => qg H' _ hl hw da'⟩
end
end L2.Jp
end Jp14_
section Jp15_
namespace L2.Jp
open PySem PySem.Spec PyProof.Rows L2 TL L2.JX
theorem lines_len (b : List Nat) : ∀ acc : List Nat, (Jb.cutAt 10 acc b).length ≤ b.length + 1 ∧ ∀ x ∈ Jb.cutAt 10 acc b, x.length ≤ acc.length + b.length := by
  induction b with
  | nil => intro acc; simp [Jb.cutAt]
  | cons c r ih =>
    intro acc
    unfold Jb.cutAt
    split
    · obtain ⟨h1, h2⟩ := ih []
      refine ⟨by simp; omega, fun x hx => ?_⟩
      rcases List.mem_cons.mp hx with rfl | hx
      · simp
      · have := h2 x hx; simp at this ⊢; omega
    · obtain ⟨h1, h2⟩ := ih (acc ++ [c])
      refine ⟨by simp; omega, fun x hx => ?_⟩
      have := h2 x hx
      simp at this ⊢; omega
theorem read_none {t : List Nat} (h : ∃ f, Mo.readFrom Mo.Case.none_ 0 (Mo.linesOf t).1 = .error f) : Jb.readT t = none := by
  obtain ⟨f, h⟩ := h
  unfold Jb.readT
  rw [h]
theorem read_ok {t : List Nat} {c : Mo.Case} {p : Nat} (h : Mo.readFrom Mo.Case.none_ 0 (Mo.linesOf t).1 = .ok (c, p)) : Jb.readT t = if (Mo.linesOf t).2 = [] then some c else none := by
  unfold Jb.readT
  rw [h]
section
variable {P : Program} {w : World} {K : PySem.W.Frag} {mg : Str → Option Value} {base : Heap}
def spReadCase (K : PySem.W.Frag) (C R : Addr) : Sp := fun vs H Q _ => ∃ (a : Addr) (t : List Nat), vs = [.ref a] ∧ SqL K H a (t.map nV) ∧ t.length ≤ 8300 ∧
  (∀ H' q dx kind pl, Same H H' → kind ≠ 0 → Jb.readT t = none → H' q = some (.ins R dx (readingF (.int kind) (.int pl) .non)) → Q (.ref q) H') ∧
  ∀ H' q dx qc c, Same H H' → Jb.readT t = some c → H' q = some (.ins R dx (readingF (.int 0) (.int 0) (.ref qc))) → CaseAt C H' qc c.atoms c.form.numbered → Q (.ref q) H'
theorem scReadCase : FnScope ["t", "lines", "rest", "draft", "place", "line", "kind"] ["t"] (defScope sReadCase) := ⟨rfl, rfl, rfl, by decide +kernel, rfl, by decide +kernel, by decide +kernel⟩
theorem ok_read_case {C D R : Addr} (B : Bl mg) (F : Fs mg) (T : DraftC K D) (MD : Maker P w K mg base "Draft" D 1 ["self"] (spDraftInit D)) (MR : Maker P w K mg base "Reading" R 1 ["self", "kind", "place", "case"] (spReadingInit R))
    (h1 : Has P w K mg base 1 "text_of" ["numbers"] (spTextOf K)) (h2 : Has P w K mg base 7 "take_line" ["draft", "line"] (spTakeLine D)) (h3 : Has P w K mg base 5 "number_case" ["atoms", "laws", "rules"] (spNumberCase C)) (Df : Def K mg "read_case" sReadCase ["t"]) :
    Has P w K mg base 8 "read_case" ["t"] (spReadCase K C R) := by
  refine Df.has scReadCase (fun vs H Q E h => ?_) (fun f cdv A outer s H vs Q E hr h => ?_)
  · obtain ⟨a, t, rfl, _⟩ := h
    rfl
  · obtain ⟨a, t, rfl, ha, hz, q0, q1⟩ := h
    refine ⟨_, pss_cons (ps_set (i := 1) scReadCase.nd rfl (Or.inl rfl) (pe_split (pe_callH (h1.mono (k := 7)) hr (pa_cons (pv 0) pa_nil)) pe_str))
      (pss_cons (ps_set (i := 2) scReadCase.nd rfl (Or.inl rfl) (pe_bm0 PySem.F.plainAttrs_list PySem.F.slot_list_pop PySem.F.type_list_pop mt_pop (pv 1)))
      (pss_cons (ps_set (i := 3) scReadCase.nd rfl (Or.inl rfl) (pe_makeH0 MD (hr.mono (by decide))))
      (pss_cons (ps_set (i := 4) scReadCase.nd rfl (Or.inl rfl) pe_int)
      (pss_cons (ps_for PassesOwn.never rfl (pi_list (pv 1)) (pg_name (i := 5) scReadCase.nd rfl (Or.inl rfl))
        (pss_cons (ps_set (i := 6) scReadCase.nd rfl (Or.inl rfl) (pe_callH h2 hr (pa_cons (pv 3) (pa_cons (pv 5) pa_nil))))
        (pss_cons (ps_if (pt_cmpR op_ne (pv 6) (pe_gv F.no) (nomark _)) (pss_one (ps_ret (pe_makeH MR (hr.mono (by decide)) (pa_cons (pv 6) (pa_cons (pv 4) (pa_cons pe_non pa_nil)))))) pss_nil)
        (pss_one (ps_aug (i := 4) scReadCase.nd rfl (Or.inl rfl) (pe_op op_add (pe_callB call_len_str (by rfl) B.len PySem.boot_len (pa_cons (pv 5) pa_nil)) pe_int) iop_add)))))
      (pss_cons (ps_if (pt_cmpR op_ne (pv 2) pe_str (nomark _)) (pss_one (ps_ret (pe_makeH MR (hr.mono (by decide)) (pa_cons (pe_gv F.line) (pa_cons (pe_callB call_len_seq (by rfl) B.len PySem.boot_len (pa_cons (pv 0) pa_nil)) (pa_cons pe_non pa_nil)))))) pss_nil)
      (pss_one (ps_ret (pe_makeH MR (hr.mono (by decide)) (pa_cons (pe_gv F.no) (pa_cons pe_int (pa_cons (pe_callH (h3.mono (k := 7)) hr (pa_cons (pe_fld (pv 3) rfl) (pa_cons (pe_fld (pv 3) rfl) (pa_cons (pe_fld (pv 3) rfl) pa_nil)))) pa_nil))))))))))), ?_⟩
    have e10 : (Str.ofString "\n") = str [10] := ofS rfl
    have esp : Txt.split (str (t.map Jb.sg)) (Str.ofString "\n") = ((Mo.linesOf (t.map Jb.sg)).1 ++ [(Mo.linesOf (t.map Jb.sg)).2]).map str := by
      rw [e10, split1 _ 10 (by decide), Jb.cut_lines0]
    have hsz := lines_len (t.map Jb.sg) []
    rw [Jb.cut_lines0, List.length_map] at hsz
    have hrd := Jb.readT_sg t
    have hrn := @read_none (t.map Jb.sg)
    have hro := @read_ok (t.map Jb.sg)
    rw [hrd] at hrn hro
    refine ⟨_, rfl, a, t, rfl, ha, hz, fun H1 s1 => ?_⟩
    refine ⟨⟨_, rfl⟩, _, _, rfl, rfl, rfl, by rw [str_len, List.length_map]; rw [sizeLine_eq]; omega, fun ll hll => ?_⟩
    have hlst : (upd H1 ll (.lst ((Txt.split (str (t.map Jb.sg)) (Str.ofString "\n")).map V.str))) ll = some (.lst (((Mo.linesOf (t.map Jb.sg)).1 ++ [(Mo.linesOf (t.map Jb.sg)).2]).map sV)) := by
      rw [upd_same, esp, List.map_map]; rfl
    have k1 : Same H (upd H1 ll (.lst ((Txt.split (str (t.map Jb.sg)) (Str.ofString "\n")).map V.str))) := Same.plus s1 hll
    have fll : H ll = none := s1.free hll
    generalize upd H1 ll (.lst ((Txt.split (str (t.map Jb.sg)) (Str.ofString "\n")).map V.str)) = H2 at hlst k1 ⊢
    generalize (Mo.linesOf (t.map Jb.sg)).1 = L at *
    generalize (Mo.linesOf (t.map Jb.sg)).2 = Rr at *
    -- the last one is taken off
    refine ⟨_, rfl, .inl ⟨rfl, _, SqL.of hlst⟩, ll, _, sV Rr, rfl, rfl, hlst, by simp, ?_⟩
    have edl : ((L ++ [Rr]).map sV).dropLast = L.map sV := by rw [List.map_append]; simp
    rw [edl]
    have k2 : Same H (upd H2 ll (.lst (L.map sV))) := Same.own k1 fll
    have hL : (upd H2 ll (.lst (L.map sV))) ll = some (.lst (L.map sV)) := upd_same
    generalize upd H2 ll (.lst (L.map sV)) = H3 at k2 hL ⊢
    -- the draft
    refine fun x dx nx ndx nex => ⟨x, dx, rfl, upd_same, fun H4 l r aa wr m1 fl fr fa fw o1 ol or oa ow n1 n2 n3 => ⟨rfl, ?_⟩⟩
    have k4 : Same H3 H4 := fun b o e => m1 b o (ne_of_none e nx) (by rw [upd_ne (ne_of_none e nx), upd_ne (ne_of_none e ndx)]; exact e)
    have un : ∀ {b : Addr}, (upd (upd H3 dx (.own x)) x (.ins D dx [])) b = none → H3 b = none := fun {b} hb => by
      cases e : H3 b with
      | none => rfl
      | some o => rw [same_made nx ndx b o e] at hb; cases hb
    have da4 : DraftAt D H3 H4 x Mo.Case.none_ := ⟨⟨dx, l, r, aa, wr, [], [], [], [], ⟨o1, ol, .nil, or, .nil, oa, List.nodup_nil, ow, n1, n2, n3⟩, ⟨nx, un fl, un fr, un fa, un fw⟩, fun y => by
      have : Mo.Case.none_.atoms = [] := by decide
      rw [this], Jb.WInv.nil⟩, Jb.Good.none, k4⟩
    refine ⟨_, rfl, ll, rfl, ⟨_, SqL.of (k4 _ _ hL)⟩, ?_⟩
    refine for_list (K := K) (a := ll) (xs := L.map sV) (fun i σ H5 => ∃ v5 v6 c, ∃ pl : Int, σ = [some (.ref a), some (.ref ll), some (sV Rr), some (.ref x), some (.int pl), v5, v6] ∧ DraftAt D H3 H5 x c ∧ Jb.ReadsTo L i c)
      ⟨none, none, _, 0, rfl, da4, Jb.reads0 L⟩ (fun i σ H5 _ ⟨_, _, _, _, _, da, _⟩ => SqL.of (da.s _ _ hL)) ?_ ?_
    · rintro i y σ H5 hi ⟨v5, v6, c, pl, rfl, da, rd⟩
      rw [List.getElem?_map] at hi
      cases ei : L[i]? with
      | none => rw [ei] at hi; cases hi
      | some b =>
        rw [ei] at hi
        obtain rfl : y = sV b := (Option.some.inj hi).symm
        have hb : b.length ≤ 8300 := by
          have := hsz.2 b (List.mem_append.mpr (.inl (List.mem_of_getElem? ei)))
          simp at this; omega
        refine ⟨_, rfl, _, rfl, H3, x, c, b, rfl, by omega, da, fun kind H6 hk s6 hbad => ?_, fun H6 ln hl hw da6 => ?_⟩
        · refine ⟨_, rfl, rfl, _, rfl, ?_⟩
          have ek : (!decide (V.int kind = V.int 0)) = true := by
            rw [decide_eq_false (fun e => hk (V.int.inj e))]; rfl
          rw [ek]
          refine iteT ?_
          refine ⟨_, rfl, _, rfl, fun y dy ny ndy ney => ⟨y, dy, .int kind, .int pl, .non, rfl, upd_same, rfl, ?_⟩⟩
          rw [upd_upd]
          exact q0 _ y dy kind pl ((k2.trans s6).trans (same_made ny ndy)) hk (hrn (Jb.reads_bad rd ei hbad)) upd_same
        · refine ⟨_, rfl, rfl, _, rfl, ?_⟩
          refine iteF ?_
          refine ⟨_, rfl, _, rfl, str b, rfl, by rw [str_len, sizeLine_eq]; omega, _, _, rfl, rfl, _, _, rfl, rfl, ?_⟩
          exact ⟨some (sV b), some (.int 0), _, _, rfl, da6, Jb.reads_step rd ei hl hw⟩
    · rintro σ H5 ⟨v5, v6, c, pl, rfl, da, rd⟩
      rw [List.length_map] at rd
      obtain ⟨pp, rd⟩ := Jb.reads_end rd
      have hrt := hro rd
      refine ⟨_, rfl, rfl, _, rfl, ?_⟩
      refine ite2 (fun z => ?_) (fun z => ?_)
      · have hne : Rr ≠ [] := fun e => by
          subst e
          have : (!decide (V.str (str []) = V.str (Str.ofString ""))) = true := z
          revert this
          decide +kernel
        rw [if_neg hne] at hrt
        refine ⟨_, rfl, a, _, rfl, .inl ((k2.trans da.s).seq ha), fun y dy ny ndy ney => ⟨y, dy, .int 1, .int _, .non, rfl, upd_same, rfl, ?_⟩⟩
        rw [upd_upd]
        exact q0 _ y dy 1 _ ((k2.trans da.s).trans (same_made ny ndy)) (by decide) hrt upd_same
      · have he : Rr = [] := Decidable.byContradiction fun e => z (by
          have hd : decide (V.str (str Rr) = V.str (Str.ofString "")) = false := decide_eq_false fun e2 => e (by
            have e0 : (Str.ofString "") = str [] := ofS rfl
            rw [e0] at e2
            exact str_inj (V.str.inj e2))
          show (!decide (V.str (str Rr) = V.str (Str.ofString ""))) = true
          rw [hd]; rfl)
        rw [if_pos he] at hrt
        obtain ⟨dx5, l5, r5, a5, w5, ns, kL, kR, rows, pt, fr5, hat, hwi⟩ := da.ex
        refine ⟨_, rfl, x, D, dx5, _, _, rfl, pt.ob, T.cl, T.nA, draftF_atoms _ _ _ _, _, rfl, x, D, dx5, _, _, rfl, pt.ob, T.cl, T.nL, draftF_laws _ _ _ _, _, rfl, x, D, dx5, _, _, rfl, pt.ob, T.cl, T.nR, draftF_rules _ _ _ _, a5, l5, r5, c, rfl, pt.caseD da.gd hat, fun H6 q6 s6 n6 ca => ?_⟩
        refine fun y dy ny ndy ney => ⟨y, dy, .int 0, .int 0, .ref q6, rfl, upd_same, rfl, ?_⟩
        rw [upd_upd]
        have sm : Same H6 (upd (upd H6 dy (.own y)) y (.ins R dy (readingF (.int 0) (.int 0) (.ref q6)))) := same_made ny ndy
        exact q1 _ y dy q6 c (((k2.trans da.s).trans s6).trans sm) hrt upd_same (ca.mono sm)
end
end L2.Jp
end Jp15_
section Jp16_
namespace L2.Jp
open PySem PySem.Spec PyProof.Rows L2 TL L2.JX
structure Cs (mg : Str → Option Value) : Prop where
  text : GV mg "LONGEST_TEXT" (.int 8192)
  out : GV mg "OUT_OF_RANGE" (.int (-1))
  nob : GV mg "NO_BENCH" (.int (-2))
  noc : GV mg "NO_CASE" (.int (-6))
def ofT (t : List Nat) (f : Mo.Case → List Int) : List Int := if 8192 < t.length then [-1] else match Jb.readT t with
  | none => [-6]
  | some c => f c
def refuse (n : Nat) (kind : Int) : Int := if 8192 < n then -1 else if kind = 0 then 0 else -6
section
variable {P : Program} {w : World} {K : PySem.W.Frag} {mg : Str → Option Value} {base : Heap}
def spTextRefusal (K : PySem.W.Frag) (R : Addr) : Sp := fun vs H Q _ => ∃ (a q dx : Addr) (xs : List V) (kind : Int) (pl cs : V), vs = [.ref a, .ref q] ∧ SqL K H a xs ∧ H q = some (.ins R dx (readingF (.int kind) pl cs)) ∧ Q (.int (refuse xs.length kind)) H
theorem scTextRefusal : FnScope ["t", "reading"] ["t", "reading"] (defScope sTextRefusal) := ⟨rfl, rfl, rfl, by decide +kernel, rfl, by decide +kernel, by decide +kernel⟩
theorem ok_text_refusal {R : Addr} (B : Bl mg) (F : Fs mg) (Z : Cs mg) (T : ReadingC K R) (Df : Def K mg "text_refusal" sTextRefusal ["t", "reading"]) : Has P w K mg base 1 "text_refusal" ["t", "reading"] (spTextRefusal K R) := by
  refine Df.has scTextRefusal (fun vs H Q E h => ?_) (fun f cdv A outer s H vs Q E hr h => ?_)
  · obtain ⟨a, q, dx, xs, kind, pl, cs, rfl, _⟩ := h
    rfl
  · obtain ⟨a, q, dx, xs, kind, pl, cs, rfl, ha, hq, qq⟩ := h
    refine ⟨_, pss_cons (ps_if (pt_cmpR op_gt (pe_callB call_len_seq (by rfl) B.len PySem.boot_len (pa_cons (pv 0) pa_nil)) (pe_gv Z.text) (nomark _)) (pss_one (ps_ret (pe_gv Z.out))) pss_nil)
      (pss_cons (ps_if (pt_cmpR op_ne (pe_fld (pv 1) rfl) (pe_gv F.no) (nomark _)) (pss_one (ps_ret (pe_gv Z.noc))) pss_nil)
      (pss_one (ps_ret pe_int))), ?_⟩
    unfold refuse at qq
    refine ⟨_, rfl, a, _, rfl, .inl ha, _, _, rfl, rfl, _, rfl, ?_⟩
    refine ite2 (fun z => ?_) (fun z => ?_)
    · have : 8192 < xs.length := by have := of_decide_eq_true z; omega
      rw [if_pos this] at qq
      exact qq
    · have : ¬ 8192 < xs.length := fun h => z (decide_eq_true (by omega))
      rw [if_neg this] at qq
      refine ⟨_, rfl, q, R, dx, _, _, rfl, hq, T.cl, T.nK, readingF_kind _ _ _, rfl, _, rfl, ?_⟩
      refine ite2 (fun z2 => ?_) (fun z2 => ?_)
      · have : kind ≠ 0 := fun e => by
          subst e
          have : (!decide (V.int 0 = V.int 0)) = true := z2
          simp at this
        rw [if_neg this] at qq
        exact qq
      · have : kind = 0 := Decidable.byContradiction fun e => z2 (by
          show (!decide (V.int kind = V.int 0)) = true
          rw [decide_eq_false fun e2 => e (V.int.inj e2)]; rfl)
        rw [if_pos this] at qq
        exact qq
end
end L2.Jp
end Jp16_
section Jp17_
namespace L2.Jp
open PySem PySem.Spec PyProof.Rows L2 TL L2.JX
section
variable {P : Program} {w : World} {K : PySem.W.Frag} {mg : Str → Option Value} {base : Heap}
def spJudge (K : PySem.W.Frag) : Sp := fun vs H Q _ => ∃ (a b : Addr) (t bs : List Nat), vs = [.ref a, .ref b] ∧ SqL K H a (t.map nV) ∧ SqL K H b (bs.map nV) ∧ t.length ≤ 8300 ∧ bs.length ≤ 3000 ∧
  ∀ H' p, H' p = some (.lst ((ofT t fun c => Jb.judgeOut c.rules.length bs).map V.int)) → Q (.ref p) H'
theorem scJudge : FnScope ["t", "b", "reading", "refusal", "fault"] ["t", "b"] (defScope sJudge) := ⟨rfl, rfl, rfl, by decide +kernel, rfl, by decide +kernel, by decide +kernel⟩
theorem judge_out (n : Nat) (b : List Nat) : Jb.judgeOut n b = match faultOf n b with
    | some f => [-2, f.1, f.2.1, f.2.2]
    | none => [0] := by
  unfold Jb.judgeOut faultOf
  by_cases h : Jb.badTab n b
  · rw [if_pos h]; exact if_pos h
  · rw [if_neg h]; exact if_neg h
theorem ok_judge {C R : Addr} (B : Bl mg) (Z : Cs mg) (TC : CaseC K C) (T : ReadingC K R) (h1 : Has P w K mg base 8 "read_case" ["t"] (spReadCase K C R)) (h2 : Has P w K mg base 1 "text_refusal" ["t", "reading"] (spTextRefusal K R)) (h3 : Has P w K mg base 3 "table_fault" ["rules", "b"] (spTableFault K)) (Df : Def K mg "judge" sJudge ["t", "b"]) :
    Has P w K mg base 9 "judge" ["t", "b"] (spJudge K) := by
  refine Df.has scJudge (fun vs H Q E h => ?_) (fun f cdv A outer s H vs Q E hr h => ?_)
  · obtain ⟨a, b, t, bs, rfl, _⟩ := h
    rfl
  · obtain ⟨a, b, t, bs, rfl, ha, hb, ht, hbs, qq⟩ := h
    refine ⟨_, pss_cons (ps_set (i := 2) scJudge.nd rfl (Or.inl rfl) (pe_callH h1 hr (pa_cons (pv 0) pa_nil)))
      (pss_cons (ps_set (i := 3) scJudge.nd rfl (Or.inl rfl) (pe_callH (h2.mono (k := 8)) hr (pa_cons (pv 0) (pa_cons (pv 2) pa_nil))))
      (pss_cons (ps_if (pt_cmpR op_ne (pv 3) pe_int (nomark _)) (pss_one (ps_ret (pe_lst (pa_cons (pv 3) pa_nil)))) pss_nil)
      (pss_cons (ps_set (i := 4) scJudge.nd rfl (Or.inl rfl) (pe_callH (h3.mono (k := 8)) hr (pa_cons (pe_callB call_len_seq (by rfl) B.len PySem.boot_len (pa_cons (pe_fld (pe_fld (pv 2) rfl) rfl) pa_nil)) (pa_cons (pv 1) pa_nil))))
      (pss_cons (ps_if (pt_cmp (pc_isN (pv 4))) (pss_one (ps_ret (pe_lst (pa_cons pe_int pa_nil)))) pss_nil)
      (pss_one (ps_ret (pe_op op_cat (pe_lst (pa_cons (pe_gv Z.nob) pa_nil)) (pv 4)))))))), ?_⟩
    unfold ofT at qq
    refine ⟨_, rfl, a, t, rfl, ha, ht, fun H1 q1 dx kind pl s1 hk hn hq => ?_, fun H1 q1 dx qc c s1 hc hq ca => ?_⟩
    · rw [hn] at qq
      refine ⟨_, rfl, _, rfl, a, q1, dx, _, kind, _, _, rfl, s1.seq ha, hq, ?_⟩
      rw [List.length_map]
      have er : (if 8192 < t.length then [(-1 : Int)] else [-6]) = [refuse t.length kind] := by
        unfold refuse
        rw [if_neg hk]
        split <;> rfl
      have hne : refuse t.length kind ≠ 0 := by
        unfold refuse
        rw [if_neg hk]
        split <;> decide
      have qq : ∀ H' p, H' p = some (.lst ([refuse t.length kind].map V.int)) → Q (.ref p) H' := by rw [← er]; exact qq
      refine ⟨_, rfl, rfl, _, rfl, ?_⟩
      have ek : (!decide (V.int (refuse t.length kind) = V.int 0)) = true := by
        rw [decide_eq_false (fun e => hne (V.int.inj e))]; rfl
      rw [ek]
      refine iteT ?_
      exact ⟨_, rfl, by show 1 ≤ sizeLine; decide, fun p hp => qq _ p upd_same⟩
    · rw [hc] at qq
      refine ⟨_, rfl, _, rfl, a, q1, dx, _, 0, _, _, rfl, s1.seq ha, hq, ?_⟩
      rw [List.length_map]
      by_cases hl : 8192 < t.length
      · rw [if_pos hl] at qq
        have e : refuse t.length 0 = -1 := if_pos hl
        rw [e]
        refine ⟨_, rfl, rfl, _, rfl, ?_⟩
        refine iteT ?_
        exact ⟨_, rfl, by show 1 ≤ sizeLine; decide, fun p hp => qq _ p upd_same⟩
      · rw [if_neg hl] at qq
        have qq : ∀ H' p, H' p = some (.lst ((Jb.judgeOut c.rules.length bs).map V.int)) → Q (.ref p) H' := qq
        have e : refuse t.length 0 = 0 := by unfold refuse; rw [if_neg hl]; rfl
        rw [e]
        refine ⟨_, rfl, rfl, _, rfl, ?_⟩
        refine iteF ?_
        obtain ⟨dc, aa, al, ar, ls, rs, c1, c2, c3, c4, c5, c6, c7⟩ := ca.ex
        have gd := (Jb.readT_ok hc).1
        have hrl : rs.length = c.rules.length := by
          rw [paired_len c7, Jb.form_numbered]
          show (c.form.rules.map _).length = _
          rw [List.length_map, Jb.form_rules_len]
        have hnr := gd.nr
        refine ⟨_, rfl, q1, R, dx, _, _, rfl, hq, T.cl, T.nC, readingF_case _ _ _, qc, C, dc, _, _, rfl, c1, TC.cl, TC.nR, caseF_rules _ _ _, ar, _, rfl, .inl (SqL.of c5), _, rfl, b, c.rules.length, bs, ?_, s1.seq hb, hbs, by omega, fun H2 s2 hf => ?_, fun H2 p f s2 hf hp0 hp => ?_⟩
        · rw [List.length_map, hrl]; rfl
        · rw [judge_out, hf] at qq
          refine ⟨_, rfl, _, rfl, ?_⟩
          refine iteT ?_
          exact ⟨by show 1 ≤ sizeLine; decide, fun p hp => qq _ p upd_same⟩
        · rw [judge_out, hf] at qq
          refine ⟨_, rfl, _, rfl, ?_⟩
          refine iteF ?_
          refine ⟨by show 1 ≤ sizeLine; decide, fun l1 hl1 => ?_⟩
          exact ⟨_, rfl, l1, p, _, _, rfl, rfl, upd_same, by rw [upd_ne (ne_of_none hp hl1)]; exact hp, by show 1 + 3 ≤ sizeLine; decide, fun p2 hp2 => qq _ p2 upd_same⟩
end
end L2.Jp
end Jp17_
section Jk_
namespace L2.JX
open PySem PySem.Spec PyProof.Rows L2 TL
section
variable {P : Program} {w : World} {K : PySem.W.Frag} {h : Heap} {mg : Str → Option Value}
theorem def_mk {x : Str} {st : Stmt} {ps : List Str} {f : Addr} {oc : Value} {od an : Option Addr} {osl : Array (Option Value)} {kV doc pm cdv ct : Value} (X : K.In h) (G : h.Ns mainGlobals mg) (a : PySem.W.nsIn K mainGlobals x = some (some (.ref f)))
    (l : K.lookup f = some ⟨oc, od, .func (PySem.W.fnOf x x (defArgs st) (defBody st) (defScope st) .none kV doc pm an cdv ct), osl⟩) (c : PySem.W.codeIn K cdv x = true) (k : PySem.W.keepIn K (.ref f) = true)
    (b : ∀ (kV doc pm : Value) (an : Option Addr) (cdv ct : Value) (us : List Value), us.length = ps.length → bindArgs (PySem.W.fnOf x x (defArgs st) (defBody st) (defScope st) .none kV doc pm an cdv ct) ⟨us, []⟩ = pure (ps.zip us)) : Def K mg x st ps :=
  ⟨f, _, fun_mk l c k, PySem.W.mg_of X G a, (fun_mk (st := st) l c k).binds b⟩
theorem Has.at {base : Heap} {k : Nat} {x : Str} {ps : List Str} {sp : Sp} {fa : Addr} (D : Has P w K mg base k x ps sp) (hfa : mg x = some (.ref fa)) : ∃ fd : FuncData, Binds K fd ps [] ∧ FnOk P w K mg base CX0 k fa fd ps sp := by
  obtain ⟨f, fd, hm, _, hb, ok⟩ := D.ex
  have e : f = fa := by
    have := hm.symm.trans hfa
    injection this with this
    injection this
  subst e
  exact ⟨fd, hb, ok⟩
theorem cls_mk {C : Addr} (pg : PySem.W.plainGet K C Str.empty = true) (hd : PySem.W.hasDictIn K C = true) (po : PySem.W.plainOver K C = true) (sa : PySem.W.findIn K (.ref C) "__setattr__" = some (some (.builtin "object.__setattr__"))) : Cls K C := ⟨pg, hd, po, sa⟩
theorem clsAt_mk {x qual : Str} {st : Stmt} {ps : List Str} {C f : Addr} {oc : Value} {od an : Option Addr} {osl : Array (Option Value)} {kV doc pm cdv ct : Value} (X : K.In h) (G : h.Ns mainGlobals mg) (cl : Cls K C) (aC : PySem.W.nsIn K mainGlobals x = some (some (.ref C)))
    (a : PySem.W.findIn K (.ref C) "__init__" = some (some (.ref f))) (i : PySem.W.isFn K (.ref f) = true) (l : K.lookup f = some ⟨oc, od, .func (PySem.W.fnOf "__init__" qual (defArgs st) (defBody st) (defScope st) .none kV doc pm an cdv ct), osl⟩) (c : PySem.W.codeIn K cdv qual = true) (k : PySem.W.keepIn K (.ref f) = true)
    (mk : PySem.W.makesIn K C = true) (kc : PySem.W.keepIn K (.ref C) = true)
    (b : ∀ (kV doc pm : Value) (an : Option Addr) (cdv ct : Value) (us : List Value), us.length = ps.length → bindArgs (PySem.W.fnOf "__init__" qual (defArgs st) (defBody st) (defScope st) .none kV doc pm an cdv ct) ⟨us, []⟩ = pure (ps.zip us)) : ClsAt K mg x qual st ps C :=
  ⟨cl, PySem.W.mg_of X G aC, f, _, ⟨mk, a, i, kc⟩, fun_mk l c k, (fun_mk (st := st) l c k).binds b⟩
theorem gv_int {x : Str} {i : Int} {t : Tok} (X : K.In h) (G : h.Ns mainGlobals mg) (a : PySem.W.nsIn K mainGlobals x = some (some (.int i t))) : GV mg x (.int i) := ⟨_, PySem.W.mg_of X G a, t, rfl⟩
theorem gv_str {x v : Str} {t : Tok} (X : K.In h) (G : h.Ns mainGlobals mg) (a : PySem.W.nsIn K mainGlobals x = some (some (.str v t))) : GV mg x (.str v) := ⟨_, PySem.W.mg_of X G a, t, rfl⟩
theorem no_name {x : Str} (X : K.In h) (G : h.Ns mainGlobals mg) (a : PySem.W.nsIn K mainGlobals x = some none) : mg x = none := PySem.W.mg_none_of X G a
theorem md_two {a : Addr} {x1 x2 v1 v2 : Str} {t1 t2 t3 t4 : Tok} {ep : Nat} (l : K.lookup a = some ⟨.type "dict", none, .dict #[⟨keyH w (.inr x1), .str x1 t1, .str v1 t2⟩, ⟨keyH w (.inr x2), .str x2 t3, .str v2 t4⟩] ep, #[]⟩) (hs : (a == sysModules) = false) (hne : x1 ≠ x2) :
    MDict P w K a [(.inr x1, .str v1), (.inr x2, .str v2)] := by
  intro h X
  refine ⟨hs, [(.inr x1, .str v1 t2), (.inr x2, .str v2 t4)], .cons ⟨rfl, t2, rfl⟩ (.cons ⟨rfl, t4, rfl⟩ .nil), _, _, ep, X a _ l, ⟨rfl, rfl, rfl⟩, rfl, fun e he => ?_, ?_, ?_⟩
  · have he : e = ⟨keyH w (.inr x1), .str x1 t1, .str v1 t2⟩ ∨ e = ⟨keyH w (.inr x2), .str x2 t3, .str v2 t4⟩ := by simpa using he
    rcases he with rfl | rfl
    · exact ⟨.inr x1, keyIs_str x1 t1, rfl⟩
    · exact ⟨.inr x2, keyIs_str x2 t3, rfl⟩
  · exact .cons (keyIs_str x1 t1) rfl (.cons (keyIs_str x2 t3) rfl .nil)
  · show ([Sum.inr x1, Sum.inr x2] : List Key).Nodup
    simp [hne]
end
end L2.JX
namespace L2.Jp
open PySem PySem.Spec PyProof.Rows L2 TL L2.JX
theorem ar_mk {P : Program} {w : World} {K : PySem.W.Frag} {h : Heap} {mg : Str → Option Value} {a : Addr} {t1 t2 t3 t4 : Tok} {ep : Nat} (X : K.In h) (G : h.Ns mainGlobals mg) (n : PySem.W.nsIn K mainGlobals "ARROWS" = some (some (.ref a)))
    (l : K.lookup a = some ⟨.type "dict", none, .dict #[⟨PyData.keyHash w.params "law", .str "law" t1, .str "->" t2⟩, ⟨PyData.keyHash w.params "rule", .str "rule" t3, .str "=>" t4⟩] ep, #[]⟩) (hs : (a == sysModules) = false) : Ar P w K mg :=
  ⟨a, ⟨_, PySem.W.mg_of X G n, rfl⟩, md_two l hs (by decide +kernel)⟩
end L2.Jp
end Jk_
section Jr_
namespace L2.Jp
open PySem PySem.Spec PyProof.Rows L2 TL L2.JX
structure Text (P : Program) (w : World) (K : PySem.W.Frag) (mg : Str → Option Value) (C D R : Addr) : Prop where
  B : Bl mg
  W : Ws mg
  A : Ar P w K mg
  F : Fs mg
  cC : CaseC K C
  cD : DraftC K D
  cR : ReadingC K R
  iC : ClsAt K mg "Case" "Case.__init__" sCaseInit ["self", "atoms", "laws", "rules"] C
  iD : ClsAt K mg "Draft" "Draft.__init__" sDraftInit ["self"] D
  iR : ClsAt K mg "Reading" "Reading.__init__" sReadingInit ["self", "kind", "place", "case"] R
  d1 : Def K mg "has" sHas ["chosen", "k"]
  d2 : Def K mg "text_of" sTextOf ["numbers"]
  d3 : Def K mg "is_name" sIsName ["word"]
  d4 : Def K mg "is_opposite" sIsOpposite ["literal"]
  d5 : Def K mg "atom_of" sAtomOf ["literal"]
  d6 : Def K mg "is_literal" sIsLiteral ["word"]
  d7 : Def K mg "read_line" sReadLine ["line"]
  d8 : Def K mg "read_weight" sReadWeight ["words"]
  d9 : Def K mg "read_clause" sReadClause ["words"]
  d10 : Def K mg "read_body" sReadBody ["words"]
  d11 : Def K mg "number_case" sNumberCase ["atoms", "laws", "rules"]
  d12 : Def K mg "literal_number" sLiteralNumber ["numbers", "literal"]
  d13 : Def K mg "literal_set" sLiteralSet ["numbers", "literals"]
  d14 : Def K mg "what_follows" sWhatFollows ["case", "chosen"]
  d15 : Def K mg "clashes" sClashes ["case", "chosen"]
  d17 : Def K mg "going_on" sGoingOn ["rows"]
  d18 : Def K mg "some_outweighs_itself" sSomeOutweighsItself ["rows"]
  d19 : Def K mg "read_case" sReadCase ["t"]
  d20 : Def K mg "take_line" sTakeLine ["draft", "line"]
  d21 : Def K mg "take_law" sTakeLaw ["draft", "name", "body", "head"]
  d22 : Def K mg "take_rule" sTakeRule ["draft", "name", "body", "head"]
  d23 : Def K mg "take_clause" sTakeClause ["draft", "likes", "name", "body", "head"]
  d24 : Def K mg "take_weight" sTakeWeight ["draft", "upper", "lower"]
section
variable {P : Program} {w : World} {K : PySem.W.Frag} {mg : Str → Option Value} {base : Heap}
theorem Text.read_case {C D R : Addr} (T : Text P w K mg C D R) : Has P w K mg base 8 "read_case" ["t"] (spReadCase K C R) := by
  have h1 := ok_has (P := P) (w := w) (base := base) T.d1
  have h2 := ok_text_of (P := P) (w := w) (base := base) T.B T.W T.d2
  have h3 := ok_is_name (P := P) (w := w) (base := base) T.B T.W T.d3
  have h4 := ok_is_opposite (P := P) (w := w) (base := base) T.d4
  have h5 := ok_atom_of h4 T.d5
  have h6 := ok_is_literal h5 h3 T.d6
  have h10 := ok_read_body T.B T.W h6 T.d10
  have h8 := ok_read_weight T.B T.W h3 T.d8
  have h9 := ok_read_clause T.B T.A h3 h6 h10 T.d9
  have h7 := ok_read_line T.W T.A h8 h9 T.d7
  have h14 := ok_follows T.B T.cC h1 T.d14
  have h15 := ok_clashes T.B T.cC h14 T.d15
  have h12 := ok_lit_no h4 h5 T.d12
  have h13 := ok_lit_set h12 T.d13
  have h11 := ok_number_case T.B (mk_case T.cC T.iC) h13 T.d11
  have h17 := ok_going_on T.B h1 T.d17
  have h18 := ok_self T.B h1 T.d18
  have h23 := ok_take_clause T.B T.F T.cD h5 T.d23
  have h22 := ok_take_rule T.cD h23 T.d22
  have h21 := ok_take_law T.F T.cD h23 h11 h15 T.d21
  have h24 := ok_take_weight T.B T.F T.cD h17 h18 T.d24
  have h20 := ok_take_line T.W T.F h7 h24 h21 h22 T.d20
  exact ok_read_case T.B T.F T.cD (mk_draft T.cD T.iD) (mk_reading T.cR T.iR) h2 h20 h11 T.d19
end
end L2.Jp
end Jr_
section Je_
namespace L2.JX
open PySem PySem.Spec PyProof.Rows L2 TL
theorem within_list {lo hi : Int} {n m : Nat} {l : List Int} (h : PySem.W.Codec.within (.list n m (.int lo hi)) l = true) : l.length ≤ m ∧ ∀ x ∈ l, lo ≤ x := by
  have h : (decide (n ≤ l.length) && decide (l.length ≤ m) && l.all (PySem.W.Codec.within (.int lo hi))) = true := h
  rw [Bool.and_eq_true, Bool.and_eq_true] at h
  refine ⟨of_decide_eq_true h.1.2, fun x hx => ?_⟩
  have := List.all_eq_true.mp h.2 x hx
  have : (decide (lo ≤ x) && decide (x ≤ hi)) = true := this
  rw [Bool.and_eq_true] at this
  exact of_decide_eq_true this.1
theorem nats_of {l : List Int} (h : ∀ x ∈ l, 0 ≤ x) : l = (l.map Int.toNat).map fun (n : Nat) => (n : Int) := by
  rw [List.map_map]
  exact (List.map_id'' (fun x => rfl) l).symm.trans (List.map_congr_left fun x hx => by
    have := h x hx
    show x = ((x.toNat : Nat) : Int)
    omega)
structure Two (n1 n2 : List Int) : Prop where
  z1 : n1.length ≤ 8300
  z2 : n2.length ≤ 3000
  p1 : ∀ x ∈ n1, 0 ≤ x
  p2 : ∀ x ∈ n2, 0 ≤ x
theorem two_of {lo1 hi1 lo2 hi2 : Int} {m1 m2 : Nat} {l1 l2 : List Int} (h1 : PySem.W.Codec.within (.list m1 8300 (.int 0 hi1)) l1 = true) (h2 : PySem.W.Codec.within (.list m2 3000 (.int 0 hi2)) l2 = true) : Two l1 l2 :=
  ⟨(within_list h1).1, (within_list h2).1, (within_list h1).2, (within_list h2).2⟩
theorem nV_map (l : List Nat) : l.map Jp.nV = (l.map fun (n : Nat) => (n : Int)).map V.int := by rw [List.map_map]; rfl
theorem Two.seq1 {n1 n2 : List Int} (t : Two n1 n2) {K : PySem.W.Frag} {H : Hp} {a : Addr} (h : SqL K H a (n1.map V.int)) : SqL K H a ((n1.map Int.toNat).map Jp.nV) := by
  rw [nV_map, ← nats_of t.p1]; exact h
theorem Two.seq2 {n1 n2 : List Int} (t : Two n1 n2) {K : PySem.W.Frag} {H : Hp} {a : Addr} (h : SqL K H a (n2.map V.int)) : SqL K H a ((n2.map Int.toNat).map Jp.nV) := by
  rw [nV_map, ← nats_of t.p2]; exact h
end L2.JX
namespace L2.Jp
theorem ofT_eq (t : List Int) (f : Mo.Case → List Int) : ofT (t.map Int.toNat) f = Jb.ofText t f := by
  unfold ofT Jb.ofText
  rw [List.length_map]
  try rfl
end L2.Jp
end Je_
namespace L2.Jp
open PySem PySem.Spec PyProof.Rows L2 TL L2.JX
theorem judge_mk {r : Program} {w : World} {K : PySem.W.Frag} {mg : Str → Option Value} {fa C D R : Addr} {h : Heap} (KX : K.In h) (G : h.Ns mainGlobals mg) (hfa : mg "judge" = some (.ref fa))
    (aC : PySem.W.nsIn K mainGlobals "Case" = some (some (.ref C))) (aD : PySem.W.nsIn K mainGlobals "Draft" = some (some (.ref D))) (aR : PySem.W.nsIn K mainGlobals "Reading" = some (some (.ref R)))
    (T : Text r w K mg C D R) (b : Bs mg) (c : Cs mg) (e1 : Def K mg "outweighed_by_any" sOutweighedByAny ["rows", "chosen"]) (e2 : Def K mg "text_refusal" sTextRefusal ["t", "reading"]) (e3 : Def K mg "table_fault" sTableFault ["rules", "b"]) (e4 : Def K mg "judge" sJudge ["t", "b"]) :
    ∀ base : Heap, K.In base → base.Ns mainGlobals mg → ∃ fd : FuncData, Binds K fd ["t", "b"] [] ∧ FnOk r w K mg base CX0 9 fa fd ["t", "b"] (spJudge K) := by
  intro base _ _
  have h1 := ok_has (P := r) (w := w) (base := base) T.d1
  have h2 := ok_any_of T.B h1 e1
  have h3 := ok_table_fault T.B b h1 h2 e3
  have h4 := ok_text_refusal (P := r) (w := w) (base := base) T.B T.F c T.cR e2
  have h5 := ok_judge T.B c T.cC T.cR T.read_case h4 h3 e4
  exact h5.at hfa
end L2.Jp
open PySem PySem.W PyProof.Rows
theorem PySem.W.Fast.tw11673705706976592550 : True := trivial
theorem PySem.W.Fast.tw11369210933258807371 : True := trivial
theorem PySem.W.Fast.tw12799021933894275700 : True := trivial
theorem PySem.W.Fast.tw3194310785504856491 : True := trivial
theorem PySem.W.Fast.tw17186123378672217932 : True := trivial
theorem PySem.W.Fast.tw11723787559688246030 : True := trivial
theorem PySem.W.Fast.tw7773470544810667173 : True := trivial
theorem PySem.W.Fast.tw6465876018839335275 : True := trivial
theorem PySem.W.Fast.tw687397049430644829 : True := trivial
theorem PySem.W.Fast.tw15364827257031776660 : True := trivial
theorem PySem.W.Fast.tw10874401713778104899 : True := trivial
theorem PySem.W.Fast.tw8979840668248406577 : True := trivial
theorem PySem.W.Fast.tw14998063332312763389 : True := trivial
theorem PySem.W.Fast.tw974846218241191836 : True := trivial
theorem PySem.W.Fast.tw13508037729730652634 : True := trivial
theorem PySem.W.Fast.tw111788265652965554 : True := trivial
theorem PySem.W.Fast.tw4529612877025327636 : True := trivial
theorem PySem.W.Fast.tw14968871639289344748 : True := trivial
theorem PySem.W.Fast.tw13662620556138100500 : True := trivial
theorem PySem.W.Fast.tw12621218474163568346 : True := trivial
theorem PySem.W.Fast.tw8511750274660569680 : True := trivial
theorem PySem.W.Fast.tw5595410463924745709 : True := trivial
theorem PySem.W.Fast.tw13590520091901286910 : True := trivial
theorem PySem.W.Fast.tw6687828767204695855 : True := trivial
theorem PySem.W.Fast.tw5798414373448283609 : True := trivial
theorem PySem.W.Fast.tw13710909522808918523 : True := trivial
theorem PySem.W.Fast.tw1306690121212134675 : True := trivial
theorem PySem.W.Fast.tw9198341814034444840 : True := trivial
theorem PySem.W.Fast.tw11927053880611387144 : True := trivial
theorem PySem.W.Fast.tw5211986069201094178 : True := trivial
theorem PySem.W.Fast.tw3589607842378587849 : True := trivial
theorem PySem.W.Fast.tw11444079210907176954 : True := trivial
theorem PySem.W.Fast.tw12086203416953198143 : True := trivial
theorem PySem.W.Fast.tw6781384635152012248 : True := trivial
theorem PySem.W.Fast.tw12871264969030114534 : True := trivial
theorem PySem.W.Fast.tw8909613440740202987 : True := trivial
theorem PySem.W.Fast.tw7650988808979155333 : True := trivial
theorem PySem.W.Fast.tw7347411509229798410 : True := trivial
theorem PySem.W.Fast.tw16185718581410843835 : True := trivial
theorem PySem.W.Fast.tw5267008085310888858 : True := trivial
theorem PySem.W.Fast.tw1743426180650600981 : True := trivial
theorem PySem.W.Fast.tw17123029617865106838 : True := trivial
theorem PySem.W.Fast.tw17550212491953481253 : True := trivial
theorem PySem.W.Fast.tw12854583252265851373 : True := trivial
theorem PySem.W.Fast.tw1702896621297591417 : True := trivial
theorem PySem.W.Fast.tw7774490611742048418 : True := trivial
theorem PySem.W.Fast.tw12009208304054918393 : True := trivial
theorem PySem.W.Fast.tw6536765093937002903 : True := trivial
theorem PySem.W.Fast.tw14175860993621475682 : True := trivial
theorem PySem.W.Fast.tw4289565929026599299 : True := trivial
theorem PySem.W.Fast.tw14673568019509690899 : True := trivial
theorem PySem.W.Fast.tw7716440490559055690 : True := trivial
theorem PySem.W.Fast.tw10177303344123385615 : True := trivial
theorem PySem.W.Fast.tw12364579699880572649 : True := trivial
theorem PySem.W.Fast.tw5405905217155817969 : True := trivial
theorem PySem.W.Fast.tw11426539468287057759 : True := trivial
theorem PySem.W.Fast.tw15560841828085634007 : True := trivial
theorem PySem.W.Fast.tw52907178662448998 : True := trivial
theorem PySem.W.Fast.tw11392201057310801138 : True := trivial
theorem PySem.W.Fast.tw949452890865428296 : True := trivial
theorem PySem.W.Fast.tw12751872836569832185 : True := trivial
theorem PySem.W.Fast.tw6340354345811454216 : True := trivial
theorem PySem.W.Fast.tw1421440924467692757 : True := trivial
theorem PySem.W.Fast.tw10036293905439467895 : True := trivial
theorem PySem.W.Fast.tw17061763157853796615 : True := trivial
theorem PySem.W.Fast.tw14915266027925812839 : True := trivial
theorem PySem.W.Fast.tw5353265379279589778 : True := trivial
theorem PySem.W.Fast.tw6793637280955682368 : True := trivial
theorem PySem.W.Fast.tw1277187250086216964 : True := trivial
theorem PySem.W.Fast.tw13753823314975528840 : True := trivial
theorem PySem.W.Fast.tw12997324864916472923 : True := trivial
theorem PySem.W.Fast.tw16060761982446342906 : True := trivial
theorem PySem.W.Fast.tw6417979706484327069 : True := trivial
theorem PySem.W.Fast.tw6842799537362052111 : True := trivial
set_option maxRecDepth 100000 in
set_option maxHeartbeats 0 in
theorem PySem.Challenge.cw_judgebench_s02_judge_holds : PySem.Challenge.rw_judgebench_s02_judge.Holds := by
  w_on; k_headS; (case hw => exact ⟨[.list [], .list []], by decide +kernel, by decide +kernel⟩)
  k_fillS
  refine L2.JX.walk_os (k := 9) (ps := ["t", "b"]) (sp := L2.Jp.spJudge) (Out := fun pre n1 n2 out => out = PyWqalbv.judge  n1 n2) (Pre := fun pre n1 n2 => (pre = []) ∧ L2.JX.Two n1 n2) (by decide +kernel) ⟨rfl, by decide, by decide⟩ (fun w h Y => PySem.W.kIn_of Y) ?zzenc ?zzF ?zzhps ?zzhsp
  case zzenc =>
    rintro ⟨n1, n2, u⟩ hw hq
    have hw : (PySem.W.Codec.within (.list 0 8300 (.int 0 255)) n1 && (PySem.W.Codec.within (.list 0 3000 (.int 0 4294967295)) n2 && true)) = true := hw
    rw [Bool.and_eq_true, Bool.and_eq_true] at hw
    have t := L2.JX.two_of (lo1 := 0) (lo2 := 0) hw.1 hw.2.1
    refine ⟨[], n1, n2, rfl, Nat.le_of_lt (Nat.lt_of_le_of_lt t.z1 (by decide)), Nat.le_of_lt (Nat.lt_of_le_of_lt t.z2 (by decide)), ⟨rfl, t⟩, fun out ho => ?_⟩
    subst ho
    rfl
  case zzhps =>
    rintro pre n1 n2 ⟨rfl, _⟩
    rfl
  case zzhsp =>
    rintro K H a1 a2 pre n1 n2 ⟨rfl, t⟩ h1 h2
    refine ⟨a1, a2, n1.map Int.toNat, n2.map Int.toNat, rfl, t.seq1 h1, t.seq2 h2, by rw [List.length_map]; exact t.z1, by rw [List.length_map]; exact t.z2, fun H' p hp => ⟨p, _, rfl, hp, ?_⟩⟩
    rw [L2.Jp.ofT_eq, Jb.judge_spec]
  case zzF =>
    intro w mg fa h KX G hmg
    refine' L2.Jp.judge_mk KX G hmg ?zzaC ?zzaD ?zzaR ?zzT ?zzb ?zzc ?zze1 ?zze2 ?zze3 ?zze4
    (case zzaC => k_is); (case zzaD => k_is); (case zzaR => k_is)
    (case zzb => (refine' ⟨?v0_1, ?v1_1, ?v2_1, ?v3_1⟩; (case v0_1 => (refine' L2.JX.gv_int KX G ?ua2; (case ua2 => k_is))); (case v1_1 => (refine' L2.JX.gv_int KX G ?ua3; (case ua3 => k_is))); (case v2_1 => (refine' L2.JX.gv_int KX G ?ua4; (case ua4 => k_is))); (case v3_1 => (refine' L2.JX.gv_int KX G ?ua5; (case ua5 => k_is)))))
    (case zzc => (refine' ⟨?v0_6, ?v1_6, ?v2_6, ?v3_6⟩; (case v0_6 => (refine' L2.JX.gv_int KX G ?ua7; (case ua7 => k_is))); (case v1_6 => (refine' L2.JX.gv_int KX G ?ua8; (case ua8 => k_is))); (case v2_6 => (refine' L2.JX.gv_int KX G ?ua9; (case ua9 => k_is))); (case v3_6 => (refine' L2.JX.gv_int KX G ?ua10; (case ua10 => k_is)))))
    (case zze1 => (refine' L2.JX.def_mk KX G ?ua11 ?ul11 ?uc11 ?uk11 ?ub11; (case ua11 => k_is); (case ul11 => k_is); (case uc11 => k_is); (case uk11 => k_is); (case ub11 => (first | (exact fun _ _ _ _ _ _ us hl => match us, hl with | [_], _ => rfl) | (exact fun _ _ _ _ _ _ us hl => match us, hl with | [_, _], _ => rfl) | (exact fun _ _ _ _ _ _ us hl => match us, hl with | [_, _, _], _ => rfl) | (exact fun _ _ _ _ _ _ us hl => match us, hl with | [_, _, _, _], _ => rfl) | (exact fun _ _ _ _ _ _ us hl => match us, hl with | [_, _, _, _, _], _ => rfl)))))
    (case zze2 => (refine' L2.JX.def_mk KX G ?ua12 ?ul12 ?uc12 ?uk12 ?ub12; (case ua12 => k_is); (case ul12 => k_is); (case uc12 => k_is); (case uk12 => k_is); (case ub12 => (first | (exact fun _ _ _ _ _ _ us hl => match us, hl with | [_], _ => rfl) | (exact fun _ _ _ _ _ _ us hl => match us, hl with | [_, _], _ => rfl) | (exact fun _ _ _ _ _ _ us hl => match us, hl with | [_, _, _], _ => rfl) | (exact fun _ _ _ _ _ _ us hl => match us, hl with | [_, _, _, _], _ => rfl) | (exact fun _ _ _ _ _ _ us hl => match us, hl with | [_, _, _, _, _], _ => rfl)))))
    (case zze3 => (refine' L2.JX.def_mk KX G ?ua13 ?ul13 ?uc13 ?uk13 ?ub13; (case ua13 => k_is); (case ul13 => k_is); (case uc13 => k_is); (case uk13 => k_is); (case ub13 => (first | (exact fun _ _ _ _ _ _ us hl => match us, hl with | [_], _ => rfl) | (exact fun _ _ _ _ _ _ us hl => match us, hl with | [_, _], _ => rfl) | (exact fun _ _ _ _ _ _ us hl => match us, hl with | [_, _, _], _ => rfl) | (exact fun _ _ _ _ _ _ us hl => match us, hl with | [_, _, _, _], _ => rfl) | (exact fun _ _ _ _ _ _ us hl => match us, hl with | [_, _, _, _, _], _ => rfl)))))
    (case zze4 => (refine' L2.JX.def_mk KX G ?ua14 ?ul14 ?uc14 ?uk14 ?ub14; (case ua14 => k_is); (case ul14 => k_is); (case uc14 => k_is); (case uk14 => k_is); (case ub14 => (first | (exact fun _ _ _ _ _ _ us hl => match us, hl with | [_], _ => rfl) | (exact fun _ _ _ _ _ _ us hl => match us, hl with | [_, _], _ => rfl) | (exact fun _ _ _ _ _ _ us hl => match us, hl with | [_, _, _], _ => rfl) | (exact fun _ _ _ _ _ _ us hl => match us, hl with | [_, _, _, _], _ => rfl) | (exact fun _ _ _ _ _ _ us hl => match us, hl with | [_, _, _, _, _], _ => rfl)))))
    case zzT =>
      refine' ⟨?wB_15, ?wW_15, ?wA_15, ?wF_15, ?wcC_15, ?wcD_15, ?wcR_15, ?wiC_15, ?wiD_15, ?wiR_15, ?wd1_15, ?wd2_15, ?wd3_15, ?wd4_15, ?wd5_15, ?wd6_15, ?wd7_15, ?wd8_15, ?wd9_15, ?wd10_15, ?wd11_15, ?wd12_15, ?wd13_15, ?wd14_15, ?wd15_15, ?wd17_15, ?wd18_15, ?wd19_15, ?wd20_15, ?wd21_15, ?wd22_15, ?wd23_15, ?wd24_15⟩
      (case wB_15 => (refine' ⟨?v0_16, ?v1_16, ?v2_16, ?v3_16, ?v4_16, ?v5_16, ?v6_16, ?v7_16, ?v8_16, ?v9_16⟩; (case v0_16 => (refine' L2.JX.no_name KX G ?ua17; (case ua17 => k_is))); (case v1_16 => (refine' L2.JX.no_name KX G ?ua18; (case ua18 => k_is))); (case v2_16 => (refine' L2.JX.no_name KX G ?ua19; (case ua19 => k_is))); (case v3_16 => (refine' L2.JX.no_name KX G ?ua20; (case ua20 => k_is))); (case v4_16 => (refine' L2.JX.no_name KX G ?ua21; (case ua21 => k_is))); (case v5_16 => (refine' L2.JX.no_name KX G ?ua22; (case ua22 => k_is))); (case v6_16 => (refine' L2.JX.no_name KX G ?ua23; (case ua23 => k_is))); (case v7_16 => (refine' L2.JX.no_name KX G ?ua24; (case ua24 => k_is))); (case v8_16 => (refine' L2.JX.no_name KX G ?ua25; (case ua25 => k_is))); (case v9_16 => (refine' L2.JX.no_name KX G ?ua26; (case ua26 => k_is)))))
      (case wW_15 => (refine' ⟨?v0_27, ?v1_27, ?v2_27, ?v3_27, ?v4_27, ?v5_27, ?v6_27, ?v7_27⟩; (case v0_27 => (refine' L2.JX.gv_str KX G ?ua28; (case ua28 => k_is))); (case v1_27 => (refine' L2.JX.gv_str KX G ?ua29; (case ua29 => k_is))); (case v2_27 => (refine' L2.JX.gv_str KX G ?ua30; (case ua30 => k_is))); (case v3_27 => (refine' L2.JX.gv_str KX G ?ua31; (case ua31 => k_is))); (case v4_27 => (refine' L2.JX.gv_int KX G ?ua32; (case ua32 => k_is))); (case v5_27 => (refine' L2.JX.gv_int KX G ?ua33; (case ua33 => k_is))); (case v6_27 => (refine' L2.JX.gv_str KX G ?ua34; (case ua34 => k_is))); (case v7_27 => (refine' L2.JX.gv_str KX G ?ua35; (case ua35 => k_is)))))
      (case wA_15 => (refine' L2.Jp.ar_mk KX G ?y1_36 ?y2_36 ?y3_36; (case y1_36 => k_is); (case y2_36 => k_is); (case y3_36 => decide)))
      (case wF_15 => (refine' ⟨?v0_37, ?v1_37, ?v2_37, ?v3_37, ?v4_37, ?v5_37, ?v6_37, ?v7_37, ?v8_37, ?v9_37, ?v10_37⟩; (case v0_37 => (refine' L2.JX.gv_int KX G ?ua38; (case ua38 => k_is))); (case v1_37 => (refine' L2.JX.gv_int KX G ?ua39; (case ua39 => k_is))); (case v2_37 => (refine' L2.JX.gv_int KX G ?ua40; (case ua40 => k_is))); (case v3_37 => (refine' L2.JX.gv_int KX G ?ua41; (case ua41 => k_is))); (case v4_37 => (refine' L2.JX.gv_int KX G ?ua42; (case ua42 => k_is))); (case v5_37 => (refine' L2.JX.gv_int KX G ?ua43; (case ua43 => k_is))); (case v6_37 => (refine' L2.JX.gv_int KX G ?ua44; (case ua44 => k_is))); (case v7_37 => (refine' L2.JX.gv_int KX G ?ua45; (case ua45 => k_is))); (case v8_37 => (refine' L2.JX.gv_int KX G ?ua46; (case ua46 => k_is))); (case v9_37 => (refine' L2.JX.gv_int KX G ?ua47; (case ua47 => k_is))); (case v10_37 => (refine' L2.JX.gv_int KX G ?ua48; (case ua48 => k_is)))))
      (case wcC_15 => (refine' ⟨?v0_49, ?v1_49, ?v2_49, ?v3_49⟩; (case v0_49 => (refine' L2.JX.cls_mk ?upg50 ?uhd50 ?upo50 ?usa50; (case upg50 => k_is); (case uhd50 => k_is); (case upo50 => k_is); (case usa50 => k_is))); (case v1_49 => (show PySem.W.findIn _ _ _ = _; k_is)); (case v2_49 => (show PySem.W.findIn _ _ _ = _; k_is)); (case v3_49 => (show PySem.W.findIn _ _ _ = _; k_is))))
      (case wcD_15 => (refine' ⟨?v0_51, ?v1_51, ?v2_51, ?v3_51, ?v4_51⟩; (case v0_51 => (refine' L2.JX.cls_mk ?upg52 ?uhd52 ?upo52 ?usa52; (case upg52 => k_is); (case uhd52 => k_is); (case upo52 => k_is); (case usa52 => k_is))); (case v1_51 => (show PySem.W.findIn _ _ _ = _; k_is)); (case v2_51 => (show PySem.W.findIn _ _ _ = _; k_is)); (case v3_51 => (show PySem.W.findIn _ _ _ = _; k_is)); (case v4_51 => (show PySem.W.findIn _ _ _ = _; k_is))))
      (case wcR_15 => (refine' ⟨?v0_53, ?v1_53, ?v2_53, ?v3_53⟩; (case v0_53 => (refine' L2.JX.cls_mk ?upg54 ?uhd54 ?upo54 ?usa54; (case upg54 => k_is); (case uhd54 => k_is); (case upo54 => k_is); (case usa54 => k_is))); (case v1_53 => (show PySem.W.findIn _ _ _ = _; k_is)); (case v2_53 => (show PySem.W.findIn _ _ _ = _; k_is)); (case v3_53 => (show PySem.W.findIn _ _ _ = _; k_is))))
      (case wiC_15 => (refine' L2.JX.clsAt_mk KX G ?ucl55 ?uaC55 ?ua55 ?ui55 ?ul55 ?uc55 ?uk55 ?umk55 ?ukc55 ?ub55; (case ucl55 => (refine' L2.JX.cls_mk ?upg56 ?uhd56 ?upo56 ?usa56; (case upg56 => k_is); (case uhd56 => k_is); (case upo56 => k_is); (case usa56 => k_is))); (case uaC55 => k_is); (case ua55 => k_is); (case ui55 => k_is); (case ul55 => k_is); (case uc55 => k_is); (case uk55 => k_is); (case umk55 => k_is); (case ukc55 => k_is); (case ub55 => (exact fun _ _ _ _ _ _ us hl => match us, hl with | [_, _, _, _], _ => rfl))))
      (case wiD_15 => (refine' L2.JX.clsAt_mk KX G ?ucl57 ?uaC57 ?ua57 ?ui57 ?ul57 ?uc57 ?uk57 ?umk57 ?ukc57 ?ub57; (case ucl57 => (refine' L2.JX.cls_mk ?upg58 ?uhd58 ?upo58 ?usa58; (case upg58 => k_is); (case uhd58 => k_is); (case upo58 => k_is); (case usa58 => k_is))); (case uaC57 => k_is); (case ua57 => k_is); (case ui57 => k_is); (case ul57 => k_is); (case uc57 => k_is); (case uk57 => k_is); (case umk57 => k_is); (case ukc57 => k_is); (case ub57 => (exact fun _ _ _ _ _ _ us hl => match us, hl with | [_], _ => rfl))))
      (case wiR_15 => (refine' L2.JX.clsAt_mk KX G ?ucl59 ?uaC59 ?ua59 ?ui59 ?ul59 ?uc59 ?uk59 ?umk59 ?ukc59 ?ub59; (case ucl59 => (refine' L2.JX.cls_mk ?upg60 ?uhd60 ?upo60 ?usa60; (case upg60 => k_is); (case uhd60 => k_is); (case upo60 => k_is); (case usa60 => k_is))); (case uaC59 => k_is); (case ua59 => k_is); (case ui59 => k_is); (case ul59 => k_is); (case uc59 => k_is); (case uk59 => k_is); (case umk59 => k_is); (case ukc59 => k_is); (case ub59 => (exact fun _ _ _ _ _ _ us hl => match us, hl with | [_, _, _, _], _ => rfl))))
      (case wd1_15 => (refine' L2.JX.def_mk KX G ?ua61 ?ul61 ?uc61 ?uk61 ?ub61; (case ua61 => k_is); (case ul61 => k_is); (case uc61 => k_is); (case uk61 => k_is); (case ub61 => (exact fun _ _ _ _ _ _ us hl => match us, hl with | [_, _], _ => rfl))))
      (case wd2_15 => (refine' L2.JX.def_mk KX G ?ua62 ?ul62 ?uc62 ?uk62 ?ub62; (case ua62 => k_is); (case ul62 => k_is); (case uc62 => k_is); (case uk62 => k_is); (case ub62 => (exact fun _ _ _ _ _ _ us hl => match us, hl with | [_], _ => rfl))))
      (case wd3_15 => (refine' L2.JX.def_mk KX G ?ua63 ?ul63 ?uc63 ?uk63 ?ub63; (case ua63 => k_is); (case ul63 => k_is); (case uc63 => k_is); (case uk63 => k_is); (case ub63 => (exact fun _ _ _ _ _ _ us hl => match us, hl with | [_], _ => rfl))))
      (case wd4_15 => (refine' L2.JX.def_mk KX G ?ua64 ?ul64 ?uc64 ?uk64 ?ub64; (case ua64 => k_is); (case ul64 => k_is); (case uc64 => k_is); (case uk64 => k_is); (case ub64 => (exact fun _ _ _ _ _ _ us hl => match us, hl with | [_], _ => rfl))))
      (case wd5_15 => (refine' L2.JX.def_mk KX G ?ua65 ?ul65 ?uc65 ?uk65 ?ub65; (case ua65 => k_is); (case ul65 => k_is); (case uc65 => k_is); (case uk65 => k_is); (case ub65 => (exact fun _ _ _ _ _ _ us hl => match us, hl with | [_], _ => rfl))))
      (case wd6_15 => (refine' L2.JX.def_mk KX G ?ua66 ?ul66 ?uc66 ?uk66 ?ub66; (case ua66 => k_is); (case ul66 => k_is); (case uc66 => k_is); (case uk66 => k_is); (case ub66 => (exact fun _ _ _ _ _ _ us hl => match us, hl with | [_], _ => rfl))))
      (case wd7_15 => (refine' L2.JX.def_mk KX G ?ua67 ?ul67 ?uc67 ?uk67 ?ub67; (case ua67 => k_is); (case ul67 => k_is); (case uc67 => k_is); (case uk67 => k_is); (case ub67 => (exact fun _ _ _ _ _ _ us hl => match us, hl with | [_], _ => rfl))))
      (case wd8_15 => (refine' L2.JX.def_mk KX G ?ua68 ?ul68 ?uc68 ?uk68 ?ub68; (case ua68 => k_is); (case ul68 => k_is); (case uc68 => k_is); (case uk68 => k_is); (case ub68 => (exact fun _ _ _ _ _ _ us hl => match us, hl with | [_], _ => rfl))))
      (case wd9_15 => (refine' L2.JX.def_mk KX G ?ua69 ?ul69 ?uc69 ?uk69 ?ub69; (case ua69 => k_is); (case ul69 => k_is); (case uc69 => k_is); (case uk69 => k_is); (case ub69 => (exact fun _ _ _ _ _ _ us hl => match us, hl with | [_], _ => rfl))))
      (case wd10_15 => (refine' L2.JX.def_mk KX G ?ua70 ?ul70 ?uc70 ?uk70 ?ub70; (case ua70 => k_is); (case ul70 => k_is); (case uc70 => k_is); (case uk70 => k_is); (case ub70 => (exact fun _ _ _ _ _ _ us hl => match us, hl with | [_], _ => rfl))))
      (case wd11_15 => (refine' L2.JX.def_mk KX G ?ua71 ?ul71 ?uc71 ?uk71 ?ub71; (case ua71 => k_is); (case ul71 => k_is); (case uc71 => k_is); (case uk71 => k_is); (case ub71 => (exact fun _ _ _ _ _ _ us hl => match us, hl with | [_, _, _], _ => rfl))))
      (case wd12_15 => (refine' L2.JX.def_mk KX G ?ua72 ?ul72 ?uc72 ?uk72 ?ub72; (case ua72 => k_is); (case ul72 => k_is); (case uc72 => k_is); (case uk72 => k_is); (case ub72 => (exact fun _ _ _ _ _ _ us hl => match us, hl with | [_, _], _ => rfl))))
      (case wd13_15 => (refine' L2.JX.def_mk KX G ?ua73 ?ul73 ?uc73 ?uk73 ?ub73; (case ua73 => k_is); (case ul73 => k_is); (case uc73 => k_is); (case uk73 => k_is); (case ub73 => (exact fun _ _ _ _ _ _ us hl => match us, hl with | [_, _], _ => rfl))))
      (case wd14_15 => (refine' L2.JX.def_mk KX G ?ua74 ?ul74 ?uc74 ?uk74 ?ub74; (case ua74 => k_is); (case ul74 => k_is); (case uc74 => k_is); (case uk74 => k_is); (case ub74 => (exact fun _ _ _ _ _ _ us hl => match us, hl with | [_, _], _ => rfl))))
      (case wd15_15 => (refine' L2.JX.def_mk KX G ?ua75 ?ul75 ?uc75 ?uk75 ?ub75; (case ua75 => k_is); (case ul75 => k_is); (case uc75 => k_is); (case uk75 => k_is); (case ub75 => (exact fun _ _ _ _ _ _ us hl => match us, hl with | [_, _], _ => rfl))))
      (case wd17_15 => (refine' L2.JX.def_mk KX G ?ua76 ?ul76 ?uc76 ?uk76 ?ub76; (case ua76 => k_is); (case ul76 => k_is); (case uc76 => k_is); (case uk76 => k_is); (case ub76 => (exact fun _ _ _ _ _ _ us hl => match us, hl with | [_], _ => rfl))))
      (case wd18_15 => (refine' L2.JX.def_mk KX G ?ua77 ?ul77 ?uc77 ?uk77 ?ub77; (case ua77 => k_is); (case ul77 => k_is); (case uc77 => k_is); (case uk77 => k_is); (case ub77 => (exact fun _ _ _ _ _ _ us hl => match us, hl with | [_], _ => rfl))))
      (case wd19_15 => (refine' L2.JX.def_mk KX G ?ua78 ?ul78 ?uc78 ?uk78 ?ub78; (case ua78 => k_is); (case ul78 => k_is); (case uc78 => k_is); (case uk78 => k_is); (case ub78 => (exact fun _ _ _ _ _ _ us hl => match us, hl with | [_], _ => rfl))))
      (case wd20_15 => (refine' L2.JX.def_mk KX G ?ua79 ?ul79 ?uc79 ?uk79 ?ub79; (case ua79 => k_is); (case ul79 => k_is); (case uc79 => k_is); (case uk79 => k_is); (case ub79 => (exact fun _ _ _ _ _ _ us hl => match us, hl with | [_, _], _ => rfl))))
      (case wd21_15 => (refine' L2.JX.def_mk KX G ?ua80 ?ul80 ?uc80 ?uk80 ?ub80; (case ua80 => k_is); (case ul80 => k_is); (case uc80 => k_is); (case uk80 => k_is); (case ub80 => (exact fun _ _ _ _ _ _ us hl => match us, hl with | [_, _, _, _], _ => rfl))))
      (case wd22_15 => (refine' L2.JX.def_mk KX G ?ua81 ?ul81 ?uc81 ?uk81 ?ub81; (case ua81 => k_is); (case ul81 => k_is); (case uc81 => k_is); (case uk81 => k_is); (case ub81 => (exact fun _ _ _ _ _ _ us hl => match us, hl with | [_, _, _, _], _ => rfl))))
      (case wd23_15 => (refine' L2.JX.def_mk KX G ?ua82 ?ul82 ?uc82 ?uk82 ?ub82; (case ua82 => k_is); (case ul82 => k_is); (case uc82 => k_is); (case uk82 => k_is); (case ub82 => (exact fun _ _ _ _ _ _ us hl => match us, hl with | [_, _, _, _, _], _ => rfl))))
      (case wd24_15 => (refine' L2.JX.def_mk KX G ?ua83 ?ul83 ?uc83 ?uk83 ?ub83; (case ua83 => k_is); (case ul83 => k_is); (case uc83 => k_is); (case uk83 => k_is); (case ub83 => (exact fun _ _ _ _ _ _ us hl => match us, hl with | [_, _, _], _ => rfl))))
